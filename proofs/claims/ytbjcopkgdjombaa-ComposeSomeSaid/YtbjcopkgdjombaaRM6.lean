/- Part RM6 of this seat's mirrors: functions of the seat's program, and the plain functions that they are; each theorem bears its own conditions. -/
import Derived.Test.YtbjcopkgdjombaaRD
import Derived.Test.YtbjcopkgdjombaaRM4
namespace Go.Proofs.Ytbjcopkgdjombaa
open Go.RowKit
set_option linter.unusedVariables false
set_option linter.unusedSimpArgs false
set_option maxRecDepth 100000
set_option maxHeartbeats 4000000
attribute [local push_cast] Try.results10 Try.results27 Try.results51 Try.results52 Try.results61 Try.results80 Try.results82 Try.results84 Try.results9 vI vB nV sL oR Ui Ze Xt Yg Zn X4 Z2d Z2c Z3g Z3f Xe Yi Zxf Zqt Zqs onW Jt Zil Zg2 Zxg Zxh Zut Zux Zus Zuw Zy4 Zy1 Zuv Zy3 Zy2 Zuu Zyz Zrp evS wok Vi Op.operands Call.operands gop onK onP atK List.all_cons List.all_nil Bool.and_true Bool.true_and Bool.and_self Value.oneCell' List.take_zero List.take_succ_cons List.take_nil List.drop_zero List.drop_succ_cons List.drop_nil List.append_nil Nat.add_zero Nat.zero_add Zb1 Xd ev Vy Zhx Z14 Z13 Z19 Z17 Z18 Z15 Z16 Z12 Zxd Zz8 Z5m Zoi Zji Znq Zit Zty Zlz Zn5 Zoa Zqn Zqk Zn8 Zqm Zql Zn7 Zqi Zn6 Zn9 Zmx Zqj Zqw Zqv Zg3 Zpl Zg4 Zqr Zoe Z2i bLo bHi bMx Zjj Zqq Z7i Zod Zp9 Zlr Zes Z0z Z7l Zpj Z7q Zjh Ybj Zxr Zxv Zxq Zxu Z2y Z2v Z2t Zt1 Zxs Z2x Z2w Zxt Z2u Zog gone Zyl Zrh Zrg pop TK.isAgg Z28 Z3c Z27 Z3b Zyd Z7z Z7w Z3a Z7y Z7x Z29 Z7v G.under G.unders List.getD_cons_zero List.getD_cons_succ List.set_cons_zero List.set_cons_succ List.map_cons List.map_nil List.toList_toArray Array.toList_append Option.toArray_none Option.toArray_some Array.toList_map Option.map_some Option.map_none Option.bind_some Option.bind_none List.getElem?_cons_zero List.getElem?_cons_succ List.getElem?_nil List.nil_append List.cons_append List.replicate_succ List.replicate_zero List.length_cons List.length_nil and_true true_and and_false false_and Bool.true_eq_false Bool.false_eq_true forall_const false_implies implies_true IntKind.bits if_true if_false ite_true ite_false eq_self true_implies false_or or_false or_true true_or not_true_eq_false not_false_eq_true decide_true decide_false decide_eq_true_eq decide_eq_false_iff_not beq_iff_eq bne_iff_ne ne_eq Bool.not_eq_true Bool.not_eq_false beq_eq_false_iff_ne bne_eq_false_iff_eq beq_self_eq_true bne_self_eq_false Option.some.injEq exists_eq_left' exists_eq_left ge_iff_le gt_iff_lt decide_not Bool.not_true Bool.not_false imp_self Z7n cond_true cond_false Yid Yic Bool.not_not Bool.and_false Bool.false_and Bool.or_true Bool.true_or Bool.or_false Bool.false_or Uv Za8 Un K7 Xp Yz Option.join_some Nat.add_assoc Int.toNat_natCast eI eB eS eL Xz Zpk Zof Z2h Z2f Z2g Ybv Yds Zpq Zoy Z3p Z3n Z3o Z53 Zsd Z5g Zs5 Z1v Zmd Z1x List.length_append G.agg.injEq G.row.injEq G.ref.injEq G.val.injEq G.sl.injEq G.tup.injEq Value.int.injEq Value.bool.injEq Value.string.injEq List.cons.injEq exists_and_left exists_const List.flatten_cons List.flatten_nil Int.le_refl Nat.le_refl Ju Y6 Xh Bool.not_eq_true' Bool.not_eq_false' Z41 Ztb Z9a Z9e Z89 Z9d Yfo Yfj List.size_toArray Zvu Zyo G.ren G.rens Z0i Zl8 Z3v Z1z Z10 Zy0 Z9f Zia G.fn.injEq Zz2 Zz3 Z40 Yfk Zz1 Z9c Yfn Yfm Z9b Z7t Ydd Option.join_none Yk Zbo undef Zqb Arr.len Arr.put_eq Zpp Zuh Zrd Zox Z3m Z3k Z3l onB Ybu Z0y Zyu Zwg Zwh Zwi Zwj Zwk Zwl Zt7 Zuk Zui Zrf Zoz Zuj Zyk Zyj Zyi Zyh Ydr Ygw Z52 Z3h U9 Z5w Zvk Zul Zre Z71 Zyw Zoc Zp8 Zkh Zs3 Zwm Zwn Zwo Zwp Ztf Ztg Zth Zti Ztj Ztk Ztl Zko prT Zhl Yi2 Z8z Z6p Z80 Yi3 Z81 Z6q Z82 Yi4 Z83 Yi5 Z84 Yi6 Z85 Yi7 Z86 Yei Z35 Yej Z36 Yek Z37 Yel Z38 Yem Z39 Yen Z4a Yeo Z4b Yep Z4c Yeq Z4d Yer Z4e Yes Z4f Yet Zwc Z6o Zih Yeu Z4g Zac Z4h Yev Znk Yew Znl Yex Zwd Yey Z4i Zy7 Z4j Zny Z4k Yez Z4l Zhk Z4m Ye0 Z4n Zel Z4o Ye1 Z4p Zfm Z4q Z6r Zwe Ye2 Z4r Ye3 Z4s Ye4 Z4t Yay Z4u Ye5 Z4v Ye6 Z4w Z8a Zy9 Z8b Zza Z8c Zzb Z8d Zzc Z8e Zzd Z8f Zze Z8g Zzf Z8h Zzg Z8i Zzh Z8j Zzi Z8k Zzj Z8l Zzk Z8m Zzl Z8n Zzm Z8o Zzn Z8p Zzo Z8q Zzp Z8r Zzq Z8s Zzr Z8t Zzs Z8u Zzt Z8v Zzu Z8w Zzv Z8x Zzw Z8y Zzx Za Y1 Zr0 Zry Zq0 Zrb Zr2 Zpe Zo4 Zo2 Zrv Zja Zi9 Ziv Zi1 Zjb Zii Zie Zid Zi7 Zg Jq Zf Zi X5 Qg Xb Zfw Zft Zev Zfb Zf1 Zee Zea Zd7 Zfo Zgk Zgi Zgb Zge Zgm Zfr Zfj Zfh Zgg Zlj Zli Zkv Zk5 Zlk Zj8 Zj4 Zj3 Zlh Zu6 Zu5 Zt0 Zuf Zu7 Zrw Zrk Zrj Zuz Y3 Zfx Zfu Zew Zfc Zf2 Zef Zeb Zd8 Zfp Yv Zeh Zeg Zd0 Zd5 Zei Zc4 Zc3 Zc2 Zec Y2 Zfv Zfs Zeu Zfa Zf0 Zed Zd9 Zd6 Zfn Z6 Zgj Zgh Zga Zgd Zgl Zfq Zfi Zfg Zgf Zrz Zrx Zqz Zra Zr1 Zpd Zo3 Zo1 Zru
def V8 (Yt:(Zc→Zc→Option (Zc×Bool))):Prop:=∀ {a0:Zc} {a1:Zc} {r:(Zc×Bool)} {O:Objs} {n:Nat},Yt a0 a1=some r→GTo Try.prog 27 [.agg (Ze a0),.agg (Ze a1)] O n (.tup [.agg (Ze r.1),(vB r.2)]) O n
def Jb (Z3:(Zc→Zc→Option (Zc×Bool))):Prop:=∀ {a0:Zc} {a1:Zc} {r:(Zc×Bool)} {O:Objs} {n:Nat},Z3 a0 a1=some r→GTo Try.prog 51 [.agg (Ze a0),.agg (Ze a1)] O n (.tup [.agg (Ze r.1),(vB r.2)]) O n
def Vj (Yn:(Zc→Zc→Option (Zc×Bool))):Prop:=∀ {a0:Zc} {a1:Zc} {r:(Zc×Bool)} {O:Objs} {n:Nat},Yn a0 a1=some r→GTo Try.prog 52 [.agg (Ze a0),.agg (Ze a1)] O n (.tup [.agg (Ze r.1),(vB r.2)]) O n
def Xa (Zq:((List Zd)→(List Zd)→Option ((List Zd)×Bool))):Prop:=∀ {a0:(List Zd)} {a1:(List Zd)} {r:((List Zd)×Bool)} {O:Objs} {n:Nat},Zq a0 a1=some r→GTo Try.prog 80 [(sL Zi a0),(sL Zi a1),.fn 81 0 [],.fn 82 0 []] O n (.tup [(sL Zi r.1),(vB r.2)]) O n
def Qs (Z0:(Zd→Zd→Option (Zd×Bool))):Prop:=∀ {a0:Zd} {a1:Zd} {r:(Zd×Bool)} {O:Objs} {n:Nat},Z0 a0 a1=some r→GTo Try.prog 82 [.agg (Xt a0),.agg (Xt a1)] O n (.tup [.agg (Xt r.1),(vB r.2)]) O n
def Vk (Yf:(Zy→Option ((List Zh)×Bool))):Prop:=∀ {a0:Zy} {r:((List Zh)×Bool)} {O:Objs} {n:Nat},Yf a0=some r→GTo Try.prog 84 [.agg (Ui a0)] O n (.tup [(sL Zf r.1),(vB r.2)]) O n
theorem Zud {Yt:(Zc→Zc→Option (Zc×Bool))} {Z3:(Zc→Zc→Option (Zc×Bool))} {Yn:(Zc→Zc→Option (Zc×Bool))} {Zq:((List Zd)→(List Zd)→Option ((List Zd)×Bool))} {Z0:(Zd→Zd→Option (Zd×Bool))} {Yf:(Zy→Option ((List Zh)×Bool))} (Ub:V8 Yt) (Ka:Jb Z3) (U4:Vj Yn) (Xo:Xa Zq) (Qt:Qs Z0) (U5:Vk Yf) {a0:Zc} {a1:Zc} {r:(Zc×Bool)} {O:Objs} {n:Nat} (h:Zeo Yt Z3 Yn Zq Z0 Yf a0 a1=some r):GTo Try.prog 27 [.agg (Ze a0),.agg (Ze a1)] O n (.tup [.agg (Ze r.1),(vB r.2)]) O n:=by
 unfold Zeo at h
 refine zFn Try.call27 Try.func27 fun hU hN0 hN => ?_
 show W _ _ _ _ ⟨89,[],[(0,.agg (Ze a0)),(1,.agg (Ze a1))]⟩ (Zv O n []) _
 refine zQ [2,3,4] ?_
 refine Zk ?_
 refine Ya ?_
 refine zQ [2,3,4,10] ?_
 refine Zt (t:=(a0.Kind == 0)) rfl (fun c16 => ?_) (fun c16 => ?_)
 ·replace h:=Zs c16 h
  refine Zk ?_
  refine zRd [4,5] [false,false,true] ?_
  exact Yu [.agg (Ze a1),(vB true)]
 replace h:=Zr c16 h
 refine zQ [2,3,4,15] ?_
 refine Zt (t:=(a1.Kind == 0)) rfl (fun c15 => ?_) (fun c15 => ?_)
 ·replace h:=Zs c15 h
  refine Zk ?_
  refine zRd [4,5] [false,false,true] ?_
  exact Yu [.agg (Ze a0),(vB true)]
 replace h:=Zr c15 h
 refine zQ [2,3,4,20] ?_
 refine Zt (t:=(a0.Kind == 1)) rfl (fun c14 => ?_) (fun c14 => ?_)
 ·replace h:=Zs c14 h
  refine Zk ?_
  obtain ⟨y2,hy2,h⟩:=bC h
  refine zCd (V2 hy2) [2,4,6,7] [true,false,true,true] ?_
  refine Zk ?_
  refine zRd [4,5] [false,false,true,false] ?_
  exact Yu [.agg [(vI 1),(vI a0.Old.Kind),(sL (eI .u64) a0.Old.Words),(sL Za a0.Old.Kids),(vI y2.1.Kind),(sL (eI .u64) y2.1.Words),(sL Za y2.1.Kids),nV,nV,(vI 0),nV],(vB y2.2)]
 replace h:=Zr c14 h
 refine zQ [2,3,4,36] ?_
 refine Zt (t:=(a1.Kind == 1)) rfl (fun c13 => ?_) (fun c13 => ?_)
 ·replace h:=Zs c13 h
  refine Zk ?_
  obtain ⟨y5,hy5,h⟩:=bC h
  obtain ⟨y6,hy6,h⟩:=bC h
  refine Jv Z5 (by kernel_rfl) [.low,.low,.low,.low,.low,.plain,.plain,.plain,.pass,.bar,.plain] (fun i=>i < (n+3)) [0,1,2,3,4,5,6,7,8,9,10] [.low,.low,.low,.low,.low,.plain,.plain,.plain,.pass,.bar,.plain] [] (by kernel_rfl) rfl ?_
  refine zS ?_
  refine zO ?_
  first | refine PCallA.of (fun _ _=>Zh9 hy5) ?_ | refine PCall.of (Zh9 hy5) ?_
  refine zS ?_
  refine zO ?_
  first | refine PCallA.of (fun _ _=>V2 hy6) ?_ | refine PCall.of (V2 hy6) ?_
  refine zS ?_
  refine zO ?_
  refine zDs [3,4,8,9] [false,true,true,true] ?_
  refine zRd [4,5] [false,false,true,false] ?_
  exact Yu [.agg [(vI 1),(vI y6.1.Kind),(sL (eI .u64) y6.1.Words),(sL Za y6.1.Kids),(vI a1.New.Kind),(sL (eI .u64) a1.New.Words),(sL Za a1.New.Kids),nV,nV,(vI 0),nV],(vB y6.2)]
 replace h:=Zr c13 h
 refine zQD [2,3,4,53] [none,none,none] ?_
 refine Zt (t:=(cond (a0.Kind == 2) (a1.Kind == 2) false)) rfl (fun c12 => ?_) (fun c12 => ?_)
 ·replace h:=Zs c12 h
  refine Zk ?_
  obtain ⟨y8,hy8,h⟩:=bC h
  refine zCd (Ka hy8) [4,5] [false,false,true] ?_
  exact Yu [.agg (Ze y8.1),(vB y8.2)]
 replace h:=Zr c12 h
 refine zQD [2,3,4,67] [none,none,none,none,none,none,none,none] ?_
 refine Zt (t:=(cond (cond (a0.Kind == 3) (a1.Kind == 3) false) (a0.List_ == a1.List_) false)) rfl (fun c11 => ?_) (fun c11 => ?_)
 ·replace h:=Zs c11 h
  refine Zk ?_
  obtain ⟨y10,hy10,h⟩:=bC h
  refine zCd (U4 hy10) [4,5] [false,false,true] ?_
  exact Yu [.agg (Ze y10.1),(vB y10.2)]
 replace h:=Zr c11 h
 refine Kq [4] [false,false,true] ?_
 refine Zk ?_
 refine zRd [4,5] [false,false,true] ?_
 exact Yu [.agg [(vI 0),(vI 0),nV,nV,(vI 0),nV,nV,nV,nV,(vI 0),nV],(vB false)]
theorem Znb {Yt:(Zc→Zc→Option (Zc×Bool))} {Z3:(Zc→Zc→Option (Zc×Bool))} {Yn:(Zc→Zc→Option (Zc×Bool))} {Zq:((List Zd)→(List Zd)→Option ((List Zd)×Bool))} {Z0:(Zd→Zd→Option (Zd×Bool))} {Yf:(Zy→Option ((List Zh)×Bool))} (Ub:V8 Yt) (Ka:Jb Z3) (U4:Vj Yn) (Xo:Xa Zq) (Qt:Qs Z0) (U5:Vk Yf) {a0:Zc} {a1:Zc} {r:(Zc×Bool)} {O:Objs} {n:Nat} (h:Gd Yt Z3 Yn Zq Z0 Yf a0 a1=some r):GTo Try.prog 51 [.agg (Ze a0),.agg (Ze a1)] O n (.tup [.agg (Ze r.1),(vB r.2)]) O n:=by
 unfold Gd at h
 refine zFn Try.call51 Try.func51 fun hU hN0 hN => ?_
 show W _ _ _ _ ⟨33,[],[(0,.agg (Ze a0)),(1,.agg (Ze a1))]⟩ (Zv O n []) _
 refine zQ [2,3,4] ?_
 refine Zk ?_
 obtain ⟨y2,hy2,h⟩:=bC h
 refine zCd (Ze7 hy2) [2,3,4,6,7] [true,true,true] ?_
 refine Zk ?_
 obtain ⟨y4,hy4,h⟩:=bC h
 refine zCd (Xo hy4) [4,6,7,8,9] [false,false,true] ?_
 refine Zk ?_
 refine zRo [none] ?_
 refine zG ?_
 refine zD [4,5] [false,false,true] ?_
 exact Yu [.agg [(vI 2),(vI 0),nV,nV,(vI 0),nV,nV,(sL Zg y2.1),(sL Zi y4.1),(vI 0),nV],(vB (cond y2.2 y4.2 false))]
theorem Zsr {Yt:(Zc→Zc→Option (Zc×Bool))} {Z3:(Zc→Zc→Option (Zc×Bool))} {Yn:(Zc→Zc→Option (Zc×Bool))} {Zq:((List Zd)→(List Zd)→Option ((List Zd)×Bool))} {Z0:(Zd→Zd→Option (Zd×Bool))} {Yf:(Zy→Option ((List Zh)×Bool))} (Ub:V8 Yt) (Ka:Jb Z3) (U4:Vj Yn) (Xo:Xa Zq) (Qt:Qs Z0) (U5:Vk Yf) {a0:Zc} {a1:Zc} {r:(Zc×Bool)} {O:Objs} {n:Nat} (h:Zc7 Yt Z3 Yn Zq Z0 Yf a0 a1=some r):GTo Try.prog 52 [.agg (Ze a0),.agg (Ze a1)] O n (.tup [.agg (Ze r.1),(vB r.2)]) O n:=by
 unfold Zc7 at h
 refine zFn Try.call52 Try.func52 fun hU hN0 hN => ?_
 show W _ _ _ _ ⟨48,[],[(0,.agg (Ze a0)),(1,.agg (Ze a1))]⟩ (Zv O n []) _
 refine zQ [2,3,4] ?_
 refine Zk ?_
 obtain ⟨y2,hy2,h⟩:=bC h
 refine zCd (Zvm hy2) [2,4,6,7] [true,false,true] ?_
 refine Zk ?_
 refine zQ [2,4,6,22] ?_
 refine Zt (t:=(!y2.2)) rfl (fun c11 => ?_) (fun c11 => ?_)
 ·replace h:=Zs c11 h
  refine Zk ?_
  refine zRd [4,5] [false,false,true] ?_
  exact Yu [.agg [(vI 0),(vI 0),nV,nV,(vI 0),nV,nV,nV,nV,(vI 0),nV],(vB false)]
 replace h:=Zr c11 h
 refine Kq [2,4,6] [true,false,true] ?_
 refine Zk ?_
 refine zRd [4,6,8] [false,false,true,true] ?_
 refine Zk ?_
 refine zQd [4,8,27,28,29] [4,8,27,28,29] [false,false,true,true] ?_
 refine J9 (E':=(⟨48,[],[(4,.ref (n+2) 0),(8,.ref (n+3) 0),(27,(sL Z6 y2.1)),(28,(vI (y2.1.length:Int))),(29,(vI 0))]⟩:Env)) (O':=(Zv O n [none,none,some ⟨false,30,11,1,[(vI 0),(vI 0),nV,nV,(vI 0),nV,nV,nV,nV,(vI 0),nV]⟩,some ⟨false,30,11,1,[(vI 3),(vI 0),nV,nV,(vI 0),nV,nV,nV,nV,(vI a0.List_),.row (n+4) ([]:List Zh).length]⟩,some (oR 53 14 Zf ([]:List Zh)),none])) (n':=(n+6)) ?_ ?_
 ·refine Fit2.trans (E':=(⟨48,[],[(4,.ref (n+2) 0),(8,.ref (n+3) 0),(27,(sL Z6 y2.1)),(28,(vI (y2.1.length:Int))),(29,(vI 0))]⟩:Env)) (O':=(Zv O n [none,none,some ⟨false,30,11,1,[(vI 0),(vI 0),nV,nV,(vI 0),nV,nV,nV,nV,(vI 0),nV]⟩,some ⟨false,30,11,1,[(vI 3),(vI 0),nV,nV,(vI 0),nV,nV,nV,nV,(vI a0.List_),nV]⟩])) (n':=(n+4)) (Fit2.of (Yd hU rfl rfl ?_) (by omega)) ?_
  ·exact zSe
  refine Fit2.trans (Vg (p:=(n+3)) (k:=10) (q:=⟨false,30,11,1,[(vI 3),(vI 0),nV,nV,(vI 0),nV,nV,nV,nV,(vI a0.List_),nV]⟩) 53 14 (by simp only [Uv,Za8,List.getElem?_cons_zero,List.getElem?_cons_succ,Option.join_some,List.length_nil,Yk]) rfl (by omega)) ?_
  simp only [Xp,Yz,Un,K7,List.set_cons_zero,List.set_cons_succ,List.cons_append,List.nil_append,List.length_cons,List.length_nil,Nat.zero_add,Nat.reduceAdd,Nat.reduceLT,Nat.add_assoc]
  refine J8 (k:=5) (k':=6) hU [5,5,2,3,4] [0,0,2,3,4,0] rfl rfl rfl rfl ⟨rfl,rfl⟩ ?_
  exact zSe
 obtain ⟨z10,hz10,h⟩:=bC h
 refine Zbd (J:=(Qn (fun z10=>JR n (⟨48,[],[(4,.ref (n+2) 0),(5,(vB false))]⟩:Env) (Zv O n [none,none,some ⟨false,30,11,1,[(vI 0),(vI 0),nV,nV,(vI 0),nV,nV,nV,nV,(vI 0),nV]⟩,none]) (n+4)) (fun z10=>JX 0 n (⟨48,[],[(4,.ref (n+2) 0),(8,.ref (n+3) 0)]⟩:Env) (Zv O n [none,none,some ⟨false,30,11,1,[(vI 0),(vI 0),nV,nV,(vI 0),nV,nV,nV,nV,(vI 0),nV]⟩,some ⟨false,30,11,1,[(vI 3),(vI 0),nV,nV,(vI 0),nV,nV,nV,nV,(vI a0.List_),.row (n+4) z10.length]⟩,some (oR 53 14 Zf z10),none]) (n+6)))) (z:=z10) ?_ fun hw => ?_
 ·refine Xj hz10 (fun s0_=>⟨48,[],[(4,.ref (n+2) 0),(8,.ref (n+3) 0),(27,(sL Z6 y2.1)),(28,(vI (y2.1.length:Int))),(29,(vI s0_.1))]⟩) (fun s0_=>(Zv O n [none,none,some ⟨false,30,11,1,[(vI 0),(vI 0),nV,nV,(vI 0),nV,nV,nV,nV,(vI 0),nV]⟩,some ⟨false,30,11,1,[(vI 3),(vI 0),nV,nV,(vI 0),nV,nV,nV,nV,(vI a0.List_),.row (n+4) s0_.2.length]⟩,some (oR 53 14 Zf s0_.2),none])) (Qn (fun z10=>JR n (⟨48,[],[(4,.ref (n+2) 0),(5,(vB false))]⟩:Env) (Zv O n [none,none,some ⟨false,30,11,1,[(vI 0),(vI 0),nV,nV,(vI 0),nV,nV,nV,nV,(vI 0),nV]⟩,none]) (n+4)) (fun z10=>JX 0 n (⟨48,[],[(4,.ref (n+2) 0),(8,.ref (n+3) 0)]⟩:Env) (Zv O n [none,none,some ⟨false,30,11,1,[(vI 0),(vI 0),nV,nV,(vI 0),nV,nV,nV,nV,(vI 0),nV]⟩,some ⟨false,30,11,1,[(vI 3),(vI 0),nV,nV,(vI 0),nV,nV,nV,nV,(vI a0.List_),.row (n+4) z10.length]⟩,some (oR 53 14 Zf z10),none]) (n+6))) ?_
  intro s0_ x0_ hs0_
  unfold Qe at hs0_
  try dsimp only
  refine zQ [4,8,27,28,29,30] ?_
  refine Zk ?_
  refine Zt (t:=(decide (s0_.1 < (y2.1.length:Int)))) rfl (fun c9 => ?_) (fun c9 => ?_)
  ·replace hs0_:=Zs c9 hs0_
   refine Kq [4,8,27,28,29] [false,false,true,true,true,false] ?_
   refine Zk ?_
   refine Ya ?_
   refine Zk ?_
   obtain ⟨x4,hx4,ax4,bx4,cx4,hs0_⟩:=bE (f:=Z6) Yay (fun _=>rfl) (by decide) hs0_
   refine Zby [] ax4 bx4 cx4 ?_
   refine zDs [4,8,10,27,28,29] [false,false,true,true,true,false,true] ?_
   obtain ⟨y6,hy6,hs0_⟩:=bC hs0_
   refine zCd (U5 hy6) [4,8,11,12,27,28,29] [false,false,true,true,true,false,false] ?_
   refine Zk ?_
   refine zQ [4,8,11,27,28,29,39] ?_
   refine Zt (t:=(!y6.2)) rfl (fun c8 => ?_) (fun c8 => ?_)
   ·replace hs0_:=Zs c8 hs0_
    refine Zk ?_
    refine zRd [4,5] [false,false,true,false,false,false,false] ?_
    refine zW ?_
    exact zEy hs0_
   replace hs0_:=Zr c8 hs0_
   refine Kq [4,8,11,27,28,29] [false,false,true,true,true,false,false] ?_
   obtain ⟨l7,pl7,ql7,el7,hs0_⟩:=bA (k:=y6.1.length) rfl hs0_
   refine Zdu [] pl7 ql7 el7 ?_
   refine Zbc ⟨48,[],[(4,.ref (n+2) 0),(8,.ref (n+3) 0),(27,(sL Z6 y2.1)),(28,(vI (y2.1.length:Int))),(29,(vI s0_.1))]⟩ (Zv O n [none,none,some ⟨false,30,11,1,[(vI 0),(vI 0),nV,nV,(vI 0),nV,nV,nV,nV,(vI 0),nV]⟩,some ⟨false,30,11,1,[(vI 3),(vI 0),nV,nV,(vI 0),nV,nV,nV,nV,(vI a0.List_),.row (n+4) l7.length]⟩,some (oR 53 14 Zf l7),none,none]) (Yd hU rfl rfl ?_) ?_
   ·exact Zz5 pl7 ql7 el7
   refine zR ?_
   exact zEn hs0_
  replace hs0_:=Zr c9 hs0_
  exact zEx hs0_
 rcases z10 with z10 | z10
 ·dsimp only [Qn] at hw h
  refine Ke hw ?_
  try simp only [Xe,Yi,↓reduceIte,Nat.reduceEqDiff]
  exact Zll [.agg [(vI 0),(vI 0),nV,nV,(vI 0),nV,nV,nV,nV,(vI 0),nV],(vB false)]
 dsimp only [Qn] at hw h
 refine Yy hw ?_
 try simp only [Xe,Yi,↓reduceIte,Nat.reduceEqDiff]
 refine zDs [4,8] [false,false,true,true,true,false] ?_
 refine zRd [4,5] [false,false,true,false,true,false] ?_
 exact Yu [.agg [(vI 3),(vI 0),nV,nV,(vI 0),nV,nV,nV,nV,(vI a0.List_),.row (n+4) z10.length],(vB true)]
theorem Ze9 {Yt:(Zc→Zc→Option (Zc×Bool))} {Z3:(Zc→Zc→Option (Zc×Bool))} {Yn:(Zc→Zc→Option (Zc×Bool))} {Zq:((List Zd)→(List Zd)→Option ((List Zd)×Bool))} {Z0:(Zd→Zd→Option (Zd×Bool))} {Yf:(Zy→Option ((List Zh)×Bool))} (Ub:V8 Yt) (Ka:Jb Z3) (U4:Vj Yn) (Xo:Xa Zq) (Qt:Qs Z0) (U5:Vk Yf) {a0:(List Zd)} {a1:(List Zd)} {r:((List Zd)×Bool)} {O:Objs} {n:Nat} (h:Qf Yt Z3 Yn Zq Z0 Yf a0 a1=some r):GTo Try.prog 80 [(sL Zi a0),(sL Zi a1),.fn 81 0 [],.fn 82 0 []] O n (.tup [(sL Zi r.1),(vB r.2)]) O n:=by
 unfold Qf at h
 refine zFn Try.call80 Try.func80 fun hU hN0 hN => ?_
 show W _ _ _ _ ⟨87,[],[(0,(sL Zi a0)),(1,(sL Zi a1)),(2,.fn 81 0 []),(3,.fn 82 0 [])]⟩ (Zv O n []) _
 refine zQ [0,1,2,3] ?_
 refine zQ [0,1,2,3,10] ?_
 refine Zk ?_
 refine zD [0,1,2,3,10] [] ?_
 refine J9 (E':=(⟨87,[],[(0,(sL Zi a0)),(1,(sL Zi a1)),(2,.fn 81 0 []),(3,.fn 82 0 []),(10,.row n ([]:List Zd).length)]⟩:Env)) (O':=(Zv O n [some (oR 55 12 Zi ([]:List Zd)),none])) (n':=(n+2)) ?_ ?_
 ·refine Fit2.trans (E':=(⟨87,[],[(0,(sL Zi a0)),(1,(sL Zi a1)),(2,.fn 81 0 []),(3,.fn 82 0 []),(10,nV)]⟩:Env)) (O':=(Zv O n [])) (n':=n) (Fit2.of (Yd hU rfl rfl ?_) (by omega)) ?_
  ·exact zSe
  refine Fit2.trans (Zkj 10 55 12 rfl (by omega)) ?_
  simp only [Xp,Yz,Un,K7,List.set_cons_zero,List.set_cons_succ,List.cons_append,List.nil_append,List.length_cons,List.length_nil,Nat.zero_add,Nat.reduceAdd,Nat.reduceLT,Nat.add_assoc]
  refine Fit2.trans (E':=(⟨87,[],[(0,(sL Zi a0)),(1,(sL Zi a1)),(2,.fn 81 0 []),(3,.fn 82 0 []),(10,.row n ([]:List Zd).length)]⟩:Env)) (O':=(Zv O n [some (oR 55 12 Zi ([]:List Zd))])) (n':=(n+1)) (Fit2.of (Yd hU rfl rfl ?_) (by omega)) ?_
  ·exact zSe
  refine J8 (k:=1) (k':=2) hU [0] [0,0] rfl rfl rfl rfl ⟨rfl,rfl⟩ ?_
  exact zSe
 obtain ⟨z36,hz36,h⟩:=bC h
 refine Zbd (J:=(Qn (fun z36=>JR n (⟨87,[],[(8,nV),(9,(vB false))]⟩:Env) (Zv O n []) n) (fun z36=>JX 0 n (⟨87,[],[(0,(sL Zi z36.1)),(1,(sL Zi z36.2.1)),(10,.row n z36.2.2.length)]⟩:Env) (Zv O n [some (oR 55 12 Zi z36.2.2),none]) (n+2)))) (z:=z36) ?_ fun hw => ?_
 ·refine Xj hz36 (fun s0_=>⟨87,[],[(0,(sL Zi s0_.1)),(1,(sL Zi s0_.2.1)),(2,.fn 81 0 []),(3,.fn 82 0 []),(10,.row n s0_.2.2.length)]⟩) (fun s0_=>(Zv O n [some (oR 55 12 Zi s0_.2.2),none])) (Qn (fun z36=>JR n (⟨87,[],[(8,nV),(9,(vB false))]⟩:Env) (Zv O n []) n) (fun z36=>JX 0 n (⟨87,[],[(0,(sL Zi z36.1)),(1,(sL Zi z36.2.1)),(10,.row n z36.2.2.length)]⟩:Env) (Zv O n [some (oR 55 12 Zi z36.2.2),none]) (n+2))) ?_
  intro s0_ x0_ hs0_
  unfold Y9 at hs0_
  try dsimp only
  refine Zk ?_
  refine zQD [0,1,2,3,10,20] [none,none,none] ?_
  refine Zt (t:=(cond (decide (0 < (s0_.1.length:Int))) (decide (0 < (s0_.2.1.length:Int))) false)) rfl (fun c35 => ?_) (fun c35 => ?_)
  ·replace hs0_:=Zs c35 hs0_
   refine Kq [0,1,2,3,10] [true,false] ?_
   refine Ya ?_
   refine Ya ?_
   refine Zk ?_
   obtain ⟨x5,hx5,ax5,bx5,cx5,hs0_⟩:=bE (f:=Zi) Zfm (fun _=>rfl) (by decide) hs0_
   obtain ⟨y6,hy6,hs0_⟩:=bC hs0_
   obtain ⟨x7,hx7,ax7,bx7,cx7,hs0_⟩:=bE (f:=Zi) Zfm (fun _=>rfl) (by decide) hs0_
   obtain ⟨y8,hy8,hs0_⟩:=bC hs0_
   refine Vb Z5 (by kernel_rfl) [] (by kernel_rfl) ?_
   refine zF6 ax5 bx5 cx5 ax7 bx7 cx7 ?_
   refine PCall.of (Gs hy6) ?_
   refine zF6 ax5 bx5 cx5 ax7 bx7 cx7 ?_
   refine PCall.of (Gs hy8) ?_
   refine zF6 ax5 bx5 cx5 ax7 bx7 cx7 ?_
   refine zD [0,1,2,3,10,42] [true,false] ?_
   refine Zt (t:=(decide (y6 < y8))) rfl (fun c34 => ?_) (fun c34 => ?_)
   ·replace hs0_:=Zs c34 hs0_
    obtain ⟨x9,hx9,ax9,bx9,cx9,hs0_⟩:=bE (f:=Zi) Zfm (fun _=>rfl) (by decide) hs0_
    obtain ⟨l10,al10,bl10,cl10,gl10,hs0_⟩:=bS (lo:=(some (.i64,1))) (hi:=none) (f:=Zi) rfl rfl Znl Zfm (fun _=>rfl) hs0_
    obtain ⟨l11,pl11,ql11,el11,hs0_⟩:=bA (k:=1) rfl hs0_
    refine Jv Z5 (by kernel_rfl) [.plain,.plain,.plain,.plain,.pass,.pass,.plain,.low,.plain,.plain] (fun i=>i < (n+2)∧¬ i=n) [0,1,2,3,6,7,4,5,8,9] [.plain,.plain,.plain,.plain,.plain,.low,.pass,.pass,.plain,.plain] [] (by kernel_rfl) rfl ?_
    refine Yhf ax9 bx9 cx9 al10 bl10 cl10 gl10 pl11 ql11 el11 ?_
    refine zO ?_
    have hs0_:=Option.some.inj hs0_;subst hs0_
    refine And.intro rfl (Fit2.of (Yd hU rfl rfl ?_) (by omega))
    exact Ya3 ax9 bx9 cx9 al10 bl10 cl10 gl10 pl11 ql11 el11
   replace hs0_:=Zr c34 hs0_
   refine Zk ?_
   obtain ⟨x16,hx16,ax16,bx16,cx16,hs0_⟩:=bE (f:=Zi) Zfm (fun _=>rfl) (by decide) hs0_
   obtain ⟨y17,hy17,hs0_⟩:=bC hs0_
   obtain ⟨x18,hx18,ax18,bx18,cx18,hs0_⟩:=bE (f:=Zi) Zfm (fun _=>rfl) (by decide) hs0_
   obtain ⟨y19,hy19,hs0_⟩:=bC hs0_
   refine Vb Z5 (by kernel_rfl) [] (by kernel_rfl) ?_
   refine zF6 ax16 bx16 cx16 ax18 bx18 cx18 ?_
   refine PCall.of (Gs hy17) ?_
   refine zF6 ax16 bx16 cx16 ax18 bx18 cx18 ?_
   refine PCall.of (Gs hy19) ?_
   refine zF6 ax16 bx16 cx16 ax18 bx18 cx18 ?_
   refine zD [0,1,2,3,10,62] [true,false] ?_
   refine Zt (t:=(decide (y17 < y19))) rfl (fun c33 => ?_) (fun c33 => ?_)
   ·replace hs0_:=Zs c33 hs0_
    obtain ⟨x20,hx20,ax20,bx20,cx20,hs0_⟩:=bE (f:=Zi) Zfm (fun _=>rfl) (by decide) hs0_
    obtain ⟨l21,al21,bl21,cl21,gl21,hs0_⟩:=bS (lo:=(some (.i64,1))) (hi:=none) (f:=Zi) rfl rfl Znl Zfm (fun _=>rfl) hs0_
    obtain ⟨l22,pl22,ql22,el22,hs0_⟩:=bA (k:=1) rfl hs0_
    refine Jv Z5 (by kernel_rfl) [.plain,.plain,.plain,.plain,.pass,.pass,.plain,.low,.plain,.plain] (fun i=>i < (n+2)∧¬ i=n) [0,1,2,3,6,7,4,5,8,9] [.plain,.plain,.plain,.plain,.plain,.low,.pass,.pass,.plain,.plain] [] (by kernel_rfl) rfl ?_
    refine Yhf ax20 bx20 cx20 al21 bl21 cl21 gl21 pl22 ql22 el22 ?_
    refine zO ?_
    have hs0_:=Option.some.inj hs0_;subst hs0_
    refine And.intro rfl (Fit2.of (Yd hU rfl rfl ?_) (by omega))
    exact Ya3 ax20 bx20 cx20 al21 bl21 cl21 gl21 pl22 ql22 el22
   replace hs0_:=Zr c33 hs0_
   refine Zk ?_
   obtain ⟨x26,hx26,ax26,bx26,cx26,hs0_⟩:=bE (f:=Zi) Zfm (fun _=>rfl) (by decide) hs0_
   obtain ⟨x27,hx27,ax27,bx27,cx27,hs0_⟩:=bE (f:=Zi) Zfm (fun _=>rfl) (by decide) hs0_
   obtain ⟨y28,hy28,hs0_⟩:=bC hs0_
   refine Jv Z5 (by kernel_rfl) [.plain,.plain,.low,.low,.plain,.low,.low,.low,.plain,.plain,.plain,.pass,.bar,.plain] (fun i=>i < (n+2)) [0,1,2,3,4,5,6,7,8,9,10,11,12,13] [.plain,.plain,.low,.low,.plain,.low,.low,.low,.plain,.plain,.plain,.pass,.bar,.plain] [] (by kernel_rfl) rfl ?_
   refine zF6 ax26 bx26 cx26 ax27 bx27 cx27 ?_
   refine zO ?_
   first | refine PCallA.of (fun _ _=>Qt hy28) ?_ | refine PCall.of (Qt hy28) ?_
   refine zF6 ax26 bx26 cx26 ax27 bx27 cx27 ?_
   refine zO ?_
   refine zDs [0,1,2,3,10,11,12] [true,false,true] ?_
   refine zQ [0,1,2,3,10,11,33] ?_
   refine Zt (t:=(!y28.2)) rfl (fun c32 => ?_) (fun c32 => ?_)
   ·replace hs0_:=Zs c32 hs0_
    refine zQ [8,9] ?_
    refine zW ?_
    exact zEy hs0_
   replace hs0_:=Zr c32 hs0_
   refine Kq [0,1,2,3,10,11] [true,false,true] ?_
   obtain ⟨l29,al29,bl29,cl29,gl29,hs0_⟩:=bS (lo:=(some (.i64,1))) (hi:=none) (f:=Zi) rfl rfl Znl Zfm (fun _=>rfl) hs0_
   obtain ⟨l30,al30,bl30,cl30,gl30,hs0_⟩:=bS (lo:=(some (.i64,1))) (hi:=none) (f:=Zi) rfl rfl Znl Zfm (fun _=>rfl) hs0_
   obtain ⟨l31,pl31,ql31,el31,hs0_⟩:=bA (k:=1) rfl hs0_
   refine Jv Z5 (by kernel_rfl) [.plain,.plain,.pass,.pass,.plain,.low,.plain,.low,.plain,.plain,.plain] (fun i=>i < (n+3)∧¬ i=n) [0,1,4,5,6,7,2,3,8,9,10] [.plain,.plain,.plain,.low,.plain,.low,.pass,.pass,.plain,.plain,.plain] [] (by kernel_rfl) rfl ?_
   simp only [push_cast,seval,↓reduceIte,Zo,al29,bl29,cl29,gl29,al30,bl30,cl30,gl30,pl31,ql31,el31,hN0,hN]
   refine zO ?_
   have hs0_:=Option.some.inj hs0_;subst hs0_
   refine And.intro rfl (Fit2.of (Yd hU rfl rfl ?_) (by omega))
   simp only [push_cast,seval,↓reduceIte,Zo,al29,bl29,cl29,gl29,al30,bl30,cl30,gl30,pl31,ql31,el31,hN0,hN]
  replace hs0_:=Zr c35 hs0_
  exact zEx hs0_
 rcases z36 with z36 | z36
 ·dsimp only [Qn] at hw h
  refine Ke hw ?_
  try simp only [Xe,Yi,↓reduceIte,Nat.reduceEqDiff]
  exact Zll [nV,(vB false)]
 dsimp only [Qn] at hw h
 refine Yy hw ?_
 try simp only [Xe,Yi,↓reduceIte,Nat.reduceEqDiff]
 refine zDs [0,1,10] [true,false] ?_
 obtain ⟨l39,pl39,ql39,el39,h⟩:=bA (k:=z36.1.length) rfl h
 obtain ⟨l40,pl40,ql40,el40,h⟩:=bA (k:=z36.2.1.length) rfl h
 try simp only [el39,List.length_append,Nat.add_assoc] at pl40 ql40
 refine Xf Z5 [] ?_
 simp only [push_cast,seval,↓reduceIte,Zo,pl39,ql39,el39,pl40,ql40,el40,List.append_assoc,hN0,hN]
 refine Zbc ⟨87,[],[(8,.row n l40.length),(9,(vB true))]⟩ (Zv O n [some (oR 55 12 Zi l40),none]) (Yd hU rfl rfl ?_) ?_
 ·simp only [push_cast,seval,↓reduceIte,Zo,pl39,ql39,el39,pl40,ql40,el40,List.append_assoc,hN0,hN]
 exact Yu [.row n l40.length,(vB true)]
theorem Zl5 {Yt:(Zc→Zc→Option (Zc×Bool))} {Z3:(Zc→Zc→Option (Zc×Bool))} {Yn:(Zc→Zc→Option (Zc×Bool))} {Zq:((List Zd)→(List Zd)→Option ((List Zd)×Bool))} {Z0:(Zd→Zd→Option (Zd×Bool))} {Yf:(Zy→Option ((List Zh)×Bool))} (Ub:V8 Yt) (Ka:Jb Z3) (U4:Vj Yn) (Xo:Xa Zq) (Qt:Qs Z0) (U5:Vk Yf) {a0:Zd} {a1:Zd} {r:(Zd×Bool)} {O:Objs} {n:Nat} (h:Zcs Yt Z3 Yn Zq Z0 Yf a0 a1=some r):GTo Try.prog 82 [.agg (Xt a0),.agg (Xt a1)] O n (.tup [.agg (Xt r.1),(vB r.2)]) O n:=by
 unfold Zcs at h
 refine zFn Try.call82 Try.func82 fun hU hN0 hN => ?_
 show W _ _ _ _ ⟨21,[],[(0,.agg (Xt a0)),(1,.agg (Xt a1))]⟩ (Zv O n []) _
 refine zQ [2,3,4] ?_
 refine Zk ?_
 obtain ⟨y2,hy2,h⟩:=bC h
 refine zCd (Ub hy2) [2,4,6,7] [true,false,true,true] ?_
 refine Zk ?_
 refine zRd [4,5] [false,false,true,false] ?_
 exact Yu [.agg [(vI a0.At),(vI y2.1.Kind),(vI y2.1.Old.Kind),(sL (eI .u64) y2.1.Old.Words),(sL Za y2.1.Old.Kids),(vI y2.1.New.Kind),(sL (eI .u64) y2.1.New.Words),(sL Za y2.1.New.Kids),(sL Zg y2.1.Words),(sL Zi y2.1.Kids),(vI y2.1.List_),(sL Zf y2.1.Ops)],(vB y2.2)]
theorem Zss {Yt:(Zc→Zc→Option (Zc×Bool))} {Z3:(Zc→Zc→Option (Zc×Bool))} {Yn:(Zc→Zc→Option (Zc×Bool))} {Zq:((List Zd)→(List Zd)→Option ((List Zd)×Bool))} {Z0:(Zd→Zd→Option (Zd×Bool))} {Yf:(Zy→Option ((List Zh)×Bool))} (Ub:V8 Yt) (Ka:Jb Z3) (U4:Vj Yn) (Xo:Xa Zq) (Qt:Qs Z0) (U5:Vk Yf) {a0:Zy} {r:((List Zh)×Bool)} {O:Objs} {n:Nat} (h:Zc8 Yt Z3 Yn Zq Z0 Yf a0=some r):GTo Try.prog 84 [.agg (Ui a0)] O n (.tup [(sL Zf r.1),(vB r.2)]) O n:=by
 unfold Zc8 at h
 refine zFn Try.call84 Try.func84 fun hU hN0 hN => ?_
 show W _ _ _ _ ⟨108,[],[(0,.agg (Ui a0))]⟩ (Zv O n []) _
 refine zQ [1] ?_
 refine Xl (E':=⟨108,[],[(1,.ref n 0),(4,.ref (n+1) 0),(5,.ref (n+2) 0)]⟩) (O':=(Zv O n [some ⟨false,94,29,1,(Ui a0)⟩,some ⟨false,53,14,1,(Yg a0.P)⟩,some ⟨false,53,14,1,(Yg a0.Q)⟩])) (n0:=(n+3)) ?_ ?_
 ·refine Yfz Z5 (by kernel_rfl) [.low,.low,.low,.low,.pass,.pass,.pass,.pass] (fun i=>i < (n+1)) 4 5 [0,1,2,3] [6,7] [.low,.low,.low,.low] [.pass,.pass,.pass,.pass] [.pass,.pass,.pass,.pass] [] (by kernel_rfl) rfl rfl rfl ?_
  refine zS ?_
  repeat (with_reducible refine And.intro (by omega) ?_)
  refine And.intro ?_ ?_
  ·refine zS ?_
   repeat (with_reducible refine And.intro (by first | exact Ux rfl | exact Vh) ?_)
   exact zEf
  refine zS ?_
  repeat (with_reducible refine And.intro (by first | exact Ux rfl | exact Vh) ?_)
  refine And.intro rfl ?_
  refine Fit2.trans (E':=(⟨108,[],[(1,.ref n 0),(4,.ref (n+2) 0),(5,.ref (n+1) 0)]⟩:Env)) (O':=(Zv O n [some ⟨false,94,29,1,(Ui a0)⟩,some ⟨false,53,14,1,(Yg a0.Q)⟩,some ⟨false,53,14,1,(Yg a0.P)⟩])) (n':=(n+3)) (Fit2.of (Yd hU rfl rfl ?_) (by omega)) ?_
  ·exact zSe
  refine J8 (k:=3) (k':=3) hU [0,2,1] [0,2,1] rfl rfl rfl rfl ⟨rfl,rfl⟩ ?_
  exact zSe
 refine Zk ?_
 refine Ya ?_
 refine zQD [1,4,5,16] [none,none,none,none,none,none,none,none] ?_
 refine Zt (t:=(cond (a0.Of == 1) true (cond (a0.Of == 0) (a0.Q.Kind == 0) false))) rfl (fun c19 => ?_) (fun c19 => ?_)
 ·replace h:=Zs c19 h
  refine Zk ?_
  refine zR ?_
  refine Zbc ⟨108,[],[(2,.row (n+3) ([a0.P]:List Zh).length),(3,(vB true))]⟩ (Zv O n [none,none,none,some (oR 53 14 Zf ([a0.P]:List Zh))]) (Yd hU rfl rfl ?_) ?_
  ·exact zSe
  exact Yu [.row (n+3) ([a0.P]:List Zh).length,(vB true)]
 replace h:=Zr c19 h
 refine zQD [4,5,32] [none,none,none] ?_
 refine Zt (t:=(cond (a0.Of == 2) true (a0.P.Kind == 0))) rfl (fun c18 => ?_) (fun c18 => ?_)
 ·replace h:=Zs c18 h
  refine Zk ?_
  refine zR ?_
  refine Zbc ⟨108,[],[(2,.row (n+3) ([a0.Q]:List Zh).length),(3,(vB true))]⟩ (Zv O n [none,none,none,some (oR 53 14 Zf ([a0.Q]:List Zh))]) (Yd hU rfl rfl ?_) ?_
  ·exact zSe
  exact Yu [.row (n+3) ([a0.Q]:List Zh).length,(vB true)]
 replace h:=Zr c18 h
 refine zQD [4,5,43] [none,none,none] ?_
 refine Zt (t:=(cond (a0.P.Kind == 2) (a0.Q.Kind == 1) false)) rfl (fun c17 => ?_) (fun c17 => ?_)
 ·replace h:=Zs c17 h
  refine Zk ?_
  obtain ⟨y2,hy2,h⟩:=bC h
  refine zCd (Q5 hy2) [2,3] [false,false,false] ?_
  exact Yu [nV,(vB y2)]
 replace h:=Zr c17 h
 refine zQ [4,5,57] ?_
 refine Zt (t:=(a0.P.Kind == 2)) rfl (fun c16 => ?_) (fun c16 => ?_)
 ·replace h:=Zs c16 h
  refine Zk ?_
  obtain ⟨x5,hx5,ax5,bx5,cx5,h⟩:=bE (f:=Za) Zac (fun _=>rfl) (by decide) h
  obtain ⟨y6,hy6,h⟩:=bC h
  refine Jv Z5 (by kernel_rfl) [.low,.low,.low,.low,.low,.low,.low,.plain,.plain,.plain,.pass,.bar,.plain] (fun i=>i < (n+3)) [0,1,2,3,4,5,6,7,8,9,10,11,12] [.low,.low,.low,.low,.low,.low,.low,.plain,.plain,.plain,.pass,.bar,.plain] [] (by kernel_rfl) rfl ?_
  refine zF3 ax5 bx5 cx5 ?_
  refine zO ?_
  first | refine PCallA.of (fun _ _=>V2 hy6) ?_ | refine PCall.of (V2 hy6) ?_
  refine zF3 ax5 bx5 cx5 ?_
  refine zO ?_
  refine zDs [6,7] [false,false,false,true] ?_
  refine zR ?_
  refine Zbc ⟨108,[],[(2,.row (n+5) ([(⟨2,0,([y6.1]:List Zb),(⟨0,(⟨0,([]:(List Int)),([]:(List Zb))⟩:Zb),(⟨0,([]:(List Int)),([]:(List Zb))⟩:Zb),([]:(List Zj)),([]:(List Zd)),0,([]:(List Zh))⟩:Zc)⟩:Zh)]:List Zh).length),(3,(vB y6.2))]⟩ (Zv O n [none,none,none,none,none,some (oR 53 14 Zf ([(⟨2,0,([y6.1]:List Zb),(⟨0,(⟨0,([]:(List Int)),([]:(List Zb))⟩:Zb),(⟨0,([]:(List Int)),([]:(List Zb))⟩:Zb),([]:(List Zj)),([]:(List Zd)),0,([]:(List Zh))⟩:Zc)⟩:Zh)]:List Zh))]) (Yd hU rfl rfl ?_) ?_
  ·exact zSe
  exact Yu [.row (n+5) ([(⟨2,0,([y6.1]:List Zb),(⟨0,(⟨0,([]:(List Int)),([]:(List Zb))⟩:Zb),(⟨0,([]:(List Int)),([]:(List Zb))⟩:Zb),([]:(List Zj)),([]:(List Zd)),0,([]:(List Zh))⟩:Zc)⟩:Zh)]:List Zh).length,(vB y6.2)]
 replace h:=Zr c16 h
 refine zQ [4,5,76] ?_
 refine Zt (t:=(a0.Q.Kind == 1)) rfl (fun c15 => ?_) (fun c15 => ?_)
 ·replace h:=Zs c15 h
  refine Zk ?_
  obtain ⟨y10,hy10,h⟩:=bC h
  obtain ⟨x11,hx11,ax11,bx11,cx11,h⟩:=bE (f:=Za) Zac (fun _=>rfl) (by decide) h
  obtain ⟨y12,hy12,h⟩:=bC h
  refine Jv Z5 (by kernel_rfl) [.low,.low,.low,.low,.low,.low,.low,.low,.plain,.plain,.plain,.pass,.bar,.plain] (fun i=>i < (n+3)) [0,1,2,3,4,5,6,7,8,9,10,11,12,13] [.low,.low,.low,.low,.low,.low,.low,.low,.plain,.plain,.plain,.pass,.bar,.plain] [] (by kernel_rfl) rfl ?_
  refine zF3 ax11 bx11 cx11 ?_
  refine zO ?_
  first | refine PCallA.of (fun _ _=>Zh9 hy10) ?_ | refine PCall.of (Zh9 hy10) ?_
  refine zF3 ax11 bx11 cx11 ?_
  refine zO ?_
  first | refine PCallA.of (fun _ _=>V2 hy12) ?_ | refine PCall.of (V2 hy12) ?_
  refine zF3 ax11 bx11 cx11 ?_
  refine zO ?_
  refine zDs [8,9] [false,false,false,true] ?_
  refine zR ?_
  refine Zbc ⟨108,[],[(2,.row (n+5) ([(⟨1,0,([y12.1]:List Zb),(⟨0,(⟨0,([]:(List Int)),([]:(List Zb))⟩:Zb),(⟨0,([]:(List Int)),([]:(List Zb))⟩:Zb),([]:(List Zj)),([]:(List Zd)),0,([]:(List Zh))⟩:Zc)⟩:Zh)]:List Zh).length),(3,(vB y12.2))]⟩ (Zv O n [none,none,none,none,none,some (oR 53 14 Zf ([(⟨1,0,([y12.1]:List Zb),(⟨0,(⟨0,([]:(List Int)),([]:(List Zb))⟩:Zb),(⟨0,([]:(List Int)),([]:(List Zb))⟩:Zb),([]:(List Zj)),([]:(List Zd)),0,([]:(List Zh))⟩:Zc)⟩:Zh)]:List Zh))]) (Yd hU rfl rfl ?_) ?_
  ·exact zSe
  exact Yu [.row (n+5) ([(⟨1,0,([y12.1]:List Zb),(⟨0,(⟨0,([]:(List Int)),([]:(List Zb))⟩:Zb),(⟨0,([]:(List Int)),([]:(List Zb))⟩:Zb),([]:(List Zj)),([]:(List Zd)),0,([]:(List Zh))⟩:Zc)⟩:Zh)]:List Zh).length,(vB y12.2)]
 replace h:=Zr c15 h
 refine Kq [4,5] [false,true,true] ?_
 refine Zk ?_
 obtain ⟨y14,hy14,h⟩:=bC h
 refine zCd (Ub hy14) [10,11] [false,false,false,true] ?_
 refine Zk ?_
 refine zR ?_
 refine Zbc ⟨108,[],[(2,.row (n+4) ([(⟨3,0,([]:(List Zb)),y14.1⟩:Zh)]:List Zh).length),(3,(vB y14.2))]⟩ (Zv O n [none,none,none,none,some (oR 53 14 Zf ([(⟨3,0,([]:(List Zb)),y14.1⟩:Zh)]:List Zh))]) (Yd hU rfl rfl ?_) ?_
 ·exact zSe
 exact Yu [.row (n+4) ([(⟨3,0,([]:(List Zb)),y14.1⟩:Zh)]:List Zh).length,(vB y14.2)]
theorem Zq5:∀ k,(V8 ((Zm k).1))∧(Jb ((Zm k).2.1))∧(Vj ((Zm k).2.2.1))∧(Xa ((Zm k).2.2.2.1))∧(Qs ((Zm k).2.2.2.2.1))∧(Vk ((Zm k).2.2.2.2.2)):=fun k=>by
 induction k with
 | zero=>exact ⟨@fun a0 a1 r O n h=>(nomatch (show (none:Option _)=some _ from h)),@fun a0 a1 r O n h=>(nomatch (show (none:Option _)=some _ from h)),@fun a0 a1 r O n h=>(nomatch (show (none:Option _)=some _ from h)),@fun a0 a1 r O n h=>(nomatch (show (none:Option _)=some _ from h)),@fun a0 a1 r O n h=>(nomatch (show (none:Option _)=some _ from h)),@fun a0 r O n h=>(nomatch (show (none:Option _)=some _ from h))⟩
 | succ k ih=>exact ⟨@fun a0 a1 r O n h=>Zud (ih.1) (ih.2.1) (ih.2.2.1) (ih.2.2.2.1) (ih.2.2.2.2.1) (ih.2.2.2.2.2)  h,@fun a0 a1 r O n h=>Znb (ih.1) (ih.2.1) (ih.2.2.1) (ih.2.2.2.1) (ih.2.2.2.2.1) (ih.2.2.2.2.2)  h,@fun a0 a1 r O n h=>Zsr (ih.1) (ih.2.1) (ih.2.2.1) (ih.2.2.2.1) (ih.2.2.2.2.1) (ih.2.2.2.2.2)  h,@fun a0 a1 r O n h=>Ze9 (ih.1) (ih.2.1) (ih.2.2.1) (ih.2.2.2.1) (ih.2.2.2.2.1) (ih.2.2.2.2.2)  h,@fun a0 a1 r O n h=>Zl5 (ih.1) (ih.2.1) (ih.2.2.1) (ih.2.2.2.1) (ih.2.2.2.2.1) (ih.2.2.2.2.2)  h,@fun a0 r O n h=>Zss (ih.1) (ih.2.1) (ih.2.2.1) (ih.2.2.2.1) (ih.2.2.2.2.1) (ih.2.2.2.2.2)  h⟩
theorem Zvq {a0:Zc} {a1:Zc} {r:(Zc×Bool)} {O:Objs} {n:Nat} (h:Zh5 a0 a1=some r):GTo Try.prog 27 [.agg (Ze a0),.agg (Ze a1)] O n (.tup [.agg (Ze r.1),(vB r.2)]) O n:=by
 obtain ⟨k,hk⟩:=Zax h
 exact (Zq5 k).1  hk
theorem Znr {a0:Zc} {a1:Zc} {r:(Zc×Bool)} {O:Objs} {n:Nat} (h:V6 a0 a1=some r):GTo Try.prog 10 [.agg (Ze a0),.agg (Ze a1)] O n (.tup [.agg (Ze r.1),(vB r.2)]) O n:=by
 unfold V6 at h
 refine zFn Try.call10 Try.func10 fun hU hN0 hN => ?_
 show W _ _ _ _ ⟨19,[],[(0,.agg (Ze a0)),(1,.agg (Ze a1))]⟩ (Zv O n []) _
 refine zQ [2,3,4] ?_
 refine Zk ?_
 obtain ⟨y2,hy2,h⟩:=bC h
 refine zCd (Zvq hy2) [4,6,7] [false,false,true,true] ?_
 refine Zk ?_
 refine zQ [4,6,15] ?_
 refine Zt (t:=(!y2.2)) rfl (fun c5 => ?_) (fun c5 => ?_)
 ·replace h:=Zs c5 h
  refine Zk ?_
  refine zRd [4,5] [false,false,true,false] ?_
  exact Yu [.agg [(vI 0),(vI 0),nV,nV,(vI 0),nV,nV,nV,nV,(vI 0),nV],(vB false)]
 replace h:=Zr c5 h
 refine Kq [4,6] [false,false,true,true] ?_
 refine Zk ?_
 obtain ⟨y4,hy4,h⟩:=bC h
 refine zCd (Zoq hy4) [4,5] [false,false,true,false] ?_
 exact Yu [.agg (Ze y4),(vB true)]
theorem G9  {r:Bool} {O:Objs} {n:Nat} (h:Js=some r):GTo Try.prog 9 [] O n ((vB r)) O n:=by
 unfold Js at h
 refine zFn Try.call9 Try.func9 fun hU hN0 hN => ?_
 show W _ _ _ _ ⟨53,[],[]⟩ (Zv O n []) _
 refine zQ [] ?_
 refine Zk ?_
 refine zR ?_
 refine Zbc ⟨53,[],[(1,.row (n+1) ([(⟨10,([1]:List Int),([]:(List Zb))⟩:Zb)]:List Zb).length)]⟩ (Zv O n [none,some (oR 25 3 Za ([(⟨10,([1]:List Int),([]:(List Zb))⟩:Zb)]:List Zb))]) (Yd hU rfl rfl ?_) ?_
 ·exact zSe
 refine Zbc ⟨53,[],[(1,(sL Za ([(⟨10,([1]:List Int),([]:(List Zb))⟩:Zb)]:List Zb)))]⟩ (Zv O n [none,none]) (Yd hU rfl rfl ?_) ?_
 ·exact zSe
 refine Zk ?_
 refine zR ?_
 refine Zbc ⟨53,[],[(1,(sL Za ([(⟨10,([1]:List Int),([]:(List Zb))⟩:Zb)]:List Zb))),(2,.ref (n+3) 0)]⟩ (Zv O n [none,none,some (oR 53 14 Zf ([(⟨2,0,([(⟨10,([1]:List Int),([]:(List Zb))⟩:Zb)]:List Zb),(⟨0,(⟨0,([]:(List Int)),([]:(List Zb))⟩:Zb),(⟨0,([]:(List Int)),([]:(List Zb))⟩:Zb),([]:(List Zj)),([]:(List Zd)),0,([]:(List Zh))⟩:Zc)⟩:Zh),(⟨0,1,([]:(List Zb)),(⟨0,(⟨0,([]:(List Int)),([]:(List Zb))⟩:Zb),(⟨0,([]:(List Int)),([]:(List Zb))⟩:Zb),([]:(List Zj)),([]:(List Zd)),0,([]:(List Zh))⟩:Zc)⟩:Zh)]:List Zh)),some ⟨false,30,11,1,[(vI 3),(vI 0),nV,nV,(vI 0),nV,nV,nV,nV,(vI 4),.row (n+2) ([(⟨2,0,([(⟨10,([1]:List Int),([]:(List Zb))⟩:Zb)]:List Zb),(⟨0,(⟨0,([]:(List Int)),([]:(List Zb))⟩:Zb),(⟨0,([]:(List Int)),([]:(List Zb))⟩:Zb),([]:(List Zj)),([]:(List Zd)),0,([]:(List Zh))⟩:Zc)⟩:Zh),(⟨0,1,([]:(List Zb)),(⟨0,(⟨0,([]:(List Int)),([]:(List Zb))⟩:Zb),(⟨0,([]:(List Int)),([]:(List Zb))⟩:Zb),([]:(List Zj)),([]:(List Zd)),0,([]:(List Zh))⟩:Zc)⟩:Zh)]:List Zh).length]⟩]) (Yd hU rfl rfl ?_) ?_
 ·exact zSe
 refine Zk ?_
 refine zR ?_
 refine Zbc ⟨53,[],[(2,.ref (n+3) 0),(3,.ref (n+5) 0)]⟩ (Zv O n [none,none,some (oR 53 14 Zf ([(⟨2,0,([(⟨10,([1]:List Int),([]:(List Zb))⟩:Zb)]:List Zb),(⟨0,(⟨0,([]:(List Int)),([]:(List Zb))⟩:Zb),(⟨0,([]:(List Int)),([]:(List Zb))⟩:Zb),([]:(List Zj)),([]:(List Zd)),0,([]:(List Zh))⟩:Zc)⟩:Zh),(⟨0,1,([]:(List Zb)),(⟨0,(⟨0,([]:(List Int)),([]:(List Zb))⟩:Zb),(⟨0,([]:(List Int)),([]:(List Zb))⟩:Zb),([]:(List Zj)),([]:(List Zd)),0,([]:(List Zh))⟩:Zc)⟩:Zh)]:List Zh)),some ⟨false,30,11,1,[(vI 3),(vI 0),nV,nV,(vI 0),nV,nV,nV,nV,(vI 4),.row (n+2) ([(⟨2,0,([(⟨10,([1]:List Int),([]:(List Zb))⟩:Zb)]:List Zb),(⟨0,(⟨0,([]:(List Int)),([]:(List Zb))⟩:Zb),(⟨0,([]:(List Int)),([]:(List Zb))⟩:Zb),([]:(List Zj)),([]:(List Zd)),0,([]:(List Zh))⟩:Zc)⟩:Zh),(⟨0,1,([]:(List Zb)),(⟨0,(⟨0,([]:(List Int)),([]:(List Zb))⟩:Zb),(⟨0,([]:(List Int)),([]:(List Zb))⟩:Zb),([]:(List Zj)),([]:(List Zd)),0,([]:(List Zh))⟩:Zc)⟩:Zh)]:List Zh).length]⟩,some (oR 53 14 Zf ([(⟨1,0,([(⟨10,([1]:List Int),([]:(List Zb))⟩:Zb)]:List Zb),(⟨0,(⟨0,([]:(List Int)),([]:(List Zb))⟩:Zb),(⟨0,([]:(List Int)),([]:(List Zb))⟩:Zb),([]:(List Zj)),([]:(List Zd)),0,([]:(List Zh))⟩:Zc)⟩:Zh),(⟨0,1,([]:(List Zb)),(⟨0,(⟨0,([]:(List Int)),([]:(List Zb))⟩:Zb),(⟨0,([]:(List Int)),([]:(List Zb))⟩:Zb),([]:(List Zj)),([]:(List Zd)),0,([]:(List Zh))⟩:Zc)⟩:Zh)]:List Zh)),some ⟨false,30,11,1,[(vI 3),(vI 0),nV,nV,(vI 0),nV,nV,nV,nV,(vI 4),.row (n+4) ([(⟨1,0,([(⟨10,([1]:List Int),([]:(List Zb))⟩:Zb)]:List Zb),(⟨0,(⟨0,([]:(List Int)),([]:(List Zb))⟩:Zb),(⟨0,([]:(List Int)),([]:(List Zb))⟩:Zb),([]:(List Zj)),([]:(List Zd)),0,([]:(List Zh))⟩:Zc)⟩:Zh),(⟨0,1,([]:(List Zb)),(⟨0,(⟨0,([]:(List Int)),([]:(List Zb))⟩:Zb),(⟨0,([]:(List Int)),([]:(List Zb))⟩:Zb),([]:(List Zj)),([]:(List Zd)),0,([]:(List Zh))⟩:Zc)⟩:Zh)]:List Zh).length]⟩]) (Yd hU rfl rfl ?_) ?_
 ·exact zSe
 refine Zbc ⟨53,[],[(2,.ref (n+3) 0),(3,.ref (n+5) 0)]⟩ (Zv O n [none,none,none,some ⟨false,30,11,1,[(vI 3),(vI 0),nV,nV,(vI 0),nV,nV,nV,nV,(vI 4),(sL Zf ([(⟨2,0,([(⟨10,([1]:List Int),([]:(List Zb))⟩:Zb)]:List Zb),(⟨0,(⟨0,([]:(List Int)),([]:(List Zb))⟩:Zb),(⟨0,([]:(List Int)),([]:(List Zb))⟩:Zb),([]:(List Zj)),([]:(List Zd)),0,([]:(List Zh))⟩:Zc)⟩:Zh),(⟨0,1,([]:(List Zb)),(⟨0,(⟨0,([]:(List Int)),([]:(List Zb))⟩:Zb),(⟨0,([]:(List Int)),([]:(List Zb))⟩:Zb),([]:(List Zj)),([]:(List Zd)),0,([]:(List Zh))⟩:Zc)⟩:Zh)]:List Zh))]⟩,none,some ⟨false,30,11,1,[(vI 3),(vI 0),nV,nV,(vI 0),nV,nV,nV,nV,(vI 4),(sL Zf ([(⟨1,0,([(⟨10,([1]:List Int),([]:(List Zb))⟩:Zb)]:List Zb),(⟨0,(⟨0,([]:(List Int)),([]:(List Zb))⟩:Zb),(⟨0,([]:(List Int)),([]:(List Zb))⟩:Zb),([]:(List Zj)),([]:(List Zd)),0,([]:(List Zh))⟩:Zc)⟩:Zh),(⟨0,1,([]:(List Zb)),(⟨0,(⟨0,([]:(List Int)),([]:(List Zb))⟩:Zb),(⟨0,([]:(List Int)),([]:(List Zb))⟩:Zb),([]:(List Zj)),([]:(List Zd)),0,([]:(List Zh))⟩:Zc)⟩:Zh)]:List Zh))]⟩]) (Yd hU rfl rfl ?_) ?_
 ·exact zSe
 refine Zk ?_
 obtain ⟨y2,hy2,h⟩:=bC h
 refine zR ?_
 refine GCalls.argsW ?_ ((Znr hy2).then ?_)
 ·exact zSe
 refine zS ?_
 refine zD [4,5] [false,false,false,false,false,false,true] ?_
 obtain ⟨z7,hz7,h⟩:=bC h
 refine Xl (E':=⟨53,[],[(0,(vB z7))]⟩) (O':=(Zv O n [none,none,none,none,none,none,none])) (n0:=(n+7)) ?_ ?_
 ·rcases Bool.eq_false_or_eq_true y2.2 with c16 | c16
  ·replace hz7:=Zs c16 hz7
   rcases Bool.eq_false_or_eq_true (y2.1.Kind == 3) with c17 | c17
   ·replace hz7:=Zs c17 hz7
    try rw [c17] at c16
    rcases Bool.eq_false_or_eq_true ((y2.1.Ops.length:Int) == 1) with c18 | c18
    ·replace hz7:=Zs c18 hz7
     try rw [c18] at c16
     try rw [c18] at c17
     obtain ⟨x12,hx12,ax12,bx12,cx12,hz7⟩:=bE (f:=Zf) Zel (fun _=>rfl) (by decide) hz7
     have g13:=Zqu (f:=Zf) (sz:=14) Z6p (fun _=>rfl) (by decide) (by decide) hx12
     rcases Bool.eq_false_or_eq_true (x12.Kind == 0) with c19 | c19
     ·replace hz7:=Zs c19 hz7
      try rw [c19] at c16
      try rw [c19] at c17
      try rw [c19] at c18
      have g15:=Zhg (f:=Zf) (off:=1) (sz:=14) Z6p (fun _=>rfl) (by decide) (by decide) hx12
      refine Xf Z5 [none,none,none,none,none,none,none,some true,some true,some true,some true,some true,some true,some true,some true,some true,some true,some true,some true] ?_
      refine zF9 c16 c17 c18 ax12 bx12 cx12 g13 c19 g15 ?_
      refine zG ?_
      have hz7:=Option.some.inj hz7;subst hz7
      refine And.intro rfl (Fit2.of (Yd hU rfl rfl ?_) (by omega))
      exact Z42 c16 c17 c18 ax12 bx12 cx12 g13 c19 g15
     replace hz7:=Zr c19 hz7
     try rw [c19] at c16
     try rw [c19] at c17
     try rw [c19] at c18
     refine Yku [none,none,none,none,none,none,none,some true,some true,some true,some true,some true,some true,some false,some false,some false,some false,some false,some false] c16 c17 c18 ax12 bx12 cx12 g13 c19 ?_
     refine zG ?_
     exact Yhz hz7 c16 c17 c18 ax12 bx12 cx12 g13 c19
    replace hz7:=Zr c18 hz7
    try rw [c18] at c16
    try rw [c18] at c17
    refine Zdu [none,none,none,none,none,none,none,some false,some false,some false,some false,some false,some false,some false,some false,some false,some false,some false,some false] c16 c17 c18 ?_
    refine zG ?_
    exact Zf3 hz7 c16 c17 c18
   replace hz7:=Zr c17 hz7
   try rw [c17] at c16
   refine K1 [none,none,none,none,none,none,none,some false,some false,some false,some false,some false,some false,some false,some false,some false,some false,some false,some false] c16 c17 ?_
   refine zG ?_
   exact Zck hz7 c16 c17
  replace hz7:=Zr c16 hz7
  refine Vf [none,none,none,none,none,none,none,some false,some false,some false,some false,some false,some false,some false,some false,some false,some false,some false,some false] c16 ?_
  refine zG ?_
  exact Kk hz7 c16
 exact Yu [(vB z7)]
theorem Zmj {a0:Int} {r:Zb} {O:Objs} {n:Nat} (h:Zdi a0=some r):GTo Try.prog 61 [(vI a0)] O n (.agg (Zn r)) O n:=by
 unfold Zdi at h
 refine zFn Try.call61 Try.func61 fun hU hN0 hN => ?_
 show W _ _ _ _ ⟨12,[],[(0,(vI a0))]⟩ (Zv O n []) _
 refine zQ [0,2] ?_
 refine Zk ?_
 refine zQ [2,3] ?_
 refine Ya ?_
 refine zQ [2,3,4] ?_
 refine Zt (t:=(a0 == 8)) rfl (fun c2 => ?_) (fun c2 => ?_)
 ·replace h:=Zs c2 h
  refine Zk ?_
  refine zRd [2] [true] ?_
  exact Yu [.agg [(vI 0),nV,nV]]
 replace h:=Zr c2 h
 refine zQ [2,7] ?_
 refine Zt (t:=(a0 == 9)) rfl (fun c1 => ?_) (fun c1 => ?_)
 ·replace h:=Zs c1 h
  refine Zk ?_
  refine zRd [2] [true] ?_
  exact Yu [.agg [(vI 1),nV,nV]]
 replace h:=Zr c1 h
 refine Kq [2] [true] ?_
 refine Zk ?_
 refine zR ?_
 refine Zbc ⟨12,[],[(2,.ref n 0)]⟩ (Zv O n [some ⟨false,25,3,1,[(vI 10),.row (n+1) ([0]:List Int).length,nV]⟩,some (oR 40 1 (eI .u64) ([0]:List Int))]) (Yd hU rfl rfl ?_) ?_
 ·exact zSe
 exact Yu [.agg [(vI 10),.row (n+1) ([0]:List Int).length,nV]]
attribute [local push_cast] Try.results103 Try.results106 Try.results124 Try.results126 Try.results127 Try.results13 Try.results131 Try.results132 Try.results133 Try.results135 Try.results136 Try.results32 Try.results33 Try.results62 Try.results63 Try.results64 Try.results65
def Zek (Xx:(Zc→Option Zb)):Prop:=∀ {a0:Zc} {r:Zb} {O:Objs} {n:Nat},Xx a0=some r→GTo Try.prog 13 [.agg (Ze a0)] O n (.agg (Zn r)) O n
def Gq (Xk:(Zc→Option Zb)):Prop:=∀ {a0:Zc} {r:Zb} {O:Objs} {n:Nat},Xk a0=some r→GTo Try.prog 32 [.agg (Ze a0)] O n (.agg (Zn r)) O n
def Zba (Xy:(Zc→Option Zb)):Prop:=∀ {a0:Zc} {r:Zb} {O:Objs} {n:Nat},Xy a0=some r→GTo Try.prog 33 [.agg (Ze a0)] O n (.agg (Zn r)) O n
theorem Zuc {Xx:(Zc→Option Zb)} {Xk:(Zc→Option Zb)} {Xy:(Zc→Option Zb)} (Gt:Zek Xx) (Zce:Gq Xk) (Zd4:Zba Xy) {a0:Zc} {r:Zb} {O:Objs} {n:Nat} (h:Zen Xx Xk Xy a0=some r):GTo Try.prog 13 [.agg (Ze a0)] O n (.agg (Zn r)) O n:=by
 unfold Zen at h
 refine zFn Try.call13 Try.func13 fun hU hN0 hN => ?_
 show W _ _ _ _ ⟨18,[],[(0,.agg (Ze a0))]⟩ (Zv O n []) _
 refine zQ [1,2] ?_
 refine Zk ?_
 refine zQ [1,2,4] ?_
 refine Ya ?_
 refine zQ [1,2,4,5] ?_
 refine Zt (t:=(a0.Kind == 1)) rfl (fun c7 => ?_) (fun c7 => ?_)
 ·replace h:=Zs c7 h
  refine Zk ?_
  refine zRd [2] [false,true] ?_
  exact Yu [.agg (Zn a0.Old)]
 replace h:=Zr c7 h
 refine zQ [1,2,4,9] ?_
 refine Zt (t:=(a0.Kind == 2)) rfl (fun c6 => ?_) (fun c6 => ?_)
 ·replace h:=Zs c6 h
  refine Zk ?_
  obtain ⟨y2,hy2,h⟩:=bC h
  refine zCd (Zce hy2) [2] [false,true] ?_
  exact Yu [.agg (Zn y2)]
 replace h:=Zr c6 h
 refine zQ [1,2,13] ?_
 refine Zt (t:=(a0.Kind == 3)) rfl (fun c5 => ?_) (fun c5 => ?_)
 ·replace h:=Zs c5 h
  refine Zk ?_
  obtain ⟨y4,hy4,h⟩:=bC h
  refine zCd (Zd4 hy4) [2] [false,true] ?_
  exact Yu [.agg (Zn y4)]
 replace h:=Zr c5 h
 refine Kq [2] [false,true] ?_
 refine Zk ?_
 refine zRd [2] [false,true] ?_
 exact Yu [.agg [(vI 0),nV,nV]]
theorem Zna {Xx:(Zc→Option Zb)} {Xk:(Zc→Option Zb)} {Xy:(Zc→Option Zb)} (Gt:Zek Xx) (Zce:Gq Xk) (Zd4:Zba Xy) {a0:Zc} {r:Zb} {O:Objs} {n:Nat} (h:Gc Xx Xk Xy a0=some r):GTo Try.prog 32 [.agg (Ze a0)] O n (.agg (Zn r)) O n:=by
 unfold Gc at h
 refine zFn Try.call32 Try.func32 fun hU hN0 hN => ?_
 show W _ _ _ _ ⟨66,[],[(0,.agg (Ze a0))]⟩ (Zv O n []) _
 refine zQ [1,2] ?_
 refine Zk ?_
 refine zRd [1,2,3] [true,true,true] ?_
 refine Zk ?_
 refine zQd [1,2,3,10,11,12] [1,2,3,10,11,12] [true,true,true] ?_
 refine J9 (E':=(⟨66,[],[(1,.ref n 0),(2,.ref (n+1) 0),(3,.ref (n+2) 0),(10,(sL Zg a0.Words)),(11,(vI (a0.Words.length:Int))),(12,(vI 0))]⟩:Env)) (O':=(Zv O n [some ⟨false,30,11,1,(Ze a0)⟩,some ⟨false,25,3,1,[(vI 0),nV,nV]⟩,some ⟨false,25,3,1,[(vI 1),.row (n+3) ([]:List Int).length,nV]⟩,some (oR 40 1 (eI .u64) ([]:List Int)),none])) (n':=(n+5)) ?_ ?_
 ·refine Fit2.trans (E':=(⟨66,[],[(1,.ref n 0),(2,.ref (n+1) 0),(3,.ref (n+2) 0),(10,(sL Zg a0.Words)),(11,(vI (a0.Words.length:Int))),(12,(vI 0))]⟩:Env)) (O':=(Zv O n [some ⟨false,30,11,1,(Ze a0)⟩,some ⟨false,25,3,1,[(vI 0),nV,nV]⟩,some ⟨false,25,3,1,[(vI 1),nV,nV]⟩])) (n':=(n+3)) (Fit2.of (Yd hU rfl rfl ?_) (by omega)) ?_
  ·exact zSe
  refine Fit2.trans (Vg (p:=(n+2)) (k:=1) (q:=⟨false,25,3,1,[(vI 1),nV,nV]⟩) 40 1 (by simp only [Uv,Za8,List.getElem?_cons_zero,List.getElem?_cons_succ,Option.join_some,List.length_nil,Yk]) rfl (by omega)) ?_
  simp only [Xp,Yz,Un,K7,List.set_cons_zero,List.set_cons_succ,List.cons_append,List.nil_append,List.length_cons,List.length_nil,Nat.zero_add,Nat.reduceAdd,Nat.reduceLT,Nat.add_assoc]
  refine J8 (k:=4) (k':=5) hU [0,1,2,3] [0,1,2,3,0] rfl rfl rfl rfl ⟨rfl,rfl⟩ ?_
  exact zSe
 obtain ⟨z8,hz8,h⟩:=bC h
 refine Yy (E':=⟨66,[],[(1,.ref n 0),(2,.ref (n+1) 0),(3,.ref (n+2) 0)]⟩) (O':=(Zv O n [some ⟨false,30,11,1,(Ze a0)⟩,some ⟨false,25,3,1,[(vI 0),nV,nV]⟩,some ⟨false,25,3,1,[(vI 1),.row (n+3) z8.length,nV]⟩,some (oR 40 1 (eI .u64) z8),none])) (n0:=(n+5)) ?_ ?_
 ·refine Xj hz8 (fun s0_=>⟨66,[],[(1,.ref n 0),(2,.ref (n+1) 0),(3,.ref (n+2) 0),(10,(sL Zg a0.Words)),(11,(vI (a0.Words.length:Int))),(12,(vI s0_.1))]⟩) (fun s0_=>(Zv O n [some ⟨false,30,11,1,(Ze a0)⟩,some ⟨false,25,3,1,[(vI 0),nV,nV]⟩,some ⟨false,25,3,1,[(vI 1),.row (n+3) s0_.2.length,nV]⟩,some (oR 40 1 (eI .u64) s0_.2),none])) (fun z8=>JX 0 n (⟨66,[],[(1,.ref n 0),(2,.ref (n+1) 0),(3,.ref (n+2) 0)]⟩:Env) (Zv O n [some ⟨false,30,11,1,(Ze a0)⟩,some ⟨false,25,3,1,[(vI 0),nV,nV]⟩,some ⟨false,25,3,1,[(vI 1),.row (n+3) z8.length,nV]⟩,some (oR 40 1 (eI .u64) z8),none]) (n+5)) ?_
  intro s0_ x0_ hs0_
  unfold Vm at hs0_
  try dsimp only
  refine zQ [1,2,3,10,11,12,13] ?_
  refine Zk ?_
  refine Zt (t:=(decide (s0_.1 < (a0.Words.length:Int)))) rfl (fun c7 => ?_) (fun c7 => ?_)
  ·replace hs0_:=Zs c7 hs0_
   refine Kq [1,2,3,10,11,12] [true,true,true,true,false] ?_
   refine Zk ?_
   refine Ya ?_
   refine Zk ?_
   obtain ⟨x2,hx2,ax2,bx2,cx2,hs0_⟩:=bE (f:=Zg) Zhk (fun _=>rfl) (by decide) hs0_
   refine Zby [] ax2 bx2 cx2 ?_
   refine zDs [1,2,3,5,10,11,12] [true,true,true,true,false,true] ?_
   refine zD [1,2,3,5,10,11,12] [true,true,true,true,false,true] ?_
   obtain ⟨z5,hz5,hs0_⟩:=bC hs0_
   refine Yy (E':=⟨66,[],[(1,.ref n 0),(2,.ref (n+1) 0),(3,.ref (n+2) 0),(5,.ref (n+5) 0),(10,(sL Zg a0.Words)),(11,(vI (a0.Words.length:Int))),(12,(vI s0_.1))]⟩) (O':=(Zv O n [some ⟨false,30,11,1,(Ze a0)⟩,some ⟨false,25,3,1,[(vI 0),nV,nV]⟩,some ⟨false,25,3,1,[(vI 1),.row (n+3) z5.length,nV]⟩,some (oR 40 1 (eI .u64) z5),none,some ⟨false,42,4,1,(X4 x2)⟩])) (n0:=(n+6)) ?_ ?_
   ·refine Xj hz5 (fun s1_=>⟨66,[],[(1,.ref n 0),(2,.ref (n+1) 0),(3,.ref (n+2) 0),(5,.ref (n+5) 0),(10,(sL Zg a0.Words)),(11,(vI (a0.Words.length:Int))),(12,(vI s0_.1))]⟩) (fun s1_=>(Zv O n [some ⟨false,30,11,1,(Ze a0)⟩,some ⟨false,25,3,1,[(vI 0),nV,nV]⟩,some ⟨false,25,3,1,[(vI 1),.row (n+3) s1_.length,nV]⟩,some (oR 40 1 (eI .u64) s1_),none,some ⟨false,42,4,1,(X4 x2)⟩])) (fun z5=>JX 2 n (⟨66,[],[(1,.ref n 0),(2,.ref (n+1) 0),(3,.ref (n+2) 0),(5,.ref (n+5) 0),(10,(sL Zg a0.Words)),(11,(vI (a0.Words.length:Int))),(12,(vI s0_.1))]⟩:Env) (Zv O n [some ⟨false,30,11,1,(Ze a0)⟩,some ⟨false,25,3,1,[(vI 0),nV,nV]⟩,some ⟨false,25,3,1,[(vI 1),.row (n+3) z5.length,nV]⟩,some (oR 40 1 (eI .u64) z5),none,some ⟨false,42,4,1,(X4 x2)⟩]) (n+6)) ?_
    intro s1_ x1_ hs1_
    unfold Zb5 at hs1_
    try dsimp only
    refine Zk ?_
    refine zQ [1,2,3,5,10,11,12,22] ?_
    refine Zt (t:=(decide ((s1_.length:Int) < (if 65534 < x2.At then 65534 else x2.At)))) rfl (fun c4 => ?_) (fun c4 => ?_)
    ·replace hs1_:=Zs c4 hs1_
     refine Kq [1,2,3,5,10,11,12] [true,true,true,true,false,true] ?_
     refine Ya ?_
     obtain ⟨l3,pl3,ql3,el3,hs1_⟩:=bA (k:=1) rfl hs1_
     refine Zdu [] pl3 ql3 el3 ?_
     exact Zf3 hs1_ pl3 ql3 el3
    replace hs1_:=Zr c4 hs1_
    exact zEx hs1_
   try simp only [Xe,Yi,↓reduceIte,Nat.reduceEqDiff]
   refine zD [1,2,3,5,10,11,12] [true,true,true,true,false,true] ?_
   obtain ⟨l6,pl6,ql6,el6,hs0_⟩:=bA (k:=1) rfl hs0_
   refine Zdu [] pl6 ql6 el6 ?_
   refine Zbc ⟨66,[],[(1,.ref n 0),(2,.ref (n+1) 0),(3,.ref (n+2) 0),(10,(sL Zg a0.Words)),(11,(vI (a0.Words.length:Int))),(12,(vI s0_.1))]⟩ (Zv O n [some ⟨false,30,11,1,(Ze a0)⟩,some ⟨false,25,3,1,[(vI 0),nV,nV]⟩,some ⟨false,25,3,1,[(vI 1),.row (n+3) l6.length,nV]⟩,some (oR 40 1 (eI .u64) l6),none,none,none]) (Yd hU rfl rfl ?_) ?_
   ·exact Zz5 pl6 ql6 el6
   refine zR ?_
   exact zEn hs0_
  replace hs0_:=Zr c7 hs0_
  exact zEx hs0_
 try simp only [Xe,Yi,↓reduceIte,Nat.reduceEqDiff]
 refine zDs [1,2,3] [true,true,true,true,false] ?_
 refine zQd [2,3,37,38,39] [2,3,37,38,39] [false,true,true,true,false] ?_
 refine J9 (E':=(⟨66,[],[(2,.ref (n+1) 0),(3,.ref (n+2) 0),(37,(sL Zi a0.Kids)),(38,(vI (a0.Kids.length:Int))),(39,(vI 0))]⟩:Env)) (O':=(Zv O n [none,some ⟨false,25,3,1,[(vI 0),nV,nV]⟩,some ⟨false,25,3,1,[(vI 1),.row (n+3) z8.length,.row (n+5) ([]:List Zb).length]⟩,some (oR 40 1 (eI .u64) z8),none,some (oR 25 3 Za ([]:List Zb)),none])) (n':=(n+7)) ?_ ?_
 ·refine Fit2.trans (E':=(⟨66,[],[(2,.ref (n+1) 0),(3,.ref (n+2) 0),(37,(sL Zi a0.Kids)),(38,(vI (a0.Kids.length:Int))),(39,(vI 0))]⟩:Env)) (O':=(Zv O n [none,some ⟨false,25,3,1,[(vI 0),nV,nV]⟩,some ⟨false,25,3,1,[(vI 1),.row (n+3) z8.length,nV]⟩,some (oR 40 1 (eI .u64) z8),none])) (n':=(n+5)) (Fit2.of (Yd hU rfl rfl ?_) (by omega)) ?_
  ·exact zSe
  refine Fit2.trans (Vg (p:=(n+2)) (k:=2) (q:=⟨false,25,3,1,[(vI 1),.row (n+3) z8.length,nV]⟩) 25 3 (by simp only [Uv,Za8,List.getElem?_cons_zero,List.getElem?_cons_succ,Option.join_some,List.length_nil,Yk]) rfl (by omega)) ?_
  simp only [Xp,Yz,Un,K7,List.set_cons_zero,List.set_cons_succ,List.cons_append,List.nil_append,List.length_cons,List.length_nil,Nat.zero_add,Nat.reduceAdd,Nat.reduceLT,Nat.add_assoc]
  refine J8 (k:=6) (k':=7) hU [6,1,2,3,6,5] [0,1,2,3,0,5,0] rfl rfl rfl rfl ⟨rfl,rfl⟩ ?_
  exact zSe
 obtain ⟨z17,hz17,h⟩:=bC h
 refine Yy (E':=⟨66,[],[(2,.ref (n+1) 0),(3,.ref (n+2) 0)]⟩) (O':=(Zv O n [none,some ⟨false,25,3,1,[(vI 0),nV,nV]⟩,some ⟨false,25,3,1,[(vI 1),.row (n+3) z8.length,.row (n+5) z17.length]⟩,some (oR 40 1 (eI .u64) z8),none,some (oR 25 3 Za z17),none])) (n0:=(n+7)) ?_ ?_
 ·refine Xj hz17 (fun s2_=>⟨66,[],[(2,.ref (n+1) 0),(3,.ref (n+2) 0),(37,(sL Zi a0.Kids)),(38,(vI (a0.Kids.length:Int))),(39,(vI s2_.1))]⟩) (fun s2_=>(Zv O n [none,some ⟨false,25,3,1,[(vI 0),nV,nV]⟩,some ⟨false,25,3,1,[(vI 1),.row (n+3) z8.length,.row (n+5) s2_.2.length]⟩,some (oR 40 1 (eI .u64) z8),none,some (oR 25 3 Za s2_.2),none])) (fun z17=>JX 4 n (⟨66,[],[(2,.ref (n+1) 0),(3,.ref (n+2) 0)]⟩:Env) (Zv O n [none,some ⟨false,25,3,1,[(vI 0),nV,nV]⟩,some ⟨false,25,3,1,[(vI 1),.row (n+3) z8.length,.row (n+5) z17.length]⟩,some (oR 40 1 (eI .u64) z8),none,some (oR 25 3 Za z17),none]) (n+7)) ?_
  intro s2_ x2_ hs2_
  unfold Vn at hs2_
  try dsimp only
  refine zQ [2,3,37,38,39,40] ?_
  refine Zk ?_
  refine Zt (t:=(decide (s2_.1 < (a0.Kids.length:Int)))) rfl (fun c16 => ?_) (fun c16 => ?_)
  ·replace hs2_:=Zs c16 hs2_
   refine Kq [2,3,37,38,39] [false,true,true,true,false,true,false] ?_
   refine Zk ?_
   refine Ya ?_
   refine Zk ?_
   obtain ⟨x10,hx10,ax10,bx10,cx10,hs2_⟩:=bE (f:=Zi) Zfm (fun _=>rfl) (by decide) hs2_
   refine Zby [] ax10 bx10 cx10 ?_
   refine zDs [2,3,7,37,38,39] [false,true,true,true,false,true,false,true] ?_
   refine zD [2,3,7,37,38,39] [false,true,true,true,false,true,false,true] ?_
   obtain ⟨z13,hz13,hs2_⟩:=bC hs2_
   refine Yy (E':=⟨66,[],[(2,.ref (n+1) 0),(3,.ref (n+2) 0),(7,.ref (n+7) 0),(37,(sL Zi a0.Kids)),(38,(vI (a0.Kids.length:Int))),(39,(vI s2_.1))]⟩) (O':=(Zv O n [none,some ⟨false,25,3,1,[(vI 0),nV,nV]⟩,some ⟨false,25,3,1,[(vI 1),.row (n+3) z8.length,.row (n+5) z13.length]⟩,some (oR 40 1 (eI .u64) z8),none,some (oR 25 3 Za z13),none,some ⟨false,55,12,1,(Xt x10)⟩])) (n0:=(n+8)) ?_ ?_
   ·refine Xj hz13 (fun s3_=>⟨66,[],[(2,.ref (n+1) 0),(3,.ref (n+2) 0),(7,.ref (n+7) 0),(37,(sL Zi a0.Kids)),(38,(vI (a0.Kids.length:Int))),(39,(vI s2_.1))]⟩) (fun s3_=>(Zv O n [none,some ⟨false,25,3,1,[(vI 0),nV,nV]⟩,some ⟨false,25,3,1,[(vI 1),.row (n+3) z8.length,.row (n+5) s3_.length]⟩,some (oR 40 1 (eI .u64) z8),none,some (oR 25 3 Za s3_),none,some ⟨false,55,12,1,(Xt x10)⟩])) (fun z13=>JX 6 n (⟨66,[],[(2,.ref (n+1) 0),(3,.ref (n+2) 0),(7,.ref (n+7) 0),(37,(sL Zi a0.Kids)),(38,(vI (a0.Kids.length:Int))),(39,(vI s2_.1))]⟩:Env) (Zv O n [none,some ⟨false,25,3,1,[(vI 0),nV,nV]⟩,some ⟨false,25,3,1,[(vI 1),.row (n+3) z8.length,.row (n+5) z13.length]⟩,some (oR 40 1 (eI .u64) z8),none,some (oR 25 3 Za z13),none,some ⟨false,55,12,1,(Xt x10)⟩]) (n+8)) ?_
    intro s3_ x3_ hs3_
    unfold Zb6 at hs3_
    try dsimp only
    refine Zk ?_
    refine zQ [2,3,7,37,38,39,49] ?_
    refine Zt (t:=(decide ((s3_.length:Int) < (if 65534 < x10.At then 65534 else x10.At)))) rfl (fun c12 => ?_) (fun c12 => ?_)
    ·replace hs3_:=Zs c12 hs3_
     refine Kq [2,3,7,37,38,39] [false,true,true,true,false,true,false,true] ?_
     refine Ya ?_
     obtain ⟨l11,pl11,ql11,el11,hs3_⟩:=bA (k:=1) rfl hs3_
     refine Zdu [] pl11 ql11 el11 ?_
     exact Zf3 hs3_ pl11 ql11 el11
    replace hs3_:=Zr c12 hs3_
    exact zEx hs3_
   try simp only [Xe,Yi,↓reduceIte,Nat.reduceEqDiff]
   refine zD [2,3,7,37,38,39] [false,true,true,true,false,true,false,true] ?_
   obtain ⟨y14,hy14,hs2_⟩:=bC hs2_
   obtain ⟨l15,pl15,ql15,el15,hs2_⟩:=bA (k:=1) rfl hs2_
   refine Jv Z5 (by kernel_rfl) [.low,.low,.plain,.plain,.plain,.pass,.bar,.plain,.bar] (fun i=>i < (n+8)) [0,1,2,3,4,5,6,7,8] [.low,.low,.plain,.plain,.plain,.pass,.bar,.plain,.bar] [] (by kernel_rfl) rfl ?_
   refine zX3 pl15 ql15 el15 ?_
   refine zO ?_
   first | refine PCallA.of (fun _ _=>Gt hy14) ?_ | refine PCall.of (Gt hy14) ?_
   refine zX3 pl15 ql15 el15 ?_
   refine zO ?_
   refine Zbc ⟨66,[],[(2,.ref (n+1) 0),(3,.ref (n+2) 0),(37,(sL Zi a0.Kids)),(38,(vI (a0.Kids.length:Int))),(39,(vI s2_.1))]⟩ (Zv O n [none,some ⟨false,25,3,1,[(vI 0),nV,nV]⟩,some ⟨false,25,3,1,[(vI 1),.row (n+3) z8.length,.row (n+5) l15.length]⟩,some (oR 40 1 (eI .u64) z8),none,some (oR 25 3 Za l15),none,none,none]) (Yd hU rfl rfl ?_) ?_
   ·exact Zz5 pl15 ql15 el15
   refine zR ?_
   exact zEn hs2_
  replace hs2_:=Zr c16 hs2_
  exact zEx hs2_
 try simp only [Xe,Yi,↓reduceIte,Nat.reduceEqDiff]
 refine zDs [2,3] [false,true,true,true,false,true,false] ?_
 refine zRd [2] [false,true,false,true,false,true,false] ?_
 exact Yu [.agg [(vI 1),.row (n+3) z8.length,.row (n+5) z17.length]]
theorem Zov {Xx:(Zc→Option Zb)} {Xk:(Zc→Option Zb)} {Xy:(Zc→Option Zb)} (Gt:Zek Xx) (Zce:Gq Xk) (Zd4:Zba Xy) {a0:Zc} {r:Zb} {O:Objs} {n:Nat} (h:Zam Xx Xk Xy a0=some r):GTo Try.prog 33 [.agg (Ze a0)] O n (.agg (Zn r)) O n:=by
 unfold Zam at h
 refine zFn Try.call33 Try.func33 fun hU hN0 hN => ?_
 show W _ _ _ _ ⟨54,[],[(0,.agg (Ze a0))]⟩ (Zv O n []) _
 refine zQ [1,2] ?_
 refine Zk ?_
 refine zRd [1,2,3] [true,true,true] ?_
 refine Zk ?_
 refine zQd [1,2,3,10,11,12] [1,2,3,10,11,12] [true,true,true] ?_
 refine J9 (E':=(⟨54,[],[(1,.ref n 0),(2,.ref (n+1) 0),(3,.ref (n+2) 0),(10,(sL Zf a0.Ops)),(11,(vI (a0.Ops.length:Int))),(12,(vI 0))]⟩:Env)) (O':=(Zv O n [some ⟨false,30,11,1,(Ze a0)⟩,some ⟨false,25,3,1,[(vI 0),nV,nV]⟩,some ⟨false,25,3,1,[(vI a0.List_),nV,.row (n+3) ([]:List Zb).length]⟩,some (oR 25 3 Za ([]:List Zb)),none])) (n':=(n+5)) ?_ ?_
 ·refine Fit2.trans (E':=(⟨54,[],[(1,.ref n 0),(2,.ref (n+1) 0),(3,.ref (n+2) 0),(10,(sL Zf a0.Ops)),(11,(vI (a0.Ops.length:Int))),(12,(vI 0))]⟩:Env)) (O':=(Zv O n [some ⟨false,30,11,1,(Ze a0)⟩,some ⟨false,25,3,1,[(vI 0),nV,nV]⟩,some ⟨false,25,3,1,[(vI a0.List_),nV,nV]⟩])) (n':=(n+3)) (Fit2.of (Yd hU rfl rfl ?_) (by omega)) ?_
  ·exact zSe
  refine Fit2.trans (Vg (p:=(n+2)) (k:=2) (q:=⟨false,25,3,1,[(vI a0.List_),nV,nV]⟩) 25 3 (by simp only [Uv,Za8,List.getElem?_cons_zero,List.getElem?_cons_succ,Option.join_some,List.length_nil,Yk]) rfl (by omega)) ?_
  simp only [Xp,Yz,Un,K7,List.set_cons_zero,List.set_cons_succ,List.cons_append,List.nil_append,List.length_cons,List.length_nil,Nat.zero_add,Nat.reduceAdd,Nat.reduceLT,Nat.add_assoc]
  refine J8 (k:=4) (k':=5) hU [0,1,2,3] [0,1,2,3,0] rfl rfl rfl rfl ⟨rfl,rfl⟩ ?_
  exact zSe
 obtain ⟨z15,hz15,h⟩:=bC h
 refine Yy (E':=⟨54,[],[(2,.ref (n+1) 0),(3,.ref (n+2) 0)]⟩) (O':=(Zv O n [none,some ⟨false,25,3,1,[(vI 0),nV,nV]⟩,some ⟨false,25,3,1,[(vI a0.List_),nV,.row (n+3) z15.length]⟩,some (oR 25 3 Za z15),none])) (n0:=(n+5)) ?_ ?_
 ·refine Xj hz15 (fun s0_=>⟨54,[],[(1,.ref n 0),(2,.ref (n+1) 0),(3,.ref (n+2) 0),(10,(sL Zf a0.Ops)),(11,(vI (a0.Ops.length:Int))),(12,(vI s0_.1))]⟩) (fun s0_=>(Zv O n [some ⟨false,30,11,1,(Ze a0)⟩,some ⟨false,25,3,1,[(vI 0),nV,nV]⟩,some ⟨false,25,3,1,[(vI a0.List_),nV,.row (n+3) s0_.2.length]⟩,some (oR 25 3 Za s0_.2),none])) (fun z15=>JX 0 n (⟨54,[],[(2,.ref (n+1) 0),(3,.ref (n+2) 0)]⟩:Env) (Zv O n [none,some ⟨false,25,3,1,[(vI 0),nV,nV]⟩,some ⟨false,25,3,1,[(vI a0.List_),nV,.row (n+3) z15.length]⟩,some (oR 25 3 Za z15),none]) (n+5)) ?_
  intro s0_ x0_ hs0_
  unfold Ur at hs0_
  try dsimp only
  refine zQ [1,2,3,10,11,12,13] ?_
  refine Zk ?_
  refine Zt (t:=(decide (s0_.1 < (a0.Ops.length:Int)))) rfl (fun c14 => ?_) (fun c14 => ?_)
  ·replace hs0_:=Zs c14 hs0_
   refine Kq [1,2,3,10,11,12] [true,true,true,true,false] ?_
   obtain ⟨z1,hz1,hs0_⟩:=bC hs0_
   refine Xl (E':=⟨54,[],[(1,.ref n 0),(2,.ref (n+1) 0),(3,.ref (n+2) 0),(10,(sL Zf a0.Ops)),(11,(vI (a0.Ops.length:Int))),(12,(vI s0_.1))]⟩) (O':=(Zv O n [some ⟨false,30,11,1,(Ze a0)⟩,some ⟨false,25,3,1,[(vI 0),nV,nV]⟩,some ⟨false,25,3,1,[(vI a0.List_),nV,.row (n+3) z1.length]⟩,some (oR 25 3 Za z1),none,none,none])) (n0:=(n+7)) ?_ ?_
   ·refine Ya ?_
    refine Zk ?_
    obtain ⟨x3,hx3,ax3,bx3,cx3,hz1⟩:=bE (f:=Zf) Zel (fun _=>rfl) (by decide) hz1
    refine Zby [] ax3 bx3 cx3 ?_
    refine zD [1,2,3,5,10,11,12] [true,true,true,true,false,true] ?_
    refine zQ [1,2,3,5,10,11,12,17] ?_
    refine Ya ?_
    refine zQ [1,2,3,5,10,11,12,17,18] ?_
    refine Zt (t:=(x3.Kind == 0)) rfl (fun c13 => ?_) (fun c13 => ?_)
    ·replace hz1:=Zs c13 hz1
     refine zQd [1,2,3,10,11,12,22,23] [1,2,3,10,11,12,22,23] [true,true,true,true,false,false] ?_
     obtain ⟨z7,hz7,hz1⟩:=bC hz1
     refine Yy (E':=⟨54,[],[(1,.ref n 0),(2,.ref (n+1) 0),(3,.ref (n+2) 0),(10,(sL Zf a0.Ops)),(11,(vI (a0.Ops.length:Int))),(12,(vI s0_.1))]⟩) (O':=(Zv O n [some ⟨false,30,11,1,(Ze a0)⟩,some ⟨false,25,3,1,[(vI 0),nV,nV]⟩,some ⟨false,25,3,1,[(vI a0.List_),nV,.row (n+3) z7.length]⟩,some (oR 25 3 Za z7),none,none])) (n0:=(n+6)) ?_ ?_
     ·refine Xj hz7 (fun s1_=>⟨54,[],[(1,.ref n 0),(2,.ref (n+1) 0),(3,.ref (n+2) 0),(10,(sL Zf a0.Ops)),(11,(vI (a0.Ops.length:Int))),(12,(vI s0_.1)),(22,(vI (if 1048576 < x3.N then 1048576 else x3.N))),(23,(vI s1_.1))]⟩) (fun s1_=>(Zv O n [some ⟨false,30,11,1,(Ze a0)⟩,some ⟨false,25,3,1,[(vI 0),nV,nV]⟩,some ⟨false,25,3,1,[(vI a0.List_),nV,.row (n+3) s1_.2.length]⟩,some (oR 25 3 Za s1_.2),none,none])) (fun z7=>JX 3 n (⟨54,[],[(1,.ref n 0),(2,.ref (n+1) 0),(3,.ref (n+2) 0),(10,(sL Zf a0.Ops)),(11,(vI (a0.Ops.length:Int))),(12,(vI s0_.1))]⟩:Env) (Zv O n [some ⟨false,30,11,1,(Ze a0)⟩,some ⟨false,25,3,1,[(vI 0),nV,nV]⟩,some ⟨false,25,3,1,[(vI a0.List_),nV,.row (n+3) z7.length]⟩,some (oR 25 3 Za z7),none,none]) (n+6)) ?_
      intro s1_ x1_ hs1_
      unfold Za9 at hs1_
      try dsimp only
      refine zQ [1,2,3,10,11,12,22,23,24] ?_
      refine Zk ?_
      refine Zt (t:=(decide (s1_.1 < (if 1048576 < x3.N then 1048576 else x3.N)))) rfl (fun c6 => ?_) (fun c6 => ?_)
      ·replace hs1_:=Zs c6 hs1_
       refine Kq [1,2,3,10,11,12,22,23] [true,true,true,true,false,false] ?_
       refine Zk ?_
       refine Ya ?_
       obtain ⟨y4,hy4,hs1_⟩:=bC hs1_
       obtain ⟨l5,pl5,ql5,el5,hs1_⟩:=bA (k:=1) rfl hs1_
       refine Jv Z5 (by kernel_rfl) [.low,.low,.plain,.plain,.plain,.pass,.bar,.plain,.bar] (fun i=>i < (n+6)) [0,1,2,3,4,5,6,7,8] [.low,.low,.plain,.plain,.plain,.pass,.bar,.plain,.bar] [] (by kernel_rfl) rfl ?_
       refine zX3 pl5 ql5 el5 ?_
       refine zO ?_
       first | refine PCallA.of (fun _ _=>Zmj hy4) ?_ | refine PCall.of (Zmj hy4) ?_
       refine zX3 pl5 ql5 el5 ?_
       refine zO ?_
       refine Zbc ⟨54,[],[(1,.ref n 0),(2,.ref (n+1) 0),(3,.ref (n+2) 0),(10,(sL Zf a0.Ops)),(11,(vI (a0.Ops.length:Int))),(12,(vI s0_.1)),(22,(vI (if 1048576 < x3.N then 1048576 else x3.N))),(23,(vI s1_.1))]⟩ (Zv O n [some ⟨false,30,11,1,(Ze a0)⟩,some ⟨false,25,3,1,[(vI 0),nV,nV]⟩,some ⟨false,25,3,1,[(vI a0.List_),nV,.row (n+3) l5.length]⟩,some (oR 25 3 Za l5),none,none,none]) (Yd hU rfl rfl ?_) ?_
       ·exact Zz5 pl5 ql5 el5
       refine zR ?_
       exact zEn hs1_
      replace hs1_:=Zr c6 hs1_
      exact zEx hs1_
     try simp only [Xe,Yi,↓reduceIte,Nat.reduceEqDiff]
     exact zEn hz1
    replace hz1:=Zr c13 hz1
    refine zQ [1,2,3,5,10,11,12,17,34] ?_
    refine Zt (t:=(x3.Kind == 1)) rfl (fun c12 => ?_) (fun c12 => ?_)
    ·replace hz1:=Zs c12 hz1
     obtain ⟨l8,pl8,ql8,el8,hz1⟩:=bA (k:=x3.L.length) rfl hz1
     refine Zdu [] pl8 ql8 el8 ?_
     exact Zf3 hz1 pl8 ql8 el8
    replace hz1:=Zr c12 hz1
    refine zQ [1,2,3,5,10,11,12,42] ?_
    refine Zt (t:=(x3.Kind == 3)) rfl (fun c11 => ?_) (fun c11 => ?_)
    ·replace hz1:=Zs c11 hz1
     obtain ⟨y9,hy9,hz1⟩:=bC hz1
     obtain ⟨l10,pl10,ql10,el10,hz1⟩:=bA (k:=1) rfl hz1
     refine Jv Z5 (by kernel_rfl) [.low,.low,.plain,.plain,.plain,.pass,.bar,.plain,.bar] (fun i=>i < (n+6)) [0,1,2,3,4,5,6,7,8] [.low,.low,.plain,.plain,.plain,.pass,.bar,.plain,.bar] [] (by kernel_rfl) rfl ?_
     refine zX3 pl10 ql10 el10 ?_
     refine zO ?_
     first | refine PCallA.of (fun _ _=>Gt hy9) ?_ | refine PCall.of (Gt hy9) ?_
     refine zX3 pl10 ql10 el10 ?_
     refine zO ?_
     exact Zf3 hz1 pl10 ql10 el10
    replace hz1:=Zr c11 hz1
    refine zK ?_
    exact zEn hz1
   refine zR ?_
   exact zEn hs0_
  replace hs0_:=Zr c14 hs0_
  exact zEx hs0_
 try simp only [Xe,Yi,↓reduceIte,Nat.reduceEqDiff]
 refine zDs [2,3] [false,true,true,true,false] ?_
 refine zRd [2] [false,true,false,true,false] ?_
 exact Yu [.agg [(vI a0.List_),nV,.row (n+3) z15.length]]
theorem Zq4:∀ k,(Zek ((Yc k).1))∧(Gq ((Yc k).2.1))∧(Zba ((Yc k).2.2)):=fun k=>by
 induction k with
 | zero=>exact ⟨@fun a0 r O n h=>(nomatch (show (none:Option _)=some _ from h)),@fun a0 r O n h=>(nomatch (show (none:Option _)=some _ from h)),@fun a0 r O n h=>(nomatch (show (none:Option _)=some _ from h))⟩
 | succ k ih=>exact ⟨@fun a0 r O n h=>Zuc (ih.1) (ih.2.1) (ih.2.2)  h,@fun a0 r O n h=>Zna (ih.1) (ih.2.1) (ih.2.2)  h,@fun a0 r O n h=>Zov (ih.1) (ih.2.1) (ih.2.2)  h⟩
theorem Zvp {a0:Zc} {r:Zb} {O:Objs} {n:Nat} (h:Zkw a0=some r):GTo Try.prog 13 [.agg (Ze a0)] O n (.agg (Zn r)) O n:=by
 obtain ⟨k,hk⟩:=Zax h
 exact (Zq4 k).1  hk
theorem Zh8 {a0:Zb} {r:Bool} {O:Objs} {n:Nat} (h:Zah a0=some r):GTo Try.prog 63 [.agg (Zn a0)] O n ((vB r)) O n:=by
 unfold Zah at h
 refine zFn Try.call63 Try.func63 fun hU hN0 hN => ?_
 show W _ _ _ _ ⟨16,[],[(0,.agg (Zn a0))]⟩ (Zv O n []) _
 refine zQ [1] ?_
 refine zQD [2] [none,none,none,none,none,none,none,none] ?_
 exact Yu [(vB (cond (a0.Kind != 0) true (decide (0 < (IntKind.i64.wrap ((a0.Words.length:Int)+(a0.Kids.length:Int)))))))]
theorem Vc {a0:Bool} {a1:Bool} {a2:Bool} {a3:Zc} {r:Bool} {O:Objs} {n:Nat} (h:Gg a0 a1 a2 a3=some r):GTo Try.prog 62 [(vB a0),(vB a1),(vB a2),.ip (Ze a3) 0] O n ((vB r)) O n:=by
 unfold Gg at h
 refine zFn Try.call62 Try.func62 fun hU hN0 hN => ?_
 show W _ _ _ _ ⟨49,[],[(0,(vB a0)),(1,(vB a1)),(2,(vB a2)),(3,.ip (Ze a3) 0)]⟩ (Zv O n []) _
 refine zQ [0,1,2,3] ?_
 obtain ⟨z3,hz3,h⟩:=bC h
 refine Xl (E':=⟨49,[],[(7,(vB z3))]⟩) (O':=(Zv O n [])) (n0:=n) ?_ ?_
 ·rcases Bool.eq_false_or_eq_true a0 with c8 | c8
  ·replace hz3:=Zs c8 hz3
   obtain ⟨y6,hy6,hz3⟩:=bC hz3
   rcases Bool.eq_false_or_eq_true y6 with c9 | c9
   ·replace hz3:=Zs c9 hz3
    try rw [c9] at c8
    refine K1 [some true,some true,some true,some true,some false,some false,some false,some true,some false,some false,some false,some false,some false,some false,some false,some false,some false,some false,some false,some false,some false,some false,some false,some false,some false,some false,some false,some false,some false,some false,some false,some false,some false] c8 c9 ?_
    refine (Zh8 hy6).then ?_
    refine zX2 c8 c9 ?_
    exact Zck hz3 c8 c9
   replace hz3:=Zr c9 hz3
   try rw [c9] at c8
   obtain ⟨y7,hy7,hz3⟩:=bC hz3
   refine K1 [some true,some true,some true,some true,some true,some true,some true,some true,none,none,none,none,none,none,none,none,none,none,none,none,none,none,none,none,none,none,none,none,none,none,none,none,none] c8 c9 ?_
   refine zG ?_
   refine (Zh8 hy6).then ?_
   refine zX2 c8 c9 ?_
   refine zG ?_
   refine (Zh8 hy7).then ?_
   refine zX2 c8 c9 ?_
   refine zG ?_
   exact Zck hz3 c8 c9
  replace hz3:=Zr c8 hz3
  refine Vf [some false,some false,some false,some false,some false,some false,some false,some false,some true,some true,none,none,none,none,none,none,none,none,some true,some true,none,none,none,none,none,none,none,none,none,none,none,none,none] c8 ?_
  refine zG ?_
  exact Kk hz3 c8
 exact Yu [(vB z3)]
theorem Zk4 {a0:(List Zb)} {r:Bool} {O:Objs} {n:Nat} (h:Zbt a0=some r):GTo Try.prog 132 [(sL Za a0)] O n ((vB r)) O n:=by
 unfold Zbt at h
 refine zFn Try.call132 Try.func132 fun hU hN0 hN => ?_
 show W _ _ _ _ ⟨15,[],[(0,(sL Za a0))]⟩ (Zv O n []) _
 refine zQ [0] ?_
 refine Zk ?_
 refine zQd [5,6,7] [5,6,7] [] ?_
 obtain ⟨z5,hz5,h⟩:=bC h
 refine Zbd (J:=(Qn (fun z5=>JR n (⟨15,[],[(2,(vB false))]⟩:Env) (Zv O n []) n) (fun z5=>JX 0 n (⟨15,[],[]⟩:Env) (Zv O n []) n))) (z:=z5) ?_ fun hw => ?_
 ·refine Xj hz5 (fun s0_=>⟨15,[],[(5,(sL Za a0)),(6,(vI (a0.length:Int))),(7,(vI s0_))]⟩) (fun s0_=>(Zv O n [])) (Qn (fun z5=>JR n (⟨15,[],[(2,(vB false))]⟩:Env) (Zv O n []) n) (fun z5=>JX 0 n (⟨15,[],[]⟩:Env) (Zv O n []) n)) ?_
  intro s0_ x0_ hs0_
  unfold Gh at hs0_
  try dsimp only
  refine zQ [5,6,7,8] ?_
  refine Zk ?_
  refine Zt (t:=(decide (s0_ < (a0.length:Int)))) rfl (fun c4 => ?_) (fun c4 => ?_)
  ·replace hs0_:=Zs c4 hs0_
   refine Kq [5,6,7] [] ?_
   refine Zk ?_
   refine Ya ?_
   refine Zk ?_
   obtain ⟨x2,hx2,ax2,bx2,cx2,hs0_⟩:=bE (f:=Za) Zac (fun _=>rfl) (by decide) hs0_
   refine Zby [] ax2 bx2 cx2 ?_
   refine zD [4,5,6,7] [true] ?_
   refine zQ [5,6,7,13] ?_
   refine Zt (t:=(x2.Kind != 1)) rfl (fun c3 => ?_) (fun c3 => ?_)
   ·replace hs0_:=Zs c3 hs0_
    refine zQ [2] ?_
    refine zW ?_
    exact zEy hs0_
   replace hs0_:=Zr c3 hs0_
   refine Kq [5,6,7] [false] ?_
   refine zR ?_
   exact zEn hs0_
  replace hs0_:=Zr c4 hs0_
  exact zEx hs0_
 rcases z5 with z5 | z5
 ·dsimp only [Qn] at hw h
  refine Ke hw ?_
  try simp only [Xe,Yi,↓reduceIte,Nat.reduceEqDiff]
  exact Zll [(vB false)]
 dsimp only [Qn] at hw h
 refine Yy hw ?_
 try simp only [Xe,Yi,↓reduceIte,Nat.reduceEqDiff]
 refine zD [] [] ?_
 refine zQ [2] ?_
 exact Yu [(vB true)]
theorem Z0f {a0:Int} {r:(Int×Bool)} {O:Objs} {n:Nat} (h:Zm7 a0=some r):GTo Try.prog 136 [(vI a0)] O n (.tup [(vI r.1),(vB r.2)]) O n:=by
 unfold Zm7 at h
 refine zFn Try.call136 Try.func136 fun hU hN0 hN => ?_
 show W _ _ _ _ ⟨15,[],[(0,(vI a0))]⟩ (Zv O n []) _
 refine zQ [0] ?_
 refine Zk ?_
 obtain ⟨y6,hy6,ey6,h⟩:=bY (f:=(eI .i64)) (cs:=[.val (.int .i64 0),.val (.int .i64 1),.val (.int .i64 8),.val (.int .i64 16),.val (.int .i64 32),.val (.int .i64 64)]) rfl h
 have g7:=congrArg G.agg ey6
 obtain ⟨y8,hy8,ey8,h⟩:=bY (f:=(eI .i64)) (cs:=[.val (.int .i64 0),.val (.int .i64 0),.val (.int .i64 0),.val (.int .i64 0),.val (.int .i64 0),.val (.int .i64 0)]) rfl h
 have g9:=congrArg (GObj.mk false 148 6 1) ey8
 have g10:=Zkr (f:=(eI .i64)) y8 y6 (fun _=>rfl)
 refine Zdu [] g7 g9 g10 ?_
 refine zDs [0,4] [true] ?_
 refine zQD [0,4,11] [none,none] ?_
 refine Zt (t:=(cond (decide (a0 < 0)) true (decide (6≤a0)))) rfl (fun c13 => ?_) (fun c13 => ?_)
 ·replace h:=Zs c13 h
  refine zQ [2,3] ?_
  exact Yu [(vI 0),(vB false)]
 replace h:=Zr c13 h
 refine Kq [0,4] [true] ?_
 obtain ⟨x12,hx12,ax12,bx12,cx12,h⟩:=bEA (f:=(eI .i64)) (b:=6) rfl Z6p (fun _=>rfl) (by decide) h
 refine Zqh [2,3] (Xf Z5 [] ?_)
 refine zF3 ax12 bx12 cx12 ?_
 exact Yu [(vI x12),(vB true)]
theorem Z26 {a0:Int} {a1:Int} {r:Bool} {O:Objs} {n:Nat} (h:Zjq a0 a1=some r):GTo Try.prog 135 [(vI a0),.val (.int .u64 a1)] O n ((vB r)) O n:=by
 unfold Zjq at h
 refine zFn Try.call135 Try.func135 fun hU hN0 hN => ?_
 show W _ _ _ _ ⟨19,[],[(0,(vI a0)),(1,.val (.int .u64 a1))]⟩ (Zv O n []) _
 refine zQ [0,1] ?_
 refine Zk ?_
 obtain ⟨y2,hy2,h⟩:=bC h
 refine zCd (Z0f hy2) [1,5,6] [] ?_
 obtain ⟨z4,hz4,h⟩:=bC h
 refine Xl (E':=⟨19,[],[(4,(vB z4))]⟩) (O':=(Zv O n [])) (n0:=n) ?_ ?_
 ·rcases Bool.eq_false_or_eq_true y2.2 with c7 | c7
  ·replace hz4:=Zs c7 hz4
   obtain ⟨pu6,hz4⟩:=bG hz4
   refine Xf Z5 [some true,some true,some true,some true] ?_
   simp only [push_cast,seval,↓reduceIte,Zo,c7,pu6,hN0,hN]
   have hz4:=Option.some.inj hz4;subst hz4
   refine And.intro rfl (Fit2.of (Yd hU rfl rfl ?_) (by omega))
   simp only [push_cast,seval,↓reduceIte,Zo,c7,pu6,hN0,hN]
  replace hz4:=Zr c7 hz4
  refine Vf [some false,some false,some false,some false] c7 ?_
  exact Kk hz4 c7
 exact Yu [(vB z4)]
def Zdk (Qd:(Zb→Option Bool)):Prop:=∀ {a0:Zb} {r:Bool} {O:Objs} {n:Nat},Qd a0=some r→GTo Try.prog 103 [.agg (Zn a0)] O n ((vB r)) O n
def Zdl (Qb:(Zb→Int→Option Bool)):Prop:=∀ {a0:Zb} {a1:Int} {r:Bool} {O:Objs} {n:Nat},Qb a0 a1=some r→GTo Try.prog 124 [.agg (Zn a0),(vI a1)] O n ((vB r)) O n
def Za6 (Xi:((List Zb)→Int→Option Bool)):Prop:=∀ {a0:(List Zb)} {a1:Int} {r:Bool} {O:Objs} {n:Nat},Xi a0 a1=some r→GTo Try.prog 131 [(sL Za a0),(vI a1)] O n ((vB r)) O n
def Za5 (Xv:((List Zb)→Int→Option Bool)):Prop:=∀ {a0:(List Zb)} {a1:Int} {r:Bool} {O:Objs} {n:Nat},Xv a0 a1=some r→GTo Try.prog 133 [(sL Za a0),(vI a1)] O n ((vB r)) O n
theorem Zyb {Qd:(Zb→Option Bool)} {Qb:(Zb→Int→Option Bool)} {Xi:((List Zb)→Int→Option Bool)} {Xv:((List Zb)→Int→Option Bool)} (Zdn:Zdk Qd) (Zdo:Zdl Qb) (U7:Za6 Xi) (Zcz:Za5 Xv) {a0:Zb} {r:Bool} {O:Objs} {n:Nat} (h:Zhr Qd Qb Xi Xv a0=some r):GTo Try.prog 103 [.agg (Zn a0)] O n ((vB r)) O n:=by
 unfold Zhr at h
 refine zFn Try.call103 Try.func103 fun hU hN0 hN => ?_
 show W _ _ _ _ ⟨18,[],[(0,.agg (Zn a0))]⟩ (Zv O n []) _
 refine zQ [1] ?_
 refine Zk ?_
 refine zQ [1,5] ?_
 refine Zt (t:=(a0.Kind == 10)) rfl (fun c3 => ?_) (fun c3 => ?_)
 ·replace h:=Zs c3 h
  refine zQD [2] [none,none,none,none] ?_
  exact Yu [(vB (cond ((a0.Words.length:Int) == 1) ((a0.Kids.length:Int) == 0) false))]
 replace h:=Zr c3 h
 refine Kq [1] [true] ?_
 refine Zk ?_
 obtain ⟨y2,hy2,h⟩:=bC h
 refine zCd (Zdo hy2) [2] [false] ?_
 exact Yu [(vB y2)]
theorem Zyc {Qd:(Zb→Option Bool)} {Qb:(Zb→Int→Option Bool)} {Xi:((List Zb)→Int→Option Bool)} {Xv:((List Zb)→Int→Option Bool)} (Zdn:Zdk Qd) (Zdo:Zdl Qb) (U7:Za6 Xi) (Zcz:Za5 Xv) {a0:Zb} {a1:Int} {r:Bool} {O:Objs} {n:Nat} (h:Zhs Qd Qb Xi Xv a0 a1=some r):GTo Try.prog 124 [.agg (Zn a0),(vI a1)] O n ((vB r)) O n:=by
 unfold Zhs at h
 refine zFn Try.call124 Try.func124 fun hU hN0 hN => ?_
 show W _ _ _ _ ⟨83,[],[(0,.agg (Zn a0)),(1,(vI a1))]⟩ (Zv O n []) _
 refine zQ [1,2] ?_
 refine Zk ?_
 refine zQ [1,2,7] ?_
 refine Zt (t:=(a0.Kind == 0)) rfl (fun c26 => ?_) (fun c26 => ?_)
 ·replace h:=Zs c26 h
  refine zQD [4] [none,none,none,none] ?_
  exact Yu [(vB (cond ((a0.Words.length:Int) == 0) ((a0.Kids.length:Int) == 0) false))]
 replace h:=Zr c26 h
 refine Kq [1,2] [true] ?_
 refine Zk ?_
 refine zQ [1,2,19] ?_
 refine Zt (t:=(a1 == 0)) rfl (fun c25 => ?_) (fun c25 => ?_)
 ·replace h:=Zs c25 h
  refine zQ [4] ?_
  exact Yu [(vB false)]
 replace h:=Zr c25 h
 refine Kq [1,2] [true] ?_
 refine Zk ?_
 refine zQ [1,2,22] ?_
 refine Zt (t:=(a0.Kind == 1)) rfl (fun c24 => ?_) (fun c24 => ?_)
 ·replace h:=Zs c24 h
  obtain ⟨z2,hz2,h⟩:=bC h
  refine Xl (E':=⟨83,[],[(4,(vB z2))]⟩) (O':=(Zv O n [none])) (n0:=(n+1)) ?_ ?_
  ·rcases Bool.eq_false_or_eq_true (decide ((a0.Words.length:Int) < 65536)) with c5 | c5
   ·replace hz2:=Zs c5 hz2
    rcases Bool.eq_false_or_eq_true (decide ((a0.Kids.length:Int) < 65536)) with c6 | c6
    ·replace hz2:=Zs c6 hz2
     try rw [c6] at c5
     obtain ⟨y4,hy4,hz2⟩:=bC hz2
     refine K1 [none,none,none,none,some true,some true,some true,some true,some true] c5 c6 ?_
     refine zG ?_
     refine (U7 hy4).then ?_
     refine zX2 c5 c6 ?_
     refine zG ?_
     exact Zck hz2 c5 c6
    replace hz2:=Zr c6 hz2
    try rw [c6] at c5
    refine K1 [none,none,none,none,some false,some false,some false,some false,some false] c5 c6 ?_
    refine zG ?_
    exact Zck hz2 c5 c6
   replace hz2:=Zr c5 hz2
   refine Vf [none,none,none,none,some false,some false,some false,some false,some false] c5 ?_
   refine zG ?_
   exact Kk hz2 c5
  exact Yu [(vB z2)]
 replace h:=Zr c24 h
 refine Kq [1,2] [true] ?_
 refine Zk ?_
 refine Zk ?_
 obtain ⟨y8,hy8,h⟩:=bC h
 refine zRo [none,none,none,none,none,none,none,none] ?_
 refine zG ?_
 refine zTs (Zm8 hy8) ?_
 refine zG ?_
 refine zD [1,2,55] [true] ?_
 refine Zt (t:=(cond (cond (!y8) true (decide (0 < (a0.Words.length:Int)))) true (decide (1048576≤(a0.Kids.length:Int))))) rfl (fun c23 => ?_) (fun c23 => ?_)
 ·replace h:=Zs c23 h
  refine zQ [4] ?_
  exact Yu [(vB false)]
 replace h:=Zr c23 h
 refine Kq [1,2] [true] ?_
 refine Zk ?_
 refine zQ [1,2,57] ?_
 refine Ya ?_
 refine zQ [1,2,57,58] ?_
 refine Zt (t:=(a0.Kind == 8)) rfl (fun c22 => ?_) (fun c22 => ?_)
 ·replace h:=Zs c22 h
  refine Zk ?_
  obtain ⟨y10,hy10,h⟩:=bC h
  refine zCd (U7 hy10) [4] [false] ?_
  exact Yu [(vB y10)]
 replace h:=Zr c22 h
 refine zQ [1,2,65] ?_
 refine Zt (t:=(a0.Kind == 9)) rfl (fun c21 => ?_) (fun c21 => ?_)
 ·replace h:=Zs c21 h
  obtain ⟨z13,hz13,h⟩:=bC h
  refine Xl (E':=⟨83,[],[(4,(vB z13))]⟩) (O':=(Zv O n [none])) (n0:=(n+1)) ?_ ?_
  ·obtain ⟨y16,hy16,hz13⟩:=bC hz13
   rcases Bool.eq_false_or_eq_true y16 with c18 | c18
   ·replace hz13:=Zs c18 hz13
    obtain ⟨y17,hy17,hz13⟩:=bC hz13
    refine Vf [some true,some true,some true,some true,some true] c18 ?_
    refine (Zk4 hy16).then ?_
    refine zX1 c18 ?_
    refine (U7 hy17).then ?_
    refine zX1 c18 ?_
    exact Kk hz13 c18
   replace hz13:=Zr c18 hz13
   refine Vf [some false,some false,some false,some false,some false] c18 ?_
   refine (Zk4 hy16).then ?_
   refine zX1 c18 ?_
   exact Kk hz13 c18
  exact Yu [(vB z13)]
 replace h:=Zr c21 h
 refine Kq [2] [true] ?_
 refine Zk ?_
 obtain ⟨y20,hy20,h⟩:=bC h
 refine zCd (Zcz hy20) [4] [false] ?_
 exact Yu [(vB y20)]
theorem Zsw {Qd:(Zb→Option Bool)} {Qb:(Zb→Int→Option Bool)} {Xi:((List Zb)→Int→Option Bool)} {Xv:((List Zb)→Int→Option Bool)} (Zdn:Zdk Qd) (Zdo:Zdl Qb) (U7:Za6 Xi) (Zcz:Za5 Xv) {a0:(List Zb)} {a1:Int} {r:Bool} {O:Objs} {n:Nat} (h:Zdc Qd Qb Xi Xv a0 a1=some r):GTo Try.prog 131 [(sL Za a0),(vI a1)] O n ((vB r)) O n:=by
 unfold Zdc at h
 refine zFn Try.call131 Try.func131 fun hU hN0 hN => ?_
 show W _ _ _ _ ⟨18,[],[(0,(sL Za a0)),(1,(vI a1))]⟩ (Zv O n []) _
 refine zQ [0,1] ?_
 refine Zk ?_
 refine zQd [1,7,8,9] [1,7,8,9] [] ?_
 obtain ⟨z7,hz7,h⟩:=bC h
 refine Zbd (J:=(Qn (fun z7=>JR n (⟨18,[],[(4,(vB false))]⟩:Env) (Zv O n []) n) (fun z7=>JX 0 n (⟨18,[],[]⟩:Env) (Zv O n []) n))) (z:=z7) ?_ fun hw => ?_
 ·refine Xj hz7 (fun s0_=>⟨18,[],[(1,(vI a1)),(7,(sL Za a0)),(8,(vI (a0.length:Int))),(9,(vI s0_))]⟩) (fun s0_=>(Zv O n [])) (Qn (fun z7=>JR n (⟨18,[],[(4,(vB false))]⟩:Env) (Zv O n []) n) (fun z7=>JX 0 n (⟨18,[],[]⟩:Env) (Zv O n []) n)) ?_
  intro s0_ x0_ hs0_
  unfold Zas at hs0_
  try dsimp only
  refine zQ [1,7,8,9,10] ?_
  refine Zk ?_
  refine Zt (t:=(decide (s0_ < (a0.length:Int)))) rfl (fun c6 => ?_) (fun c6 => ?_)
  ·replace hs0_:=Zs c6 hs0_
   refine Kq [1,7,8,9] [] ?_
   refine Zk ?_
   refine Ya ?_
   refine Zk ?_
   obtain ⟨x2,hx2,ax2,bx2,cx2,hs0_⟩:=bE (f:=Za) Zac (fun _=>rfl) (by decide) hs0_
   refine Zby [] ax2 bx2 cx2 ?_
   refine zDs [1,6,7,8,9] [true] ?_
   obtain ⟨y4,hy4,hs0_⟩:=bC hs0_
   refine zCd (Zdo hy4) [1,7,8,9,16] [false] ?_
   refine Zt (t:=(!y4)) rfl (fun c5 => ?_) (fun c5 => ?_)
   ·replace hs0_:=Zs c5 hs0_
    refine zQ [4] ?_
    refine zW ?_
    exact zEy hs0_
   replace hs0_:=Zr c5 hs0_
   refine Kq [1,7,8,9] [false] ?_
   refine zR ?_
   exact zEn hs0_
  replace hs0_:=Zr c6 hs0_
  exact zEx hs0_
 rcases z7 with z7 | z7
 ·dsimp only [Qn] at hw h
  refine Ke hw ?_
  try simp only [Xe,Yi,↓reduceIte,Nat.reduceEqDiff]
  exact Zll [(vB false)]
 dsimp only [Qn] at hw h
 refine Yy hw ?_
 try simp only [Xe,Yi,↓reduceIte,Nat.reduceEqDiff]
 refine zD [] [] ?_
 refine zQ [4] ?_
 exact Yu [(vB true)]
theorem Zsv {Qd:(Zb→Option Bool)} {Qb:(Zb→Int→Option Bool)} {Xi:((List Zb)→Int→Option Bool)} {Xv:((List Zb)→Int→Option Bool)} (Zdn:Zdk Qd) (Zdo:Zdl Qb) (U7:Za6 Xi) (Zcz:Za5 Xv) {a0:(List Zb)} {a1:Int} {r:Bool} {O:Objs} {n:Nat} (h:Zdb Qd Qb Xi Xv a0 a1=some r):GTo Try.prog 133 [(sL Za a0),(vI a1)] O n ((vB r)) O n:=by
 unfold Zdb at h
 refine zFn Try.call133 Try.func133 fun hU hN0 hN => ?_
 show W _ _ _ _ ⟨31,[],[(0,(sL Za a0)),(1,(vI a1))]⟩ (Zv O n []) _
 refine zQ [0,1] ?_
 refine Zk ?_
 refine zQd [1,7,8,9] [1,7,8,9] [] ?_
 obtain ⟨z17,hz17,h⟩:=bC h
 refine Zbd (J:=(Qn (fun z17=>JR n (⟨31,[],[(4,(vB false))]⟩:Env) (Zv O n []) n) (fun z17=>JX 0 n (⟨31,[],[]⟩:Env) (Zv O n []) n))) (z:=z17) ?_ fun hw => ?_
 ·refine Xj hz17 (fun s0_=>⟨31,[],[(1,(vI a1)),(7,(sL Za a0)),(8,(vI (a0.length:Int))),(9,(vI s0_))]⟩) (fun s0_=>(Zv O n [])) (Qn (fun z17=>JR n (⟨31,[],[(4,(vB false))]⟩:Env) (Zv O n []) n) (fun z17=>JX 0 n (⟨31,[],[]⟩:Env) (Zv O n []) n)) ?_
  intro s0_ x0_ hs0_
  unfold Zar at hs0_
  try dsimp only
  refine zQ [1,7,8,9,10] ?_
  refine Zk ?_
  refine Zt (t:=(decide (s0_ < (a0.length:Int)))) rfl (fun c16 => ?_) (fun c16 => ?_)
  ·replace hs0_:=Zs c16 hs0_
   refine Kq [1,7,8,9] [] ?_
   refine Zk ?_
   refine Ya ?_
   refine Zk ?_
   obtain ⟨x2,hx2,ax2,bx2,cx2,hs0_⟩:=bE (f:=Za) Zac (fun _=>rfl) (by decide) hs0_
   refine Zby [] ax2 bx2 cx2 ?_
   refine zD [1,6,7,8,9] [true] ?_
   obtain ⟨z6,hz6,hs0_⟩:=bC hs0_
   refine Xl (E':=⟨31,[],[(1,(vI a1)),(7,(sL Za a0)),(8,(vI (a0.length:Int))),(9,(vI s0_)),(29,(vB z6))]⟩) (O':=(Zv O n [none])) (n0:=(n+1)) ?_ ?_
   ·rcases Bool.eq_false_or_eq_true (x2.Kind != 10) with c13 | c13
    ·replace hz6:=Zs c13 hz6
     refine Vf [some false,some false,some false,some false,some false,some false,some false,some false,some false,some false] c13 ?_
     exact Kk hz6 c13
    replace hz6:=Zr c13 hz6
    obtain ⟨y10,hy10,hz6⟩:=bC hz6
    rcases Bool.eq_false_or_eq_true y10 with c14 | c14
    ·replace hz6:=Zs c14 hz6
     try rw [c14] at c13
     obtain ⟨x11,hx11,ax11,bx11,cx11,hz6⟩:=bE (f:=(eI .u64)) Zny (fun _=>rfl) (by decide) hz6
     obtain ⟨y12,hy12,hz6⟩:=bC hz6
     refine Z61 [some true,some true,some true,some true,some true,some true,some true,some true,some true,some true] c13 c14 ax11 bx11 cx11 ?_
     refine (Zdn hy10).then ?_
     refine zF5 c13 c14 ax11 bx11 cx11 ?_
     refine (Z26 hy12).then ?_
     refine zF5 c13 c14 ax11 bx11 cx11 ?_
     exact Yhx hz6 c13 c14 ax11 bx11 cx11
    replace hz6:=Zr c14 hz6
    try rw [c14] at c13
    refine K1 [some true,some true,some true,some false,some false,some false,some false,some false,some false,some false] c13 c14 ?_
    refine (Zdn hy10).then ?_
    refine zX2 c13 c14 ?_
    exact Zck hz6 c13 c14
   refine Zt (t:=z6) rfl (fun c15 => ?_) (fun c15 => ?_)
   ·replace hs0_:=Zs c15 hs0_
    refine zQ [4] ?_
    refine zW ?_
    exact zEy hs0_
   replace hs0_:=Zr c15 hs0_
   refine Kq [1,7,8,9] [false] ?_
   refine zR ?_
   exact zEn hs0_
  replace hs0_:=Zr c16 hs0_
  exact zEx hs0_
 rcases z17 with z17 | z17
 ·dsimp only [Qn] at hw h
  refine Ke hw ?_
  try simp only [Xe,Yi,↓reduceIte,Nat.reduceEqDiff]
  exact Zll [(vB false)]
 dsimp only [Qn] at hw h
 refine Yy hw ?_
 try simp only [Xe,Yi,↓reduceIte,Nat.reduceEqDiff]
 refine zD [] [] ?_
 refine zQ [4] ?_
 exact Yu [(vB true)]
theorem Zt4:∀ k,(Zdk ((Z4 k).1))∧(Zdl ((Z4 k).2.1))∧(Za6 ((Z4 k).2.2.1))∧(Za5 ((Z4 k).2.2.2)):=fun k=>by
 induction k with
 | zero=>exact ⟨@fun a0 r O n h=>(nomatch (show (none:Option _)=some _ from h)),@fun a0 a1 r O n h=>(nomatch (show (none:Option _)=some _ from h)),@fun a0 a1 r O n h=>(nomatch (show (none:Option _)=some _ from h)),@fun a0 a1 r O n h=>(nomatch (show (none:Option _)=some _ from h))⟩
 | succ k ih=>exact ⟨@fun a0 r O n h=>Zyb (ih.1) (ih.2.1) (ih.2.2.1) (ih.2.2.2)  h,@fun a0 a1 r O n h=>Zyc (ih.1) (ih.2.1) (ih.2.2.1) (ih.2.2.2)  h,@fun a0 a1 r O n h=>Zsw (ih.1) (ih.2.1) (ih.2.2.1) (ih.2.2.2)  h,@fun a0 a1 r O n h=>Zsv (ih.1) (ih.2.1) (ih.2.2.1) (ih.2.2.2)  h⟩
theorem Zqd {a0:Zb} {r:Bool} {O:Objs} {n:Nat} (h:Zke a0=some r):GTo Try.prog 103 [.agg (Zn a0)] O n ((vB r)) O n:=by
 obtain ⟨k,hk⟩:=Zax h
 exact (Zt4 k).1  hk
theorem Zl2 {a0:Zb} {r:Bool} {O:Objs} {n:Nat} (h:Zf8 a0=some r):GTo Try.prog 64 [.agg (Zn a0)] O n ((vB r)) O n:=by
 unfold Zf8 at h
 refine zFn Try.call64 Try.func64 fun hU hN0 hN => ?_
 show W _ _ _ _ ⟨10,[],[(0,.agg (Zn a0))]⟩ (Zv O n []) _
 refine zQ [1] ?_
 obtain ⟨z2,hz2,h⟩:=bC h
 refine Xl (E':=⟨10,[],[(2,(vB z2))]⟩) (O':=(Zv O n [none])) (n0:=(n+1)) ?_ ?_
 ·rcases Bool.eq_false_or_eq_true (a0.Kind != 10) with c5 | c5
  ·replace hz2:=Zs c5 hz2
   obtain ⟨y4,hy4,hz2⟩:=bC hz2
   refine Vf [some true,some true] c5 ?_
   refine (Zqd hy4).then ?_
   refine zX1 c5 ?_
   exact Kk hz2 c5
  replace hz2:=Zr c5 hz2
  refine Vf [some false,some false] c5 ?_
  exact Kk hz2 c5
 exact Yu [(vB z2)]
theorem Zk2 {a0:(List Zj)} {r:Bool} {O:Objs} {n:Nat} (h:Zbs a0=some r):GTo Try.prog 65 [(sL Zg a0)] O n ((vB r)) O n:=by
 unfold Zbs at h
 refine zFn Try.call65 Try.func65 fun hU hN0 hN => ?_
 show W _ _ _ _ ⟨48,[],[(0,(sL Zg a0))]⟩ (Zv O n []) _
 refine zQ [0] ?_
 refine zQ [0,3] ?_
 refine Zk ?_
 refine zQd [3,7,8,9] [3,7,8,9] [] ?_
 obtain ⟨z7,hz7,h⟩:=bC h
 refine Zbd (J:=(Qn (fun z7=>JR n (⟨48,[],[(2,(vB false))]⟩:Env) (Zv O n []) n) (fun z7=>JX 0 n (⟨48,[],[]⟩:Env) (Zv O n []) n))) (z:=z7) ?_ fun hw => ?_
 ·refine Xj hz7 (fun s0_=>⟨48,[],[(3,(vI s0_.1)),(7,(sL Zg a0)),(8,(vI (a0.length:Int))),(9,(vI s0_.2))]⟩) (fun s0_=>(Zv O n [])) (Qn (fun z7=>JR n (⟨48,[],[(2,(vB false))]⟩:Env) (Zv O n []) n) (fun z7=>JX 0 n (⟨48,[],[]⟩:Env) (Zv O n []) n)) ?_
  intro s0_ x0_ hs0_
  unfold Gf at hs0_
  try dsimp only
  refine zQ [3,7,8,9,10] ?_
  refine Zk ?_
  refine Zt (t:=(decide (s0_.2 < (a0.length:Int)))) rfl (fun c6 => ?_) (fun c6 => ?_)
  ·replace hs0_:=Zs c6 hs0_
   refine Kq [3,7,8,9] [] ?_
   refine Zk ?_
   refine Ya ?_
   refine Zk ?_
   obtain ⟨x2,hx2,ax2,bx2,cx2,hs0_⟩:=bE (f:=Zg) Zhk (fun _=>rfl) (by decide) hs0_
   refine Zby [] ax2 bx2 cx2 ?_
   refine zDs [3,5,7,8,9] [true] ?_
   obtain ⟨y4,hy4,hs0_⟩:=bC hs0_
   refine zCd (Zkg hy4) [3,5,6,7,8,9] [true] ?_
   refine Zk ?_
   refine zQD [5,7,8,9,44] [none,none,none,none,none,none,none,none,none,none,none,none,none,none,none,none] ?_
   refine Zt (t:=(cond (cond (cond (cond (decide (x2.At≤s0_.1)) true (decide (65534 < x2.At))) true (x2.Mask == 0)) true ((IntKind.u64.wrap (Zdg .u64 x2.Old (IntKind.u64.wrap (Zh2 .u64 (if IntKind.signed .u64=true then -1 else IntKind.max .u64) y4)))) != 0)) true ((IntKind.u64.wrap (Zdg .u64 x2.New (IntKind.u64.wrap (Zh2 .u64 (if IntKind.signed .u64=true then -1 else IntKind.max .u64) y4)))) != 0))) rfl (fun c5 => ?_) (fun c5 => ?_)
   ·replace hs0_:=Zs c5 hs0_
    refine zQ [2] ?_
    refine zW ?_
    exact zEy hs0_
   replace hs0_:=Zr c5 hs0_
   refine Kq [5,7,8,9] [true] ?_
   refine zRd [3,7,8,9] [false] ?_
   refine zR ?_
   exact zEn hs0_
  replace hs0_:=Zr c6 hs0_
  exact zEx hs0_
 rcases z7 with z7 | z7
 ·dsimp only [Qn] at hw h
  refine Ke hw ?_
  try simp only [Xe,Yi,↓reduceIte,Nat.reduceEqDiff]
  exact Zll [(vB false)]
 dsimp only [Qn] at hw h
 refine Yy hw ?_
 try simp only [Xe,Yi,↓reduceIte,Nat.reduceEqDiff]
 refine zD [] [] ?_
 refine zQ [2] ?_
 exact Yu [(vB true)]
theorem Zmk {a0:Int} {a1:Zc} {r:Bool} {O:Objs} {n:Nat} (h:Zdj a0 a1=some r):GTo Try.prog 126 [(vI a0),.agg (Ze a1)] O n ((vB r)) O n:=by
 unfold Zdj at h
 refine zFn Try.call126 Try.func126 fun hU hN0 hN => ?_
 show W _ _ _ _ ⟨33,[],[(0,(vI a0)),(1,.agg (Ze a1))]⟩ (Zv O n []) _
 refine zQ [0,3] ?_
 refine Zk ?_
 refine zQ [3,5] ?_
 refine Ya ?_
 refine zQ [3,5,6] ?_
 refine Zt (t:=(a0 == 8)) rfl (fun c2 => ?_) (fun c2 => ?_)
 ·replace h:=Zs c2 h
  refine zQ [4] ?_
  exact Yu [(vB (a1.Kind != 0))]
 replace h:=Zr c2 h
 refine zQ [3,11] ?_
 refine Zt (t:=(a0 == 9)) rfl (fun c1 => ?_) (fun c1 => ?_)
 ·replace h:=Zs c1 h
  refine zQD [4] [none,none,none,none,none,none,none,none,none,none,none,none,none,none,none] ?_
  exact Yu [(vB (cond (a1.Kind == 2) true (cond (cond (a1.Kind == 1) (a1.Old.Kind == 1) false) (a1.New.Kind == 1) false)))]
 replace h:=Zr c1 h
 refine Kq [] [false] ?_
 refine zQ [4] ?_
 exact Yu [(vB false)]
theorem Znt {a0:Zh} {r:Int} {O:Objs} {n:Nat} (h:Zcd a0=some r):GTo Try.prog 127 [.agg (Yg a0)] O n ((vI r)) O n:=by
 unfold Zcd at h
 refine zFn Try.call127 Try.func127 fun hU hN0 hN => ?_
 show W _ _ _ _ ⟨19,[],[(0,.agg (Yg a0))]⟩ (Zv O n []) _
 refine zQ [1] ?_
 refine Zk ?_
 refine zQ [1,4] ?_
 refine Ya ?_
 refine zQ [1,4,5] ?_
 refine Zt (t:=(a0.Kind == 0)) rfl (fun c5 => ?_) (fun c5 => ?_)
 ·replace h:=Zs c5 h
  refine zQ [2] ?_
  exact Yu [(vI (if 1048576 < (if a0.N < 0 then 0 else a0.N) then 1048576 else (if a0.N < 0 then 0 else a0.N)))]
 replace h:=Zr c5 h
 obtain ⟨z1,hz1,h⟩:=bC h
 refine Xl (E':=⟨19,[],[(1,.ref n 0),(4,(vI a0.Kind)),(11,(vB z1))]⟩) (O':=(Zv O n [some ⟨false,53,14,1,(Yg a0)⟩])) (n0:=(n+1)) ?_ ?_
 ·refine zQ [1,4,11] ?_
  refine Zt (t:=(a0.Kind == 1)) rfl (fun c2 => ?_) (fun c2 => ?_)
  ·replace hz1:=Zs c2 hz1
   refine zK ?_
   exact zEn hz1
  replace hz1:=Zr c2 hz1
  refine zR ?_
  exact zEn hz1
 refine Zt (t:=z1) rfl (fun c4 => ?_) (fun c4 => ?_)
 ·replace h:=Zs c4 h
  refine zQ [2] ?_
  exact Yu [(vI (a0.L.length:Int))]
 replace h:=Zr c4 h
 refine zQ [17] ?_
 refine Zt (t:=(a0.Kind == 3)) rfl (fun c3 => ?_) (fun c3 => ?_)
 ·replace h:=Zs c3 h
  refine zQ [2] ?_
  exact Yu [(vI 1)]
 replace h:=Zr c3 h
 refine Kq [] [false] ?_
 refine zQ [2] ?_
 exact Yu [(vI 0)]
theorem Zvr {a0:Zc} {r:(Int×Int)} {O:Objs} {n:Nat} (h:Ze0 a0=some r):GTo Try.prog 106 [.agg (Ze a0)] O n (.tup [(vI r.1),(vI r.2)]) O n:=by
 unfold Ze0 at h
 refine zFn Try.call106 Try.func106 fun hU hN0 hN => ?_
 show W _ _ _ _ ⟨34,[],[(0,.agg (Ze a0))]⟩ (Zv O n []) _
 refine zQ [1] ?_
 refine zQ [1,4,5] ?_
 refine Zk ?_
 refine zQd [4,5,9,10,11] [4,5,9,10,11] [false] ?_
 obtain ⟨z10,hz10,h⟩:=bC h
 refine Yy (E':=⟨34,[],[(4,(vI z10.1)),(5,(vI z10.2))]⟩) (O':=(Zv O n [none])) (n0:=(n+1)) ?_ ?_
 ·refine Xj hz10 (fun s0_=>⟨34,[],[(4,(vI s0_.1)),(5,(vI s0_.2.1)),(9,(sL Zf a0.Ops)),(10,(vI (a0.Ops.length:Int))),(11,(vI s0_.2.2))]⟩) (fun s0_=>(Zv O n [none])) (fun z10=>JX 0 n (⟨34,[],[(4,(vI z10.1)),(5,(vI z10.2))]⟩:Env) (Zv O n [none]) (n+1)) ?_
  intro s0_ x0_ hs0_
  unfold Zbr at hs0_
  try dsimp only
  refine zQ [4,5,9,10,11,12] ?_
  refine Zk ?_
  refine Zt (t:=(decide (s0_.2.2 < (a0.Ops.length:Int)))) rfl (fun c9 => ?_) (fun c9 => ?_)
  ·replace hs0_:=Zs c9 hs0_
   refine Kq [4,5,9,10,11] [false] ?_
   obtain ⟨z1,hz1,hs0_⟩:=bC hs0_
   refine Xl (E':=⟨34,[],[(4,(vI z1.1)),(5,(vI z1.2)),(9,(sL Zf a0.Ops)),(10,(vI (a0.Ops.length:Int))),(11,(vI s0_.2.2))]⟩) (O':=(Zv O n [none,none])) (n0:=(n+2)) ?_ ?_
   ·refine Ya ?_
    refine Zk ?_
    obtain ⟨x3,hx3,ax3,bx3,cx3,hz1⟩:=bE (f:=Zf) Zel (fun _=>rfl) (by decide) hz1
    refine Zby [] ax3 bx3 cx3 ?_
    refine zD [4,5,7,9,10,11] [false,true] ?_
    obtain ⟨z4,hz4,hz1⟩:=bC hz1
    refine Xl (E':=⟨34,[],[(4,(vI z4)),(5,(vI s0_.2.1)),(7,.ref (n+1) 0),(9,(sL Zf a0.Ops)),(10,(vI (a0.Ops.length:Int))),(11,(vI s0_.2.2))]⟩) (O':=(Zv O n [none,some ⟨false,53,14,1,(Yg x3)⟩])) (n0:=(n+2)) ?_ ?_
    ·refine zQ [4,5,7,9,10,11,17] ?_
     refine Zt (t:=(x3.Kind != 2)) rfl (fun c6 => ?_) (fun c6 => ?_)
     ·replace hz4:=Zs c6 hz4
      obtain ⟨y5,hy5,hz4⟩:=bC hz4
      refine zC (Znt hy5) ?_
      exact zEn hz4
     replace hz4:=Zr c6 hz4
     refine zK ?_
     exact zEn hz4
    refine zQ [4,5,7,9,10,11,25] ?_
    refine Zt (t:=(x3.Kind != 1)) rfl (fun c8 => ?_) (fun c8 => ?_)
    ·replace hz1:=Zs c8 hz1
     obtain ⟨y7,hy7,hz1⟩:=bC hz1
     refine zC (Znt hy7) ?_
     exact zEn hz1
    replace hz1:=Zr c8 hz1
    refine zK ?_
    exact zEn hz1
   refine zR ?_
   exact zEn hs0_
  replace hs0_:=Zr c9 hs0_
  exact zEx hs0_
 try simp only [Xe,Yi,↓reduceIte,Nat.reduceEqDiff]
 refine zD [4,5] [false] ?_
 refine zQ [2,3] ?_
 exact Yu [(vI z10.1),(vI z10.2)]
attribute [local push_cast] Try.results105 Try.results125 Try.results14 Try.results15 Try.results34 Try.results35 Try.results4 Try.results66 Try.results67
def G0 (Y7:(Zc→Option Bool)):Prop:=∀ {a0:Zc} {r:Bool} {O:Objs} {n:Nat},Y7 a0=some r→GTo Try.prog 14 [.agg (Ze a0)] O n ((vB r)) O n
def G3 (Y0:(Zc→Int→Option Bool)):Prop:=∀ {a0:Zc} {a1:Int} {r:Bool} {O:Objs} {n:Nat},Y0 a0 a1=some r→GTo Try.prog 34 [.agg (Ze a0),(vI a1)] O n ((vB r)) O n
def Ku (Ye:((List Zd)→Int→Option Bool)):Prop:=∀ {a0:(List Zd)} {a1:Int} {r:Bool} {O:Objs} {n:Nat},Ye a0 a1=some r→GTo Try.prog 66 [(sL Zi a0),(vI a1)] O n ((vB r)) O n
def Vl (Yo:(Zc→Int→Option Bool)):Prop:=∀ {a0:Zc} {a1:Int} {r:Bool} {O:Objs} {n:Nat},Yo a0 a1=some r→GTo Try.prog 67 [.agg (Ze a0),(vI a1)] O n ((vB r)) O n
def V9 (Yp:(Int→Zh→Int→Option Bool)):Prop:=∀ {a0:Int} {a1:Zh} {a2:Int} {r:Bool} {O:Objs} {n:Nat},Yp a0 a1 a2=some r→GTo Try.prog 105 [(vI a0),.agg (Yg a1),(vI a2)] O n ((vB r)) O n
def Kv (Yb:(Bool→Bool→Bool→Zh→Option Bool)):Prop:=∀ {a0:Bool} {a1:Bool} {a2:Bool} {a3:Zh} {r:Bool} {O:Objs} {n:Nat},Yb a0 a1 a2 a3=some r→GTo Try.prog 125 [(vB a0),(vB a1),(vB a2),.ip (Yg a3) 0] O n ((vB r)) O n
theorem Zx7 {Y7:(Zc→Option Bool)} {Y0:(Zc→Int→Option Bool)} {Ye:((List Zd)→Int→Option Bool)} {Yo:(Zc→Int→Option Bool)} {Yp:(Int→Zh→Int→Option Bool)} {Yb:(Bool→Bool→Bool→Zh→Option Bool)} (Vd:G0 Y7) (Uk:G3 Y0) (Uf:Ku Ye) (U6:Vl Yo) (Gu:V9 Yp) (X9:Kv Yb) {a0:Zc} {r:Bool} {O:Objs} {n:Nat} (h:Zho Y7 Y0 Ye Yo Yp Yb a0=some r):GTo Try.prog 14 [.agg (Ze a0)] O n ((vB r)) O n:=by
 unfold Zho at h
 refine zFn Try.call14 Try.func14 fun hU hN0 hN => ?_
 show W _ _ _ _ ⟨5,[],[(0,.agg (Ze a0))]⟩ (Zv O n []) _
 refine zQ [1] ?_
 refine Zk ?_
 obtain ⟨y2,hy2,h⟩:=bC h
 refine zCd (Uk hy2) [2] [false] ?_
 exact Yu [(vB y2)]
theorem Zx8 {Y7:(Zc→Option Bool)} {Y0:(Zc→Int→Option Bool)} {Ye:((List Zd)→Int→Option Bool)} {Yo:(Zc→Int→Option Bool)} {Yp:(Int→Zh→Int→Option Bool)} {Yb:(Bool→Bool→Bool→Zh→Option Bool)} (Vd:G0 Y7) (Uk:G3 Y0) (Uf:Ku Ye) (U6:Vl Yo) (Gu:V9 Yp) (X9:Kv Yb) {a0:Zc} {a1:Int} {r:Bool} {O:Objs} {n:Nat} (h:Zhp Y7 Y0 Ye Yo Yp Yb a0 a1=some r):GTo Try.prog 34 [.agg (Ze a0),(vI a1)] O n ((vB r)) O n:=by
 unfold Zhp at h
 refine zFn Try.call34 Try.func34 fun hU hN0 hN => ?_
 show W _ _ _ _ ⟨55,[],[(0,.agg (Ze a0)),(1,(vI a1))]⟩ (Zv O n []) _
 refine zQ [1,2] ?_
 refine Zk ?_
 refine zQ [1,2,7] ?_
 refine Zt (t:=(a1 == 0)) rfl (fun c39 => ?_) (fun c39 => ?_)
 ·replace h:=Zs c39 h
  refine zQ [4] ?_
  exact Yu [(vB false)]
 replace h:=Zr c39 h
 refine Kq [1,2] [true] ?_
 refine Zbc ⟨55,[],[(1,(vI a1)),(2,.ip (Ze a0) 0)]⟩ (Zv O n [none]) (Yd hU rfl rfl ?_) ?_
 ·exact zSe
 refine zQ [1,2,5] ?_
 refine Zk ?_
 refine zQ [1,2,5,10] ?_
 refine Ya ?_
 refine zQ [1,2,5,10,11] ?_
 refine Zt (t:=(a0.Kind == 0)) rfl (fun c38 => ?_) (fun c38 => ?_)
 ·replace h:=Zs c38 h
  refine Zk ?_
  obtain ⟨y2,hy2,h⟩:=bC h
  refine zR ?_
  refine GCalls.argsW ?_ ((Vc hy2).then ?_)
  ·exact zSe
  refine zS ?_
  refine zD [4] [false] ?_
  exact Yu [(vB y2)]
 replace h:=Zr c38 h
 refine zQ [1,2,5,10,15] ?_
 refine Zt (t:=(a0.Kind == 1)) rfl (fun c37 => ?_) (fun c37 => ?_)
 ·replace h:=Zs c37 h
  obtain ⟨z6,hz6,h⟩:=bC h
  refine Xl (E':=⟨55,[],[(4,(vB z6))]⟩) (O':=(Zv O n [none])) (n0:=(n+1)) ?_ ?_
  ·obtain ⟨y10,hy10,hz6⟩:=bC hz6
   rcases Bool.eq_false_or_eq_true y10 with c13 | c13
   ·replace hz6:=Zs c13 hz6
    obtain ⟨y11,hy11,hz6⟩:=bC hz6
    rcases Bool.eq_false_or_eq_true y11 with c14 | c14
    ·replace hz6:=Zs c14 hz6
     try rw [c14] at c13
     obtain ⟨y12,hy12,hz6⟩:=bC hz6
     refine K1 [some true,some true,some true,some true,some true,some true] c13 c14 ?_
     refine GCalls.argsW ?_ ((Vc hy10).then ?_)
     ·exact Jn c13 c14
     refine zX2 c13 c14 ?_
     refine (Zl2 hy11).then ?_
     refine zX2 c13 c14 ?_
     refine (Zl2 hy12).then ?_
     refine zX2 c13 c14 ?_
     exact Zck hz6 c13 c14
    replace hz6:=Zr c14 hz6
    try rw [c14] at c13
    refine K1 [some true,some true,some true,some false,some false,some false] c13 c14 ?_
    refine GCalls.argsW ?_ ((Vc hy10).then ?_)
    ·exact Jn c13 c14
    refine zX2 c13 c14 ?_
    refine (Zl2 hy11).then ?_
    refine zX2 c13 c14 ?_
    exact Zck hz6 c13 c14
   replace hz6:=Zr c13 hz6
   refine Vf [some false,some false,some false,some false,some false,some false] c13 ?_
   refine GCalls.argsW ?_ ((Vc hy10).then ?_)
   ·exact Yb3 c13
   refine zX1 c13 ?_
   exact Kk hz6 c13
  exact Yu [(vB z6)]
 replace h:=Zr c37 h
 refine zQ [1,2,5,10,29] ?_
 refine Zt (t:=(a0.Kind == 2)) rfl (fun c36 => ?_) (fun c36 => ?_)
 ·replace h:=Zs c36 h
  obtain ⟨z18,hz18,h⟩:=bC h
  refine Xl (E':=⟨55,[],[(4,(vB z18))]⟩) (O':=(Zv O n [none])) (n0:=(n+1)) ?_ ?_
  ·obtain ⟨y22,hy22,hz18⟩:=bC hz18
   rcases Bool.eq_false_or_eq_true y22 with c25 | c25
   ·replace hz18:=Zs c25 hz18
    obtain ⟨y23,hy23,hz18⟩:=bC hz18
    rcases Bool.eq_false_or_eq_true y23 with c26 | c26
    ·replace hz18:=Zs c26 hz18
     try rw [c26] at c25
     obtain ⟨y24,hy24,hz18⟩:=bC hz18
     refine K1 [some true,some true,some true,some true,some true,some true,some true,some true] c25 c26 ?_
     refine GCalls.argsW ?_ ((Vc hy22).then ?_)
     ·exact Jn c25 c26
     refine zX2 c25 c26 ?_
     refine (Zk2 hy23).then ?_
     refine zX2 c25 c26 ?_
     refine (Uf hy24).then ?_
     refine zX2 c25 c26 ?_
     exact Zck hz18 c25 c26
    replace hz18:=Zr c26 hz18
    try rw [c26] at c25
    refine K1 [some true,some true,some true,some false,some false,some false,some false,some false] c25 c26 ?_
    refine GCalls.argsW ?_ ((Vc hy22).then ?_)
    ·exact Jn c25 c26
    refine zX2 c25 c26 ?_
    refine (Zk2 hy23).then ?_
    refine zX2 c25 c26 ?_
    exact Zck hz18 c25 c26
   replace hz18:=Zr c25 hz18
   refine Vf [some false,some false,some false,some false,some false,some false,some false,some false] c25 ?_
   refine GCalls.argsW ?_ ((Vc hy22).then ?_)
   ·exact Yb3 c25
   refine zX1 c25 ?_
   exact Kk hz18 c25
  exact Yu [(vB z18)]
 replace h:=Zr c36 h
 refine zQ [1,2,5,45] ?_
 refine Zt (t:=(a0.Kind == 3)) rfl (fun c35 => ?_) (fun c35 => ?_)
 ·replace h:=Zs c35 h
  obtain ⟨z29,hz29,h⟩:=bC h
  refine Xl (E':=⟨55,[],[(4,(vB z29))]⟩) (O':=(Zv O n [none])) (n0:=(n+1)) ?_ ?_
  ·obtain ⟨y32,hy32,hz29⟩:=bC hz29
   rcases Bool.eq_false_or_eq_true y32 with c34 | c34
   ·replace hz29:=Zs c34 hz29
    obtain ⟨y33,hy33,hz29⟩:=bC hz29
    refine Vf [some true,some true,some true,some true] c34 ?_
    refine GCalls.argsW ?_ ((Vc hy32).then ?_)
    ·exact Yb3 c34
    refine zX1 c34 ?_
    refine (U6 hy33).then ?_
    refine zX1 c34 ?_
    exact Kk hz29 c34
   replace hz29:=Zr c34 hz29
   refine Vf [some false,some false,some false,some false] c34 ?_
   refine GCalls.argsW ?_ ((Vc hy32).then ?_)
   ·exact Yb3 c34
   refine zX1 c34 ?_
   exact Kk hz29 c34
  exact Yu [(vB z29)]
 replace h:=Zr c35 h
 refine Kq [] [false] ?_
 refine zQ [4] ?_
 exact Yu [(vB false)]
theorem Zq8 {Y7:(Zc→Option Bool)} {Y0:(Zc→Int→Option Bool)} {Ye:((List Zd)→Int→Option Bool)} {Yo:(Zc→Int→Option Bool)} {Yp:(Int→Zh→Int→Option Bool)} {Yb:(Bool→Bool→Bool→Zh→Option Bool)} (Vd:G0 Y7) (Uk:G3 Y0) (Uf:Ku Ye) (U6:Vl Yo) (Gu:V9 Yp) (X9:Kv Yb) {a0:(List Zd)} {a1:Int} {r:Bool} {O:Objs} {n:Nat} (h:Zb7 Y7 Y0 Ye Yo Yp Yb a0 a1=some r):GTo Try.prog 66 [(sL Zi a0),(vI a1)] O n ((vB r)) O n:=by
 unfold Zb7 at h
 refine zFn Try.call66 Try.func66 fun hU hN0 hN => ?_
 show W _ _ _ _ ⟨39,[],[(0,(sL Zi a0)),(1,(vI a1))]⟩ (Zv O n []) _
 refine zQ [0,1] ?_
 refine zQ [0,1,5] ?_
 refine Zk ?_
 refine zQd [1,5,8,9,10] [1,5,8,9,10] [] ?_
 obtain ⟨z12,hz12,h⟩:=bC h
 refine Zbd (J:=(Qn (fun z12=>JR n (⟨39,[],[(4,(vB false))]⟩:Env) (Zv O n []) n) (fun z12=>JX 0 n (⟨39,[],[]⟩:Env) (Zv O n []) n))) (z:=z12) ?_ fun hw => ?_
 ·refine Xj hz12 (fun s0_=>⟨39,[],[(1,(vI a1)),(5,(vI s0_.1)),(8,(sL Zi a0)),(9,(vI (a0.length:Int))),(10,(vI s0_.2))]⟩) (fun s0_=>(Zv O n [])) (Qn (fun z12=>JR n (⟨39,[],[(4,(vB false))]⟩:Env) (Zv O n []) n) (fun z12=>JX 0 n (⟨39,[],[]⟩:Env) (Zv O n []) n)) ?_
  intro s0_ x0_ hs0_
  unfold G5 at hs0_
  try dsimp only
  refine zQ [1,5,8,9,10,11] ?_
  refine Zk ?_
  refine Zt (t:=(decide (s0_.2 < (a0.length:Int)))) rfl (fun c11 => ?_) (fun c11 => ?_)
  ·replace hs0_:=Zs c11 hs0_
   refine Kq [1,5,8,9,10] [] ?_
   refine Zk ?_
   refine Ya ?_
   refine Zk ?_
   obtain ⟨x2,hx2,ax2,bx2,cx2,hs0_⟩:=bE (f:=Zi) Zfm (fun _=>rfl) (by decide) hs0_
   refine Zby [] ax2 bx2 cx2 ?_
   refine zDs [1,5,7,8,9,10] [true] ?_
   obtain ⟨z4,hz4,hs0_⟩:=bC hs0_
   refine Xl (E':=⟨39,[],[(1,(vI a1)),(7,.ref n 0),(8,(sL Zi a0)),(9,(vI (a0.length:Int))),(10,(vI s0_.2)),(35,(vB z4))]⟩) (O':=(Zv O n [some ⟨false,55,12,1,(Xt x2)⟩])) (n0:=(n+1)) ?_ ?_
   ·rcases Bool.eq_false_or_eq_true (decide (x2.At≤s0_.1)) with c7 | c7
    ·replace hz4:=Zs c7 hz4
     refine Vf [none,none,none,none,none,none,none,some false,some false,some false,some false,some false] c7 ?_
     refine zG ?_
     exact Kk hz4 c7
    replace hz4:=Zr c7 hz4
    rcases Bool.eq_false_or_eq_true (decide (65534 < x2.At)) with c8 | c8
    ·replace hz4:=Zs c8 hz4
     try rw [c8] at c7
     refine K1 [none,none,none,none,none,none,none,some false,some false,some false,some false,some false] c7 c8 ?_
     refine zG ?_
     exact Zck hz4 c7 c8
    replace hz4:=Zr c8 hz4
    try rw [c8] at c7
    rcases Bool.eq_false_or_eq_true (x2.E.Kind == 0) with c9 | c9
    ·replace hz4:=Zs c9 hz4
     try rw [c9] at c7
     try rw [c9] at c8
     refine Zdu [none,none,none,none,none,none,none,some false,some false,some false,some false,some false] c7 c8 c9 ?_
     refine zG ?_
     exact Zf3 hz4 c7 c8 c9
    replace hz4:=Zr c9 hz4
    try rw [c9] at c7
    try rw [c9] at c8
    obtain ⟨y6,hy6,hz4⟩:=bC hz4
    refine Zdu [none,none,none,none,none,none,none,some true,some true,some true,some true,some true] c7 c8 c9 ?_
    refine zG ?_
    refine (Uk hy6).then ?_
    refine zX3 c7 c8 c9 ?_
    refine zG ?_
    exact Zf3 hz4 c7 c8 c9
   refine Zt (t:=z4) rfl (fun c10 => ?_) (fun c10 => ?_)
   ·replace hs0_:=Zs c10 hs0_
    refine zQ [4] ?_
    refine zW ?_
    exact zEy hs0_
   replace hs0_:=Zr c10 hs0_
   refine Kq [1,7,8,9,10] [true] ?_
   refine zRd [1,5,8,9,10] [false] ?_
   refine zR ?_
   exact zEn hs0_
  replace hs0_:=Zr c11 hs0_
  exact zEx hs0_
 rcases z12 with z12 | z12
 ·dsimp only [Qn] at hw h
  refine Ke hw ?_
  try simp only [Xe,Yi,↓reduceIte,Nat.reduceEqDiff]
  exact Zll [(vB false)]
 dsimp only [Qn] at hw h
 refine Yy hw ?_
 try simp only [Xe,Yi,↓reduceIte,Nat.reduceEqDiff]
 refine zD [] [] ?_
 refine zQ [4] ?_
 exact Yu [(vB true)]
theorem Zst {Y7:(Zc→Option Bool)} {Y0:(Zc→Int→Option Bool)} {Ye:((List Zd)→Int→Option Bool)} {Yo:(Zc→Int→Option Bool)} {Yp:(Int→Zh→Int→Option Bool)} {Yb:(Bool→Bool→Bool→Zh→Option Bool)} (Vd:G0 Y7) (Uk:G3 Y0) (Uf:Ku Ye) (U6:Vl Yo) (Gu:V9 Yp) (X9:Kv Yb) {a0:Zc} {a1:Int} {r:Bool} {O:Objs} {n:Nat} (h:Zc9 Y7 Y0 Ye Yo Yp Yb a0 a1=some r):GTo Try.prog 67 [.agg (Ze a0),(vI a1)] O n ((vB r)) O n:=by
 unfold Zc9 at h
 refine zFn Try.call67 Try.func67 fun hU hN0 hN => ?_
 show W _ _ _ _ ⟨38,[],[(0,.agg (Ze a0)),(1,(vI a1))]⟩ (Zv O n []) _
 refine zQ [1,2] ?_
 refine Zk ?_
 refine Zk ?_
 obtain ⟨y2,hy2,h⟩:=bC h
 refine zCd (Zm8 hy2) [1,2,12] [true] ?_
 refine Zt (t:=(!y2)) rfl (fun c12 => ?_) (fun c12 => ?_)
 ·replace h:=Zs c12 h
  refine zQ [4] ?_
  exact Yu [(vB false)]
 replace h:=Zr c12 h
 refine Kq [1,2] [true] ?_
 refine Zk ?_
 refine zQd [1,2,14,15,16] [1,2,14,15,16] [true] ?_
 obtain ⟨z9,hz9,h⟩:=bC h
 refine Zbd (J:=(Qn (fun z9=>JR n (⟨38,[],[(4,(vB false))]⟩:Env) (Zv O n [none]) (n+1)) (fun z9=>JX 0 n (⟨38,[],[(2,.ref n 0)]⟩:Env) (Zv O n [some ⟨false,30,11,1,(Ze a0)⟩]) (n+1)))) (z:=z9) ?_ fun hw => ?_
 ·refine Xj hz9 (fun s0_=>⟨38,[],[(1,(vI a1)),(2,.ref n 0),(14,(sL Zf a0.Ops)),(15,(vI (a0.Ops.length:Int))),(16,(vI s0_))]⟩) (fun s0_=>(Zv O n [some ⟨false,30,11,1,(Ze a0)⟩])) (Qn (fun z9=>JR n (⟨38,[],[(4,(vB false))]⟩:Env) (Zv O n [none]) (n+1)) (fun z9=>JX 0 n (⟨38,[],[(2,.ref n 0)]⟩:Env) (Zv O n [some ⟨false,30,11,1,(Ze a0)⟩]) (n+1))) ?_
  intro s0_ x0_ hs0_
  unfold Zan at hs0_
  try dsimp only
  refine zQ [1,2,14,15,16,17] ?_
  refine Zk ?_
  refine Zt (t:=(decide (s0_ < (a0.Ops.length:Int)))) rfl (fun c8 => ?_) (fun c8 => ?_)
  ·replace hs0_:=Zs c8 hs0_
   refine Kq [1,2,14,15,16] [true] ?_
   refine Zk ?_
   refine Ya ?_
   refine Zk ?_
   obtain ⟨x4,hx4,ax4,bx4,cx4,hs0_⟩:=bE (f:=Zf) Zel (fun _=>rfl) (by decide) hs0_
   refine Zby [] ax4 bx4 cx4 ?_
   refine zDs [1,2,6,14,15,16] [true,true] ?_
   obtain ⟨y6,hy6,hs0_⟩:=bC hs0_
   refine zCd (Gu hy6) [1,2,14,15,16,25] [true,false] ?_
   refine Zt (t:=(!y6)) rfl (fun c7 => ?_) (fun c7 => ?_)
   ·replace hs0_:=Zs c7 hs0_
    refine zQ [4] ?_
    refine zW ?_
    exact zEy hs0_
   replace hs0_:=Zr c7 hs0_
   refine Kq [1,2,14,15,16] [true,false] ?_
   refine zR ?_
   exact zEn hs0_
  replace hs0_:=Zr c8 hs0_
  exact zEx hs0_
 rcases z9 with z9 | z9
 ·dsimp only [Qn] at hw h
  refine Ke hw ?_
  try simp only [Xe,Yi,↓reduceIte,Nat.reduceEqDiff]
  exact Zll [(vB false)]
 dsimp only [Qn] at hw h
 refine Yy hw ?_
 try simp only [Xe,Yi,↓reduceIte,Nat.reduceEqDiff]
 refine zDs [2] [true] ?_
 obtain ⟨y11,hy11,h⟩:=bC h
 refine zCd (Zvr hy11) [7,8] [false] ?_
 refine zQD [4] [none,none] ?_
 exact Yu [(vB (cond (decide (y11.1 < 1048576)) (decide (y11.2 < 1048576)) false))]
theorem Zue {Y7:(Zc→Option Bool)} {Y0:(Zc→Int→Option Bool)} {Ye:((List Zd)→Int→Option Bool)} {Yo:(Zc→Int→Option Bool)} {Yp:(Int→Zh→Int→Option Bool)} {Yb:(Bool→Bool→Bool→Zh→Option Bool)} (Vd:G0 Y7) (Uk:G3 Y0) (Uf:Ku Ye) (U6:Vl Yo) (Gu:V9 Yp) (X9:Kv Yb) {a0:Int} {a1:Zh} {a2:Int} {r:Bool} {O:Objs} {n:Nat} (h:Zep Y7 Y0 Ye Yo Yp Yb a0 a1 a2=some r):GTo Try.prog 105 [(vI a0),.agg (Yg a1),(vI a2)] O n ((vB r)) O n:=by
 unfold Zep at h
 refine zFn Try.call105 Try.func105 fun hU hN0 hN => ?_
 show W _ _ _ _ ⟨60,[],[(0,(vI a0)),(1,.agg (Yg a1)),(2,(vI a2))]⟩ (Zv O n []) _
 refine zQ [0,2,4] ?_
 refine Zbc ⟨60,[],[(0,(vI a0)),(2,(vI a2)),(4,.ip (Yg a1) 0)]⟩ (Zv O n [none]) (Yd hU rfl rfl ?_) ?_
 ·exact zSe
 refine zQ [0,2,4,7] ?_
 refine Zk ?_
 refine zQ [0,2,4,7,10] ?_
 refine Ya ?_
 refine Zk ?_
 refine Ya ?_
 obtain ⟨z1,hz1,h⟩:=bC h
 refine Yjd (J:=(Qn (fun z1=>JN n (⟨60,[],[(0,(vI a0)),(4,.ip (Yg a1) 0),(7,.fn 125 0 [.ip (Yg a1) 0])]⟩:Env) (Zv O n [none]) (n+1)) (Qn (fun z1=>JR n (⟨60,[],[(6,(vB z1))]⟩:Env) (Zv O n [none]) (n+1)) (Qn (fun z1=>JX 4 n (⟨60,[],[(0,(vI a0)),(2,(vI a2)),(4,.ip (Yg a1) 0),(7,.fn 125 0 [.ip (Yg a1) 0])]⟩:Env) (Zv O n [none]) (n+1)) (fun z1=>JX 0 n (⟨60,[],[]⟩:Env) (Zv O n [none]) (n+1)))))) (z:=z1) ?_ fun hw => ?_
 ·refine Ya ?_
  refine Ya ?_
  refine Zk ?_
  refine Ya ?_
  refine Zk ?_
  refine Zk ?_
  refine zQ [0,2,4,7,10,11] ?_
  refine Zt (t:=(a1.Kind == 0)) rfl (fun c7 => ?_) (fun c7 => ?_)
  ·replace hz1:=Zs c7 hz1
   refine zXt ?_
   refine zDs [4,7] [false] ?_
   refine Zk ?_
   obtain ⟨y3,hy3,hz1⟩:=bC hz1
   refine zRo [none,none,none,none,none,none] ?_
   refine zG ?_
   refine GCalls.argsW ?_ ((X9 hy3).then ?_)
   ·exact zSe
   refine zS ?_
   refine zG ?_
   refine zD [6] [false] ?_
   refine zW ?_
   exact zEn hz1
  replace hz1:=Zr c7 hz1
  refine Kq [0,2,4,7,10] [false] ?_
  refine Zk ?_
  refine zQ [0,2,4,7,10,13] ?_
  refine Zt (t:=(a1.Kind == 1)) rfl (fun c6 => ?_) (fun c6 => ?_)
  ·replace hz1:=Zs c6 hz1
   refine zXt ?_
   exact zEn hz1
  replace hz1:=Zr c6 hz1
  refine Kq [0,2,4,7,10] [false] ?_
  refine Zk ?_
  refine zQ [0,2,4,7,10,15] ?_
  refine Zt (t:=(a1.Kind == 2)) rfl (fun c5 => ?_) (fun c5 => ?_)
  ·replace hz1:=Zs c5 hz1
   refine zXt ?_
   exact zEn hz1
  replace hz1:=Zr c5 hz1
  refine Kq [0,2,4,7,10] [false] ?_
  refine zQ [0,2,4,7,17] ?_
  refine Zt (t:=(a1.Kind == 3)) rfl (fun c4 => ?_) (fun c4 => ?_)
  ·replace hz1:=Zs c4 hz1
   refine zXt ?_
   exact zEn hz1
  replace hz1:=Zr c4 hz1
  refine Kq [] [false] ?_
  refine zXt ?_
  exact zEn hz1
 rcases z1 with z1 | z1
 ·dsimp only [Qn] at hw h
  refine Xl hw ?_
  refine Zk ?_
  obtain ⟨z10,hz10,h⟩:=bC h
  refine Xl (E':=⟨60,[],[(6,(vB z10))]⟩) (O':=(Zv O n [none])) (n0:=(n+1)) ?_ ?_
  ·obtain ⟨y13,hy13,hz10⟩:=bC hz10
   rcases Bool.eq_false_or_eq_true y13 with c15 | c15
   ·replace hz10:=Zs c15 hz10
    rcases Bool.eq_false_or_eq_true (decide (0 < (a1.L.length:Int))) with c16 | c16
    ·replace hz10:=Zs c16 hz10
     try rw [c16] at c15
     obtain ⟨y14,hy14,hz10⟩:=bC hz10
     refine K1 [none,none,none,none,some true,some true,some true,some true,some true] c15 c16 ?_
     refine zG ?_
     refine GCalls.argsW ?_ ((X9 hy13).then ?_)
     ·exact Jn c15 c16
     refine zX2 c15 c16 ?_
     refine zG ?_
     refine GCalls.argsW ?_ ((Zqd hy14).then ?_)
     ·exact Jn c15 c16
     refine zX2 c15 c16 ?_
     refine zG ?_
     exact Zck hz10 c15 c16
    replace hz10:=Zr c16 hz10
    try rw [c16] at c15
    refine K1 [none,none,none,none,some false,some false,some false,some false,some false] c15 c16 ?_
    refine zG ?_
    refine GCalls.argsW ?_ ((X9 hy13).then ?_)
    ·exact Jn c15 c16
    refine zX2 c15 c16 ?_
    refine zG ?_
    exact Zck hz10 c15 c16
   replace hz10:=Zr c15 hz10
   refine Vf [none,none,none,none,some false,some false,some false,some false,some false] c15 ?_
   refine zG ?_
   refine GCalls.argsW ?_ ((X9 hy13).then ?_)
   ·exact Yb3 c15
   refine zX1 c15 ?_
   refine zG ?_
   exact Kk hz10 c15
  exact Yu [(vB z10)]
 rcases z1 with z1 | z1
 ·dsimp only [Qn] at hw h
  refine Yh7 hw ?_
  try simp only [Xe,Yi]
  exact Zll [(vB z1)]
 rcases z1 with z1 | z1
 ·dsimp only [Qn] at hw h
  refine Yb9 hw ?_
  try simp only [Xe,Yi,↓reduceIte,Nat.reduceEqDiff]
  refine zDs [0,2,4,7] [false] ?_
  obtain ⟨z20,hz20,h⟩:=bC h
  refine Xl (E':=⟨60,[],[(6,(vB z20))]⟩) (O':=(Zv O n [none])) (n0:=(n+1)) ?_ ?_
  ·obtain ⟨y24,hy24,hz20⟩:=bC hz20
   rcases Bool.eq_false_or_eq_true y24 with c27 | c27
   ·replace hz20:=Zs c27 hz20
    obtain ⟨y25,hy25,hz20⟩:=bC hz20
    rcases Bool.eq_false_or_eq_true y25 with c28 | c28
    ·replace hz20:=Zs c28 hz20
     try rw [c28] at c27
     obtain ⟨y26,hy26,hz20⟩:=bC hz20
     refine K1 [some true,some true,some true,some true,some true,some true,some true,some true] c27 c28 ?_
     refine GCalls.argsW ?_ ((X9 hy24).then ?_)
     ·exact Jn c27 c28
     refine zX2 c27 c28 ?_
     refine (Zmk hy25).then ?_
     refine zX2 c27 c28 ?_
     refine (Uk hy26).then ?_
     refine zX2 c27 c28 ?_
     exact Zck hz20 c27 c28
    replace hz20:=Zr c28 hz20
    try rw [c28] at c27
    refine K1 [some true,some true,some true,some true,some false,some false,some false,some false] c27 c28 ?_
    refine GCalls.argsW ?_ ((X9 hy24).then ?_)
    ·exact Jn c27 c28
    refine zX2 c27 c28 ?_
    refine (Zmk hy25).then ?_
    refine zX2 c27 c28 ?_
    exact Zck hz20 c27 c28
   replace hz20:=Zr c27 hz20
   refine Vf [some false,some false,some false,some false,some false,some false,some false,some false] c27 ?_
   refine GCalls.argsW ?_ ((X9 hy24).then ?_)
   ·exact Yb3 c27
   refine zX1 c27 ?_
   exact Kk hz20 c27
  exact Yu [(vB z20)]
 dsimp only [Qn] at hw h
 refine Yb9 hw ?_
 try simp only [Xe,Yi,↓reduceIte,Nat.reduceEqDiff]
 refine zD [] [false] ?_
 refine zQ [6] ?_
 exact Yu [(vB false)]
theorem Zq9 {Y7:(Zc→Option Bool)} {Y0:(Zc→Int→Option Bool)} {Ye:((List Zd)→Int→Option Bool)} {Yo:(Zc→Int→Option Bool)} {Yp:(Int→Zh→Int→Option Bool)} {Yb:(Bool→Bool→Bool→Zh→Option Bool)} (Vd:G0 Y7) (Uk:G3 Y0) (Uf:Ku Ye) (U6:Vl Yo) (Gu:V9 Yp) (X9:Kv Yb) {a0:Bool} {a1:Bool} {a2:Bool} {a3:Zh} {r:Bool} {O:Objs} {n:Nat} (h:Zb8 Y7 Y0 Ye Yo Yp Yb a0 a1 a2 a3=some r):GTo Try.prog 125 [(vB a0),(vB a1),(vB a2),.ip (Yg a3) 0] O n ((vB r)) O n:=by
 unfold Zb8 at h
 refine zFn Try.call125 Try.func125 fun hU hN0 hN => ?_
 show W _ _ _ _ ⟨41,[],[(0,(vB a0)),(1,(vB a1)),(2,(vB a2)),(3,.ip (Yg a3) 0)]⟩ (Zv O n []) _
 refine zQ [0,1,2,3] ?_
 obtain ⟨z5,hz5,h⟩:=bC h
 refine Xl (E':=⟨41,[],[(7,(vB z5))]⟩) (O':=(Zv O n [])) (n0:=n) ?_ ?_
 ·rcases Bool.eq_false_or_eq_true a0 with c14 | c14
  ·replace hz5:=Zs c14 hz5
   rcases Bool.eq_false_or_eq_true (a3.N != 0) with c15 | c15
   ·replace hz5:=Zs c15 hz5
    try rw [c15] at c14
    refine K1 [none,none,none,none,none,none,none,none,none,none,none,some false,some false,some false,some false,some false,some false,some false,some false,some false,some false,some false,some false,some false,some false] c14 c15 ?_
    refine zG ?_
    exact Zck hz5 c14 c15
   replace hz5:=Zr c15 hz5
   try rw [c15] at c14
   rcases Bool.eq_false_or_eq_true a1 with c16 | c16
   ·replace hz5:=Zs c16 hz5
    try rw [c16] at c14
    try rw [c16] at c15
    rcases Bool.eq_false_or_eq_true (decide (0 < (a3.L.length:Int))) with c17 | c17
    ·replace hz5:=Zs c17 hz5
     try rw [c17] at c14
     try rw [c17] at c15
     try rw [c17] at c16
     refine Ztd [none,none,none,none,none,none,none,none,none,none,none,some false,some false,some false,some false,some false,some false,some false,some false,some false,some false,some false,some false,some false,some false] c14 c15 c16 c17 ?_
     refine zG ?_
     exact Ztc hz5 c14 c15 c16 c17
    replace hz5:=Zr c17 hz5
    try rw [c17] at c14
    try rw [c17] at c15
    try rw [c17] at c16
    rcases Bool.eq_false_or_eq_true a2 with c18 | c18
    ·replace hz5:=Zs c18 hz5
     try rw [c18] at c14
     try rw [c18] at c15
     try rw [c18] at c16
     try rw [c18] at c17
     rcases Bool.eq_false_or_eq_true (a3.E.Kind != 0) with c19 | c19
     ·replace hz5:=Zs c19 hz5
      try rw [c19] at c14
      try rw [c19] at c15
      try rw [c19] at c16
      try rw [c19] at c17
      try rw [c19] at c18
      refine Z62 [none,none,none,none,none,none,none,none,none,none,none,some true,some true,some true,some true,some true,some true,some true,some false,some false,some false,some false,some true,some true,some true] c14 c15 c16 c17 c18 c19 ?_
      refine zG ?_
      exact Yh0 hz5 c14 c15 c16 c17 c18 c19
     replace hz5:=Zr c19 hz5
     try rw [c19] at c14
     try rw [c19] at c15
     try rw [c19] at c16
     try rw [c19] at c17
     try rw [c19] at c18
     obtain ⟨y10,hy10,hz5⟩:=bC hz5
     refine Z62 [none,none,none,none,none,none,none,none,none,none,none,some true,some true,some true,some true,some true,some true,some true,some true,some true,some true,some true,some true,some true,some true] c14 c15 c16 c17 c18 c19 ?_
     refine zG ?_
     refine (Vd hy10).then ?_
     refine zX6 c14 c15 c16 c17 c18 c19 ?_
     refine zG ?_
     exact Yh0 hz5 c14 c15 c16 c17 c18 c19
    replace hz5:=Zr c18 hz5
    try rw [c18] at c14
    try rw [c18] at c15
    try rw [c18] at c16
    try rw [c18] at c17
    refine Z1o [none,none,none,none,none,none,none,none,none,none,none,some true,some true,some false,some false,some false,some false,some false,some false,some false,some false,some false,some false,some true,some true] c14 c15 c16 c17 c18 ?_
    refine zG ?_
    exact Z1m hz5 c14 c15 c16 c17 c18
   replace hz5:=Zr c16 hz5
   try rw [c16] at c14
   try rw [c16] at c15
   rcases Bool.eq_false_or_eq_true a2 with c20 | c20
   ·replace hz5:=Zs c20 hz5
    try rw [c20] at c14
    try rw [c20] at c15
    try rw [c20] at c16
    rcases Bool.eq_false_or_eq_true (a3.E.Kind != 0) with c21 | c21
    ·replace hz5:=Zs c21 hz5
     try rw [c21] at c14
     try rw [c21] at c15
     try rw [c21] at c16
     try rw [c21] at c20
     refine Z1o [none,none,none,none,none,none,none,none,none,none,none,some true,some true,some true,some true,some true,some true,some true,some false,some false,some false,some false,some true,some true,some true] c14 c15 c16 c20 c21 ?_
     refine zG ?_
     exact Z1m hz5 c14 c15 c16 c20 c21
    replace hz5:=Zr c21 hz5
    try rw [c21] at c14
    try rw [c21] at c15
    try rw [c21] at c16
    try rw [c21] at c20
    obtain ⟨y11,hy11,hz5⟩:=bC hz5
    refine Z1o [none,none,none,none,none,none,none,none,none,none,none,some true,some true,some true,some true,some true,some true,some true,some true,some true,some true,some true,some true,some true,some true] c14 c15 c16 c20 c21 ?_
    refine zG ?_
    refine (Vd hy11).then ?_
    refine zX5 c14 c15 c16 c20 c21 ?_
    refine zG ?_
    exact Z1m hz5 c14 c15 c16 c20 c21
   replace hz5:=Zr c20 hz5
   try rw [c20] at c14
   try rw [c20] at c15
   try rw [c20] at c16
   refine Ztd [none,none,none,none,none,none,none,none,none,none,none,some true,some true,some false,some false,some false,some false,some false,some false,some false,some false,some false,some false,some true,some true] c14 c15 c16 c20 ?_
   refine zG ?_
   exact Ztc hz5 c14 c15 c16 c20
  replace hz5:=Zr c14 hz5
  rcases Bool.eq_false_or_eq_true a1 with c22 | c22
  ·replace hz5:=Zs c22 hz5
   try rw [c22] at c14
   rcases Bool.eq_false_or_eq_true (decide (0 < (a3.L.length:Int))) with c23 | c23
   ·replace hz5:=Zs c23 hz5
    try rw [c23] at c14
    try rw [c23] at c22
    refine Zdu [none,none,none,none,none,none,none,none,none,none,none,some false,some false,some false,some false,some false,some false,some false,some false,some false,some false,some false,some false,some false,some false] c14 c22 c23 ?_
    refine zG ?_
    exact Zf3 hz5 c14 c22 c23
   replace hz5:=Zr c23 hz5
   try rw [c23] at c14
   try rw [c23] at c22
   rcases Bool.eq_false_or_eq_true a2 with c24 | c24
   ·replace hz5:=Zs c24 hz5
    try rw [c24] at c14
    try rw [c24] at c22
    try rw [c24] at c23
    rcases Bool.eq_false_or_eq_true (a3.E.Kind != 0) with c25 | c25
    ·replace hz5:=Zs c25 hz5
     try rw [c25] at c14
     try rw [c25] at c22
     try rw [c25] at c23
     try rw [c25] at c24
     refine Z1o [none,none,none,none,none,none,none,none,none,none,none,some true,some true,some true,some true,some true,some true,some true,some false,some false,some false,some false,some true,some true,some true] c14 c22 c23 c24 c25 ?_
     refine zG ?_
     exact Z1m hz5 c14 c22 c23 c24 c25
    replace hz5:=Zr c25 hz5
    try rw [c25] at c14
    try rw [c25] at c22
    try rw [c25] at c23
    try rw [c25] at c24
    obtain ⟨y12,hy12,hz5⟩:=bC hz5
    refine Z1o [none,none,none,none,none,none,none,none,none,none,none,some true,some true,some true,some true,some true,some true,some true,some true,some true,some true,some true,some true,some true,some true] c14 c22 c23 c24 c25 ?_
    refine zG ?_
    refine (Vd hy12).then ?_
    refine zX5 c14 c22 c23 c24 c25 ?_
    refine zG ?_
    exact Z1m hz5 c14 c22 c23 c24 c25
   replace hz5:=Zr c24 hz5
   try rw [c24] at c14
   try rw [c24] at c22
   try rw [c24] at c23
   refine Ztd [none,none,none,none,none,none,none,none,none,none,none,some true,some true,some false,some false,some false,some false,some false,some false,some false,some false,some false,some false,some true,some true] c14 c22 c23 c24 ?_
   refine zG ?_
   exact Ztc hz5 c14 c22 c23 c24
  replace hz5:=Zr c22 hz5
  try rw [c22] at c14
  rcases Bool.eq_false_or_eq_true a2 with c26 | c26
  ·replace hz5:=Zs c26 hz5
   try rw [c26] at c14
   try rw [c26] at c22
   rcases Bool.eq_false_or_eq_true (a3.E.Kind != 0) with c27 | c27
   ·replace hz5:=Zs c27 hz5
    try rw [c27] at c14
    try rw [c27] at c22
    try rw [c27] at c26
    refine Ztd [none,none,none,none,none,none,none,none,none,none,none,some true,some true,some true,some true,some true,some true,some true,some false,some false,some false,some false,some true,some true,some true] c14 c22 c26 c27 ?_
    refine zG ?_
    exact Ztc hz5 c14 c22 c26 c27
   replace hz5:=Zr c27 hz5
   try rw [c27] at c14
   try rw [c27] at c22
   try rw [c27] at c26
   obtain ⟨y13,hy13,hz5⟩:=bC hz5
   refine Ztd [none,none,none,none,none,none,none,none,none,none,none,some true,some true,some true,some true,some true,some true,some true,some true,some true,some true,some true,some true,some true,some true] c14 c22 c26 c27 ?_
   refine zG ?_
   refine (Vd hy13).then ?_
   refine zX4 c14 c22 c26 c27 ?_
   refine zG ?_
   exact Ztc hz5 c14 c22 c26 c27
  replace hz5:=Zr c26 hz5
  try rw [c26] at c14
  try rw [c26] at c22
  refine Zdu [none,none,none,none,none,none,none,none,none,none,none,some true,some true,some false,some false,some false,some false,some false,some false,some false,some false,some false,some false,some true,some true] c14 c22 c26 ?_
  refine zG ?_
  exact Zf3 hz5 c14 c22 c26
 exact Yu [(vB z5)]
theorem Zt3:∀ k,(G0 ((Zp k).1))∧(G3 ((Zp k).2.1))∧(Ku ((Zp k).2.2.1))∧(Vl ((Zp k).2.2.2.1))∧(V9 ((Zp k).2.2.2.2.1))∧(Kv ((Zp k).2.2.2.2.2)):=fun k=>by
 induction k with
 | zero=>exact ⟨@fun a0 r O n h=>(nomatch (show (none:Option _)=some _ from h)),@fun a0 a1 r O n h=>(nomatch (show (none:Option _)=some _ from h)),@fun a0 a1 r O n h=>(nomatch (show (none:Option _)=some _ from h)),@fun a0 a1 r O n h=>(nomatch (show (none:Option _)=some _ from h)),@fun a0 a1 a2 r O n h=>(nomatch (show (none:Option _)=some _ from h)),@fun a0 a1 a2 a3 r O n h=>(nomatch (show (none:Option _)=some _ from h))⟩
 | succ k ih=>exact ⟨@fun a0 r O n h=>Zx7 (ih.1) (ih.2.1) (ih.2.2.1) (ih.2.2.2.1) (ih.2.2.2.2.1) (ih.2.2.2.2.2)  h,@fun a0 a1 r O n h=>Zx8 (ih.1) (ih.2.1) (ih.2.2.1) (ih.2.2.2.1) (ih.2.2.2.2.1) (ih.2.2.2.2.2)  h,@fun a0 a1 r O n h=>Zq8 (ih.1) (ih.2.1) (ih.2.2.1) (ih.2.2.2.1) (ih.2.2.2.2.1) (ih.2.2.2.2.2)  h,@fun a0 a1 r O n h=>Zst (ih.1) (ih.2.1) (ih.2.2.1) (ih.2.2.2.1) (ih.2.2.2.2.1) (ih.2.2.2.2.2)  h,@fun a0 a1 a2 r O n h=>Zue (ih.1) (ih.2.1) (ih.2.2.1) (ih.2.2.2.1) (ih.2.2.2.2.1) (ih.2.2.2.2.2)  h,@fun a0 a1 a2 a3 r O n h=>Zq9 (ih.1) (ih.2.1) (ih.2.2.1) (ih.2.2.2.1) (ih.2.2.2.2.1) (ih.2.2.2.2.2)  h⟩
theorem Zqc {a0:Zc} {r:Bool} {O:Objs} {n:Nat} (h:Zm5 a0=some r):GTo Try.prog 14 [.agg (Ze a0)] O n ((vB r)) O n:=by
 obtain ⟨k,hk⟩:=Zax h
 exact (Zt3 k).1  hk
theorem Zlw {a0:Zb} {r:Bool} {O:Objs} {n:Nat} (h:Zcc a0=some r):GTo Try.prog 35 [.agg (Zn a0)] O n ((vB r)) O n:=by
 unfold Zcc at h
 refine zFn Try.call35 Try.func35 fun hU hN0 hN => ?_
 show W _ _ _ _ ⟨6,[],[(0,.agg (Zn a0))]⟩ (Zv O n []) _
 refine zQ [1] ?_
 refine Zk ?_
 obtain ⟨y2,hy2,h⟩:=bC h
 refine zCd (Zbb hy2) [2] [false] ?_
 exact Yu [(vB (decide (0≤y2)))]
theorem Zkz {a0:Zb} {r:Bool} {O:Objs} {n:Nat} (h:Gl a0=some r):GTo Try.prog 15 [.agg (Zn a0)] O n ((vB r)) O n:=by
 unfold Gl at h
 refine zFn Try.call15 Try.func15 fun hU hN0 hN => ?_
 show W _ _ _ _ ⟨14,[],[(0,.agg (Zn a0))]⟩ (Zv O n []) _
 refine zQ [1] ?_
 obtain ⟨z3,hz3,h⟩:=bC h
 refine Xl (E':=⟨14,[],[(2,(vB z3))]⟩) (O':=(Zv O n [none])) (n0:=(n+1)) ?_ ?_
 ·obtain ⟨y6,hy6,hz3⟩:=bC hz3
  rcases Bool.eq_false_or_eq_true y6 with c8 | c8
  ·replace hz3:=Zs c8 hz3
   obtain ⟨y7,hy7,hz3⟩:=bC hz3
   refine Vf [some true,some true,none,none,none] c8 ?_
   refine zG ?_
   refine (Zlw hy6).then ?_
   refine zX1 c8 ?_
   refine zG ?_
   refine (Zaa hy7).then ?_
   refine zX1 c8 ?_
   refine zG ?_
   exact Kk hz3 c8
  replace hz3:=Zr c8 hz3
  refine Vf [some false,some false,some false,some false,some false] c8 ?_
  refine (Zlw hy6).then ?_
  refine zX1 c8 ?_
  exact Kk hz3 c8
 exact Yu [(vB z3)]
theorem Zln {a0:Zc} {a1:Zc} {r:Bool} {O:Objs} {n:Nat} (h:U8 a0 a1=some r):GTo Try.prog 4 [.agg (Ze a0),.agg (Ze a1)] O n ((vB r)) O n:=by
 unfold U8 at h
 refine zFn Try.call4 Try.func4 fun hU hN0 hN => ?_
 show W _ _ _ _ ⟨78,[],[(0,.agg (Ze a0)),(1,.agg (Ze a1))]⟩ (Zv O n []) _
 refine zQ [2,3] ?_
 refine Zk ?_
 obtain ⟨z3,hz3,h⟩:=bC h
 refine Xl (E':=⟨78,[],[(2,.ref n 0),(3,.ref (n+1) 0),(21,(vB z3))]⟩) (O':=(Zv O n [some ⟨false,30,11,1,(Ze a0)⟩,some ⟨false,30,11,1,(Ze a1)⟩])) (n0:=(n+2)) ?_ ?_
 ·obtain ⟨y6,hy6,hz3⟩:=bC hz3
  rcases Bool.eq_false_or_eq_true y6 with c8 | c8
  ·replace hz3:=Zs c8 hz3
   obtain ⟨y7,hy7,hz3⟩:=bC hz3
   refine Vf [some true,some true,some true] c8 ?_
   refine (Zhb hy6).then ?_
   refine zX1 c8 ?_
   refine (Zhb hy7).then ?_
   refine zX1 c8 ?_
   exact Kk hz3 c8
  replace hz3:=Zr c8 hz3
  refine Vf [some false,some false,some false] c8 ?_
  refine (Zhb hy6).then ?_
  refine zX1 c8 ?_
  exact Kk hz3 c8
 refine Zt (t:=z3) rfl (fun c50 => ?_) (fun c50 => ?_)
 ·replace h:=Zs c50 h
  refine Zk ?_
  obtain ⟨y10,hy10,h⟩:=bC h
  refine zCd (G9 hy10) [4] [false,false] ?_
  exact Yu [(vB y10)]
 replace h:=Zr c50 h
 refine Kq [2,3] [true,true] ?_
 refine Zk ?_
 obtain ⟨y12,hy12,h⟩:=bC h
 refine zCd (Znr hy12) [2,3,5,6] [true,true,true] ?_
 refine Zk ?_
 refine zQ [2,3,5,30] ?_
 refine Zt (t:=(!y12.2)) rfl (fun c49 => ?_) (fun c49 => ?_)
 ·replace h:=Zs c49 h
  refine Zk ?_
  obtain ⟨y14,hy14,h⟩:=bC h
  refine zCd (G9 hy14) [4] [false,false,false] ?_
  exact Yu [(vB y14)]
 replace h:=Zr c49 h
 refine Kq [2,3,5] [true,true,true] ?_
 refine Zk ?_
 obtain ⟨y16,hy16,h⟩:=bC h
 refine zCd (Zvp hy16) [2,3,5,7] [true,true,true,true] ?_
 refine Zk ?_
 obtain ⟨z19,hz19,h⟩:=bC h
 refine Xl (E':=⟨78,[],[(2,.ref n 0),(3,.ref (n+1) 0),(5,.ref (n+2) 0),(7,.ref (n+3) 0),(41,(vB z19))]⟩) (O':=(Zv O n [some ⟨false,30,11,1,(Ze a0)⟩,some ⟨false,30,11,1,(Ze a1)⟩,some ⟨false,30,11,1,(Ze y12.1)⟩,some ⟨false,25,3,1,(Zn y16)⟩])) (n0:=(n+4)) ?_ ?_
 ·obtain ⟨y22,hy22,hz19⟩:=bC hz19
  rcases Bool.eq_false_or_eq_true y22 with c24 | c24
  ·replace hz19:=Zs c24 hz19
   obtain ⟨y23,hy23,hz19⟩:=bC hz19
   refine Vf [some true,some true,some true] c24 ?_
   refine (Zqc hy22).then ?_
   refine zX1 c24 ?_
   refine (Zkz hy23).then ?_
   refine zX1 c24 ?_
   exact Kk hz19 c24
  replace hz19:=Zr c24 hz19
  refine Vf [some false,some false,some false] c24 ?_
  refine (Zqc hy22).then ?_
  refine zX1 c24 ?_
  exact Kk hz19 c24
 refine Zt (t:=z19) rfl (fun c48 => ?_) (fun c48 => ?_)
 ·replace h:=Zs c48 h
  refine Zk ?_
  obtain ⟨y26,hy26,h⟩:=bC h
  refine zCd (G9 hy26) [4] [false,false,false,false] ?_
  exact Yu [(vB y26)]
 replace h:=Zr c48 h
 refine Kq [2,3,5,7] [true,true,true,true] ?_
 refine Zk ?_
 obtain ⟨y28,hy28,h⟩:=bC h
 refine zCd (V2 hy28) [3,5,7,8,9] [false,true,true,true,true] ?_
 refine Zk ?_
 obtain ⟨z30,hz30,h⟩:=bC h
 refine Xl (E':=⟨78,[],[(3,.ref (n+1) 0),(5,.ref (n+2) 0),(7,.ref (n+3) 0),(8,.ref (n+4) 0),(9,(vB y28.2)),(54,(vB z30))]⟩) (O':=(Zv O n [none,some ⟨false,30,11,1,(Ze a1)⟩,some ⟨false,30,11,1,(Ze y12.1)⟩,some ⟨false,25,3,1,(Zn y16)⟩,some ⟨false,25,3,1,(Zn y28.1)⟩])) (n0:=(n+5)) ?_ ?_
 ·rcases Bool.eq_false_or_eq_true y28.2 with c33 | c33
  ·replace hz30:=Zs c33 hz30
   obtain ⟨y32,hy32,hz30⟩:=bC hz30
   refine Vf [some true,some true,some true] c33 ?_
   refine (Zkz hy32).then ?_
   refine zX1 c33 ?_
   exact Kk hz30 c33
  replace hz30:=Zr c33 hz30
  refine Vf [some false,some false,some false] c33 ?_
  exact Kk hz30 c33
 refine Zt (t:=z30) rfl (fun c47 => ?_) (fun c47 => ?_)
 ·replace h:=Zs c47 h
  refine Zk ?_
  obtain ⟨y35,hy35,h⟩:=bC h
  refine zCd (G9 hy35) [4] [false,false,false,false,false] ?_
  exact Yu [(vB y35)]
 replace h:=Zr c47 h
 refine Kq [3,5,7,8,9] [false,true,true,true,true] ?_
 refine Zk ?_
 obtain ⟨y37,hy37,h⟩:=bC h
 refine zCd (V2 hy37) [5,7,9,11] [false,false,true,true,false,false] ?_
 refine Zk ?_
 obtain ⟨y39,hy39,h⟩:=bC h
 refine zCd (V2 hy39) [9,11,13] [false,false,false,false,false,false,false] ?_
 obtain ⟨z41,hz41,h⟩:=bC h
 refine Xl (E':=⟨78,[],[(4,(vB z41))]⟩) (O':=(Zv O n [none,none,none,none,none,none,none])) (n0:=(n+7)) ?_ ?_
 ·rcases Bool.eq_false_or_eq_true y28.2 with c44 | c44
  ·replace hz41:=Zs c44 hz41
   rcases Bool.eq_false_or_eq_true y37.2 with c45 | c45
   ·replace hz41:=Zs c45 hz41
    try rw [c45] at c44
    rcases Bool.eq_false_or_eq_true y39.2 with c46 | c46
    ·replace hz41:=Zs c46 hz41
     try rw [c46] at c44
     try rw [c46] at c45
     obtain ⟨y43,hy43,hz41⟩:=bC hz41
     refine Zdu [none,none,some true] c44 c45 c46 ?_
     refine zG ?_
     refine (G9 hy43).then ?_
     refine zX3 c44 c45 c46 ?_
     refine zG ?_
     exact Zf3 hz41 c44 c45 c46
    replace hz41:=Zr c46 hz41
    try rw [c46] at c44
    try rw [c46] at c45
    refine Zdu [none,none,some false] c44 c45 c46 ?_
    refine zG ?_
    exact Zf3 hz41 c44 c45 c46
   replace hz41:=Zr c45 hz41
   try rw [c45] at c44
   refine K1 [none,none,some false] c44 c45 ?_
   refine zG ?_
   exact Zck hz41 c44 c45
  replace hz41:=Zr c44 hz41
  refine Vf [none,none,some false] c44 ?_
  refine zG ?_
  exact Kk hz41 c44
 exact Yu [(vB z41)]
end Go.Proofs.Ytbjcopkgdjombaa
