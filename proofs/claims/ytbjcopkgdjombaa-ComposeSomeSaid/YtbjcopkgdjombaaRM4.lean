/- Part RM4 of this seat's mirrors: functions of the seat's program, and the plain functions that they are; each theorem bears its own conditions. -/
import Derived.Test.YtbjcopkgdjombaaRD
import Derived.Test.YtbjcopkgdjombaaRM1
namespace Go.Proofs.Ytbjcopkgdjombaa
open Go.RowKit
set_option linter.unusedVariables false
set_option linter.unusedSimpArgs false
set_option maxRecDepth 100000
set_option maxHeartbeats 4000000
attribute [local push_cast] Try.results119 Try.results16 Try.results38 Try.results49 Try.results53 Try.results77 Try.results85 Try.results86 Try.results87 Try.results88 vI vB nV sL oR Ui Ze Xt Yg Zn X4 Z2d Z2c Z3g Z3f Xe Yi Zxf Zqt Zqs onW Jt Zil Zg2 Zxg Zxh Zut Zux Zus Zuw Zy4 Zy1 Zuv Zy3 Zy2 Zuu Zyz Zrp evS wok Vi Op.operands Call.operands gop onK onP atK List.all_cons List.all_nil Bool.and_true Bool.true_and Bool.and_self Value.oneCell' List.take_zero List.take_succ_cons List.take_nil List.drop_zero List.drop_succ_cons List.drop_nil List.append_nil Nat.add_zero Nat.zero_add Zb1 Xd ev Vy Zhx Z14 Z13 Z19 Z17 Z18 Z15 Z16 Z12 Zxd Zz8 Z5m Zoi Zji Znq Zit Zty Zlz Zn5 Zoa Zqn Zqk Zn8 Zqm Zql Zn7 Zqi Zn6 Zn9 Zmx Zqj Zqw Zqv Zg3 Zpl Zg4 Zqr Zoe Z2i bLo bHi bMx Zjj Zqq Z7i Zod Zp9 Zlr Zes Z0z Z7l Zpj Z7q Zjh Ybj Zxr Zxv Zxq Zxu Z2y Z2v Z2t Zt1 Zxs Z2x Z2w Zxt Z2u Zog gone Zyl Zrh Zrg pop TK.isAgg Z28 Z3c Z27 Z3b Zyd Z7z Z7w Z3a Z7y Z7x Z29 Z7v G.under G.unders List.getD_cons_zero List.getD_cons_succ List.set_cons_zero List.set_cons_succ List.map_cons List.map_nil List.toList_toArray Array.toList_append Option.toArray_none Option.toArray_some Array.toList_map Option.map_some Option.map_none Option.bind_some Option.bind_none List.getElem?_cons_zero List.getElem?_cons_succ List.getElem?_nil List.nil_append List.cons_append List.replicate_succ List.replicate_zero List.length_cons List.length_nil and_true true_and and_false false_and Bool.true_eq_false Bool.false_eq_true forall_const false_implies implies_true IntKind.bits if_true if_false ite_true ite_false eq_self true_implies false_or or_false or_true true_or not_true_eq_false not_false_eq_true decide_true decide_false decide_eq_true_eq decide_eq_false_iff_not beq_iff_eq bne_iff_ne ne_eq Bool.not_eq_true Bool.not_eq_false beq_eq_false_iff_ne bne_eq_false_iff_eq beq_self_eq_true bne_self_eq_false Option.some.injEq exists_eq_left' exists_eq_left ge_iff_le gt_iff_lt decide_not Bool.not_true Bool.not_false imp_self Z7n cond_true cond_false Yid Yic Bool.not_not Bool.and_false Bool.false_and Bool.or_true Bool.true_or Bool.or_false Bool.false_or Uv Za8 Un K7 Xp Yz Option.join_some Nat.add_assoc Int.toNat_natCast eI eB eS eL Xz Zpk Zof Z2h Z2f Z2g Ybv Yds Zpq Zoy Z3p Z3n Z3o Z53 Zsd Z5g Zs5 Z1v Zmd Z1x List.length_append G.agg.injEq G.row.injEq G.ref.injEq G.val.injEq G.sl.injEq G.tup.injEq Value.int.injEq Value.bool.injEq Value.string.injEq List.cons.injEq exists_and_left exists_const List.flatten_cons List.flatten_nil Int.le_refl Nat.le_refl Ju Y6 Xh Bool.not_eq_true' Bool.not_eq_false' Z41 Ztb Z9a Z9e Z89 Z9d Yfo Yfj List.size_toArray Zvu Zyo G.ren G.rens Z0i Zl8 Z3v Z1z Z10 Zy0 Z9f Zia G.fn.injEq Zz2 Zz3 Z40 Yfk Zz1 Z9c Yfn Yfm Z9b Z7t Ydd Option.join_none Yk Zbo undef Zqb Arr.len Arr.put_eq Zpp Zuh Zrd Zox Z3m Z3k Z3l onB Ybu Z0y Zyu Zwg Zwh Zwi Zwj Zwk Zwl Zt7 Zuk Zui Zrf Zoz Zuj Zyk Zyj Zyi Zyh Ydr Ygw Z52 Z3h U9 Z5w Zvk Zul Zre Z71 Zyw Zoc Zp8 Zkh Zs3 Zwm Zwn Zwo Zwp Ztf Ztg Zth Zti Ztj Ztk Ztl Zko prT Zhl Yi2 Z8z Z6p Z80 Yi3 Z81 Z6q Z82 Yi4 Z83 Yi5 Z84 Yi6 Z85 Yi7 Z86 Yei Z35 Yej Z36 Yek Z37 Yel Z38 Yem Z39 Yen Z4a Yeo Z4b Yep Z4c Yeq Z4d Yer Z4e Yes Z4f Yet Zwc Z6o Zih Yeu Z4g Zac Z4h Yev Znk Yew Znl Yex Zwd Yey Z4i Zy7 Z4j Zny Z4k Yez Z4l Zhk Z4m Ye0 Z4n Zel Z4o Ye1 Z4p Zfm Z4q Z6r Zwe Ye2 Z4r Ye3 Z4s Ye4 Z4t Yay Z4u Ye5 Z4v Ye6 Z4w Z8a Zy9 Z8b Zza Z8c Zzb Z8d Zzc Z8e Zzd Z8f Zze Z8g Zzf Z8h Zzg Z8i Zzh Z8j Zzi Z8k Zzj Z8l Zzk Z8m Zzl Z8n Zzm Z8o Zzn Z8p Zzo Z8q Zzp Z8r Zzq Z8s Zzr Z8t Zzs Z8u Zzt Z8v Zzu Z8w Zzv Z8x Zzw Z8y Zzx Za Y1 Zr0 Zry Zq0 Zrb Zr2 Zpe Zo4 Zo2 Zrv Zja Zi9 Ziv Zi1 Zjb Zii Zie Zid Zi7 Zg Jq Zf Zi X5 Qg Xb Zfw Zft Zev Zfb Zf1 Zee Zea Zd7 Zfo Zgk Zgi Zgb Zge Zgm Zfr Zfj Zfh Zgg Zlj Zli Zkv Zk5 Zlk Zj8 Zj4 Zj3 Zlh Zu6 Zu5 Zt0 Zuf Zu7 Zrw Zrk Zrj Zuz Y3 Zfx Zfu Zew Zfc Zf2 Zef Zeb Zd8 Zfp Yv Zeh Zeg Zd0 Zd5 Zei Zc4 Zc3 Zc2 Zec Y2 Zfv Zfs Zeu Zfa Zf0 Zed Zd9 Zd6 Zfn Z6 Zgj Zgh Zga Zgd Zgl Zfq Zfi Zfg Zgf Zrz Zrx Zqz Zra Zr1 Zpd Zo3 Zo1 Zru
def Zoo (Zcp:(Zb→Option Zb)):Prop:=∀ {a0:Zb} {r:Zb} {O:Objs} {n:Nat},Zcp a0=some r→GTo Try.prog 38 [.agg (Zn a0)] O n (.agg (Zn r)) O n
theorem Z0g {Zcp:(Zb→Option Zb)} (Zx4:Zoo Zcp) {a0:Zb} {r:Zb} {O:Objs} {n:Nat} (h:Zjf Zcp a0=some r):GTo Try.prog 38 [.agg (Zn a0)] O n (.agg (Zn r)) O n:=by
 unfold Zjf at h
 refine zFn Try.call38 Try.func38 fun hU hN0 hN => ?_
 show W _ _ _ _ ⟨49,[],[(0,.agg (Zn a0))]⟩ (Zv O n []) _
 refine zQ [1,2] ?_
 refine Zk ?_
 refine zQ [1,2,10] ?_
 refine Zt (t:=(a0.Kind == 0)) rfl (fun c15 => ?_) (fun c15 => ?_)
 ·replace h:=Zs c15 h
  refine Zk ?_
  refine zRd [2] [false,true] ?_
  exact Yu [.agg [(vI 0),nV,nV]]
 replace h:=Zr c15 h
 refine Kq [1,2] [true,true] ?_
 refine Zqh [1,2,3,4] (Vb Z5 (by kernel_rfl) [] (by kernel_rfl) ?_)
 refine zS ?_
 obtain ⟨z1,hz1,h⟩:=bC h
 refine Xl (E':=⟨49,[],[(1,.ref n 0),(2,.ref (n+1) 0),(3,(sL (eI .u64) z1.1)),(4,(sL Za z1.2))]⟩) (O':=(Zv O n [some ⟨false,25,3,1,(Zn a0)⟩,some ⟨false,25,3,1,[(vI 0),nV,nV]⟩])) (n0:=(n+2)) ?_ ?_
 ·refine zQ [1,2,3,4,18] ?_
  refine Zt (t:=(a0.Kind == 1)) rfl (fun c4 => ?_) (fun c4 => ?_)
  ·replace hz1:=Zs c4 hz1
   obtain ⟨y2,hy2,hz1⟩:=bC hz1
   obtain ⟨y3,hy3,hz1⟩:=bC hz1
   refine zC (Zbv hy2) ?_
   refine zTs (Zi0 hy3) ?_
   exact zEn hz1
  replace hz1:=Zr c4 hz1
  refine zK ?_
  exact zEn hz1
 refine Zk ?_
 refine zRd [2,4,5] [false,true,true] ?_
 obtain ⟨z5,hz5,h⟩:=bC h
 refine Xl (E':=⟨49,[],[(2,.ref (n+1) 0),(4,(sL Za z1.2)),(5,.ref (n+2) 0)]⟩) (O':=(Zv O n [none,some ⟨false,25,3,1,[(vI 0),nV,nV]⟩,some ⟨false,25,3,1,[(vI a0.Kind),(sL (eI .u64) z1.1),.row (n+4) z5.length]⟩,none,some (oR 25 3 Za z5),none])) (n0:=(n+6)) ?_ ?_
 ·refine zQ [2,4,5,29] ?_
  refine Zt (t:=(decide (0 < (z1.2.length:Int)))) rfl (fun c7 => ?_) (fun c7 => ?_)
  ·replace hz5:=Zs c7 hz5
   obtain ⟨l6,al6,bl6,cl6,el6,hz5⟩:=bM2 (c:=56) rfl hz5
   have nl6:Int.toNat (z1.2.length:Int)=List.length l6:=by rw [el6,List.length_replicate]
   have fl6:∀ O O' n,wkl O O' n (List.replicate (List.length l6) [.val (.int .i64 0),.val (.slice none 0 0),.val (.slice none 0 0)]).flatten (fl Za l6)=True:=fun O O' n=>by rw [← nl6,el6];exact eq_true (Z6z (by simp only [push_cast,seval,↓reduceIte,Zo]) _)
   clear el6
   refine Xf Z5 [] ?_
   simp only [push_cast,seval,↓reduceIte,Zo,al6,bl6,cl6,fl6,nl6,hN0,hN]
   have hz5:=Option.some.inj hz5;subst hz5
   refine And.intro rfl ?_
   refine Fit2.trans (E':=(⟨49,[],[(2,.ref (n+1) 0),(4,(sL Za z1.2)),(5,.ref (n+2) 0)]⟩:Env)) (O':=(Zv O n [none,some ⟨false,25,3,1,[(vI 0),nV,nV]⟩,some ⟨false,25,3,1,[(vI a0.Kind),(sL (eI .u64) z1.1),.row (n+3) l6.length]⟩,some (oR 25 3 Za l6)])) (n':=(n+4)) (Fit2.of (Yd hU rfl rfl ?_) (by omega)) ?_
   ·simp only [push_cast,seval,↓reduceIte,Zo,al6,bl6,cl6,fl6,nl6,hN0,hN]
   refine J8 (k:=4) (k':=6) hU [5,1,2,4] [0,1,2,0,3,0] rfl rfl rfl rfl ⟨rfl,rfl⟩ ?_
   exact zSe
  replace hz5:=Zr c7 hz5
  refine zK ?_
  have hz5:=Option.some.inj hz5;subst hz5
  refine And.intro rfl ?_
  refine Fit2.trans (E':=(⟨49,[],[(2,.ref (n+1) 0),(4,(sL Za z1.2)),(5,.ref (n+2) 0)]⟩:Env)) (O':=(Zv O n [none,some ⟨false,25,3,1,[(vI 0),nV,nV]⟩,some ⟨false,25,3,1,[(vI a0.Kind),(sL (eI .u64) z1.1),nV]⟩])) (n':=(n+3)) (Fit2.of (Yd hU rfl rfl ?_) (by omega)) ?_
  ·exact zSe
  refine Fit2.trans (Vg (p:=(n+2)) (k:=2) (q:=⟨false,25,3,1,[(vI a0.Kind),(sL (eI .u64) z1.1),nV]⟩) 25 3 (by simp only [Uv,Za8,List.getElem?_cons_zero,List.getElem?_cons_succ,Option.join_some,List.length_nil,Yk]) rfl (by omega)) ?_
  simp only [Xp,Yz,Un,K7,List.set_cons_zero,List.set_cons_succ,List.cons_append,List.nil_append,List.length_cons,List.length_nil,Nat.zero_add,Nat.reduceAdd,Nat.reduceLT,Nat.add_assoc]
  refine J8 (k:=4) (k':=6) hU [5,1,2,4] [0,1,2,0,3,0] rfl rfl rfl rfl ⟨rfl,rfl⟩ ?_
  exact zSe
 refine Zk ?_
 refine zQd [2,5,34,35,36] [2,5,34,35,36] [false,true,true,false,true,false] ?_
 obtain ⟨z14,hz14,h⟩:=bC h
 refine Yy (E':=⟨49,[],[(2,.ref (n+1) 0),(5,.ref (n+2) 0)]⟩) (O':=(Zv O n [none,some ⟨false,25,3,1,[(vI 0),nV,nV]⟩,some ⟨false,25,3,1,[(vI a0.Kind),(sL (eI .u64) z1.1),.row (n+4) z14.length]⟩,none,some (oR 25 3 Za z14),none])) (n0:=(n+6)) ?_ ?_
 ·refine Xj hz14 (fun s0_=>⟨49,[],[(2,.ref (n+1) 0),(5,.ref (n+2) 0),(34,(sL Za z1.2)),(35,(vI (z1.2.length:Int))),(36,(vI s0_.1))]⟩) (fun s0_=>(Zv O n [none,some ⟨false,25,3,1,[(vI 0),nV,nV]⟩,some ⟨false,25,3,1,[(vI a0.Kind),(sL (eI .u64) z1.1),.row (n+4) s0_.2.length]⟩,none,some (oR 25 3 Za s0_.2),none])) (fun z14=>JX 0 n (⟨49,[],[(2,.ref (n+1) 0),(5,.ref (n+2) 0)]⟩:Env) (Zv O n [none,some ⟨false,25,3,1,[(vI 0),nV,nV]⟩,some ⟨false,25,3,1,[(vI a0.Kind),(sL (eI .u64) z1.1),.row (n+4) z14.length]⟩,none,some (oR 25 3 Za z14),none]) (n+6)) ?_
  intro s0_ x0_ hs0_
  unfold Zca at hs0_
  try dsimp only
  refine zQ [2,5,34,35,36,37] ?_
  refine Zk ?_
  refine Zt (t:=(decide (s0_.1 < (z1.2.length:Int)))) rfl (fun c13 => ?_) (fun c13 => ?_)
  ·replace hs0_:=Zs c13 hs0_
   refine Kq [2,5,34,35,36] [false,true,true,false,true,false] ?_
   refine Zk ?_
   refine Ya ?_
   refine Zk ?_
   obtain ⟨x9,hx9,ax9,bx9,cx9,hs0_⟩:=bE (f:=Za) Zac (fun _=>rfl) (by decide) hs0_
   refine Zby [] ax9 bx9 cx9 ?_
   refine zD [2,5,6,7,34,35,36] [false,true,true,false,true,false,true] ?_
   obtain ⟨y10,hy10,hs0_⟩:=bC hs0_
   obtain ⟨x11,hx11,ax11,bx11,cx11,hs0_⟩:=bE (f:=Za) Zac (fun _=>rfl) (by decide) hs0_
   have gu12:V5 (fl Za s0_.2) [.val (.int .i64 y10.Kind),.sl y10.Words.length (fl (eI .u64) y10.Words),.sl y10.Kids.length (fl Za y10.Kids)] (Int.toNat s0_.1 * 3)=some (fl Za (Zi5 s0_.2 s0_.1 y10)):=(congrArg (fun c=>V5 (fl Za s0_.2) c (Int.toNat s0_.1 * 3)) (show [.val (.int .i64 y10.Kind),.sl y10.Words.length (fl (eI .u64) y10.Words),.sl y10.Kids.length (fl Za y10.Kids)]=Za y10 from by simp only [Za,Y1,eI,eB,eS,eL])).trans (Zmg (f:=Za) (ti:=⟨.bool,3,0,[],false⟩) (x:=y10) (fun _=>rfl) (Zhy hx11))
   refine Zkd Z5 (by kernel_rfl) [false,false,false,false,false,false,true] [] (by kernel_rfl) ?_
   refine zF4 ax11 bx11 cx11 gu12 ?_
   refine PCall.of (Zx4 hy10) ?_
   refine zF4 ax11 bx11 cx11 gu12 ?_
   refine zD [2,5,34,35,36] [false,true,true,false,true,false,false] ?_
   refine zR ?_
   exact zEn hs0_
  replace hs0_:=Zr c13 hs0_
  exact zEx hs0_
 try simp only [Xe,Yi,↓reduceIte,Nat.reduceEqDiff]
 refine zDs [2,5] [false,true,true,false,true,false] ?_
 refine zRd [2] [false,true,false,false,true,false] ?_
 exact Yu [.agg [(vI a0.Kind),(sL (eI .u64) z1.1),.row (n+4) z14.length]]
theorem Zvl:∀ k,(Zoo (Zad k)):=fun k=>by
 induction k with
 | zero=>exact @fun a0 r O n h=>(nomatch (show (none:Option _)=some _ from h))
 | succ k ih=>exact @fun a0 r O n h=>Z0g (ih)  h
theorem Zc0 {a0:Zb} {r:Zb} {O:Objs} {n:Nat} (h:Zcn a0=some r):GTo Try.prog 38 [.agg (Zn a0)] O n (.agg (Zn r)) O n:=by
 obtain ⟨k,hk⟩:=Zax h
 exact (Zvl k)  hk
theorem V2 {a0:Zc} {a1:Zb} {r:(Zb×Bool)} {O:Objs} {n:Nat} (h:Qa a0 a1=some r):GTo Try.prog 16 [.agg (Ze a0),.agg (Zn a1)] O n (.tup [.agg (Zn r.1),(vB r.2)]) O n:=by
 unfold Qa at h
 refine zFn Try.call16 Try.func16 fun hU hN0 hN => ?_
 show W _ _ _ _ ⟨19,[],[(0,.agg (Ze a0)),(1,.agg (Zn a1))]⟩ (Zv O n []) _
 refine zQ [2,3,4] ?_
 refine Zk ?_
 obtain ⟨y2,hy2,h⟩:=bC h
 refine zCd (Z0d hy2) [4,6,7] [false,false,true,true] ?_
 refine Zk ?_
 refine zQ [4,6,15] ?_
 refine Zt (t:=(!y2.2)) rfl (fun c5 => ?_) (fun c5 => ?_)
 ·replace h:=Zs c5 h
  refine Zk ?_
  refine zRd [4,5] [false,false,true,false] ?_
  exact Yu [.agg [(vI 0),nV,nV],(vB false)]
 replace h:=Zr c5 h
 refine Kq [4,6] [false,false,true,true] ?_
 refine Zk ?_
 obtain ⟨y4,hy4,h⟩:=bC h
 refine zCd (Zc0 hy4) [4,5] [false,false,true,false] ?_
 exact Yu [.agg (Zn y4),(vB true)]
def Zha (Qv:(Zc→Option Zc)):Prop:=∀ {a0:Zc} {r:Zc} {O:Objs} {n:Nat},Qv a0=some r→GTo Try.prog 49 [.agg (Ze a0)] O n (.agg (Ze r)) O n
def Ze5 (Qm:(Zh→Option Zh)):Prop:=∀ {a0:Zh} {r:Zh} {O:Objs} {n:Nat},Qm a0=some r→GTo Try.prog 77 [.agg (Yg a0)] O n (.agg (Yg r)) O n
theorem Zsu {Qv:(Zc→Option Zc)} {Qm:(Zh→Option Zh)} (Zcy:Zha Qv) (Ze8:Ze5 Qm) {a0:Zc} {r:Zc} {O:Objs} {n:Nat} (h:Zda Qv Qm a0=some r):GTo Try.prog 49 [.agg (Ze a0)] O n (.agg (Ze r)) O n:=by
 unfold Zda at h
 refine zFn Try.call49 Try.func49 fun hU hN0 hN => ?_
 show W _ _ _ _ ⟨76,[],[(0,.agg (Ze a0))]⟩ (Zv O n []) _
 refine zQ [1,2] ?_
 refine Zk ?_
 refine zRd [1,2,3] [true,true,true] ?_
 refine Zk ?_
 refine zQd [1,2,3,20,21,22] [1,2,3,20,21,22] [true,true,true] ?_
 refine J9 (E':=(⟨76,[],[(1,.ref n 0),(2,.ref (n+1) 0),(3,.ref (n+2) 0),(20,(sL Zg a0.Words)),(21,(vI (a0.Words.length:Int))),(22,(vI 0))]⟩:Env)) (O':=(Zv O n [some ⟨false,30,11,1,(Ze a0)⟩,some ⟨false,30,11,1,[(vI 0),(vI 0),nV,nV,(vI 0),nV,nV,nV,nV,(vI 0),nV]⟩,some ⟨false,30,11,1,[(vI a0.Kind),(vI a0.New.Kind),(sL (eI .u64) a0.New.Words),(sL Za a0.New.Kids),(vI a0.Old.Kind),(sL (eI .u64) a0.Old.Words),(sL Za a0.Old.Kids),.row (n+3) ([]:List Zj).length,nV,(vI a0.List_),nV]⟩,some (oR 42 4 Zg ([]:List Zj)),none])) (n':=(n+5)) ?_ ?_
 ·refine Fit2.trans (E':=(⟨76,[],[(1,.ref n 0),(2,.ref (n+1) 0),(3,.ref (n+2) 0),(20,(sL Zg a0.Words)),(21,(vI (a0.Words.length:Int))),(22,(vI 0))]⟩:Env)) (O':=(Zv O n [some ⟨false,30,11,1,(Ze a0)⟩,some ⟨false,30,11,1,[(vI 0),(vI 0),nV,nV,(vI 0),nV,nV,nV,nV,(vI 0),nV]⟩,some ⟨false,30,11,1,[(vI a0.Kind),(vI a0.New.Kind),(sL (eI .u64) a0.New.Words),(sL Za a0.New.Kids),(vI a0.Old.Kind),(sL (eI .u64) a0.Old.Words),(sL Za a0.Old.Kids),nV,nV,(vI a0.List_),nV]⟩])) (n':=(n+3)) (Fit2.of (Yd hU rfl rfl ?_) (by omega)) ?_
  ·exact zSe
  refine Fit2.trans (Vg (p:=(n+2)) (k:=7) (q:=⟨false,30,11,1,[(vI a0.Kind),(vI a0.New.Kind),(sL (eI .u64) a0.New.Words),(sL Za a0.New.Kids),(vI a0.Old.Kind),(sL (eI .u64) a0.Old.Words),(sL Za a0.Old.Kids),nV,nV,(vI a0.List_),nV]⟩) 42 4 (by simp only [Uv,Za8,List.getElem?_cons_zero,List.getElem?_cons_succ,Option.join_some,List.length_nil,Yk]) rfl (by omega)) ?_
  simp only [Xp,Yz,Un,K7,List.set_cons_zero,List.set_cons_succ,List.cons_append,List.nil_append,List.length_cons,List.length_nil,Nat.zero_add,Nat.reduceAdd,Nat.reduceLT,Nat.add_assoc]
  refine J8 (k:=4) (k':=5) hU [0,1,2,3] [0,1,2,3,0] rfl rfl rfl rfl ⟨rfl,rfl⟩ ?_
  exact zSe
 obtain ⟨z5,hz5,h⟩:=bC h
 refine Yy (E':=⟨76,[],[(1,.ref n 0),(2,.ref (n+1) 0),(3,.ref (n+2) 0)]⟩) (O':=(Zv O n [some ⟨false,30,11,1,(Ze a0)⟩,some ⟨false,30,11,1,[(vI 0),(vI 0),nV,nV,(vI 0),nV,nV,nV,nV,(vI 0),nV]⟩,some ⟨false,30,11,1,[(vI a0.Kind),(vI a0.New.Kind),(sL (eI .u64) a0.New.Words),(sL Za a0.New.Kids),(vI a0.Old.Kind),(sL (eI .u64) a0.Old.Words),(sL Za a0.Old.Kids),.row (n+3) z5.length,nV,(vI a0.List_),nV]⟩,some (oR 42 4 Zg z5),none])) (n0:=(n+5)) ?_ ?_
 ·refine Xj hz5 (fun s0_=>⟨76,[],[(1,.ref n 0),(2,.ref (n+1) 0),(3,.ref (n+2) 0),(20,(sL Zg a0.Words)),(21,(vI (a0.Words.length:Int))),(22,(vI s0_.1))]⟩) (fun s0_=>(Zv O n [some ⟨false,30,11,1,(Ze a0)⟩,some ⟨false,30,11,1,[(vI 0),(vI 0),nV,nV,(vI 0),nV,nV,nV,nV,(vI 0),nV]⟩,some ⟨false,30,11,1,[(vI a0.Kind),(vI a0.New.Kind),(sL (eI .u64) a0.New.Words),(sL Za a0.New.Kids),(vI a0.Old.Kind),(sL (eI .u64) a0.Old.Words),(sL Za a0.Old.Kids),.row (n+3) s0_.2.length,nV,(vI a0.List_),nV]⟩,some (oR 42 4 Zg s0_.2),none])) (fun z5=>JX 0 n (⟨76,[],[(1,.ref n 0),(2,.ref (n+1) 0),(3,.ref (n+2) 0)]⟩:Env) (Zv O n [some ⟨false,30,11,1,(Ze a0)⟩,some ⟨false,30,11,1,[(vI 0),(vI 0),nV,nV,(vI 0),nV,nV,nV,nV,(vI 0),nV]⟩,some ⟨false,30,11,1,[(vI a0.Kind),(vI a0.New.Kind),(sL (eI .u64) a0.New.Words),(sL Za a0.New.Kids),(vI a0.Old.Kind),(sL (eI .u64) a0.Old.Words),(sL Za a0.Old.Kids),.row (n+3) z5.length,nV,(vI a0.List_),nV]⟩,some (oR 42 4 Zg z5),none]) (n+5)) ?_
  intro s0_ x0_ hs0_
  unfold Zao at hs0_
  try dsimp only
  refine zQ [1,2,3,20,21,22,23] ?_
  refine Zk ?_
  refine Zt (t:=(decide (s0_.1 < (a0.Words.length:Int)))) rfl (fun c4 => ?_) (fun c4 => ?_)
  ·replace hs0_:=Zs c4 hs0_
   refine Kq [1,2,3,20,21,22] [true,true,true,true,false] ?_
   refine Zk ?_
   refine Ya ?_
   refine Zk ?_
   obtain ⟨x2,hx2,ax2,bx2,cx2,hs0_⟩:=bE (f:=Zg) Zhk (fun _=>rfl) (by decide) hs0_
   refine Zby [] ax2 bx2 cx2 ?_
   refine zD [1,2,3,5,20,21,22] [true,true,true,true,false,true] ?_
   obtain ⟨l3,pl3,ql3,el3,hs0_⟩:=bA (k:=1) rfl hs0_
   refine Zdu [] pl3 ql3 el3 ?_
   refine Zbc ⟨76,[],[(1,.ref n 0),(2,.ref (n+1) 0),(3,.ref (n+2) 0),(20,(sL Zg a0.Words)),(21,(vI (a0.Words.length:Int))),(22,(vI s0_.1))]⟩ (Zv O n [some ⟨false,30,11,1,(Ze a0)⟩,some ⟨false,30,11,1,[(vI 0),(vI 0),nV,nV,(vI 0),nV,nV,nV,nV,(vI 0),nV]⟩,some ⟨false,30,11,1,[(vI a0.Kind),(vI a0.New.Kind),(sL (eI .u64) a0.New.Words),(sL Za a0.New.Kids),(vI a0.Old.Kind),(sL (eI .u64) a0.Old.Words),(sL Za a0.Old.Kids),.row (n+3) l3.length,nV,(vI a0.List_),nV]⟩,some (oR 42 4 Zg l3),none,none,none]) (Yd hU rfl rfl ?_) ?_
   ·exact Zz5 pl3 ql3 el3
   refine zR ?_
   exact zEn hs0_
  replace hs0_:=Zr c4 hs0_
  exact zEx hs0_
 try simp only [Xe,Yi,↓reduceIte,Nat.reduceEqDiff]
 refine zDs [1,2,3] [true,true,true,true,false] ?_
 refine zQd [1,2,3,42,43,44] [1,2,3,42,43,44] [true,true,true,true,false] ?_
 refine J9 (E':=(⟨76,[],[(1,.ref n 0),(2,.ref (n+1) 0),(3,.ref (n+2) 0),(42,(sL Zi a0.Kids)),(43,(vI (a0.Kids.length:Int))),(44,(vI 0))]⟩:Env)) (O':=(Zv O n [some ⟨false,30,11,1,(Ze a0)⟩,some ⟨false,30,11,1,[(vI 0),(vI 0),nV,nV,(vI 0),nV,nV,nV,nV,(vI 0),nV]⟩,some ⟨false,30,11,1,[(vI a0.Kind),(vI a0.New.Kind),(sL (eI .u64) a0.New.Words),(sL Za a0.New.Kids),(vI a0.Old.Kind),(sL (eI .u64) a0.Old.Words),(sL Za a0.Old.Kids),.row (n+3) z5.length,.row (n+5) ([]:List Zd).length,(vI a0.List_),nV]⟩,some (oR 42 4 Zg z5),none,some (oR 55 12 Zi ([]:List Zd)),none])) (n':=(n+7)) ?_ ?_
 ·refine Fit2.trans (E':=(⟨76,[],[(1,.ref n 0),(2,.ref (n+1) 0),(3,.ref (n+2) 0),(42,(sL Zi a0.Kids)),(43,(vI (a0.Kids.length:Int))),(44,(vI 0))]⟩:Env)) (O':=(Zv O n [some ⟨false,30,11,1,(Ze a0)⟩,some ⟨false,30,11,1,[(vI 0),(vI 0),nV,nV,(vI 0),nV,nV,nV,nV,(vI 0),nV]⟩,some ⟨false,30,11,1,[(vI a0.Kind),(vI a0.New.Kind),(sL (eI .u64) a0.New.Words),(sL Za a0.New.Kids),(vI a0.Old.Kind),(sL (eI .u64) a0.Old.Words),(sL Za a0.Old.Kids),.row (n+3) z5.length,nV,(vI a0.List_),nV]⟩,some (oR 42 4 Zg z5),none])) (n':=(n+5)) (Fit2.of (Yd hU rfl rfl ?_) (by omega)) ?_
  ·exact zSe
  refine Fit2.trans (Vg (p:=(n+2)) (k:=8) (q:=⟨false,30,11,1,[(vI a0.Kind),(vI a0.New.Kind),(sL (eI .u64) a0.New.Words),(sL Za a0.New.Kids),(vI a0.Old.Kind),(sL (eI .u64) a0.Old.Words),(sL Za a0.Old.Kids),.row (n+3) z5.length,nV,(vI a0.List_),nV]⟩) 55 12 (by simp only [Uv,Za8,List.getElem?_cons_zero,List.getElem?_cons_succ,Option.join_some,List.length_nil,Yk]) rfl (by omega)) ?_
  simp only [Xp,Yz,Un,K7,List.set_cons_zero,List.set_cons_succ,List.cons_append,List.nil_append,List.length_cons,List.length_nil,Nat.zero_add,Nat.reduceAdd,Nat.reduceLT,Nat.add_assoc]
  refine J8 (k:=6) (k':=7) hU [0,1,2,3,6,5] [0,1,2,3,0,5,0] rfl rfl rfl rfl ⟨rfl,rfl⟩ ?_
  exact zSe
 obtain ⟨z11,hz11,h⟩:=bC h
 refine Yy (E':=⟨76,[],[(1,.ref n 0),(2,.ref (n+1) 0),(3,.ref (n+2) 0)]⟩) (O':=(Zv O n [some ⟨false,30,11,1,(Ze a0)⟩,some ⟨false,30,11,1,[(vI 0),(vI 0),nV,nV,(vI 0),nV,nV,nV,nV,(vI 0),nV]⟩,some ⟨false,30,11,1,[(vI a0.Kind),(vI a0.New.Kind),(sL (eI .u64) a0.New.Words),(sL Za a0.New.Kids),(vI a0.Old.Kind),(sL (eI .u64) a0.Old.Words),(sL Za a0.Old.Kids),.row (n+3) z5.length,.row (n+5) z11.length,(vI a0.List_),nV]⟩,some (oR 42 4 Zg z5),none,some (oR 55 12 Zi z11),none])) (n0:=(n+7)) ?_ ?_
 ·refine Xj hz11 (fun s1_=>⟨76,[],[(1,.ref n 0),(2,.ref (n+1) 0),(3,.ref (n+2) 0),(42,(sL Zi a0.Kids)),(43,(vI (a0.Kids.length:Int))),(44,(vI s1_.1))]⟩) (fun s1_=>(Zv O n [some ⟨false,30,11,1,(Ze a0)⟩,some ⟨false,30,11,1,[(vI 0),(vI 0),nV,nV,(vI 0),nV,nV,nV,nV,(vI 0),nV]⟩,some ⟨false,30,11,1,[(vI a0.Kind),(vI a0.New.Kind),(sL (eI .u64) a0.New.Words),(sL Za a0.New.Kids),(vI a0.Old.Kind),(sL (eI .u64) a0.Old.Words),(sL Za a0.Old.Kids),.row (n+3) z5.length,.row (n+5) s1_.2.length,(vI a0.List_),nV]⟩,some (oR 42 4 Zg z5),none,some (oR 55 12 Zi s1_.2),none])) (fun z11=>JX 2 n (⟨76,[],[(1,.ref n 0),(2,.ref (n+1) 0),(3,.ref (n+2) 0)]⟩:Env) (Zv O n [some ⟨false,30,11,1,(Ze a0)⟩,some ⟨false,30,11,1,[(vI 0),(vI 0),nV,nV,(vI 0),nV,nV,nV,nV,(vI 0),nV]⟩,some ⟨false,30,11,1,[(vI a0.Kind),(vI a0.New.Kind),(sL (eI .u64) a0.New.Words),(sL Za a0.New.Kids),(vI a0.Old.Kind),(sL (eI .u64) a0.Old.Words),(sL Za a0.Old.Kids),.row (n+3) z5.length,.row (n+5) z11.length,(vI a0.List_),nV]⟩,some (oR 42 4 Zg z5),none,some (oR 55 12 Zi z11),none]) (n+7)) ?_
  intro s1_ x1_ hs1_
  unfold Zap at hs1_
  try dsimp only
  refine zQ [1,2,3,42,43,44,45] ?_
  refine Zk ?_
  refine Zt (t:=(decide (s1_.1 < (a0.Kids.length:Int)))) rfl (fun c10 => ?_) (fun c10 => ?_)
  ·replace hs1_:=Zs c10 hs1_
   refine Kq [1,2,3,42,43,44] [true,true,true,true,false,true,false] ?_
   refine Zk ?_
   refine Ya ?_
   refine Zk ?_
   obtain ⟨x7,hx7,ax7,bx7,cx7,hs1_⟩:=bE (f:=Zi) Zfm (fun _=>rfl) (by decide) hs1_
   refine Zby [] ax7 bx7 cx7 ?_
   refine zD [1,2,3,7,42,43,44] [true,true,true,true,false,true,false,true] ?_
   obtain ⟨y8,hy8,hs1_⟩:=bC hs1_
   obtain ⟨l9,pl9,ql9,el9,hs1_⟩:=bA (k:=1) rfl hs1_
   refine Jv Z5 (by kernel_rfl) [.low,.low,.plain,.plain,.plain,.plain,.plain,.plain,.pass,.bar,.plain,.bar] (fun i=>i < (n+8)) [0,1,2,3,4,5,6,7,8,9,10,11] [.low,.low,.plain,.plain,.plain,.plain,.plain,.plain,.pass,.bar,.plain,.bar] [] (by kernel_rfl) rfl ?_
   refine zX3 pl9 ql9 el9 ?_
   refine zO ?_
   first | refine PCallA.of (fun _ _=>Zcy hy8) ?_ | refine PCall.of (Zcy hy8) ?_
   refine zX3 pl9 ql9 el9 ?_
   refine zO ?_
   refine Zbc ⟨76,[],[(1,.ref n 0),(2,.ref (n+1) 0),(3,.ref (n+2) 0),(42,(sL Zi a0.Kids)),(43,(vI (a0.Kids.length:Int))),(44,(vI s1_.1))]⟩ (Zv O n [some ⟨false,30,11,1,(Ze a0)⟩,some ⟨false,30,11,1,[(vI 0),(vI 0),nV,nV,(vI 0),nV,nV,nV,nV,(vI 0),nV]⟩,some ⟨false,30,11,1,[(vI a0.Kind),(vI a0.New.Kind),(sL (eI .u64) a0.New.Words),(sL Za a0.New.Kids),(vI a0.Old.Kind),(sL (eI .u64) a0.Old.Words),(sL Za a0.Old.Kids),.row (n+3) z5.length,.row (n+5) l9.length,(vI a0.List_),nV]⟩,some (oR 42 4 Zg z5),none,some (oR 55 12 Zi l9),none,none,none]) (Yd hU rfl rfl ?_) ?_
   ·exact Zz5 pl9 ql9 el9
   refine zR ?_
   exact zEn hs1_
  replace hs1_:=Zr c10 hs1_
  exact zEx hs1_
 try simp only [Xe,Yi,↓reduceIte,Nat.reduceEqDiff]
 refine zDs [1,2,3] [true,true,true,true,false,true,false] ?_
 refine zQd [2,3,61,62,63] [2,3,61,62,63] [false,true,true,true,false,true,false] ?_
 refine J9 (E':=(⟨76,[],[(2,.ref (n+1) 0),(3,.ref (n+2) 0),(61,(sL Zf a0.Ops)),(62,(vI (a0.Ops.length:Int))),(63,(vI 0))]⟩:Env)) (O':=(Zv O n [none,some ⟨false,30,11,1,[(vI 0),(vI 0),nV,nV,(vI 0),nV,nV,nV,nV,(vI 0),nV]⟩,some ⟨false,30,11,1,[(vI a0.Kind),(vI a0.New.Kind),(sL (eI .u64) a0.New.Words),(sL Za a0.New.Kids),(vI a0.Old.Kind),(sL (eI .u64) a0.Old.Words),(sL Za a0.Old.Kids),.row (n+3) z5.length,.row (n+5) z11.length,(vI a0.List_),.row (n+7) ([]:List Zh).length]⟩,some (oR 42 4 Zg z5),none,some (oR 55 12 Zi z11),none,some (oR 53 14 Zf ([]:List Zh)),none])) (n':=(n+9)) ?_ ?_
 ·refine Fit2.trans (E':=(⟨76,[],[(2,.ref (n+1) 0),(3,.ref (n+2) 0),(61,(sL Zf a0.Ops)),(62,(vI (a0.Ops.length:Int))),(63,(vI 0))]⟩:Env)) (O':=(Zv O n [none,some ⟨false,30,11,1,[(vI 0),(vI 0),nV,nV,(vI 0),nV,nV,nV,nV,(vI 0),nV]⟩,some ⟨false,30,11,1,[(vI a0.Kind),(vI a0.New.Kind),(sL (eI .u64) a0.New.Words),(sL Za a0.New.Kids),(vI a0.Old.Kind),(sL (eI .u64) a0.Old.Words),(sL Za a0.Old.Kids),.row (n+3) z5.length,.row (n+5) z11.length,(vI a0.List_),nV]⟩,some (oR 42 4 Zg z5),none,some (oR 55 12 Zi z11),none])) (n':=(n+7)) (Fit2.of (Yd hU rfl rfl ?_) (by omega)) ?_
  ·exact zSe
  refine Fit2.trans (Vg (p:=(n+2)) (k:=10) (q:=⟨false,30,11,1,[(vI a0.Kind),(vI a0.New.Kind),(sL (eI .u64) a0.New.Words),(sL Za a0.New.Kids),(vI a0.Old.Kind),(sL (eI .u64) a0.Old.Words),(sL Za a0.Old.Kids),.row (n+3) z5.length,.row (n+5) z11.length,(vI a0.List_),nV]⟩) 53 14 (by simp only [Uv,Za8,List.getElem?_cons_zero,List.getElem?_cons_succ,Option.join_some,List.length_nil,Yk]) rfl (by omega)) ?_
  simp only [Xp,Yz,Un,K7,List.set_cons_zero,List.set_cons_succ,List.cons_append,List.nil_append,List.length_cons,List.length_nil,Nat.zero_add,Nat.reduceAdd,Nat.reduceLT,Nat.add_assoc]
  refine J8 (k:=8) (k':=9) hU [8,1,2,3,8,5,8,7] [0,1,2,3,0,5,0,7,0] rfl rfl rfl rfl ⟨rfl,rfl⟩ ?_
  exact zSe
 obtain ⟨z17,hz17,h⟩:=bC h
 refine Yy (E':=⟨76,[],[(2,.ref (n+1) 0),(3,.ref (n+2) 0)]⟩) (O':=(Zv O n [none,some ⟨false,30,11,1,[(vI 0),(vI 0),nV,nV,(vI 0),nV,nV,nV,nV,(vI 0),nV]⟩,some ⟨false,30,11,1,[(vI a0.Kind),(vI a0.New.Kind),(sL (eI .u64) a0.New.Words),(sL Za a0.New.Kids),(vI a0.Old.Kind),(sL (eI .u64) a0.Old.Words),(sL Za a0.Old.Kids),.row (n+3) z5.length,.row (n+5) z11.length,(vI a0.List_),.row (n+7) z17.length]⟩,some (oR 42 4 Zg z5),none,some (oR 55 12 Zi z11),none,some (oR 53 14 Zf z17),none])) (n0:=(n+9)) ?_ ?_
 ·refine Xj hz17 (fun s2_=>⟨76,[],[(2,.ref (n+1) 0),(3,.ref (n+2) 0),(61,(sL Zf a0.Ops)),(62,(vI (a0.Ops.length:Int))),(63,(vI s2_.1))]⟩) (fun s2_=>(Zv O n [none,some ⟨false,30,11,1,[(vI 0),(vI 0),nV,nV,(vI 0),nV,nV,nV,nV,(vI 0),nV]⟩,some ⟨false,30,11,1,[(vI a0.Kind),(vI a0.New.Kind),(sL (eI .u64) a0.New.Words),(sL Za a0.New.Kids),(vI a0.Old.Kind),(sL (eI .u64) a0.Old.Words),(sL Za a0.Old.Kids),.row (n+3) z5.length,.row (n+5) z11.length,(vI a0.List_),.row (n+7) s2_.2.length]⟩,some (oR 42 4 Zg z5),none,some (oR 55 12 Zi z11),none,some (oR 53 14 Zf s2_.2),none])) (fun z17=>JX 4 n (⟨76,[],[(2,.ref (n+1) 0),(3,.ref (n+2) 0)]⟩:Env) (Zv O n [none,some ⟨false,30,11,1,[(vI 0),(vI 0),nV,nV,(vI 0),nV,nV,nV,nV,(vI 0),nV]⟩,some ⟨false,30,11,1,[(vI a0.Kind),(vI a0.New.Kind),(sL (eI .u64) a0.New.Words),(sL Za a0.New.Kids),(vI a0.Old.Kind),(sL (eI .u64) a0.Old.Words),(sL Za a0.Old.Kids),.row (n+3) z5.length,.row (n+5) z11.length,(vI a0.List_),.row (n+7) z17.length]⟩,some (oR 42 4 Zg z5),none,some (oR 55 12 Zi z11),none,some (oR 53 14 Zf z17),none]) (n+9)) ?_
  intro s2_ x2_ hs2_
  unfold Zaq at hs2_
  try dsimp only
  refine zQ [2,3,61,62,63,64] ?_
  refine Zk ?_
  refine Zt (t:=(decide (s2_.1 < (a0.Ops.length:Int)))) rfl (fun c16 => ?_) (fun c16 => ?_)
  ·replace hs2_:=Zs c16 hs2_
   refine Kq [2,3,61,62,63] [false,true,true,true,false,true,false,true,false] ?_
   refine Zk ?_
   refine Ya ?_
   refine Zk ?_
   obtain ⟨x13,hx13,ax13,bx13,cx13,hs2_⟩:=bE (f:=Zf) Zel (fun _=>rfl) (by decide) hs2_
   refine Zby [] ax13 bx13 cx13 ?_
   refine zD [2,3,9,61,62,63] [false,true,true,true,false,true,false,true,false,true] ?_
   obtain ⟨y14,hy14,hs2_⟩:=bC hs2_
   obtain ⟨l15,pl15,ql15,el15,hs2_⟩:=bA (k:=1) rfl hs2_
   refine Jv Z5 (by kernel_rfl) [.low,.low,.plain,.plain,.pass,.bar,.plain,.bar] (fun i=>i < (n+10)) [0,1,2,3,4,5,6,7] [.low,.low,.plain,.plain,.pass,.bar,.plain,.bar] [] (by kernel_rfl) rfl ?_
   refine zX3 pl15 ql15 el15 ?_
   refine zO ?_
   first | refine PCallA.of (fun _ _=>Ze8 hy14) ?_ | refine PCall.of (Ze8 hy14) ?_
   refine zX3 pl15 ql15 el15 ?_
   refine zO ?_
   refine Zbc ⟨76,[],[(2,.ref (n+1) 0),(3,.ref (n+2) 0),(61,(sL Zf a0.Ops)),(62,(vI (a0.Ops.length:Int))),(63,(vI s2_.1))]⟩ (Zv O n [none,some ⟨false,30,11,1,[(vI 0),(vI 0),nV,nV,(vI 0),nV,nV,nV,nV,(vI 0),nV]⟩,some ⟨false,30,11,1,[(vI a0.Kind),(vI a0.New.Kind),(sL (eI .u64) a0.New.Words),(sL Za a0.New.Kids),(vI a0.Old.Kind),(sL (eI .u64) a0.Old.Words),(sL Za a0.Old.Kids),.row (n+3) z5.length,.row (n+5) z11.length,(vI a0.List_),.row (n+7) l15.length]⟩,some (oR 42 4 Zg z5),none,some (oR 55 12 Zi z11),none,some (oR 53 14 Zf l15),none,none,none]) (Yd hU rfl rfl ?_) ?_
   ·exact Zz5 pl15 ql15 el15
   refine zR ?_
   exact zEn hs2_
  replace hs2_:=Zr c16 hs2_
  exact zEx hs2_
 try simp only [Xe,Yi,↓reduceIte,Nat.reduceEqDiff]
 refine zDs [2,3] [false,true,true,true,false,true,false,true,false] ?_
 refine zRd [2] [false,true,false,true,false,true,false,true,false] ?_
 exact Yu [.agg [(vI a0.Kind),(vI a0.New.Kind),(sL (eI .u64) a0.New.Words),(sL Za a0.New.Kids),(vI a0.Old.Kind),(sL (eI .u64) a0.Old.Words),(sL Za a0.Old.Kids),.row (n+3) z5.length,.row (n+5) z11.length,(vI a0.List_),.row (n+7) z17.length]]
theorem Zp7 {Qv:(Zc→Option Zc)} {Qm:(Zh→Option Zh)} (Zcy:Zha Qv) (Ze8:Ze5 Qm) {a0:Zh} {r:Zh} {O:Objs} {n:Nat} (h:Zbm Qv Qm a0=some r):GTo Try.prog 77 [.agg (Yg a0)] O n (.agg (Yg r)) O n:=by
 unfold Zbm at h
 refine zFn Try.call77 Try.func77 fun hU hN0 hN => ?_
 show W _ _ _ _ ⟨18,[],[(0,.agg (Yg a0))]⟩ (Zv O n []) _
 refine zQ [1,2] ?_
 obtain ⟨z1,hz1,h⟩:=bC h
 refine Xl (E':=⟨18,[],[(1,.ref n 0),(2,.ref (n+1) 0)]⟩) (O':=(Zv O n [some ⟨false,53,14,1,[(vI z1.1),(vI a0.N),(sL Za a0.L),(vI z1.2.1),(vI z1.2.2.1),(sL (eI .u64) z1.2.2.2.1),(sL Za z1.2.2.2.2.1),(vI z1.2.2.2.2.2.1),(sL (eI .u64) z1.2.2.2.2.2.2.1),(sL Za z1.2.2.2.2.2.2.2.1),(sL Zg z1.2.2.2.2.2.2.2.2.1),(sL Zi z1.2.2.2.2.2.2.2.2.2.1),(vI z1.2.2.2.2.2.2.2.2.2.2.1),(sL Zf z1.2.2.2.2.2.2.2.2.2.2.2)]⟩,some ⟨false,53,14,1,[(vI 0),(vI 0),nV,(vI 0),(vI 0),nV,nV,(vI 0),nV,nV,nV,nV,(vI 0),nV]⟩])) (n0:=(n+2)) ?_ ?_
 ·refine zQ [1,2,4] ?_
  refine Ya ?_
  refine zQ [1,2,4,5] ?_
  refine Zt (t:=(a0.Kind == 1)) rfl (fun c5 => ?_) (fun c5 => ?_)
  ·replace hz1:=Zs c5 hz1
   refine zR ?_
   exact zEn hz1
  replace hz1:=Zr c5 hz1
  refine zQ [1,2,4,8] ?_
  refine Zt (t:=(a0.Kind == 2)) rfl (fun c4 => ?_) (fun c4 => ?_)
  ·replace hz1:=Zs c4 hz1
   refine zR ?_
   exact zEn hz1
  replace hz1:=Zr c4 hz1
  refine zQ [1,2,11] ?_
  refine Zt (t:=(a0.Kind == 3)) rfl (fun c3 => ?_) (fun c3 => ?_)
  ·replace hz1:=Zs c3 hz1
   obtain ⟨y2,hy2,hz1⟩:=bC hz1
   refine zC (Zcy hy2) ?_
   exact zEn hz1
  replace hz1:=Zr c3 hz1
  refine zK ?_
  exact zEn hz1
 refine Zk ?_
 refine zRd [2] [false,true] ?_
 exact Yu [.agg [(vI z1.1),(vI a0.N),(sL Za a0.L),(vI z1.2.1),(vI z1.2.2.1),(sL (eI .u64) z1.2.2.2.1),(sL Za z1.2.2.2.2.1),(vI z1.2.2.2.2.2.1),(sL (eI .u64) z1.2.2.2.2.2.2.1),(sL Za z1.2.2.2.2.2.2.2.1),(sL Zg z1.2.2.2.2.2.2.2.2.1),(sL Zi z1.2.2.2.2.2.2.2.2.2.1),(vI z1.2.2.2.2.2.2.2.2.2.2.1),(sL Zf z1.2.2.2.2.2.2.2.2.2.2.2)]]
theorem Zp0:∀ k,(Zha ((X6 k).1))∧(Ze5 ((X6 k).2)):=fun k=>by
 induction k with
 | zero=>exact ⟨@fun a0 r O n h=>(nomatch (show (none:Option _)=some _ from h)),@fun a0 r O n h=>(nomatch (show (none:Option _)=some _ from h))⟩
 | succ k ih=>exact ⟨@fun a0 r O n h=>Zsu (ih.1) (ih.2)  h,@fun a0 r O n h=>Zp7 (ih.1) (ih.2)  h⟩
theorem Zub {a0:Zc} {r:Zc} {O:Objs} {n:Nat} (h:Zjz a0=some r):GTo Try.prog 49 [.agg (Ze a0)] O n (.agg (Ze r)) O n:=by
 obtain ⟨k,hk⟩:=Zax h
 exact (Zp0 k).1  hk
theorem Zdp {a0 r:List Zj} {O:Objs} {n:Nat} (h:J4 a0=some r):GTo Try.prog 53 [(sL Zg a0)] O n (.row n r.length) (Zv O n [some (oR 42 4 Zg r)]) (n+1):=by
 have h1:=Z1q h
 have h2:=Z1r h
 have h3:=Zvx h
 rw [List.nil_append] at h3
 subst h3
 simp only [List.length_nil,Nat.zero_add] at h1 h2
 clear h
 refine zFn Try.call53 Try.func53 fun hU hN0 hN => ?_
 show W _ _ _ _ ⟨8,[],[(0,(sL Zg r))]⟩ (Zv O n []) _
 refine zQ [0] ?_
 refine Z66 0 r.length (fl Zg r) rfl (Nat.le_of_ble_eq_true rfl) (Yj Xq _) fun A c hA => ?_
 refine zQ [0,4] ?_
 cases A with
 | none =>
  obtain rfl:r=[]:=List.eq_nil_of_length_eq_zero (hA rfl)
  refine Zt (t:=true) rfl (fun _ => ?_) (fun hc=>by cases hc)
  refine zQ [2] ?_
  refine zW ?_
  refine Zw9 (k:=1) (L3:=[some ⟨true,42,4,0,[]⟩]) (E2:=⟨8,[],[(2,.row n 0),(2,nV)]⟩) (n3:=(n+1)) (.inr rfl) hU rfl [.row n 0] ?_ ?_
  ·have ha:=Zkj (ba:=n) (E:=⟨8,[],[(2,.val (.slice none 0 0))]⟩) (O:=(Zv O n [])) (n:=n) 2 42 4 rfl (by omega)
   simp only [Yz] at ha
   exact ha
  simp only [push_cast,seval,↓reduceIte,Zo,Try.results53,hN0,hN]
 | some A =>
  refine Zt (t:=false) rfl (fun hc=>by cases hc) (fun _ => ?_)
  refine zK ?_
  refine And.intro rfl (And.intro (Nat.le_of_ble_eq_true rfl) ?_)
  refine Zk ?_
  refine Xf Z5 [] ?_
  simp only [push_cast,seval,↓reduceIte,Zo,h1,h2,hN0,hN]
  refine zW ?_
  refine Zw8 (.inr rfl) hU rfl [.row n r.length] (by omega) ?_
  simp only [push_cast,seval,↓reduceIte,Zo,Try.results53,hN0,hN]
theorem Gi {a0:Zz} {r:Zz} {O:Objs} {n:Nat} {i0 j0_0 j0_1 j0_2:Nat} (hi0:i0 < n) (Zae:j0_0 < n) (Zjl:j0_1 < n) (Zls:j0_2 < n) (K8:i0≠j0_0) (Zav:i0≠j0_1) (Zcv:i0≠j0_2) (Zau:j0_0≠j0_1) (Zct:j0_0≠j0_2) (Zcu:j0_1≠j0_2) (ho0:O i0=some ⟨false,98,4,1,[.row j0_2 a0.out.length,(vI a0.kept),.row j0_0 a0.gone.length,.row j0_1 a0.come.length]⟩) (Zaw:O j0_0=some (oR 25 3 Za a0.gone)) (Zks:O j0_1=some (oR 25 3 Za a0.come)) (Zmz:O j0_2=some (oR 53 14 Zf a0.out)) (h:Qr a0=some r):GTo Try.prog 88 [.ref i0 0] O n (.tup []) (Zv ((((O.upd j0_0 none).upd j0_1 none).upd j0_2 none).upd i0 (some ⟨false,98,4,1,[.row (n+2) r.out.length,(vI r.kept),.row n r.gone.length,.row (n+1) r.come.length]⟩)) n [some (oR 25 3 Za r.gone),some (oR 25 3 Za r.come),some (oR 53 14 Zf r.out)]) (n+3):=by
 unfold Qr at h
 refine Znp Z5 Try.call88 Try.func88 rfl (Nat.le_of_ble_eq_true rfl) (by omega) fun hU => ?_
 have e0:=Vu (ba:=n) (E:=⟨73,[],Zhx 0 [.ref i0 0]⟩) (O:=(Zv O n [])) (n:=n) (i:=i0) (j:=j0_0) (k:=2) (len:=a0.gone.length) (q:=⟨false,98,4,1,[.row j0_2 a0.out.length,.val (.int .i64 a0.kept),.row j0_0 a0.gone.length,.row j0_1 a0.come.length]⟩) (qj:=⟨true,25,3,a0.gone.length,fl Za a0.gone⟩) (by rw [Y6 _ hi0];first | exact ho0 | exact Yk _ _ _) rfl (by rw [Y6 _ Zae];exact Zaw) K8 (by omega)
 simp only [Xh _ _ Zae,Xh _ _ hi0,Xp,Yz,Ju,Zcj K8,List.set_cons_zero,List.set_cons_succ,List.cons_append,List.nil_append,List.length_cons,List.length_nil,Nat.zero_add,Nat.reduceAdd,Nat.add_assoc] at e0
 refine J9 e0 ?_
 have e1:=Vu (ba:=n) (E:=⟨73,[],Zhx 0 [.ref i0 0]⟩) (O:=(Zv ((O.upd j0_0 none).upd i0 (some ⟨false,98,4,1,[.row j0_2 a0.out.length,.val (.int .i64 a0.kept),.row n a0.gone.length,.row j0_1 a0.come.length]⟩)) n [some ⟨true,25,3,a0.gone.length,fl Za a0.gone⟩])) (n:=(n+1)) (i:=i0) (j:=j0_1) (k:=3) (len:=a0.come.length) (q:=⟨false,98,4,1,[.row j0_2 a0.out.length,.val (.int .i64 a0.kept),.row n a0.gone.length,.row j0_1 a0.come.length]⟩) (qj:=⟨true,25,3,a0.come.length,fl Za a0.come⟩) (by rw [Y6 _ hi0];first | exact ho0 | exact Yk _ _ _) rfl (by rw [Y6 _ Zjl,Xw _ _ (Ne.symm Zav),Xw _ _ (Ne.symm Zau)];exact Zks) Zav (by omega)
 simp only [Xh _ _ Zjl,Xh _ _ hi0,Xp,Yz,Ju,Zcj Zav,List.set_cons_zero,List.set_cons_succ,List.cons_append,List.nil_append,List.length_cons,List.length_nil,Nat.zero_add,Nat.reduceAdd,Nat.add_assoc] at e1
 refine J9 e1 ?_
 have e2:=Vu (ba:=n) (E:=⟨73,[],Zhx 0 [.ref i0 0]⟩) (O:=(Zv (((O.upd j0_0 none).upd j0_1 none).upd i0 (some ⟨false,98,4,1,[.row j0_2 a0.out.length,.val (.int .i64 a0.kept),.row n a0.gone.length,.row (n+1) a0.come.length]⟩)) n [some ⟨true,25,3,a0.gone.length,fl Za a0.gone⟩,some ⟨true,25,3,a0.come.length,fl Za a0.come⟩])) (n:=(n+2)) (i:=i0) (j:=j0_2) (k:=0) (len:=a0.out.length) (q:=⟨false,98,4,1,[.row j0_2 a0.out.length,.val (.int .i64 a0.kept),.row n a0.gone.length,.row (n+1) a0.come.length]⟩) (qj:=⟨true,53,14,a0.out.length,fl Zf a0.out⟩) (by rw [Y6 _ hi0];first | exact ho0 | exact Yk _ _ _) rfl (by rw [Y6 _ Zls,Xw _ _ (Ne.symm Zcv),Xw _ _ (Ne.symm Zcu),Xw _ _ (Ne.symm Zct)];exact Zmz) Zcv (by omega)
 simp only [Xh _ _ Zls,Xh _ _ hi0,Xp,Yz,Ju,Zcj Zcv,List.set_cons_zero,List.set_cons_succ,List.cons_append,List.nil_append,List.length_cons,List.length_nil,Nat.zero_add,Nat.reduceAdd,Nat.add_assoc] at e2
 refine J9 e2 ?_
 have hU:=(Und.drop (Und.drop (Und.drop hU j0_0) j0_1) j0_2)
 have hk0:∀ k,i0 < n+k:=fun k=>by omega
 have hN0:∀ o,Objs.upd (((O.upd j0_0 none).upd j0_1 none).upd j0_2 none) i0 o n=none:=fun o=>Jp hU hi0 _ (Nat.le_refl _)
 have hN:∀ o k,Objs.upd (((O.upd j0_0 none).upd j0_1 none).upd j0_2 none) i0 o (n+k)=none:=fun o k=>Jp hU hi0 _ (Nat.le_add_right _ _)
 show W _ _ _ _ ⟨73,[],[(0,.ref i0 0)]⟩ (Zv ((((O.upd j0_0 none).upd j0_1 none).upd j0_2 none).upd i0 (some ⟨false,98,4,1,[.row (n+2) a0.out.length,(vI a0.kept),.row n a0.gone.length,.row (n+1) a0.come.length]⟩)) n [some (oR 25 3 Za a0.gone),some (oR 25 3 Za a0.come),some (oR 53 14 Zf a0.out)]) _
 obtain ⟨z1,hz1,h⟩:=bC h
 refine Xl (E':=⟨73,[],[(0,.ref i0 0)]⟩) (O':=(Zv ((((O.upd j0_0 none).upd j0_1 none).upd j0_2 none).upd i0 (some ⟨false,98,4,1,[.row (n+2) z1.length,(vI a0.kept),.row n a0.gone.length,.row (n+1) a0.come.length]⟩)) n [some (oR 25 3 Za a0.gone),some (oR 25 3 Za a0.come),some (oR 53 14 Zf z1),none])) (n0:=(n+4)) ?_ ?_
 ·refine Zc5 [0,6] hi0 hk0 ?_
  refine Zt (t:=(decide (0 < a0.kept))) rfl (fun c5 => ?_) (fun c5 => ?_)
  ·replace hz1:=Zs c5 hz1
   obtain ⟨l2,pl2,ql2,el2,hz1⟩:=bA (k:=1) rfl hz1
   obtain ⟨x3,hx3,ax3,bx3,cx3,hz1⟩:=bE (f:=Zf) Zel (fun _=>rfl) (by decide) hz1
   have gu4:V5 (fl Zf a0.out++[.val (.int .i64 0),.val (.int .i64 0),.val (.slice none 0 0),.val (.int .i64 0),.val (.int .i64 0),.val (.slice none 0 0),.val (.slice none 0 0),.val (.int .i64 0),.val (.slice none 0 0),.val (.slice none 0 0),.val (.slice none 0 0),.val (.slice none 0 0),.val (.int .i64 0),.val (.slice none 0 0)]) [.val (.int .i64 0),.val (.int .i64 a0.kept),.val (.slice none 0 0),.val (.int .i64 0),.val (.int .i64 0),.val (.slice none 0 0),.val (.slice none 0 0),.val (.int .i64 0),.val (.slice none 0 0),.val (.slice none 0 0),.val (.slice none 0 0),.val (.slice none 0 0),.val (.int .i64 0),.val (.slice none 0 0)] (List.length a0.out * 14)=some (fl Zf a0.out++[.val (.int .i64 0),.val (.int .i64 a0.kept),.val (.slice none 0 0),.val (.int .i64 0),.val (.int .i64 0),.val (.slice none 0 0),.val (.slice none 0 0),.val (.int .i64 0),.val (.slice none 0 0),.val (.slice none 0 0),.val (.slice none 0 0),.val (.slice none 0 0),.val (.int .i64 0),.val (.slice none 0 0)]):=Zcm (f:=Zf) (sz:=14) (fun _=>rfl) rfl rfl
   refine Jv Z5 (by kernel_rfl) [.plain,.low,.low,.low,.plain,.low,.low,.low,.plain,.low,.pass,.bar,.shp,.fill true,.shp,.shp,.fill false] (fun i=>i < (n+3)) [0,1,2,3,4,5,6,7,8,9,10,11,12,13,14,15,16] [.plain,.low,.low,.low,.plain,.low,.low,.low,.plain,.low,.pass,.bar,.shp,.fill true,.shp,.shp,.fill false] [] (by kernel_rfl) rfl ?_
   refine zF9 pl2 ql2 el2 ax3 bx3 cx3 gu4 hi0 hk0 ?_
   refine zO ?_
   have hz1:=Option.some.inj hz1;subst hz1
   refine And.intro rfl (Fit2.of (Yh hU rfl rfl ?_) (by omega))
   exact Z42 pl2 ql2 el2 ax3 bx3 cx3 gu4 hi0 hk0
  replace hz1:=Zr c5 hz1
  refine zK ?_
  have hz1:=Option.some.inj hz1;subst hz1
  refine And.intro rfl (Fit2.of (Yh hU rfl rfl ?_) (by omega))
  exact Jn hi0 hk0
 obtain ⟨z6,hz6,h⟩:=bC h
 refine Xl (E':=⟨73,[],[(0,.ref i0 0)]⟩) (O':=(Zv ((((O.upd j0_0 none).upd j0_1 none).upd j0_2 none).upd i0 (some ⟨false,98,4,1,[.row (n+2) z6.1.length,(vI a0.kept),(sL Za z6.2),.row (n+1) a0.come.length]⟩)) n [none,some (oR 25 3 Za a0.come),some (oR 53 14 Zf z6.1),none,none])) (n0:=(n+5)) ?_ ?_
 ·refine Zc5 [0,27] hi0 hk0 ?_
  refine Zt (t:=(decide (0 < (a0.gone.length:Int)))) rfl (fun c12 => ?_) (fun c12 => ?_)
  ·replace hz6:=Zs c12 hz6
   refine Zbc ⟨73,[],[(0,.ref i0 0)]⟩ (Zv ((((O.upd j0_0 none).upd j0_1 none).upd j0_2 none).upd i0 (some ⟨false,98,4,1,[.row (n+2) z1.length,(vI a0.kept),(sL Za a0.gone),.row (n+1) a0.come.length]⟩)) n [none,some (oR 25 3 Za a0.come),some (oR 53 14 Zf z1),none]) (Yh hU rfl rfl ?_) ?_
   ·exact Jn hi0 hk0
   obtain ⟨l9,pl9,ql9,el9,hz6⟩:=bA (k:=1) rfl hz6
   obtain ⟨x10,hx10,ax10,bx10,cx10,hz6⟩:=bE (f:=Zf) Zel (fun _=>rfl) (by decide) hz6
   have gu11:V5 (fl Zf z1++[.val (.int .i64 0),.val (.int .i64 0),.val (.slice none 0 0),.val (.int .i64 0),.val (.int .i64 0),.val (.slice none 0 0),.val (.slice none 0 0),.val (.int .i64 0),.val (.slice none 0 0),.val (.slice none 0 0),.val (.slice none 0 0),.val (.slice none 0 0),.val (.int .i64 0),.val (.slice none 0 0)]) [.val (.int .i64 1),.val (.int .i64 0),.sl a0.gone.length (fl Za a0.gone),.val (.int .i64 0),.val (.int .i64 0),.val (.slice none 0 0),.val (.slice none 0 0),.val (.int .i64 0),.val (.slice none 0 0),.val (.slice none 0 0),.val (.slice none 0 0),.val (.slice none 0 0),.val (.int .i64 0),.val (.slice none 0 0)] (List.length z1 * 14)=some (fl Zf z1++[.val (.int .i64 1),.val (.int .i64 0),.sl a0.gone.length (fl Za a0.gone),.val (.int .i64 0),.val (.int .i64 0),.val (.slice none 0 0),.val (.slice none 0 0),.val (.int .i64 0),.val (.slice none 0 0),.val (.slice none 0 0),.val (.slice none 0 0),.val (.slice none 0 0),.val (.int .i64 0),.val (.slice none 0 0)]):=Zcm (f:=Zf) (sz:=14) (fun _=>rfl) rfl rfl
   refine Jv Z5 (by kernel_rfl) [.plain,.low,.low,.low,.plain,.low,.low,.low,.plain,.low,.pass,.bar,.shp,.fill true,.shp,.shp,.fill false] (fun i=>i < (n+4)) [0,1,2,3,4,5,6,7,8,9,10,11,12,13,14,15,16] [.plain,.low,.low,.low,.plain,.low,.low,.low,.plain,.low,.pass,.bar,.shp,.fill true,.shp,.shp,.fill false] [] (by kernel_rfl) rfl ?_
   refine zF9 pl9 ql9 el9 ax10 bx10 cx10 gu11 hi0 hk0 ?_
   refine zO ?_
   have hz6:=Option.some.inj hz6;subst hz6
   refine And.intro rfl (Fit2.of (Yh hU rfl rfl ?_) (by omega))
   exact Z42 pl9 ql9 el9 ax10 bx10 cx10 gu11 hi0 hk0
  replace hz6:=Zr c12 hz6
  refine zK ?_
  have hz6:=Option.some.inj hz6;subst hz6
  refine And.intro rfl (Fit2.of (Yh hU rfl rfl ?_) (by omega))
  exact Jn hi0 hk0
 obtain ⟨z13,hz13,h⟩:=bC h
 refine Xl (E':=⟨73,[],[(0,.ref i0 0)]⟩) (O':=(Zv ((((O.upd j0_0 none).upd j0_1 none).upd j0_2 none).upd i0 (some ⟨false,98,4,1,[.row (n+2) z13.1.length,(vI a0.kept),(sL Za z6.2),(sL Za z13.2)]⟩)) n [none,none,some (oR 53 14 Zf z13.1),none,none,none])) (n0:=(n+6)) ?_ ?_
 ·refine Zc5 [0,48] hi0 hk0 ?_
  refine Zt (t:=(decide (0 < (a0.come.length:Int)))) rfl (fun c19 => ?_) (fun c19 => ?_)
  ·replace hz13:=Zs c19 hz13
   refine Zbc ⟨73,[],[(0,.ref i0 0)]⟩ (Zv ((((O.upd j0_0 none).upd j0_1 none).upd j0_2 none).upd i0 (some ⟨false,98,4,1,[.row (n+2) z6.1.length,(vI a0.kept),(sL Za z6.2),(sL Za a0.come)]⟩)) n [none,none,some (oR 53 14 Zf z6.1),none,none]) (Yh hU rfl rfl ?_) ?_
   ·exact Jn hi0 hk0
   obtain ⟨l16,pl16,ql16,el16,hz13⟩:=bA (k:=1) rfl hz13
   obtain ⟨x17,hx17,ax17,bx17,cx17,hz13⟩:=bE (f:=Zf) Zel (fun _=>rfl) (by decide) hz13
   have gu18:V5 (fl Zf z6.1++[.val (.int .i64 0),.val (.int .i64 0),.val (.slice none 0 0),.val (.int .i64 0),.val (.int .i64 0),.val (.slice none 0 0),.val (.slice none 0 0),.val (.int .i64 0),.val (.slice none 0 0),.val (.slice none 0 0),.val (.slice none 0 0),.val (.slice none 0 0),.val (.int .i64 0),.val (.slice none 0 0)]) [.val (.int .i64 2),.val (.int .i64 0),.sl a0.come.length (fl Za a0.come),.val (.int .i64 0),.val (.int .i64 0),.val (.slice none 0 0),.val (.slice none 0 0),.val (.int .i64 0),.val (.slice none 0 0),.val (.slice none 0 0),.val (.slice none 0 0),.val (.slice none 0 0),.val (.int .i64 0),.val (.slice none 0 0)] (List.length z6.1 * 14)=some (fl Zf z6.1++[.val (.int .i64 2),.val (.int .i64 0),.sl a0.come.length (fl Za a0.come),.val (.int .i64 0),.val (.int .i64 0),.val (.slice none 0 0),.val (.slice none 0 0),.val (.int .i64 0),.val (.slice none 0 0),.val (.slice none 0 0),.val (.slice none 0 0),.val (.slice none 0 0),.val (.int .i64 0),.val (.slice none 0 0)]):=Zcm (f:=Zf) (sz:=14) (fun _=>rfl) rfl rfl
   refine Jv Z5 (by kernel_rfl) [.plain,.low,.low,.low,.plain,.low,.low,.low,.plain,.low,.pass,.bar,.shp,.fill true,.shp,.shp,.fill false] (fun i=>i < (n+5)) [0,1,2,3,4,5,6,7,8,9,10,11,12,13,14,15,16] [.plain,.low,.low,.low,.plain,.low,.low,.low,.plain,.low,.pass,.bar,.shp,.fill true,.shp,.shp,.fill false] [] (by kernel_rfl) rfl ?_
   refine zF9 pl16 ql16 el16 ax17 bx17 cx17 gu18 hi0 hk0 ?_
   refine zO ?_
   have hz13:=Option.some.inj hz13;subst hz13
   refine And.intro rfl (Fit2.of (Yh hU rfl rfl ?_) (by omega))
   exact Z42 pl16 ql16 el16 ax17 bx17 cx17 gu18 hi0 hk0
  replace hz13:=Zr c19 hz13
  refine zK ?_
  have hz13:=Option.some.inj hz13;subst hz13
  refine And.intro rfl (Fit2.of (Yh hU rfl rfl ?_) (by omega))
  exact Jn hi0 hk0
 refine K1 [] hi0 hk0 ?_
 have h:=Option.some.inj h;subst h
 refine Ko (k:=3) (i:=i0) (q1:=⟨false,98,4,1,[.row (n+2) z13.1.length,(vI 0),.row n ([]:List Zb).length,.row (n+1) ([]:List Zb).length]⟩) (L3:=[some (oR 25 3 Za ([]:List Zb)),some (oR 25 3 Za ([]:List Zb)),some (oR 53 14 Zf z13.1),none]) (E2:=(⟨73,[],[]⟩:Env)) (n3:=(n+4)) (.inl rfl) hU rfl [] ?_ ?_
 ·refine Fit2.trans (E':=(⟨73,[],[]⟩:Env)) (O':=(Zv ((((O.upd j0_0 none).upd j0_1 none).upd j0_2 none).upd i0 (some ⟨false,98,4,1,[.row (n+2) z13.1.length,(vI 0),nV,nV]⟩)) n [none,none,some (oR 53 14 Zf z13.1),none,none,none])) (n':=(n+6)) (Fit2.of (Yh hU rfl rfl ?_) (by omega)) ?_
  ·exact Jn hi0 hk0
  refine Fit2.trans (Vg (p:=i0) (k:=2) (q:=⟨false,98,4,1,[.row (n+2) z13.1.length,(vI 0),nV,nV]⟩) 25 3 (by simp only [Uv,Za8,List.getElem?_cons_zero,List.getElem?_cons_succ,Option.join_some,List.length_nil,Yk,Y6,hi0,hk0,hN0,hN]) rfl (by omega)) ?_
  simp only [Xp,Yz,Un,K7,List.set_cons_zero,List.set_cons_succ,List.cons_append,List.nil_append,List.length_cons,List.length_nil,Nat.zero_add,Nat.reduceAdd,Nat.reduceLT,Nat.add_assoc,Xh,Ju,hi0,hk0,hN0,hN]
  refine Fit2.trans (Vg (p:=i0) (k:=3) (q:=⟨false,98,4,1,[.row (n+2) z13.1.length,(vI 0),.row (n+6) ([]:List Zb).length,nV]⟩) 25 3 (by simp only [Uv,Za8,List.getElem?_cons_zero,List.getElem?_cons_succ,Option.join_some,List.length_nil,Yk,Y6,hi0,hk0,hN0,hN]) rfl (by omega)) ?_
  simp only [Xp,Yz,Un,K7,List.set_cons_zero,List.set_cons_succ,List.cons_append,List.nil_append,List.length_cons,List.length_nil,Nat.zero_add,Nat.reduceAdd,Nat.reduceLT,Nat.add_assoc,Xh,Ju,hi0,hk0,hN0,hN]
  refine Q4 (k:=8) (k':=4) hU [3,3,2,3,3,3,0,1] [6,7,2,0] rfl rfl rfl rfl ⟨rfl,rfl⟩ ?_
  exact Jn hi0 hk0
 simp only [push_cast,seval,↓reduceIte,Zo,Try.results88,hi0,hk0,hN0,hN]
theorem Zip {a0:Zz} {a1:Int} {r:Zz} {O:Objs} {n:Nat} {i0 j0_0 j0_1 j0_2:Nat} (hi0:i0 < n) (Zae:j0_0 < n) (Zjl:j0_1 < n) (Zls:j0_2 < n) (K8:i0≠j0_0) (Zav:i0≠j0_1) (Zcv:i0≠j0_2) (Zau:j0_0≠j0_1) (Zct:j0_0≠j0_2) (Zcu:j0_1≠j0_2) (ho0:O i0=some ⟨false,98,4,1,[.row j0_2 a0.out.length,(vI a0.kept),.row j0_0 a0.gone.length,.row j0_1 a0.come.length]⟩) (Zaw:O j0_0=some (oR 25 3 Za a0.gone)) (Zks:O j0_1=some (oR 25 3 Za a0.come)) (Zmz:O j0_2=some (oR 53 14 Zf a0.out)) (h:Vr a0 a1=some r):GTo Try.prog 85 [.ref i0 0,(vI a1)] O n (.tup []) (Zv ((((O.upd j0_0 none).upd j0_1 none).upd j0_2 none).upd i0 (some ⟨false,98,4,1,[.row (n+2) r.out.length,(vI r.kept),.row n r.gone.length,.row (n+1) r.come.length]⟩)) n [some (oR 25 3 Za r.gone),some (oR 25 3 Za r.come),some (oR 53 14 Zf r.out)]) (n+3):=by
 unfold Vr at h
 refine Znp Z5 Try.call85 Try.func85 rfl (Nat.le_of_ble_eq_true rfl) (by omega) fun hU => ?_
 have e0:=Vu (ba:=n) (E:=⟨19,[],Zhx 0 [.ref i0 0,.val (.int .i64 a1)]⟩) (O:=(Zv O n [])) (n:=n) (i:=i0) (j:=j0_0) (k:=2) (len:=a0.gone.length) (q:=⟨false,98,4,1,[.row j0_2 a0.out.length,.val (.int .i64 a0.kept),.row j0_0 a0.gone.length,.row j0_1 a0.come.length]⟩) (qj:=⟨true,25,3,a0.gone.length,fl Za a0.gone⟩) (by rw [Y6 _ hi0];first | exact ho0 | exact Yk _ _ _) rfl (by rw [Y6 _ Zae];exact Zaw) K8 (by omega)
 simp only [Xh _ _ Zae,Xh _ _ hi0,Xp,Yz,Ju,Zcj K8,List.set_cons_zero,List.set_cons_succ,List.cons_append,List.nil_append,List.length_cons,List.length_nil,Nat.zero_add,Nat.reduceAdd,Nat.add_assoc] at e0
 refine J9 e0 ?_
 have e1:=Vu (ba:=n) (E:=⟨19,[],Zhx 0 [.ref i0 0,.val (.int .i64 a1)]⟩) (O:=(Zv ((O.upd j0_0 none).upd i0 (some ⟨false,98,4,1,[.row j0_2 a0.out.length,.val (.int .i64 a0.kept),.row n a0.gone.length,.row j0_1 a0.come.length]⟩)) n [some ⟨true,25,3,a0.gone.length,fl Za a0.gone⟩])) (n:=(n+1)) (i:=i0) (j:=j0_1) (k:=3) (len:=a0.come.length) (q:=⟨false,98,4,1,[.row j0_2 a0.out.length,.val (.int .i64 a0.kept),.row n a0.gone.length,.row j0_1 a0.come.length]⟩) (qj:=⟨true,25,3,a0.come.length,fl Za a0.come⟩) (by rw [Y6 _ hi0];first | exact ho0 | exact Yk _ _ _) rfl (by rw [Y6 _ Zjl,Xw _ _ (Ne.symm Zav),Xw _ _ (Ne.symm Zau)];exact Zks) Zav (by omega)
 simp only [Xh _ _ Zjl,Xh _ _ hi0,Xp,Yz,Ju,Zcj Zav,List.set_cons_zero,List.set_cons_succ,List.cons_append,List.nil_append,List.length_cons,List.length_nil,Nat.zero_add,Nat.reduceAdd,Nat.add_assoc] at e1
 refine J9 e1 ?_
 have e2:=Vu (ba:=n) (E:=⟨19,[],Zhx 0 [.ref i0 0,.val (.int .i64 a1)]⟩) (O:=(Zv (((O.upd j0_0 none).upd j0_1 none).upd i0 (some ⟨false,98,4,1,[.row j0_2 a0.out.length,.val (.int .i64 a0.kept),.row n a0.gone.length,.row (n+1) a0.come.length]⟩)) n [some ⟨true,25,3,a0.gone.length,fl Za a0.gone⟩,some ⟨true,25,3,a0.come.length,fl Za a0.come⟩])) (n:=(n+2)) (i:=i0) (j:=j0_2) (k:=0) (len:=a0.out.length) (q:=⟨false,98,4,1,[.row j0_2 a0.out.length,.val (.int .i64 a0.kept),.row n a0.gone.length,.row (n+1) a0.come.length]⟩) (qj:=⟨true,53,14,a0.out.length,fl Zf a0.out⟩) (by rw [Y6 _ hi0];first | exact ho0 | exact Yk _ _ _) rfl (by rw [Y6 _ Zls,Xw _ _ (Ne.symm Zcv),Xw _ _ (Ne.symm Zcu),Xw _ _ (Ne.symm Zct)];exact Zmz) Zcv (by omega)
 simp only [Xh _ _ Zls,Xh _ _ hi0,Xp,Yz,Ju,Zcj Zcv,List.set_cons_zero,List.set_cons_succ,List.cons_append,List.nil_append,List.length_cons,List.length_nil,Nat.zero_add,Nat.reduceAdd,Nat.add_assoc] at e2
 refine J9 e2 ?_
 have hU:=(Und.drop (Und.drop (Und.drop hU j0_0) j0_1) j0_2)
 have hk0:∀ k,i0 < n+k:=fun k=>by omega
 have hN0:∀ o,Objs.upd (((O.upd j0_0 none).upd j0_1 none).upd j0_2 none) i0 o n=none:=fun o=>Jp hU hi0 _ (Nat.le_refl _)
 have hN:∀ o k,Objs.upd (((O.upd j0_0 none).upd j0_1 none).upd j0_2 none) i0 o (n+k)=none:=fun o k=>Jp hU hi0 _ (Nat.le_add_right _ _)
 show W _ _ _ _ ⟨19,[],[(0,.ref i0 0),(1,(vI a1))]⟩ (Zv ((((O.upd j0_0 none).upd j0_1 none).upd j0_2 none).upd i0 (some ⟨false,98,4,1,[.row (n+2) a0.out.length,(vI a0.kept),.row n a0.gone.length,.row (n+1) a0.come.length]⟩)) n [some (oR 25 3 Za a0.gone),some (oR 25 3 Za a0.come),some (oR 53 14 Zf a0.out)]) _
 obtain ⟨z1,hz1,h⟩:=bC h
 refine Xl (E':=⟨19,[],[(0,.ref i0 0),(1,(vI a1))]⟩) (O':=(Zv ((((O.upd j0_0 none).upd j0_1 none).upd j0_2 none).upd i0 (some ⟨false,98,4,1,[.row (n+6) z1.1.length,(vI z1.2.2.2),.row (n+7) z1.2.1.length,.row (n+8) z1.2.2.1.length]⟩)) n [none,none,none,none,none,none,some (oR 53 14 Zf z1.1),some (oR 25 3 Za z1.2.1),some (oR 25 3 Za z1.2.2.1)])) (n0:=(n+9)) ?_ ?_
 ·refine Zc5 [0,1,8] hi0 hk0 ?_
  refine Zt (t:=(a0.kept == 0)) rfl (fun c3 => ?_) (fun c3 => ?_)
  ·replace hz1:=Zs c3 hz1
   obtain ⟨y2,hy2,hz1⟩:=bC hz1
   refine K1 [] hi0 hk0 ?_
   refine (Gi (i0:=i0) (j0_0:=n) (j0_1:=(n+1)) (j0_2:=(n+2)) (by omega) (by omega) (by omega) (by omega) (by omega) (by omega) (by omega) (by omega) (by omega) (by omega) (by simp only [push_cast,seval,↓reduceIte,Zo,Xz,hi0,hk0,hN0,hN] <;> rfl) (by simp only [push_cast,seval,↓reduceIte,Zo,Xz,hi0,hk0,hN0,hN] <;> rfl) (by simp only [push_cast,seval,↓reduceIte,Zo,Xz,hi0,hk0,hN0,hN] <;> rfl) (by simp only [push_cast,seval,↓reduceIte,Zo,Xz,hi0,hk0,hN0,hN] <;> rfl) hy2).then ?_
   refine zX2 hi0 hk0 ?_
   have hz1:=Option.some.inj hz1;subst hz1
   refine And.intro rfl ?_
   refine Fit2.trans (E':=(⟨19,[],[(0,.ref i0 0),(1,(vI a1))]⟩:Env)) (O':=(Zv ((((O.upd j0_0 none).upd j0_1 none).upd j0_2 none).upd i0 (some ⟨false,98,4,1,[.row (n+5) y2.out.length,(vI y2.kept),.row (n+3) y2.gone.length,.row (n+4) y2.come.length]⟩)) n [none,none,none,some (oR 25 3 Za y2.gone),some (oR 25 3 Za y2.come),some (oR 53 14 Zf y2.out)])) (n':=(n+6)) (Fit2.of (Yh hU rfl rfl ?_) (by omega)) ?_
   ·exact Jn hi0 hk0
   refine Q4 (k:=6) (k':=9) hU [5,5,5,7,8,6] [0,0,0,0,0,0,5,3,4] rfl rfl rfl rfl ⟨rfl,rfl⟩ ?_
   exact Jn hi0 hk0
  replace hz1:=Zr c3 hz1
  refine zK ?_
  have hz1:=Option.some.inj hz1;subst hz1
  refine And.intro rfl ?_
  refine Fit2.trans (E':=(⟨19,[],[(0,.ref i0 0),(1,(vI a1))]⟩:Env)) (O':=(Zv ((((O.upd j0_0 none).upd j0_1 none).upd j0_2 none).upd i0 (some ⟨false,98,4,1,[.row (n+2) a0.out.length,(vI a0.kept),.row n a0.gone.length,.row (n+1) a0.come.length]⟩)) n [some (oR 25 3 Za a0.gone),some (oR 25 3 Za a0.come),some (oR 53 14 Zf a0.out)])) (n':=(n+3)) (Fit2.of (Yh hU rfl rfl ?_) (by omega)) ?_
  ·exact Jn hi0 hk0
  refine Q4 (k:=3) (k':=9) hU [7,8,6] [0,0,0,0,0,0,2,0,1] rfl rfl rfl rfl ⟨rfl,rfl⟩ ?_
  exact Jn hi0 hk0
 refine K1 [] hi0 hk0 ?_
 have h:=Option.some.inj h;subst h
 refine Ko (k:=3) (i:=i0) (q1:=⟨false,98,4,1,[.row (n+2) z1.1.length,(vI (IntKind.i64.wrap (z1.2.2.2+a1))),.row n z1.2.1.length,.row (n+1) z1.2.2.1.length]⟩) (L3:=[some (oR 25 3 Za z1.2.1),some (oR 25 3 Za z1.2.2.1),some (oR 53 14 Zf z1.1),none]) (E2:=(⟨19,[],[]⟩:Env)) (n3:=(n+4)) (.inl rfl) hU rfl [] ?_ ?_
 ·refine Fit2.trans (E':=(⟨19,[],[]⟩:Env)) (O':=(Zv ((((O.upd j0_0 none).upd j0_1 none).upd j0_2 none).upd i0 (some ⟨false,98,4,1,[.row (n+6) z1.1.length,(vI (IntKind.i64.wrap (z1.2.2.2+a1))),.row (n+7) z1.2.1.length,.row (n+8) z1.2.2.1.length]⟩)) n [none,none,none,none,none,none,some (oR 53 14 Zf z1.1),some (oR 25 3 Za z1.2.1),some (oR 25 3 Za z1.2.2.1)])) (n':=(n+9)) (Fit2.of (Yh hU rfl rfl ?_) (by omega)) ?_
  ·exact Jn hi0 hk0
  refine Q4 (k:=9) (k':=4) hU [3,3,3,3,3,3,2,0,1] [7,8,6,0] rfl rfl rfl rfl ⟨rfl,rfl⟩ ?_
  exact Jn hi0 hk0
 simp only [push_cast,seval,↓reduceIte,Zo,Try.results85,hi0,hk0,hN0,hN]
theorem Zlo {a0:Zz} {a2:(List Zb)} {r:Zz} {O:Objs} {n:Nat} {i0 j0_0 j0_1 j0_2:Nat} (hi0:i0 < n) (Zae:j0_0 < n) (Zjl:j0_1 < n) (Zls:j0_2 < n) (K8:i0≠j0_0) (Zav:i0≠j0_1) (Zcv:i0≠j0_2) (Zau:j0_0≠j0_1) (Zct:j0_0≠j0_2) (Zcu:j0_1≠j0_2) (ho0:O i0=some ⟨false,98,4,1,[.row j0_2 a0.out.length,(vI a0.kept),.row j0_0 a0.gone.length,.row j0_1 a0.come.length]⟩) (Zaw:O j0_0=some (oR 25 3 Za a0.gone)) (Zks:O j0_1=some (oR 25 3 Za a0.come)) (Zmz:O j0_2=some (oR 53 14 Zf a0.out)) (h:K9 a0 a2=some r):GTo Try.prog 86 [.ref i0 0,.ref i0 2,(sL Za a2)] O n (.tup []) (Zv ((((O.upd j0_0 none).upd j0_1 none).upd j0_2 none).upd i0 (some ⟨false,98,4,1,[.row (n+2) r.out.length,(vI r.kept),.row n r.gone.length,.row (n+1) r.come.length]⟩)) n [some (oR 25 3 Za r.gone),some (oR 25 3 Za r.come),some (oR 53 14 Zf r.out)]) (n+3):=by
 unfold K9 at h
 refine Znp Z5 Try.call86 Try.func86 rfl (Nat.le_of_ble_eq_true rfl) (by omega) fun hU => ?_
 have e0:=Vu (ba:=n) (E:=⟨32,[],Zhx 0 [.ref i0 0,.ref i0 2,.sl a2.length (fl Za a2)]⟩) (O:=(Zv O n [])) (n:=n) (i:=i0) (j:=j0_0) (k:=2) (len:=a0.gone.length) (q:=⟨false,98,4,1,[.row j0_2 a0.out.length,.val (.int .i64 a0.kept),.row j0_0 a0.gone.length,.row j0_1 a0.come.length]⟩) (qj:=⟨true,25,3,a0.gone.length,fl Za a0.gone⟩) (by rw [Y6 _ hi0];first | exact ho0 | exact Yk _ _ _) rfl (by rw [Y6 _ Zae];exact Zaw) K8 (by omega)
 simp only [Xh _ _ Zae,Xh _ _ hi0,Xp,Yz,Ju,Zcj K8,List.set_cons_zero,List.set_cons_succ,List.cons_append,List.nil_append,List.length_cons,List.length_nil,Nat.zero_add,Nat.reduceAdd,Nat.add_assoc] at e0
 refine J9 e0 ?_
 have e1:=Vu (ba:=n) (E:=⟨32,[],Zhx 0 [.ref i0 0,.ref i0 2,.sl a2.length (fl Za a2)]⟩) (O:=(Zv ((O.upd j0_0 none).upd i0 (some ⟨false,98,4,1,[.row j0_2 a0.out.length,.val (.int .i64 a0.kept),.row n a0.gone.length,.row j0_1 a0.come.length]⟩)) n [some ⟨true,25,3,a0.gone.length,fl Za a0.gone⟩])) (n:=(n+1)) (i:=i0) (j:=j0_1) (k:=3) (len:=a0.come.length) (q:=⟨false,98,4,1,[.row j0_2 a0.out.length,.val (.int .i64 a0.kept),.row n a0.gone.length,.row j0_1 a0.come.length]⟩) (qj:=⟨true,25,3,a0.come.length,fl Za a0.come⟩) (by rw [Y6 _ hi0];first | exact ho0 | exact Yk _ _ _) rfl (by rw [Y6 _ Zjl,Xw _ _ (Ne.symm Zav),Xw _ _ (Ne.symm Zau)];exact Zks) Zav (by omega)
 simp only [Xh _ _ Zjl,Xh _ _ hi0,Xp,Yz,Ju,Zcj Zav,List.set_cons_zero,List.set_cons_succ,List.cons_append,List.nil_append,List.length_cons,List.length_nil,Nat.zero_add,Nat.reduceAdd,Nat.add_assoc] at e1
 refine J9 e1 ?_
 have e2:=Vu (ba:=n) (E:=⟨32,[],Zhx 0 [.ref i0 0,.ref i0 2,.sl a2.length (fl Za a2)]⟩) (O:=(Zv (((O.upd j0_0 none).upd j0_1 none).upd i0 (some ⟨false,98,4,1,[.row j0_2 a0.out.length,.val (.int .i64 a0.kept),.row n a0.gone.length,.row (n+1) a0.come.length]⟩)) n [some ⟨true,25,3,a0.gone.length,fl Za a0.gone⟩,some ⟨true,25,3,a0.come.length,fl Za a0.come⟩])) (n:=(n+2)) (i:=i0) (j:=j0_2) (k:=0) (len:=a0.out.length) (q:=⟨false,98,4,1,[.row j0_2 a0.out.length,.val (.int .i64 a0.kept),.row n a0.gone.length,.row (n+1) a0.come.length]⟩) (qj:=⟨true,53,14,a0.out.length,fl Zf a0.out⟩) (by rw [Y6 _ hi0];first | exact ho0 | exact Yk _ _ _) rfl (by rw [Y6 _ Zls,Xw _ _ (Ne.symm Zcv),Xw _ _ (Ne.symm Zcu),Xw _ _ (Ne.symm Zct)];exact Zmz) Zcv (by omega)
 simp only [Xh _ _ Zls,Xh _ _ hi0,Xp,Yz,Ju,Zcj Zcv,List.set_cons_zero,List.set_cons_succ,List.cons_append,List.nil_append,List.length_cons,List.length_nil,Nat.zero_add,Nat.reduceAdd,Nat.add_assoc] at e2
 refine J9 e2 ?_
 have hU:=(Und.drop (Und.drop (Und.drop hU j0_0) j0_1) j0_2)
 have hk0:∀ k,i0 < n+k:=fun k=>by omega
 have hN0:∀ o,Objs.upd (((O.upd j0_0 none).upd j0_1 none).upd j0_2 none) i0 o n=none:=fun o=>Jp hU hi0 _ (Nat.le_refl _)
 have hN:∀ o k,Objs.upd (((O.upd j0_0 none).upd j0_1 none).upd j0_2 none) i0 o (n+k)=none:=fun o k=>Jp hU hi0 _ (Nat.le_add_right _ _)
 show W _ _ _ _ ⟨32,[],[(0,.ref i0 0),(1,.ref i0 2),(2,(sL Za a2))]⟩ (Zv ((((O.upd j0_0 none).upd j0_1 none).upd j0_2 none).upd i0 (some ⟨false,98,4,1,[.row (n+2) a0.out.length,(vI a0.kept),.row n a0.gone.length,.row (n+1) a0.come.length]⟩)) n [some (oR 25 3 Za a0.gone),some (oR 25 3 Za a0.come),some (oR 53 14 Zf a0.out)]) _
 obtain ⟨z1,hz1,h⟩:=bC h
 refine Xl (E':=⟨32,[],[(1,.ref i0 2),(2,(sL Za a2))]⟩) (O':=(Zv ((((O.upd j0_0 none).upd j0_1 none).upd j0_2 none).upd i0 (some ⟨false,98,4,1,[.row (n+6) z1.1.length,(vI z1.2.2.2),.row (n+7) z1.2.1.length,.row (n+8) z1.2.2.1.length]⟩)) n [none,none,none,none,none,none,some (oR 53 14 Zf z1.1),some (oR 25 3 Za z1.2.1),some (oR 25 3 Za z1.2.2.1)])) (n0:=(n+9)) ?_ ?_
 ·refine Zc5 [0,1,2,12] hi0 hk0 ?_
  refine Zt (t:=(decide (0 < a0.kept))) rfl (fun c3 => ?_) (fun c3 => ?_)
  ·replace hz1:=Zs c3 hz1
   obtain ⟨y2,hy2,hz1⟩:=bC hz1
   refine K1 [] hi0 hk0 ?_
   refine (Gi (i0:=i0) (j0_0:=n) (j0_1:=(n+1)) (j0_2:=(n+2)) (by omega) (by omega) (by omega) (by omega) (by omega) (by omega) (by omega) (by omega) (by omega) (by omega) (by simp only [push_cast,seval,↓reduceIte,Zo,Xz,hi0,hk0,hN0,hN] <;> rfl) (by simp only [push_cast,seval,↓reduceIte,Zo,Xz,hi0,hk0,hN0,hN] <;> rfl) (by simp only [push_cast,seval,↓reduceIte,Zo,Xz,hi0,hk0,hN0,hN] <;> rfl) (by simp only [push_cast,seval,↓reduceIte,Zo,Xz,hi0,hk0,hN0,hN] <;> rfl) hy2).then ?_
   refine zX2 hi0 hk0 ?_
   have hz1:=Option.some.inj hz1;subst hz1
   refine And.intro rfl ?_
   refine Fit2.trans (E':=(⟨32,[],[(1,.ref i0 2),(2,(sL Za a2))]⟩:Env)) (O':=(Zv ((((O.upd j0_0 none).upd j0_1 none).upd j0_2 none).upd i0 (some ⟨false,98,4,1,[.row (n+5) y2.out.length,(vI y2.kept),.row (n+3) y2.gone.length,.row (n+4) y2.come.length]⟩)) n [none,none,none,some (oR 25 3 Za y2.gone),some (oR 25 3 Za y2.come),some (oR 53 14 Zf y2.out)])) (n':=(n+6)) (Fit2.of (Yh hU rfl rfl ?_) (by omega)) ?_
   ·exact Jn hi0 hk0
   refine Q4 (k:=6) (k':=9) hU [5,5,5,7,8,6] [0,0,0,0,0,0,5,3,4] rfl rfl rfl rfl ⟨rfl,rfl⟩ ?_
   exact Jn hi0 hk0
  replace hz1:=Zr c3 hz1
  refine zK ?_
  have hz1:=Option.some.inj hz1;subst hz1
  refine And.intro rfl ?_
  refine Fit2.trans (E':=(⟨32,[],[(1,.ref i0 2),(2,(sL Za a2))]⟩:Env)) (O':=(Zv ((((O.upd j0_0 none).upd j0_1 none).upd j0_2 none).upd i0 (some ⟨false,98,4,1,[.row (n+2) a0.out.length,(vI a0.kept),.row n a0.gone.length,.row (n+1) a0.come.length]⟩)) n [some (oR 25 3 Za a0.gone),some (oR 25 3 Za a0.come),some (oR 53 14 Zf a0.out)])) (n':=(n+3)) (Fit2.of (Yh hU rfl rfl ?_) (by omega)) ?_
  ·exact Jn hi0 hk0
  refine Q4 (k:=3) (k':=9) hU [7,8,6] [0,0,0,0,0,0,2,0,1] rfl rfl rfl rfl ⟨rfl,rfl⟩ ?_
  exact Jn hi0 hk0
 refine Zc5 [1,15,16,17] hi0 hk0 ?_
 refine zD [1,15,16,17] [false,false,false,false,false,false,true,true,true] ?_
 obtain ⟨z11,hz11,h⟩:=bC h
 refine Yy (E':=⟨32,[],[]⟩) (O':=(Zv ((((O.upd j0_0 none).upd j0_1 none).upd j0_2 none).upd i0 (some ⟨false,98,4,1,[.row (n+6) z1.1.length,(vI z1.2.2.2),.row (n+7) z11.length,.row (n+8) z1.2.2.1.length]⟩)) n [none,none,none,none,none,none,some (oR 53 14 Zf z1.1),some (oR 25 3 Za z11),some (oR 25 3 Za z1.2.2.1)])) (n0:=(n+9)) ?_ ?_
 ·refine Xj hz11 (fun s0_=>⟨32,[],[(1,.ref i0 2),(15,(sL Za a2)),(16,(vI (a2.length:Int))),(17,(vI s0_.1))]⟩) (fun s0_=>(Zv ((((O.upd j0_0 none).upd j0_1 none).upd j0_2 none).upd i0 (some ⟨false,98,4,1,[.row (n+6) z1.1.length,(vI z1.2.2.2),.row (n+7) s0_.2.length,.row (n+8) z1.2.2.1.length]⟩)) n [none,none,none,none,none,none,some (oR 53 14 Zf z1.1),some (oR 25 3 Za s0_.2),some (oR 25 3 Za z1.2.2.1)])) (fun z11=>JX 0 n (⟨32,[],[]⟩:Env) (Zv ((((O.upd j0_0 none).upd j0_1 none).upd j0_2 none).upd i0 (some ⟨false,98,4,1,[.row (n+6) z1.1.length,(vI z1.2.2.2),.row (n+7) z11.length,.row (n+8) z1.2.2.1.length]⟩)) n [none,none,none,none,none,none,some (oR 53 14 Zf z1.1),some (oR 25 3 Za z11),some (oR 25 3 Za z1.2.2.1)]) (n+9)) ?_
  intro s0_ x0_ hs0_
  unfold J6 at hs0_
  try dsimp only
  refine Zc5 [1,15,16,17,18] hi0 hk0 ?_
  refine Zk ?_
  refine Zt (t:=(decide (s0_.1 < (a2.length:Int)))) rfl (fun c10 => ?_) (fun c10 => ?_)
  ·replace hs0_:=Zs c10 hs0_
   refine Kq [1,15,16,17] [false,false,false,false,false,false,true,true,true] ?_
   refine Zk ?_
   refine Ya ?_
   refine Zk ?_
   obtain ⟨x5,hx5,ax5,bx5,cx5,hs0_⟩:=bE (f:=Za) Zac (fun _=>rfl) (by decide) hs0_
   refine Z61 [] ax5 bx5 cx5 hi0 hk0 ?_
   refine zD [1,7,15,16,17] [false,false,false,false,false,false,true,true,true,true] ?_
   obtain ⟨y6,hy6,hs0_⟩:=bC hs0_
   obtain ⟨l7,pl7,ql7,el7,hs0_⟩:=bA (k:=1) rfl hs0_
   obtain ⟨x8,hx8,ax8,bx8,cx8,hs0_⟩:=bE (f:=Za) Zac (fun _=>rfl) (by decide) hs0_
   have gu9:V5 (fl Za s0_.2++[.val (.int .i64 0),.val (.slice none 0 0),.val (.slice none 0 0)]) [.val (.int .i64 y6.Kind),.sl y6.Words.length (fl (eI .u64) y6.Words),.sl y6.Kids.length (fl Za y6.Kids)] (List.length s0_.2 * 3)=some (fl Za s0_.2++[.val (.int .i64 y6.Kind),.sl y6.Words.length (fl (eI .u64) y6.Words),.sl y6.Kids.length (fl Za y6.Kids)]):=Zcm (f:=Za) (sz:=3) (fun _=>rfl) rfl rfl
   refine Jv Z5 (by kernel_rfl) [.plain,.low,.low,.low,.low,.low,.pass,.bar,.shp,.fill true,.shp,.fill false] (fun i=>i < (n+10)) [0,1,2,3,4,5,6,7,8,9,10,11] [.plain,.low,.low,.low,.low,.low,.pass,.bar,.shp,.fill true,.shp,.fill false] [] (by kernel_rfl) rfl ?_
   refine zF9 pl7 ql7 el7 ax8 bx8 cx8 gu9 hi0 hk0 ?_
   refine zO ?_
   first | refine PCallA.of (fun _ _=>Zc0 hy6) ?_ | refine PCall.of (Zc0 hy6) ?_
   refine zF9 pl7 ql7 el7 ax8 bx8 cx8 gu9 hi0 hk0 ?_
   refine zO ?_
   refine Zbc ⟨32,[],[(1,.ref i0 2),(15,(sL Za a2)),(16,(vI (a2.length:Int))),(17,(vI s0_.1))]⟩ (Zv ((((O.upd j0_0 none).upd j0_1 none).upd j0_2 none).upd i0 (some ⟨false,98,4,1,[.row (n+6) z1.1.length,(vI z1.2.2.2),.row (n+7) (s0_.2++[y6]).length,.row (n+8) z1.2.2.1.length]⟩)) n [none,none,none,none,none,none,some (oR 53 14 Zf z1.1),some (oR 25 3 Za (s0_.2++[y6])),some (oR 25 3 Za z1.2.2.1),none,none]) (Yh hU rfl rfl ?_) ?_
   ·exact Z42 pl7 ql7 el7 ax8 bx8 cx8 gu9 hi0 hk0
   refine K1 [] hi0 hk0 ?_
   have hs0_:=Option.some.inj hs0_;subst hs0_
   refine And.intro rfl (Fit2.of (Yh hU rfl rfl ?_) (by omega))
   exact Jn hi0 hk0
  replace hs0_:=Zr c10 hs0_
  refine zXt ?_
  have hs0_:=Option.some.inj hs0_;subst hs0_
  refine And.intro (fun h=>by cases h) (And.intro rfl (Fit2.of (Yh hU rfl rfl ?_) (by omega)))
  exact Jn hi0 hk0
 try simp only [Xe,Yi,↓reduceIte,Nat.reduceEqDiff]
 have h:=Option.some.inj h;subst h
 refine Ko (k:=3) (i:=i0) (q1:=⟨false,98,4,1,[.row (n+2) z1.1.length,(vI z1.2.2.2),.row n z11.length,.row (n+1) z1.2.2.1.length]⟩) (L3:=[some (oR 25 3 Za z11),some (oR 25 3 Za z1.2.2.1),some (oR 53 14 Zf z1.1),none]) (E2:=(⟨32,[],[]⟩:Env)) (n3:=(n+4)) (.inl rfl) hU rfl [] ?_ ?_
 ·refine Fit2.trans (E':=(⟨32,[],[]⟩:Env)) (O':=(Zv ((((O.upd j0_0 none).upd j0_1 none).upd j0_2 none).upd i0 (some ⟨false,98,4,1,[.row (n+6) z1.1.length,(vI z1.2.2.2),.row (n+7) z11.length,.row (n+8) z1.2.2.1.length]⟩)) n [none,none,none,none,none,none,some (oR 53 14 Zf z1.1),some (oR 25 3 Za z11),some (oR 25 3 Za z1.2.2.1)])) (n':=(n+9)) (Fit2.of (Yh hU rfl rfl ?_) (by omega)) ?_
  ·exact Jn hi0 hk0
  refine Q4 (k:=9) (k':=4) hU [3,3,3,3,3,3,2,0,1] [7,8,6,0] rfl rfl rfl rfl ⟨rfl,rfl⟩ ?_
  exact Jn hi0 hk0
 simp only [push_cast,seval,↓reduceIte,Zo,Try.results86,hi0,hk0,hN0,hN]
theorem Zlp {a0:Zz} {a2:(List Zb)} {r:Zz} {O:Objs} {n:Nat} {i0 j0_0 j0_1 j0_2:Nat} (hi0:i0 < n) (Zae:j0_0 < n) (Zjl:j0_1 < n) (Zls:j0_2 < n) (K8:i0≠j0_0) (Zav:i0≠j0_1) (Zcv:i0≠j0_2) (Zau:j0_0≠j0_1) (Zct:j0_0≠j0_2) (Zcu:j0_1≠j0_2) (ho0:O i0=some ⟨false,98,4,1,[.row j0_2 a0.out.length,(vI a0.kept),.row j0_0 a0.gone.length,.row j0_1 a0.come.length]⟩) (Zaw:O j0_0=some (oR 25 3 Za a0.gone)) (Zks:O j0_1=some (oR 25 3 Za a0.come)) (Zmz:O j0_2=some (oR 53 14 Zf a0.out)) (h:Va a0 a2=some r):GTo Try.prog 86 [.ref i0 0,.ref i0 3,(sL Za a2)] O n (.tup []) (Zv ((((O.upd j0_0 none).upd j0_1 none).upd j0_2 none).upd i0 (some ⟨false,98,4,1,[.row (n+2) r.out.length,(vI r.kept),.row n r.gone.length,.row (n+1) r.come.length]⟩)) n [some (oR 25 3 Za r.gone),some (oR 25 3 Za r.come),some (oR 53 14 Zf r.out)]) (n+3):=by
 unfold Va at h
 refine Znp Z5 Try.call86 Try.func86 rfl (Nat.le_of_ble_eq_true rfl) (by omega) fun hU => ?_
 have e0:=Vu (ba:=n) (E:=⟨32,[],Zhx 0 [.ref i0 0,.ref i0 3,.sl a2.length (fl Za a2)]⟩) (O:=(Zv O n [])) (n:=n) (i:=i0) (j:=j0_0) (k:=2) (len:=a0.gone.length) (q:=⟨false,98,4,1,[.row j0_2 a0.out.length,.val (.int .i64 a0.kept),.row j0_0 a0.gone.length,.row j0_1 a0.come.length]⟩) (qj:=⟨true,25,3,a0.gone.length,fl Za a0.gone⟩) (by rw [Y6 _ hi0];first | exact ho0 | exact Yk _ _ _) rfl (by rw [Y6 _ Zae];exact Zaw) K8 (by omega)
 simp only [Xh _ _ Zae,Xh _ _ hi0,Xp,Yz,Ju,Zcj K8,List.set_cons_zero,List.set_cons_succ,List.cons_append,List.nil_append,List.length_cons,List.length_nil,Nat.zero_add,Nat.reduceAdd,Nat.add_assoc] at e0
 refine J9 e0 ?_
 have e1:=Vu (ba:=n) (E:=⟨32,[],Zhx 0 [.ref i0 0,.ref i0 3,.sl a2.length (fl Za a2)]⟩) (O:=(Zv ((O.upd j0_0 none).upd i0 (some ⟨false,98,4,1,[.row j0_2 a0.out.length,.val (.int .i64 a0.kept),.row n a0.gone.length,.row j0_1 a0.come.length]⟩)) n [some ⟨true,25,3,a0.gone.length,fl Za a0.gone⟩])) (n:=(n+1)) (i:=i0) (j:=j0_1) (k:=3) (len:=a0.come.length) (q:=⟨false,98,4,1,[.row j0_2 a0.out.length,.val (.int .i64 a0.kept),.row n a0.gone.length,.row j0_1 a0.come.length]⟩) (qj:=⟨true,25,3,a0.come.length,fl Za a0.come⟩) (by rw [Y6 _ hi0];first | exact ho0 | exact Yk _ _ _) rfl (by rw [Y6 _ Zjl,Xw _ _ (Ne.symm Zav),Xw _ _ (Ne.symm Zau)];exact Zks) Zav (by omega)
 simp only [Xh _ _ Zjl,Xh _ _ hi0,Xp,Yz,Ju,Zcj Zav,List.set_cons_zero,List.set_cons_succ,List.cons_append,List.nil_append,List.length_cons,List.length_nil,Nat.zero_add,Nat.reduceAdd,Nat.add_assoc] at e1
 refine J9 e1 ?_
 have e2:=Vu (ba:=n) (E:=⟨32,[],Zhx 0 [.ref i0 0,.ref i0 3,.sl a2.length (fl Za a2)]⟩) (O:=(Zv (((O.upd j0_0 none).upd j0_1 none).upd i0 (some ⟨false,98,4,1,[.row j0_2 a0.out.length,.val (.int .i64 a0.kept),.row n a0.gone.length,.row (n+1) a0.come.length]⟩)) n [some ⟨true,25,3,a0.gone.length,fl Za a0.gone⟩,some ⟨true,25,3,a0.come.length,fl Za a0.come⟩])) (n:=(n+2)) (i:=i0) (j:=j0_2) (k:=0) (len:=a0.out.length) (q:=⟨false,98,4,1,[.row j0_2 a0.out.length,.val (.int .i64 a0.kept),.row n a0.gone.length,.row (n+1) a0.come.length]⟩) (qj:=⟨true,53,14,a0.out.length,fl Zf a0.out⟩) (by rw [Y6 _ hi0];first | exact ho0 | exact Yk _ _ _) rfl (by rw [Y6 _ Zls,Xw _ _ (Ne.symm Zcv),Xw _ _ (Ne.symm Zcu),Xw _ _ (Ne.symm Zct)];exact Zmz) Zcv (by omega)
 simp only [Xh _ _ Zls,Xh _ _ hi0,Xp,Yz,Ju,Zcj Zcv,List.set_cons_zero,List.set_cons_succ,List.cons_append,List.nil_append,List.length_cons,List.length_nil,Nat.zero_add,Nat.reduceAdd,Nat.add_assoc] at e2
 refine J9 e2 ?_
 have hU:=(Und.drop (Und.drop (Und.drop hU j0_0) j0_1) j0_2)
 have hk0:∀ k,i0 < n+k:=fun k=>by omega
 have hN0:∀ o,Objs.upd (((O.upd j0_0 none).upd j0_1 none).upd j0_2 none) i0 o n=none:=fun o=>Jp hU hi0 _ (Nat.le_refl _)
 have hN:∀ o k,Objs.upd (((O.upd j0_0 none).upd j0_1 none).upd j0_2 none) i0 o (n+k)=none:=fun o k=>Jp hU hi0 _ (Nat.le_add_right _ _)
 show W _ _ _ _ ⟨32,[],[(0,.ref i0 0),(1,.ref i0 3),(2,(sL Za a2))]⟩ (Zv ((((O.upd j0_0 none).upd j0_1 none).upd j0_2 none).upd i0 (some ⟨false,98,4,1,[.row (n+2) a0.out.length,(vI a0.kept),.row n a0.gone.length,.row (n+1) a0.come.length]⟩)) n [some (oR 25 3 Za a0.gone),some (oR 25 3 Za a0.come),some (oR 53 14 Zf a0.out)]) _
 obtain ⟨z1,hz1,h⟩:=bC h
 refine Xl (E':=⟨32,[],[(1,.ref i0 3),(2,(sL Za a2))]⟩) (O':=(Zv ((((O.upd j0_0 none).upd j0_1 none).upd j0_2 none).upd i0 (some ⟨false,98,4,1,[.row (n+6) z1.1.length,(vI z1.2.2.2),.row (n+7) z1.2.1.length,.row (n+8) z1.2.2.1.length]⟩)) n [none,none,none,none,none,none,some (oR 53 14 Zf z1.1),some (oR 25 3 Za z1.2.1),some (oR 25 3 Za z1.2.2.1)])) (n0:=(n+9)) ?_ ?_
 ·refine Zc5 [0,1,2,12] hi0 hk0 ?_
  refine Zt (t:=(decide (0 < a0.kept))) rfl (fun c3 => ?_) (fun c3 => ?_)
  ·replace hz1:=Zs c3 hz1
   obtain ⟨y2,hy2,hz1⟩:=bC hz1
   refine K1 [] hi0 hk0 ?_
   refine (Gi (i0:=i0) (j0_0:=n) (j0_1:=(n+1)) (j0_2:=(n+2)) (by omega) (by omega) (by omega) (by omega) (by omega) (by omega) (by omega) (by omega) (by omega) (by omega) (by simp only [push_cast,seval,↓reduceIte,Zo,Xz,hi0,hk0,hN0,hN] <;> rfl) (by simp only [push_cast,seval,↓reduceIte,Zo,Xz,hi0,hk0,hN0,hN] <;> rfl) (by simp only [push_cast,seval,↓reduceIte,Zo,Xz,hi0,hk0,hN0,hN] <;> rfl) (by simp only [push_cast,seval,↓reduceIte,Zo,Xz,hi0,hk0,hN0,hN] <;> rfl) hy2).then ?_
   refine zX2 hi0 hk0 ?_
   have hz1:=Option.some.inj hz1;subst hz1
   refine And.intro rfl ?_
   refine Fit2.trans (E':=(⟨32,[],[(1,.ref i0 3),(2,(sL Za a2))]⟩:Env)) (O':=(Zv ((((O.upd j0_0 none).upd j0_1 none).upd j0_2 none).upd i0 (some ⟨false,98,4,1,[.row (n+5) y2.out.length,(vI y2.kept),.row (n+3) y2.gone.length,.row (n+4) y2.come.length]⟩)) n [none,none,none,some (oR 25 3 Za y2.gone),some (oR 25 3 Za y2.come),some (oR 53 14 Zf y2.out)])) (n':=(n+6)) (Fit2.of (Yh hU rfl rfl ?_) (by omega)) ?_
   ·exact Jn hi0 hk0
   refine Q4 (k:=6) (k':=9) hU [5,5,5,7,8,6] [0,0,0,0,0,0,5,3,4] rfl rfl rfl rfl ⟨rfl,rfl⟩ ?_
   exact Jn hi0 hk0
  replace hz1:=Zr c3 hz1
  refine zK ?_
  have hz1:=Option.some.inj hz1;subst hz1
  refine And.intro rfl ?_
  refine Fit2.trans (E':=(⟨32,[],[(1,.ref i0 3),(2,(sL Za a2))]⟩:Env)) (O':=(Zv ((((O.upd j0_0 none).upd j0_1 none).upd j0_2 none).upd i0 (some ⟨false,98,4,1,[.row (n+2) a0.out.length,(vI a0.kept),.row n a0.gone.length,.row (n+1) a0.come.length]⟩)) n [some (oR 25 3 Za a0.gone),some (oR 25 3 Za a0.come),some (oR 53 14 Zf a0.out)])) (n':=(n+3)) (Fit2.of (Yh hU rfl rfl ?_) (by omega)) ?_
  ·exact Jn hi0 hk0
  refine Q4 (k:=3) (k':=9) hU [7,8,6] [0,0,0,0,0,0,2,0,1] rfl rfl rfl rfl ⟨rfl,rfl⟩ ?_
  exact Jn hi0 hk0
 refine Zc5 [1,15,16,17] hi0 hk0 ?_
 refine zD [1,15,16,17] [false,false,false,false,false,false,true,true,true] ?_
 obtain ⟨z11,hz11,h⟩:=bC h
 refine Yy (E':=⟨32,[],[]⟩) (O':=(Zv ((((O.upd j0_0 none).upd j0_1 none).upd j0_2 none).upd i0 (some ⟨false,98,4,1,[.row (n+6) z1.1.length,(vI z1.2.2.2),.row (n+7) z1.2.1.length,.row (n+8) z11.length]⟩)) n [none,none,none,none,none,none,some (oR 53 14 Zf z1.1),some (oR 25 3 Za z1.2.1),some (oR 25 3 Za z11)])) (n0:=(n+9)) ?_ ?_
 ·refine Xj hz11 (fun s0_=>⟨32,[],[(1,.ref i0 3),(15,(sL Za a2)),(16,(vI (a2.length:Int))),(17,(vI s0_.1))]⟩) (fun s0_=>(Zv ((((O.upd j0_0 none).upd j0_1 none).upd j0_2 none).upd i0 (some ⟨false,98,4,1,[.row (n+6) z1.1.length,(vI z1.2.2.2),.row (n+7) z1.2.1.length,.row (n+8) s0_.2.length]⟩)) n [none,none,none,none,none,none,some (oR 53 14 Zf z1.1),some (oR 25 3 Za z1.2.1),some (oR 25 3 Za s0_.2)])) (fun z11=>JX 0 n (⟨32,[],[]⟩:Env) (Zv ((((O.upd j0_0 none).upd j0_1 none).upd j0_2 none).upd i0 (some ⟨false,98,4,1,[.row (n+6) z1.1.length,(vI z1.2.2.2),.row (n+7) z1.2.1.length,.row (n+8) z11.length]⟩)) n [none,none,none,none,none,none,some (oR 53 14 Zf z1.1),some (oR 25 3 Za z1.2.1),some (oR 25 3 Za z11)]) (n+9)) ?_
  intro s0_ x0_ hs0_
  unfold J7 at hs0_
  try dsimp only
  refine Zc5 [1,15,16,17,18] hi0 hk0 ?_
  refine Zk ?_
  refine Zt (t:=(decide (s0_.1 < (a2.length:Int)))) rfl (fun c10 => ?_) (fun c10 => ?_)
  ·replace hs0_:=Zs c10 hs0_
   refine Kq [1,15,16,17] [false,false,false,false,false,false,true,true,true] ?_
   refine Zk ?_
   refine Ya ?_
   refine Zk ?_
   obtain ⟨x5,hx5,ax5,bx5,cx5,hs0_⟩:=bE (f:=Za) Zac (fun _=>rfl) (by decide) hs0_
   refine Z61 [] ax5 bx5 cx5 hi0 hk0 ?_
   refine zD [1,7,15,16,17] [false,false,false,false,false,false,true,true,true,true] ?_
   obtain ⟨y6,hy6,hs0_⟩:=bC hs0_
   obtain ⟨l7,pl7,ql7,el7,hs0_⟩:=bA (k:=1) rfl hs0_
   obtain ⟨x8,hx8,ax8,bx8,cx8,hs0_⟩:=bE (f:=Za) Zac (fun _=>rfl) (by decide) hs0_
   have gu9:V5 (fl Za s0_.2++[.val (.int .i64 0),.val (.slice none 0 0),.val (.slice none 0 0)]) [.val (.int .i64 y6.Kind),.sl y6.Words.length (fl (eI .u64) y6.Words),.sl y6.Kids.length (fl Za y6.Kids)] (List.length s0_.2 * 3)=some (fl Za s0_.2++[.val (.int .i64 y6.Kind),.sl y6.Words.length (fl (eI .u64) y6.Words),.sl y6.Kids.length (fl Za y6.Kids)]):=Zcm (f:=Za) (sz:=3) (fun _=>rfl) rfl rfl
   refine Jv Z5 (by kernel_rfl) [.plain,.low,.low,.low,.low,.low,.pass,.bar,.shp,.fill true,.shp,.fill false] (fun i=>i < (n+10)) [0,1,2,3,4,5,6,7,8,9,10,11] [.plain,.low,.low,.low,.low,.low,.pass,.bar,.shp,.fill true,.shp,.fill false] [] (by kernel_rfl) rfl ?_
   refine zF9 pl7 ql7 el7 ax8 bx8 cx8 gu9 hi0 hk0 ?_
   refine zO ?_
   first | refine PCallA.of (fun _ _=>Zc0 hy6) ?_ | refine PCall.of (Zc0 hy6) ?_
   refine zF9 pl7 ql7 el7 ax8 bx8 cx8 gu9 hi0 hk0 ?_
   refine zO ?_
   refine Zbc ⟨32,[],[(1,.ref i0 3),(15,(sL Za a2)),(16,(vI (a2.length:Int))),(17,(vI s0_.1))]⟩ (Zv ((((O.upd j0_0 none).upd j0_1 none).upd j0_2 none).upd i0 (some ⟨false,98,4,1,[.row (n+6) z1.1.length,(vI z1.2.2.2),.row (n+7) z1.2.1.length,.row (n+8) (s0_.2++[y6]).length]⟩)) n [none,none,none,none,none,none,some (oR 53 14 Zf z1.1),some (oR 25 3 Za z1.2.1),some (oR 25 3 Za (s0_.2++[y6])),none,none]) (Yh hU rfl rfl ?_) ?_
   ·exact Z42 pl7 ql7 el7 ax8 bx8 cx8 gu9 hi0 hk0
   refine K1 [] hi0 hk0 ?_
   have hs0_:=Option.some.inj hs0_;subst hs0_
   refine And.intro rfl (Fit2.of (Yh hU rfl rfl ?_) (by omega))
   exact Jn hi0 hk0
  replace hs0_:=Zr c10 hs0_
  refine zXt ?_
  have hs0_:=Option.some.inj hs0_;subst hs0_
  refine And.intro (fun h=>by cases h) (And.intro rfl (Fit2.of (Yh hU rfl rfl ?_) (by omega)))
  exact Jn hi0 hk0
 try simp only [Xe,Yi,↓reduceIte,Nat.reduceEqDiff]
 have h:=Option.some.inj h;subst h
 refine Ko (k:=3) (i:=i0) (q1:=⟨false,98,4,1,[.row (n+2) z1.1.length,(vI z1.2.2.2),.row n z1.2.1.length,.row (n+1) z11.length]⟩) (L3:=[some (oR 25 3 Za z1.2.1),some (oR 25 3 Za z11),some (oR 53 14 Zf z1.1),none]) (E2:=(⟨32,[],[]⟩:Env)) (n3:=(n+4)) (.inl rfl) hU rfl [] ?_ ?_
 ·refine Fit2.trans (E':=(⟨32,[],[]⟩:Env)) (O':=(Zv ((((O.upd j0_0 none).upd j0_1 none).upd j0_2 none).upd i0 (some ⟨false,98,4,1,[.row (n+6) z1.1.length,(vI z1.2.2.2),.row (n+7) z1.2.1.length,.row (n+8) z11.length]⟩)) n [none,none,none,none,none,none,some (oR 53 14 Zf z1.1),some (oR 25 3 Za z1.2.1),some (oR 25 3 Za z11)])) (n':=(n+9)) (Fit2.of (Yh hU rfl rfl ?_) (by omega)) ?_
  ·exact Jn hi0 hk0
  refine Q4 (k:=9) (k':=4) hU [3,3,3,3,3,3,2,0,1] [7,8,6,0] rfl rfl rfl rfl ⟨rfl,rfl⟩ ?_
  exact Jn hi0 hk0
 simp only [push_cast,seval,↓reduceIte,Zo,Try.results86,hi0,hk0,hN0,hN]
theorem Zx3 {a0:Int} {a1:Zc} {r:Bool} {O:Objs} {n:Nat} (h:Zgr a0 a1=some r):GTo Try.prog 119 [(vI a0),.agg (Ze a1)] O n ((vB r)) O n:=by
 unfold Zgr at h
 refine zFn Try.call119 Try.func119 fun hU hN0 hN => ?_
 show W _ _ _ _ ⟨27,[],[(0,(vI a0)),(1,.agg (Ze a1))]⟩ (Zv O n []) _
 refine zQ [0,3] ?_
 refine zQD [4] [none,none,none,none,none,none,none,none,none,none,none,none,none,none,none,none,none] ?_
 exact Yu [(vB (cond (a1.Kind == 0) true (cond (cond (a0 == 9) (a1.Kind == 2) false) ((IntKind.i64.wrap ((a1.Words.length:Int)+(a1.Kids.length:Int))) == 0) false)))]
theorem Zl3 {a0:Zz} {a1:Int} {a2:Zc} {r:Zz} {O:Objs} {n:Nat} {i0 j0_0 j0_1 j0_2:Nat} (hi0:i0 < n) (Zae:j0_0 < n) (Zjl:j0_1 < n) (Zls:j0_2 < n) (K8:i0≠j0_0) (Zav:i0≠j0_1) (Zcv:i0≠j0_2) (Zau:j0_0≠j0_1) (Zct:j0_0≠j0_2) (Zcu:j0_1≠j0_2) (ho0:O i0=some ⟨false,98,4,1,[.row j0_2 a0.out.length,(vI a0.kept),.row j0_0 a0.gone.length,.row j0_1 a0.come.length]⟩) (Zaw:O j0_0=some (oR 25 3 Za a0.gone)) (Zks:O j0_1=some (oR 25 3 Za a0.come)) (Zmz:O j0_2=some (oR 53 14 Zf a0.out)) (h:Vq a0 a1 a2=some r):GTo Try.prog 87 [.ref i0 0,(vI a1),.agg (Ze a2)] O n (.tup []) (Zv ((((O.upd j0_0 none).upd j0_1 none).upd j0_2 none).upd i0 (some ⟨false,98,4,1,[.row (n+2) r.out.length,(vI r.kept),.row n r.gone.length,.row (n+1) r.come.length]⟩)) n [some (oR 25 3 Za r.gone),some (oR 25 3 Za r.come),some (oR 53 14 Zf r.out)]) (n+3):=by
 unfold Vq at h
 refine Znp Z5 Try.call87 Try.func87 rfl (Nat.le_of_ble_eq_true rfl) (by omega) fun hU => ?_
 have e0:=Vu (ba:=n) (E:=⟨25,[],Zhx 0 [.ref i0 0,.val (.int .i64 a1),.agg [.val (.int .i64 a2.Kind),.val (.int .i64 a2.Old.Kind),.sl a2.Old.Words.length (fl (eI .u64) a2.Old.Words),.sl a2.Old.Kids.length (fl Za a2.Old.Kids),.val (.int .i64 a2.New.Kind),.sl a2.New.Words.length (fl (eI .u64) a2.New.Words),.sl a2.New.Kids.length (fl Za a2.New.Kids),.sl a2.Words.length (fl Zg a2.Words),.sl a2.Kids.length (fl Zi a2.Kids),.val (.int .i64 a2.List_),.sl a2.Ops.length (fl Zf a2.Ops)]]⟩) (O:=(Zv O n [])) (n:=n) (i:=i0) (j:=j0_0) (k:=2) (len:=a0.gone.length) (q:=⟨false,98,4,1,[.row j0_2 a0.out.length,.val (.int .i64 a0.kept),.row j0_0 a0.gone.length,.row j0_1 a0.come.length]⟩) (qj:=⟨true,25,3,a0.gone.length,fl Za a0.gone⟩) (by rw [Y6 _ hi0];first | exact ho0 | exact Yk _ _ _) rfl (by rw [Y6 _ Zae];exact Zaw) K8 (by omega)
 simp only [Xh _ _ Zae,Xh _ _ hi0,Xp,Yz,Ju,Zcj K8,List.set_cons_zero,List.set_cons_succ,List.cons_append,List.nil_append,List.length_cons,List.length_nil,Nat.zero_add,Nat.reduceAdd,Nat.add_assoc] at e0
 refine J9 e0 ?_
 have e1:=Vu (ba:=n) (E:=⟨25,[],Zhx 0 [.ref i0 0,.val (.int .i64 a1),.agg [.val (.int .i64 a2.Kind),.val (.int .i64 a2.Old.Kind),.sl a2.Old.Words.length (fl (eI .u64) a2.Old.Words),.sl a2.Old.Kids.length (fl Za a2.Old.Kids),.val (.int .i64 a2.New.Kind),.sl a2.New.Words.length (fl (eI .u64) a2.New.Words),.sl a2.New.Kids.length (fl Za a2.New.Kids),.sl a2.Words.length (fl Zg a2.Words),.sl a2.Kids.length (fl Zi a2.Kids),.val (.int .i64 a2.List_),.sl a2.Ops.length (fl Zf a2.Ops)]]⟩) (O:=(Zv ((O.upd j0_0 none).upd i0 (some ⟨false,98,4,1,[.row j0_2 a0.out.length,.val (.int .i64 a0.kept),.row n a0.gone.length,.row j0_1 a0.come.length]⟩)) n [some ⟨true,25,3,a0.gone.length,fl Za a0.gone⟩])) (n:=(n+1)) (i:=i0) (j:=j0_1) (k:=3) (len:=a0.come.length) (q:=⟨false,98,4,1,[.row j0_2 a0.out.length,.val (.int .i64 a0.kept),.row n a0.gone.length,.row j0_1 a0.come.length]⟩) (qj:=⟨true,25,3,a0.come.length,fl Za a0.come⟩) (by rw [Y6 _ hi0];first | exact ho0 | exact Yk _ _ _) rfl (by rw [Y6 _ Zjl,Xw _ _ (Ne.symm Zav),Xw _ _ (Ne.symm Zau)];exact Zks) Zav (by omega)
 simp only [Xh _ _ Zjl,Xh _ _ hi0,Xp,Yz,Ju,Zcj Zav,List.set_cons_zero,List.set_cons_succ,List.cons_append,List.nil_append,List.length_cons,List.length_nil,Nat.zero_add,Nat.reduceAdd,Nat.add_assoc] at e1
 refine J9 e1 ?_
 have e2:=Vu (ba:=n) (E:=⟨25,[],Zhx 0 [.ref i0 0,.val (.int .i64 a1),.agg [.val (.int .i64 a2.Kind),.val (.int .i64 a2.Old.Kind),.sl a2.Old.Words.length (fl (eI .u64) a2.Old.Words),.sl a2.Old.Kids.length (fl Za a2.Old.Kids),.val (.int .i64 a2.New.Kind),.sl a2.New.Words.length (fl (eI .u64) a2.New.Words),.sl a2.New.Kids.length (fl Za a2.New.Kids),.sl a2.Words.length (fl Zg a2.Words),.sl a2.Kids.length (fl Zi a2.Kids),.val (.int .i64 a2.List_),.sl a2.Ops.length (fl Zf a2.Ops)]]⟩) (O:=(Zv (((O.upd j0_0 none).upd j0_1 none).upd i0 (some ⟨false,98,4,1,[.row j0_2 a0.out.length,.val (.int .i64 a0.kept),.row n a0.gone.length,.row (n+1) a0.come.length]⟩)) n [some ⟨true,25,3,a0.gone.length,fl Za a0.gone⟩,some ⟨true,25,3,a0.come.length,fl Za a0.come⟩])) (n:=(n+2)) (i:=i0) (j:=j0_2) (k:=0) (len:=a0.out.length) (q:=⟨false,98,4,1,[.row j0_2 a0.out.length,.val (.int .i64 a0.kept),.row n a0.gone.length,.row (n+1) a0.come.length]⟩) (qj:=⟨true,53,14,a0.out.length,fl Zf a0.out⟩) (by rw [Y6 _ hi0];first | exact ho0 | exact Yk _ _ _) rfl (by rw [Y6 _ Zls,Xw _ _ (Ne.symm Zcv),Xw _ _ (Ne.symm Zcu),Xw _ _ (Ne.symm Zct)];exact Zmz) Zcv (by omega)
 simp only [Xh _ _ Zls,Xh _ _ hi0,Xp,Yz,Ju,Zcj Zcv,List.set_cons_zero,List.set_cons_succ,List.cons_append,List.nil_append,List.length_cons,List.length_nil,Nat.zero_add,Nat.reduceAdd,Nat.add_assoc] at e2
 refine J9 e2 ?_
 have hU:=(Und.drop (Und.drop (Und.drop hU j0_0) j0_1) j0_2)
 have hk0:∀ k,i0 < n+k:=fun k=>by omega
 have hN0:∀ o,Objs.upd (((O.upd j0_0 none).upd j0_1 none).upd j0_2 none) i0 o n=none:=fun o=>Jp hU hi0 _ (Nat.le_refl _)
 have hN:∀ o k,Objs.upd (((O.upd j0_0 none).upd j0_1 none).upd j0_2 none) i0 o (n+k)=none:=fun o k=>Jp hU hi0 _ (Nat.le_add_right _ _)
 show W _ _ _ _ ⟨25,[],[(0,.ref i0 0),(1,(vI a1)),(2,.agg (Ze a2))]⟩ (Zv ((((O.upd j0_0 none).upd j0_1 none).upd j0_2 none).upd i0 (some ⟨false,98,4,1,[.row (n+2) a0.out.length,(vI a0.kept),.row n a0.gone.length,.row (n+1) a0.come.length]⟩)) n [some (oR 25 3 Za a0.gone),some (oR 25 3 Za a0.come),some (oR 53 14 Zf a0.out)]) _
 refine Zc5 [0,1,5] hi0 hk0 ?_
 refine Zk ?_
 refine Zk ?_
 obtain ⟨y2,hy2,h⟩:=bC h
 refine K1 [] hi0 hk0 ?_
 refine (Zx3 hy2).then ?_
 refine zX2 hi0 hk0 ?_
 refine zD [0,5,8] [true,true,true,true] ?_
 refine Zt (t:=y2) rfl (fun c10 => ?_) (fun c10 => ?_)
 ·replace h:=Zs c10 h
  refine Zk ?_
  obtain ⟨y4,hy4,h⟩:=bC h
  refine K1 [] hi0 hk0 ?_
  refine (Zip (i0:=i0) (j0_0:=n) (j0_1:=(n+1)) (j0_2:=(n+2)) (by omega) (by omega) (by omega) (by omega) (by omega) (by omega) (by omega) (by omega) (by omega) (by omega) (by simp only [push_cast,seval,↓reduceIte,Zo,Xz,hi0,hk0,hN0,hN] <;> rfl) (by simp only [push_cast,seval,↓reduceIte,Zo,Xz,hi0,hk0,hN0,hN] <;> rfl) (by simp only [push_cast,seval,↓reduceIte,Zo,Xz,hi0,hk0,hN0,hN] <;> rfl) (by simp only [push_cast,seval,↓reduceIte,Zo,Xz,hi0,hk0,hN0,hN] <;> rfl) hy4).then ?_
  refine zX2 hi0 hk0 ?_
  refine zD [] [false,false,false,false,true,true,true] ?_
  refine zW ?_
  have h:=Option.some.inj h;subst h
  refine Ko (k:=3) (i:=i0) (q1:=⟨false,98,4,1,[.row (n+2) y4.out.length,(vI y4.kept),.row n y4.gone.length,.row (n+1) y4.come.length]⟩) (L3:=[some (oR 25 3 Za y4.gone),some (oR 25 3 Za y4.come),some (oR 53 14 Zf y4.out),none]) (E2:=(⟨25,[],[]⟩:Env)) (n3:=(n+4)) (.inr rfl) hU rfl [] ?_ ?_
  ·refine Fit2.trans (E':=(⟨25,[],[]⟩:Env)) (O':=(Zv ((((O.upd j0_0 none).upd j0_1 none).upd j0_2 none).upd i0 (some ⟨false,98,4,1,[.row (n+6) y4.out.length,(vI y4.kept),.row (n+4) y4.gone.length,.row (n+5) y4.come.length]⟩)) n [none,none,none,none,some (oR 25 3 Za y4.gone),some (oR 25 3 Za y4.come),some (oR 53 14 Zf y4.out)])) (n':=(n+7)) (Fit2.of (Yh hU rfl rfl ?_) (by omega)) ?_
   ·exact Jn hi0 hk0
   refine Q4 (k:=7) (k':=4) hU [3,3,3,3,0,1,2] [4,5,6,0] rfl rfl rfl rfl ⟨rfl,rfl⟩ ?_
   exact Jn hi0 hk0
  simp only [push_cast,seval,↓reduceIte,Zo,Try.results87,hi0,hk0,hN0,hN]
 replace h:=Zr c10 h
 refine Kq [0,5] [true,true,true,true] ?_
 refine Zk ?_
 obtain ⟨y6,hy6,h⟩:=bC h
 refine K1 [] hi0 hk0 ?_
 refine (Gi (i0:=i0) (j0_0:=n) (j0_1:=(n+1)) (j0_2:=(n+2)) (by omega) (by omega) (by omega) (by omega) (by omega) (by omega) (by omega) (by omega) (by omega) (by omega) (by simp only [push_cast,seval,↓reduceIte,Zo,Xz,hi0,hk0,hN0,hN] <;> rfl) (by simp only [push_cast,seval,↓reduceIte,Zo,Xz,hi0,hk0,hN0,hN] <;> rfl) (by simp only [push_cast,seval,↓reduceIte,Zo,Xz,hi0,hk0,hN0,hN] <;> rfl) (by simp only [push_cast,seval,↓reduceIte,Zo,Xz,hi0,hk0,hN0,hN] <;> rfl) hy6).then ?_
 refine zX2 hi0 hk0 ?_
 refine zD [0,5] [false,false,false,true,true,true,true] ?_
 obtain ⟨l7,pl7,ql7,el7,h⟩:=bA (k:=1) rfl h
 obtain ⟨x8,hx8,ax8,bx8,cx8,h⟩:=bE (f:=Zf) Zel (fun _=>rfl) (by decide) h
 have gu9:V5 (fl Zf y6.out++[.val (.int .i64 0),.val (.int .i64 0),.val (.slice none 0 0),.val (.int .i64 0),.val (.int .i64 0),.val (.slice none 0 0),.val (.slice none 0 0),.val (.int .i64 0),.val (.slice none 0 0),.val (.slice none 0 0),.val (.slice none 0 0),.val (.slice none 0 0),.val (.int .i64 0),.val (.slice none 0 0)]) [.val (.int .i64 3),.val (.int .i64 0),.val (.slice none 0 0),.val (.int .i64 a2.Kind),.val (.int .i64 a2.Old.Kind),.sl a2.Old.Words.length (fl (eI .u64) a2.Old.Words),.sl a2.Old.Kids.length (fl Za a2.Old.Kids),.val (.int .i64 a2.New.Kind),.sl a2.New.Words.length (fl (eI .u64) a2.New.Words),.sl a2.New.Kids.length (fl Za a2.New.Kids),.sl a2.Words.length (fl Zg a2.Words),.sl a2.Kids.length (fl Zi a2.Kids),.val (.int .i64 a2.List_),.sl a2.Ops.length (fl Zf a2.Ops)] (List.length y6.out * 14)=some (fl Zf y6.out++[.val (.int .i64 3),.val (.int .i64 0),.val (.slice none 0 0),.val (.int .i64 a2.Kind),.val (.int .i64 a2.Old.Kind),.sl a2.Old.Words.length (fl (eI .u64) a2.Old.Words),.sl a2.Old.Kids.length (fl Za a2.Old.Kids),.val (.int .i64 a2.New.Kind),.sl a2.New.Words.length (fl (eI .u64) a2.New.Words),.sl a2.New.Kids.length (fl Za a2.New.Kids),.sl a2.Words.length (fl Zg a2.Words),.sl a2.Kids.length (fl Zi a2.Kids),.val (.int .i64 a2.List_),.sl a2.Ops.length (fl Zf a2.Ops)]):=Zcm (f:=Zf) (sz:=14) (fun _=>rfl) rfl rfl
 refine Jv Z5 (by kernel_rfl) [.plain,.low,.low,.low,.low,.plain,.low,.pass,.bar,.shp,.fill true,.shp,.shp,.fill false] (fun i=>i < (n+7)) [0,1,2,3,4,5,6,7,8,9,10,11,12,13] [.plain,.low,.low,.low,.low,.plain,.low,.pass,.bar,.shp,.fill true,.shp,.shp,.fill false] [] (by kernel_rfl) rfl ?_
 refine zF9 pl7 ql7 el7 ax8 bx8 cx8 gu9 hi0 hk0 ?_
 refine zO ?_
 have h:=Option.some.inj h;subst h
 refine Ko (k:=3) (i:=i0) (q1:=⟨false,98,4,1,[.row (n+2) (y6.out++[(⟨3,0,([]:(List Zb)),a2⟩:Zh)]).length,(vI y6.kept),.row n y6.gone.length,.row (n+1) y6.come.length]⟩) (L3:=[some (oR 25 3 Za y6.gone),some (oR 25 3 Za y6.come),some (oR 53 14 Zf (y6.out++[(⟨3,0,([]:(List Zb)),a2⟩:Zh)])),none]) (E2:=(⟨25,[],[]⟩:Env)) (n3:=(n+4)) (.inl rfl) hU rfl [] ?_ ?_
 ·refine Fit2.trans (E':=(⟨25,[],[]⟩:Env)) (O':=(Zv ((((O.upd j0_0 none).upd j0_1 none).upd j0_2 none).upd i0 (some ⟨false,98,4,1,[.row (n+6) (y6.out++[(⟨3,0,([]:(List Zb)),a2⟩:Zh)]).length,(vI y6.kept),.row (n+4) y6.gone.length,.row (n+5) y6.come.length]⟩)) n [none,none,none,none,some (oR 25 3 Za y6.gone),some (oR 25 3 Za y6.come),some (oR 53 14 Zf (y6.out++[(⟨3,0,([]:(List Zb)),a2⟩:Zh)])),none])) (n':=(n+8)) (Fit2.of (Yh hU rfl rfl ?_) (by omega)) ?_
  ·exact Z42 pl7 ql7 el7 ax8 bx8 cx8 gu9 hi0 hk0
  refine Q4 (k:=8) (k':=4) hU [3,3,3,3,0,1,2,3] [4,5,6,0] rfl rfl rfl rfl ⟨rfl,rfl⟩ ?_
  exact Jn hi0 hk0
 simp only [push_cast,seval,↓reduceIte,Zo,Try.results87,hi0,hk0,hN0,hN]
attribute [local push_cast] Try.results118 Try.results129 Try.results130 Try.results134 Try.results18 Try.results24 Try.results28 Try.results54 Try.results78 Try.results79 Try.results81 Try.results83
def Ziy (Q2:(Zc→Option Zc)):Prop:=∀ {a0:Zc} {r:Zc} {O:Objs} {n:Nat},Q2 a0=some r→GTo Try.prog 28 [.agg (Ze a0)] O n (.agg (Ze r)) O n
def Zj1 (Ga:(Int→(List Zh)→Option (List Zh))):Prop:=∀ {a0:Int} {a1:(List Zh)} {r:(List Zh)} {O:Objs} {n:Nat},Ga a0 a1=some r→GTo Try.prog 54 [(vI a0),(sL Zf a1)] O n ((sL Zf r)) O n
theorem Zvs {Q2:(Zc→Option Zc)} {Ga:(Int→(List Zh)→Option (List Zh))} (Zf9:Ziy Q2) (Znu:Zj1 Ga) {a0:Zc} {r:Zc} {O:Objs} {n:Nat} (h:Zgo Q2 Ga a0=some r):GTo Try.prog 28 [.agg (Ze a0)] O n (.agg (Ze r)) O n:=by
 unfold Zgo at h
 refine zFn Try.call28 Try.func28 fun hU hN0 hN => ?_
 show W _ _ _ _ ⟨54,[],[(0,.agg (Ze a0))]⟩ (Zv O n []) _
 refine zQ [1,2] ?_
 refine Zk ?_
 refine zQ [1,2,7] ?_
 refine Ya ?_
 refine zQ [1,2,7,8] ?_
 refine Zt (t:=(a0.Kind == 1)) rfl (fun c17 => ?_) (fun c17 => ?_)
 ·replace h:=Zs c17 h
  refine Zk ?_
  obtain ⟨y3,hy3,h⟩:=bC h
  obtain ⟨y4,hy4,h⟩:=bC h
  refine Zkd Z5 (by kernel_rfl) [false,false,false,false,false,false,false,true] [] (by kernel_rfl) ?_
  refine zS ?_
  refine PCall.of (Zc0 hy3) ?_
  refine zS ?_
  refine PCall.of (Zc0 hy4) ?_
  refine zS ?_
  refine zD [2] [false,true] ?_
  exact Yu [.agg [(vI 1),(vI y3.Kind),(sL (eI .u64) y3.Words),(sL Za y3.Kids),(vI y4.Kind),(sL (eI .u64) y4.Words),(sL Za y4.Kids),nV,nV,(vI 0),nV]]
 replace h:=Zr c17 h
 refine zQ [1,2,7,17] ?_
 refine Zt (t:=(a0.Kind == 2)) rfl (fun c16 => ?_) (fun c16 => ?_)
 ·replace h:=Zs c16 h
  refine Zk ?_
  obtain ⟨y6,hy6,h⟩:=bC h
  refine zR ?_
  refine (Zdp  hy6).then ?_
  refine zS ?_
  refine zDs [1,2,3] [true,true,true,true] ?_
  refine zQd [2,3,24,25,26] [2,3,24,25,26] [false,true,true,true] ?_
  refine J9 (E':=(⟨54,[],[(2,.ref (n+1) 0),(3,.ref (n+3) 0),(24,(sL Zi a0.Kids)),(25,(vI (a0.Kids.length:Int))),(26,(vI 0))]⟩:Env)) (O':=(Zv O n [none,some ⟨false,30,11,1,[(vI 0),(vI 0),nV,nV,(vI 0),nV,nV,nV,nV,(vI 0),nV]⟩,some (oR 42 4 Zg y6),some ⟨false,30,11,1,[(vI 2),(vI 0),nV,nV,(vI 0),nV,nV,.row (n+2) y6.length,.row (n+4) ([]:List Zd).length,(vI 0),nV]⟩,some (oR 55 12 Zi ([]:List Zd)),none])) (n':=(n+6)) ?_ ?_
  ·refine Fit2.trans (E':=(⟨54,[],[(2,.ref (n+1) 0),(3,.ref (n+3) 0),(24,(sL Zi a0.Kids)),(25,(vI (a0.Kids.length:Int))),(26,(vI 0))]⟩:Env)) (O':=(Zv O n [none,some ⟨false,30,11,1,[(vI 0),(vI 0),nV,nV,(vI 0),nV,nV,nV,nV,(vI 0),nV]⟩,some (oR 42 4 Zg y6),some ⟨false,30,11,1,[(vI 2),(vI 0),nV,nV,(vI 0),nV,nV,.row (n+2) y6.length,nV,(vI 0),nV]⟩])) (n':=(n+4)) (Fit2.of (Yd hU rfl rfl ?_) (by omega)) ?_
   ·exact zSe
   refine Fit2.trans (Vg (p:=(n+3)) (k:=8) (q:=⟨false,30,11,1,[(vI 2),(vI 0),nV,nV,(vI 0),nV,nV,.row (n+2) y6.length,nV,(vI 0),nV]⟩) 55 12 (by simp only [Uv,Za8,List.getElem?_cons_zero,List.getElem?_cons_succ,Option.join_some,List.length_nil,Yk]) rfl (by omega)) ?_
   simp only [Xp,Yz,Un,K7,List.set_cons_zero,List.set_cons_succ,List.cons_append,List.nil_append,List.length_cons,List.length_nil,Nat.zero_add,Nat.reduceAdd,Nat.reduceLT,Nat.add_assoc]
   refine J8 (k:=5) (k':=6) hU [5,1,2,3,4] [0,1,2,3,4,0] rfl rfl rfl rfl ⟨rfl,rfl⟩ ?_
   exact zSe
  obtain ⟨z12,hz12,h⟩:=bC h
  refine Yy (E':=⟨54,[],[(2,.ref (n+1) 0),(3,.ref (n+3) 0)]⟩) (O':=(Zv O n [none,some ⟨false,30,11,1,[(vI 0),(vI 0),nV,nV,(vI 0),nV,nV,nV,nV,(vI 0),nV]⟩,some (oR 42 4 Zg y6),some ⟨false,30,11,1,[(vI 2),(vI 0),nV,nV,(vI 0),nV,nV,.row (n+2) y6.length,.row (n+4) z12.length,(vI 0),nV]⟩,some (oR 55 12 Zi z12),none])) (n0:=(n+6)) ?_ ?_
  ·refine Xj hz12 (fun s0_=>⟨54,[],[(2,.ref (n+1) 0),(3,.ref (n+3) 0),(24,(sL Zi a0.Kids)),(25,(vI (a0.Kids.length:Int))),(26,(vI s0_.1))]⟩) (fun s0_=>(Zv O n [none,some ⟨false,30,11,1,[(vI 0),(vI 0),nV,nV,(vI 0),nV,nV,nV,nV,(vI 0),nV]⟩,some (oR 42 4 Zg y6),some ⟨false,30,11,1,[(vI 2),(vI 0),nV,nV,(vI 0),nV,nV,.row (n+2) y6.length,.row (n+4) s0_.2.length,(vI 0),nV]⟩,some (oR 55 12 Zi s0_.2),none])) (fun z12=>JX 1 n (⟨54,[],[(2,.ref (n+1) 0),(3,.ref (n+3) 0)]⟩:Env) (Zv O n [none,some ⟨false,30,11,1,[(vI 0),(vI 0),nV,nV,(vI 0),nV,nV,nV,nV,(vI 0),nV]⟩,some (oR 42 4 Zg y6),some ⟨false,30,11,1,[(vI 2),(vI 0),nV,nV,(vI 0),nV,nV,.row (n+2) y6.length,.row (n+4) z12.length,(vI 0),nV]⟩,some (oR 55 12 Zi z12),none]) (n+6)) ?_
   intro s0_ x0_ hs0_
   unfold Zb9 at hs0_
   try dsimp only
   refine zQ [2,3,24,25,26,27] ?_
   refine Zk ?_
   refine Zt (t:=(decide (s0_.1 < (a0.Kids.length:Int)))) rfl (fun c11 => ?_) (fun c11 => ?_)
   ·replace hs0_:=Zs c11 hs0_
    refine Kq [2,3,24,25,26] [false,true,true,true,true,false] ?_
    refine Zk ?_
    refine Ya ?_
    refine Zk ?_
    obtain ⟨x8,hx8,ax8,bx8,cx8,hs0_⟩:=bE (f:=Zi) Zfm (fun _=>rfl) (by decide) hs0_
    refine Zby [] ax8 bx8 cx8 ?_
    refine zD [2,3,5,24,25,26] [false,true,true,true,true,false,true] ?_
    obtain ⟨y9,hy9,hs0_⟩:=bC hs0_
    obtain ⟨l10,pl10,ql10,el10,hs0_⟩:=bA (k:=1) rfl hs0_
    refine Jv Z5 (by kernel_rfl) [.low,.low,.plain,.plain,.plain,.plain,.plain,.plain,.pass,.bar,.plain,.bar] (fun i=>i < (n+7)) [0,1,2,3,4,5,6,7,8,9,10,11] [.low,.low,.plain,.plain,.plain,.plain,.plain,.plain,.pass,.bar,.plain,.bar] [] (by kernel_rfl) rfl ?_
    refine zX3 pl10 ql10 el10 ?_
    refine zO ?_
    first | refine PCallA.of (fun _ _=>Zf9 hy9) ?_ | refine PCall.of (Zf9 hy9) ?_
    refine zX3 pl10 ql10 el10 ?_
    refine zO ?_
    refine Zbc ⟨54,[],[(2,.ref (n+1) 0),(3,.ref (n+3) 0),(24,(sL Zi a0.Kids)),(25,(vI (a0.Kids.length:Int))),(26,(vI s0_.1))]⟩ (Zv O n [none,some ⟨false,30,11,1,[(vI 0),(vI 0),nV,nV,(vI 0),nV,nV,nV,nV,(vI 0),nV]⟩,some (oR 42 4 Zg y6),some ⟨false,30,11,1,[(vI 2),(vI 0),nV,nV,(vI 0),nV,nV,.row (n+2) y6.length,.row (n+4) l10.length,(vI 0),nV]⟩,some (oR 55 12 Zi l10),none,none,none]) (Yd hU rfl rfl ?_) ?_
    ·exact Zz5 pl10 ql10 el10
    refine zR ?_
    exact zEn hs0_
   replace hs0_:=Zr c11 hs0_
   exact zEx hs0_
  try simp only [Xe,Yi,↓reduceIte,Nat.reduceEqDiff]
  refine zDs [2,3] [false,true,true,true,true,false] ?_
  refine zRd [2] [false,true,true,false,true,false] ?_
  exact Yu [.agg [(vI 2),(vI 0),nV,nV,(vI 0),nV,nV,.row (n+2) y6.length,.row (n+4) z12.length,(vI 0),nV]]
 replace h:=Zr c16 h
 refine zQ [1,2,43] ?_
 refine Zt (t:=(a0.Kind == 3)) rfl (fun c15 => ?_) (fun c15 => ?_)
 ·replace h:=Zs c15 h
  refine Zk ?_
  obtain ⟨y14,hy14,h⟩:=bC h
  refine Zkd Z5 (by kernel_rfl) [false,false,false,false,false,false,false,false,true] [] (by kernel_rfl) ?_
  refine zS ?_
  refine PCall.of (Znu hy14) ?_
  refine zS ?_
  refine zD [2] [false,true] ?_
  exact Yu [.agg [(vI 3),(vI 0),nV,nV,(vI 0),nV,nV,nV,nV,(vI a0.List_),(sL Zf y14)]]
 replace h:=Zr c15 h
 refine Kq [2] [false,true] ?_
 refine Zk ?_
 refine zRd [2] [false,true] ?_
 exact Yu [.agg [(vI 0),(vI 0),nV,nV,(vI 0),nV,nV,nV,nV,(vI 0),nV]]
theorem Zx9 {Q2:(Zc→Option Zc)} {Ga:(Int→(List Zh)→Option (List Zh))} (Zf9:Ziy Q2) (Znu:Zj1 Ga) {a0:Int} {a1:(List Zh)} {r:(List Zh)} {O:Objs} {n:Nat} (h:Zf5 Q2 Ga a0 a1=some r):GTo Try.prog 54 [(vI a0),(sL Zf a1)] O n ((sL Zf r)) O n:=by
 unfold Zf5 at h
 refine zFn Try.call54 Try.func54 fun hU hN0 hN => ?_
 show W _ _ _ _ ⟨44,[],[(0,(vI a0)),(1,(sL Zf a1))]⟩ (Zv O n []) _
 refine zQ [0,1] ?_
 refine zQ [0,1,5] ?_
 refine Zk ?_
 refine zQd [0,5,8,9,10] [0,5,8,9,10] [true] ?_
 refine J9 (E':=(⟨44,[],[(0,(vI a0)),(5,.ref n 0),(8,(sL Zf a1)),(9,(vI (a1.length:Int))),(10,(vI 0))]⟩:Env)) (O':=(Zv O n [some ⟨false,98,4,1,[.row (n+1) ([]:List Zh).length,(vI 0),.row (n+2) ([]:List Zb).length,.row (n+3) ([]:List Zb).length]⟩,some (oR 53 14 Zf ([]:List Zh)),some (oR 25 3 Za ([]:List Zb)),some (oR 25 3 Za ([]:List Zb)),none])) (n':=(n+5)) ?_ ?_
 ·refine Fit2.trans (E':=(⟨44,[],[(0,(vI a0)),(5,.ref n 0),(8,(sL Zf a1)),(9,(vI (a1.length:Int))),(10,(vI 0))]⟩:Env)) (O':=(Zv O n [some ⟨false,98,4,1,[nV,(vI 0),nV,nV]⟩])) (n':=(n+1)) (Fit2.of (Yd hU rfl rfl ?_) (by omega)) ?_
  ·exact zSe
  refine Fit2.trans (Vg (p:=n) (k:=0) (q:=⟨false,98,4,1,[nV,(vI 0),nV,nV]⟩) 53 14 (by simp only [Uv,Za8,List.getElem?_cons_zero,List.getElem?_cons_succ,Option.join_some,List.length_nil,Yk]) rfl (by omega)) ?_
  simp only [Xp,Yz,Un,K7,List.set_cons_zero,List.set_cons_succ,List.cons_append,List.nil_append,List.length_cons,List.length_nil,Nat.zero_add,Nat.reduceAdd,Nat.reduceLT,Nat.add_assoc]
  refine Fit2.trans (Vg (p:=n) (k:=2) (q:=⟨false,98,4,1,[.row (n+1) ([]:List Zh).length,(vI 0),nV,nV]⟩) 25 3 (by simp only [Uv,Za8,List.getElem?_cons_zero,List.getElem?_cons_succ,Option.join_some,List.length_nil,Yk]) rfl (by omega)) ?_
  simp only [Xp,Yz,Un,K7,List.set_cons_zero,List.set_cons_succ,List.cons_append,List.nil_append,List.length_cons,List.length_nil,Nat.zero_add,Nat.reduceAdd,Nat.reduceLT,Nat.add_assoc]
  refine Fit2.trans (Vg (p:=n) (k:=3) (q:=⟨false,98,4,1,[.row (n+1) ([]:List Zh).length,(vI 0),.row (n+2) ([]:List Zb).length,nV]⟩) 25 3 (by simp only [Uv,Za8,List.getElem?_cons_zero,List.getElem?_cons_succ,Option.join_some,List.length_nil,Yk]) rfl (by omega)) ?_
  simp only [Xp,Yz,Un,K7,List.set_cons_zero,List.set_cons_succ,List.cons_append,List.nil_append,List.length_cons,List.length_nil,Nat.zero_add,Nat.reduceAdd,Nat.reduceLT,Nat.add_assoc]
  refine J8 (k:=4) (k':=5) hU [0,1,2,3] [0,1,2,3,0] rfl rfl rfl rfl ⟨rfl,rfl⟩ ?_
  exact zSe
 obtain ⟨z14,hz14,h⟩:=bC h
 refine Yy (E':=⟨44,[],[(5,.ref n 0)]⟩) (O':=(Zv O n [some ⟨false,98,4,1,[.row (n+1) z14.2.1.length,(vI z14.1),.row (n+2) z14.2.2.1.length,.row (n+3) z14.2.2.2.length]⟩,some (oR 53 14 Zf z14.2.1),some (oR 25 3 Za z14.2.2.1),some (oR 25 3 Za z14.2.2.2),none])) (n0:=(n+5)) ?_ ?_
 ·refine Xj hz14 (fun s0_=>⟨44,[],[(0,(vI a0)),(5,.ref n 0),(8,(sL Zf a1)),(9,(vI (a1.length:Int))),(10,(vI s0_.1))]⟩) (fun s0_=>(Zv O n [some ⟨false,98,4,1,[.row (n+1) s0_.2.2.1.length,(vI s0_.2.1),.row (n+2) s0_.2.2.2.1.length,.row (n+3) s0_.2.2.2.2.length]⟩,some (oR 53 14 Zf s0_.2.2.1),some (oR 25 3 Za s0_.2.2.2.1),some (oR 25 3 Za s0_.2.2.2.2),none])) (fun z14=>JX 0 n (⟨44,[],[(5,.ref n 0)]⟩:Env) (Zv O n [some ⟨false,98,4,1,[.row (n+1) z14.2.1.length,(vI z14.1),.row (n+2) z14.2.2.1.length,.row (n+3) z14.2.2.2.length]⟩,some (oR 53 14 Zf z14.2.1),some (oR 25 3 Za z14.2.2.1),some (oR 25 3 Za z14.2.2.2),none]) (n+5)) ?_
  intro s0_ x0_ hs0_
  unfold Gx at hs0_
  try dsimp only
  refine zQ [0,5,8,9,10,11] ?_
  refine Zk ?_
  refine Zt (t:=(decide (s0_.1 < (a1.length:Int)))) rfl (fun c13 => ?_) (fun c13 => ?_)
  ·replace hs0_:=Zs c13 hs0_
   refine Kq [0,5,8,9,10] [true,true,true,true,false] ?_
   obtain ⟨z1,hz1,hs0_⟩:=bC hs0_
   refine Xl (E':=⟨44,[],[(0,(vI a0)),(5,.ref n 0),(8,(sL Zf a1)),(9,(vI (a1.length:Int))),(10,(vI s0_.1))]⟩) (O':=(Zv O n [some ⟨false,98,4,1,[.row (n+9) z1.2.1.length,(vI z1.1),.row (n+10) z1.2.2.1.length,.row (n+11) z1.2.2.2.length]⟩,none,none,none,none,none,none,none,none,some (oR 53 14 Zf z1.2.1),some (oR 25 3 Za z1.2.2.1),some (oR 25 3 Za z1.2.2.2),none])) (n0:=(n+13)) ?_ ?_
   ·refine Ya ?_
    refine Zk ?_
    obtain ⟨x3,hx3,ax3,bx3,cx3,hz1⟩:=bE (f:=Zf) Zel (fun _=>rfl) (by decide) hz1
    refine Zby [] ax3 bx3 cx3 ?_
    refine zD [0,5,7,8,9,10] [true,true,true,true,false,true] ?_
    refine zQ [0,5,7,8,9,10,15] ?_
    refine Ya ?_
    refine zQ [0,5,7,8,9,10,15,16] ?_
    refine Zt (t:=(x3.Kind == 0)) rfl (fun c12 => ?_) (fun c12 => ?_)
    ·replace hz1:=Zs c12 hz1
     obtain ⟨y4,hy4,hz1⟩:=bC hz1
     refine zR ?_
     refine (Zip (i0:=n) (j0_0:=(n+2)) (j0_1:=(n+3)) (j0_2:=(n+1)) (by omega) (by omega) (by omega) (by omega) (by omega) (by omega) (by omega) (by omega) (by omega) (by omega) (by simp only [push_cast,seval,↓reduceIte,Zo,Xz,hN0,hN] <;> rfl) (by simp only [push_cast,seval,↓reduceIte,Zo,Xz,hN0,hN] <;> rfl) (by simp only [push_cast,seval,↓reduceIte,Zo,Xz,hN0,hN] <;> rfl) (by simp only [push_cast,seval,↓reduceIte,Zo,Xz,hN0,hN] <;> rfl) hy4).then ?_
     refine zS ?_
     have hz1:=Option.some.inj hz1;subst hz1
     refine And.intro rfl ?_
     refine Fit2.trans (E':=(⟨44,[],[(0,(vI a0)),(5,.ref n 0),(8,(sL Zf a1)),(9,(vI (a1.length:Int))),(10,(vI s0_.1))]⟩:Env)) (O':=(Zv O n [some ⟨false,98,4,1,[.row (n+8) y4.out.length,(vI y4.kept),.row (n+6) y4.gone.length,.row (n+7) y4.come.length]⟩,none,none,none,none,none,some (oR 25 3 Za y4.gone),some (oR 25 3 Za y4.come),some (oR 53 14 Zf y4.out)])) (n':=(n+9)) (Fit2.of (Yd hU rfl rfl ?_) (by omega)) ?_
     ·exact zSe
     refine J8 (k:=9) (k':=13) hU [0,12,12,12,12,12,10,11,9] [0,0,0,0,0,0,0,0,0,8,6,7,0] rfl rfl rfl rfl ⟨rfl,rfl⟩ ?_
     exact zSe
    replace hz1:=Zr c12 hz1
    refine zQ [0,5,7,8,9,10,15,21] ?_
    refine Zt (t:=(x3.Kind == 1)) rfl (fun c11 => ?_) (fun c11 => ?_)
    ·replace hz1:=Zs c11 hz1
     obtain ⟨y5,hy5,hz1⟩:=bC hz1
     refine zR ?_
     refine (Zlo (i0:=n) (j0_0:=(n+2)) (j0_1:=(n+3)) (j0_2:=(n+1)) (by omega) (by omega) (by omega) (by omega) (by omega) (by omega) (by omega) (by omega) (by omega) (by omega) (by simp only [push_cast,seval,↓reduceIte,Zo,Xz,hN0,hN] <;> rfl) (by simp only [push_cast,seval,↓reduceIte,Zo,Xz,hN0,hN] <;> rfl) (by simp only [push_cast,seval,↓reduceIte,Zo,Xz,hN0,hN] <;> rfl) (by simp only [push_cast,seval,↓reduceIte,Zo,Xz,hN0,hN] <;> rfl) hy5).then ?_
     refine zS ?_
     have hz1:=Option.some.inj hz1;subst hz1
     refine And.intro rfl ?_
     refine Fit2.trans (E':=(⟨44,[],[(0,(vI a0)),(5,.ref n 0),(8,(sL Zf a1)),(9,(vI (a1.length:Int))),(10,(vI s0_.1))]⟩:Env)) (O':=(Zv O n [some ⟨false,98,4,1,[.row (n+8) y5.out.length,(vI y5.kept),.row (n+6) y5.gone.length,.row (n+7) y5.come.length]⟩,none,none,none,none,none,some (oR 25 3 Za y5.gone),some (oR 25 3 Za y5.come),some (oR 53 14 Zf y5.out)])) (n':=(n+9)) (Fit2.of (Yd hU rfl rfl ?_) (by omega)) ?_
     ·exact zSe
     refine J8 (k:=9) (k':=13) hU [0,12,12,12,12,12,10,11,9] [0,0,0,0,0,0,0,0,0,8,6,7,0] rfl rfl rfl rfl ⟨rfl,rfl⟩ ?_
     exact zSe
    replace hz1:=Zr c11 hz1
    refine zQ [0,5,7,8,9,10,15,27] ?_
    refine Zt (t:=(x3.Kind == 2)) rfl (fun c10 => ?_) (fun c10 => ?_)
    ·replace hz1:=Zs c10 hz1
     obtain ⟨y6,hy6,hz1⟩:=bC hz1
     refine zR ?_
     refine (Zlp (i0:=n) (j0_0:=(n+2)) (j0_1:=(n+3)) (j0_2:=(n+1)) (by omega) (by omega) (by omega) (by omega) (by omega) (by omega) (by omega) (by omega) (by omega) (by omega) (by simp only [push_cast,seval,↓reduceIte,Zo,Xz,hN0,hN] <;> rfl) (by simp only [push_cast,seval,↓reduceIte,Zo,Xz,hN0,hN] <;> rfl) (by simp only [push_cast,seval,↓reduceIte,Zo,Xz,hN0,hN] <;> rfl) (by simp only [push_cast,seval,↓reduceIte,Zo,Xz,hN0,hN] <;> rfl) hy6).then ?_
     refine zS ?_
     have hz1:=Option.some.inj hz1;subst hz1
     refine And.intro rfl ?_
     refine Fit2.trans (E':=(⟨44,[],[(0,(vI a0)),(5,.ref n 0),(8,(sL Zf a1)),(9,(vI (a1.length:Int))),(10,(vI s0_.1))]⟩:Env)) (O':=(Zv O n [some ⟨false,98,4,1,[.row (n+8) y6.out.length,(vI y6.kept),.row (n+6) y6.gone.length,.row (n+7) y6.come.length]⟩,none,none,none,none,none,some (oR 25 3 Za y6.gone),some (oR 25 3 Za y6.come),some (oR 53 14 Zf y6.out)])) (n':=(n+9)) (Fit2.of (Yd hU rfl rfl ?_) (by omega)) ?_
     ·exact zSe
     refine J8 (k:=9) (k':=13) hU [0,12,12,12,12,12,10,11,9] [0,0,0,0,0,0,0,0,0,8,6,7,0] rfl rfl rfl rfl ⟨rfl,rfl⟩ ?_
     exact zSe
    replace hz1:=Zr c10 hz1
    refine zQ [0,5,7,8,9,10,33] ?_
    refine Zt (t:=(x3.Kind == 3)) rfl (fun c9 => ?_) (fun c9 => ?_)
    ·replace hz1:=Zs c9 hz1
     obtain ⟨y7,hy7,hz1⟩:=bC hz1
     obtain ⟨y8,hy8,hz1⟩:=bC hz1
     refine zC (Zf9 hy7) ?_
     refine (Zl3 (i0:=n) (j0_0:=(n+2)) (j0_1:=(n+3)) (j0_2:=(n+1)) (by omega) (by omega) (by omega) (by omega) (by omega) (by omega) (by omega) (by omega) (by omega) (by omega) (by simp only [push_cast,seval,↓reduceIte,Zo,Xz,hN0,hN] <;> rfl) (by simp only [push_cast,seval,↓reduceIte,Zo,Xz,hN0,hN] <;> rfl) (by simp only [push_cast,seval,↓reduceIte,Zo,Xz,hN0,hN] <;> rfl) (by simp only [push_cast,seval,↓reduceIte,Zo,Xz,hN0,hN] <;> rfl) hy8).then ?_
     refine zS ?_
     have hz1:=Option.some.inj hz1;subst hz1
     refine And.intro rfl ?_
     refine Fit2.trans (E':=(⟨44,[],[(0,(vI a0)),(5,.ref n 0),(8,(sL Zf a1)),(9,(vI (a1.length:Int))),(10,(vI s0_.1))]⟩:Env)) (O':=(Zv O n [some ⟨false,98,4,1,[.row (n+8) y8.out.length,(vI y8.kept),.row (n+6) y8.gone.length,.row (n+7) y8.come.length]⟩,none,none,none,none,none,some (oR 25 3 Za y8.gone),some (oR 25 3 Za y8.come),some (oR 53 14 Zf y8.out)])) (n':=(n+9)) (Fit2.of (Yd hU rfl rfl ?_) (by omega)) ?_
     ·exact zSe
     refine J8 (k:=9) (k':=13) hU [0,12,12,12,12,12,10,11,9] [0,0,0,0,0,0,0,0,0,8,6,7,0] rfl rfl rfl rfl ⟨rfl,rfl⟩ ?_
     exact zSe
    replace hz1:=Zr c9 hz1
    refine zK ?_
    have hz1:=Option.some.inj hz1;subst hz1
    refine And.intro rfl ?_
    refine Fit2.trans (E':=(⟨44,[],[(0,(vI a0)),(5,.ref n 0),(8,(sL Zf a1)),(9,(vI (a1.length:Int))),(10,(vI s0_.1))]⟩:Env)) (O':=(Zv O n [some ⟨false,98,4,1,[.row (n+1) s0_.2.2.1.length,(vI s0_.2.1),.row (n+2) s0_.2.2.2.1.length,.row (n+3) s0_.2.2.2.2.length]⟩,some (oR 53 14 Zf s0_.2.2.1),some (oR 25 3 Za s0_.2.2.2.1),some (oR 25 3 Za s0_.2.2.2.2),none,none])) (n':=(n+6)) (Fit2.of (Yd hU rfl rfl ?_) (by omega)) ?_
    ·exact zSe
    refine J8 (k:=6) (k':=13) hU [0,9,10,11,12,12] [0,0,0,0,0,0,0,0,0,1,2,3,0] rfl rfl rfl rfl ⟨rfl,rfl⟩ ?_
    exact zSe
   refine zR ?_
   have hs0_:=Option.some.inj hs0_;subst hs0_
   refine And.intro rfl ?_
   refine Fit2.trans (E':=(⟨44,[],[(0,(vI a0)),(5,.ref n 0),(8,(sL Zf a1)),(9,(vI (a1.length:Int))),(10,(vI (IntKind.i64.wrap (s0_.1+1))))]⟩:Env)) (O':=(Zv O n [some ⟨false,98,4,1,[.row (n+9) z1.2.1.length,(vI z1.1),.row (n+10) z1.2.2.1.length,.row (n+11) z1.2.2.2.length]⟩,none,none,none,none,none,none,none,none,some (oR 53 14 Zf z1.2.1),some (oR 25 3 Za z1.2.2.1),some (oR 25 3 Za z1.2.2.2),none])) (n':=(n+13)) (Fit2.of (Yd hU rfl rfl ?_) (by omega)) ?_
   ·exact zSe
   refine J8 (k:=13) (k':=5) hU [0,4,4,4,4,4,4,4,4,1,2,3,4] [0,9,10,11,0] rfl rfl rfl rfl ⟨rfl,rfl⟩ ?_
   exact zSe
  replace hs0_:=Zr c13 hs0_
  exact zEx hs0_
 try simp only [Xe,Yi,↓reduceIte,Nat.reduceEqDiff]
 refine zDs [5] [true,true,true,true,false] ?_
 obtain ⟨y16,hy16,h⟩:=bC h
 refine zR ?_
 refine (Gi (i0:=n) (j0_0:=(n+2)) (j0_1:=(n+3)) (j0_2:=(n+1)) (by omega) (by omega) (by omega) (by omega) (by omega) (by omega) (by omega) (by omega) (by omega) (by omega) (by simp only [push_cast,seval,↓reduceIte,Zo,Xz,hN0,hN] <;> rfl) (by simp only [push_cast,seval,↓reduceIte,Zo,Xz,hN0,hN] <;> rfl) (by simp only [push_cast,seval,↓reduceIte,Zo,Xz,hN0,hN] <;> rfl) (by simp only [push_cast,seval,↓reduceIte,Zo,Xz,hN0,hN] <;> rfl) hy16).then ?_
 refine zS ?_
 refine zD [5] [true,false,false,false,false,true,true,true] ?_
 refine zQ [4] ?_
 exact Yu [.row (n+7) y16.out.length]
theorem Zsn:∀ k,(Ziy ((Qz k).1))∧(Zj1 ((Qz k).2)):=fun k=>by
 induction k with
 | zero=>exact ⟨@fun a0 r O n h=>(nomatch (show (none:Option _)=some _ from h)),@fun a0 a1 r O n h=>(nomatch (show (none:Option _)=some _ from h))⟩
 | succ k ih=>exact ⟨@fun a0 r O n h=>Zvs (ih.1) (ih.2)  h,@fun a0 a1 r O n h=>Zx9 (ih.1) (ih.2)  h⟩
theorem Zoq {a0:Zc} {r:Zc} {O:Objs} {n:Nat} (h:Zjc a0=some r):GTo Try.prog 28 [.agg (Ze a0)] O n (.agg (Ze r)) O n:=by
 obtain ⟨k,hk⟩:=Zax h
 exact (Zsn k).1  hk
theorem Zh9 {a0:Zc} {r:Zc} {O:Objs} {n:Nat} (h:Jw a0=some r):GTo Try.prog 24 [.agg (Ze a0)] O n (.agg (Ze r)) O n:=by
 unfold Jw at h
 refine zFn Try.call24 Try.func24 fun hU hN0 hN => ?_
 show W _ _ _ _ ⟨6,[],[(0,.agg (Ze a0))]⟩ (Zv O n []) _
 refine zQ [1,2] ?_
 refine Zk ?_
 obtain ⟨y3,hy3,h⟩:=bC h
 obtain ⟨y4,hy4,h⟩:=bC h
 refine zC (Zub hy3) ?_
 refine zTs (Zoq hy4) ?_
 refine zD [2] [false,true] ?_
 exact Yu [.agg (Ze y4)]
theorem Gr {a0:Zj} {r:Int} {O:Objs} {n:Nat} (h:Qi a0=some r):GTo Try.prog 79 [.agg (X4 a0)] O n ((vI r)) O n:=by
 unfold Qi at h
 refine zFn Try.call79 Try.func79 fun hU hN0 hN => ?_
 show W _ _ _ _ ⟨5,[],[(0,.agg (X4 a0))]⟩ (Zv O n []) _
 refine zQ [1] ?_
 refine zQ [2] ?_
 exact Yu [(vI a0.At)]
theorem Zns {a0:Zj} {a1:Zj} {r:(Zj×Bool)} {O:Objs} {n:Nat} (h:Zez a0 a1=some r):GTo Try.prog 18 [.agg (X4 a0),.agg (X4 a1)] O n (.tup [.agg (X4 r.1),(vB r.2)]) O n:=by
 unfold Zez at h
 refine zFn Try.call18 Try.func18 fun hU hN0 hN => ?_
 show W _ _ _ _ ⟨42,[],[(0,.agg (X4 a0)),(1,.agg (X4 a1))]⟩ (Zv O n []) _
 refine zQ [2,3,4] ?_
 refine Zk ?_
 refine Zk ?_
 obtain ⟨y2,hy2,h⟩:=bC h
 refine Vb Z5 (by kernel_rfl) [] (by kernel_rfl) ?_
 refine zS ?_
 refine PCall.of (Zkg hy2) ?_
 refine zS ?_
 refine zD [2,3,4,18] [true,true,true] ?_
 refine Zt (t:=((IntKind.u64.wrap (Zdg .u64 (IntKind.u64.wrap (Zh2 .u64 a0.New a1.Old)) y2)) != 0)) rfl (fun c7 => ?_) (fun c7 => ?_)
 ·replace h:=Zs c7 h
  refine Zk ?_
  refine zRd [4,5] [false,false,true] ?_
  exact Yu [.agg [(vI 0),.val (.int .u8 0),.val (.int .u64 0),.val (.int .u64 0)],(vB false)]
 replace h:=Zr c7 h
 refine Kq [2,3,4] [true,true,true] ?_
 refine Zk ?_
 obtain ⟨y5,hy5,h⟩:=bC h
 obtain ⟨y6,hy6,h⟩:=bC h
 refine Zkd Z5 (by kernel_rfl) [false,false,false,false,false,false,false,false,false,false,false,false,false,false,false,false,false,false,false,false,false,false,true,false] [] (by kernel_rfl) ?_
 refine zS ?_
 refine PCall.of (Zor hy5) ?_
 refine zS ?_
 refine PCall.of (Zor hy6) ?_
 refine zS ?_
 refine zD [4,5] [false,false,true] ?_
 exact Yu [.agg [(vI a0.At),.val (.int .u8 (IntKind.u8.wrap (Zq3 .u8 a0.Mask a1.Mask))),.val (.int .u64 y5),.val (.int .u64 y6)],(vB true)]
theorem Ze7 {a0:(List Zj)} {a1:(List Zj)} {r:((List Zj)×Bool)} {O:Objs} {n:Nat} (h:Qc a0 a1=some r):GTo Try.prog 78 [(sL Zg a0),(sL Zg a1),.fn 79 0 [],.fn 18 0 []] O n (.tup [(sL Zg r.1),(vB r.2)]) O n:=by
 unfold Qc at h
 refine zFn Try.call78 Try.func78 fun hU hN0 hN => ?_
 show W _ _ _ _ ⟨87,[],[(0,(sL Zg a0)),(1,(sL Zg a1)),(2,.fn 79 0 []),(3,.fn 18 0 [])]⟩ (Zv O n []) _
 refine zQ [0,1,2,3] ?_
 refine zQ [0,1,2,3,10] ?_
 refine Zk ?_
 refine zD [0,1,2,3,10] [] ?_
 refine J9 (E':=(⟨87,[],[(0,(sL Zg a0)),(1,(sL Zg a1)),(2,.fn 79 0 []),(3,.fn 18 0 []),(10,.row n ([]:List Zj).length)]⟩:Env)) (O':=(Zv O n [some (oR 42 4 Zg ([]:List Zj)),none])) (n':=(n+2)) ?_ ?_
 ·refine Fit2.trans (E':=(⟨87,[],[(0,(sL Zg a0)),(1,(sL Zg a1)),(2,.fn 79 0 []),(3,.fn 18 0 []),(10,nV)]⟩:Env)) (O':=(Zv O n [])) (n':=n) (Fit2.of (Yd hU rfl rfl ?_) (by omega)) ?_
  ·exact zSe
  refine Fit2.trans (Zkj 10 42 4 rfl (by omega)) ?_
  simp only [Xp,Yz,Un,K7,List.set_cons_zero,List.set_cons_succ,List.cons_append,List.nil_append,List.length_cons,List.length_nil,Nat.zero_add,Nat.reduceAdd,Nat.reduceLT,Nat.add_assoc]
  refine Fit2.trans (E':=(⟨87,[],[(0,(sL Zg a0)),(1,(sL Zg a1)),(2,.fn 79 0 []),(3,.fn 18 0 []),(10,.row n ([]:List Zj).length)]⟩:Env)) (O':=(Zv O n [some (oR 42 4 Zg ([]:List Zj))])) (n':=(n+1)) (Fit2.of (Yd hU rfl rfl ?_) (by omega)) ?_
  ·exact zSe
  refine J8 (k:=1) (k':=2) hU [0] [0,0] rfl rfl rfl rfl ⟨rfl,rfl⟩ ?_
  exact zSe
 obtain ⟨z36,hz36,h⟩:=bC h
 refine Zbd (J:=(Qn (fun z36=>JR n (⟨87,[],[(8,nV),(9,(vB false))]⟩:Env) (Zv O n []) n) (fun z36=>JX 0 n (⟨87,[],[(0,(sL Zg z36.1)),(1,(sL Zg z36.2.1)),(10,.row n z36.2.2.length)]⟩:Env) (Zv O n [some (oR 42 4 Zg z36.2.2),none]) (n+2)))) (z:=z36) ?_ fun hw => ?_
 ·refine Xj hz36 (fun s0_=>⟨87,[],[(0,(sL Zg s0_.1)),(1,(sL Zg s0_.2.1)),(2,.fn 79 0 []),(3,.fn 18 0 []),(10,.row n s0_.2.2.length)]⟩) (fun s0_=>(Zv O n [some (oR 42 4 Zg s0_.2.2),none])) (Qn (fun z36=>JR n (⟨87,[],[(8,nV),(9,(vB false))]⟩:Env) (Zv O n []) n) (fun z36=>JX 0 n (⟨87,[],[(0,(sL Zg z36.1)),(1,(sL Zg z36.2.1)),(10,.row n z36.2.2.length)]⟩:Env) (Zv O n [some (oR 42 4 Zg z36.2.2),none]) (n+2))) ?_
  intro s0_ x0_ hs0_
  unfold Y5 at hs0_
  try dsimp only
  refine Zk ?_
  refine zQD [0,1,2,3,10,20] [none,none,none] ?_
  refine Zt (t:=(cond (decide (0 < (s0_.1.length:Int))) (decide (0 < (s0_.2.1.length:Int))) false)) rfl (fun c35 => ?_) (fun c35 => ?_)
  ·replace hs0_:=Zs c35 hs0_
   refine Kq [0,1,2,3,10] [true,false] ?_
   refine Ya ?_
   refine Ya ?_
   refine Zk ?_
   obtain ⟨x5,hx5,ax5,bx5,cx5,hs0_⟩:=bE (f:=Zg) Zhk (fun _=>rfl) (by decide) hs0_
   obtain ⟨y6,hy6,hs0_⟩:=bC hs0_
   obtain ⟨x7,hx7,ax7,bx7,cx7,hs0_⟩:=bE (f:=Zg) Zhk (fun _=>rfl) (by decide) hs0_
   obtain ⟨y8,hy8,hs0_⟩:=bC hs0_
   refine Vb Z5 (by kernel_rfl) [] (by kernel_rfl) ?_
   refine zF6 ax5 bx5 cx5 ax7 bx7 cx7 ?_
   refine PCall.of (Gr hy6) ?_
   refine zF6 ax5 bx5 cx5 ax7 bx7 cx7 ?_
   refine PCall.of (Gr hy8) ?_
   refine zF6 ax5 bx5 cx5 ax7 bx7 cx7 ?_
   refine zD [0,1,2,3,10,42] [true,false] ?_
   refine Zt (t:=(decide (y6 < y8))) rfl (fun c34 => ?_) (fun c34 => ?_)
   ·replace hs0_:=Zs c34 hs0_
    obtain ⟨x9,hx9,ax9,bx9,cx9,hs0_⟩:=bE (f:=Zg) Zhk (fun _=>rfl) (by decide) hs0_
    obtain ⟨l10,al10,bl10,cl10,gl10,hs0_⟩:=bS (lo:=(some (.i64,1))) (hi:=none) (f:=Zg) rfl rfl Znk Zhk (fun _=>rfl) hs0_
    obtain ⟨l11,pl11,ql11,el11,hs0_⟩:=bA (k:=1) rfl hs0_
    refine Jv Z5 (by kernel_rfl) [.plain,.plain,.plain,.plain,.pass,.pass,.plain,.low,.plain,.plain] (fun i=>i < (n+2)∧¬ i=n) [0,1,2,3,6,7,4,5,8,9] [.plain,.plain,.plain,.plain,.plain,.low,.pass,.pass,.plain,.plain] [] (by kernel_rfl) rfl ?_
    refine Yhf ax9 bx9 cx9 al10 bl10 cl10 gl10 pl11 ql11 el11 ?_
    refine zO ?_
    have hs0_:=Option.some.inj hs0_;subst hs0_
    refine And.intro rfl (Fit2.of (Yd hU rfl rfl ?_) (by omega))
    exact Ya3 ax9 bx9 cx9 al10 bl10 cl10 gl10 pl11 ql11 el11
   replace hs0_:=Zr c34 hs0_
   refine Zk ?_
   obtain ⟨x16,hx16,ax16,bx16,cx16,hs0_⟩:=bE (f:=Zg) Zhk (fun _=>rfl) (by decide) hs0_
   obtain ⟨y17,hy17,hs0_⟩:=bC hs0_
   obtain ⟨x18,hx18,ax18,bx18,cx18,hs0_⟩:=bE (f:=Zg) Zhk (fun _=>rfl) (by decide) hs0_
   obtain ⟨y19,hy19,hs0_⟩:=bC hs0_
   refine Vb Z5 (by kernel_rfl) [] (by kernel_rfl) ?_
   refine zF6 ax16 bx16 cx16 ax18 bx18 cx18 ?_
   refine PCall.of (Gr hy17) ?_
   refine zF6 ax16 bx16 cx16 ax18 bx18 cx18 ?_
   refine PCall.of (Gr hy19) ?_
   refine zF6 ax16 bx16 cx16 ax18 bx18 cx18 ?_
   refine zD [0,1,2,3,10,62] [true,false] ?_
   refine Zt (t:=(decide (y17 < y19))) rfl (fun c33 => ?_) (fun c33 => ?_)
   ·replace hs0_:=Zs c33 hs0_
    obtain ⟨x20,hx20,ax20,bx20,cx20,hs0_⟩:=bE (f:=Zg) Zhk (fun _=>rfl) (by decide) hs0_
    obtain ⟨l21,al21,bl21,cl21,gl21,hs0_⟩:=bS (lo:=(some (.i64,1))) (hi:=none) (f:=Zg) rfl rfl Znk Zhk (fun _=>rfl) hs0_
    obtain ⟨l22,pl22,ql22,el22,hs0_⟩:=bA (k:=1) rfl hs0_
    refine Jv Z5 (by kernel_rfl) [.plain,.plain,.plain,.plain,.pass,.pass,.plain,.low,.plain,.plain] (fun i=>i < (n+2)∧¬ i=n) [0,1,2,3,6,7,4,5,8,9] [.plain,.plain,.plain,.plain,.plain,.low,.pass,.pass,.plain,.plain] [] (by kernel_rfl) rfl ?_
    refine Yhf ax20 bx20 cx20 al21 bl21 cl21 gl21 pl22 ql22 el22 ?_
    refine zO ?_
    have hs0_:=Option.some.inj hs0_;subst hs0_
    refine And.intro rfl (Fit2.of (Yd hU rfl rfl ?_) (by omega))
    exact Ya3 ax20 bx20 cx20 al21 bl21 cl21 gl21 pl22 ql22 el22
   replace hs0_:=Zr c33 hs0_
   refine Zk ?_
   obtain ⟨x26,hx26,ax26,bx26,cx26,hs0_⟩:=bE (f:=Zg) Zhk (fun _=>rfl) (by decide) hs0_
   obtain ⟨x27,hx27,ax27,bx27,cx27,hs0_⟩:=bE (f:=Zg) Zhk (fun _=>rfl) (by decide) hs0_
   obtain ⟨y28,hy28,hs0_⟩:=bC hs0_
   refine Jv Z5 (by kernel_rfl) [.plain,.plain,.low,.low,.plain,.low,.low,.low,.plain,.plain,.plain,.pass,.bar,.plain] (fun i=>i < (n+2)) [0,1,2,3,4,5,6,7,8,9,10,11,12,13] [.plain,.plain,.low,.low,.plain,.low,.low,.low,.plain,.plain,.plain,.pass,.bar,.plain] [] (by kernel_rfl) rfl ?_
   refine zF6 ax26 bx26 cx26 ax27 bx27 cx27 ?_
   refine zO ?_
   first | refine PCallA.of (fun _ _=>Zns hy28) ?_ | refine PCall.of (Zns hy28) ?_
   refine zF6 ax26 bx26 cx26 ax27 bx27 cx27 ?_
   refine zO ?_
   refine zDs [0,1,2,3,10,11,12] [true,false,true] ?_
   refine zQ [0,1,2,3,10,11,33] ?_
   refine Zt (t:=(!y28.2)) rfl (fun c32 => ?_) (fun c32 => ?_)
   ·replace hs0_:=Zs c32 hs0_
    refine zQ [8,9] ?_
    refine zW ?_
    exact zEy hs0_
   replace hs0_:=Zr c32 hs0_
   refine Kq [0,1,2,3,10,11] [true,false,true] ?_
   obtain ⟨l29,al29,bl29,cl29,gl29,hs0_⟩:=bS (lo:=(some (.i64,1))) (hi:=none) (f:=Zg) rfl rfl Znk Zhk (fun _=>rfl) hs0_
   obtain ⟨l30,al30,bl30,cl30,gl30,hs0_⟩:=bS (lo:=(some (.i64,1))) (hi:=none) (f:=Zg) rfl rfl Znk Zhk (fun _=>rfl) hs0_
   obtain ⟨l31,pl31,ql31,el31,hs0_⟩:=bA (k:=1) rfl hs0_
   refine Jv Z5 (by kernel_rfl) [.plain,.plain,.pass,.pass,.plain,.low,.plain,.low,.plain,.plain,.plain] (fun i=>i < (n+3)∧¬ i=n) [0,1,4,5,6,7,2,3,8,9,10] [.plain,.plain,.plain,.low,.plain,.low,.pass,.pass,.plain,.plain,.plain] [] (by kernel_rfl) rfl ?_
   simp only [push_cast,seval,↓reduceIte,Zo,al29,bl29,cl29,gl29,al30,bl30,cl30,gl30,pl31,ql31,el31,hN0,hN]
   refine zO ?_
   have hs0_:=Option.some.inj hs0_;subst hs0_
   refine And.intro rfl (Fit2.of (Yd hU rfl rfl ?_) (by omega))
   simp only [push_cast,seval,↓reduceIte,Zo,al29,bl29,cl29,gl29,al30,bl30,cl30,gl30,pl31,ql31,el31,hN0,hN]
  replace hs0_:=Zr c35 hs0_
  exact zEx hs0_
 rcases z36 with z36 | z36
 ·dsimp only [Qn] at hw h
  refine Ke hw ?_
  try simp only [Xe,Yi,↓reduceIte,Nat.reduceEqDiff]
  exact Zll [nV,(vB false)]
 dsimp only [Qn] at hw h
 refine Yy hw ?_
 try simp only [Xe,Yi,↓reduceIte,Nat.reduceEqDiff]
 refine zDs [0,1,10] [true,false] ?_
 obtain ⟨l39,pl39,ql39,el39,h⟩:=bA (k:=z36.1.length) rfl h
 obtain ⟨l40,pl40,ql40,el40,h⟩:=bA (k:=z36.2.1.length) rfl h
 try simp only [el39,List.length_append,Nat.add_assoc] at pl40 ql40
 refine Xf Z5 [] ?_
 simp only [push_cast,seval,↓reduceIte,Zo,pl39,ql39,el39,pl40,ql40,el40,List.append_assoc,hN0,hN]
 refine Zbc ⟨87,[],[(8,.row n l40.length),(9,(vB true))]⟩ (Zv O n [some (oR 42 4 Zg l40),none]) (Yd hU rfl rfl ?_) ?_
 ·simp only [push_cast,seval,↓reduceIte,Zo,pl39,ql39,el39,pl40,ql40,el40,List.append_assoc,hN0,hN]
 exact Yu [.row n l40.length,(vB true)]
theorem Gs {a0:Zd} {r:Int} {O:Objs} {n:Nat} (h:Qj a0=some r):GTo Try.prog 81 [.agg (Xt a0)] O n ((vI r)) O n:=by
 unfold Qj at h
 refine zFn Try.call81 Try.func81 fun hU hN0 hN => ?_
 show W _ _ _ _ ⟨5,[],[(0,.agg (Xt a0))]⟩ (Zv O n []) _
 refine zQ [1] ?_
 refine zQ [2] ?_
 exact Yu [(vI a0.At)]
theorem Z0c {a0:Zh} {r:Int} {O:Objs} {n:Nat} (h:Zh3 a0=some r):GTo Try.prog 134 [.agg (Yg a0)] O n ((vI r)) O n:=by
 unfold Zh3 at h
 refine zFn Try.call134 Try.func134 fun hU hN0 hN => ?_
 show W _ _ _ _ ⟨15,[],[(0,.agg (Yg a0))]⟩ (Zv O n []) _
 refine zQ [1] ?_
 refine Zk ?_
 refine zQ [1,4] ?_
 refine Ya ?_
 refine zQ [1,4,5] ?_
 refine Zt (t:=(a0.Kind == 0)) rfl (fun c4 => ?_) (fun c4 => ?_)
 ·replace h:=Zs c4 h
  refine zQ [2] ?_
  exact Yu [(vI a0.N)]
 replace h:=Zr c4 h
 obtain ⟨z1,hz1,h⟩:=bC h
 refine Xl (E':=⟨15,[],[(1,.ref n 0),(9,(vB z1))]⟩) (O':=(Zv O n [some ⟨false,53,14,1,(Yg a0)⟩])) (n0:=(n+1)) ?_ ?_
 ·refine zQ [1,4,9] ?_
  refine Zt (t:=(a0.Kind == 1)) rfl (fun c2 => ?_) (fun c2 => ?_)
  ·replace hz1:=Zs c2 hz1
   refine zK ?_
   exact zEn hz1
  replace hz1:=Zr c2 hz1
  refine zR ?_
  exact zEn hz1
 refine Zt (t:=z1) rfl (fun c3 => ?_) (fun c3 => ?_)
 ·replace h:=Zs c3 h
  refine zQ [2] ?_
  exact Yu [(vI (a0.L.length:Int))]
 replace h:=Zr c3 h
 refine Kq [] [false] ?_
 refine zQ [2] ?_
 exact Yu [(vI 1)]
theorem Zjs {a0:Xc} {r:(Int×Int×Xc)} {O:Objs} {n:Nat} {i0:Nat} (hi0:i0 < n) (ho0:O i0=some ⟨false,140,2,1,[(sL Zf a0.left),(vI a0.gone)]⟩) (h:Yx a0=some r):GTo Try.prog 129 [.ref i0 0] O n (.tup [(vI r.1),(vI r.2.1)]) (Zv (O.upd i0 (some ⟨false,140,2,1,[(sL Zf r.2.2.left),(vI r.2.2.gone)]⟩)) n []) (n+0):=by
 unfold Yx at h
 refine Znp Z5 Try.call129 Try.func129 rfl (Nat.le_of_ble_eq_true rfl) (by omega) fun hU => ?_
 rw [show Zv O n []=Zv (O.upd i0 (some ⟨false,140,2,1,[(sL Zf a0.left),(vI a0.gone)]⟩)) n [] from by rw [Z6v (show O i0=_ from by exact ho0)]]
 have hk0:∀ k,i0 < n+k:=fun k=>by omega
 have hN0:∀ o,Objs.upd O i0 o n=none:=fun o=>Jp hU hi0 _ (Nat.le_refl _)
 have hN:∀ o k,Objs.upd O i0 o (n+k)=none:=fun o k=>Jp hU hi0 _ (Nat.le_add_right _ _)
 show W _ _ _ _ ⟨44,[],[(0,.ref i0 0)]⟩ (Zv (O.upd i0 (some ⟨false,140,2,1,[(sL Zf a0.left),(vI a0.gone)]⟩)) n []) _
 refine Zc5 [0] hi0 hk0 ?_
 refine Zk ?_
 refine zD [0] [] ?_
 obtain ⟨z12,hz12,h⟩:=bC h
 refine Zbd (J:=(Qn (fun z12=>JR n (⟨44,[],[(2,(vI z12.1)),(3,(vI z12.2.1))]⟩:Env) (Zv (O.upd i0 (some ⟨false,140,2,1,[(sL Zf z12.2.2.1),(vI z12.2.2.2)]⟩)) n []) n) (fun z12=>JX 0 n (⟨44,[],[]⟩:Env) (Zv (O.upd i0 (some ⟨false,140,2,1,[(sL Zf z12.1),(vI z12.2)]⟩)) n []) n))) (z:=z12) ?_ fun hw => ?_
 ·refine Xj hz12 (fun s0_=>⟨44,[],[(0,.ref i0 0)]⟩) (fun s0_=>(Zv (O.upd i0 (some ⟨false,140,2,1,[(sL Zf s0_.1),(vI s0_.2)]⟩)) n [])) (Qn (fun z12=>JR n (⟨44,[],[(2,(vI z12.1)),(3,(vI z12.2.1))]⟩:Env) (Zv (O.upd i0 (some ⟨false,140,2,1,[(sL Zf z12.2.2.1),(vI z12.2.2.2)]⟩)) n []) n) (fun z12=>JX 0 n (⟨44,[],[]⟩:Env) (Zv (O.upd i0 (some ⟨false,140,2,1,[(sL Zf z12.1),(vI z12.2)]⟩)) n []) n)) ?_
  intro s0_ x0_ hs0_
  unfold Jr at hs0_
  try dsimp only
  refine Zk ?_
  refine Zc5 [0,10] hi0 hk0 ?_
  refine Zt (t:=(decide (0 < (s0_.1.length:Int)))) rfl (fun c11 => ?_) (fun c11 => ?_)
  ·replace hs0_:=Zs c11 hs0_
   refine Kq [0] [] ?_
   refine Ya ?_
   refine Zk ?_
   refine Zk ?_
   obtain ⟨x3,hx3,ax3,bx3,cx3,hs0_⟩:=bE (f:=Zf) Zel (fun _=>rfl) (by decide) hs0_
   obtain ⟨y4,hy4,hs0_⟩:=bC hs0_
   refine Vb Z5 (by kernel_rfl) [] (by kernel_rfl) ?_
   refine zF5 ax3 bx3 cx3 hi0 hk0 ?_
   refine PCall.of (Z0c hy4) ?_
   refine zF5 ax3 bx3 cx3 hi0 hk0 ?_
   refine zD [0,4] [] ?_
   refine Zc5 [0,4,24] hi0 hk0 ?_
   refine Zt (t:=(decide (0 < (IntKind.i64.wrap (y4 - s0_.2))))) rfl (fun c10 => ?_) (fun c10 => ?_)
   ·replace hs0_:=Zs c10 hs0_
    obtain ⟨x7,hx7,ax7,bx7,cx7,hs0_⟩:=bE (f:=Zf) Zel (fun _=>rfl) (by decide) hs0_
    have g8:=Zqu (f:=Zf) (sz:=14) Z6p (fun _=>rfl) (by decide) (by decide) hx7
    refine Zqh [2,3] (Xf Z5 [] ?_)
    refine zF6 ax7 bx7 cx7 g8 hi0 hk0 ?_
    refine zW ?_
    have hs0_:=Option.some.inj hs0_;subst hs0_
    refine And.intro (fun h=>by cases h) (And.intro rfl (Fit2.of (Yh hU rfl rfl ?_) (by omega)))
    exact Jn hi0 hk0
   replace hs0_:=Zr c10 hs0_
   refine Kq [0] [] ?_
   obtain ⟨l9,al9,bl9,cl9,gl9,hs0_⟩:=bS (lo:=(some (.i64,1))) (hi:=none) (f:=Zf) rfl rfl Zwd Zel (fun _=>rfl) hs0_
   refine Z62 [] al9 bl9 cl9 gl9 hi0 hk0 ?_
   have hs0_:=Option.some.inj hs0_;subst hs0_
   refine And.intro rfl (Fit2.of (Yh hU rfl rfl ?_) (by omega))
   exact Ykw al9 bl9 cl9 gl9 hi0 hk0
  replace hs0_:=Zr c11 hs0_
  refine zXt ?_
  have hs0_:=Option.some.inj hs0_;subst hs0_
  refine And.intro (fun h=>by cases h) (And.intro rfl (Fit2.of (Yh hU rfl rfl ?_) (by omega)))
  exact Jn hi0 hk0
 rcases z12 with z12 | z12
 ·dsimp only [Qn] at hw h
  refine Ke hw ?_
  try simp only [Xe,Yi,↓reduceIte,Nat.reduceEqDiff]
  have h:=Option.some.inj h;subst h
  refine Ko (k:=0) (i:=i0) (q1:=⟨false,140,2,1,[(sL Zf z12.2.2.1),(vI z12.2.2.2)]⟩) (L3:=[none]) (E2:=(⟨44,[],[(2,(vI z12.1)),(3,(vI z12.2.1))]⟩:Env)) (n3:=(n+1)) (.inr rfl) hU rfl [(vI z12.1),(vI z12.2.1)] ?_ ?_
  ·refine Fit2.trans (E':=(⟨44,[],[(2,(vI z12.1)),(3,(vI z12.2.1))]⟩:Env)) (O':=(Zv (O.upd i0 (some ⟨false,140,2,1,[(sL Zf z12.2.2.1),(vI z12.2.2.2)]⟩)) n [])) (n':=n) (Fit2.of (Yh hU rfl rfl ?_) (by omega)) ?_
   ·exact Jn hi0 hk0
   refine Q4 (k:=0) (k':=1) hU [] [0] rfl rfl rfl rfl ⟨rfl,rfl⟩ ?_
   exact Jn hi0 hk0
  simp only [push_cast,seval,↓reduceIte,Zo,Try.results129,hi0,hk0,hN0,hN]
 dsimp only [Qn] at hw h
 refine Yy hw ?_
 try simp only [Xe,Yi,↓reduceIte,Nat.reduceEqDiff]
 refine zD [] [] ?_
 refine Zc5 [2,3] hi0 hk0 ?_
 refine zW ?_
 have h:=Option.some.inj h;subst h
 refine Ko (k:=0) (i:=i0) (q1:=⟨false,140,2,1,[(sL Zf z12.1),(vI z12.2)]⟩) (L3:=[none]) (E2:=(⟨44,[],[(2,(vI 0)),(3,(vI 0))]⟩:Env)) (n3:=(n+1)) (.inr rfl) hU rfl [(vI 0),(vI 0)] ?_ ?_
 ·refine Fit2.trans (E':=(⟨44,[],[(2,(vI 0)),(3,(vI 0))]⟩:Env)) (O':=(Zv (O.upd i0 (some ⟨false,140,2,1,[(sL Zf z12.1),(vI z12.2)]⟩)) n [])) (n':=n) (Fit2.of (Yh hU rfl rfl ?_) (by omega)) ?_
  ·exact Jn hi0 hk0
  refine Q4 (k:=0) (k':=1) hU [] [0] rfl rfl rfl rfl ⟨rfl,rfl⟩ ?_
  exact Jn hi0 hk0
 simp only [push_cast,seval,↓reduceIte,Zo,Try.results129,hi0,hk0,hN0,hN]
theorem Zbu {a0:Xc} {a1:Int} {r:(Zh×Xc)} {O:Objs} {n:Nat} {i0:Nat} (hi0:i0 < n) (ho0:O i0=some ⟨false,140,2,1,[(sL Zf a0.left),(vI a0.gone)]⟩) (h:J0 a0 a1=some r):GTo Try.prog 130 [.ref i0 0,(vI a1)] O n (.agg (Yg r.1)) (Zv (O.upd i0 (some ⟨false,140,2,1,[(sL Zf r.2.left),(vI r.2.gone)]⟩)) n []) (n+0):=by
 unfold J0 at h
 refine Znp Z5 Try.call130 Try.func130 rfl (Nat.le_of_ble_eq_true rfl) (by omega) fun hU => ?_
 rw [show Zv O n []=Zv (O.upd i0 (some ⟨false,140,2,1,[(sL Zf a0.left),(vI a0.gone)]⟩)) n [] from by rw [Z6v (show O i0=_ from by exact ho0)]]
 have hk0:∀ k,i0 < n+k:=fun k=>by omega
 have hN0:∀ o,Objs.upd O i0 o n=none:=fun o=>Jp hU hi0 _ (Nat.le_refl _)
 have hN:∀ o k,Objs.upd O i0 o (n+k)=none:=fun o k=>Jp hU hi0 _ (Nat.le_add_right _ _)
 show W _ _ _ _ ⟨50,[],[(0,.ref i0 0),(1,(vI a1))]⟩ (Zv (O.upd i0 (some ⟨false,140,2,1,[(sL Zf a0.left),(vI a0.gone)]⟩)) n []) _
 refine Zc5 [0,1,4] hi0 hk0 ?_
 refine Zk ?_
 obtain ⟨x2,hx2,ax2,bx2,cx2,h⟩:=bE (f:=Zf) Zel (fun _=>rfl) (by decide) h
 refine Z61 [] ax2 bx2 cx2 hi0 hk0 ?_
 refine zD [0,1,4,5] [true,true] ?_
 obtain ⟨z3,hz3,h⟩:=bC h
 refine Xl (E':=⟨50,[],[(0,.ref i0 0),(1,(vI a1)),(4,.ref n 0),(5,.ref (n+1) 0)]⟩) (O':=(Zv (O.upd i0 (some ⟨false,140,2,1,[(sL Zf a0.left),(vI a0.gone)]⟩)) n [some ⟨false,53,14,1,[(vI 0),(vI 0),nV,(vI 0),(vI 0),nV,nV,(vI 0),nV,nV,nV,nV,(vI 0),nV]⟩,some ⟨false,53,14,1,[(vI x2.Kind),(vI z3.1),(sL Za z3.2),(vI x2.E.Kind),(vI x2.E.Old.Kind),(sL (eI .u64) x2.E.Old.Words),(sL Za x2.E.Old.Kids),(vI x2.E.New.Kind),(sL (eI .u64) x2.E.New.Words),(sL Za x2.E.New.Kids),(sL Zg x2.E.Words),(sL Zi x2.E.Kids),(vI x2.E.List_),(sL Zf x2.E.Ops)]⟩])) (n0:=(n+2)) ?_ ?_
 ·refine Zc5 [0,1,4,5,13] hi0 hk0 ?_
  refine Ya ?_
  refine Zc5 [0,1,4,5,13,14] hi0 hk0 ?_
  refine Zt (t:=(x2.Kind == 0)) rfl (fun c8 => ?_) (fun c8 => ?_)
  ·replace hz3:=Zs c8 hz3
   refine K1 [] hi0 hk0 ?_
   have hz3:=Option.some.inj hz3;subst hz3
   refine And.intro rfl (Fit2.of (Yh hU rfl rfl ?_) (by omega))
   exact Jn hi0 hk0
  replace hz3:=Zr c8 hz3
  obtain ⟨z4,hz4,hz3⟩:=bC hz3
  refine Xl (E':=⟨50,[],[(0,.ref i0 0),(1,(vI a1)),(4,.ref n 0),(5,.ref (n+1) 0),(18,(vB z4))]⟩) (O':=(Zv (O.upd i0 (some ⟨false,140,2,1,[(sL Zf a0.left),(vI a0.gone)]⟩)) n [some ⟨false,53,14,1,[(vI 0),(vI 0),nV,(vI 0),(vI 0),nV,nV,(vI 0),nV,nV,nV,nV,(vI 0),nV]⟩,some ⟨false,53,14,1,(Yg x2)⟩])) (n0:=(n+2)) ?_ ?_
  ·refine Zc5 [0,1,4,5,13,18] hi0 hk0 ?_
   refine Zt (t:=(x2.Kind == 1)) rfl (fun c5 => ?_) (fun c5 => ?_)
   ·replace hz4:=Zs c5 hz4
    refine zK ?_
    have hz4:=Option.some.inj hz4;subst hz4
    refine And.intro rfl (Fit2.of (Yh hU rfl rfl ?_) (by omega))
    exact Jn hi0 hk0
   replace hz4:=Zr c5 hz4
   refine K1 [] hi0 hk0 ?_
   have hz4:=Option.some.inj hz4;subst hz4
   refine And.intro rfl (Fit2.of (Yh hU rfl rfl ?_) (by omega))
   exact Jn hi0 hk0
  refine Zt (t:=z4) rfl (fun c7 => ?_) (fun c7 => ?_)
  ·replace hz3:=Zs c7 hz3
   obtain ⟨l6,al6,bl6,cl6,gl6,hz3⟩:=bS3 (lo:=(some (.i64,a0.gone))) (hi:=(.i64,(IntKind.i64.wrap (a0.gone+a1)))) (f:=Za) rfl rfl Zih Zac (fun _=>rfl) hz3
   refine Zkd Z5 (by kernel_rfl) [false,false,false,false,false,false,false,false,false,false,false,false,false,false,false,false,false,false,false,false,true] [] (by kernel_rfl) ?_
   refine zX6 al6 bl6 cl6 gl6 hi0 hk0 ?_
   have hz3:=Option.some.inj hz3;subst hz3
   refine And.intro rfl (Fit2.of (Yh hU rfl rfl ?_) (by omega))
   exact Ykw al6 bl6 cl6 gl6 hi0 hk0
  replace hz3:=Zr c7 hz3
  refine zK ?_
  have hz3:=Option.some.inj hz3;subst hz3
  refine And.intro rfl (Fit2.of (Yh hU rfl rfl ?_) (by omega))
  exact Jn hi0 hk0
 refine Zk ?_
 refine K1 [] hi0 hk0 ?_
 refine zDs [4,5] [true,true] ?_
 refine K1 [] hi0 hk0 ?_
 refine zD [4] [true,false] ?_
 refine zW ?_
 have h:=Option.some.inj h;subst h
 refine Ko (k:=0) (i:=i0) (q1:=⟨false,140,2,1,[(sL Zf a0.left),(vI (IntKind.i64.wrap (a0.gone+a1)))]⟩) (L3:=[some ⟨false,53,14,1,[(vI x2.Kind),(vI z3.1),(sL Za z3.2),(vI x2.E.Kind),(vI x2.E.Old.Kind),(sL (eI .u64) x2.E.Old.Words),(sL Za x2.E.Old.Kids),(vI x2.E.New.Kind),(sL (eI .u64) x2.E.New.Words),(sL Za x2.E.New.Kids),(sL Zg x2.E.Words),(sL Zi x2.E.Kids),(vI x2.E.List_),(sL Zf x2.E.Ops)]⟩,none]) (E2:=(⟨50,[],[(4,.ref n 0)]⟩:Env)) (n3:=(n+2)) (.inr rfl) hU rfl [.agg [(vI x2.Kind),(vI z3.1),(sL Za z3.2),(vI x2.E.Kind),(vI x2.E.Old.Kind),(sL (eI .u64) x2.E.Old.Words),(sL Za x2.E.Old.Kids),(vI x2.E.New.Kind),(sL (eI .u64) x2.E.New.Words),(sL Za x2.E.New.Kids),(sL Zg x2.E.Words),(sL Zi x2.E.Kids),(vI x2.E.List_),(sL Zf x2.E.Ops)]] ?_ ?_
 ·refine Fit2.trans (E':=(⟨50,[],[(4,.ref n 0)]⟩:Env)) (O':=(Zv (O.upd i0 (some ⟨false,140,2,1,[(sL Zf a0.left),(vI (IntKind.i64.wrap (a0.gone+a1)))]⟩)) n [some ⟨false,53,14,1,[(vI x2.Kind),(vI z3.1),(sL Za z3.2),(vI x2.E.Kind),(vI x2.E.Old.Kind),(sL (eI .u64) x2.E.Old.Words),(sL Za x2.E.Old.Kids),(vI x2.E.New.Kind),(sL (eI .u64) x2.E.New.Words),(sL Za x2.E.New.Kids),(sL Zg x2.E.Words),(sL Zi x2.E.Kids),(vI x2.E.List_),(sL Zf x2.E.Ops)]⟩,none])) (n':=(n+2)) (Fit2.of (Yh hU rfl rfl ?_) (by omega)) ?_
  ·exact Jn hi0 hk0
  refine Q4 (k:=2) (k':=2) hU [0,1] [0,0] rfl rfl rfl rfl ⟨rfl,rfl⟩ ?_
  exact Jn hi0 hk0
 simp only [push_cast,seval,↓reduceIte,Zo,Try.results130,hi0,hk0,hN0,hN]
theorem Zvn {a0:(List Zh)} {a1:(List Zh)} {a2:Int} {a3:Int} {r:((List Zy)×Bool)} {O:Objs} {n:Nat} (h:Zh4 a0 a1 a2 a3=some r):GTo Try.prog 118 [(sL Zf a0),(sL Zf a1),(vI a2),(vI a3)] O n (.tup [(sL Z6 r.1),(vB r.2)]) O n:=by
 unfold Zh4 at h
 refine zFn Try.call118 Try.func118 fun hU hN0 hN => ?_
 show W _ _ _ _ ⟨83,[],[(0,(sL Zf a0)),(1,(sL Zf a1)),(2,(vI a2)),(3,(vI a3))]⟩ (Zv O n []) _
 refine zQ [0,1,2,3] ?_
 refine zQ [0,1,2,3,10] ?_
 refine Zk ?_
 refine zRd [2,3,10,11,12] [true,true] ?_
 refine zD [2,3,10,11,12] [true,true] ?_
 refine J9 (E':=(⟨83,[],[(2,(vI a2)),(3,(vI a3)),(10,.row (n+2) ([]:List Zy).length),(11,.ref n 0),(12,.ref (n+1) 0)]⟩:Env)) (O':=(Zv O n [some ⟨false,140,2,1,[(sL Zf a0),(vI 0)]⟩,some ⟨false,140,2,1,[(sL Zf a1),(vI 0)]⟩,some (oR 94 29 Z6 ([]:List Zy)),none])) (n':=(n+4)) ?_ ?_
 ·refine Fit2.trans (E':=(⟨83,[],[(2,(vI a2)),(3,(vI a3)),(10,nV),(11,.ref n 0),(12,.ref (n+1) 0)]⟩:Env)) (O':=(Zv O n [some ⟨false,140,2,1,[(sL Zf a0),(vI 0)]⟩,some ⟨false,140,2,1,[(sL Zf a1),(vI 0)]⟩])) (n':=(n+2)) (Fit2.of (Yd hU rfl rfl ?_) (by omega)) ?_
  ·exact zSe
  refine Fit2.trans (Zkj 10 94 29 rfl (by omega)) ?_
  simp only [Xp,Yz,Un,K7,List.set_cons_zero,List.set_cons_succ,List.cons_append,List.nil_append,List.length_cons,List.length_nil,Nat.zero_add,Nat.reduceAdd,Nat.reduceLT,Nat.add_assoc]
  refine Fit2.trans (E':=(⟨83,[],[(2,(vI a2)),(3,(vI a3)),(10,.row (n+2) ([]:List Zy).length),(11,.ref n 0),(12,.ref (n+1) 0)]⟩:Env)) (O':=(Zv O n [some ⟨false,140,2,1,[(sL Zf a0),(vI 0)]⟩,some ⟨false,140,2,1,[(sL Zf a1),(vI 0)]⟩,some (oR 94 29 Z6 ([]:List Zy))])) (n':=(n+3)) (Fit2.of (Yd hU rfl rfl ?_) (by omega)) ?_
  ·exact zSe
  refine J8 (k:=3) (k':=4) hU [0,1,2] [0,1,2,0] rfl rfl rfl rfl ⟨rfl,rfl⟩ ?_
  exact zSe
 obtain ⟨z16,hz16,h⟩:=bC h
 refine Ke (E':=⟨83,[],[(8,(sL Z6 z16.1)),(9,(vB z16.2))]⟩) (O':=(Zv O n [none,none])) (n0:=(n+2)) ?_ ?_
 ·refine Xj hz16 (fun s0_=>⟨83,[],[(2,(vI a2)),(3,(vI a3)),(10,.row (n+2) s0_.2.2.2.2.length),(11,.ref n 0),(12,.ref (n+1) 0)]⟩) (fun s0_=>(Zv O n [some ⟨false,140,2,1,[(sL Zf s0_.1),(vI s0_.2.1)]⟩,some ⟨false,140,2,1,[(sL Zf s0_.2.2.1),(vI s0_.2.2.2.1)]⟩,some (oR 94 29 Z6 s0_.2.2.2.2),none])) (fun z16=>JR n (⟨83,[],[(8,(sL Z6 z16.1)),(9,(vB z16.2))]⟩:Env) (Zv O n [none,none]) (n+2)) ?_
  intro s0_ x0_ hs0_
  unfold Jf at hs0_
  try dsimp only
  refine Ya ?_
  refine Zk ?_
  obtain ⟨y2,hy2,hs0_⟩:=bC hs0_
  refine zR ?_
  refine (Zjs (i0:=n) (by omega) (by simp only [push_cast,seval,↓reduceIte,Zo,Xz,hN0,hN] <;> rfl) hy2).then ?_
  refine zS ?_
  refine zDs [2,3,10,11,12,13,14] [true,true,true,false] ?_
  obtain ⟨y4,hy4,hs0_⟩:=bC hs0_
  refine zR ?_
  refine (Zjs (i0:=(n+1)) (by omega) (by simp only [push_cast,seval,↓reduceIte,Zo,Xz,hN0,hN] <;> rfl) hy4).then ?_
  refine zS ?_
  refine zD [2,3,10,11,12,13,14,15,16] [true,true,true,false] ?_
  refine Ya ?_
  refine zQD [2,3,10,11,12,14,15,16,40] [none,none,none] ?_
  refine Zt (t:=(cond (decide (0 < y2.2.1)) (y2.1 == a2) false)) rfl (fun c15 => ?_) (fun c15 => ?_)
  ·replace hs0_:=Zs c15 hs0_
   obtain ⟨y5,hy5,hs0_⟩:=bC hs0_
   obtain ⟨l6,pl6,ql6,el6,hs0_⟩:=bA (k:=1) rfl hs0_
   refine Zdu [] pl6 ql6 el6 ?_
   refine (Zbu (i0:=n) (by omega) (by simp only [push_cast,seval,↓reduceIte,Zo,Xz,pl6,ql6,el6,hN0,hN] <;> rfl) hy5).then ?_
   refine zX3 pl6 ql6 el6 ?_
   exact Zf3 hs0_ pl6 ql6 el6
  replace hs0_:=Zr c15 hs0_
  refine zQD [2,3,10,11,12,14,16,54] [none,none,none] ?_
  refine Zt (t:=(cond (decide (0 < y4.2.1)) (y4.1 == a3) false)) rfl (fun c14 => ?_) (fun c14 => ?_)
  ·replace hs0_:=Zs c14 hs0_
   obtain ⟨y7,hy7,hs0_⟩:=bC hs0_
   obtain ⟨l8,pl8,ql8,el8,hs0_⟩:=bA (k:=1) rfl hs0_
   refine Zdu [] pl8 ql8 el8 ?_
   refine (Zbu (i0:=(n+1)) (by omega) (by simp only [push_cast,seval,↓reduceIte,Zo,Xz,pl8,ql8,el8,hN0,hN] <;> rfl) hy7).then ?_
   refine zX3 pl8 ql8 el8 ?_
   exact Zf3 hs0_ pl8 ql8 el8
  replace hs0_:=Zr c14 hs0_
  refine zQD [2,3,10,11,12,14,16,68] [none,none] ?_
  refine Zt (t:=(cond (y2.2.1 == 0) (y4.2.1 == 0) false)) rfl (fun c13 => ?_) (fun c13 => ?_)
  ·replace hs0_:=Zs c13 hs0_
   refine zQ [8,9] ?_
   refine zW ?_
   exact zEy hs0_
  replace hs0_:=Zr c13 hs0_
  refine zQD [2,3,10,11,12,14,16,76] [none,none] ?_
  refine Zt (t:=(cond (y2.2.1 == 0) true (y4.2.1 == 0))) rfl (fun c12 => ?_) (fun c12 => ?_)
  ·replace hs0_:=Zs c12 hs0_
   refine zQ [8,9] ?_
   refine zW ?_
   exact zEy hs0_
  replace hs0_:=Zr c12 hs0_
  refine zQ [2,3,10,11,12,14] ?_
  obtain ⟨y9,hy9,hs0_⟩:=bC hs0_
  obtain ⟨y10,hy10,hs0_⟩:=bC hs0_
  obtain ⟨l11,pl11,ql11,el11,hs0_⟩:=bA (k:=1) rfl hs0_
  refine Zdu [] pl11 ql11 el11 ?_
  refine (Zbu (i0:=n) (by omega) (by simp only [push_cast,seval,↓reduceIte,Zo,Xz,pl11,ql11,el11,hN0,hN] <;> rfl) hy9).then ?_
  refine zX3 pl11 ql11 el11 ?_
  refine (Zbu (i0:=(n+1)) (by omega) (by simp only [push_cast,seval,↓reduceIte,Zo,Xz,pl11,ql11,el11,hN0,hN] <;> rfl) hy10).then ?_
  refine zX3 pl11 ql11 el11 ?_
  exact Zf3 hs0_ pl11 ql11 el11
 try simp only [Xe,Yi,↓reduceIte,Nat.reduceEqDiff]
 exact Zll [(sL Z6 z16.1),(vB z16.2)]
theorem Zvm {a0:(List Zh)} {a1:(List Zh)} {r:((List Zy)×Bool)} {O:Objs} {n:Nat} (h:Zay a0 a1=some r):GTo Try.prog 83 [(sL Zf a0),(sL Zf a1)] O n (.tup [(sL Z6 r.1),(vB r.2)]) O n:=by
 unfold Zay at h
 refine zFn Try.call83 Try.func83 fun hU hN0 hN => ?_
 show W _ _ _ _ ⟨11,[],[(0,(sL Zf a0)),(1,(sL Zf a1))]⟩ (Zv O n []) _
 refine zQ [0,1] ?_
 refine Zk ?_
 obtain ⟨y2,hy2,h⟩:=bC h
 refine zCd (Zvn hy2) [4,5] [] ?_
 exact Yu [(sL Z6 y2.1),(vB y2.2)]
end Go.Proofs.Ytbjcopkgdjombaa
