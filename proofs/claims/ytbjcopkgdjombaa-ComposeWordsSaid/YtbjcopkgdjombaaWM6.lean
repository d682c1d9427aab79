/- Part WM6 of this seat's mirrors: functions of the seat's program, and the plain functions that they are; each theorem bears its own conditions. -/
import Derived.Test.YtbjcopkgdjombaaWD
import Derived.Test.YtbjcopkgdjombaaWM4
namespace Go.Proofs.Ytbjcopkgdjombaa
open Go.RowKit
set_option linter.unusedVariables false
set_option linter.unusedSimpArgs false
set_option maxRecDepth 100000
set_option maxHeartbeats 4000000
attribute [local push_cast] Try.results10 Try.results27 Try.results51 Try.results52 Try.results80 Try.results82 Try.results84 Try.results9 vI vB nV sL oR J8 Zk Xk Y1 Zp Zl Ztx Ztw Zuu Zut Xh Yw Zpw Zkr Zkq onW Qf Zds Zco Zpx Zpy Znw Zn0 Znv Znz Zrc Zq9 Zny Zrb Zra Znx Zq7 Zlk evS wok Jh Op.operands Call.operands gop onK onP atK List.all_cons List.all_nil Bool.and_true Bool.true_and Bool.and_self Value.oneCell' List.take_zero List.take_succ_cons List.take_nil List.drop_zero List.drop_succ_cons List.drop_nil List.append_nil Nat.add_zero Nat.zero_add Uj Yt ev Jv Zda Zto Ztn Ztt Ztr Zts Ztp Ztq Ztm Zpt Zr9 Zwn Zi6 Zep Zij Zdy Zm8 Zg3 Ziu Ziz Zkl Zki Zix Zkk Zkj Ziw Zkg Ziv Ziy Zh0 Zkh Zku Zkt Zcp Zjx Zcq Zkp Zi2 Zt2 bLo bHi bMx Zeq Zko Zx5 Zi1 Zka Zgu Zam Zst Zx8 Zjv Zyc Zeo Z1i Zp5 Zp9 Zp4 Zp8 Zue Zub Zt9 Znb Zp6 Zud Zuc Zp7 Zua Zi4 gone Zqt Zle Zld pop TK.isAgg Zuo Zus Zun Zur Zqn Zyl Zyi Zuq Zyk Zyj Zup Zyh G.under G.unders List.getD_cons_zero List.getD_cons_succ List.set_cons_zero List.set_cons_succ List.map_cons List.map_nil List.toList_toArray Array.toList_append Option.toArray_none Option.toArray_some Array.toList_map Option.map_some Option.map_none Option.bind_some Option.bind_none List.getElem?_cons_zero List.getElem?_cons_succ List.getElem?_nil List.nil_append List.cons_append List.replicate_succ List.replicate_zero List.length_cons List.length_nil and_true true_and and_false false_and Bool.true_eq_false Bool.false_eq_true forall_const false_implies implies_true IntKind.bits if_true if_false ite_true ite_false eq_self true_implies false_or or_false or_true true_or not_true_eq_false not_false_eq_true decide_true decide_false decide_eq_true_eq decide_eq_false_iff_not beq_iff_eq bne_iff_ne ne_eq Bool.not_eq_true Bool.not_eq_false beq_eq_false_iff_ne bne_eq_false_iff_eq beq_self_eq_true bne_self_eq_false Option.some.injEq exists_eq_left' exists_eq_left ge_iff_le gt_iff_lt decide_not Bool.not_true Bool.not_false imp_self Zya cond_true cond_false Z6b Z6a Bool.not_not Bool.and_false Bool.false_and Bool.or_true Bool.true_or Bool.or_false Bool.false_or Vi U6 Vj Kg Y5 Yr Option.join_some Nat.add_assoc Int.toNat_natCast eI eB eS eL Y6 Zjw Zi3 Zt1 Ztz Zt0 Z1r Z26 Zj0 Zjj Zu3 Zu1 Zu2 Zw4 Zlv Zwj Zmm Ztg Zjt Zx3 List.length_append G.agg.injEq G.row.injEq G.ref.injEq G.val.injEq G.sl.injEq G.tup.injEq Value.int.injEq Value.bool.injEq Value.string.injEq List.cons.injEq exists_and_left exists_const List.flatten_cons List.flatten_nil Int.le_refl Nat.le_refl Qg Yo Yv Bool.not_eq_true' Bool.not_eq_false' Zv5 Zmp Zzu Zzy Zzt Zzx Z4o Z4k List.size_toArray Zot Zqv G.ren G.rens Zsh Zg8 Zu5 Ztj Ztk Zq8 Zzz Zd8 G.fn.injEq Zr5 Zr6 Zv4 Z4l Zr4 Zzw Z4n Z4m Zzv Zye Z2s Option.join_none Yg V6 undef Zkc Arr.len Arr.put_eq Zjz Znk Zla Zji Zu0 Zuy Zuz onB Z1q Zss Zq3 Zo4 Zo5 Zo6 Zo7 Zo8 Zo9 Znd Znn Znl Zlc Zjk Znm Zqs Zqr Zqq Zqp Z25 Z5i Zw3 Zuv K7 Zwz Zok Zno Zlb Zym Zq5 Zi0 Zj9 Zfl Zmk Zpa Zpb Zpc Zpd Zmq Zmr Zms Zmt Zmu Zmv Zmw Zfw prT Zdd Z6q Zzk Zzi Zzl Z6r Zzm Zht Zzn Z6s Zzo Z6t Zzp Z6u Zzq Z6v Zzr Z3o Zva Z3p Zvb Z3q Zvc Z3r Zvd Z3s Zve Z3t Zvf Z3u Zvg Z3v Zvh Z3w Zvi Z3x Zvj Z3y Zvk Z3z Zo2 Z30 Zdq Z31 Zvl Uk Zvm Z32 Zie Z33 Zif Z34 Zo3 Z35 Zvn Z36 Zvo Zjp Zvp Z37 Zvq Zdw Zvr Z38 Zvs Ze2 Zvt Z39 Zvu Zdp Zvv Zxj Zj4 Z4a Zvw Z4b Zvx Z4c Zvy Z0y Zvz Z4d Zv0 Z4e Zv1 Zyt Zrd Zyu Zre Zyv Zrf Zyw Zrg Zyx Zrh Zyy Zri Zyz Zrj Zy0 Zrk Zy1 Zrl Zy2 Zrm Zy3 Zrn Zy4 Zro Zy5 Zrp Zy6 Zrq Zy7 Zrr Zy8 Zrs Zy9 Zrt Zza Zru Zzb Zrv Zzc Zrw Zzd Zrx Zze Zry Zzf Zrz Zzg Zr0 Zzh Zr1 Za Xf Zlp Zlo Zkz Zk8 Zlq Zjs Zjm Zjl Zlm Zee Zed Zd0 Zd7 Zef Zdr Zdm Zdl Zec Zn6 Zn5 Zm9 Zni Zn7 Zln Zlh Zlg Zn1 Zf Zc7 Zg Zi Jm Jy X4 Zbk Zbh Zap Za1 Zbp Zac G7 G3 Zbb Zcb Zb9 Zb1 Zb5 Zcd Zbf Za6 Za4 Zb7 Zgo Zgn Zf1 Zga Zgp Zff Zfd Zfc Zgl Ym Zbl Zbi Zaq Za2 Zbq Zad G8 G4 Zbc Yk Zaf Zae Gv Gy Zag Gh Gg Gf Zaa Yl Zbj Zbg Zao Za0 Zbo Zab G5 G0 Zba Z4 Zca Zb8 Zb0 Zb4 Zcc Zbe Za5 Za3 Zb6
def Jz (Yj:(Zc→Zc→Option (Zc×Bool))):Prop:=∀ {a0:Zc} {a1:Zc} {r:(Zc×Bool)} {O:Objs} {n:Nat},Yj a0 a1=some r→GTo Try.prog 27 [.agg (Zk a0),.agg (Zk a1)] O n (.tup [.agg (Zk r.1),(vB r.2)]) O n
def X8 (Z3:(Zc→Zc→Option (Zc×Bool))):Prop:=∀ {a0:Zc} {a1:Zc} {r:(Zc×Bool)} {O:Objs} {n:Nat},Z3 a0 a1=some r→GTo Try.prog 51 [.agg (Zk a0),.agg (Zk a1)] O n (.tup [.agg (Zk r.1),(vB r.2)]) O n
def Jj (Ye:(Zc→Zc→Option (Zc×Bool))):Prop:=∀ {a0:Zc} {a1:Zc} {r:(Zc×Bool)} {O:Objs} {n:Nat},Ye a0 a1=some r→GTo Try.prog 52 [.agg (Zk a0),.agg (Zk a1)] O n (.tup [.agg (Zk r.1),(vB r.2)]) O n
def Yq (Zo:((List Zd)→(List Zd)→Option ((List Zd)×Bool))):Prop:=∀ {a0:(List Zd)} {a1:(List Zd)} {r:((List Zd)×Bool)} {O:Objs} {n:Nat},Zo a0 a1=some r→GTo Try.prog 80 [(sL Zi a0),(sL Zi a1),.fn 81 0 [],.fn 82 0 []] O n (.tup [(sL Zi r.1),(vB r.2)]) O n
def Xr (Zx:(Zd→Zd→Option (Zd×Bool))):Prop:=∀ {a0:Zd} {a1:Zd} {r:(Zd×Bool)} {O:Objs} {n:Nat},Zx a0 a1=some r→GTo Try.prog 82 [.agg (Xk a0),.agg (Xk a1)] O n (.tup [.agg (Xk r.1),(vB r.2)]) O n
def Jk (Ya:(Zz→Option ((List Zh)×Bool))):Prop:=∀ {a0:Zz} {r:((List Zh)×Bool)} {O:Objs} {n:Nat},Ya a0=some r→GTo Try.prog 84 [.agg (J8 a0)] O n (.tup [(sL Zg r.1),(vB r.2)]) O n
theorem Znh {Yj:(Zc→Zc→Option (Zc×Bool))} {Z3:(Zc→Zc→Option (Zc×Bool))} {Ye:(Zc→Zc→Option (Zc×Bool))} {Zo:((List Zd)→(List Zd)→Option ((List Zd)×Bool))} {Zx:(Zd→Zd→Option (Zd×Bool))} {Ya:(Zz→Option ((List Zh)×Bool))} (J3:Jz Yj) (Qp:X8 Z3) (Ks:Jj Ye) (Y0:Yq Zo) (Xs:Xr Zx) (Kt:Jk Ya) {a0:Zc} {a1:Zc} {r:(Zc×Bool)} {O:Objs} {n:Nat} (h:Zfq Yj Z3 Ye Zo Zx Ya a0 a1=some r):GTo Try.prog 27 [.agg (Zk a0),.agg (Zk a1)] O n (.tup [.agg (Zk r.1),(vB r.2)]) O n:=by
 unfold Zfq at h
 refine zFn Try.call27 Try.func27 fun hU hN0 hN => ?_
 show W _ _ _ _ ⟨89,[],[(0,.agg (Zk a0)),(1,.agg (Zk a1))]⟩ (Zy O n []) _
 refine zQ [2,3,4] ?_
 refine Zn ?_
 refine Yx ?_
 refine zQ [2,3,4,10] ?_
 refine Zt (t:=(a0.Kind == 0)) rfl (fun c16 => ?_) (fun c16 => ?_)
 ·replace h:=Zw c16 h
  refine Zn ?_
  refine zRd [4,5] [false,false,true] ?_
  exact Xg [.agg (Zk a1),(vB true)]
 replace h:=Zv c16 h
 refine zQ [2,3,4,15] ?_
 refine Zt (t:=(a1.Kind == 0)) rfl (fun c15 => ?_) (fun c15 => ?_)
 ·replace h:=Zw c15 h
  refine Zn ?_
  refine zRd [4,5] [false,false,true] ?_
  exact Xg [.agg (Zk a0),(vB true)]
 replace h:=Zv c15 h
 refine zQ [2,3,4,20] ?_
 refine Zt (t:=(a0.Kind == 1)) rfl (fun c14 => ?_) (fun c14 => ?_)
 ·replace h:=Zw c14 h
  refine Zn ?_
  obtain ⟨y2,hy2,h⟩:=bC h
  refine zCd (Uh hy2) [2,4,6,7] [true,false,true,true] ?_
  refine Zn ?_
  refine zRd [4,5] [false,false,true,false] ?_
  exact Xg [.agg [(vI 1),(vI a0.Old.Kind),(sL (eI .u64) a0.Old.Words),(sL Za a0.Old.Kids),(vI y2.1.Kind),(sL (eI .u64) y2.1.Words),(sL Za y2.1.Kids),nV,nV,(vI 0),nV],(vB y2.2)]
 replace h:=Zv c14 h
 refine zQ [2,3,4,36] ?_
 refine Zt (t:=(a1.Kind == 1)) rfl (fun c13 => ?_) (fun c13 => ?_)
 ·replace h:=Zw c13 h
  refine Zn ?_
  obtain ⟨y5,hy5,h⟩:=bC h
  obtain ⟨y6,hy6,h⟩:=bC h
  refine Qu Z5 (by kernel_rfl) [.low,.low,.low,.low,.low,.plain,.plain,.plain,.pass,.bar,.plain] (fun i=>i < (n+3)) [0,1,2,3,4,5,6,7,8,9,10] [.low,.low,.low,.low,.low,.plain,.plain,.plain,.pass,.bar,.plain] [] (by kernel_rfl) rfl ?_
  refine zS ?_
  refine zO ?_
  first | refine PCallA.of (fun _ _=>Zdj hy5) ?_ | refine PCall.of (Zdj hy5) ?_
  refine zS ?_
  refine zO ?_
  first | refine PCallA.of (fun _ _=>Uh hy6) ?_ | refine PCall.of (Uh hy6) ?_
  refine zS ?_
  refine zO ?_
  refine zDs [3,4,8,9] [false,true,true,true] ?_
  refine zRd [4,5] [false,false,true,false] ?_
  exact Xg [.agg [(vI 1),(vI y6.1.Kind),(sL (eI .u64) y6.1.Words),(sL Za y6.1.Kids),(vI a1.New.Kind),(sL (eI .u64) a1.New.Words),(sL Za a1.New.Kids),nV,nV,(vI 0),nV],(vB y6.2)]
 replace h:=Zv c13 h
 refine zQD [2,3,4,53] [none,none,none] ?_
 refine Zt (t:=(cond (a0.Kind == 2) (a1.Kind == 2) false)) rfl (fun c12 => ?_) (fun c12 => ?_)
 ·replace h:=Zw c12 h
  refine Zn ?_
  obtain ⟨y8,hy8,h⟩:=bC h
  refine zCd (Qp hy8) [4,5] [false,false,true] ?_
  exact Xg [.agg (Zk y8.1),(vB y8.2)]
 replace h:=Zv c12 h
 refine zQD [2,3,4,67] [none,none,none,none,none,none,none,none] ?_
 refine Zt (t:=(cond (cond (a0.Kind == 3) (a1.Kind == 3) false) (a0.List_ == a1.List_) false)) rfl (fun c11 => ?_) (fun c11 => ?_)
 ·replace h:=Zw c11 h
  refine Zn ?_
  obtain ⟨y10,hy10,h⟩:=bC h
  refine zCd (Ks hy10) [4,5] [false,false,true] ?_
  exact Xg [.agg (Zk y10.1),(vB y10.2)]
 replace h:=Zv c11 h
 refine Ud [4] [false,false,true] ?_
 refine Zn ?_
 refine zRd [4,5] [false,false,true] ?_
 exact Xg [.agg [(vI 0),(vI 0),nV,nV,(vI 0),nV,nV,nV,nV,(vI 0),nV],(vB false)]
theorem Zh8 {Yj:(Zc→Zc→Option (Zc×Bool))} {Z3:(Zc→Zc→Option (Zc×Bool))} {Ye:(Zc→Zc→Option (Zc×Bool))} {Zo:((List Zd)→(List Zd)→Option ((List Zd)×Bool))} {Zx:(Zd→Zd→Option (Zd×Bool))} {Ya:(Zz→Option ((List Zh)×Bool))} (J3:Jz Yj) (Qp:X8 Z3) (Ks:Jj Ye) (Y0:Yq Zo) (Xs:Xr Zx) (Kt:Jk Ya) {a0:Zc} {a1:Zc} {r:(Zc×Bool)} {O:Objs} {n:Nat} (h:Zaj Yj Z3 Ye Zo Zx Ya a0 a1=some r):GTo Try.prog 51 [.agg (Zk a0),.agg (Zk a1)] O n (.tup [.agg (Zk r.1),(vB r.2)]) O n:=by
 unfold Zaj at h
 refine zFn Try.call51 Try.func51 fun hU hN0 hN => ?_
 show W _ _ _ _ ⟨33,[],[(0,.agg (Zk a0)),(1,.agg (Zk a1))]⟩ (Zy O n []) _
 refine zQ [2,3,4] ?_
 refine Zn ?_
 obtain ⟨y2,hy2,h⟩:=bC h
 refine zCd (Zax hy2) [2,3,4,6,7] [true,true,true] ?_
 refine Zn ?_
 obtain ⟨y4,hy4,h⟩:=bC h
 refine zCd (Y0 hy4) [4,6,7,8,9] [false,false,true] ?_
 refine Zn ?_
 refine zRo [none] ?_
 refine zG ?_
 refine zD [4,5] [false,false,true] ?_
 exact Xg [.agg [(vI 2),(vI 0),nV,nV,(vI 0),nV,nV,(sL Zf y2.1),(sL Zi y4.1),(vI 0),nV],(vB (cond y2.2 y4.2 false))]
theorem Zmd {Yj:(Zc→Zc→Option (Zc×Bool))} {Z3:(Zc→Zc→Option (Zc×Bool))} {Ye:(Zc→Zc→Option (Zc×Bool))} {Zo:((List Zd)→(List Zd)→Option ((List Zd)×Bool))} {Zx:(Zd→Zd→Option (Zd×Bool))} {Ya:(Zz→Option ((List Zh)×Bool))} (J3:Jz Yj) (Qp:X8 Z3) (Ks:Jj Ye) (Y0:Yq Zo) (Xs:Xr Zx) (Kt:Jk Ya) {a0:Zc} {a1:Zc} {r:(Zc×Bool)} {O:Objs} {n:Nat} (h:Ze3 Yj Z3 Ye Zo Zx Ya a0 a1=some r):GTo Try.prog 52 [.agg (Zk a0),.agg (Zk a1)] O n (.tup [.agg (Zk r.1),(vB r.2)]) O n:=by
 unfold Ze3 at h
 refine zFn Try.call52 Try.func52 fun hU hN0 hN => ?_
 show W _ _ _ _ ⟨48,[],[(0,.agg (Zk a0)),(1,.agg (Zk a1))]⟩ (Zy O n []) _
 refine zQ [2,3,4] ?_
 refine Zn ?_
 obtain ⟨y2,hy2,h⟩:=bC h
 refine zCd (Zom hy2) [2,4,6,7] [true,false,true] ?_
 refine Zn ?_
 refine zQ [2,4,6,22] ?_
 refine Zt (t:=(!y2.2)) rfl (fun c11 => ?_) (fun c11 => ?_)
 ·replace h:=Zw c11 h
  refine Zn ?_
  refine zRd [4,5] [false,false,true] ?_
  exact Xg [.agg [(vI 0),(vI 0),nV,nV,(vI 0),nV,nV,nV,nV,(vI 0),nV],(vB false)]
 replace h:=Zv c11 h
 refine Ud [2,4,6] [true,false,true] ?_
 refine Zn ?_
 refine zRd [4,6,8] [false,false,true,true] ?_
 refine Zn ?_
 refine zQd [4,8,27,28,29] [4,8,27,28,29] [false,false,true,true] ?_
 refine Q2 (E':=(⟨48,[],[(4,.ref (n+2) 0),(8,.ref (n+3) 0),(27,(sL Z4 y2.1)),(28,(vI (y2.1.length:Int))),(29,(vI 0))]⟩:Env)) (O':=(Zy O n [none,none,some ⟨false,30,11,1,[(vI 0),(vI 0),nV,nV,(vI 0),nV,nV,nV,nV,(vI 0),nV]⟩,some ⟨false,30,11,1,[(vI 3),(vI 0),nV,nV,(vI 0),nV,nV,nV,nV,(vI a0.List_),.row (n+4) ([]:List Zh).length]⟩,some (oR 53 14 Zg ([]:List Zh)),none])) (n':=(n+6)) ?_ ?_
 ·refine Fit2.trans (E':=(⟨48,[],[(4,.ref (n+2) 0),(8,.ref (n+3) 0),(27,(sL Z4 y2.1)),(28,(vI (y2.1.length:Int))),(29,(vI 0))]⟩:Env)) (O':=(Zy O n [none,none,some ⟨false,30,11,1,[(vI 0),(vI 0),nV,nV,(vI 0),nV,nV,nV,nV,(vI 0),nV]⟩,some ⟨false,30,11,1,[(vI 3),(vI 0),nV,nV,(vI 0),nV,nV,nV,nV,(vI a0.List_),nV]⟩])) (n':=(n+4)) (Fit2.of (Z6 hU rfl rfl ?_) (by omega)) ?_
  ·exact Ue
  refine Fit2.trans (Vb (p:=(n+3)) (k:=10) (q:=⟨false,30,11,1,[(vI 3),(vI 0),nV,nV,(vI 0),nV,nV,nV,nV,(vI a0.List_),nV]⟩) 53 14 (by simp only [Vi,U6,List.getElem?_cons_zero,List.getElem?_cons_succ,Option.join_some,List.length_nil,Yg]) rfl (by omega)) ?_
  simp only [Y5,Yr,Vj,Kg,List.set_cons_zero,List.set_cons_succ,List.cons_append,List.nil_append,List.length_cons,List.length_nil,Nat.zero_add,Nat.reduceAdd,Nat.reduceLT,Nat.add_assoc]
  refine Y2 (k:=5) (k':=6) hU [5,5,2,3,4] [0,0,2,3,4,0] rfl rfl rfl rfl ⟨rfl,rfl⟩ ?_
  exact Ue
 obtain ⟨z10,hz10,h⟩:=bC h
 refine Zcn (J:=(Jg (fun z10=>JR n (⟨48,[],[(4,.ref (n+2) 0),(5,(vB false))]⟩:Env) (Zy O n [none,none,some ⟨false,30,11,1,[(vI 0),(vI 0),nV,nV,(vI 0),nV,nV,nV,nV,(vI 0),nV]⟩,none]) (n+4)) (fun z10=>JX 0 n (⟨48,[],[(4,.ref (n+2) 0),(8,.ref (n+3) 0)]⟩:Env) (Zy O n [none,none,some ⟨false,30,11,1,[(vI 0),(vI 0),nV,nV,(vI 0),nV,nV,nV,nV,(vI 0),nV]⟩,some ⟨false,30,11,1,[(vI 3),(vI 0),nV,nV,(vI 0),nV,nV,nV,nV,(vI a0.List_),.row (n+4) z10.length]⟩,some (oR 53 14 Zg z10),none]) (n+6)))) (z:=z10) ?_ fun hw => ?_
 ·refine Xv hz10 (fun s0_=>⟨48,[],[(4,.ref (n+2) 0),(8,.ref (n+3) 0),(27,(sL Z4 y2.1)),(28,(vI (y2.1.length:Int))),(29,(vI s0_.1))]⟩) (fun s0_=>(Zy O n [none,none,some ⟨false,30,11,1,[(vI 0),(vI 0),nV,nV,(vI 0),nV,nV,nV,nV,(vI 0),nV]⟩,some ⟨false,30,11,1,[(vI 3),(vI 0),nV,nV,(vI 0),nV,nV,nV,nV,(vI a0.List_),.row (n+4) s0_.2.length]⟩,some (oR 53 14 Zg s0_.2),none])) (Jg (fun z10=>JR n (⟨48,[],[(4,.ref (n+2) 0),(5,(vB false))]⟩:Env) (Zy O n [none,none,some ⟨false,30,11,1,[(vI 0),(vI 0),nV,nV,(vI 0),nV,nV,nV,nV,(vI 0),nV]⟩,none]) (n+4)) (fun z10=>JX 0 n (⟨48,[],[(4,.ref (n+2) 0),(8,.ref (n+3) 0)]⟩:Env) (Zy O n [none,none,some ⟨false,30,11,1,[(vI 0),(vI 0),nV,nV,(vI 0),nV,nV,nV,nV,(vI 0),nV]⟩,some ⟨false,30,11,1,[(vI 3),(vI 0),nV,nV,(vI 0),nV,nV,nV,nV,(vI a0.List_),.row (n+4) z10.length]⟩,some (oR 53 14 Zg z10),none]) (n+6))) ?_
  intro s0_ x0_ hs0_
  unfold Kl at hs0_
  try dsimp only
  refine zQ [4,8,27,28,29,30] ?_
  refine Zn ?_
  refine Zt (t:=(decide (s0_.1 < (y2.1.length:Int)))) rfl (fun c9 => ?_) (fun c9 => ?_)
  ·replace hs0_:=Zw c9 hs0_
   refine Ud [4,8,27,28,29] [false,false,true,true,true,false] ?_
   refine Zn ?_
   refine Yx ?_
   refine Zn ?_
   obtain ⟨x4,hx4,ax4,bx4,cx4,hs0_⟩:=bE (f:=Z4) Z0y (fun _=>rfl) (by decide) hs0_
   refine Zdx [] ax4 bx4 cx4 ?_
   refine zDs [4,8,10,27,28,29] [false,false,true,true,true,false,true] ?_
   obtain ⟨y6,hy6,hs0_⟩:=bC hs0_
   refine zCd (Kt hy6) [4,8,11,12,27,28,29] [false,false,true,true,true,false,false] ?_
   refine Zn ?_
   refine zQ [4,8,11,27,28,29,39] ?_
   refine Zt (t:=(!y6.2)) rfl (fun c8 => ?_) (fun c8 => ?_)
   ·replace hs0_:=Zw c8 hs0_
    refine Zn ?_
    refine zRd [4,5] [false,false,true,false,false,false,false] ?_
    refine zW ?_
    exact zEy hs0_
   replace hs0_:=Zv c8 hs0_
   refine Ud [4,8,11,27,28,29] [false,false,true,true,true,false,false] ?_
   obtain ⟨l7,pl7,ql7,el7,hs0_⟩:=bA (k:=y6.1.length) rfl hs0_
   refine Zg2 [] pl7 ql7 el7 ?_
   refine Zah ⟨48,[],[(4,.ref (n+2) 0),(8,.ref (n+3) 0),(27,(sL Z4 y2.1)),(28,(vI (y2.1.length:Int))),(29,(vI s0_.1))]⟩ (Zy O n [none,none,some ⟨false,30,11,1,[(vI 0),(vI 0),nV,nV,(vI 0),nV,nV,nV,nV,(vI 0),nV]⟩,some ⟨false,30,11,1,[(vI 3),(vI 0),nV,nV,(vI 0),nV,nV,nV,nV,(vI a0.List_),.row (n+4) l7.length]⟩,some (oR 53 14 Zg l7),none,none]) (Z6 hU rfl rfl ?_) ?_
   ·exact Zxu pl7 ql7 el7
   refine zR ?_
   exact zEn hs0_
  replace hs0_:=Zv c9 hs0_
  exact zEx hs0_
 rcases z10 with z10 | z10
 ·dsimp only [Jg] at hw h
  refine Ve hw ?_
  try simp only [Xh,Yw,↓reduceIte,Nat.reduceEqDiff]
  exact Zlr [.agg [(vI 0),(vI 0),nV,nV,(vI 0),nV,nV,nV,nV,(vI 0),nV],(vB false)]
 dsimp only [Jg] at hw h
 refine Xe hw ?_
 try simp only [Xh,Yw,↓reduceIte,Nat.reduceEqDiff]
 refine zDs [4,8] [false,false,true,true,true,false] ?_
 refine zRd [4,5] [false,false,true,false,true,false] ?_
 exact Xg [.agg [(vI 3),(vI 0),nV,nV,(vI 0),nV,nV,nV,nV,(vI a0.List_),.row (n+4) z10.length],(vB true)]
theorem Zaz {Yj:(Zc→Zc→Option (Zc×Bool))} {Z3:(Zc→Zc→Option (Zc×Bool))} {Ye:(Zc→Zc→Option (Zc×Bool))} {Zo:((List Zd)→(List Zd)→Option ((List Zd)×Bool))} {Zx:(Zd→Zd→Option (Zd×Bool))} {Ya:(Zz→Option ((List Zh)×Bool))} (J3:Jz Yj) (Qp:X8 Z3) (Ks:Jj Ye) (Y0:Yq Zo) (Xs:Xr Zx) (Kt:Jk Ya) {a0:(List Zd)} {a1:(List Zd)} {r:((List Zd)×Bool)} {O:Objs} {n:Nat} (h:Q3 Yj Z3 Ye Zo Zx Ya a0 a1=some r):GTo Try.prog 80 [(sL Zi a0),(sL Zi a1),.fn 81 0 [],.fn 82 0 []] O n (.tup [(sL Zi r.1),(vB r.2)]) O n:=by
 unfold Q3 at h
 refine zFn Try.call80 Try.func80 fun hU hN0 hN => ?_
 show W _ _ _ _ ⟨87,[],[(0,(sL Zi a0)),(1,(sL Zi a1)),(2,.fn 81 0 []),(3,.fn 82 0 [])]⟩ (Zy O n []) _
 refine zQ [0,1,2,3] ?_
 refine zQ [0,1,2,3,10] ?_
 refine Zn ?_
 refine zD [0,1,2,3,10] [] ?_
 refine Q2 (E':=(⟨87,[],[(0,(sL Zi a0)),(1,(sL Zi a1)),(2,.fn 81 0 []),(3,.fn 82 0 []),(10,.row n ([]:List Zd).length)]⟩:Env)) (O':=(Zy O n [some (oR 55 12 Zi ([]:List Zd)),none])) (n':=(n+2)) ?_ ?_
 ·refine Fit2.trans (E':=(⟨87,[],[(0,(sL Zi a0)),(1,(sL Zi a1)),(2,.fn 81 0 []),(3,.fn 82 0 []),(10,nV)]⟩:Env)) (O':=(Zy O n [])) (n':=n) (Fit2.of (Z6 hU rfl rfl ?_) (by omega)) ?_
  ·exact Ue
  refine Fit2.trans (Zfm 10 55 12 rfl (by omega)) ?_
  simp only [Y5,Yr,Vj,Kg,List.set_cons_zero,List.set_cons_succ,List.cons_append,List.nil_append,List.length_cons,List.length_nil,Nat.zero_add,Nat.reduceAdd,Nat.reduceLT,Nat.add_assoc]
  refine Fit2.trans (E':=(⟨87,[],[(0,(sL Zi a0)),(1,(sL Zi a1)),(2,.fn 81 0 []),(3,.fn 82 0 []),(10,.row n ([]:List Zd).length)]⟩:Env)) (O':=(Zy O n [some (oR 55 12 Zi ([]:List Zd))])) (n':=(n+1)) (Fit2.of (Z6 hU rfl rfl ?_) (by omega)) ?_
  ·exact Ue
  refine Y2 (k:=1) (k':=2) hU [0] [0,0] rfl rfl rfl rfl ⟨rfl,rfl⟩ ?_
  exact Ue
 obtain ⟨z36,hz36,h⟩:=bC h
 refine Zcn (J:=(Jg (fun z36=>JR n (⟨87,[],[(8,nV),(9,(vB false))]⟩:Env) (Zy O n []) n) (fun z36=>JX 0 n (⟨87,[],[(0,(sL Zi z36.1)),(1,(sL Zi z36.2.1)),(10,.row n z36.2.2.length)]⟩:Env) (Zy O n [some (oR 55 12 Zi z36.2.2),none]) (n+2)))) (z:=z36) ?_ fun hw => ?_
 ·refine Xv hz36 (fun s0_=>⟨87,[],[(0,(sL Zi s0_.1)),(1,(sL Zi s0_.2.1)),(2,.fn 81 0 []),(3,.fn 82 0 []),(10,.row n s0_.2.2.length)]⟩) (fun s0_=>(Zy O n [some (oR 55 12 Zi s0_.2.2),none])) (Jg (fun z36=>JR n (⟨87,[],[(8,nV),(9,(vB false))]⟩:Env) (Zy O n []) n) (fun z36=>JX 0 n (⟨87,[],[(0,(sL Zi z36.1)),(1,(sL Zi z36.2.1)),(10,.row n z36.2.2.length)]⟩:Env) (Zy O n [some (oR 55 12 Zi z36.2.2),none]) (n+2))) ?_
  intro s0_ x0_ hs0_
  unfold Ku at hs0_
  try dsimp only
  refine Zn ?_
  refine zQD [0,1,2,3,10,20] [none,none,none] ?_
  refine Zt (t:=(cond (decide (0 < (s0_.1.length:Int))) (decide (0 < (s0_.2.1.length:Int))) false)) rfl (fun c35 => ?_) (fun c35 => ?_)
  ·replace hs0_:=Zw c35 hs0_
   refine Ud [0,1,2,3,10] [true,false] ?_
   refine Yx ?_
   refine Yx ?_
   refine Zn ?_
   obtain ⟨x5,hx5,ax5,bx5,cx5,hs0_⟩:=bE (f:=Zi) Zdp (fun _=>rfl) (by decide) hs0_
   obtain ⟨y6,hy6,hs0_⟩:=bC hs0_
   obtain ⟨x7,hx7,ax7,bx7,cx7,hs0_⟩:=bE (f:=Zi) Zdp (fun _=>rfl) (by decide) hs0_
   obtain ⟨y8,hy8,hs0_⟩:=bC hs0_
   refine Ql Z5 (by kernel_rfl) [] (by kernel_rfl) ?_
   refine zF6 ax5 bx5 cx5 ax7 bx7 cx7 ?_
   refine PCall.of (K6 hy6) ?_
   refine zF6 ax5 bx5 cx5 ax7 bx7 cx7 ?_
   refine PCall.of (K6 hy8) ?_
   refine zF6 ax5 bx5 cx5 ax7 bx7 cx7 ?_
   refine zD [0,1,2,3,10,42] [true,false] ?_
   refine Zt (t:=(decide (y6 < y8))) rfl (fun c34 => ?_) (fun c34 => ?_)
   ·replace hs0_:=Zw c34 hs0_
    obtain ⟨x9,hx9,ax9,bx9,cx9,hs0_⟩:=bE (f:=Zi) Zdp (fun _=>rfl) (by decide) hs0_
    obtain ⟨l10,al10,bl10,cl10,gl10,hs0_⟩:=bS (lo:=(some (.i64,1))) (hi:=none) (f:=Zi) rfl rfl Zif Zdp (fun _=>rfl) hs0_
    obtain ⟨l11,pl11,ql11,el11,hs0_⟩:=bA (k:=1) rfl hs0_
    refine Qu Z5 (by kernel_rfl) [.plain,.plain,.plain,.plain,.pass,.pass,.plain,.low,.plain,.plain] (fun i=>i < (n+2)∧¬ i=n) [0,1,2,3,6,7,4,5,8,9] [.plain,.plain,.plain,.plain,.plain,.low,.pass,.pass,.plain,.plain] [] (by kernel_rfl) rfl ?_
    refine Z5v ax9 bx9 cx9 al10 bl10 cl10 gl10 pl11 ql11 el11 ?_
    refine zO ?_
    have hs0_:=Option.some.inj hs0_;subst hs0_
    refine And.intro rfl (Fit2.of (Z6 hU rfl rfl ?_) (by omega))
    exact Z06 ax9 bx9 cx9 al10 bl10 cl10 gl10 pl11 ql11 el11
   replace hs0_:=Zv c34 hs0_
   refine Zn ?_
   obtain ⟨x16,hx16,ax16,bx16,cx16,hs0_⟩:=bE (f:=Zi) Zdp (fun _=>rfl) (by decide) hs0_
   obtain ⟨y17,hy17,hs0_⟩:=bC hs0_
   obtain ⟨x18,hx18,ax18,bx18,cx18,hs0_⟩:=bE (f:=Zi) Zdp (fun _=>rfl) (by decide) hs0_
   obtain ⟨y19,hy19,hs0_⟩:=bC hs0_
   refine Ql Z5 (by kernel_rfl) [] (by kernel_rfl) ?_
   refine zF6 ax16 bx16 cx16 ax18 bx18 cx18 ?_
   refine PCall.of (K6 hy17) ?_
   refine zF6 ax16 bx16 cx16 ax18 bx18 cx18 ?_
   refine PCall.of (K6 hy19) ?_
   refine zF6 ax16 bx16 cx16 ax18 bx18 cx18 ?_
   refine zD [0,1,2,3,10,62] [true,false] ?_
   refine Zt (t:=(decide (y17 < y19))) rfl (fun c33 => ?_) (fun c33 => ?_)
   ·replace hs0_:=Zw c33 hs0_
    obtain ⟨x20,hx20,ax20,bx20,cx20,hs0_⟩:=bE (f:=Zi) Zdp (fun _=>rfl) (by decide) hs0_
    obtain ⟨l21,al21,bl21,cl21,gl21,hs0_⟩:=bS (lo:=(some (.i64,1))) (hi:=none) (f:=Zi) rfl rfl Zif Zdp (fun _=>rfl) hs0_
    obtain ⟨l22,pl22,ql22,el22,hs0_⟩:=bA (k:=1) rfl hs0_
    refine Qu Z5 (by kernel_rfl) [.plain,.plain,.plain,.plain,.pass,.pass,.plain,.low,.plain,.plain] (fun i=>i < (n+2)∧¬ i=n) [0,1,2,3,6,7,4,5,8,9] [.plain,.plain,.plain,.plain,.plain,.low,.pass,.pass,.plain,.plain] [] (by kernel_rfl) rfl ?_
    refine Z5v ax20 bx20 cx20 al21 bl21 cl21 gl21 pl22 ql22 el22 ?_
    refine zO ?_
    have hs0_:=Option.some.inj hs0_;subst hs0_
    refine And.intro rfl (Fit2.of (Z6 hU rfl rfl ?_) (by omega))
    exact Z06 ax20 bx20 cx20 al21 bl21 cl21 gl21 pl22 ql22 el22
   replace hs0_:=Zv c33 hs0_
   refine Zn ?_
   obtain ⟨x26,hx26,ax26,bx26,cx26,hs0_⟩:=bE (f:=Zi) Zdp (fun _=>rfl) (by decide) hs0_
   obtain ⟨x27,hx27,ax27,bx27,cx27,hs0_⟩:=bE (f:=Zi) Zdp (fun _=>rfl) (by decide) hs0_
   obtain ⟨y28,hy28,hs0_⟩:=bC hs0_
   refine Qu Z5 (by kernel_rfl) [.plain,.plain,.low,.low,.plain,.low,.low,.low,.plain,.plain,.plain,.pass,.bar,.plain] (fun i=>i < (n+2)) [0,1,2,3,4,5,6,7,8,9,10,11,12,13] [.plain,.plain,.low,.low,.plain,.low,.low,.low,.plain,.plain,.plain,.pass,.bar,.plain] [] (by kernel_rfl) rfl ?_
   refine zF6 ax26 bx26 cx26 ax27 bx27 cx27 ?_
   refine zO ?_
   first | refine PCallA.of (fun _ _=>Xs hy28) ?_ | refine PCall.of (Xs hy28) ?_
   refine zF6 ax26 bx26 cx26 ax27 bx27 cx27 ?_
   refine zO ?_
   refine zDs [0,1,2,3,10,11,12] [true,false,true] ?_
   refine zQ [0,1,2,3,10,11,33] ?_
   refine Zt (t:=(!y28.2)) rfl (fun c32 => ?_) (fun c32 => ?_)
   ·replace hs0_:=Zw c32 hs0_
    refine zQ [8,9] ?_
    refine zW ?_
    exact zEy hs0_
   replace hs0_:=Zv c32 hs0_
   refine Ud [0,1,2,3,10,11] [true,false,true] ?_
   obtain ⟨l29,al29,bl29,cl29,gl29,hs0_⟩:=bS (lo:=(some (.i64,1))) (hi:=none) (f:=Zi) rfl rfl Zif Zdp (fun _=>rfl) hs0_
   obtain ⟨l30,al30,bl30,cl30,gl30,hs0_⟩:=bS (lo:=(some (.i64,1))) (hi:=none) (f:=Zi) rfl rfl Zif Zdp (fun _=>rfl) hs0_
   obtain ⟨l31,pl31,ql31,el31,hs0_⟩:=bA (k:=1) rfl hs0_
   refine Qu Z5 (by kernel_rfl) [.plain,.plain,.pass,.pass,.plain,.low,.plain,.low,.plain,.plain,.plain] (fun i=>i < (n+3)∧¬ i=n) [0,1,4,5,6,7,2,3,8,9,10] [.plain,.plain,.plain,.low,.plain,.low,.pass,.pass,.plain,.plain,.plain] [] (by kernel_rfl) rfl ?_
   simp only [push_cast,seval,↓reduceIte,Ze,al29,bl29,cl29,gl29,al30,bl30,cl30,gl30,pl31,ql31,el31,hN0,hN]
   refine zO ?_
   have hs0_:=Option.some.inj hs0_;subst hs0_
   refine And.intro rfl (Fit2.of (Z6 hU rfl rfl ?_) (by omega))
   simp only [push_cast,seval,↓reduceIte,Ze,al29,bl29,cl29,gl29,al30,bl30,cl30,gl30,pl31,ql31,el31,hN0,hN]
  replace hs0_:=Zv c35 hs0_
  exact zEx hs0_
 rcases z36 with z36 | z36
 ·dsimp only [Jg] at hw h
  refine Ve hw ?_
  try simp only [Xh,Yw,↓reduceIte,Nat.reduceEqDiff]
  exact Zlr [nV,(vB false)]
 dsimp only [Jg] at hw h
 refine Xe hw ?_
 try simp only [Xh,Yw,↓reduceIte,Nat.reduceEqDiff]
 refine zDs [0,1,10] [true,false] ?_
 obtain ⟨l39,pl39,ql39,el39,h⟩:=bA (k:=z36.1.length) rfl h
 obtain ⟨l40,pl40,ql40,el40,h⟩:=bA (k:=z36.2.1.length) rfl h
 try simp only [el39,List.length_append,Nat.add_assoc] at pl40 ql40
 refine Yz Z5 [] ?_
 simp only [push_cast,seval,↓reduceIte,Ze,pl39,ql39,el39,pl40,ql40,el40,List.append_assoc,hN0,hN]
 refine Zah ⟨87,[],[(8,.row n l40.length),(9,(vB true))]⟩ (Zy O n [some (oR 55 12 Zi l40),none]) (Z6 hU rfl rfl ?_) ?_
 ·simp only [push_cast,seval,↓reduceIte,Ze,pl39,ql39,el39,pl40,ql40,el40,List.append_assoc,hN0,hN]
 exact Xg [.row n l40.length,(vB true)]
theorem Zg6 {Yj:(Zc→Zc→Option (Zc×Bool))} {Z3:(Zc→Zc→Option (Zc×Bool))} {Ye:(Zc→Zc→Option (Zc×Bool))} {Zo:((List Zd)→(List Zd)→Option ((List Zd)×Bool))} {Zx:(Zd→Zd→Option (Zd×Bool))} {Ya:(Zz→Option ((List Zh)×Bool))} (J3:Jz Yj) (Qp:X8 Z3) (Ks:Jj Ye) (Y0:Yq Zo) (Xs:Xr Zx) (Kt:Jk Ya) {a0:Zd} {a1:Zd} {r:(Zd×Bool)} {O:Objs} {n:Nat} (h:U8 Yj Z3 Ye Zo Zx Ya a0 a1=some r):GTo Try.prog 82 [.agg (Xk a0),.agg (Xk a1)] O n (.tup [.agg (Xk r.1),(vB r.2)]) O n:=by
 unfold U8 at h
 refine zFn Try.call82 Try.func82 fun hU hN0 hN => ?_
 show W _ _ _ _ ⟨21,[],[(0,.agg (Xk a0)),(1,.agg (Xk a1))]⟩ (Zy O n []) _
 refine zQ [2,3,4] ?_
 refine Zn ?_
 obtain ⟨y2,hy2,h⟩:=bC h
 refine zCd (J3 hy2) [2,4,6,7] [true,false,true,true] ?_
 refine Zn ?_
 refine zRd [4,5] [false,false,true,false] ?_
 exact Xg [.agg [(vI a0.At),(vI y2.1.Kind),(vI y2.1.Old.Kind),(sL (eI .u64) y2.1.Old.Words),(sL Za y2.1.Old.Kids),(vI y2.1.New.Kind),(sL (eI .u64) y2.1.New.Words),(sL Za y2.1.New.Kids),(sL Zf y2.1.Words),(sL Zi y2.1.Kids),(vI y2.1.List_),(sL Zg y2.1.Ops)],(vB y2.2)]
theorem Zme {Yj:(Zc→Zc→Option (Zc×Bool))} {Z3:(Zc→Zc→Option (Zc×Bool))} {Ye:(Zc→Zc→Option (Zc×Bool))} {Zo:((List Zd)→(List Zd)→Option ((List Zd)×Bool))} {Zx:(Zd→Zd→Option (Zd×Bool))} {Ya:(Zz→Option ((List Zh)×Bool))} (J3:Jz Yj) (Qp:X8 Z3) (Ks:Jj Ye) (Y0:Yq Zo) (Xs:Xr Zx) (Kt:Jk Ya) {a0:Zz} {r:((List Zh)×Bool)} {O:Objs} {n:Nat} (h:Ze4 Yj Z3 Ye Zo Zx Ya a0=some r):GTo Try.prog 84 [.agg (J8 a0)] O n (.tup [(sL Zg r.1),(vB r.2)]) O n:=by
 unfold Ze4 at h
 refine zFn Try.call84 Try.func84 fun hU hN0 hN => ?_
 show W _ _ _ _ ⟨108,[],[(0,.agg (J8 a0))]⟩ (Zy O n []) _
 refine zQ [1] ?_
 refine Xj (E':=⟨108,[],[(1,.ref n 0),(4,.ref (n+1) 0),(5,.ref (n+2) 0)]⟩) (O':=(Zy O n [some ⟨false,94,29,1,(J8 a0)⟩,some ⟨false,53,14,1,(Y1 a0.P)⟩,some ⟨false,53,14,1,(Y1 a0.Q)⟩])) (n0:=(n+3)) ?_ ?_
 ·refine Z4u Z5 (by kernel_rfl) [.low,.low,.low,.low,.pass,.pass,.pass,.pass] (fun i=>i < (n+1)) 4 5 [0,1,2,3] [6,7] [.low,.low,.low,.low] [.pass,.pass,.pass,.pass] [.pass,.pass,.pass,.pass] [] (by kernel_rfl) rfl rfl rfl ?_
  refine zS ?_
  repeat (with_reducible refine And.intro (by omega) ?_)
  refine And.intro ?_ ?_
  ·refine zS ?_
   repeat (with_reducible refine And.intro (by first | exact Z0 rfl | exact Zs) ?_)
   exact zEf
  refine zS ?_
  repeat (with_reducible refine And.intro (by first | exact Z0 rfl | exact Zs) ?_)
  refine And.intro rfl ?_
  refine Fit2.trans (E':=(⟨108,[],[(1,.ref n 0),(4,.ref (n+2) 0),(5,.ref (n+1) 0)]⟩:Env)) (O':=(Zy O n [some ⟨false,94,29,1,(J8 a0)⟩,some ⟨false,53,14,1,(Y1 a0.Q)⟩,some ⟨false,53,14,1,(Y1 a0.P)⟩])) (n':=(n+3)) (Fit2.of (Z6 hU rfl rfl ?_) (by omega)) ?_
  ·exact Ue
  refine Y2 (k:=3) (k':=3) hU [0,2,1] [0,2,1] rfl rfl rfl rfl ⟨rfl,rfl⟩ ?_
  exact Ue
 refine Zn ?_
 refine Yx ?_
 refine zQD [1,4,5,16] [none,none,none,none,none,none,none,none] ?_
 refine Zt (t:=(cond (a0.Of == 1) true (cond (a0.Of == 0) (a0.Q.Kind == 0) false))) rfl (fun c19 => ?_) (fun c19 => ?_)
 ·replace h:=Zw c19 h
  refine Zn ?_
  refine zR ?_
  refine Zah ⟨108,[],[(2,.row (n+3) ([a0.P]:List Zh).length),(3,(vB true))]⟩ (Zy O n [none,none,none,some (oR 53 14 Zg ([a0.P]:List Zh))]) (Z6 hU rfl rfl ?_) ?_
  ·exact Ue
  exact Xg [.row (n+3) ([a0.P]:List Zh).length,(vB true)]
 replace h:=Zv c19 h
 refine zQD [4,5,32] [none,none,none] ?_
 refine Zt (t:=(cond (a0.Of == 2) true (a0.P.Kind == 0))) rfl (fun c18 => ?_) (fun c18 => ?_)
 ·replace h:=Zw c18 h
  refine Zn ?_
  refine zR ?_
  refine Zah ⟨108,[],[(2,.row (n+3) ([a0.Q]:List Zh).length),(3,(vB true))]⟩ (Zy O n [none,none,none,some (oR 53 14 Zg ([a0.Q]:List Zh))]) (Z6 hU rfl rfl ?_) ?_
  ·exact Ue
  exact Xg [.row (n+3) ([a0.Q]:List Zh).length,(vB true)]
 replace h:=Zv c18 h
 refine zQD [4,5,43] [none,none,none] ?_
 refine Zt (t:=(cond (a0.P.Kind == 2) (a0.Q.Kind == 1) false)) rfl (fun c17 => ?_) (fun c17 => ?_)
 ·replace h:=Zw c17 h
  refine Zn ?_
  obtain ⟨y2,hy2,h⟩:=bC h
  refine zCd (X3 hy2) [2,3] [false,false,false] ?_
  exact Xg [nV,(vB y2)]
 replace h:=Zv c17 h
 refine zQ [4,5,57] ?_
 refine Zt (t:=(a0.P.Kind == 2)) rfl (fun c16 => ?_) (fun c16 => ?_)
 ·replace h:=Zw c16 h
  refine Zn ?_
  obtain ⟨x5,hx5,ax5,bx5,cx5,h⟩:=bE (f:=Za) Uk (fun _=>rfl) (by decide) h
  obtain ⟨y6,hy6,h⟩:=bC h
  refine Qu Z5 (by kernel_rfl) [.low,.low,.low,.low,.low,.low,.low,.plain,.plain,.plain,.pass,.bar,.plain] (fun i=>i < (n+3)) [0,1,2,3,4,5,6,7,8,9,10,11,12] [.low,.low,.low,.low,.low,.low,.low,.plain,.plain,.plain,.pass,.bar,.plain] [] (by kernel_rfl) rfl ?_
  refine zF3 ax5 bx5 cx5 ?_
  refine zO ?_
  first | refine PCallA.of (fun _ _=>Uh hy6) ?_ | refine PCall.of (Uh hy6) ?_
  refine zF3 ax5 bx5 cx5 ?_
  refine zO ?_
  refine zDs [6,7] [false,false,false,true] ?_
  refine zR ?_
  refine Zah ⟨108,[],[(2,.row (n+5) ([(⟨2,0,([y6.1]:List Zb),(⟨0,(⟨0,([]:(List Int)),([]:(List Zb))⟩:Zb),(⟨0,([]:(List Int)),([]:(List Zb))⟩:Zb),([]:(List Zj)),([]:(List Zd)),0,([]:(List Zh))⟩:Zc)⟩:Zh)]:List Zh).length),(3,(vB y6.2))]⟩ (Zy O n [none,none,none,none,none,some (oR 53 14 Zg ([(⟨2,0,([y6.1]:List Zb),(⟨0,(⟨0,([]:(List Int)),([]:(List Zb))⟩:Zb),(⟨0,([]:(List Int)),([]:(List Zb))⟩:Zb),([]:(List Zj)),([]:(List Zd)),0,([]:(List Zh))⟩:Zc)⟩:Zh)]:List Zh))]) (Z6 hU rfl rfl ?_) ?_
  ·exact Ue
  exact Xg [.row (n+5) ([(⟨2,0,([y6.1]:List Zb),(⟨0,(⟨0,([]:(List Int)),([]:(List Zb))⟩:Zb),(⟨0,([]:(List Int)),([]:(List Zb))⟩:Zb),([]:(List Zj)),([]:(List Zd)),0,([]:(List Zh))⟩:Zc)⟩:Zh)]:List Zh).length,(vB y6.2)]
 replace h:=Zv c16 h
 refine zQ [4,5,76] ?_
 refine Zt (t:=(a0.Q.Kind == 1)) rfl (fun c15 => ?_) (fun c15 => ?_)
 ·replace h:=Zw c15 h
  refine Zn ?_
  obtain ⟨y10,hy10,h⟩:=bC h
  obtain ⟨x11,hx11,ax11,bx11,cx11,h⟩:=bE (f:=Za) Uk (fun _=>rfl) (by decide) h
  obtain ⟨y12,hy12,h⟩:=bC h
  refine Qu Z5 (by kernel_rfl) [.low,.low,.low,.low,.low,.low,.low,.low,.plain,.plain,.plain,.pass,.bar,.plain] (fun i=>i < (n+3)) [0,1,2,3,4,5,6,7,8,9,10,11,12,13] [.low,.low,.low,.low,.low,.low,.low,.low,.plain,.plain,.plain,.pass,.bar,.plain] [] (by kernel_rfl) rfl ?_
  refine zF3 ax11 bx11 cx11 ?_
  refine zO ?_
  first | refine PCallA.of (fun _ _=>Zdj hy10) ?_ | refine PCall.of (Zdj hy10) ?_
  refine zF3 ax11 bx11 cx11 ?_
  refine zO ?_
  first | refine PCallA.of (fun _ _=>Uh hy12) ?_ | refine PCall.of (Uh hy12) ?_
  refine zF3 ax11 bx11 cx11 ?_
  refine zO ?_
  refine zDs [8,9] [false,false,false,true] ?_
  refine zR ?_
  refine Zah ⟨108,[],[(2,.row (n+5) ([(⟨1,0,([y12.1]:List Zb),(⟨0,(⟨0,([]:(List Int)),([]:(List Zb))⟩:Zb),(⟨0,([]:(List Int)),([]:(List Zb))⟩:Zb),([]:(List Zj)),([]:(List Zd)),0,([]:(List Zh))⟩:Zc)⟩:Zh)]:List Zh).length),(3,(vB y12.2))]⟩ (Zy O n [none,none,none,none,none,some (oR 53 14 Zg ([(⟨1,0,([y12.1]:List Zb),(⟨0,(⟨0,([]:(List Int)),([]:(List Zb))⟩:Zb),(⟨0,([]:(List Int)),([]:(List Zb))⟩:Zb),([]:(List Zj)),([]:(List Zd)),0,([]:(List Zh))⟩:Zc)⟩:Zh)]:List Zh))]) (Z6 hU rfl rfl ?_) ?_
  ·exact Ue
  exact Xg [.row (n+5) ([(⟨1,0,([y12.1]:List Zb),(⟨0,(⟨0,([]:(List Int)),([]:(List Zb))⟩:Zb),(⟨0,([]:(List Int)),([]:(List Zb))⟩:Zb),([]:(List Zj)),([]:(List Zd)),0,([]:(List Zh))⟩:Zc)⟩:Zh)]:List Zh).length,(vB y12.2)]
 replace h:=Zv c15 h
 refine Ud [4,5] [false,true,true] ?_
 refine Zn ?_
 obtain ⟨y14,hy14,h⟩:=bC h
 refine zCd (J3 hy14) [10,11] [false,false,false,true] ?_
 refine Zn ?_
 refine zR ?_
 refine Zah ⟨108,[],[(2,.row (n+4) ([(⟨3,0,([]:(List Zb)),y14.1⟩:Zh)]:List Zh).length),(3,(vB y14.2))]⟩ (Zy O n [none,none,none,none,some (oR 53 14 Zg ([(⟨3,0,([]:(List Zb)),y14.1⟩:Zh)]:List Zh))]) (Z6 hU rfl rfl ?_) ?_
 ·exact Ue
 exact Xg [.row (n+4) ([(⟨3,0,([]:(List Zb)),y14.1⟩:Zh)]:List Zh).length,(vB y14.2)]
theorem Zk2:∀ k,(Jz ((Zq k).1))∧(X8 ((Zq k).2.1))∧(Jj ((Zq k).2.2.1))∧(Yq ((Zq k).2.2.2.1))∧(Xr ((Zq k).2.2.2.2.1))∧(Jk ((Zq k).2.2.2.2.2)):=fun k=>by
 induction k with
 | zero=>exact ⟨@fun a0 a1 r O n h=>(nomatch (show (none:Option _)=some _ from h)),@fun a0 a1 r O n h=>(nomatch (show (none:Option _)=some _ from h)),@fun a0 a1 r O n h=>(nomatch (show (none:Option _)=some _ from h)),@fun a0 a1 r O n h=>(nomatch (show (none:Option _)=some _ from h)),@fun a0 a1 r O n h=>(nomatch (show (none:Option _)=some _ from h)),@fun a0 r O n h=>(nomatch (show (none:Option _)=some _ from h))⟩
 | succ k ih=>exact ⟨@fun a0 a1 r O n h=>Znh (ih.1) (ih.2.1) (ih.2.2.1) (ih.2.2.2.1) (ih.2.2.2.2.1) (ih.2.2.2.2.2)  h,@fun a0 a1 r O n h=>Zh8 (ih.1) (ih.2.1) (ih.2.2.1) (ih.2.2.2.1) (ih.2.2.2.2.1) (ih.2.2.2.2.2)  h,@fun a0 a1 r O n h=>Zmd (ih.1) (ih.2.1) (ih.2.2.1) (ih.2.2.2.1) (ih.2.2.2.2.1) (ih.2.2.2.2.2)  h,@fun a0 a1 r O n h=>Zaz (ih.1) (ih.2.1) (ih.2.2.1) (ih.2.2.2.1) (ih.2.2.2.2.1) (ih.2.2.2.2.2)  h,@fun a0 a1 r O n h=>Zg6 (ih.1) (ih.2.1) (ih.2.2.1) (ih.2.2.2.1) (ih.2.2.2.2.1) (ih.2.2.2.2.2)  h,@fun a0 r O n h=>Zme (ih.1) (ih.2.1) (ih.2.2.1) (ih.2.2.2.1) (ih.2.2.2.2.1) (ih.2.2.2.2.2)  h⟩
theorem Zoq {a0:Zc} {a1:Zc} {r:(Zc×Bool)} {O:Objs} {n:Nat} (h:Zf5 a0 a1=some r):GTo Try.prog 27 [.agg (Zk a0),.agg (Zk a1)] O n (.tup [.agg (Zk r.1),(vB r.2)]) O n:=by
 obtain ⟨k,hk⟩:=Zdf h
 exact (Zk2 k).1  hk
theorem Zop {a0:Zc} {a1:Zc} {r:(Zc×Bool)} {O:Objs} {n:Nat} (h:Zdi a0 a1=some r):GTo Try.prog 10 [.agg (Zk a0),.agg (Zk a1)] O n (.tup [.agg (Zk r.1),(vB r.2)]) O n:=by
 unfold Zdi at h
 refine zFn Try.call10 Try.func10 fun hU hN0 hN => ?_
 show W _ _ _ _ ⟨19,[],[(0,.agg (Zk a0)),(1,.agg (Zk a1))]⟩ (Zy O n []) _
 refine zQ [2,3,4] ?_
 refine Zn ?_
 obtain ⟨y2,hy2,h⟩:=bC h
 refine zCd (Zoq hy2) [4,6,7] [false,false,true,true] ?_
 refine Zn ?_
 refine zQ [4,6,15] ?_
 refine Zt (t:=(!y2.2)) rfl (fun c5 => ?_) (fun c5 => ?_)
 ·replace h:=Zw c5 h
  refine Zn ?_
  refine zRd [4,5] [false,false,true,false] ?_
  exact Xg [.agg [(vI 0),(vI 0),nV,nV,(vI 0),nV,nV,nV,nV,(vI 0),nV],(vB false)]
 replace h:=Zv c5 h
 refine Ud [4,6] [false,false,true,true] ?_
 refine Zn ?_
 obtain ⟨y4,hy4,h⟩:=bC h
 refine zCd (Zjd hy4) [4,5] [false,false,true,false] ?_
 exact Xg [.agg (Zk y4),(vB true)]
theorem Zfh  {r:Bool} {O:Objs} {n:Nat} (h:Kp=some r):GTo Try.prog 9 [] O n ((vB r)) O n:=by
 unfold Kp at h
 refine zFn Try.call9 Try.func9 fun hU hN0 hN => ?_
 show W _ _ _ _ ⟨53,[],[]⟩ (Zy O n []) _
 refine zQ [] ?_
 refine Zn ?_
 refine zR ?_
 refine Zah ⟨53,[],[(1,.row (n+1) ([(⟨10,([1]:List Int),([]:(List Zb))⟩:Zb)]:List Zb).length)]⟩ (Zy O n [none,some (oR 25 3 Za ([(⟨10,([1]:List Int),([]:(List Zb))⟩:Zb)]:List Zb))]) (Z6 hU rfl rfl ?_) ?_
 ·exact Ue
 refine Zah ⟨53,[],[(1,(sL Za ([(⟨10,([1]:List Int),([]:(List Zb))⟩:Zb)]:List Zb)))]⟩ (Zy O n [none,none]) (Z6 hU rfl rfl ?_) ?_
 ·exact Ue
 refine Zn ?_
 refine zR ?_
 refine Zah ⟨53,[],[(1,(sL Za ([(⟨10,([1]:List Int),([]:(List Zb))⟩:Zb)]:List Zb))),(2,.ref (n+3) 0)]⟩ (Zy O n [none,none,some (oR 53 14 Zg ([(⟨2,0,([(⟨10,([1]:List Int),([]:(List Zb))⟩:Zb)]:List Zb),(⟨0,(⟨0,([]:(List Int)),([]:(List Zb))⟩:Zb),(⟨0,([]:(List Int)),([]:(List Zb))⟩:Zb),([]:(List Zj)),([]:(List Zd)),0,([]:(List Zh))⟩:Zc)⟩:Zh),(⟨0,1,([]:(List Zb)),(⟨0,(⟨0,([]:(List Int)),([]:(List Zb))⟩:Zb),(⟨0,([]:(List Int)),([]:(List Zb))⟩:Zb),([]:(List Zj)),([]:(List Zd)),0,([]:(List Zh))⟩:Zc)⟩:Zh)]:List Zh)),some ⟨false,30,11,1,[(vI 3),(vI 0),nV,nV,(vI 0),nV,nV,nV,nV,(vI 4),.row (n+2) ([(⟨2,0,([(⟨10,([1]:List Int),([]:(List Zb))⟩:Zb)]:List Zb),(⟨0,(⟨0,([]:(List Int)),([]:(List Zb))⟩:Zb),(⟨0,([]:(List Int)),([]:(List Zb))⟩:Zb),([]:(List Zj)),([]:(List Zd)),0,([]:(List Zh))⟩:Zc)⟩:Zh),(⟨0,1,([]:(List Zb)),(⟨0,(⟨0,([]:(List Int)),([]:(List Zb))⟩:Zb),(⟨0,([]:(List Int)),([]:(List Zb))⟩:Zb),([]:(List Zj)),([]:(List Zd)),0,([]:(List Zh))⟩:Zc)⟩:Zh)]:List Zh).length]⟩]) (Z6 hU rfl rfl ?_) ?_
 ·exact Ue
 refine Zn ?_
 refine zR ?_
 refine Zah ⟨53,[],[(2,.ref (n+3) 0),(3,.ref (n+5) 0)]⟩ (Zy O n [none,none,some (oR 53 14 Zg ([(⟨2,0,([(⟨10,([1]:List Int),([]:(List Zb))⟩:Zb)]:List Zb),(⟨0,(⟨0,([]:(List Int)),([]:(List Zb))⟩:Zb),(⟨0,([]:(List Int)),([]:(List Zb))⟩:Zb),([]:(List Zj)),([]:(List Zd)),0,([]:(List Zh))⟩:Zc)⟩:Zh),(⟨0,1,([]:(List Zb)),(⟨0,(⟨0,([]:(List Int)),([]:(List Zb))⟩:Zb),(⟨0,([]:(List Int)),([]:(List Zb))⟩:Zb),([]:(List Zj)),([]:(List Zd)),0,([]:(List Zh))⟩:Zc)⟩:Zh)]:List Zh)),some ⟨false,30,11,1,[(vI 3),(vI 0),nV,nV,(vI 0),nV,nV,nV,nV,(vI 4),.row (n+2) ([(⟨2,0,([(⟨10,([1]:List Int),([]:(List Zb))⟩:Zb)]:List Zb),(⟨0,(⟨0,([]:(List Int)),([]:(List Zb))⟩:Zb),(⟨0,([]:(List Int)),([]:(List Zb))⟩:Zb),([]:(List Zj)),([]:(List Zd)),0,([]:(List Zh))⟩:Zc)⟩:Zh),(⟨0,1,([]:(List Zb)),(⟨0,(⟨0,([]:(List Int)),([]:(List Zb))⟩:Zb),(⟨0,([]:(List Int)),([]:(List Zb))⟩:Zb),([]:(List Zj)),([]:(List Zd)),0,([]:(List Zh))⟩:Zc)⟩:Zh)]:List Zh).length]⟩,some (oR 53 14 Zg ([(⟨1,0,([(⟨10,([1]:List Int),([]:(List Zb))⟩:Zb)]:List Zb),(⟨0,(⟨0,([]:(List Int)),([]:(List Zb))⟩:Zb),(⟨0,([]:(List Int)),([]:(List Zb))⟩:Zb),([]:(List Zj)),([]:(List Zd)),0,([]:(List Zh))⟩:Zc)⟩:Zh),(⟨0,1,([]:(List Zb)),(⟨0,(⟨0,([]:(List Int)),([]:(List Zb))⟩:Zb),(⟨0,([]:(List Int)),([]:(List Zb))⟩:Zb),([]:(List Zj)),([]:(List Zd)),0,([]:(List Zh))⟩:Zc)⟩:Zh)]:List Zh)),some ⟨false,30,11,1,[(vI 3),(vI 0),nV,nV,(vI 0),nV,nV,nV,nV,(vI 4),.row (n+4) ([(⟨1,0,([(⟨10,([1]:List Int),([]:(List Zb))⟩:Zb)]:List Zb),(⟨0,(⟨0,([]:(List Int)),([]:(List Zb))⟩:Zb),(⟨0,([]:(List Int)),([]:(List Zb))⟩:Zb),([]:(List Zj)),([]:(List Zd)),0,([]:(List Zh))⟩:Zc)⟩:Zh),(⟨0,1,([]:(List Zb)),(⟨0,(⟨0,([]:(List Int)),([]:(List Zb))⟩:Zb),(⟨0,([]:(List Int)),([]:(List Zb))⟩:Zb),([]:(List Zj)),([]:(List Zd)),0,([]:(List Zh))⟩:Zc)⟩:Zh)]:List Zh).length]⟩]) (Z6 hU rfl rfl ?_) ?_
 ·exact Ue
 refine Zah ⟨53,[],[(2,.ref (n+3) 0),(3,.ref (n+5) 0)]⟩ (Zy O n [none,none,none,some ⟨false,30,11,1,[(vI 3),(vI 0),nV,nV,(vI 0),nV,nV,nV,nV,(vI 4),(sL Zg ([(⟨2,0,([(⟨10,([1]:List Int),([]:(List Zb))⟩:Zb)]:List Zb),(⟨0,(⟨0,([]:(List Int)),([]:(List Zb))⟩:Zb),(⟨0,([]:(List Int)),([]:(List Zb))⟩:Zb),([]:(List Zj)),([]:(List Zd)),0,([]:(List Zh))⟩:Zc)⟩:Zh),(⟨0,1,([]:(List Zb)),(⟨0,(⟨0,([]:(List Int)),([]:(List Zb))⟩:Zb),(⟨0,([]:(List Int)),([]:(List Zb))⟩:Zb),([]:(List Zj)),([]:(List Zd)),0,([]:(List Zh))⟩:Zc)⟩:Zh)]:List Zh))]⟩,none,some ⟨false,30,11,1,[(vI 3),(vI 0),nV,nV,(vI 0),nV,nV,nV,nV,(vI 4),(sL Zg ([(⟨1,0,([(⟨10,([1]:List Int),([]:(List Zb))⟩:Zb)]:List Zb),(⟨0,(⟨0,([]:(List Int)),([]:(List Zb))⟩:Zb),(⟨0,([]:(List Int)),([]:(List Zb))⟩:Zb),([]:(List Zj)),([]:(List Zd)),0,([]:(List Zh))⟩:Zc)⟩:Zh),(⟨0,1,([]:(List Zb)),(⟨0,(⟨0,([]:(List Int)),([]:(List Zb))⟩:Zb),(⟨0,([]:(List Int)),([]:(List Zb))⟩:Zb),([]:(List Zj)),([]:(List Zd)),0,([]:(List Zh))⟩:Zc)⟩:Zh)]:List Zh))]⟩]) (Z6 hU rfl rfl ?_) ?_
 ·exact Ue
 refine Zn ?_
 obtain ⟨y2,hy2,h⟩:=bC h
 refine zR ?_
 refine GCalls.argsW ?_ ((Zop hy2).then ?_)
 ·exact Ue
 refine zS ?_
 refine zD [4,5] [false,false,false,false,false,false,true] ?_
 obtain ⟨z7,hz7,h⟩:=bC h
 refine Xj (E':=⟨53,[],[(0,(vB z7))]⟩) (O':=(Zy O n [none,none,none,none,none,none,none])) (n0:=(n+7)) ?_ ?_
 ·rcases Bool.eq_false_or_eq_true y2.2 with c16 | c16
  ·replace hz7:=Zw c16 hz7
   rcases Bool.eq_false_or_eq_true (y2.1.Kind == 3) with c17 | c17
   ·replace hz7:=Zw c17 hz7
    try rw [c17] at c16
    rcases Bool.eq_false_or_eq_true ((y2.1.Ops.length:Int) == 1) with c18 | c18
    ·replace hz7:=Zw c18 hz7
     try rw [c18] at c16
     try rw [c18] at c17
     obtain ⟨x12,hx12,ax12,bx12,cx12,hz7⟩:=bE (f:=Zg) Ze2 (fun _=>rfl) (by decide) hz7
     have g13:=Zks (f:=Zg) (sz:=14) Zzi (fun _=>rfl) (by decide) (by decide) hx12
     rcases Bool.eq_false_or_eq_true (x12.Kind == 0) with c19 | c19
     ·replace hz7:=Zw c19 hz7
      try rw [c19] at c16
      try rw [c19] at c17
      try rw [c19] at c18
      have g15:=Zsv (f:=Zg) (off:=1) (sz:=14) Zzi (fun _=>rfl) (by decide) (by decide) hx12
      refine Yz Z5 [none,none,none,none,none,none,none,some true,some true,some true,some true,some true,some true,some true,some true,some true,some true,some true,some true] ?_
      refine zF9 c16 c17 c18 ax12 bx12 cx12 g13 c19 g15 ?_
      refine zG ?_
      have hz7:=Option.some.inj hz7;subst hz7
      refine And.intro rfl (Fit2.of (Z6 hU rfl rfl ?_) (by omega))
      exact Zv6 c16 c17 c18 ax12 bx12 cx12 g13 c19 g15
     replace hz7:=Zv c19 hz7
     try rw [c19] at c16
     try rw [c19] at c17
     try rw [c19] at c18
     refine Z8j [none,none,none,none,none,none,none,some true,some true,some true,some true,some true,some true,some false,some false,some false,some false,some false,some false] c16 c17 c18 ax12 bx12 cx12 g13 c19 ?_
     refine zG ?_
     exact Z4q hz7 c16 c17 c18 ax12 bx12 cx12 g13 c19
    replace hz7:=Zv c18 hz7
    try rw [c18] at c16
    try rw [c18] at c17
    refine Zg2 [none,none,none,none,none,none,none,some false,some false,some false,some false,some false,some false,some false,some false,some false,some false,some false,some false] c16 c17 c18 ?_
    refine zG ?_
    exact Zhu hz7 c16 c17 c18
   replace hz7:=Zv c17 hz7
   try rw [c17] at c16
   refine V0 [none,none,none,none,none,none,none,some false,some false,some false,some false,some false,some false,some false,some false,some false,some false,some false,some false] c16 c17 ?_
   refine zG ?_
   exact Ziq hz7 c16 c17
  replace hz7:=Zv c16 hz7
  refine Zc1 [none,none,none,none,none,none,none,some false,some false,some false,some false,some false,some false,some false,some false,some false,some false,some false,some false] c16 ?_
  refine zG ?_
  exact U5 hz7 c16
 exact Xg [(vB z7)]
attribute [local push_cast] Try.results19 Try.results5
theorem Zk7 {a0:Zj} {a1:Zj} {r:(Zj×Bool)} {O:Objs} {n:Nat} (h:V7 a0 a1=some r):GTo Try.prog 19 [.agg (Zl a0),.agg (Zl a1)] O n (.tup [.agg (Zl r.1),(vB r.2)]) O n:=by
 unfold V7 at h
 refine zFn Try.call19 Try.func19 fun hU hN0 hN => ?_
 show W _ _ _ _ ⟨105,[],[(0,.agg (Zl a0)),(1,.agg (Zl a1))]⟩ (Zy O n []) _
 refine zQ [2,3,4] ?_
 refine Zn ?_
 refine zRd [2,3,4,6] [true,true,true,true] ?_
 obtain ⟨y25,hy25,h⟩:=bC h
 obtain ⟨y61,hy61,h⟩:=bC h
 obtain ⟨y97,hy97,h⟩:=bC h
 obtain ⟨y133,hy133,h⟩:=bC h
 obtain ⟨y145,hy145,ey145,h⟩:=bY (f:=(eI .u8)) (cs:=[.val (.int .u8 0),.val (.int .u8 0),.val (.int .u8 0),.val (.int .u8 0),.val (.int .u8 0),.val (.int .u8 0),.val (.int .u8 0),.val (.int .u8 0)]) rfl h
 have g146:=congrArg (GObj.mk false 65 8 1) ey145
 have g157:=congrArg (GObj.mk false 65 8 1) ey145
 have g169:=congrArg (GObj.mk false 65 8 1) ey145
 have g181:=congrArg (GObj.mk false 65 8 1) ey145
 have g193:=Zan (f:=(eI .u8)) y145 y25 (fun _=>rfl)
 have g205:=Zan (f:=(eI .u8)) y145 y61 (fun _=>rfl)
 have g217:=Zan (f:=(eI .u8)) y145 y97 (fun _=>rfl)
 have g229:=Zan (f:=(eI .u8)) y145 y133 (fun _=>rfl)
 refine Xj (E':=⟨105,[],[(2,.ref n 0),(3,.ref (n+1) 0),(4,.ref (n+2) 0),(6,.ref (n+3) 0),(7,.ref (n+4) 0),(8,.ref (n+5) 0),(9,.ref (n+6) 0),(10,.ref (n+7) 0)]⟩) (O':=(Zy O n [some ⟨false,42,4,1,(Zl a0)⟩,some ⟨false,42,4,1,(Zl a1)⟩,some ⟨false,42,4,1,[(vI 0),.val (.int .u8 0),.val (.int .u64 0),.val (.int .u64 0)]⟩,some ⟨false,42,4,1,[(vI a0.At),.val (.int .u8 0),.val (.int .u64 0),.val (.int .u64 0)]⟩,some ⟨false,65,8,1,fl (eI .u8) y25.1⟩,some ⟨false,65,8,1,fl (eI .u8) y61.1⟩,some ⟨false,65,8,1,fl (eI .u8) y97.1⟩,some ⟨false,65,8,1,fl (eI .u8) y133.1⟩])) (n0:=(n+8)) ?_ ?_
 ·refine Zz0 Z5 (by kernel_rfl) [.low,.low,.low,.low,.low,.low,.low,.low,.low,.low,.low,.low,.pass,.pass,.pass,.pass,.pass,.pass,.pass,.pass] (fun i=>i < (n+4)) [0,1,2,3,4,5,6,7,8,9,10,11] [12,13,14,15] [16,17,18,19] (.alt 12 (.alt 13 (.alt 14 (.seq [15]) (.one 15 (.seq [14]))) (.alt 14 (.alt 13 (.seq [15]) (.one 15 (.seq [13]))) (.one 15 (.alt 13 (.seq [14]) (.one 14 (.seq [13])))))) (.alt 13 (.alt 12 (.alt 14 (.seq [15]) (.one 15 (.seq [14]))) (.alt 14 (.alt 12 (.seq [15]) (.one 15 (.seq [12]))) (.one 15 (.alt 12 (.seq [14]) (.one 14 (.seq [12])))))) (.alt 14 (.alt 12 (.alt 13 (.seq [15]) (.one 15 (.seq [13]))) (.alt 13 (.alt 12 (.seq [15]) (.one 15 (.seq [12]))) (.one 15 (.alt 12 (.seq [13]) (.one 13 (.seq [12])))))) (.one 15 (.alt 12 (.alt 13 (.seq [14]) (.one 14 (.seq [13]))) (.alt 13 (.alt 12 (.seq [14]) (.one 14 (.seq [12]))) (.one 14 (.alt 12 (.seq [13]) (.one 13 (.seq [12])))))))))) [.low,.low,.low,.low,.low,.low,.low,.low,.low,.low,.low,.low] [] (by kernel_rfl) rfl ?_
  simp (maxSteps:=4000000) only [push_cast,seval,↓reduceIte,Ze,g146,g157,g169,g181,g193,g205,g217,g229,hN0,hN]
  repeat (with_reducible refine And.intro (by omega) ?_)
  first | refine PCallA.of (fun _ _=>Xp hy25) ?_ | refine PCall.of (Xp hy25) ?_
  try simp (maxSteps:=4000000) only [push_cast,seval,↓reduceIte,Ze,g146,g157,g169,g181,g193,g205,g217,g229,hN0,hN]
  repeat (with_reducible refine And.intro (by omega) ?_)
  first | refine PCallA.of (fun _ _=>Xp hy61) ?_ | refine PCall.of (Xp hy61) ?_
  try simp only [push_cast,seval,↓reduceIte,Ze,g146,g157,g169,g181,g193,g205,g217,g229,hN0,hN]
  repeat (with_reducible refine And.intro (by omega) ?_)
  first | refine PCallA.of (fun _ _=>Xp hy97) ?_ | refine PCall.of (Xp hy97) ?_
  try simp only [push_cast,seval,↓reduceIte,Ze,g146,g157,g169,g181,g193,g205,g217,g229,hN0,hN]
  repeat (with_reducible refine And.intro (by omega) ?_)
  first | refine PCallA.of (fun _ _=>Xp hy133) ?_ | refine PCall.of (Xp hy133) ?_
  try simp only [push_cast,seval,↓reduceIte,Ze,g146,g157,g169,g181,g193,g205,g217,g229,hN0,hN]
  repeat (with_reducible refine And.intro (by omega) ?_)
  try simp only [push_cast,seval,↓reduceIte,Ze,g146,g157,g169,g181,g193,g205,g217,g229,hN0,hN]
  refine And.intro ?_ ?_
  ·try simp only [push_cast,seval,↓reduceIte,Ze,g146,g157,g169,g181,g193,g205,g217,g229,hN0,hN]
   repeat (with_reducible refine And.intro (by first | exact Z0 rfl | exact Zs) ?_)
   try simp only [push_cast,seval,↓reduceIte,Ze,g146,g157,g169,g181,g193,g205,g217,g229,hN0,hN]
   refine And.intro ?_ ?_
   ·try simp only [push_cast,seval,↓reduceIte,Ze,g146,g157,g169,g181,g193,g205,g217,g229,hN0,hN]
    repeat (with_reducible refine And.intro (by first | exact Z0 rfl | exact Zs) ?_)
    try simp only [push_cast,seval,↓reduceIte,Ze,g146,g157,g169,g181,g193,g205,g217,g229,hN0,hN]
    refine And.intro ?_ ?_
    ·try simp only [push_cast,seval,↓reduceIte,Ze,g146,g157,g169,g181,g193,g205,g217,g229,hN0,hN]
     repeat (with_reducible refine And.intro (by first | exact Z0 rfl | exact Zs) ?_)
     try simp only [push_cast,seval,↓reduceIte,Ze,g146,g157,g169,g181,g193,g205,g217,g229,hN0,hN]
     repeat (with_reducible refine And.intro (by first | exact Z0 rfl | exact Zs) ?_)
     exact Z8c g146 g157 g169 g181 g193 g205 g217 g229
    try simp only [push_cast,seval,↓reduceIte,Ze,g146,g157,g169,g181,g193,g205,g217,g229,hN0,hN]
    repeat (with_reducible refine And.intro (by first | exact Z0 rfl | exact Zs) ?_)
    try simp only [push_cast,seval,↓reduceIte,Ze,g146,g157,g169,g181,g193,g205,g217,g229,hN0,hN]
    repeat (with_reducible refine And.intro (by first | exact Z0 rfl | exact Zs) ?_)
    refine And.intro rfl ?_
    refine Fit2.trans (E':=(⟨105,[],[(2,.ref n 0),(3,.ref (n+1) 0),(4,.ref (n+2) 0),(6,.ref (n+3) 0),(7,.ref (n+4) 0),(8,.ref (n+5) 0),(9,.ref (n+7) 0),(10,.ref (n+6) 0)]⟩:Env)) (O':=(Zy O n [some ⟨false,42,4,1,(Zl a0)⟩,some ⟨false,42,4,1,(Zl a1)⟩,some ⟨false,42,4,1,[(vI 0),.val (.int .u8 0),.val (.int .u64 0),.val (.int .u64 0)]⟩,some ⟨false,42,4,1,[(vI a0.At),.val (.int .u8 0),.val (.int .u64 0),.val (.int .u64 0)]⟩,some ⟨false,65,8,1,fl (eI .u8) y25.1⟩,some ⟨false,65,8,1,fl (eI .u8) y61.1⟩,some ⟨false,65,8,1,fl (eI .u8) y133.1⟩,some ⟨false,65,8,1,fl (eI .u8) y97.1⟩])) (n':=(n+8)) (Fit2.of (Z6 hU rfl rfl ?_) (by omega)) ?_
    ·simp only [push_cast,seval,↓reduceIte,Ze,g146,g157,g169,g181,g193,g205,g217,g229,hN0,hN]
    refine Y2 (k:=8) (k':=8) hU [0,1,2,3,4,5,7,6] [0,1,2,3,4,5,7,6] rfl rfl rfl rfl ⟨rfl,rfl⟩ ?_
    exact Ue
   try simp only [push_cast,seval,↓reduceIte,Ze,g146,g157,g169,g181,g193,g205,g217,g229,hN0,hN]
   refine And.intro ?_ ?_
   ·try simp only [push_cast,seval,↓reduceIte,Ze,g146,g157,g169,g181,g193,g205,g217,g229,hN0,hN]
    repeat (with_reducible refine And.intro (by first | exact Z0 rfl | exact Zs) ?_)
    try simp only [push_cast,seval,↓reduceIte,Ze,g146,g157,g169,g181,g193,g205,g217,g229,hN0,hN]
    refine And.intro ?_ ?_
    ·try simp only [push_cast,seval,↓reduceIte,Ze,g146,g157,g169,g181,g193,g205,g217,g229,hN0,hN]
     repeat (with_reducible refine And.intro (by first | exact Z0 rfl | exact Zs) ?_)
     try simp only [push_cast,seval,↓reduceIte,Ze,g146,g157,g169,g181,g193,g205,g217,g229,hN0,hN]
     repeat (with_reducible refine And.intro (by first | exact Z0 rfl | exact Zs) ?_)
     refine And.intro rfl ?_
     refine Fit2.trans (E':=(⟨105,[],[(2,.ref n 0),(3,.ref (n+1) 0),(4,.ref (n+2) 0),(6,.ref (n+3) 0),(7,.ref (n+4) 0),(8,.ref (n+6) 0),(9,.ref (n+5) 0),(10,.ref (n+7) 0)]⟩:Env)) (O':=(Zy O n [some ⟨false,42,4,1,(Zl a0)⟩,some ⟨false,42,4,1,(Zl a1)⟩,some ⟨false,42,4,1,[(vI 0),.val (.int .u8 0),.val (.int .u64 0),.val (.int .u64 0)]⟩,some ⟨false,42,4,1,[(vI a0.At),.val (.int .u8 0),.val (.int .u64 0),.val (.int .u64 0)]⟩,some ⟨false,65,8,1,fl (eI .u8) y25.1⟩,some ⟨false,65,8,1,fl (eI .u8) y97.1⟩,some ⟨false,65,8,1,fl (eI .u8) y61.1⟩,some ⟨false,65,8,1,fl (eI .u8) y133.1⟩])) (n':=(n+8)) (Fit2.of (Z6 hU rfl rfl ?_) (by omega)) ?_
     ·simp only [push_cast,seval,↓reduceIte,Ze,g146,g157,g169,g181,g193,g205,g217,g229,hN0,hN]
     refine Y2 (k:=8) (k':=8) hU [0,1,2,3,4,6,5,7] [0,1,2,3,4,6,5,7] rfl rfl rfl rfl ⟨rfl,rfl⟩ ?_
     exact Ue
    try simp only [push_cast,seval,↓reduceIte,Ze,g146,g157,g169,g181,g193,g205,g217,g229,hN0,hN]
    repeat (with_reducible refine And.intro (by first | exact Z0 rfl | exact Zs) ?_)
    try simp only [push_cast,seval,↓reduceIte,Ze,g146,g157,g169,g181,g193,g205,g217,g229,hN0,hN]
    repeat (with_reducible refine And.intro (by first | exact Z0 rfl | exact Zs) ?_)
    refine And.intro rfl ?_
    refine Fit2.trans (E':=(⟨105,[],[(2,.ref n 0),(3,.ref (n+1) 0),(4,.ref (n+2) 0),(6,.ref (n+3) 0),(7,.ref (n+4) 0),(8,.ref (n+7) 0),(9,.ref (n+5) 0),(10,.ref (n+6) 0)]⟩:Env)) (O':=(Zy O n [some ⟨false,42,4,1,(Zl a0)⟩,some ⟨false,42,4,1,(Zl a1)⟩,some ⟨false,42,4,1,[(vI 0),.val (.int .u8 0),.val (.int .u64 0),.val (.int .u64 0)]⟩,some ⟨false,42,4,1,[(vI a0.At),.val (.int .u8 0),.val (.int .u64 0),.val (.int .u64 0)]⟩,some ⟨false,65,8,1,fl (eI .u8) y25.1⟩,some ⟨false,65,8,1,fl (eI .u8) y97.1⟩,some ⟨false,65,8,1,fl (eI .u8) y133.1⟩,some ⟨false,65,8,1,fl (eI .u8) y61.1⟩])) (n':=(n+8)) (Fit2.of (Z6 hU rfl rfl ?_) (by omega)) ?_
    ·simp only [push_cast,seval,↓reduceIte,Ze,g146,g157,g169,g181,g193,g205,g217,g229,hN0,hN]
    refine Y2 (k:=8) (k':=8) hU [0,1,2,3,4,6,7,5] [0,1,2,3,4,7,5,6] rfl rfl rfl rfl ⟨rfl,rfl⟩ ?_
    exact Ue
   try simp only [push_cast,seval,↓reduceIte,Ze,g146,g157,g169,g181,g193,g205,g217,g229,hN0,hN]
   repeat (with_reducible refine And.intro (by first | exact Z0 rfl | exact Zs) ?_)
   try simp only [push_cast,seval,↓reduceIte,Ze,g146,g157,g169,g181,g193,g205,g217,g229,hN0,hN]
   refine And.intro ?_ ?_
   ·try simp only [push_cast,seval,↓reduceIte,Ze,g146,g157,g169,g181,g193,g205,g217,g229,hN0,hN]
    repeat (with_reducible refine And.intro (by first | exact Z0 rfl | exact Zs) ?_)
    try simp only [push_cast,seval,↓reduceIte,Ze,g146,g157,g169,g181,g193,g205,g217,g229,hN0,hN]
    repeat (with_reducible refine And.intro (by first | exact Z0 rfl | exact Zs) ?_)
    refine And.intro rfl ?_
    refine Fit2.trans (E':=(⟨105,[],[(2,.ref n 0),(3,.ref (n+1) 0),(4,.ref (n+2) 0),(6,.ref (n+3) 0),(7,.ref (n+4) 0),(8,.ref (n+6) 0),(9,.ref (n+7) 0),(10,.ref (n+5) 0)]⟩:Env)) (O':=(Zy O n [some ⟨false,42,4,1,(Zl a0)⟩,some ⟨false,42,4,1,(Zl a1)⟩,some ⟨false,42,4,1,[(vI 0),.val (.int .u8 0),.val (.int .u64 0),.val (.int .u64 0)]⟩,some ⟨false,42,4,1,[(vI a0.At),.val (.int .u8 0),.val (.int .u64 0),.val (.int .u64 0)]⟩,some ⟨false,65,8,1,fl (eI .u8) y25.1⟩,some ⟨false,65,8,1,fl (eI .u8) y133.1⟩,some ⟨false,65,8,1,fl (eI .u8) y61.1⟩,some ⟨false,65,8,1,fl (eI .u8) y97.1⟩])) (n':=(n+8)) (Fit2.of (Z6 hU rfl rfl ?_) (by omega)) ?_
    ·simp only [push_cast,seval,↓reduceIte,Ze,g146,g157,g169,g181,g193,g205,g217,g229,hN0,hN]
    refine Y2 (k:=8) (k':=8) hU [0,1,2,3,4,7,5,6] [0,1,2,3,4,6,7,5] rfl rfl rfl rfl ⟨rfl,rfl⟩ ?_
    exact Ue
   try simp only [push_cast,seval,↓reduceIte,Ze,g146,g157,g169,g181,g193,g205,g217,g229,hN0,hN]
   repeat (with_reducible refine And.intro (by first | exact Z0 rfl | exact Zs) ?_)
   try simp only [push_cast,seval,↓reduceIte,Ze,g146,g157,g169,g181,g193,g205,g217,g229,hN0,hN]
   repeat (with_reducible refine And.intro (by first | exact Z0 rfl | exact Zs) ?_)
   refine And.intro rfl ?_
   refine Fit2.trans (E':=(⟨105,[],[(2,.ref n 0),(3,.ref (n+1) 0),(4,.ref (n+2) 0),(6,.ref (n+3) 0),(7,.ref (n+4) 0),(8,.ref (n+7) 0),(9,.ref (n+6) 0),(10,.ref (n+5) 0)]⟩:Env)) (O':=(Zy O n [some ⟨false,42,4,1,(Zl a0)⟩,some ⟨false,42,4,1,(Zl a1)⟩,some ⟨false,42,4,1,[(vI 0),.val (.int .u8 0),.val (.int .u64 0),.val (.int .u64 0)]⟩,some ⟨false,42,4,1,[(vI a0.At),.val (.int .u8 0),.val (.int .u64 0),.val (.int .u64 0)]⟩,some ⟨false,65,8,1,fl (eI .u8) y25.1⟩,some ⟨false,65,8,1,fl (eI .u8) y133.1⟩,some ⟨false,65,8,1,fl (eI .u8) y97.1⟩,some ⟨false,65,8,1,fl (eI .u8) y61.1⟩])) (n':=(n+8)) (Fit2.of (Z6 hU rfl rfl ?_) (by omega)) ?_
   ·simp only [push_cast,seval,↓reduceIte,Ze,g146,g157,g169,g181,g193,g205,g217,g229,hN0,hN]
   refine Y2 (k:=8) (k':=8) hU [0,1,2,3,4,7,6,5] [0,1,2,3,4,7,6,5] rfl rfl rfl rfl ⟨rfl,rfl⟩ ?_
   exact Ue
  try simp only [push_cast,seval,↓reduceIte,Ze,g146,g157,g169,g181,g193,g205,g217,g229,hN0,hN]
  refine And.intro ?_ ?_
  ·try simp only [push_cast,seval,↓reduceIte,Ze,g146,g157,g169,g181,g193,g205,g217,g229,hN0,hN]
   repeat (with_reducible refine And.intro (by first | exact Z0 rfl | exact Zs) ?_)
   try simp only [push_cast,seval,↓reduceIte,Ze,g146,g157,g169,g181,g193,g205,g217,g229,hN0,hN]
   refine And.intro ?_ ?_
   ·try simp only [push_cast,seval,↓reduceIte,Ze,g146,g157,g169,g181,g193,g205,g217,g229,hN0,hN]
    repeat (with_reducible refine And.intro (by first | exact Z0 rfl | exact Zs) ?_)
    try simp only [push_cast,seval,↓reduceIte,Ze,g146,g157,g169,g181,g193,g205,g217,g229,hN0,hN]
    refine And.intro ?_ ?_
    ·try simp only [push_cast,seval,↓reduceIte,Ze,g146,g157,g169,g181,g193,g205,g217,g229,hN0,hN]
     repeat (with_reducible refine And.intro (by first | exact Z0 rfl | exact Zs) ?_)
     try simp only [push_cast,seval,↓reduceIte,Ze,g146,g157,g169,g181,g193,g205,g217,g229,hN0,hN]
     repeat (with_reducible refine And.intro (by first | exact Z0 rfl | exact Zs) ?_)
     refine And.intro rfl ?_
     refine Fit2.trans (E':=(⟨105,[],[(2,.ref n 0),(3,.ref (n+1) 0),(4,.ref (n+2) 0),(6,.ref (n+3) 0),(7,.ref (n+5) 0),(8,.ref (n+4) 0),(9,.ref (n+6) 0),(10,.ref (n+7) 0)]⟩:Env)) (O':=(Zy O n [some ⟨false,42,4,1,(Zl a0)⟩,some ⟨false,42,4,1,(Zl a1)⟩,some ⟨false,42,4,1,[(vI 0),.val (.int .u8 0),.val (.int .u64 0),.val (.int .u64 0)]⟩,some ⟨false,42,4,1,[(vI a0.At),.val (.int .u8 0),.val (.int .u64 0),.val (.int .u64 0)]⟩,some ⟨false,65,8,1,fl (eI .u8) y61.1⟩,some ⟨false,65,8,1,fl (eI .u8) y25.1⟩,some ⟨false,65,8,1,fl (eI .u8) y97.1⟩,some ⟨false,65,8,1,fl (eI .u8) y133.1⟩])) (n':=(n+8)) (Fit2.of (Z6 hU rfl rfl ?_) (by omega)) ?_
     ·simp only [push_cast,seval,↓reduceIte,Ze,g146,g157,g169,g181,g193,g205,g217,g229,hN0,hN]
     refine Y2 (k:=8) (k':=8) hU [0,1,2,3,5,4,6,7] [0,1,2,3,5,4,6,7] rfl rfl rfl rfl ⟨rfl,rfl⟩ ?_
     exact Ue
    try simp only [push_cast,seval,↓reduceIte,Ze,g146,g157,g169,g181,g193,g205,g217,g229,hN0,hN]
    repeat (with_reducible refine And.intro (by first | exact Z0 rfl | exact Zs) ?_)
    try simp only [push_cast,seval,↓reduceIte,Ze,g146,g157,g169,g181,g193,g205,g217,g229,hN0,hN]
    repeat (with_reducible refine And.intro (by first | exact Z0 rfl | exact Zs) ?_)
    refine And.intro rfl ?_
    refine Fit2.trans (E':=(⟨105,[],[(2,.ref n 0),(3,.ref (n+1) 0),(4,.ref (n+2) 0),(6,.ref (n+3) 0),(7,.ref (n+5) 0),(8,.ref (n+4) 0),(9,.ref (n+7) 0),(10,.ref (n+6) 0)]⟩:Env)) (O':=(Zy O n [some ⟨false,42,4,1,(Zl a0)⟩,some ⟨false,42,4,1,(Zl a1)⟩,some ⟨false,42,4,1,[(vI 0),.val (.int .u8 0),.val (.int .u64 0),.val (.int .u64 0)]⟩,some ⟨false,42,4,1,[(vI a0.At),.val (.int .u8 0),.val (.int .u64 0),.val (.int .u64 0)]⟩,some ⟨false,65,8,1,fl (eI .u8) y61.1⟩,some ⟨false,65,8,1,fl (eI .u8) y25.1⟩,some ⟨false,65,8,1,fl (eI .u8) y133.1⟩,some ⟨false,65,8,1,fl (eI .u8) y97.1⟩])) (n':=(n+8)) (Fit2.of (Z6 hU rfl rfl ?_) (by omega)) ?_
    ·simp only [push_cast,seval,↓reduceIte,Ze,g146,g157,g169,g181,g193,g205,g217,g229,hN0,hN]
    refine Y2 (k:=8) (k':=8) hU [0,1,2,3,5,4,7,6] [0,1,2,3,5,4,7,6] rfl rfl rfl rfl ⟨rfl,rfl⟩ ?_
    exact Ue
   try simp only [push_cast,seval,↓reduceIte,Ze,g146,g157,g169,g181,g193,g205,g217,g229,hN0,hN]
   refine And.intro ?_ ?_
   ·try simp only [push_cast,seval,↓reduceIte,Ze,g146,g157,g169,g181,g193,g205,g217,g229,hN0,hN]
    repeat (with_reducible refine And.intro (by first | exact Z0 rfl | exact Zs) ?_)
    try simp only [push_cast,seval,↓reduceIte,Ze,g146,g157,g169,g181,g193,g205,g217,g229,hN0,hN]
    refine And.intro ?_ ?_
    ·try simp only [push_cast,seval,↓reduceIte,Ze,g146,g157,g169,g181,g193,g205,g217,g229,hN0,hN]
     repeat (with_reducible refine And.intro (by first | exact Z0 rfl | exact Zs) ?_)
     try simp only [push_cast,seval,↓reduceIte,Ze,g146,g157,g169,g181,g193,g205,g217,g229,hN0,hN]
     repeat (with_reducible refine And.intro (by first | exact Z0 rfl | exact Zs) ?_)
     refine And.intro rfl ?_
     refine Fit2.trans (E':=(⟨105,[],[(2,.ref n 0),(3,.ref (n+1) 0),(4,.ref (n+2) 0),(6,.ref (n+3) 0),(7,.ref (n+6) 0),(8,.ref (n+4) 0),(9,.ref (n+5) 0),(10,.ref (n+7) 0)]⟩:Env)) (O':=(Zy O n [some ⟨false,42,4,1,(Zl a0)⟩,some ⟨false,42,4,1,(Zl a1)⟩,some ⟨false,42,4,1,[(vI 0),.val (.int .u8 0),.val (.int .u64 0),.val (.int .u64 0)]⟩,some ⟨false,42,4,1,[(vI a0.At),.val (.int .u8 0),.val (.int .u64 0),.val (.int .u64 0)]⟩,some ⟨false,65,8,1,fl (eI .u8) y61.1⟩,some ⟨false,65,8,1,fl (eI .u8) y97.1⟩,some ⟨false,65,8,1,fl (eI .u8) y25.1⟩,some ⟨false,65,8,1,fl (eI .u8) y133.1⟩])) (n':=(n+8)) (Fit2.of (Z6 hU rfl rfl ?_) (by omega)) ?_
     ·simp only [push_cast,seval,↓reduceIte,Ze,g146,g157,g169,g181,g193,g205,g217,g229,hN0,hN]
     refine Y2 (k:=8) (k':=8) hU [0,1,2,3,5,6,4,7] [0,1,2,3,6,4,5,7] rfl rfl rfl rfl ⟨rfl,rfl⟩ ?_
     exact Ue
    try simp only [push_cast,seval,↓reduceIte,Ze,g146,g157,g169,g181,g193,g205,g217,g229,hN0,hN]
    repeat (with_reducible refine And.intro (by first | exact Z0 rfl | exact Zs) ?_)
    try simp only [push_cast,seval,↓reduceIte,Ze,g146,g157,g169,g181,g193,g205,g217,g229,hN0,hN]
    repeat (with_reducible refine And.intro (by first | exact Z0 rfl | exact Zs) ?_)
    refine And.intro rfl ?_
    refine Fit2.trans (E':=(⟨105,[],[(2,.ref n 0),(3,.ref (n+1) 0),(4,.ref (n+2) 0),(6,.ref (n+3) 0),(7,.ref (n+7) 0),(8,.ref (n+4) 0),(9,.ref (n+5) 0),(10,.ref (n+6) 0)]⟩:Env)) (O':=(Zy O n [some ⟨false,42,4,1,(Zl a0)⟩,some ⟨false,42,4,1,(Zl a1)⟩,some ⟨false,42,4,1,[(vI 0),.val (.int .u8 0),.val (.int .u64 0),.val (.int .u64 0)]⟩,some ⟨false,42,4,1,[(vI a0.At),.val (.int .u8 0),.val (.int .u64 0),.val (.int .u64 0)]⟩,some ⟨false,65,8,1,fl (eI .u8) y61.1⟩,some ⟨false,65,8,1,fl (eI .u8) y97.1⟩,some ⟨false,65,8,1,fl (eI .u8) y133.1⟩,some ⟨false,65,8,1,fl (eI .u8) y25.1⟩])) (n':=(n+8)) (Fit2.of (Z6 hU rfl rfl ?_) (by omega)) ?_
    ·simp only [push_cast,seval,↓reduceIte,Ze,g146,g157,g169,g181,g193,g205,g217,g229,hN0,hN]
    refine Y2 (k:=8) (k':=8) hU [0,1,2,3,5,6,7,4] [0,1,2,3,7,4,5,6] rfl rfl rfl rfl ⟨rfl,rfl⟩ ?_
    exact Ue
   try simp only [push_cast,seval,↓reduceIte,Ze,g146,g157,g169,g181,g193,g205,g217,g229,hN0,hN]
   repeat (with_reducible refine And.intro (by first | exact Z0 rfl | exact Zs) ?_)
   try simp only [push_cast,seval,↓reduceIte,Ze,g146,g157,g169,g181,g193,g205,g217,g229,hN0,hN]
   refine And.intro ?_ ?_
   ·try simp only [push_cast,seval,↓reduceIte,Ze,g146,g157,g169,g181,g193,g205,g217,g229,hN0,hN]
    repeat (with_reducible refine And.intro (by first | exact Z0 rfl | exact Zs) ?_)
    try simp only [push_cast,seval,↓reduceIte,Ze,g146,g157,g169,g181,g193,g205,g217,g229,hN0,hN]
    repeat (with_reducible refine And.intro (by first | exact Z0 rfl | exact Zs) ?_)
    refine And.intro rfl ?_
    refine Fit2.trans (E':=(⟨105,[],[(2,.ref n 0),(3,.ref (n+1) 0),(4,.ref (n+2) 0),(6,.ref (n+3) 0),(7,.ref (n+6) 0),(8,.ref (n+4) 0),(9,.ref (n+7) 0),(10,.ref (n+5) 0)]⟩:Env)) (O':=(Zy O n [some ⟨false,42,4,1,(Zl a0)⟩,some ⟨false,42,4,1,(Zl a1)⟩,some ⟨false,42,4,1,[(vI 0),.val (.int .u8 0),.val (.int .u64 0),.val (.int .u64 0)]⟩,some ⟨false,42,4,1,[(vI a0.At),.val (.int .u8 0),.val (.int .u64 0),.val (.int .u64 0)]⟩,some ⟨false,65,8,1,fl (eI .u8) y61.1⟩,some ⟨false,65,8,1,fl (eI .u8) y133.1⟩,some ⟨false,65,8,1,fl (eI .u8) y25.1⟩,some ⟨false,65,8,1,fl (eI .u8) y97.1⟩])) (n':=(n+8)) (Fit2.of (Z6 hU rfl rfl ?_) (by omega)) ?_
    ·simp only [push_cast,seval,↓reduceIte,Ze,g146,g157,g169,g181,g193,g205,g217,g229,hN0,hN]
    refine Y2 (k:=8) (k':=8) hU [0,1,2,3,5,7,4,6] [0,1,2,3,6,4,7,5] rfl rfl rfl rfl ⟨rfl,rfl⟩ ?_
    exact Ue
   try simp only [push_cast,seval,↓reduceIte,Ze,g146,g157,g169,g181,g193,g205,g217,g229,hN0,hN]
   repeat (with_reducible refine And.intro (by first | exact Z0 rfl | exact Zs) ?_)
   try simp only [push_cast,seval,↓reduceIte,Ze,g146,g157,g169,g181,g193,g205,g217,g229,hN0,hN]
   repeat (with_reducible refine And.intro (by first | exact Z0 rfl | exact Zs) ?_)
   refine And.intro rfl ?_
   refine Fit2.trans (E':=(⟨105,[],[(2,.ref n 0),(3,.ref (n+1) 0),(4,.ref (n+2) 0),(6,.ref (n+3) 0),(7,.ref (n+7) 0),(8,.ref (n+4) 0),(9,.ref (n+6) 0),(10,.ref (n+5) 0)]⟩:Env)) (O':=(Zy O n [some ⟨false,42,4,1,(Zl a0)⟩,some ⟨false,42,4,1,(Zl a1)⟩,some ⟨false,42,4,1,[(vI 0),.val (.int .u8 0),.val (.int .u64 0),.val (.int .u64 0)]⟩,some ⟨false,42,4,1,[(vI a0.At),.val (.int .u8 0),.val (.int .u64 0),.val (.int .u64 0)]⟩,some ⟨false,65,8,1,fl (eI .u8) y61.1⟩,some ⟨false,65,8,1,fl (eI .u8) y133.1⟩,some ⟨false,65,8,1,fl (eI .u8) y97.1⟩,some ⟨false,65,8,1,fl (eI .u8) y25.1⟩])) (n':=(n+8)) (Fit2.of (Z6 hU rfl rfl ?_) (by omega)) ?_
   ·simp only [push_cast,seval,↓reduceIte,Ze,g146,g157,g169,g181,g193,g205,g217,g229,hN0,hN]
   refine Y2 (k:=8) (k':=8) hU [0,1,2,3,5,7,6,4] [0,1,2,3,7,4,6,5] rfl rfl rfl rfl ⟨rfl,rfl⟩ ?_
   exact Ue
  try simp only [push_cast,seval,↓reduceIte,Ze,g146,g157,g169,g181,g193,g205,g217,g229,hN0,hN]
  refine And.intro ?_ ?_
  ·try simp only [push_cast,seval,↓reduceIte,Ze,g146,g157,g169,g181,g193,g205,g217,g229,hN0,hN]
   repeat (with_reducible refine And.intro (by first | exact Z0 rfl | exact Zs) ?_)
   try simp only [push_cast,seval,↓reduceIte,Ze,g146,g157,g169,g181,g193,g205,g217,g229,hN0,hN]
   refine And.intro ?_ ?_
   ·try simp only [push_cast,seval,↓reduceIte,Ze,g146,g157,g169,g181,g193,g205,g217,g229,hN0,hN]
    repeat (with_reducible refine And.intro (by first | exact Z0 rfl | exact Zs) ?_)
    try simp only [push_cast,seval,↓reduceIte,Ze,g146,g157,g169,g181,g193,g205,g217,g229,hN0,hN]
    refine And.intro ?_ ?_
    ·try simp only [push_cast,seval,↓reduceIte,Ze,g146,g157,g169,g181,g193,g205,g217,g229,hN0,hN]
     repeat (with_reducible refine And.intro (by first | exact Z0 rfl | exact Zs) ?_)
     try simp only [push_cast,seval,↓reduceIte,Ze,g146,g157,g169,g181,g193,g205,g217,g229,hN0,hN]
     repeat (with_reducible refine And.intro (by first | exact Z0 rfl | exact Zs) ?_)
     refine And.intro rfl ?_
     refine Fit2.trans (E':=(⟨105,[],[(2,.ref n 0),(3,.ref (n+1) 0),(4,.ref (n+2) 0),(6,.ref (n+3) 0),(7,.ref (n+5) 0),(8,.ref (n+6) 0),(9,.ref (n+4) 0),(10,.ref (n+7) 0)]⟩:Env)) (O':=(Zy O n [some ⟨false,42,4,1,(Zl a0)⟩,some ⟨false,42,4,1,(Zl a1)⟩,some ⟨false,42,4,1,[(vI 0),.val (.int .u8 0),.val (.int .u64 0),.val (.int .u64 0)]⟩,some ⟨false,42,4,1,[(vI a0.At),.val (.int .u8 0),.val (.int .u64 0),.val (.int .u64 0)]⟩,some ⟨false,65,8,1,fl (eI .u8) y97.1⟩,some ⟨false,65,8,1,fl (eI .u8) y25.1⟩,some ⟨false,65,8,1,fl (eI .u8) y61.1⟩,some ⟨false,65,8,1,fl (eI .u8) y133.1⟩])) (n':=(n+8)) (Fit2.of (Z6 hU rfl rfl ?_) (by omega)) ?_
     ·simp only [push_cast,seval,↓reduceIte,Ze,g146,g157,g169,g181,g193,g205,g217,g229,hN0,hN]
     refine Y2 (k:=8) (k':=8) hU [0,1,2,3,6,4,5,7] [0,1,2,3,5,6,4,7] rfl rfl rfl rfl ⟨rfl,rfl⟩ ?_
     exact Ue
    try simp only [push_cast,seval,↓reduceIte,Ze,g146,g157,g169,g181,g193,g205,g217,g229,hN0,hN]
    repeat (with_reducible refine And.intro (by first | exact Z0 rfl | exact Zs) ?_)
    try simp only [push_cast,seval,↓reduceIte,Ze,g146,g157,g169,g181,g193,g205,g217,g229,hN0,hN]
    repeat (with_reducible refine And.intro (by first | exact Z0 rfl | exact Zs) ?_)
    refine And.intro rfl ?_
    refine Fit2.trans (E':=(⟨105,[],[(2,.ref n 0),(3,.ref (n+1) 0),(4,.ref (n+2) 0),(6,.ref (n+3) 0),(7,.ref (n+5) 0),(8,.ref (n+7) 0),(9,.ref (n+4) 0),(10,.ref (n+6) 0)]⟩:Env)) (O':=(Zy O n [some ⟨false,42,4,1,(Zl a0)⟩,some ⟨false,42,4,1,(Zl a1)⟩,some ⟨false,42,4,1,[(vI 0),.val (.int .u8 0),.val (.int .u64 0),.val (.int .u64 0)]⟩,some ⟨false,42,4,1,[(vI a0.At),.val (.int .u8 0),.val (.int .u64 0),.val (.int .u64 0)]⟩,some ⟨false,65,8,1,fl (eI .u8) y97.1⟩,some ⟨false,65,8,1,fl (eI .u8) y25.1⟩,some ⟨false,65,8,1,fl (eI .u8) y133.1⟩,some ⟨false,65,8,1,fl (eI .u8) y61.1⟩])) (n':=(n+8)) (Fit2.of (Z6 hU rfl rfl ?_) (by omega)) ?_
    ·simp only [push_cast,seval,↓reduceIte,Ze,g146,g157,g169,g181,g193,g205,g217,g229,hN0,hN]
    refine Y2 (k:=8) (k':=8) hU [0,1,2,3,6,4,7,5] [0,1,2,3,5,7,4,6] rfl rfl rfl rfl ⟨rfl,rfl⟩ ?_
    exact Ue
   try simp only [push_cast,seval,↓reduceIte,Ze,g146,g157,g169,g181,g193,g205,g217,g229,hN0,hN]
   refine And.intro ?_ ?_
   ·try simp only [push_cast,seval,↓reduceIte,Ze,g146,g157,g169,g181,g193,g205,g217,g229,hN0,hN]
    repeat (with_reducible refine And.intro (by first | exact Z0 rfl | exact Zs) ?_)
    try simp only [push_cast,seval,↓reduceIte,Ze,g146,g157,g169,g181,g193,g205,g217,g229,hN0,hN]
    refine And.intro ?_ ?_
    ·try simp only [push_cast,seval,↓reduceIte,Ze,g146,g157,g169,g181,g193,g205,g217,g229,hN0,hN]
     repeat (with_reducible refine And.intro (by first | exact Z0 rfl | exact Zs) ?_)
     try simp only [push_cast,seval,↓reduceIte,Ze,g146,g157,g169,g181,g193,g205,g217,g229,hN0,hN]
     repeat (with_reducible refine And.intro (by first | exact Z0 rfl | exact Zs) ?_)
     refine And.intro rfl ?_
     refine Fit2.trans (E':=(⟨105,[],[(2,.ref n 0),(3,.ref (n+1) 0),(4,.ref (n+2) 0),(6,.ref (n+3) 0),(7,.ref (n+6) 0),(8,.ref (n+5) 0),(9,.ref (n+4) 0),(10,.ref (n+7) 0)]⟩:Env)) (O':=(Zy O n [some ⟨false,42,4,1,(Zl a0)⟩,some ⟨false,42,4,1,(Zl a1)⟩,some ⟨false,42,4,1,[(vI 0),.val (.int .u8 0),.val (.int .u64 0),.val (.int .u64 0)]⟩,some ⟨false,42,4,1,[(vI a0.At),.val (.int .u8 0),.val (.int .u64 0),.val (.int .u64 0)]⟩,some ⟨false,65,8,1,fl (eI .u8) y97.1⟩,some ⟨false,65,8,1,fl (eI .u8) y61.1⟩,some ⟨false,65,8,1,fl (eI .u8) y25.1⟩,some ⟨false,65,8,1,fl (eI .u8) y133.1⟩])) (n':=(n+8)) (Fit2.of (Z6 hU rfl rfl ?_) (by omega)) ?_
     ·simp only [push_cast,seval,↓reduceIte,Ze,g146,g157,g169,g181,g193,g205,g217,g229,hN0,hN]
     refine Y2 (k:=8) (k':=8) hU [0,1,2,3,6,5,4,7] [0,1,2,3,6,5,4,7] rfl rfl rfl rfl ⟨rfl,rfl⟩ ?_
     exact Ue
    try simp only [push_cast,seval,↓reduceIte,Ze,g146,g157,g169,g181,g193,g205,g217,g229,hN0,hN]
    repeat (with_reducible refine And.intro (by first | exact Z0 rfl | exact Zs) ?_)
    try simp only [push_cast,seval,↓reduceIte,Ze,g146,g157,g169,g181,g193,g205,g217,g229,hN0,hN]
    repeat (with_reducible refine And.intro (by first | exact Z0 rfl | exact Zs) ?_)
    refine And.intro rfl ?_
    refine Fit2.trans (E':=(⟨105,[],[(2,.ref n 0),(3,.ref (n+1) 0),(4,.ref (n+2) 0),(6,.ref (n+3) 0),(7,.ref (n+7) 0),(8,.ref (n+5) 0),(9,.ref (n+4) 0),(10,.ref (n+6) 0)]⟩:Env)) (O':=(Zy O n [some ⟨false,42,4,1,(Zl a0)⟩,some ⟨false,42,4,1,(Zl a1)⟩,some ⟨false,42,4,1,[(vI 0),.val (.int .u8 0),.val (.int .u64 0),.val (.int .u64 0)]⟩,some ⟨false,42,4,1,[(vI a0.At),.val (.int .u8 0),.val (.int .u64 0),.val (.int .u64 0)]⟩,some ⟨false,65,8,1,fl (eI .u8) y97.1⟩,some ⟨false,65,8,1,fl (eI .u8) y61.1⟩,some ⟨false,65,8,1,fl (eI .u8) y133.1⟩,some ⟨false,65,8,1,fl (eI .u8) y25.1⟩])) (n':=(n+8)) (Fit2.of (Z6 hU rfl rfl ?_) (by omega)) ?_
    ·simp only [push_cast,seval,↓reduceIte,Ze,g146,g157,g169,g181,g193,g205,g217,g229,hN0,hN]
    refine Y2 (k:=8) (k':=8) hU [0,1,2,3,6,5,7,4] [0,1,2,3,7,5,4,6] rfl rfl rfl rfl ⟨rfl,rfl⟩ ?_
    exact Ue
   try simp only [push_cast,seval,↓reduceIte,Ze,g146,g157,g169,g181,g193,g205,g217,g229,hN0,hN]
   repeat (with_reducible refine And.intro (by first | exact Z0 rfl | exact Zs) ?_)
   try simp only [push_cast,seval,↓reduceIte,Ze,g146,g157,g169,g181,g193,g205,g217,g229,hN0,hN]
   refine And.intro ?_ ?_
   ·try simp only [push_cast,seval,↓reduceIte,Ze,g146,g157,g169,g181,g193,g205,g217,g229,hN0,hN]
    repeat (with_reducible refine And.intro (by first | exact Z0 rfl | exact Zs) ?_)
    try simp only [push_cast,seval,↓reduceIte,Ze,g146,g157,g169,g181,g193,g205,g217,g229,hN0,hN]
    repeat (with_reducible refine And.intro (by first | exact Z0 rfl | exact Zs) ?_)
    refine And.intro rfl ?_
    refine Fit2.trans (E':=(⟨105,[],[(2,.ref n 0),(3,.ref (n+1) 0),(4,.ref (n+2) 0),(6,.ref (n+3) 0),(7,.ref (n+6) 0),(8,.ref (n+7) 0),(9,.ref (n+4) 0),(10,.ref (n+5) 0)]⟩:Env)) (O':=(Zy O n [some ⟨false,42,4,1,(Zl a0)⟩,some ⟨false,42,4,1,(Zl a1)⟩,some ⟨false,42,4,1,[(vI 0),.val (.int .u8 0),.val (.int .u64 0),.val (.int .u64 0)]⟩,some ⟨false,42,4,1,[(vI a0.At),.val (.int .u8 0),.val (.int .u64 0),.val (.int .u64 0)]⟩,some ⟨false,65,8,1,fl (eI .u8) y97.1⟩,some ⟨false,65,8,1,fl (eI .u8) y133.1⟩,some ⟨false,65,8,1,fl (eI .u8) y25.1⟩,some ⟨false,65,8,1,fl (eI .u8) y61.1⟩])) (n':=(n+8)) (Fit2.of (Z6 hU rfl rfl ?_) (by omega)) ?_
    ·simp only [push_cast,seval,↓reduceIte,Ze,g146,g157,g169,g181,g193,g205,g217,g229,hN0,hN]
    refine Y2 (k:=8) (k':=8) hU [0,1,2,3,6,7,4,5] [0,1,2,3,6,7,4,5] rfl rfl rfl rfl ⟨rfl,rfl⟩ ?_
    exact Ue
   try simp only [push_cast,seval,↓reduceIte,Ze,g146,g157,g169,g181,g193,g205,g217,g229,hN0,hN]
   repeat (with_reducible refine And.intro (by first | exact Z0 rfl | exact Zs) ?_)
   try simp only [push_cast,seval,↓reduceIte,Ze,g146,g157,g169,g181,g193,g205,g217,g229,hN0,hN]
   repeat (with_reducible refine And.intro (by first | exact Z0 rfl | exact Zs) ?_)
   refine And.intro rfl ?_
   refine Fit2.trans (E':=(⟨105,[],[(2,.ref n 0),(3,.ref (n+1) 0),(4,.ref (n+2) 0),(6,.ref (n+3) 0),(7,.ref (n+7) 0),(8,.ref (n+6) 0),(9,.ref (n+4) 0),(10,.ref (n+5) 0)]⟩:Env)) (O':=(Zy O n [some ⟨false,42,4,1,(Zl a0)⟩,some ⟨false,42,4,1,(Zl a1)⟩,some ⟨false,42,4,1,[(vI 0),.val (.int .u8 0),.val (.int .u64 0),.val (.int .u64 0)]⟩,some ⟨false,42,4,1,[(vI a0.At),.val (.int .u8 0),.val (.int .u64 0),.val (.int .u64 0)]⟩,some ⟨false,65,8,1,fl (eI .u8) y97.1⟩,some ⟨false,65,8,1,fl (eI .u8) y133.1⟩,some ⟨false,65,8,1,fl (eI .u8) y61.1⟩,some ⟨false,65,8,1,fl (eI .u8) y25.1⟩])) (n':=(n+8)) (Fit2.of (Z6 hU rfl rfl ?_) (by omega)) ?_
   ·simp only [push_cast,seval,↓reduceIte,Ze,g146,g157,g169,g181,g193,g205,g217,g229,hN0,hN]
   refine Y2 (k:=8) (k':=8) hU [0,1,2,3,6,7,5,4] [0,1,2,3,7,6,4,5] rfl rfl rfl rfl ⟨rfl,rfl⟩ ?_
   exact Ue
  try simp only [push_cast,seval,↓reduceIte,Ze,g146,g157,g169,g181,g193,g205,g217,g229,hN0,hN]
  repeat (with_reducible refine And.intro (by first | exact Z0 rfl | exact Zs) ?_)
  try simp only [push_cast,seval,↓reduceIte,Ze,g146,g157,g169,g181,g193,g205,g217,g229,hN0,hN]
  refine And.intro ?_ ?_
  ·try simp only [push_cast,seval,↓reduceIte,Ze,g146,g157,g169,g181,g193,g205,g217,g229,hN0,hN]
   repeat (with_reducible refine And.intro (by first | exact Z0 rfl | exact Zs) ?_)
   try simp only [push_cast,seval,↓reduceIte,Ze,g146,g157,g169,g181,g193,g205,g217,g229,hN0,hN]
   refine And.intro ?_ ?_
   ·try simp only [push_cast,seval,↓reduceIte,Ze,g146,g157,g169,g181,g193,g205,g217,g229,hN0,hN]
    repeat (with_reducible refine And.intro (by first | exact Z0 rfl | exact Zs) ?_)
    try simp only [push_cast,seval,↓reduceIte,Ze,g146,g157,g169,g181,g193,g205,g217,g229,hN0,hN]
    repeat (with_reducible refine And.intro (by first | exact Z0 rfl | exact Zs) ?_)
    refine And.intro rfl ?_
    refine Fit2.trans (E':=(⟨105,[],[(2,.ref n 0),(3,.ref (n+1) 0),(4,.ref (n+2) 0),(6,.ref (n+3) 0),(7,.ref (n+5) 0),(8,.ref (n+6) 0),(9,.ref (n+7) 0),(10,.ref (n+4) 0)]⟩:Env)) (O':=(Zy O n [some ⟨false,42,4,1,(Zl a0)⟩,some ⟨false,42,4,1,(Zl a1)⟩,some ⟨false,42,4,1,[(vI 0),.val (.int .u8 0),.val (.int .u64 0),.val (.int .u64 0)]⟩,some ⟨false,42,4,1,[(vI a0.At),.val (.int .u8 0),.val (.int .u64 0),.val (.int .u64 0)]⟩,some ⟨false,65,8,1,fl (eI .u8) y133.1⟩,some ⟨false,65,8,1,fl (eI .u8) y25.1⟩,some ⟨false,65,8,1,fl (eI .u8) y61.1⟩,some ⟨false,65,8,1,fl (eI .u8) y97.1⟩])) (n':=(n+8)) (Fit2.of (Z6 hU rfl rfl ?_) (by omega)) ?_
    ·simp only [push_cast,seval,↓reduceIte,Ze,g146,g157,g169,g181,g193,g205,g217,g229,hN0,hN]
    refine Y2 (k:=8) (k':=8) hU [0,1,2,3,7,4,5,6] [0,1,2,3,5,6,7,4] rfl rfl rfl rfl ⟨rfl,rfl⟩ ?_
    exact Ue
   try simp only [push_cast,seval,↓reduceIte,Ze,g146,g157,g169,g181,g193,g205,g217,g229,hN0,hN]
   repeat (with_reducible refine And.intro (by first | exact Z0 rfl | exact Zs) ?_)
   try simp only [push_cast,seval,↓reduceIte,Ze,g146,g157,g169,g181,g193,g205,g217,g229,hN0,hN]
   repeat (with_reducible refine And.intro (by first | exact Z0 rfl | exact Zs) ?_)
   refine And.intro rfl ?_
   refine Fit2.trans (E':=(⟨105,[],[(2,.ref n 0),(3,.ref (n+1) 0),(4,.ref (n+2) 0),(6,.ref (n+3) 0),(7,.ref (n+5) 0),(8,.ref (n+7) 0),(9,.ref (n+6) 0),(10,.ref (n+4) 0)]⟩:Env)) (O':=(Zy O n [some ⟨false,42,4,1,(Zl a0)⟩,some ⟨false,42,4,1,(Zl a1)⟩,some ⟨false,42,4,1,[(vI 0),.val (.int .u8 0),.val (.int .u64 0),.val (.int .u64 0)]⟩,some ⟨false,42,4,1,[(vI a0.At),.val (.int .u8 0),.val (.int .u64 0),.val (.int .u64 0)]⟩,some ⟨false,65,8,1,fl (eI .u8) y133.1⟩,some ⟨false,65,8,1,fl (eI .u8) y25.1⟩,some ⟨false,65,8,1,fl (eI .u8) y97.1⟩,some ⟨false,65,8,1,fl (eI .u8) y61.1⟩])) (n':=(n+8)) (Fit2.of (Z6 hU rfl rfl ?_) (by omega)) ?_
   ·simp only [push_cast,seval,↓reduceIte,Ze,g146,g157,g169,g181,g193,g205,g217,g229,hN0,hN]
   refine Y2 (k:=8) (k':=8) hU [0,1,2,3,7,4,6,5] [0,1,2,3,5,7,6,4] rfl rfl rfl rfl ⟨rfl,rfl⟩ ?_
   exact Ue
  try simp only [push_cast,seval,↓reduceIte,Ze,g146,g157,g169,g181,g193,g205,g217,g229,hN0,hN]
  refine And.intro ?_ ?_
  ·try simp only [push_cast,seval,↓reduceIte,Ze,g146,g157,g169,g181,g193,g205,g217,g229,hN0,hN]
   repeat (with_reducible refine And.intro (by first | exact Z0 rfl | exact Zs) ?_)
   try simp only [push_cast,seval,↓reduceIte,Ze,g146,g157,g169,g181,g193,g205,g217,g229,hN0,hN]
   refine And.intro ?_ ?_
   ·try simp only [push_cast,seval,↓reduceIte,Ze,g146,g157,g169,g181,g193,g205,g217,g229,hN0,hN]
    repeat (with_reducible refine And.intro (by first | exact Z0 rfl | exact Zs) ?_)
    try simp only [push_cast,seval,↓reduceIte,Ze,g146,g157,g169,g181,g193,g205,g217,g229,hN0,hN]
    repeat (with_reducible refine And.intro (by first | exact Z0 rfl | exact Zs) ?_)
    refine And.intro rfl ?_
    refine Fit2.trans (E':=(⟨105,[],[(2,.ref n 0),(3,.ref (n+1) 0),(4,.ref (n+2) 0),(6,.ref (n+3) 0),(7,.ref (n+6) 0),(8,.ref (n+5) 0),(9,.ref (n+7) 0),(10,.ref (n+4) 0)]⟩:Env)) (O':=(Zy O n [some ⟨false,42,4,1,(Zl a0)⟩,some ⟨false,42,4,1,(Zl a1)⟩,some ⟨false,42,4,1,[(vI 0),.val (.int .u8 0),.val (.int .u64 0),.val (.int .u64 0)]⟩,some ⟨false,42,4,1,[(vI a0.At),.val (.int .u8 0),.val (.int .u64 0),.val (.int .u64 0)]⟩,some ⟨false,65,8,1,fl (eI .u8) y133.1⟩,some ⟨false,65,8,1,fl (eI .u8) y61.1⟩,some ⟨false,65,8,1,fl (eI .u8) y25.1⟩,some ⟨false,65,8,1,fl (eI .u8) y97.1⟩])) (n':=(n+8)) (Fit2.of (Z6 hU rfl rfl ?_) (by omega)) ?_
    ·simp only [push_cast,seval,↓reduceIte,Ze,g146,g157,g169,g181,g193,g205,g217,g229,hN0,hN]
    refine Y2 (k:=8) (k':=8) hU [0,1,2,3,7,5,4,6] [0,1,2,3,6,5,7,4] rfl rfl rfl rfl ⟨rfl,rfl⟩ ?_
    exact Ue
   try simp only [push_cast,seval,↓reduceIte,Ze,g146,g157,g169,g181,g193,g205,g217,g229,hN0,hN]
   repeat (with_reducible refine And.intro (by first | exact Z0 rfl | exact Zs) ?_)
   try simp only [push_cast,seval,↓reduceIte,Ze,g146,g157,g169,g181,g193,g205,g217,g229,hN0,hN]
   repeat (with_reducible refine And.intro (by first | exact Z0 rfl | exact Zs) ?_)
   refine And.intro rfl ?_
   refine Fit2.trans (E':=(⟨105,[],[(2,.ref n 0),(3,.ref (n+1) 0),(4,.ref (n+2) 0),(6,.ref (n+3) 0),(7,.ref (n+7) 0),(8,.ref (n+5) 0),(9,.ref (n+6) 0),(10,.ref (n+4) 0)]⟩:Env)) (O':=(Zy O n [some ⟨false,42,4,1,(Zl a0)⟩,some ⟨false,42,4,1,(Zl a1)⟩,some ⟨false,42,4,1,[(vI 0),.val (.int .u8 0),.val (.int .u64 0),.val (.int .u64 0)]⟩,some ⟨false,42,4,1,[(vI a0.At),.val (.int .u8 0),.val (.int .u64 0),.val (.int .u64 0)]⟩,some ⟨false,65,8,1,fl (eI .u8) y133.1⟩,some ⟨false,65,8,1,fl (eI .u8) y61.1⟩,some ⟨false,65,8,1,fl (eI .u8) y97.1⟩,some ⟨false,65,8,1,fl (eI .u8) y25.1⟩])) (n':=(n+8)) (Fit2.of (Z6 hU rfl rfl ?_) (by omega)) ?_
   ·simp only [push_cast,seval,↓reduceIte,Ze,g146,g157,g169,g181,g193,g205,g217,g229,hN0,hN]
   refine Y2 (k:=8) (k':=8) hU [0,1,2,3,7,5,6,4] [0,1,2,3,7,5,6,4] rfl rfl rfl rfl ⟨rfl,rfl⟩ ?_
   exact Ue
  try simp only [push_cast,seval,↓reduceIte,Ze,g146,g157,g169,g181,g193,g205,g217,g229,hN0,hN]
  repeat (with_reducible refine And.intro (by first | exact Z0 rfl | exact Zs) ?_)
  try simp only [push_cast,seval,↓reduceIte,Ze,g146,g157,g169,g181,g193,g205,g217,g229,hN0,hN]
  refine And.intro ?_ ?_
  ·try simp only [push_cast,seval,↓reduceIte,Ze,g146,g157,g169,g181,g193,g205,g217,g229,hN0,hN]
   repeat (with_reducible refine And.intro (by first | exact Z0 rfl | exact Zs) ?_)
   try simp only [push_cast,seval,↓reduceIte,Ze,g146,g157,g169,g181,g193,g205,g217,g229,hN0,hN]
   repeat (with_reducible refine And.intro (by first | exact Z0 rfl | exact Zs) ?_)
   refine And.intro rfl ?_
   refine Fit2.trans (E':=(⟨105,[],[(2,.ref n 0),(3,.ref (n+1) 0),(4,.ref (n+2) 0),(6,.ref (n+3) 0),(7,.ref (n+6) 0),(8,.ref (n+7) 0),(9,.ref (n+5) 0),(10,.ref (n+4) 0)]⟩:Env)) (O':=(Zy O n [some ⟨false,42,4,1,(Zl a0)⟩,some ⟨false,42,4,1,(Zl a1)⟩,some ⟨false,42,4,1,[(vI 0),.val (.int .u8 0),.val (.int .u64 0),.val (.int .u64 0)]⟩,some ⟨false,42,4,1,[(vI a0.At),.val (.int .u8 0),.val (.int .u64 0),.val (.int .u64 0)]⟩,some ⟨false,65,8,1,fl (eI .u8) y133.1⟩,some ⟨false,65,8,1,fl (eI .u8) y97.1⟩,some ⟨false,65,8,1,fl (eI .u8) y25.1⟩,some ⟨false,65,8,1,fl (eI .u8) y61.1⟩])) (n':=(n+8)) (Fit2.of (Z6 hU rfl rfl ?_) (by omega)) ?_
   ·simp only [push_cast,seval,↓reduceIte,Ze,g146,g157,g169,g181,g193,g205,g217,g229,hN0,hN]
   refine Y2 (k:=8) (k':=8) hU [0,1,2,3,7,6,4,5] [0,1,2,3,6,7,5,4] rfl rfl rfl rfl ⟨rfl,rfl⟩ ?_
   exact Ue
  try simp only [push_cast,seval,↓reduceIte,Ze,g146,g157,g169,g181,g193,g205,g217,g229,hN0,hN]
  repeat (with_reducible refine And.intro (by first | exact Z0 rfl | exact Zs) ?_)
  try simp only [push_cast,seval,↓reduceIte,Ze,g146,g157,g169,g181,g193,g205,g217,g229,hN0,hN]
  repeat (with_reducible refine And.intro (by first | exact Z0 rfl | exact Zs) ?_)
  refine And.intro rfl ?_
  refine Fit2.trans (E':=(⟨105,[],[(2,.ref n 0),(3,.ref (n+1) 0),(4,.ref (n+2) 0),(6,.ref (n+3) 0),(7,.ref (n+7) 0),(8,.ref (n+6) 0),(9,.ref (n+5) 0),(10,.ref (n+4) 0)]⟩:Env)) (O':=(Zy O n [some ⟨false,42,4,1,(Zl a0)⟩,some ⟨false,42,4,1,(Zl a1)⟩,some ⟨false,42,4,1,[(vI 0),.val (.int .u8 0),.val (.int .u64 0),.val (.int .u64 0)]⟩,some ⟨false,42,4,1,[(vI a0.At),.val (.int .u8 0),.val (.int .u64 0),.val (.int .u64 0)]⟩,some ⟨false,65,8,1,fl (eI .u8) y133.1⟩,some ⟨false,65,8,1,fl (eI .u8) y97.1⟩,some ⟨false,65,8,1,fl (eI .u8) y61.1⟩,some ⟨false,65,8,1,fl (eI .u8) y25.1⟩])) (n':=(n+8)) (Fit2.of (Z6 hU rfl rfl ?_) (by omega)) ?_
  ·simp only [push_cast,seval,↓reduceIte,Ze,g146,g157,g169,g181,g193,g205,g217,g229,hN0,hN]
  refine Y2 (k:=8) (k':=8) hU [0,1,2,3,7,6,5,4] [0,1,2,3,7,6,5,4] rfl rfl rfl rfl ⟨rfl,rfl⟩ ?_
  exact Ue
 refine zQ [2,3,4,6,7,8,9,10,11] ?_
 refine zQ [2,3,4,6,7,8,9,10,11,12] ?_
 obtain ⟨y244,hy244,ey244,h⟩:=bY (f:=(eI .u8)) (cs:=[.val (.int .u8 0),.val (.int .u8 0),.val (.int .u8 0),.val (.int .u8 0),.val (.int .u8 0),.val (.int .u8 0),.val (.int .u8 0),.val (.int .u8 0)]) rfl h
 have g245:=congrArg (GObj.mk false 65 8 1) ey244
 have g246:=congrArg (GObj.mk false 65 8 1) ey244
 refine Uz [2,3,4,6,7,8,9,10,11,12,13,14] g245 g246 ?_
 refine Zn ?_
 refine zQd [2,3,4,6,7,8,9,10,11,12,13,14,15] [2,3,4,6,7,8,9,10,11,12,13,14,15] [true,true,true,true,true,true,true,true,true,true] ?_
 obtain ⟨z285,hz285,h⟩:=bC h
 refine Zcn (J:=(Jg (fun z285=>JR n (⟨105,[],[(4,.ref (n+2) 0),(5,(vB false))]⟩:Env) (Zy O n [none,none,some ⟨false,42,4,1,[(vI 0),.val (.int .u8 0),.val (.int .u64 0),.val (.int .u64 0)]⟩,none,none,none,none,none,none,none]) (n+10)) (fun z285=>JX 0 n (⟨105,[],[(4,.ref (n+2) 0),(6,.ref (n+3) 0),(12,(vI z285.1)),(13,.ref (n+8) 0),(14,.ref (n+9) 0)]⟩:Env) (Zy O n [none,none,some ⟨false,42,4,1,[(vI 0),.val (.int .u8 0),.val (.int .u64 0),.val (.int .u64 0)]⟩,some ⟨false,42,4,1,[(vI a0.At),.val (.int .u8 0),.val (.int .u64 0),.val (.int .u64 0)]⟩,none,none,none,none,some ⟨false,65,8,1,fl (eI .u8) z285.2.1.1⟩,some ⟨false,65,8,1,fl (eI .u8) z285.2.2.1⟩]) (n+10)))) (z:=z285) ?_ fun hw => ?_
 ·refine Xv hz285 (fun s0_=>⟨105,[],[(2,.ref n 0),(3,.ref (n+1) 0),(4,.ref (n+2) 0),(6,.ref (n+3) 0),(7,.ref (n+4) 0),(8,.ref (n+5) 0),(9,.ref (n+6) 0),(10,.ref (n+7) 0),(11,(vI s0_.1)),(12,(vI s0_.2.1)),(13,.ref (n+8) 0),(14,.ref (n+9) 0),(15,(vI s0_.2.2.1))]⟩) (fun s0_=>(Zy O n [some ⟨false,42,4,1,(Zl a0)⟩,some ⟨false,42,4,1,(Zl a1)⟩,some ⟨false,42,4,1,[(vI 0),.val (.int .u8 0),.val (.int .u64 0),.val (.int .u64 0)]⟩,some ⟨false,42,4,1,[(vI a0.At),.val (.int .u8 0),.val (.int .u64 0),.val (.int .u64 0)]⟩,some ⟨false,65,8,1,fl (eI .u8) y25.1⟩,some ⟨false,65,8,1,fl (eI .u8) y61.1⟩,some ⟨false,65,8,1,fl (eI .u8) y97.1⟩,some ⟨false,65,8,1,fl (eI .u8) y133.1⟩,some ⟨false,65,8,1,fl (eI .u8) s0_.2.2.2.1.1⟩,some ⟨false,65,8,1,fl (eI .u8) s0_.2.2.2.2.1⟩])) (Jg (fun z285=>JR n (⟨105,[],[(4,.ref (n+2) 0),(5,(vB false))]⟩:Env) (Zy O n [none,none,some ⟨false,42,4,1,[(vI 0),.val (.int .u8 0),.val (.int .u64 0),.val (.int .u64 0)]⟩,none,none,none,none,none,none,none]) (n+10)) (fun z285=>JX 0 n (⟨105,[],[(4,.ref (n+2) 0),(6,.ref (n+3) 0),(12,(vI z285.1)),(13,.ref (n+8) 0),(14,.ref (n+9) 0)]⟩:Env) (Zy O n [none,none,some ⟨false,42,4,1,[(vI 0),.val (.int .u8 0),.val (.int .u64 0),.val (.int .u64 0)]⟩,some ⟨false,42,4,1,[(vI a0.At),.val (.int .u8 0),.val (.int .u64 0),.val (.int .u64 0)]⟩,none,none,none,none,some ⟨false,65,8,1,fl (eI .u8) z285.2.1.1⟩,some ⟨false,65,8,1,fl (eI .u8) z285.2.2.1⟩]) (n+10))) ?_
  intro s0_ x0_ hs0_
  unfold Jo at hs0_
  try dsimp only
  refine Zn ?_
  refine zQ [2,3,4,6,7,8,9,10,11,12,13,14,15,34] ?_
  refine Zt (t:=(decide (s0_.2.2.1 < 8))) rfl (fun c284 => ?_) (fun c284 => ?_)
  ·replace hs0_:=Zw c284 hs0_
   refine Ud [2,3,4,6,7,8,9,10,11,12,13,14,15] [true,true,true,true,true,true,true,true,true,true] ?_
   obtain ⟨z247,hz247,hs0_⟩:=bC hs0_
   refine Z62 (J:=(Jg (fun z247=>JN n (⟨105,[],[(2,.ref n 0),(3,.ref (n+1) 0),(4,.ref (n+2) 0),(6,.ref (n+3) 0),(7,.ref (n+4) 0),(8,.ref (n+5) 0),(9,.ref (n+6) 0),(10,.ref (n+7) 0),(11,(vI (IntKind.i64.wrap (2 * s0_.1)))),(12,(vI z247.1)),(13,.ref (n+8) 0),(14,.ref (n+9) 0),(15,(vI s0_.2.2.1))]⟩:Env) (Zy O n [some ⟨false,42,4,1,(Zl a0)⟩,some ⟨false,42,4,1,(Zl a1)⟩,some ⟨false,42,4,1,[(vI 0),.val (.int .u8 0),.val (.int .u64 0),.val (.int .u64 0)]⟩,some ⟨false,42,4,1,[(vI a0.At),.val (.int .u8 0),.val (.int .u64 0),.val (.int .u64 0)]⟩,some ⟨false,65,8,1,fl (eI .u8) y25.1⟩,some ⟨false,65,8,1,fl (eI .u8) y61.1⟩,some ⟨false,65,8,1,fl (eI .u8) y97.1⟩,some ⟨false,65,8,1,fl (eI .u8) y133.1⟩,some ⟨false,65,8,1,fl (eI .u8) z247.2.1.1⟩,some ⟨false,65,8,1,fl (eI .u8) z247.2.2.1⟩]) (n+10)) (fun z247=>JR n (⟨105,[],[(4,.ref (n+2) 0),(5,(vB false))]⟩:Env) (Zy O n [none,none,some ⟨false,42,4,1,[(vI 0),.val (.int .u8 0),.val (.int .u64 0),.val (.int .u64 0)]⟩,none,none,none,none,none,none,none]) (n+10)))) (z:=z247) ?_ fun hw => ?_
   ·refine Yx ?_
    refine Zn ?_
    obtain ⟨y250,hy250,hz247⟩:=bC hz247
    obtain ⟨y251,hy251,hz247⟩:=bC hz247
    refine Ql Z5 (by kernel_rfl) [] (by kernel_rfl) ?_
    refine zS ?_
    refine PCall.of (Zb2 hy250) ?_
    refine zS ?_
    refine PCall.of (Zb2 hy251) ?_
    refine zS ?_
    refine zDs [2,3,4,6,7,8,9,10,11,12,13,14,15,16,17] [true,true,true,true,true,true,true,true,true,true] ?_
    obtain ⟨z254,hz254,hz247⟩:=bC hz247
    refine Xj (E':=⟨105,[],[(2,.ref n 0),(3,.ref (n+1) 0),(4,.ref (n+2) 0),(6,.ref (n+3) 0),(7,.ref (n+4) 0),(8,.ref (n+5) 0),(9,.ref (n+6) 0),(10,.ref (n+7) 0),(11,(vI s0_.1)),(12,(vI s0_.2.1)),(13,.ref (n+8) 0),(14,.ref (n+9) 0),(15,(vI s0_.2.2.1)),(16,(vB y250)),(17,(vB y251)),(57,(vB z254))]⟩) (O':=(Zy O n [some ⟨false,42,4,1,(Zl a0)⟩,some ⟨false,42,4,1,(Zl a1)⟩,some ⟨false,42,4,1,[(vI 0),.val (.int .u8 0),.val (.int .u64 0),.val (.int .u64 0)]⟩,some ⟨false,42,4,1,[(vI a0.At),.val (.int .u8 0),.val (.int .u64 0),.val (.int .u64 0)]⟩,some ⟨false,65,8,1,fl (eI .u8) y25.1⟩,some ⟨false,65,8,1,fl (eI .u8) y61.1⟩,some ⟨false,65,8,1,fl (eI .u8) y97.1⟩,some ⟨false,65,8,1,fl (eI .u8) y133.1⟩,some ⟨false,65,8,1,fl (eI .u8) s0_.2.2.2.1.1⟩,some ⟨false,65,8,1,fl (eI .u8) s0_.2.2.2.2.1⟩])) (n0:=(n+10)) ?_ ?_
    ·rcases Bool.eq_false_or_eq_true y250 with c259 | c259
     ·replace hz254:=Zw c259 hz254
      rcases Bool.eq_false_or_eq_true y251 with c260 | c260
      ·replace hz254:=Zw c260 hz254
       try rw [c260] at c259
       obtain ⟨x257,hx257,ax257,bx257,cx257,hz254⟩:=bEA (f:=(eI .u8)) (b:=8) rfl Zht (fun _=>rfl) (by decide) hz254
       obtain ⟨x258,hx258,ax258,bx258,cx258,hz254⟩:=bEA (f:=(eI .u8)) (b:=8) rfl Zht (fun _=>rfl) (by decide) hz254
       refine Ql Z5 (by kernel_rfl) [none,some true,some true,some true,some true,some true,some true,some true] (by kernel_rfl) ?_
       refine zF8 c259 c260 ax257 bx257 cx257 ax258 bx258 cx258 ?_
       refine zG ?_
       exact Z4q hz254 c259 c260 ax257 bx257 cx257 ax258 bx258 cx258
      replace hz254:=Zv c260 hz254
      try rw [c260] at c259
      refine Ql Z5 (by kernel_rfl) [none,some false,some false,some false,some false,some false,some false,some false] (by kernel_rfl) ?_
      refine zX2 c259 c260 ?_
      refine zG ?_
      exact Ziq hz254 c259 c260
     replace hz254:=Zv c259 hz254
     refine Ql Z5 (by kernel_rfl) [none,some false,some false,some false,some false,some false,some false,some false] (by kernel_rfl) ?_
     refine zX1 c259 ?_
     refine zG ?_
     exact U5 hz254 c259
    refine Zt (t:=z254) rfl (fun c283 => ?_) (fun c283 => ?_)
    ·replace hz247:=Zw c283 hz247
     refine Zn ?_
     refine zRd [4,5] [false,false,true,false,false,false,false,false,false,false] ?_
     refine zW ?_
     exact zEn hz247
    replace hz247:=Zv c283 hz247
    refine Ud [2,3,4,6,7,8,9,10,11,12,13,14,15,16,17] [true,true,true,true,true,true,true,true,true,true] ?_
    obtain ⟨z261,hz261,hz247⟩:=bC hz247
    refine Xj (E':=⟨105,[],[(2,.ref n 0),(3,.ref (n+1) 0),(4,.ref (n+2) 0),(6,.ref (n+3) 0),(7,.ref (n+4) 0),(8,.ref (n+5) 0),(9,.ref (n+6) 0),(10,.ref (n+7) 0),(11,(vI s0_.1)),(12,(vI z261)),(13,.ref (n+8) 0),(14,.ref (n+9) 0),(15,(vI s0_.2.2.1)),(16,(vB y250)),(17,(vB y251))]⟩) (O':=(Zy O n [some ⟨false,42,4,1,(Zl a0)⟩,some ⟨false,42,4,1,(Zl a1)⟩,some ⟨false,42,4,1,[(vI 0),.val (.int .u8 0),.val (.int .u64 0),.val (.int .u64 0)]⟩,some ⟨false,42,4,1,[(vI a0.At),.val (.int .u8 0),.val (.int .u64 0),.val (.int .u64 0)]⟩,some ⟨false,65,8,1,fl (eI .u8) y25.1⟩,some ⟨false,65,8,1,fl (eI .u8) y61.1⟩,some ⟨false,65,8,1,fl (eI .u8) y97.1⟩,some ⟨false,65,8,1,fl (eI .u8) y133.1⟩,some ⟨false,65,8,1,fl (eI .u8) s0_.2.2.2.1.1⟩,some ⟨false,65,8,1,fl (eI .u8) s0_.2.2.2.2.1⟩])) (n0:=(n+10)) ?_ ?_
    ·refine zQD [2,3,4,6,7,8,9,10,11,12,13,14,15,16,17,62] [none] ?_
     refine Zt (t:=(cond y250 true y251)) rfl (fun c262 => ?_) (fun c262 => ?_)
     ·replace hz261:=Zw c262 hz261
      refine zR ?_
      exact zEn hz261
     replace hz261:=Zv c262 hz261
     refine zK ?_
     exact zEn hz261
    refine zQ [2,3,4,6,7,8,9,10,11,12,13,14,15,16,17] ?_
    obtain ⟨z263,hz263,hz247⟩:=bC hz247
    refine Xj (E':=⟨105,[],[(2,.ref n 0),(3,.ref (n+1) 0),(4,.ref (n+2) 0),(6,.ref (n+3) 0),(7,.ref (n+4) 0),(8,.ref (n+5) 0),(9,.ref (n+6) 0),(10,.ref (n+7) 0),(11,(vI (IntKind.i64.wrap (2 * s0_.1)))),(12,(vI z261)),(13,.ref (n+8) 0),(14,.ref (n+9) 0),(15,(vI s0_.2.2.1)),(16,(vB y250)),(17,(vB y251))]⟩) (O':=(Zy O n [some ⟨false,42,4,1,(Zl a0)⟩,some ⟨false,42,4,1,(Zl a1)⟩,some ⟨false,42,4,1,[(vI 0),.val (.int .u8 0),.val (.int .u64 0),.val (.int .u64 0)]⟩,some ⟨false,42,4,1,[(vI a0.At),.val (.int .u8 0),.val (.int .u64 0),.val (.int .u64 0)]⟩,some ⟨false,65,8,1,fl (eI .u8) y25.1⟩,some ⟨false,65,8,1,fl (eI .u8) y61.1⟩,some ⟨false,65,8,1,fl (eI .u8) y97.1⟩,some ⟨false,65,8,1,fl (eI .u8) y133.1⟩,some ⟨false,65,8,1,fl (eI .u8) z263.1.1⟩,some ⟨false,65,8,1,fl (eI .u8) z263.2.1⟩])) (n0:=(n+10)) ?_ ?_
    ·refine zQ [2,3,4,6,7,8,9,10,11,12,13,14,15,16,17,68] ?_
     refine Zt (t:=y251) rfl (fun c273 => ?_) (fun c273 => ?_)
     ·replace hz263:=Zw c273 hz263
      refine Zn ?_
      obtain ⟨x267,hx267,ax267,bx267,cx267,hz263⟩:=bEA (f:=(eI .u8)) (b:=8) rfl Zht (fun _=>rfl) (by decide) hz263
      obtain ⟨x268,hx268,ax268,bx268,cx268,hz263⟩:=bEA (f:=(eI .u8)) (b:=8) rfl Zht (fun _=>rfl) (by decide) hz263
      have gu269:Q4 (fl (eI .u8) s0_.2.2.2.1.1) [.val (.int .u8 x267)] (Int.toNat s0_.2.2.1 * 1)=some (fl (eI .u8) (Zdo s0_.2.2.2.1.1 s0_.2.2.1 x267)):=Zbt (f:=(eI .u8)) (ti:=⟨.bool,1,0,[],false⟩) (x:=x267) (fun _=>rfl) (Uq hx268)
      refine Zxt [] ax267 bx267 cx267 ax268 bx268 cx268 gu269 ?_
      refine zD [2,3,4,6,7,8,9,10,11,12,13,14,15,16,17] [true,true,true,true,true,true,true,true,true,true] ?_
      obtain ⟨x270,hx270,ax270,bx270,cx270,hz263⟩:=bEA (f:=(eI .u8)) (b:=8) rfl Zht (fun _=>rfl) (by decide) hz263
      obtain ⟨x271,hx271,ax271,bx271,cx271,hz263⟩:=bEA (f:=(eI .u8)) (b:=8) rfl Zht (fun _=>rfl) (by decide) hz263
      have gu272:Q4 (fl (eI .u8) s0_.2.2.2.2.1) [.val (.int .u8 x270)] (Int.toNat s0_.2.2.1 * 1)=some (fl (eI .u8) (Zdo s0_.2.2.2.2.1 s0_.2.2.1 x270)):=Zbt (f:=(eI .u8)) (ti:=⟨.bool,1,0,[],false⟩) (x:=x270) (fun _=>rfl) (Uq hx271)
      refine Zxt [] ax270 bx270 cx270 ax271 bx271 cx271 gu272 ?_
      exact Zxs hz263 ax270 bx270 cx270 ax271 bx271 cx271 gu272
     replace hz263:=Zv c273 hz263
     refine zK ?_
     exact zEn hz263
    obtain ⟨z274,hz274,hz247⟩:=bC hz247
    refine Xj (E':=⟨105,[],[(2,.ref n 0),(3,.ref (n+1) 0),(4,.ref (n+2) 0),(6,.ref (n+3) 0),(7,.ref (n+4) 0),(8,.ref (n+5) 0),(9,.ref (n+6) 0),(10,.ref (n+7) 0),(11,(vI (IntKind.i64.wrap (2 * s0_.1)))),(12,(vI z261)),(13,.ref (n+8) 0),(14,.ref (n+9) 0),(15,(vI s0_.2.2.1)),(16,(vB y250)),(17,(vB y251))]⟩) (O':=(Zy O n [some ⟨false,42,4,1,(Zl a0)⟩,some ⟨false,42,4,1,(Zl a1)⟩,some ⟨false,42,4,1,[(vI 0),.val (.int .u8 0),.val (.int .u64 0),.val (.int .u64 0)]⟩,some ⟨false,42,4,1,[(vI a0.At),.val (.int .u8 0),.val (.int .u64 0),.val (.int .u64 0)]⟩,some ⟨false,65,8,1,fl (eI .u8) y25.1⟩,some ⟨false,65,8,1,fl (eI .u8) y61.1⟩,some ⟨false,65,8,1,fl (eI .u8) y97.1⟩,some ⟨false,65,8,1,fl (eI .u8) y133.1⟩,some ⟨false,65,8,1,fl (eI .u8) z274.1⟩,some ⟨false,65,8,1,fl (eI .u8) z263.2.1⟩])) (n0:=(n+10)) ?_ ?_
    ·refine zQ [2,3,4,6,7,8,9,10,11,12,13,14,15,16,17,79] ?_
     refine Zt (t:=y250) rfl (fun c278 => ?_) (fun c278 => ?_)
     ·replace hz274:=Zw c278 hz274
      obtain ⟨x275,hx275,ax275,bx275,cx275,hz274⟩:=bEA (f:=(eI .u8)) (b:=8) rfl Zht (fun _=>rfl) (by decide) hz274
      obtain ⟨x276,hx276,ax276,bx276,cx276,hz274⟩:=bEA (f:=(eI .u8)) (b:=8) rfl Zht (fun _=>rfl) (by decide) hz274
      have gu277:Q4 (fl (eI .u8) z263.1.1) [.val (.int .u8 x275)] (Int.toNat s0_.2.2.1 * 1)=some (fl (eI .u8) (Zdo z263.1.1 s0_.2.2.1 x275)):=Zbt (f:=(eI .u8)) (ti:=⟨.bool,1,0,[],false⟩) (x:=x275) (fun _=>rfl) (Uq hx276)
      refine Zxt [] ax275 bx275 cx275 ax276 bx276 cx276 gu277 ?_
      exact Zxs hz274 ax275 bx275 cx275 ax276 bx276 cx276 gu277
     replace hz274:=Zv c278 hz274
     refine zK ?_
     exact zEn hz274
    refine zQD [2,3,4,6,7,8,9,10,11,12,13,14,15,89] [none,none] ?_
    refine Zt (t:=(cond y250 (!y251) false)) rfl (fun c282 => ?_) (fun c282 => ?_)
    ·replace hz247:=Zw c282 hz247
     obtain ⟨x279,hx279,ax279,bx279,cx279,hz247⟩:=bEA (f:=(eI .u8)) (b:=8) rfl Zht (fun _=>rfl) (by decide) hz247
     obtain ⟨x280,hx280,ax280,bx280,cx280,hz247⟩:=bEA (f:=(eI .u8)) (b:=8) rfl Zht (fun _=>rfl) (by decide) hz247
     have gu281:Q4 (fl (eI .u8) z263.2.1) [.val (.int .u8 x279)] (Int.toNat s0_.2.2.1 * 1)=some (fl (eI .u8) (Zdo z263.2.1 s0_.2.2.1 x279)):=Zbt (f:=(eI .u8)) (ti:=⟨.bool,1,0,[],false⟩) (x:=x279) (fun _=>rfl) (Uq hx280)
     refine Zxt [] ax279 bx279 cx279 ax280 bx280 cx280 gu281 ?_
     exact Zxs hz247 ax279 bx279 cx279 ax280 bx280 cx280 gu281
    replace hz247:=Zv c282 hz247
    refine zK ?_
    exact zEn hz247
   rcases z247 with z247 | z247
   ·dsimp only [Jg] at hw hs0_
    refine Xj hw ?_
    refine zR ?_
    exact zEn hs0_
   dsimp only [Jg] at hw hs0_
   refine Z57 hw ?_
   try simp only [Xh,Yw]
   exact zEy hs0_
  replace hs0_:=Zv c284 hs0_
  exact zEx hs0_
 rcases z285 with z285 | z285
 ·dsimp only [Jg] at hw h
  refine Ve hw ?_
  try simp only [Xh,Yw,↓reduceIte,Nat.reduceEqDiff]
  exact Zlr [.agg [(vI 0),.val (.int .u8 0),.val (.int .u64 0),.val (.int .u64 0)],(vB false)]
 dsimp only [Jg] at hw h
 refine Xe hw ?_
 try simp only [Xh,Yw,↓reduceIte,Nat.reduceEqDiff]
 refine zDs [4,6,12,13,14] [false,false,true,true,false,false,false,false,true,true] ?_
 refine zRd [4,6,13,14] [false,false,true,true,false,false,false,false,true,true] ?_
 refine Zn ?_
 have g289:=Zkw (j:=(n+8)) Zj4 Zht (by decide)
 have g290:=z285.2.1.2
 obtain ⟨y291,hy291,h⟩:=bC h
 refine V0 [] g289 g290 ?_
 refine GCalls.lend (Zd5 hy291) rfl ?_ ?_
 ·exact Qo g289 g290
 refine zX2 g289 g290 ?_
 refine zDs [4,6,14] [false,false,true,true,false,false,false,false,false,true] ?_
 have g295:=Zkw (j:=(n+9)) Zj4 Zht (by decide)
 have g296:=z285.2.2.2
 obtain ⟨y297,hy297,h⟩:=bC h
 refine V0 [] g295 g296 ?_
 refine GCalls.lend (Zd5 hy297) rfl ?_ ?_
 ·exact Qo g295 g296
 refine zX2 g295 g296 ?_
 refine zDs [4,6] [false,false,true,true,false,false,false,false,false,false] ?_
 refine zRd [4,5] [false,false,true,false,false,false,false,false,false,false] ?_
 exact Xg [.agg [(vI a0.At),.val (.int .u8 (IntKind.u8.wrap z285.1)),.val (.int .u64 y291),.val (.int .u64 y297)],(vB true)]
theorem Zf6 {a0:Zj} {a1:Zj} {r:Bool} {O:Objs} {n:Nat} (h:Ke a0 a1=some r):GTo Try.prog 5 [.agg (Zl a0),.agg (Zl a1)] O n ((vB r)) O n:=by
 unfold Ke at h
 refine zFn Try.call5 Try.func5 fun hU hN0 hN => ?_
 show W _ _ _ _ ⟨48,[],[(0,.agg (Zl a0)),(1,.agg (Zl a1))]⟩ (Zy O n []) _
 refine zQ [2,3] ?_
 refine Zn ?_
 refine zRd [2,3] [true,true] ?_
 refine Zn ?_
 obtain ⟨z3,hz3,h⟩:=bC h
 refine Xj (E':=⟨48,[],[(2,.ref n 0),(3,.ref (n+1) 0),(23,(vB z3))]⟩) (O':=(Zy O n [some ⟨false,42,4,1,(Zl a0)⟩,some ⟨false,42,4,1,[(vI a0.At),.val (.int .u8 a1.Mask),.val (.int .u64 a1.Old),.val (.int .u64 a1.New)]⟩,none,none])) (n0:=(n+4)) ?_ ?_
 ·obtain ⟨y6,hy6,hz3⟩:=bC hz3
  rcases Bool.eq_false_or_eq_true y6 with c8 | c8
  ·replace hz3:=Zw c8 hz3
   obtain ⟨y7,hy7,hz3⟩:=bC hz3
   refine Zc1 [some true,some true,some true,some true,some true] c8 ?_
   refine GCalls.lend (Zb3 hy6) rfl ?_ ?_
   ·exact Z6x c8
   refine zX1 c8 ?_
   refine GCalls.lend (Zb3 hy7) rfl ?_ ?_
   ·exact Z6x c8
   refine zX1 c8 ?_
   exact U5 hz3 c8
  replace hz3:=Zv c8 hz3
  refine Zc1 [some false,some false,some false,some false,some false] c8 ?_
  refine GCalls.lend (Zb3 hy6) rfl ?_ ?_
  ·exact Z6x c8
  refine zX1 c8 ?_
  exact U5 hz3 c8
 refine Zt (t:=z3) rfl (fun c21 => ?_) (fun c21 => ?_)
 ·replace h:=Zw c21 h
  refine Zn ?_
  obtain ⟨y10,hy10,h⟩:=bC h
  refine zCd (Zfh hy10) [4] [false,false,false,false] ?_
  exact Xg [(vB y10)]
 replace h:=Zv c21 h
 refine Ud [2,3] [true,true,false,false] ?_
 refine Zn ?_
 obtain ⟨y12,hy12,h⟩:=bC h
 refine zCd (Zfb hy12) [2,3,5,6] [true,true,false,false,true] ?_
 refine Zn ?_
 obtain ⟨y14,hy14,h⟩:=bC h
 refine zCd (Zk7 hy14) [5,6,7,8] [false,false,false,false,true,true] ?_
 obtain ⟨z16,hz16,h⟩:=bC h
 refine Xj (E':=⟨48,[],[(4,(vB z16))]⟩) (O':=(Zy O n [none,none,none,none,none,none])) (n0:=(n+6)) ?_ ?_
 ·rcases Bool.eq_false_or_eq_true (y12.2 == y14.2) with c19 | c19
  ·replace hz16:=Zw c19 hz16
   all_goals
    rcases Bool.eq_false_or_eq_true ((y12.1.At == y14.1.At) && ((y12.1.Mask == y14.1.Mask) && ((y12.1.Old == y14.1.Old) && (y12.1.New == y14.1.New)))) with c20 | c20
    ·replace hz16:=Zw c20 hz16
     try rw [c20] at c19
     obtain ⟨y18,hy18,hz16⟩:=bC hz16
     refine V0 [none,none,none,some true] c19 c20 ?_
     refine zG ?_
     refine (Zfh hy18).then ?_
     refine zX2 c19 c20 ?_
     refine zG ?_
     exact Ziq hz16 c19 c20
    replace hz16:=Zv c20 hz16
    try rw [c20] at c19
    refine V0 [none,none,none,some false] c19 c20 ?_
    refine zG ?_
    exact Ziq hz16 c19 c20
  replace hz16:=Zv c19 hz16
  all_goals
   refine Zc1 [none,none,none,some false] c19 ?_
   refine zG ?_
   exact U5 hz16 c19
 exact Xg [(vB z16)]
end Go.Proofs.Ytbjcopkgdjombaa
