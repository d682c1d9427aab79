/- Part YM1 of this seat's mirrors: functions of the seat's program, and the plain functions that they are; each theorem bears its own conditions. -/
import Derived.Test.YtbcgiaijjaocdaaYE
namespace Go.Proofs.Ytbcgiaijjaocdaa
open Go.RowKit
set_option linter.unusedVariables false
set_option linter.unusedSimpArgs false
set_option maxRecDepth 100000
set_option maxHeartbeats 1000000
attribute [local push_cast] Zh Zad Z7 Zf U9 Zt7 Zt6 Zuy Zux Zk Ze Zp4 Zkz Zky onW X7 Zd6 Zcu Zp5 Zp6 Ziv evS wok Ja Op.operands Call.operands gop onK onP atK List.all_cons List.all_nil Bool.and_true Bool.true_and Bool.and_self Value.oneCell' List.take_zero List.take_succ_cons List.take_nil List.drop_zero List.drop_succ_cons List.drop_nil List.append_nil Nat.add_zero Nat.zero_add Uz Yq ev Jm Zd4 Zyl Zsg Zsf Zyp Zja Zev Zip Zea Zne Zg4 Ga Zk1 Zk0 Zcv Zj2 Zcw Zkx Zi6 Zuc bLo bHi bMx Zew Zkw Zyn Zi5 Zkl Zgu Zba Zs4 Zyr Zj0 Zyw Zeu Z10 Jl Zi8 gone Zq1 Zli Zlh pop TK.isAgg G.one G.under G.unders List.getD_cons_zero List.getD_cons_succ List.set_cons_zero List.set_cons_succ List.map_cons List.map_nil List.toList_toArray Array.toList_append Option.toArray_none Option.toArray_some Array.toList_map Option.map_some Option.map_none Option.bind_some Option.bind_none List.getElem?_cons_zero List.getElem?_cons_succ List.getElem?_nil List.nil_append List.cons_append List.replicate_succ List.replicate_zero List.length_cons List.length_nil and_true true_and and_false false_and Bool.true_eq_false Bool.false_eq_true forall_const false_implies implies_true IntKind.bits if_true if_false ite_true ite_false eq_self true_implies false_or or_false or_true true_or not_true_eq_false not_false_eq_true decide_true decide_false decide_eq_true_eq decide_eq_false_iff_not beq_iff_eq bne_iff_ne ne_eq Bool.not_eq_true Bool.not_eq_false beq_eq_false_iff_ne bne_eq_false_iff_eq beq_self_eq_true bne_self_eq_false Option.some.injEq exists_eq_left' exists_eq_left ge_iff_le gt_iff_lt decide_not Bool.not_true Bool.not_false imp_self Zyt cond_true cond_false Z7i Z7h Bool.not_not Bool.and_false Bool.false_and Bool.or_true Bool.true_or Bool.or_false Bool.false_or U3 Zdc Zcr Za5 Xj Y2 Option.join_some Nat.add_assoc Int.toNat_natCast eI eB eS eL Xf Zj1 Zi7 Zub Zt9 Zua Z19 Z3x Zj5 Zjk Zu7 Zu5 Zu6 Zxn Zkt Zwz Zmr Ztw Zhk Zty List.length_append G.agg.injEq G.row.injEq G.ref.injEq G.val.injEq G.sl.injEq G.tup.injEq Value.int.injEq Value.bool.injEq Value.string.injEq List.cons.injEq exists_and_left exists_const List.flatten_cons List.flatten_nil Int.le_refl Nat.le_refl X9 Yo Yu Bool.not_eq_true' Bool.not_eq_false' Zwm Zmx Zz8 Z0c Zz7 Z0b Z5y Z5t List.size_toArray Zos Zq4 G.ren G.rens Zso Zhe Zvb Zt1 Zt2 Zri Z0d Zfb G.fn.injEq Zsb Zsc Zwl Z5u Zsa Z0a Z5x Z5w Zz9 Zyz Z3i Option.join_none Yh Ue undef Zkn Arr.len Arr.put_eq Zj4 Znu Zle Zjj Zu4 Zu2 Zu3 onB Z18 Zs3 Zrd Zpa Zpb Zpc Zpd Zpe Zpf Znm Znx Znv Zlg Zjl Znw Zq0 Zqz Zqy Zqx Z3w Z6n Zxm Zuz Gw Zxg Zol Zny Zlf Zy1 Zrf Zi4 Zkk Zfn Zmp Zpg Zph Zpi Zpj Zmy Zmz Zm0 Zm1 Zm2 Zm3 Zm4 Zft prT Zgq Z71 Zzx Zvh Zzy Z72 Zzz Zx5 Zz0 Z73 Zz1 Z74 Zz2 Z75 Zz3 Z76 Zz4 Z4q Zvi Z4r Zvj Z4s Zvk Z4t Zvl Z4u Zvm Z4v Zvn Z4w Zvo Z4x Zvp Z4y Zvq Z4z Zvr Z40 Zvs Z41 Zo8 Zx4 Zer Z42 Zvt Vm Zvu Z43 Zvv Z44 Zvw Z45 Zvx Z46 Zvy Zrj Zvz Z47 Zv0 Z48 Zv1 Z49 Zv2 Zg2 Zv3 Z5a Zv4 Ztl Zv5 Z5b Zv6 Z5c Zv7 Zda Zv8 Z5d Zv9 Zmv Zwa Z5e Zwb Z5f Zwc Z5g Zwd Z5h Zwe Z5i Zwf Z5j Zwg Zx6 Zo9 Z5k Zwh Zza Zrl Zzb Zrm Zzc Zrn Zzd Zro Zze Zrp Zzf Zrq Zzg Zrr Zzh Zrs Zzi Zrt Zzj Zru Zzk Zrv Zzl Zrw Zzm Zrx Zzn Zry Zzo Zrz Zzp Zr0 Zzq Zr1 Zzr Zr2 Zzs Zr3 Zzt Zr4 Zzu Zr5 Zzv Zr6 Zzw Zr7 Zb Ys Zlw Zlu Zk5 Zlc Zly Zjw Zjq Zjo Zlr Zeo Zen Zec Zeg Zep Zd2 Zdx Zdw Zel Zo Qf Zg Zn Xs X1 Y5 Zbx Zbv Zbb Zbk Zb0 Zaz Zaw Zau Zbs Zce Zcd Zca Zcb Zcf Zbu Zbq Zbp Zcc Zgo Zgn Zfz Zf8 Zgp Zff Zfd Zfc Zgm Zoa Zn9 Znh Znr Zob Zls Zlk Zlj Zn5 Yd Za2 Za1 Zar Zat Za3 Gz Gy Gx Zay Yj Zby Zbw Zbc Zbl Zb1 Za0 Zax Zav Zbt Zlv Zlt Zk4 Zlb Zlx Zjv Zjp Zjn Zlq
theorem Zig {Ji:(S_api_Tree→Int→Int→Option Int)} (Zht:∀ {a0:S_api_Tree} {a1:Int} {a2:Int} {r:Int} {O:Objs} {n:Nat},Ji a0 a1 a2=some r→GTo Try.prog 56 [.agg (Zf a0),.val (.int .i64 a1),.val (.int .i64 a2)] O n (.val (.int .i64 r)) O n) {a0:S_api_Tree} {a1:Int} {a2:Int} {r:Int} {O:Objs} {n:Nat} (h:X3 Ji a0 a1 a2=some r):GTo Try.prog 56 [.agg (Zf a0),.val (.int .i64 a1),.val (.int .i64 a2)] O n (.val (.int .i64 r)) O n:=by
 unfold X3 at h
 refine Y8 Zd Try.call56 Try.func56 rfl (Nat.le_of_ble_eq_true rfl) (Nat.le_refl _) fun hU => ?_
 have hN0:O n=none:=hU.fresh _ (Nat.le_refl _)
 have hN:∀ k,O (n+k)=none:=fun k=>hU.fresh _ (Nat.le_add_right _ _)
 show W _ _ _ _ ⟨41,[],[(0,.agg (Zf a0)),(1,.val (.int .i64 a1)),(2,.val (.int .i64 a2))]⟩ (Zx O n []) _
 refine Zr [1,2,3] (Zc Zd [] ?_)
 simp only [push_cast,seval,↓reduceIte,Za,hN0,hN]
 refine Zr [1,2,3] (Zc Zd [] ?_)
 simp only [push_cast,seval,↓reduceIte,Za,hN0,hN]
 refine Zm ?_
 refine Zr [1,2,3,19] (Zc Zd [none,none] ?_)
 simp only [push_cast,seval,↓reduceIte,Za,hN0,hN]
 repeat (with_reducible refine And.intro (by first | (intro h0;simp only [h0,and_self];done) | (intro h0;simp only [h0,Bool.not_false,Bool.not_true,Bool.true_and,Bool.and_true,true_and,and_true,and_self,imp_self,implies_true,bne_iff_ne,ne_eq,beq_iff_eq];done) | (intros;simp_all;done) | exact True.intro) ?_)
 refine Zv (t:=(cond (a1 == 0) true (decide ((IntKind.i64.wrap ((IntKind.i64.wrap (a2 - 1)) - (a0.Words.length:Int))) < 0)))) rfl (fun c5 => ?_) (fun c5 => ?_)
 ·replace h:=Zu c5 h
  refine Zr [6] (Zc Zd [] ?_)
  simp only [push_cast,seval,↓reduceIte,Za,hN0,hN]
  refine Z4 ?_
  try simp only [Zk,Ze]
  have h:=Option.some.inj h;subst h
  refine Zs (.inr rfl) hU [.val (.int .i64 (-1))] (by omega) ?_
  simp only [push_cast,seval,↓reduceIte,Za,Try.results56,hN0,hN]
 replace h:=Zt c5 h
 refine Zy ?_
 try simp only [Zk,Ze]
 refine Zl [1,2,3] [true] ?_
 simp only [push_cast,seval,↓reduceIte]
 refine Zm ?_
 refine Zr [1,2,3,7] (Zc Zd [] ?_)
 simp only [push_cast,seval,↓reduceIte,Za,hN0,hN]
 refine Zl [1,2,3,7] [true] ?_
 simp only [push_cast,seval,↓reduceIte]
 obtain ⟨z4,hz4,h⟩:=bC h
 refine Yx (E':=⟨41,[],[(2,.val (.int .i64 z4))]⟩) (O':=(Zx O n [none])) (n0:=(n+1)) ?_ ?_
 ·refine Xg hz4 (fun s0_=>⟨41,[],[(1,.val (.int .i64 a1)),(2,.val (.int .i64 s0_.1)),(3,.ref n 0),(7,.val (.int .i64 s0_.2))]⟩) (fun s0_=>(Zx O n [some ⟨false,25,3,1,(Zf a0)⟩])) (fun z4=>JX 0 n (⟨41,[],[(2,.val (.int .i64 z4))]⟩:Env) (Zx O n [none]) (n+1)) ?_
  intro s0_ x0_ hs0_
  unfold Xz at hs0_
  try dsimp only
  refine Zm ?_
  refine Zr [1,2,3,7,28] (Zc Zd [none,none] ?_)
  simp only [push_cast,seval,↓reduceIte,Za,hN0,hN]
  repeat (with_reducible refine And.intro (by first | (intro h0;simp only [h0,and_self];done) | (intro h0;simp only [h0,Bool.not_false,Bool.not_true,Bool.true_and,Bool.and_true,true_and,and_true,and_self,imp_self,implies_true,bne_iff_ne,ne_eq,beq_iff_eq];done) | (intros;simp_all;done) | exact True.intro) ?_)
  refine Zv (t:=(cond (decide (s0_.2 < (a0.Kids.length:Int))) (decide (0≤s0_.1)) false)) rfl (fun c3 => ?_) (fun c3 => ?_)
  ·replace hs0_:=Zu c3 hs0_
   refine Zy ?_
   try simp only [Zk,Ze]
   refine Zl [1,2,3,7] [true] ?_
   simp only [push_cast,seval,↓reduceIte]
   refine Zm ?_
   refine Ym ?_
   obtain ⟨x1,hx1,ax1,bx1,cx1,hs0_⟩:=bE (f:=Zb) Vm (fun _=>rfl) (by decide) hs0_
   obtain ⟨y2,hy2,hs0_⟩:=bC hs0_
   refine Zc Zd [] ?_
   simp only [push_cast,Nat.reduceAdd,Nat.reduceSub,Nat.reduceMul,Nat.reduceLeDiff,Nat.reduceLT,Nat.reduceEqDiff,↓reduceIte,reduceCtorEq,Int.reduceBEq,Int.reduceBNe,Nat.reduceBEq,Int.reduceLE,Int.reduceLT,Int.reduceEq,Int.reduceNe,Int.reduceNeg,Nat.reduceDiv,Nat.reduceMod,Nat.reducePow,Za,ax1,bx1,cx1,hN0,hN]
   refine (Zht hy2).then ?_
   simp only [push_cast,Nat.reduceAdd,Nat.reduceSub,Nat.reduceMul,Nat.reduceLeDiff,Nat.reduceLT,Nat.reduceEqDiff,↓reduceIte,reduceCtorEq,Int.reduceBEq,Int.reduceBNe,Nat.reduceBEq,Int.reduceLE,Int.reduceLT,Int.reduceEq,Int.reduceNe,Int.reduceNeg,Nat.reduceDiv,Nat.reduceMod,Nat.reducePow,Za,ax1,bx1,cx1,hN0,hN]
   refine Zl [1,2,3,7] [true] ?_
   simp only [push_cast,seval,↓reduceIte]
   refine Zc Zd [] ?_
   simp only [push_cast,seval,↓reduceIte,Za,hN0,hN]
   have hs0_:=Option.some.inj hs0_;subst hs0_
   refine And.intro rfl (Fit2.of (Zj hU rfl rfl ?_) (by omega))
   simp only [push_cast,seval,↓reduceIte,Za,hN0,hN]
  replace hs0_:=Zt c3 hs0_
  refine Xp ?_
  try simp only [Zk,Ze,↓reduceIte,Nat.reduceEqDiff]
  have hs0_:=Option.some.inj hs0_;subst hs0_
  refine And.intro (fun h=>by cases h) (And.intro rfl (Fit2.of (Zj hU rfl rfl ?_) (by omega)))
  simp only [push_cast,seval,↓reduceIte,Za,hN0,hN]
 try simp only [Zk,Ze,↓reduceIte,Nat.reduceEqDiff]
 refine Zl [2] [false] ?_
 simp only [push_cast,seval,↓reduceIte]
 refine Zr [6] (Zc Zd [] ?_)
 simp only [push_cast,seval,↓reduceIte,Za,hN0,hN]
 refine Z4 ?_
 try simp only [Zk,Ze]
 have h:=Option.some.inj h;subst h
 refine Zs (.inr rfl) hU [.val (.int .i64 z4)] (by omega) ?_
 simp only [push_cast,seval,↓reduceIte,Za,Try.results56,hN0,hN]
theorem Zg5:∀ k,(∀ {a0:S_api_Tree} {a1:Int} {a2:Int} {r:Int} {O:Objs} {n:Nat},(Yv k) a0 a1 a2=some r→GTo Try.prog 56 [.agg (Zf a0),.val (.int .i64 a1),.val (.int .i64 a2)] O n (.val (.int .i64 r)) O n):=fun k=>by
 induction k with
 | zero=>exact @fun a0 a1 a2 r O n h=>(nomatch (show (none:Option _)=some _ from h))
 | succ k ih=>exact @fun a0 a1 a2 r O n h=>Zig (ih)  h
theorem V4 {a0:S_api_Tree} {a1:Int} {a2:Int} {r:Int} {O:Objs} {n:Nat} (h:X5 a0 a1 a2=some r):GTo Try.prog 56 [.agg (Zf a0),.val (.int .i64 a1),.val (.int .i64 a2)] O n (.val (.int .i64 r)) O n:=by
 obtain ⟨k,hk⟩:=Uh h
 exact (Zg5 k)  hk
theorem Zkj {Qj:(S_api_Edit→Int→Int→Option Int)} (Ze6:∀ {a0:S_api_Edit} {a1:Int} {a2:Int} {r:Int} {O:Objs} {n:Nat},Qj a0 a1 a2=some r→GTo Try.prog 83 [.agg (Zh a0),.val (.int .i64 a1),.val (.int .i64 a2)] O n (.val (.int .i64 r)) O n) {a0:S_api_Edit} {a1:Int} {a2:Int} {r:Int} {O:Objs} {n:Nat} (h:Qv Qj a0 a1 a2=some r):GTo Try.prog 83 [.agg (Zh a0),.val (.int .i64 a1),.val (.int .i64 a2)] O n (.val (.int .i64 r)) O n:=by
 unfold Qv at h
 refine Y8 Zd Try.call83 Try.func83 rfl (Nat.le_of_ble_eq_true rfl) (Nat.le_refl _) fun hU => ?_
 have hN0:O n=none:=hU.fresh _ (Nat.le_refl _)
 have hN:∀ k,O (n+k)=none:=fun k=>hU.fresh _ (Nat.le_add_right _ _)
 show W _ _ _ _ ⟨107,[],[(0,.agg (Zh a0)),(1,.val (.int .i64 a1)),(2,.val (.int .i64 a2))]⟩ (Zx O n []) _
 refine Zr [1,2,3] (Zc Zd [] ?_)
 simp only [push_cast,seval,↓reduceIte,Za,hN0,hN]
 refine Zr [1,2,3] (Zc Zd [] ?_)
 simp only [push_cast,seval,↓reduceIte,Za,hN0,hN]
 refine Zm ?_
 refine Zr [1,2,3,25] (Zc Zd [none,none] ?_)
 simp only [push_cast,seval,↓reduceIte,Za,hN0,hN]
 repeat (with_reducible refine And.intro (by first | (intro h0;simp only [h0,and_self];done) | (intro h0;simp only [h0,Bool.not_false,Bool.not_true,Bool.true_and,Bool.and_true,true_and,and_true,and_self,imp_self,implies_true,bne_iff_ne,ne_eq,beq_iff_eq];done) | (intros;simp_all;done) | exact True.intro) ?_)
 refine Zv (t:=(cond (a1 == 0) true (decide ((IntKind.i64.wrap ((IntKind.i64.wrap ((IntKind.i64.wrap (a2 - 1)) - (a0.Words.length:Int))) - (a0.Ops.length:Int))) < 0)))) rfl (fun c28 => ?_) (fun c28 => ?_)
 ·replace h:=Zu c28 h
  refine Zr [6] (Zc Zd [] ?_)
  simp only [push_cast,seval,↓reduceIte,Za,hN0,hN]
  refine Z4 ?_
  try simp only [Zk,Ze]
  have h:=Option.some.inj h;subst h
  refine Zs (.inr rfl) hU [.val (.int .i64 (-1))] (by omega) ?_
  simp only [push_cast,seval,↓reduceIte,Za,Try.results83,hN0,hN]
 replace h:=Zt c28 h
 refine Zy ?_
 try simp only [Zk,Ze]
 refine Zl [1,2,3] [true] ?_
 simp only [push_cast,seval,↓reduceIte]
 refine Zm ?_
 obtain ⟨y2,hy2,h⟩:=bC h
 refine Zc Zd [] ?_
 simp only [push_cast,seval,↓reduceIte,Za,hN0,hN]
 refine (V4 hy2).then ?_
 simp only [push_cast,seval,↓reduceIte,Za,hN0,hN]
 refine Zl [1,2,3] [true] ?_
 simp only [push_cast,seval,↓reduceIte]
 obtain ⟨z3,hz3,h⟩:=bC h
 refine Y6 (E':=⟨107,[],[(1,.val (.int .i64 a1)),(2,.val (.int .i64 z3)),(3,.ref n 0)]⟩) (O':=(Zx O n [some ⟨false,30,11,1,(Zh a0)⟩])) (n0:=(n+1)) ?_ ?_
 ·refine Zr [1,2,3,31] (Zc Zd [] ?_)
  simp only [push_cast,seval,↓reduceIte,Za,hN0,hN]
  refine Zv (t:=(decide (0≤y2))) rfl (fun c5 => ?_) (fun c5 => ?_)
  ·replace hz3:=Zu c5 hz3
   obtain ⟨y4,hy4,hz3⟩:=bC hz3
   refine Zc Zd [] ?_
   simp only [push_cast,seval,↓reduceIte,Za,hN0,hN]
   refine (V4 hy4).then ?_
   simp only [push_cast,seval,↓reduceIte,Za,hN0,hN]
   have hz3:=Option.some.inj hz3;subst hz3
   refine And.intro rfl (Fit2.of (Zj hU rfl rfl ?_) (by omega))
   simp only [push_cast,seval,↓reduceIte,Za,hN0,hN]
  replace hz3:=Zt c5 hz3
  refine Zy ?_
  try simp only [Zk,Ze]
  have hz3:=Option.some.inj hz3;subst hz3
  refine And.intro rfl (Fit2.of (Zj hU rfl rfl ?_) (by omega))
  simp only [push_cast,seval,↓reduceIte,Za,hN0,hN]
 refine Zm ?_
 refine Zr [1,2,3,7] (Zc Zd [] ?_)
 simp only [push_cast,seval,↓reduceIte,Za,hN0,hN]
 refine Zl [1,2,3,7] [true] ?_
 simp only [push_cast,seval,↓reduceIte]
 obtain ⟨z10,hz10,h⟩:=bC h
 refine Yx (E':=⟨107,[],[(1,.val (.int .i64 a1)),(2,.val (.int .i64 z10)),(3,.ref n 0)]⟩) (O':=(Zx O n [some ⟨false,30,11,1,(Zh a0)⟩])) (n0:=(n+1)) ?_ ?_
 ·refine Xg hz10 (fun s0_=>⟨107,[],[(1,.val (.int .i64 a1)),(2,.val (.int .i64 s0_.1)),(3,.ref n 0),(7,.val (.int .i64 s0_.2))]⟩) (fun s0_=>(Zx O n [some ⟨false,30,11,1,(Zh a0)⟩])) (fun z10=>JX 0 n (⟨107,[],[(1,.val (.int .i64 a1)),(2,.val (.int .i64 z10)),(3,.ref n 0)]⟩:Env) (Zx O n [some ⟨false,30,11,1,(Zh a0)⟩]) (n+1)) ?_
  intro s0_ x0_ hs0_
  unfold Ql at hs0_
  try dsimp only
  refine Zm ?_
  refine Zr [1,2,3,7,44] (Zc Zd [none,none] ?_)
  simp only [push_cast,seval,↓reduceIte,Za,hN0,hN]
  repeat (with_reducible refine And.intro (by first | (intro h0;simp only [h0,and_self];done) | (intro h0;simp only [h0,Bool.not_false,Bool.not_true,Bool.true_and,Bool.and_true,true_and,and_true,and_self,imp_self,implies_true,bne_iff_ne,ne_eq,beq_iff_eq];done) | (intros;simp_all;done) | exact True.intro) ?_)
  refine Zv (t:=(cond (decide (s0_.2 < (a0.Kids.length:Int))) (decide (0≤s0_.1)) false)) rfl (fun c9 => ?_) (fun c9 => ?_)
  ·replace hs0_:=Zu c9 hs0_
   refine Zy ?_
   try simp only [Zk,Ze]
   refine Zl [1,2,3,7] [true] ?_
   simp only [push_cast,seval,↓reduceIte]
   refine Zm ?_
   refine Ym ?_
   obtain ⟨x6,hx6,ax6,bx6,cx6,hs0_⟩:=bE (f:=Zn) Zmv (fun _=>rfl) (by decide) hs0_
   have g7:=Zc6 (f:=Zn) (off:=1) (sz:=12) Zrj (fun _=>rfl) (by decide) (by decide) hx6
   obtain ⟨y8,hy8,hs0_⟩:=bC hs0_
   refine Zc Zd [] ?_
   simp only [push_cast,Nat.reduceAdd,Nat.reduceSub,Nat.reduceMul,Nat.reduceLeDiff,Nat.reduceLT,Nat.reduceEqDiff,↓reduceIte,reduceCtorEq,Int.reduceBEq,Int.reduceBNe,Nat.reduceBEq,Int.reduceLE,Int.reduceLT,Int.reduceEq,Int.reduceNe,Int.reduceNeg,Nat.reduceDiv,Nat.reduceMod,Nat.reducePow,Za,ax6,bx6,cx6,g7,hN0,hN]
   refine (Ze6 hy8).then ?_
   simp only [push_cast,Nat.reduceAdd,Nat.reduceSub,Nat.reduceMul,Nat.reduceLeDiff,Nat.reduceLT,Nat.reduceEqDiff,↓reduceIte,reduceCtorEq,Int.reduceBEq,Int.reduceBNe,Nat.reduceBEq,Int.reduceLE,Int.reduceLT,Int.reduceEq,Int.reduceNe,Int.reduceNeg,Nat.reduceDiv,Nat.reduceMod,Nat.reducePow,Za,ax6,bx6,cx6,g7,hN0,hN]
   refine Zl [1,2,3,7] [true] ?_
   simp only [push_cast,seval,↓reduceIte]
   refine Zc Zd [] ?_
   simp only [push_cast,seval,↓reduceIte,Za,hN0,hN]
   have hs0_:=Option.some.inj hs0_;subst hs0_
   refine And.intro rfl (Fit2.of (Zj hU rfl rfl ?_) (by omega))
   simp only [push_cast,seval,↓reduceIte,Za,hN0,hN]
  replace hs0_:=Zt c9 hs0_
  refine Xp ?_
  try simp only [Zk,Ze,↓reduceIte,Nat.reduceEqDiff]
  have hs0_:=Option.some.inj hs0_;subst hs0_
  refine And.intro (fun h=>by cases h) (And.intro rfl (Fit2.of (Zj hU rfl rfl ?_) (by omega)))
  simp only [push_cast,seval,↓reduceIte,Za,hN0,hN]
 try simp only [Zk,Ze,↓reduceIte,Nat.reduceEqDiff]
 refine Zl [1,2,3] [true] ?_
 simp only [push_cast,seval,↓reduceIte]
 refine Zm ?_
 refine Zr [1,2,3,8] (Zc Zd [] ?_)
 simp only [push_cast,seval,↓reduceIte,Za,hN0,hN]
 refine Zl [1,2,3,8] [true] ?_
 simp only [push_cast,seval,↓reduceIte]
 obtain ⟨z27,hz27,h⟩:=bC h
 refine Yx (E':=⟨107,[],[(2,.val (.int .i64 z27))]⟩) (O':=(Zx O n [none])) (n0:=(n+1)) ?_ ?_
 ·refine Xg hz27 (fun s1_=>⟨107,[],[(1,.val (.int .i64 a1)),(2,.val (.int .i64 s1_.1)),(3,.ref n 0),(8,.val (.int .i64 s1_.2))]⟩) (fun s1_=>(Zx O n [some ⟨false,30,11,1,(Zh a0)⟩])) (fun z27=>JX 2 n (⟨107,[],[(2,.val (.int .i64 z27))]⟩:Env) (Zx O n [none]) (n+1)) ?_
  intro s1_ x1_ hs1_
  unfold Qm at hs1_
  try dsimp only
  refine Zm ?_
  refine Zr [1,2,3,8,65] (Zc Zd [none,none] ?_)
  simp only [push_cast,seval,↓reduceIte,Za,hN0,hN]
  repeat (with_reducible refine And.intro (by first | (intro h0;simp only [h0,and_self];done) | (intro h0;simp only [h0,Bool.not_false,Bool.not_true,Bool.true_and,Bool.and_true,true_and,and_true,and_self,imp_self,implies_true,bne_iff_ne,ne_eq,beq_iff_eq];done) | (intros;simp_all;done) | exact True.intro) ?_)
  refine Zv (t:=(cond (decide (s1_.2 < (a0.Ops.length:Int))) (decide (0≤s1_.1)) false)) rfl (fun c26 => ?_) (fun c26 => ?_)
  ·replace hs1_:=Zu c26 hs1_
   refine Zy ?_
   try simp only [Zk,Ze]
   refine Zl [1,2,3,8] [true] ?_
   simp only [push_cast,seval,↓reduceIte]
   obtain ⟨z11,hz11,hs1_⟩:=bC hs1_
   refine Y6 (E':=⟨107,[],[(1,.val (.int .i64 a1)),(2,.val (.int .i64 z11)),(3,.ref n 0),(8,.val (.int .i64 s1_.2))]⟩) (O':=(Zx O n [some ⟨false,30,11,1,(Zh a0)⟩])) (n0:=(n+1)) ?_ ?_
   ·refine Ym ?_
    refine Zm ?_
    refine Zr [1,2,3,8,9] (Zc Zd [] ?_)
    simp only [push_cast,seval,↓reduceIte,Za,hN0,hN]
    refine Zl [1,2,3,8,9] [true] ?_
    simp only [push_cast,seval,↓reduceIte]
    obtain ⟨z21,hz21,hz11⟩:=bC hz11
    refine Yx (E':=⟨107,[],[(1,.val (.int .i64 a1)),(2,.val (.int .i64 z21)),(3,.ref n 0),(8,.val (.int .i64 s1_.2))]⟩) (O':=(Zx O n [some ⟨false,30,11,1,(Zh a0)⟩])) (n0:=(n+1)) ?_ ?_
    ·refine Xg hz21 (fun s2_=>⟨107,[],[(1,.val (.int .i64 a1)),(2,.val (.int .i64 s2_.1)),(3,.ref n 0),(8,.val (.int .i64 s1_.2)),(9,.val (.int .i64 s2_.2))]⟩) (fun s2_=>(Zx O n [some ⟨false,30,11,1,(Zh a0)⟩])) (fun z21=>JX 4 n (⟨107,[],[(1,.val (.int .i64 a1)),(2,.val (.int .i64 z21)),(3,.ref n 0),(8,.val (.int .i64 s1_.2))]⟩:Env) (Zx O n [some ⟨false,30,11,1,(Zh a0)⟩]) (n+1)) ?_
     intro s2_ x2_ hs2_
     unfold Kw at hs2_
     try dsimp only
     refine Zm ?_
     obtain ⟨x14,hx14,ax14,bx14,cx14,hs2_⟩:=bE (f:=Zg) Zda (fun _=>rfl) (by decide) hs2_
     have g15:=Zc6 (f:=Zg) (off:=2) (sz:=14) Zx4 (fun _=>rfl) (by decide) (by decide) hx14
     refine Zr [1,2,3,8,9,80] (Zc Zd [none,none] ?_)
     simp only [push_cast,Nat.reduceAdd,Nat.reduceSub,Nat.reduceMul,Nat.reduceLeDiff,Nat.reduceLT,Nat.reduceEqDiff,↓reduceIte,reduceCtorEq,Int.reduceBEq,Int.reduceBNe,Nat.reduceBEq,Int.reduceLE,Int.reduceLT,Int.reduceEq,Int.reduceNe,Int.reduceNeg,Nat.reduceDiv,Nat.reduceMod,Nat.reducePow,Za,ax14,bx14,cx14,g15,hN0,hN]
     repeat (with_reducible refine And.intro (by first | (intro h0;simp only [h0,and_self];done) | (intro h0;simp only [h0,Bool.not_false,Bool.not_true,Bool.true_and,Bool.and_true,true_and,and_true,and_self,imp_self,implies_true,bne_iff_ne,ne_eq,beq_iff_eq];done) | (intros;simp_all;done) | exact True.intro) ?_)
     refine Zv (t:=(cond (decide (s2_.2 < (x14.L.length:Int))) (decide (0≤s2_.1)) false)) rfl (fun c20 => ?_) (fun c20 => ?_)
     ·replace hs2_:=Zu c20 hs2_
      refine Zy ?_
      try simp only [Zk,Ze]
      refine Zl [1,2,3,8,9] [true] ?_
      simp only [push_cast,seval,↓reduceIte]
      refine Zm ?_
      refine Ym ?_
      obtain ⟨x16,hx16,ax16,bx16,cx16,hs2_⟩:=bE (f:=Zg) Zda (fun _=>rfl) (by decide) hs2_
      have g17:=Zc6 (f:=Zg) (off:=2) (sz:=14) Zx4 (fun _=>rfl) (by decide) (by decide) hx16
      obtain ⟨x18,hx18,ax18,bx18,cx18,hs2_⟩:=bE (f:=Zb) Vm (fun _=>rfl) (by decide) hs2_
      obtain ⟨y19,hy19,hs2_⟩:=bC hs2_
      refine Zc Zd [] ?_
      simp only [push_cast,Nat.reduceAdd,Nat.reduceSub,Nat.reduceMul,Nat.reduceLeDiff,Nat.reduceLT,Nat.reduceEqDiff,↓reduceIte,reduceCtorEq,Int.reduceBEq,Int.reduceBNe,Nat.reduceBEq,Int.reduceLE,Int.reduceLT,Int.reduceEq,Int.reduceNe,Int.reduceNeg,Nat.reduceDiv,Nat.reduceMod,Nat.reducePow,Za,ax16,bx16,cx16,g17,ax18,bx18,cx18,hN0,hN]
      refine (V4 hy19).then ?_
      simp only [push_cast,Nat.reduceAdd,Nat.reduceSub,Nat.reduceMul,Nat.reduceLeDiff,Nat.reduceLT,Nat.reduceEqDiff,↓reduceIte,reduceCtorEq,Int.reduceBEq,Int.reduceBNe,Nat.reduceBEq,Int.reduceLE,Int.reduceLT,Int.reduceEq,Int.reduceNe,Int.reduceNeg,Nat.reduceDiv,Nat.reduceMod,Nat.reducePow,Za,ax16,bx16,cx16,g17,ax18,bx18,cx18,hN0,hN]
      refine Zl [1,2,3,8,9] [true] ?_
      simp only [push_cast,seval,↓reduceIte]
      refine Zc Zd [] ?_
      simp only [push_cast,seval,↓reduceIte,Za,hN0,hN]
      have hs2_:=Option.some.inj hs2_;subst hs2_
      refine And.intro rfl (Fit2.of (Zj hU rfl rfl ?_) (by omega))
      simp only [push_cast,seval,↓reduceIte,Za,hN0,hN]
     replace hs2_:=Zt c20 hs2_
     refine Xp ?_
     try simp only [Zk,Ze,↓reduceIte,Nat.reduceEqDiff]
     have hs2_:=Option.some.inj hs2_;subst hs2_
     refine And.intro (fun h=>by cases h) (And.intro rfl (Fit2.of (Zj hU rfl rfl ?_) (by omega)))
     simp only [push_cast,seval,↓reduceIte,Za,hN0,hN]
    try simp only [Zk,Ze,↓reduceIte,Nat.reduceEqDiff]
    refine Zl [1,2,3,8] [true] ?_
    simp only [push_cast,seval,↓reduceIte]
    refine Zr [1,2,3,8,95] (Zc Zd [] ?_)
    simp only [push_cast,seval,↓reduceIte,Za,hN0,hN]
    refine Zv (t:=(decide (0≤z21))) rfl (fun c25 => ?_) (fun c25 => ?_)
    ·replace hz11:=Zu c25 hz11
     obtain ⟨x22,hx22,ax22,bx22,cx22,hz11⟩:=bE (f:=Zg) Zda (fun _=>rfl) (by decide) hz11
     have g23:=Zc6 (f:=Zg) (off:=3) (sz:=14) Zrj (fun _=>rfl) (by decide) (by decide) hx22
     obtain ⟨y24,hy24,hz11⟩:=bC hz11
     refine Zc Zd [] ?_
     simp only [push_cast,Nat.reduceAdd,Nat.reduceSub,Nat.reduceMul,Nat.reduceLeDiff,Nat.reduceLT,Nat.reduceEqDiff,↓reduceIte,reduceCtorEq,Int.reduceBEq,Int.reduceBNe,Nat.reduceBEq,Int.reduceLE,Int.reduceLT,Int.reduceEq,Int.reduceNe,Int.reduceNeg,Nat.reduceDiv,Nat.reduceMod,Nat.reducePow,Za,ax22,bx22,cx22,g23,hN0,hN]
     refine (Ze6 hy24).then ?_
     simp only [push_cast,Nat.reduceAdd,Nat.reduceSub,Nat.reduceMul,Nat.reduceLeDiff,Nat.reduceLT,Nat.reduceEqDiff,↓reduceIte,reduceCtorEq,Int.reduceBEq,Int.reduceBNe,Nat.reduceBEq,Int.reduceLE,Int.reduceLT,Int.reduceEq,Int.reduceNe,Int.reduceNeg,Nat.reduceDiv,Nat.reduceMod,Nat.reducePow,Za,ax22,bx22,cx22,g23,hN0,hN]
     have hz11:=Option.some.inj hz11;subst hz11
     refine And.intro rfl (Fit2.of (Zj hU rfl rfl ?_) (by omega))
     simp only [push_cast,Nat.reduceAdd,Nat.reduceSub,Nat.reduceMul,Nat.reduceLeDiff,Nat.reduceLT,Nat.reduceEqDiff,↓reduceIte,reduceCtorEq,Int.reduceBEq,Int.reduceBNe,Nat.reduceBEq,Int.reduceLE,Int.reduceLT,Int.reduceEq,Int.reduceNe,Int.reduceNeg,Nat.reduceDiv,Nat.reduceMod,Nat.reducePow,Za,ax22,bx22,cx22,g23,hN0,hN]
    replace hz11:=Zt c25 hz11
    refine Zy ?_
    try simp only [Zk,Ze]
    have hz11:=Option.some.inj hz11;subst hz11
    refine And.intro rfl (Fit2.of (Zj hU rfl rfl ?_) (by omega))
    simp only [push_cast,seval,↓reduceIte,Za,hN0,hN]
   refine Zc Zd [] ?_
   simp only [push_cast,seval,↓reduceIte,Za,hN0,hN]
   have hs1_:=Option.some.inj hs1_;subst hs1_
   refine And.intro rfl (Fit2.of (Zj hU rfl rfl ?_) (by omega))
   simp only [push_cast,seval,↓reduceIte,Za,hN0,hN]
  replace hs1_:=Zt c26 hs1_
  refine Xp ?_
  try simp only [Zk,Ze,↓reduceIte,Nat.reduceEqDiff]
  have hs1_:=Option.some.inj hs1_;subst hs1_
  refine And.intro (fun h=>by cases h) (And.intro rfl (Fit2.of (Zj hU rfl rfl ?_) (by omega)))
  simp only [push_cast,seval,↓reduceIte,Za,hN0,hN]
 try simp only [Zk,Ze,↓reduceIte,Nat.reduceEqDiff]
 refine Zl [2] [false] ?_
 simp only [push_cast,seval,↓reduceIte]
 refine Zr [6] (Zc Zd [] ?_)
 simp only [push_cast,seval,↓reduceIte,Za,hN0,hN]
 refine Z4 ?_
 try simp only [Zk,Ze]
 have h:=Option.some.inj h;subst h
 refine Zs (.inr rfl) hU [.val (.int .i64 z27)] (by omega) ?_
 simp only [push_cast,seval,↓reduceIte,Za,Try.results83,hN0,hN]
theorem Ziy:∀ k,(∀ {a0:S_api_Edit} {a1:Int} {a2:Int} {r:Int} {O:Objs} {n:Nat},(Yr k) a0 a1 a2=some r→GTo Try.prog 83 [.agg (Zh a0),.val (.int .i64 a1),.val (.int .i64 a2)] O n (.val (.int .i64 r)) O n):=fun k=>by
 induction k with
 | zero=>exact @fun a0 a1 a2 r O n h=>(nomatch (show (none:Option _)=some _ from h))
 | succ k ih=>exact @fun a0 a1 a2 r O n h=>Zkj (ih)  h
theorem Zk8 {a0:S_api_Edit} {a1:Int} {a2:Int} {r:Int} {O:Objs} {n:Nat} (h:Zdt a0 a1 a2=some r):GTo Try.prog 83 [.agg (Zh a0),.val (.int .i64 a1),.val (.int .i64 a2)] O n (.val (.int .i64 r)) O n:=by
 obtain ⟨k,hk⟩:=Uh h
 exact (Ziy k)  hk
theorem Zdu {a0:S_api_Edit} {r:Bool} {O:Objs} {n:Nat} (h:Gd a0=some r):GTo Try.prog 49 [.agg (Zh a0)] O n (.val (.bool r)) O n:=by
 unfold Gd at h
 refine Y8 Zd Try.call49 Try.func49 rfl (Nat.le_of_ble_eq_true rfl) (Nat.le_refl _) fun hU => ?_
 have hN0:O n=none:=hU.fresh _ (Nat.le_refl _)
 have hN:∀ k,O (n+k)=none:=fun k=>hU.fresh _ (Nat.le_add_right _ _)
 show W _ _ _ _ ⟨6,[],[(0,.agg (Zh a0))]⟩ (Zx O n []) _
 refine Zr [1] (Zc Zd [] ?_)
 simp only [push_cast,seval,↓reduceIte,Za,hN0,hN]
 refine Zm ?_
 obtain ⟨y2,hy2,h⟩:=bC h
 refine Zc Zd [] ?_
 simp only [push_cast,seval,↓reduceIte,Za,hN0,hN]
 refine (Zk8 hy2).then ?_
 simp only [push_cast,seval,↓reduceIte,Za,hN0,hN]
 refine Zl [2] [false] ?_
 simp only [push_cast,seval,↓reduceIte]
 refine Z4 ?_
 try simp only [Zk,Ze]
 have h:=Option.some.inj h;subst h
 refine Zs (.inr rfl) hU [.val (.bool (decide (0≤y2)))] (by omega) ?_
 simp only [push_cast,seval,↓reduceIte,Za,Try.results49,hN0,hN]
theorem Kj {a0:S_api_Tree} {r:Bool} {O:Objs} {n:Nat} (h:Qw a0=some r):GTo Try.prog 67 [.agg (Zf a0)] O n (.val (.bool r)) O n:=by
 unfold Qw at h
 refine Y8 Zd Try.call67 Try.func67 rfl (Nat.le_of_ble_eq_true rfl) (Nat.le_refl _) fun hU => ?_
 have hN0:O n=none:=hU.fresh _ (Nat.le_refl _)
 have hN:∀ k,O (n+k)=none:=fun k=>hU.fresh _ (Nat.le_add_right _ _)
 show W _ _ _ _ ⟨16,[],[(0,.agg (Zf a0))]⟩ (Zx O n []) _
 refine Zr [1] (Zc Zd [] ?_)
 simp only [push_cast,seval,↓reduceIte,Za,hN0,hN]
 refine Zr [2] (Zc Zd [none,none,none,none,none,none,none,none] ?_)
 simp only [push_cast,seval,↓reduceIte,Za,hN0,hN]
 repeat (with_reducible refine And.intro (by first | (intro h0;simp only [h0,and_self];done) | (intro h0;simp only [h0,Bool.not_false,Bool.not_true,Bool.true_and,Bool.and_true,true_and,and_true,and_self,imp_self,implies_true,bne_iff_ne,ne_eq,beq_iff_eq];done) | (intros;simp_all;done) | exact True.intro) ?_)
 refine Z4 ?_
 try simp only [Zk,Ze]
 have h:=Option.some.inj h;subst h
 refine Zs (.inr rfl) hU [.val (.bool (cond (a0.Kind == 0) ((IntKind.i64.wrap ((a0.Words.length:Int)+(a0.Kids.length:Int))) == 0) false))] (by omega) ?_
 simp only [push_cast,seval,↓reduceIte,Za,Try.results67,hN0,hN]
theorem Zkf {a0:Int} {r:Int} {O:Objs} {n:Nat} (h:Zcz a0=some r):GTo Try.prog 92 [.val (.int .i64 a0)] O n (.val (.int .i64 r)) O n:=by
 unfold Zcz at h
 refine Y8 Zd Try.call92 Try.func92 rfl (Nat.le_of_ble_eq_true rfl) (Nat.le_refl _) fun hU => ?_
 have hN0:O n=none:=hU.fresh _ (Nat.le_refl _)
 have hN:∀ k,O (n+k)=none:=fun k=>hU.fresh _ (Nat.le_add_right _ _)
 show W _ _ _ _ ⟨16,[],[(0,.val (.int .i64 a0))]⟩ (Zx O n []) _
 refine Zr [0] (Zc Zd [] ?_)
 simp only [push_cast,seval,↓reduceIte,Za,hN0,hN]
 refine Zm ?_
 refine Zr [3] (Zc Zd [] ?_)
 simp only [push_cast,seval,↓reduceIte,Za,hN0,hN]
 refine Ym ?_
 refine Zr [3,4] (Zc Zd [] ?_)
 simp only [push_cast,seval,↓reduceIte,Za,hN0,hN]
 refine Zv (t:=(a0 == 0)) rfl (fun c6 => ?_) (fun c6 => ?_)
 ·replace h:=Zu c6 h
  refine Zr [2] (Zc Zd [] ?_)
  simp only [push_cast,seval,↓reduceIte,Za,hN0,hN]
  refine Z4 ?_
  try simp only [Zk,Ze]
  have h:=Option.some.inj h;subst h
  refine Zs (.inr rfl) hU [.val (.int .i64 0)] (by omega) ?_
  simp only [push_cast,seval,↓reduceIte,Za,Try.results92,hN0,hN]
 replace h:=Zt c6 h
 refine Zr [3,6] (Zc Zd [] ?_)
 simp only [push_cast,seval,↓reduceIte,Za,hN0,hN]
 refine Zv (t:=(a0 == 1)) rfl (fun c5 => ?_) (fun c5 => ?_)
 ·replace h:=Zu c5 h
  refine Zr [2] (Zc Zd [] ?_)
  simp only [push_cast,seval,↓reduceIte,Za,hN0,hN]
  refine Z4 ?_
  try simp only [Zk,Ze]
  have h:=Option.some.inj h;subst h
  refine Zs (.inr rfl) hU [.val (.int .i64 1)] (by omega) ?_
  simp only [push_cast,seval,↓reduceIte,Za,Try.results92,hN0,hN]
 replace h:=Zt c5 h
 refine Zr [3,8] (Zc Zd [] ?_)
 simp only [push_cast,seval,↓reduceIte,Za,hN0,hN]
 refine Zv (t:=(a0 == 2)) rfl (fun c4 => ?_) (fun c4 => ?_)
 ·replace h:=Zu c4 h
  refine Zr [2] (Zc Zd [] ?_)
  simp only [push_cast,seval,↓reduceIte,Za,hN0,hN]
  refine Z4 ?_
  try simp only [Zk,Ze]
  have h:=Option.some.inj h;subst h
  refine Zs (.inr rfl) hU [.val (.int .i64 8)] (by omega) ?_
  simp only [push_cast,seval,↓reduceIte,Za,Try.results92,hN0,hN]
 replace h:=Zt c4 h
 refine Zr [3,10] (Zc Zd [] ?_)
 simp only [push_cast,seval,↓reduceIte,Za,hN0,hN]
 refine Zv (t:=(a0 == 3)) rfl (fun c3 => ?_) (fun c3 => ?_)
 ·replace h:=Zu c3 h
  refine Zr [2] (Zc Zd [] ?_)
  simp only [push_cast,seval,↓reduceIte,Za,hN0,hN]
  refine Z4 ?_
  try simp only [Zk,Ze]
  have h:=Option.some.inj h;subst h
  refine Zs (.inr rfl) hU [.val (.int .i64 16)] (by omega) ?_
  simp only [push_cast,seval,↓reduceIte,Za,Try.results92,hN0,hN]
 replace h:=Zt c3 h
 refine Zr [3,12] (Zc Zd [] ?_)
 simp only [push_cast,seval,↓reduceIte,Za,hN0,hN]
 refine Zv (t:=(a0 == 4)) rfl (fun c2 => ?_) (fun c2 => ?_)
 ·replace h:=Zu c2 h
  refine Zr [2] (Zc Zd [] ?_)
  simp only [push_cast,seval,↓reduceIte,Za,hN0,hN]
  refine Z4 ?_
  try simp only [Zk,Ze]
  have h:=Option.some.inj h;subst h
  refine Zs (.inr rfl) hU [.val (.int .i64 32)] (by omega) ?_
  simp only [push_cast,seval,↓reduceIte,Za,Try.results92,hN0,hN]
 replace h:=Zt c2 h
 refine Zr [14] (Zc Zd [] ?_)
 simp only [push_cast,seval,↓reduceIte,Za,hN0,hN]
 refine Zv (t:=(a0 == 5)) rfl (fun c1 => ?_) (fun c1 => ?_)
 ·replace h:=Zu c1 h
  refine Zr [2] (Zc Zd [] ?_)
  simp only [push_cast,seval,↓reduceIte,Za,hN0,hN]
  refine Z4 ?_
  try simp only [Zk,Ze]
  have h:=Option.some.inj h;subst h
  refine Zs (.inr rfl) hU [.val (.int .i64 64)] (by omega) ?_
  simp only [push_cast,seval,↓reduceIte,Za,Try.results92,hN0,hN]
 replace h:=Zt c1 h
 refine Zy ?_
 try simp only [Zk,Ze]
 refine Zl [] [] ?_
 simp only [push_cast,seval,↓reduceIte]
 refine Zr [2] (Zc Zd [] ?_)
 simp only [push_cast,seval,↓reduceIte,Za,hN0,hN]
 refine Z4 ?_
 try simp only [Zk,Ze]
 have h:=Option.some.inj h;subst h
 refine Zs (.inr rfl) hU [.val (.int .i64 (-1))] (by omega) ?_
 simp only [push_cast,seval,↓reduceIte,Za,Try.results92,hN0,hN]
theorem Zf2 {a0:Int} {a1:Int} {r:Bool} {O:Objs} {n:Nat} (h:K6 a0 a1=some r):GTo Try.prog 57 [.val (.int .i64 a0),.val (.int .u64 a1)] O n (.val (.bool r)) O n:=by
 unfold K6 at h
 refine Y8 Zd Try.call57 Try.func57 rfl (Nat.le_of_ble_eq_true rfl) (Nat.le_refl _) fun hU => ?_
 have hN0:O n=none:=hU.fresh _ (Nat.le_refl _)
 have hN:∀ k,O (n+k)=none:=fun k=>hU.fresh _ (Nat.le_add_right _ _)
 show W _ _ _ _ ⟨20,[],[(0,.val (.int .i64 a0)),(1,.val (.int .u64 a1))]⟩ (Zx O n []) _
 refine Zr [0,1] (Zc Zd [] ?_)
 simp only [push_cast,seval,↓reduceIte,Za,hN0,hN]
 refine Zm ?_
 obtain ⟨y2,hy2,h⟩:=bC h
 refine Zc Zd [] ?_
 simp only [push_cast,seval,↓reduceIte,Za,hN0,hN]
 refine (Zkf hy2).then ?_
 simp only [push_cast,seval,↓reduceIte,Za,hN0,hN]
 refine Zl [1,5] [] ?_
 simp only [push_cast,seval,↓reduceIte]
 refine Zm ?_
 refine Zr [1,5,10] (Zc Zd [] ?_)
 simp only [push_cast,seval,↓reduceIte,Za,hN0,hN]
 refine Zv (t:=(decide (y2 < 0))) rfl (fun c5 => ?_) (fun c5 => ?_)
 ·replace h:=Zu c5 h
  refine Zr [4] (Zc Zd [] ?_)
  simp only [push_cast,seval,↓reduceIte,Za,hN0,hN]
  refine Z4 ?_
  try simp only [Zk,Ze]
  have h:=Option.some.inj h;subst h
  refine Zs (.inr rfl) hU [.val (.bool false)] (by omega) ?_
  simp only [push_cast,seval,↓reduceIte,Za,Try.results57,hN0,hN]
 replace h:=Zt c5 h
 refine Zy ?_
 try simp only [Zk,Ze]
 refine Zl [1,5] [] ?_
 simp only [push_cast,seval,↓reduceIte]
 refine Zm ?_
 refine Zr [1,5,6] (Zc Zd [] ?_)
 simp only [push_cast,seval,↓reduceIte,Za,hN0,hN]
 refine Zl [1,5,6] [] ?_
 simp only [push_cast,seval,↓reduceIte]
 obtain ⟨z4,hz4,h⟩:=bC h
 refine Yx (E':=⟨20,[],[(1,.val (.int .u64 z4))]⟩) (O':=(Zx O n [])) (n0:=n) ?_ ?_
 ·refine Xg hz4 (fun s0_=>⟨20,[],[(1,.val (.int .u64 s0_.1)),(5,.val (.int .i64 y2)),(6,.val (.int .i64 s0_.2))]⟩) (fun s0_=>(Zx O n [])) (fun z4=>JX 0 n (⟨20,[],[(1,.val (.int .u64 z4))]⟩:Env) (Zx O n []) n) ?_
  intro s0_ x0_ hs0_
  unfold X4 at hs0_
  try dsimp only
  refine Zm ?_
  refine Zr [1,5,6,13] (Zc Zd [] ?_)
  simp only [push_cast,seval,↓reduceIte,Za,hN0,hN]
  refine Zv (t:=(decide (s0_.2 < y2))) rfl (fun c3 => ?_) (fun c3 => ?_)
  ·replace hs0_:=Zu c3 hs0_
   refine Zy ?_
   try simp only [Zk,Ze]
   refine Zl [1,5,6] [] ?_
   simp only [push_cast,seval,↓reduceIte]
   refine Zm ?_
   refine Ym ?_
   refine Zc Zd [] ?_
   simp only [push_cast,seval,↓reduceIte,Za,hN0,hN]
   refine Zl [1,5,6] [] ?_
   simp only [push_cast,seval,↓reduceIte]
   refine Zc Zd [] ?_
   simp only [push_cast,seval,↓reduceIte,Za,hN0,hN]
   have hs0_:=Option.some.inj hs0_;subst hs0_
   refine And.intro rfl (Fit2.of (Zj hU rfl rfl ?_) (by omega))
   simp only [push_cast,seval,↓reduceIte,Za,hN0,hN]
  replace hs0_:=Zt c3 hs0_
  refine Xp ?_
  try simp only [Zk,Ze,↓reduceIte,Nat.reduceEqDiff]
  have hs0_:=Option.some.inj hs0_;subst hs0_
  refine And.intro (fun h=>by cases h) (And.intro rfl (Fit2.of (Zj hU rfl rfl ?_) (by omega)))
  simp only [push_cast,seval,↓reduceIte,Za,hN0,hN]
 try simp only [Zk,Ze,↓reduceIte,Nat.reduceEqDiff]
 refine Zl [1] [] ?_
 simp only [push_cast,seval,↓reduceIte]
 refine Zr [4] (Zc Zd [] ?_)
 simp only [push_cast,seval,↓reduceIte,Za,hN0,hN]
 refine Z4 ?_
 try simp only [Zk,Ze]
 have h:=Option.some.inj h;subst h
 refine Zs (.inr rfl) hU [.val (.bool (z4 == 0))] (by omega) ?_
 simp only [push_cast,seval,↓reduceIte,Za,Try.results57,hN0,hN]
theorem Zjf {Km:(S_api_Tree→Int→Option Bool)} (Ziz:∀ {a0:S_api_Tree} {a1:Int} {r:Bool} {O:Objs} {n:Nat},Km a0 a1=some r→GTo Try.prog 22 [.agg (Zf a0),.val (.int .i64 a1)] O n (.val (.bool r)) O n) {a0:S_api_Tree} {a1:Int} {r:Bool} {O:Objs} {n:Nat} (h:Vo Km a0 a1=some r):GTo Try.prog 22 [.agg (Zf a0),.val (.int .i64 a1)] O n (.val (.bool r)) O n:=by
 unfold Vo at h
 refine Y8 Zd Try.call22 Try.func22 rfl (Nat.le_of_ble_eq_true rfl) (Nat.le_refl _) fun hU => ?_
 have hN0:O n=none:=hU.fresh _ (Nat.le_refl _)
 have hN:∀ k,O (n+k)=none:=fun k=>hU.fresh _ (Nat.le_add_right _ _)
 show W _ _ _ _ ⟨132,[],[(0,.agg (Zf a0)),(1,.val (.int .i64 a1))]⟩ (Zx O n []) _
 refine Zr [1,2] (Zc Zd [] ?_)
 simp only [push_cast,seval,↓reduceIte,Za,hN0,hN]
 refine Zm ?_
 refine Zr [1,2,10] (Zc Zd [] ?_)
 simp only [push_cast,seval,↓reduceIte,Za,hN0,hN]
 refine Zv (t:=(a0.Kind == 0)) rfl (fun c32 => ?_) (fun c32 => ?_)
 ·replace h:=Zu c32 h
  refine Zr [4] (Zc Zd [none,none,none,none] ?_)
  simp only [push_cast,seval,↓reduceIte,Za,hN0,hN]
  repeat (with_reducible refine And.intro (by first | (intro h0;simp only [h0,and_self];done) | (intro h0;simp only [h0,Bool.not_false,Bool.not_true,Bool.true_and,Bool.and_true,true_and,and_true,and_self,imp_self,implies_true,bne_iff_ne,ne_eq,beq_iff_eq];done) | (intros;simp_all;done) | exact True.intro) ?_)
  refine Z4 ?_
  try simp only [Zk,Ze]
  have h:=Option.some.inj h;subst h
  refine Zs (.inr rfl) hU [.val (.bool (cond ((a0.Words.length:Int) == 0) ((a0.Kids.length:Int) == 0) false))] (by omega) ?_
  simp only [push_cast,seval,↓reduceIte,Za,Try.results22,hN0,hN]
 replace h:=Zt c32 h
 refine Zy ?_
 try simp only [Zk,Ze]
 refine Zl [1,2] [true] ?_
 simp only [push_cast,seval,↓reduceIte]
 refine Zm ?_
 refine Zr [1,2,23] (Zc Zd [] ?_)
 simp only [push_cast,seval,↓reduceIte,Za,hN0,hN]
 refine Zv (t:=(a0.Kind == 10)) rfl (fun c31 => ?_) (fun c31 => ?_)
 ·replace h:=Zu c31 h
  refine Zr [4] (Zc Zd [none,none,none,none] ?_)
  simp only [push_cast,seval,↓reduceIte,Za,hN0,hN]
  repeat (with_reducible refine And.intro (by first | (intro h0;simp only [h0,and_self];done) | (intro h0;simp only [h0,Bool.not_false,Bool.not_true,Bool.true_and,Bool.and_true,true_and,and_true,and_self,imp_self,implies_true,bne_iff_ne,ne_eq,beq_iff_eq];done) | (intros;simp_all;done) | exact True.intro) ?_)
  refine Z4 ?_
  try simp only [Zk,Ze]
  have h:=Option.some.inj h;subst h
  refine Zs (.inr rfl) hU [.val (.bool (cond ((a0.Words.length:Int) == 1) ((a0.Kids.length:Int) == 0) false))] (by omega) ?_
  simp only [push_cast,seval,↓reduceIte,Za,Try.results22,hN0,hN]
 replace h:=Zt c31 h
 refine Zy ?_
 try simp only [Zk,Ze]
 refine Zl [1,2] [true] ?_
 simp only [push_cast,seval,↓reduceIte]
 refine Zm ?_
 refine Zr [1,2,68] (Zc Zd [none,none,none,none,none,none,none,none,none,none,none,none,none,none,none,none,none,none,none,none,none,none] ?_)
 simp only [push_cast,seval,↓reduceIte,Za,hN0,hN]
 repeat (with_reducible refine And.intro (by first | (intro h0;simp only [h0,and_self];done) | (intro h0;simp only [h0,Bool.not_false,Bool.not_true,Bool.true_and,Bool.and_true,true_and,and_true,and_self,imp_self,implies_true,bne_iff_ne,ne_eq,beq_iff_eq];done) | (intros;simp_all;done) | exact True.intro) ?_)
 refine Zv (t:=(cond (cond (cond (cond (cond (decide (a0.Kind < 0)) true (decide (10 < a0.Kind))) true (a1 == 0)) true (decide (65536≤(a0.Words.length:Int)))) true (cond (a0.Kind == 1) (decide (65536≤(a0.Kids.length:Int))) false)) true (decide (1048576≤(a0.Kids.length:Int))))) rfl (fun c30 => ?_) (fun c30 => ?_)
 ·replace h:=Zu c30 h
  refine Zr [4] (Zc Zd [] ?_)
  simp only [push_cast,seval,↓reduceIte,Za,hN0,hN]
  refine Z4 ?_
  try simp only [Zk,Ze]
  have h:=Option.some.inj h;subst h
  refine Zs (.inr rfl) hU [.val (.bool false)] (by omega) ?_
  simp only [push_cast,seval,↓reduceIte,Za,Try.results22,hN0,hN]
 replace h:=Zt c30 h
 refine Zy ?_
 try simp only [Zk,Ze]
 refine Zl [1,2] [true] ?_
 simp only [push_cast,seval,↓reduceIte]
 refine Zm ?_
 refine Zr [1,2,77] (Zc Zd [none,none,none,none] ?_)
 simp only [push_cast,seval,↓reduceIte,Za,hN0,hN]
 repeat (with_reducible refine And.intro (by first | (intro h0;simp only [h0,and_self];done) | (intro h0;simp only [h0,Bool.not_false,Bool.not_true,Bool.true_and,Bool.and_true,true_and,and_true,and_self,imp_self,implies_true,bne_iff_ne,ne_eq,beq_iff_eq];done) | (intros;simp_all;done) | exact True.intro) ?_)
 refine Zv (t:=(cond (decide (1 < a0.Kind)) (decide (0 < (a0.Words.length:Int))) false)) rfl (fun c29 => ?_) (fun c29 => ?_)
 ·replace h:=Zu c29 h
  refine Zr [4] (Zc Zd [] ?_)
  simp only [push_cast,seval,↓reduceIte,Za,hN0,hN]
  refine Z4 ?_
  try simp only [Zk,Ze]
  have h:=Option.some.inj h;subst h
  refine Zs (.inr rfl) hU [.val (.bool false)] (by omega) ?_
  simp only [push_cast,seval,↓reduceIte,Za,Try.results22,hN0,hN]
 replace h:=Zt c29 h
 refine Zy ?_
 try simp only [Zk,Ze]
 refine Zl [1,2] [true] ?_
 simp only [push_cast,seval,↓reduceIte]
 refine Zm ?_
 refine Zr [1,2,5] (Zc Zd [] ?_)
 simp only [push_cast,seval,↓reduceIte,Za,hN0,hN]
 refine Zl [1,2,5] [true] ?_
 simp only [push_cast,seval,↓reduceIte]
 obtain ⟨z28,hz28,h⟩:=bC h
 refine U4 (J:=(Xw (fun z28=>JR n (⟨132,[],[(4,.val (.bool false))]⟩:Env) (Zx O n [none]) (n+1)) (fun z28=>JX 0 n (⟨132,[],[]⟩:Env) (Zx O n [none]) (n+1)))) (z:=z28) ?_ fun hw => ?_
 ·refine Xg hz28 (fun s0_=>⟨132,[],[(1,.val (.int .i64 a1)),(2,.ref n 0),(5,.val (.int .i64 s0_))]⟩) (fun s0_=>(Zx O n [some ⟨false,25,3,1,(Zf a0)⟩])) (Xw (fun z28=>JR n (⟨132,[],[(4,.val (.bool false))]⟩:Env) (Zx O n [none]) (n+1)) (fun z28=>JX 0 n (⟨132,[],[]⟩:Env) (Zx O n [none]) (n+1))) ?_
  intro s0_ x0_ hs0_
  unfold J8 at hs0_
  try dsimp only
  refine Zm ?_
  refine Zr [1,2,5,82] (Zc Zd [] ?_)
  simp only [push_cast,seval,↓reduceIte,Za,hN0,hN]
  refine Zv (t:=(decide (s0_ < (a0.Kids.length:Int)))) rfl (fun c27 => ?_) (fun c27 => ?_)
  ·replace hs0_:=Zu c27 hs0_
   refine Zy ?_
   try simp only [Zk,Ze]
   refine Zl [1,2,5] [true] ?_
   simp only [push_cast,seval,↓reduceIte]
   refine Zm ?_
   refine Ym ?_
   refine Zm ?_
   obtain ⟨x2,hx2,ax2,bx2,cx2,hs0_⟩:=bE (f:=Zb) Vm (fun _=>rfl) (by decide) hs0_
   refine Zc Zd [] ?_
   simp only [push_cast,Nat.reduceAdd,Nat.reduceSub,Nat.reduceMul,Nat.reduceLeDiff,Nat.reduceLT,Nat.reduceEqDiff,↓reduceIte,reduceCtorEq,Int.reduceBEq,Int.reduceBNe,Nat.reduceBEq,Int.reduceLE,Int.reduceLT,Int.reduceEq,Int.reduceNe,Int.reduceNeg,Nat.reduceDiv,Nat.reduceMod,Nat.reducePow,Za,ax2,bx2,cx2,hN0,hN]
   refine Zl [1,2,5,6] [true,true] ?_
   simp only [push_cast,seval,↓reduceIte]
   refine Zm ?_
   refine Zm ?_
   obtain ⟨y4,hy4,hs0_⟩:=bC hs0_
   refine Zc Zd [] ?_
   simp only [push_cast,seval,↓reduceIte,Za,hN0,hN]
   refine (Ziz hy4).then ?_
   simp only [push_cast,seval,↓reduceIte,Za,hN0,hN]
   refine Zl [1,2,5,6,94] [true,true] ?_
   simp only [push_cast,seval,↓reduceIte]
   refine Zv (t:=(!y4)) rfl (fun c26 => ?_) (fun c26 => ?_)
   ·replace hs0_:=Zu c26 hs0_
    refine Zr [4] (Zc Zd [] ?_)
    simp only [push_cast,seval,↓reduceIte,Za,hN0,hN]
    refine Z4 ?_
    try simp only [Zk,Ze]
    have hs0_:=Option.some.inj hs0_;subst hs0_
    refine And.intro (fun h=>by cases h) (And.intro rfl (Fit2.of (Zj hU rfl rfl ?_) (by omega)))
    simp only [push_cast,seval,↓reduceIte,Za,hN0,hN]
   replace hs0_:=Zt c26 hs0_
   refine Zy ?_
   try simp only [Zk,Ze]
   refine Zl [1,2,5,6] [true,true] ?_
   simp only [push_cast,seval,↓reduceIte]
   refine Zr [1,2,5,6,7] (Zc Zd [none,none,none] ?_)
   simp only [push_cast,seval,↓reduceIte,Za,hN0,hN]
   repeat (with_reducible refine And.intro (by first | (intro h0;simp only [h0,and_self];done) | (intro h0;simp only [h0,Bool.not_false,Bool.not_true,Bool.true_and,Bool.and_true,true_and,and_true,and_self,imp_self,implies_true,bne_iff_ne,ne_eq,beq_iff_eq];done) | (intros;simp_all;done) | exact True.intro) ?_)
   obtain ⟨z9,hz9,hs0_⟩:=bC hs0_
   refine Y6 (E':=⟨132,[],[(1,.val (.int .i64 a1)),(2,.ref n 0),(5,.val (.int .i64 s0_)),(131,.val (.bool z9))]⟩) (O':=(Zx O n [some ⟨false,25,3,1,(Zf a0)⟩,none])) (n0:=(n+2)) ?_ ?_
   ·rcases Bool.eq_false_or_eq_true ((cond (decide (2≤a0.Kind)) (decide (a0.Kind≤7)) false) != (x2.Kind == 10)) with c18 | c18
    ·replace hz9:=Zu c18 hz9
     refine Kq Zd (by kernel_rfl) [none,none,none,none,none,none,none,none,some false,some false,some false,some false,some false,some false,some false,some false,some false,some false,some false,some false] (by kernel_rfl) ?_
     simp only [push_cast,seval,↓reduceIte,Za,c18,hN0,hN]
     repeat (with_reducible refine And.intro (by first | (intro h0;simp only [h0,and_self];done) | (intro h0;simp only [h0,Bool.not_false,Bool.not_true,Bool.true_and,Bool.and_true,true_and,and_true,and_self,imp_self,implies_true,bne_iff_ne,ne_eq,beq_iff_eq];done) | (intros;simp_all;done) | exact True.intro) ?_)
     have hz9:=Option.some.inj hz9;subst hz9
     refine And.intro rfl (Fit2.of (Zj hU rfl rfl ?_) (by omega))
     simp only [push_cast,seval,↓reduceIte,Za,c18,hN0,hN]
    replace hz9:=Zt c18 hz9
    rcases Bool.eq_false_or_eq_true (a0.Kind == 9) with c19 | c19
    ·replace hz9:=Zu c19 hz9
     try rw [c19] at c18
     rcases Bool.eq_false_or_eq_true (x2.Kind != 1) with c20 | c20
     ·replace hz9:=Zu c20 hz9
      try rw [c20] at c18
      try rw [c20] at c19
      refine Kq Zd (by kernel_rfl) [none,none,none,none,none,none,none,none,some false,some false,some false,some false,some false,some false,some false,some false,some false,some false,some false,some false] (by kernel_rfl) ?_
      simp only [push_cast,seval,↓reduceIte,Za,c18,c19,c20,hN0,hN]
      repeat (with_reducible refine And.intro (by first | (intro h0;simp only [h0,and_self];done) | (intro h0;simp only [h0,Bool.not_false,Bool.not_true,Bool.true_and,Bool.and_true,true_and,and_true,and_self,imp_self,implies_true,bne_iff_ne,ne_eq,beq_iff_eq];done) | (intros;simp_all;done) | exact True.intro) ?_)
      have hz9:=Option.some.inj hz9;subst hz9
      refine And.intro rfl (Fit2.of (Zj hU rfl rfl ?_) (by omega))
      simp only [push_cast,seval,↓reduceIte,Za,c18,c19,c20,hN0,hN]
     replace hz9:=Zt c20 hz9
     try rw [c20] at c18
     try rw [c20] at c19
     rcases Bool.eq_false_or_eq_true (decide (2≤a0.Kind)) with c21 | c21
     ·replace hz9:=Zu c21 hz9
      try rw [c21] at c18
      try rw [c21] at c19
      try rw [c21] at c20
      rcases Bool.eq_false_or_eq_true (decide (a0.Kind≤7)) with c22 | c22
      ·replace hz9:=Zu c22 hz9
       try rw [c22] at c18
       try rw [c22] at c19
       try rw [c22] at c20
       try rw [c22] at c21
       obtain ⟨x14,hx14,ax14,bx14,cx14,hz9⟩:=bE (f:=(eI .u64)) Zg2 (fun _=>rfl) (by decide) hz9
       obtain ⟨y15,hy15,hz9⟩:=bC hz9
       refine Kq Zd (by kernel_rfl) [none,none,none,none,none,none,none,none,some true,some true,some true,some true,some true,some true,some true,some true,some true,some true,some true,some true] (by kernel_rfl) ?_
       simp only [push_cast,Nat.reduceAdd,Nat.reduceSub,Nat.reduceMul,Nat.reduceLeDiff,Nat.reduceLT,Nat.reduceEqDiff,↓reduceIte,reduceCtorEq,Int.reduceBEq,Int.reduceBNe,Nat.reduceBEq,Int.reduceLE,Int.reduceLT,Int.reduceEq,Int.reduceNe,Int.reduceNeg,Nat.reduceDiv,Nat.reduceMod,Nat.reducePow,Za,c18,c19,c20,c21,c22,ax14,bx14,cx14,hN0,hN]
       repeat (with_reducible refine And.intro (by first | (intro h0;simp only [h0,and_self];done) | (intro h0;simp only [h0,Bool.not_false,Bool.not_true,Bool.true_and,Bool.and_true,true_and,and_true,and_self,imp_self,implies_true,bne_iff_ne,ne_eq,beq_iff_eq];done) | (intros;simp_all;done) | exact True.intro) ?_)
       refine PCall.of (Zf2 hy15) ?_
       simp only [push_cast,Nat.reduceAdd,Nat.reduceSub,Nat.reduceMul,Nat.reduceLeDiff,Nat.reduceLT,Nat.reduceEqDiff,↓reduceIte,reduceCtorEq,Int.reduceBEq,Int.reduceBNe,Nat.reduceBEq,Int.reduceLE,Int.reduceLT,Int.reduceEq,Int.reduceNe,Int.reduceNeg,Nat.reduceDiv,Nat.reduceMod,Nat.reducePow,Za,c18,c19,c20,c21,c22,ax14,bx14,cx14,hN0,hN]
       repeat (with_reducible refine And.intro (by first | (intro h0;simp only [h0,and_self];done) | (intro h0;simp only [h0,Bool.not_false,Bool.not_true,Bool.true_and,Bool.and_true,true_and,and_true,and_self,imp_self,implies_true,bne_iff_ne,ne_eq,beq_iff_eq];done) | (intros;simp_all;done) | exact True.intro) ?_)
       have hz9:=Option.some.inj hz9;subst hz9
       refine And.intro rfl (Fit2.of (Zj hU rfl rfl ?_) (by omega))
       simp only [push_cast,Nat.reduceAdd,Nat.reduceSub,Nat.reduceMul,Nat.reduceLeDiff,Nat.reduceLT,Nat.reduceEqDiff,↓reduceIte,reduceCtorEq,Int.reduceBEq,Int.reduceBNe,Nat.reduceBEq,Int.reduceLE,Int.reduceLT,Int.reduceEq,Int.reduceNe,Int.reduceNeg,Nat.reduceDiv,Nat.reduceMod,Nat.reducePow,Za,c18,c19,c20,c21,c22,ax14,bx14,cx14,hN0,hN]
      replace hz9:=Zt c22 hz9
      try rw [c22] at c18
      try rw [c22] at c19
      try rw [c22] at c20
      try rw [c22] at c21
      refine Kq Zd (by kernel_rfl) [none,none,none,none,none,none,none,none,some true,some true,some false,some false,some false,some false,some false,some false,some false,some false,some false,some true] (by kernel_rfl) ?_
      simp only [push_cast,seval,↓reduceIte,Za,c18,c19,c20,c21,c22,hN0,hN]
      repeat (with_reducible refine And.intro (by first | (intro h0;simp only [h0,and_self];done) | (intro h0;simp only [h0,Bool.not_false,Bool.not_true,Bool.true_and,Bool.and_true,true_and,and_true,and_self,imp_self,implies_true,bne_iff_ne,ne_eq,beq_iff_eq];done) | (intros;simp_all;done) | exact True.intro) ?_)
      have hz9:=Option.some.inj hz9;subst hz9
      refine And.intro rfl (Fit2.of (Zj hU rfl rfl ?_) (by omega))
      simp only [push_cast,seval,↓reduceIte,Za,c18,c19,c20,c21,c22,hN0,hN]
     replace hz9:=Zt c21 hz9
     try rw [c21] at c18
     try rw [c21] at c19
     try rw [c21] at c20
     refine Kq Zd (by kernel_rfl) [none,none,none,none,none,none,none,none,some true,some true,some false,some false,some false,some false,some false,some false,some false,some false,some false,some true] (by kernel_rfl) ?_
     simp only [push_cast,seval,↓reduceIte,Za,c18,c19,c20,c21,hN0,hN]
     repeat (with_reducible refine And.intro (by first | (intro h0;simp only [h0,and_self];done) | (intro h0;simp only [h0,Bool.not_false,Bool.not_true,Bool.true_and,Bool.and_true,true_and,and_true,and_self,imp_self,implies_true,bne_iff_ne,ne_eq,beq_iff_eq];done) | (intros;simp_all;done) | exact True.intro) ?_)
     have hz9:=Option.some.inj hz9;subst hz9
     refine And.intro rfl (Fit2.of (Zj hU rfl rfl ?_) (by omega))
     simp only [push_cast,seval,↓reduceIte,Za,c18,c19,c20,c21,hN0,hN]
    replace hz9:=Zt c19 hz9
    try rw [c19] at c18
    rcases Bool.eq_false_or_eq_true (decide (2≤a0.Kind)) with c23 | c23
    ·replace hz9:=Zu c23 hz9
     try rw [c23] at c18
     try rw [c23] at c19
     rcases Bool.eq_false_or_eq_true (decide (a0.Kind≤7)) with c24 | c24
     ·replace hz9:=Zu c24 hz9
      try rw [c24] at c18
      try rw [c24] at c19
      try rw [c24] at c23
      obtain ⟨x16,hx16,ax16,bx16,cx16,hz9⟩:=bE (f:=(eI .u64)) Zg2 (fun _=>rfl) (by decide) hz9
      obtain ⟨y17,hy17,hz9⟩:=bC hz9
      refine Kq Zd (by kernel_rfl) [none,none,none,none,none,none,none,none,some true,some true,some true,some true,some true,some true,some true,some true,some true,some true,some true,some true] (by kernel_rfl) ?_
      simp only [push_cast,Nat.reduceAdd,Nat.reduceSub,Nat.reduceMul,Nat.reduceLeDiff,Nat.reduceLT,Nat.reduceEqDiff,↓reduceIte,reduceCtorEq,Int.reduceBEq,Int.reduceBNe,Nat.reduceBEq,Int.reduceLE,Int.reduceLT,Int.reduceEq,Int.reduceNe,Int.reduceNeg,Nat.reduceDiv,Nat.reduceMod,Nat.reducePow,Za,c18,c19,c23,c24,ax16,bx16,cx16,hN0,hN]
      repeat (with_reducible refine And.intro (by first | (intro h0;simp only [h0,and_self];done) | (intro h0;simp only [h0,Bool.not_false,Bool.not_true,Bool.true_and,Bool.and_true,true_and,and_true,and_self,imp_self,implies_true,bne_iff_ne,ne_eq,beq_iff_eq];done) | (intros;simp_all;done) | exact True.intro) ?_)
      refine PCall.of (Zf2 hy17) ?_
      simp only [push_cast,Nat.reduceAdd,Nat.reduceSub,Nat.reduceMul,Nat.reduceLeDiff,Nat.reduceLT,Nat.reduceEqDiff,↓reduceIte,reduceCtorEq,Int.reduceBEq,Int.reduceBNe,Nat.reduceBEq,Int.reduceLE,Int.reduceLT,Int.reduceEq,Int.reduceNe,Int.reduceNeg,Nat.reduceDiv,Nat.reduceMod,Nat.reducePow,Za,c18,c19,c23,c24,ax16,bx16,cx16,hN0,hN]
      repeat (with_reducible refine And.intro (by first | (intro h0;simp only [h0,and_self];done) | (intro h0;simp only [h0,Bool.not_false,Bool.not_true,Bool.true_and,Bool.and_true,true_and,and_true,and_self,imp_self,implies_true,bne_iff_ne,ne_eq,beq_iff_eq];done) | (intros;simp_all;done) | exact True.intro) ?_)
      have hz9:=Option.some.inj hz9;subst hz9
      refine And.intro rfl (Fit2.of (Zj hU rfl rfl ?_) (by omega))
      simp only [push_cast,Nat.reduceAdd,Nat.reduceSub,Nat.reduceMul,Nat.reduceLeDiff,Nat.reduceLT,Nat.reduceEqDiff,↓reduceIte,reduceCtorEq,Int.reduceBEq,Int.reduceBNe,Nat.reduceBEq,Int.reduceLE,Int.reduceLT,Int.reduceEq,Int.reduceNe,Int.reduceNeg,Nat.reduceDiv,Nat.reduceMod,Nat.reducePow,Za,c18,c19,c23,c24,ax16,bx16,cx16,hN0,hN]
     replace hz9:=Zt c24 hz9
     try rw [c24] at c18
     try rw [c24] at c19
     try rw [c24] at c23
     refine Kq Zd (by kernel_rfl) [none,none,none,none,none,none,none,none,some true,some true,some false,some false,some false,some false,some false,some false,some false,some false,some false,some true] (by kernel_rfl) ?_
     simp only [push_cast,seval,↓reduceIte,Za,c18,c19,c23,c24,hN0,hN]
     repeat (with_reducible refine And.intro (by first | (intro h0;simp only [h0,and_self];done) | (intro h0;simp only [h0,Bool.not_false,Bool.not_true,Bool.true_and,Bool.and_true,true_and,and_true,and_self,imp_self,implies_true,bne_iff_ne,ne_eq,beq_iff_eq];done) | (intros;simp_all;done) | exact True.intro) ?_)
     have hz9:=Option.some.inj hz9;subst hz9
     refine And.intro rfl (Fit2.of (Zj hU rfl rfl ?_) (by omega))
     simp only [push_cast,seval,↓reduceIte,Za,c18,c19,c23,c24,hN0,hN]
    replace hz9:=Zt c23 hz9
    try rw [c23] at c18
    try rw [c23] at c19
    refine Kq Zd (by kernel_rfl) [none,none,none,none,none,none,none,none,some true,some true,some false,some false,some false,some false,some false,some false,some false,some false,some false,some true] (by kernel_rfl) ?_
    simp only [push_cast,seval,↓reduceIte,Za,c18,c19,c23,hN0,hN]
    repeat (with_reducible refine And.intro (by first | (intro h0;simp only [h0,and_self];done) | (intro h0;simp only [h0,Bool.not_false,Bool.not_true,Bool.true_and,Bool.and_true,true_and,and_true,and_self,imp_self,implies_true,bne_iff_ne,ne_eq,beq_iff_eq];done) | (intros;simp_all;done) | exact True.intro) ?_)
    have hz9:=Option.some.inj hz9;subst hz9
    refine And.intro rfl (Fit2.of (Zj hU rfl rfl ?_) (by omega))
    simp only [push_cast,seval,↓reduceIte,Za,c18,c19,c23,hN0,hN]
   refine Zv (t:=z9) rfl (fun c25 => ?_) (fun c25 => ?_)
   ·replace hs0_:=Zu c25 hs0_
    refine Zr [4] (Zc Zd [] ?_)
    simp only [push_cast,seval,↓reduceIte,Za,hN0,hN]
    refine Z4 ?_
    try simp only [Zk,Ze]
    have hs0_:=Option.some.inj hs0_;subst hs0_
    refine And.intro (fun h=>by cases h) (And.intro rfl (Fit2.of (Zj hU rfl rfl ?_) (by omega)))
    simp only [push_cast,seval,↓reduceIte,Za,hN0,hN]
   replace hs0_:=Zt c25 hs0_
   refine Zy ?_
   try simp only [Zk,Ze]
   refine Zl [1,2,5] [true,false] ?_
   simp only [push_cast,seval,↓reduceIte]
   refine Zc Zd [] ?_
   simp only [push_cast,seval,↓reduceIte,Za,hN0,hN]
   have hs0_:=Option.some.inj hs0_;subst hs0_
   refine And.intro rfl (Fit2.of (Zj hU rfl rfl ?_) (by omega))
   simp only [push_cast,seval,↓reduceIte,Za,hN0,hN]
  replace hs0_:=Zt c27 hs0_
  refine Xp ?_
  try simp only [Zk,Ze,↓reduceIte,Nat.reduceEqDiff]
  have hs0_:=Option.some.inj hs0_;subst hs0_
  refine And.intro (fun h=>by cases h) (And.intro rfl (Fit2.of (Zj hU rfl rfl ?_) (by omega)))
  simp only [push_cast,seval,↓reduceIte,Za,hN0,hN]
 rcases z28 with z28 | z28
 ·dsimp only [Xw] at hw h
  refine Jc hw ?_
  try simp only [Zk,Ze,↓reduceIte,Nat.reduceEqDiff]
  have h:=Option.some.inj h;subst h
  refine Zs (.inr rfl) hU [.val (.bool false)] (by omega) ?_
  simp only [push_cast,seval,↓reduceIte,Za,Try.results22,hN0,hN]
 dsimp only [Xw] at hw h
 refine Yx hw ?_
 try simp only [Zk,Ze,↓reduceIte,Nat.reduceEqDiff]
 refine Zl [] [false] ?_
 simp only [push_cast,seval,↓reduceIte]
 refine Zr [4] (Zc Zd [] ?_)
 simp only [push_cast,seval,↓reduceIte,Za,hN0,hN]
 refine Z4 ?_
 try simp only [Zk,Ze]
 have h:=Option.some.inj h;subst h
 refine Zs (.inr rfl) hU [.val (.bool true)] (by omega) ?_
 simp only [push_cast,seval,↓reduceIte,Za,Try.results22,hN0,hN]
theorem Zh5:∀ k,(∀ {a0:S_api_Tree} {a1:Int} {r:Bool} {O:Objs} {n:Nat},(Qs k) a0 a1=some r→GTo Try.prog 22 [.agg (Zf a0),.val (.int .i64 a1)] O n (.val (.bool r)) O n):=fun k=>by
 induction k with
 | zero=>exact @fun a0 a1 r O n h=>(nomatch (show (none:Option _)=some _ from h))
 | succ k ih=>exact @fun a0 a1 r O n h=>Zjf (ih)  h
theorem Vj {a0:S_api_Tree} {a1:Int} {r:Bool} {O:Objs} {n:Nat} (h:Kh a0 a1=some r):GTo Try.prog 22 [.agg (Zf a0),.val (.int .i64 a1)] O n (.val (.bool r)) O n:=by
 obtain ⟨k,hk⟩:=Uh h
 exact (Zh5 k)  hk
theorem Zfj {a0:Int} {r:(Arr Int 8)} {O:Objs} {n:Nat} (h:Kg a0=some r):GTo Try.prog 74 [.val (.int .u64 a0)] O n (.agg (fl (eI .u8) r.1)) O n:=by
 unfold Kg at h
 refine Y8 Zd Try.call74 Try.func74 rfl (Nat.le_of_ble_eq_true rfl) (Nat.le_refl _) fun hU => ?_
 have hN0:O n=none:=hU.fresh _ (Nat.le_refl _)
 have hN:∀ k,O (n+k)=none:=fun k=>hU.fresh _ (Nat.le_add_right _ _)
 show W _ _ _ _ ⟨18,[],[(0,.val (.int .u64 a0))]⟩ (Zx O n []) _
 obtain ⟨y3,hy3,ey3,h⟩:=bY (f:=(eI .u8)) (cs:=[.val (.int .u8 0),.val (.int .u8 0),.val (.int .u8 0),.val (.int .u8 0),.val (.int .u8 0),.val (.int .u8 0),.val (.int .u8 0),.val (.int .u8 0)]) rfl h
 have g4:=congrArg (GObj.mk false 95 8 1) ey3
 refine Zr [0,2] (Zc Zd [] ?_)
 simp only [push_cast,seval,↓reduceIte,Za,g4,hN0,hN]
 refine Zm ?_
 obtain ⟨y9,hy9,ey9,h⟩:=bY (f:=(eI .u8)) (cs:=[.val (.int .u8 0),.val (.int .u8 0),.val (.int .u8 0),.val (.int .u8 0),.val (.int .u8 0),.val (.int .u8 0),.val (.int .u8 0),.val (.int .u8 0)]) rfl h
 have g10:=congrArg G.agg ey9
 have g11:=congrArg (GObj.mk false 95 8 1) ey9
 have g12:=Zfw (f:=(eI .u8)) y9 y9 (fun _=>rfl)
 refine Zc Zd [] ?_
 simp only [push_cast,seval,↓reduceIte,Za,g10,g11,g12,hN0,hN]
 refine Zl [0,2,3] [true,true] ?_
 simp only [push_cast,seval,↓reduceIte]
 refine Zm ?_
 refine Zr [0,2,3,4] (Zc Zd [] ?_)
 simp only [push_cast,seval,↓reduceIte,Za,hN0,hN]
 refine Zl [0,2,3,4] [true,true] ?_
 simp only [push_cast,seval,↓reduceIte]
 obtain ⟨z18,hz18,h⟩:=bC h
 refine Yx (E':=⟨18,[],[(2,.ref n 0),(3,.ref (n+1) 0)]⟩) (O':=(Zx O n [some ⟨false,95,8,1,fl (eI .u8) y3.1⟩,some ⟨false,95,8,1,fl (eI .u8) z18.1⟩])) (n0:=(n+2)) ?_ ?_
 ·refine Xg hz18 (fun s0_=>⟨18,[],[(0,.val (.int .u64 s0_.1)),(2,.ref n 0),(3,.ref (n+1) 0),(4,.val (.int .i64 s0_.2.1))]⟩) (fun s0_=>(Zx O n [some ⟨false,95,8,1,fl (eI .u8) y3.1⟩,some ⟨false,95,8,1,fl (eI .u8) s0_.2.2.1⟩])) (fun z18=>JX 0 n (⟨18,[],[(2,.ref n 0),(3,.ref (n+1) 0)]⟩:Env) (Zx O n [some ⟨false,95,8,1,fl (eI .u8) y3.1⟩,some ⟨false,95,8,1,fl (eI .u8) z18.1⟩]) (n+2)) ?_
  intro s0_ x0_ hs0_
  unfold Kb at hs0_
  try dsimp only
  refine Zm ?_
  refine Zr [0,2,3,4,7] (Zc Zd [] ?_)
  simp only [push_cast,seval,↓reduceIte,Za,hN0,hN]
  refine Zv (t:=(decide (s0_.2.1 < 8))) rfl (fun c17 => ?_) (fun c17 => ?_)
  ·replace hs0_:=Zu c17 hs0_
   refine Zy ?_
   try simp only [Zk,Ze]
   refine Zl [0,2,3,4] [true,true] ?_
   simp only [push_cast,seval,↓reduceIte]
   refine Zm ?_
   refine Ym ?_
   refine Zm ?_
   obtain ⟨x15,hx15,ax15,bx15,cx15,hs0_⟩:=bEA (f:=(eI .u8)) (b:=8) rfl Zx5 (fun _=>rfl) (by decide) hs0_
   have gu16:Js (fl (eI .u8) s0_.2.2.1) [.val (.int .u8 (IntKind.u8.wrap (Int.tmod s0_.1 256)))] (Int.toNat s0_.2.1 * 1)=some (fl (eI .u8) (Zc4 s0_.2.2.1 s0_.2.1 (IntKind.u8.wrap (Int.tmod s0_.1 256)))):=Zhn (f:=(eI .u8)) (ti:=⟨.bool,1,0,[],false⟩) (x:=(IntKind.u8.wrap (Int.tmod s0_.1 256))) (fun _=>rfl) (Zdo hx15)
   refine Zc Zd [] ?_
   simp only [push_cast,Nat.reduceAdd,Nat.reduceSub,Nat.reduceMul,Nat.reduceLeDiff,Nat.reduceLT,Nat.reduceEqDiff,↓reduceIte,reduceCtorEq,Int.reduceBEq,Int.reduceBNe,Nat.reduceBEq,Int.reduceLE,Int.reduceLT,Int.reduceEq,Int.reduceNe,Int.reduceNeg,Nat.reduceDiv,Nat.reduceMod,Nat.reducePow,Za,ax15,bx15,cx15,gu16,hN0,hN]
   refine Zl [0,2,3,4] [true,true] ?_
   simp only [push_cast,seval,↓reduceIte]
   refine Zc Zd [] ?_
   simp only [push_cast,seval,↓reduceIte,Za,hN0,hN]
   refine Zl [0,2,3,4] [true,true] ?_
   simp only [push_cast,seval,↓reduceIte]
   refine Zc Zd [] ?_
   simp only [push_cast,seval,↓reduceIte,Za,hN0,hN]
   have hs0_:=Option.some.inj hs0_;subst hs0_
   refine And.intro rfl (Fit2.of (Zj hU rfl rfl ?_) (by omega))
   simp only [push_cast,seval,↓reduceIte,Za,hN0,hN]
  replace hs0_:=Zt c17 hs0_
  refine Xp ?_
  try simp only [Zk,Ze,↓reduceIte,Nat.reduceEqDiff]
  have hs0_:=Option.some.inj hs0_;subst hs0_
  refine And.intro (fun h=>by cases h) (And.intro rfl (Fit2.of (Zj hU rfl rfl ?_) (by omega)))
  simp only [push_cast,seval,↓reduceIte,Za,hN0,hN]
 try simp only [Zk,Ze,↓reduceIte,Nat.reduceEqDiff]
 refine Zl [2,3] [true,true] ?_
 simp only [push_cast,seval,↓reduceIte]
 refine Zm ?_
 have g21:=Zs5 (f:=(eI .u8)) z18 Zx6 rfl (fun _=>rfl) rfl
 have g22:=Zfw (f:=(eI .u8)) y3 z18 (fun _=>rfl)
 refine Zc Zd [] ?_
 simp only [push_cast,seval,↓reduceIte,Za,g21,g22,hN0,hN]
 refine Zl [2] [true,false] ?_
 simp only [push_cast,seval,↓reduceIte]
 refine Z4 ?_
 try simp only [Zk,Ze]
 have h:=Option.some.inj h;subst h
 have gR0:=Zs5 (f:=(eI .u8)) z18 Zx6 rfl (fun _=>rfl) rfl
 refine Zs (.inr rfl) hU [.agg (fl (eI .u8) z18.1)] (by omega) ?_
 simp only [push_cast,seval,↓reduceIte,Za,Try.results74,hN0,hN,gR0]
theorem Zke {a0:Int} {a1:Int} {r:Bool} {O:Objs} {n:Nat} (h:V0 a0 a1=some r):GTo Try.prog 75 [.val (.int .u8 a0),.val (.int .i64 a1)] O n (.val (.bool r)) O n:=by
 unfold V0 at h
 refine Y8 Zd Try.call75 Try.func75 rfl (Nat.le_of_ble_eq_true rfl) (Nat.le_refl _) fun hU => ?_
 have hN0:O n=none:=hU.fresh _ (Nat.le_refl _)
 have hN:∀ k,O (n+k)=none:=fun k=>hU.fresh _ (Nat.le_add_right _ _)
 show W _ _ _ _ ⟨16,[],[(0,.val (.int .u8 a0)),(1,.val (.int .i64 a1))]⟩ (Zx O n []) _
 refine Zr [0,1] (Zc Zd [] ?_)
 simp only [push_cast,seval,↓reduceIte,Za,hN0,hN]
 refine Zm ?_
 refine Zr [0,1,5] (Zc Zd [] ?_)
 simp only [push_cast,seval,↓reduceIte,Za,hN0,hN]
 refine Zl [0,1,5] [] ?_
 simp only [push_cast,seval,↓reduceIte]
 obtain ⟨z2,hz2,h⟩:=bC h
 refine Yx (E':=⟨16,[],[(0,.val (.int .u8 z2))]⟩) (O':=(Zx O n [])) (n0:=n) ?_ ?_
 ·refine Xg hz2 (fun s0_=>⟨16,[],[(0,.val (.int .u8 s0_.1)),(1,.val (.int .i64 a1)),(5,.val (.int .i64 s0_.2))]⟩) (fun s0_=>(Zx O n [])) (fun z2=>JX 0 n (⟨16,[],[(0,.val (.int .u8 z2))]⟩:Env) (Zx O n []) n) ?_
  intro s0_ x0_ hs0_
  unfold Q1 at hs0_
  try dsimp only
  refine Zm ?_
  refine Zr [0,1,5,8] (Zc Zd [] ?_)
  simp only [push_cast,seval,↓reduceIte,Za,hN0,hN]
  refine Zv (t:=(decide (s0_.2 < a1))) rfl (fun c1 => ?_) (fun c1 => ?_)
  ·replace hs0_:=Zu c1 hs0_
   refine Zy ?_
   try simp only [Zk,Ze]
   refine Zl [0,1,5] [] ?_
   simp only [push_cast,seval,↓reduceIte]
   refine Zm ?_
   refine Ym ?_
   refine Zc Zd [] ?_
   simp only [push_cast,seval,↓reduceIte,Za,hN0,hN]
   refine Zl [0,1,5] [] ?_
   simp only [push_cast,seval,↓reduceIte]
   refine Zc Zd [] ?_
   simp only [push_cast,seval,↓reduceIte,Za,hN0,hN]
   have hs0_:=Option.some.inj hs0_;subst hs0_
   refine And.intro rfl (Fit2.of (Zj hU rfl rfl ?_) (by omega))
   simp only [push_cast,seval,↓reduceIte,Za,hN0,hN]
  replace hs0_:=Zt c1 hs0_
  refine Xp ?_
  try simp only [Zk,Ze,↓reduceIte,Nat.reduceEqDiff]
  have hs0_:=Option.some.inj hs0_;subst hs0_
  refine And.intro (fun h=>by cases h) (And.intro rfl (Fit2.of (Zj hU rfl rfl ?_) (by omega)))
  simp only [push_cast,seval,↓reduceIte,Za,hN0,hN]
 try simp only [Zk,Ze,↓reduceIte,Nat.reduceEqDiff]
 refine Zl [0] [] ?_
 simp only [push_cast,seval,↓reduceIte]
 refine Zr [4] (Zc Zd [] ?_)
 simp only [push_cast,seval,↓reduceIte,Za,hN0,hN]
 refine Z4 ?_
 try simp only [Zk,Ze]
 have h:=Option.some.inj h;subst h
 refine Zs (.inr rfl) hU [.val (.bool ((Int.tmod z2 2) == 1))] (by omega) ?_
 simp only [push_cast,seval,↓reduceIte,Za,Try.results75,hN0,hN]
theorem Znp {a0:(List Int)} {a1:Int} {r:Int} {O:Objs} {n:Nat} (h:Zct a0 a1=some r):GTo Try.prog 76 [.sl a0.length (fl (eI .u8) a0),.val (.int .i64 a1)] O n (.val (.int .u64 r)) O n:=by
 unfold Zct at h
 refine Y8 Zd Try.call76 Try.func76 rfl (Nat.le_of_ble_eq_true rfl) (Nat.le_refl _) fun hU => ?_
 have hN0:O n=none:=hU.fresh _ (Nat.le_refl _)
 have hN:∀ k,O (n+k)=none:=fun k=>hU.fresh _ (Nat.le_add_right _ _)
 show W _ _ _ _ ⟨22,[],[(0,.sl a0.length (fl (eI .u8) a0)),(1,.val (.int .i64 a1))]⟩ (Zx O n []) _
 refine Zr [0,1] (Zc Zd [] ?_)
 simp only [push_cast,seval,↓reduceIte,Za,hN0,hN]
 refine Zr [0,1,5] (Zc Zd [] ?_)
 simp only [push_cast,seval,↓reduceIte,Za,hN0,hN]
 refine Zm ?_
 refine Zr [0,1,5,6] (Zc Zd [] ?_)
 simp only [push_cast,seval,↓reduceIte,Za,hN0,hN]
 refine Zl [0,1,5,6] [] ?_
 simp only [push_cast,seval,↓reduceIte]
 obtain ⟨z3,hz3,h⟩:=bC h
 refine Yx (E':=⟨22,[],[(5,.val (.int .u64 z3))]⟩) (O':=(Zx O n [])) (n0:=n) ?_ ?_
 ·refine Xg hz3 (fun s0_=>⟨22,[],[(0,.sl a0.length (fl (eI .u8) a0)),(1,.val (.int .i64 a1)),(5,.val (.int .u64 s0_.1)),(6,.val (.int .i64 s0_.2))]⟩) (fun s0_=>(Zx O n [])) (fun z3=>JX 0 n (⟨22,[],[(5,.val (.int .u64 z3))]⟩:Env) (Zx O n []) n) ?_
  intro s0_ x0_ hs0_
  unfold V1 at hs0_
  try dsimp only
  refine Zm ?_
  refine Zr [0,1,5,6,8] (Zc Zd [] ?_)
  simp only [push_cast,seval,↓reduceIte,Za,hN0,hN]
  refine Zv (t:=(decide (0≤s0_.2))) rfl (fun c2 => ?_) (fun c2 => ?_)
  ·replace hs0_:=Zu c2 hs0_
   refine Zy ?_
   try simp only [Zk,Ze]
   refine Zl [0,1,5,6] [] ?_
   simp only [push_cast,seval,↓reduceIte]
   refine Zm ?_
   refine Ym ?_
   obtain ⟨x1,hx1,ax1,bx1,cx1,hs0_⟩:=bE (f:=(eI .u8)) Zx5 (fun _=>rfl) (by decide) hs0_
   refine Zc Zd [] ?_
   simp only [push_cast,Nat.reduceAdd,Nat.reduceSub,Nat.reduceMul,Nat.reduceLeDiff,Nat.reduceLT,Nat.reduceEqDiff,↓reduceIte,reduceCtorEq,Int.reduceBEq,Int.reduceBNe,Nat.reduceBEq,Int.reduceLE,Int.reduceLT,Int.reduceEq,Int.reduceNe,Int.reduceNeg,Nat.reduceDiv,Nat.reduceMod,Nat.reducePow,Za,ax1,bx1,cx1,hN0,hN]
   refine Zl [0,1,5,6] [] ?_
   simp only [push_cast,seval,↓reduceIte]
   refine Zc Zd [] ?_
   simp only [push_cast,seval,↓reduceIte,Za,hN0,hN]
   have hs0_:=Option.some.inj hs0_;subst hs0_
   refine And.intro rfl (Fit2.of (Zj hU rfl rfl ?_) (by omega))
   simp only [push_cast,seval,↓reduceIte,Za,hN0,hN]
  replace hs0_:=Zt c2 hs0_
  refine Xp ?_
  try simp only [Zk,Ze,↓reduceIte,Nat.reduceEqDiff]
  have hs0_:=Option.some.inj hs0_;subst hs0_
  refine And.intro (fun h=>by cases h) (And.intro rfl (Fit2.of (Zj hU rfl rfl ?_) (by omega)))
  simp only [push_cast,seval,↓reduceIte,Za,hN0,hN]
 try simp only [Zk,Ze,↓reduceIte,Nat.reduceEqDiff]
 refine Zl [5] [] ?_
 simp only [push_cast,seval,↓reduceIte]
 refine Zr [4] (Zc Zd [] ?_)
 simp only [push_cast,seval,↓reduceIte,Za,hN0,hN]
 refine Z4 ?_
 try simp only [Zk,Ze]
 have h:=Option.some.inj h;subst h
 refine Zs (.inr rfl) hU [.val (.int .u64 z3)] (by omega) ?_
 simp only [push_cast,seval,↓reduceIte,Za,Try.results76,hN0,hN]
theorem Zmf {a0:Int} {a1:Int} {a2:Int} {r:Int} {O:Objs} {n:Nat} (h:Gb a0 a1 a2=some r):GTo Try.prog 107 [.val (.int .u64 a0),.val (.int .u64 a1),.val (.int .u8 a2)] O n (.val (.int .u64 r)) O n:=by
 unfold Gb at h
 refine Y8 Zd Try.call107 Try.func107 rfl (Nat.le_of_ble_eq_true rfl) (Nat.le_refl _) fun hU => ?_
 have hN0:O n=none:=hU.fresh _ (Nat.le_refl _)
 have hN:∀ k,O (n+k)=none:=fun k=>hU.fresh _ (Nat.le_add_right _ _)
 show W _ _ _ _ ⟨28,[],[(0,.val (.int .u64 a0)),(1,.val (.int .u64 a1)),(2,.val (.int .u8 a2))]⟩ (Zx O n []) _
 refine Zr [0,1,2] (Zc Zd [] ?_)
 simp only [push_cast,seval,↓reduceIte,Za,hN0,hN]
 refine Zm ?_
 obtain ⟨y8,hy8,h⟩:=bC h
 obtain ⟨y9,hy9,h⟩:=bC h
 obtain ⟨y10,hy10,ey10,h⟩:=bY (f:=(eI .u8)) (cs:=[.val (.int .u8 0),.val (.int .u8 0),.val (.int .u8 0),.val (.int .u8 0),.val (.int .u8 0),.val (.int .u8 0),.val (.int .u8 0),.val (.int .u8 0)]) rfl h
 have g11:=congrArg (GObj.mk false 95 8 1) ey10
 have g12:=congrArg (GObj.mk false 95 8 1) ey10
 have g13:=Zfw (f:=(eI .u8)) y10 y8 (fun _=>rfl)
 have g14:=Zfw (f:=(eI .u8)) y10 y9 (fun _=>rfl)
 refine Zc Zd [] ?_
 simp only [push_cast,seval,↓reduceIte,Za,g11,g12,g13,g14,hN0,hN]
 refine (Zfj hy8).then ?_
 simp only [push_cast,seval,↓reduceIte,Za,g11,g12,g13,g14,hN0,hN]
 refine (Zfj hy9).then ?_
 simp only [push_cast,seval,↓reduceIte,Za,g11,g12,g13,g14,hN0,hN]
 refine Zl [2,7,8] [true,true] ?_
 simp only [push_cast,seval,↓reduceIte]
 refine Zm ?_
 refine Zr [2,7,8,9] (Zc Zd [] ?_)
 simp only [push_cast,seval,↓reduceIte,Za,hN0,hN]
 refine Zl [2,7,8,9] [true,true] ?_
 simp only [push_cast,seval,↓reduceIte]
 obtain ⟨z23,hz23,h⟩:=bC h
 refine Yx (E':=⟨28,[],[(7,.ref n 0)]⟩) (O':=(Zx O n [some ⟨false,95,8,1,fl (eI .u8) z23.1⟩,none])) (n0:=(n+2)) ?_ ?_
 ·refine Xg hz23 (fun s0_=>⟨28,[],[(2,.val (.int .u8 a2)),(7,.ref n 0),(8,.ref (n+1) 0),(9,.val (.int .i64 s0_.1))]⟩) (fun s0_=>(Zx O n [some ⟨false,95,8,1,fl (eI .u8) s0_.2.1⟩,some ⟨false,95,8,1,fl (eI .u8) y9.1⟩])) (fun z23=>JX 0 n (⟨28,[],[(7,.ref n 0)]⟩:Env) (Zx O n [some ⟨false,95,8,1,fl (eI .u8) z23.1⟩,none]) (n+2)) ?_
  intro s0_ x0_ hs0_
  unfold Vh at hs0_
  try dsimp only
  refine Zm ?_
  refine Zr [2,7,8,9,15] (Zc Zd [] ?_)
  simp only [push_cast,seval,↓reduceIte,Za,hN0,hN]
  refine Zv (t:=(decide (s0_.1 < 8))) rfl (fun c22 => ?_) (fun c22 => ?_)
  ·replace hs0_:=Zu c22 hs0_
   refine Zy ?_
   try simp only [Zk,Ze]
   refine Zl [2,7,8,9] [true,true] ?_
   simp only [push_cast,seval,↓reduceIte]
   obtain ⟨z15,hz15,hs0_⟩:=bC hs0_
   refine Y6 (E':=⟨28,[],[(2,.val (.int .u8 a2)),(7,.ref n 0),(8,.ref (n+1) 0),(9,.val (.int .i64 s0_.1))]⟩) (O':=(Zx O n [some ⟨false,95,8,1,fl (eI .u8) z15.1⟩,some ⟨false,95,8,1,fl (eI .u8) y9.1⟩])) (n0:=(n+2)) ?_ ?_
   ·refine Ym ?_
    refine Zm ?_
    obtain ⟨y17,hy17,hz15⟩:=bC hz15
    refine Zc Zd [] ?_
    simp only [push_cast,seval,↓reduceIte,Za,hN0,hN]
    refine (Zke hy17).then ?_
    simp only [push_cast,seval,↓reduceIte,Za,hN0,hN]
    refine Zl [2,7,8,9,20] [true,true] ?_
    simp only [push_cast,seval,↓reduceIte]
    refine Zv (t:=y17) rfl (fun c21 => ?_) (fun c21 => ?_)
    ·replace hz15:=Zu c21 hz15
     obtain ⟨x18,hx18,ax18,bx18,cx18,hz15⟩:=bEA (f:=(eI .u8)) (b:=8) rfl Zx5 (fun _=>rfl) (by decide) hz15
     obtain ⟨x19,hx19,ax19,bx19,cx19,hz15⟩:=bEA (f:=(eI .u8)) (b:=8) rfl Zx5 (fun _=>rfl) (by decide) hz15
     have gu20:Js (fl (eI .u8) s0_.2.1) [.val (.int .u8 x18)] (Int.toNat s0_.1 * 1)=some (fl (eI .u8) (Zc4 s0_.2.1 s0_.1 x18)):=Zhn (f:=(eI .u8)) (ti:=⟨.bool,1,0,[],false⟩) (x:=x18) (fun _=>rfl) (Zdo hx19)
     refine Zc Zd [] ?_
     simp only [push_cast,Nat.reduceAdd,Nat.reduceSub,Nat.reduceMul,Nat.reduceLeDiff,Nat.reduceLT,Nat.reduceEqDiff,↓reduceIte,reduceCtorEq,Int.reduceBEq,Int.reduceBNe,Nat.reduceBEq,Int.reduceLE,Int.reduceLT,Int.reduceEq,Int.reduceNe,Int.reduceNeg,Nat.reduceDiv,Nat.reduceMod,Nat.reducePow,Za,ax18,bx18,cx18,ax19,bx19,cx19,gu20,hN0,hN]
     have hz15:=Option.some.inj hz15;subst hz15
     refine And.intro rfl (Fit2.of (Zj hU rfl rfl ?_) (by omega))
     simp only [push_cast,Nat.reduceAdd,Nat.reduceSub,Nat.reduceMul,Nat.reduceLeDiff,Nat.reduceLT,Nat.reduceEqDiff,↓reduceIte,reduceCtorEq,Int.reduceBEq,Int.reduceBNe,Nat.reduceBEq,Int.reduceLE,Int.reduceLT,Int.reduceEq,Int.reduceNe,Int.reduceNeg,Nat.reduceDiv,Nat.reduceMod,Nat.reducePow,Za,ax18,bx18,cx18,ax19,bx19,cx19,gu20,hN0,hN]
    replace hz15:=Zt c21 hz15
    refine Zy ?_
    try simp only [Zk,Ze]
    have hz15:=Option.some.inj hz15;subst hz15
    refine And.intro rfl (Fit2.of (Zj hU rfl rfl ?_) (by omega))
    simp only [push_cast,seval,↓reduceIte,Za,hN0,hN]
   refine Zc Zd [] ?_
   simp only [push_cast,seval,↓reduceIte,Za,hN0,hN]
   have hs0_:=Option.some.inj hs0_;subst hs0_
   refine And.intro rfl (Fit2.of (Zj hU rfl rfl ?_) (by omega))
   simp only [push_cast,seval,↓reduceIte,Za,hN0,hN]
  replace hs0_:=Zt c22 hs0_
  refine Xp ?_
  try simp only [Zk,Ze,↓reduceIte,Nat.reduceEqDiff]
  have hs0_:=Option.some.inj hs0_;subst hs0_
  refine And.intro (fun h=>by cases h) (And.intro rfl (Fit2.of (Zj hU rfl rfl ?_) (by omega)))
  simp only [push_cast,seval,↓reduceIte,Za,hN0,hN]
 try simp only [Zk,Ze,↓reduceIte,Nat.reduceEqDiff]
 refine Zl [7] [true,false] ?_
 simp only [push_cast,seval,↓reduceIte]
 refine Zm ?_
 have g27:=Zyu (j:=n) Zo9 Zx5 (by decide)
 have g28:=z23.2
 obtain ⟨y29,hy29,h⟩:=bC h
 refine Zc Zd [] ?_
 simp only [push_cast,seval,↓reduceIte,Za,g27,g28,hN0,hN]
 refine GCalls.lend (Znp hy29) rfl ?_ ?_
 ·simp only [push_cast,seval,↓reduceIte,Za,g27,g28,hN0,hN]
 simp only [push_cast,seval,↓reduceIte,Za,g27,g28,hN0,hN]
 refine Zl [6] [false,false] ?_
 simp only [push_cast,seval,↓reduceIte]
 refine Z4 ?_
 try simp only [Zk,Ze]
 have h:=Option.some.inj h;subst h
 refine Zs (.inr rfl) hU [.val (.int .u64 y29)] (by omega) ?_
 simp only [push_cast,seval,↓reduceIte,Za,Try.results107,hN0,hN]
theorem Zbj {a0:Int} {a1:Int} {r:Bool} {O:Objs} {n:Nat} (h:Jx a0 a1=some r):GTo Try.prog 68 [.val (.int .u64 a0),.val (.int .u8 a1)] O n (.val (.bool r)) O n:=by
 unfold Jx at h
 refine Y8 Zd Try.call68 Try.func68 rfl (Nat.le_of_ble_eq_true rfl) (Nat.le_refl _) fun hU => ?_
 have hN0:O n=none:=hU.fresh _ (Nat.le_refl _)
 have hN:∀ k,O (n+k)=none:=fun k=>hU.fresh _ (Nat.le_add_right _ _)
 show W _ _ _ _ ⟨9,[],[(0,.val (.int .u64 a0)),(1,.val (.int .u8 a1))]⟩ (Zx O n []) _
 refine Zr [0,1] (Zc Zd [] ?_)
 simp only [push_cast,seval,↓reduceIte,Za,hN0,hN]
 refine Zm ?_
 obtain ⟨y2,hy2,h⟩:=bC h
 refine Zc Zd [] ?_
 simp only [push_cast,seval,↓reduceIte,Za,hN0,hN]
 refine (Zmf hy2).then ?_
 simp only [push_cast,seval,↓reduceIte,Za,hN0,hN]
 refine Zl [4] [] ?_
 simp only [push_cast,seval,↓reduceIte]
 refine Z4 ?_
 try simp only [Zk,Ze]
 have h:=Option.some.inj h;subst h
 refine Zs (.inr rfl) hU [.val (.bool (y2 == 0))] (by omega) ?_
 simp only [push_cast,seval,↓reduceIte,Za,Try.results68,hN0,hN]
theorem Zf4 {a0:S_api_Edit} {r:Bool} {O:Objs} {n:Nat} (h:K7 a0=some r):GTo Try.prog 108 [.agg (Zh a0)] O n (.val (.bool r)) O n:=by
 unfold K7 at h
 refine Y8 Zd Try.call108 Try.func108 rfl (Nat.le_of_ble_eq_true rfl) (Nat.le_refl _) fun hU => ?_
 have hN0:O n=none:=hU.fresh _ (Nat.le_refl _)
 have hN:∀ k,O (n+k)=none:=fun k=>hU.fresh _ (Nat.le_add_right _ _)
 show W _ _ _ _ ⟨35,[],[(0,.agg (Zh a0))]⟩ (Zx O n []) _
 refine Zr [1] (Zc Zd [] ?_)
 simp only [push_cast,seval,↓reduceIte,Za,hN0,hN]
 obtain ⟨z3,hz3,h⟩:=bC h
 refine Y6 (E':=⟨35,[],[(2,.val (.bool z3))]⟩) (O':=(Zx O n [none])) (n0:=(n+1)) ?_ ?_
 ·rcases Bool.eq_false_or_eq_true (a0.Kind == 0) with c8 | c8
  ·replace hz3:=Zu c8 hz3
   obtain ⟨y6,hy6,hz3⟩:=bC hz3
   rcases Bool.eq_false_or_eq_true y6 with c9 | c9
   ·replace hz3:=Zu c9 hz3
    try rw [c9] at c8
    obtain ⟨y7,hy7,hz3⟩:=bC hz3
    refine Zc Zd [some true,some true,some true,some true,some true,some true,none,none,none,none,none,none,none,none,none,none,none,none,none,none,none] ?_
    simp only [push_cast,seval,↓reduceIte,Za,c8,c9,hN0,hN]
    repeat (with_reducible refine And.intro (by first | (intro h0;simp only [h0,and_self];done) | (intro h0;simp only [h0,Bool.not_false,Bool.not_true,Bool.true_and,Bool.and_true,true_and,and_true,and_self,imp_self,implies_true,bne_iff_ne,ne_eq,beq_iff_eq];done) | (intros;simp_all;done) | exact True.intro) ?_)
    refine (Kj hy6).then ?_
    simp only [push_cast,seval,↓reduceIte,Za,c8,c9,hN0,hN]
    repeat (with_reducible refine And.intro (by first | (intro h0;simp only [h0,and_self];done) | (intro h0;simp only [h0,Bool.not_false,Bool.not_true,Bool.true_and,Bool.and_true,true_and,and_true,and_self,imp_self,implies_true,bne_iff_ne,ne_eq,beq_iff_eq];done) | (intros;simp_all;done) | exact True.intro) ?_)
    refine (Kj hy7).then ?_
    simp only [push_cast,seval,↓reduceIte,Za,c8,c9,hN0,hN]
    repeat (with_reducible refine And.intro (by first | (intro h0;simp only [h0,and_self];done) | (intro h0;simp only [h0,Bool.not_false,Bool.not_true,Bool.true_and,Bool.and_true,true_and,and_true,and_self,imp_self,implies_true,bne_iff_ne,ne_eq,beq_iff_eq];done) | (intros;simp_all;done) | exact True.intro) ?_)
    have hz3:=Option.some.inj hz3;subst hz3
    refine And.intro rfl (Fit2.of (Zj hU rfl rfl ?_) (by omega))
    simp only [push_cast,seval,↓reduceIte,Za,c8,c9,hN0,hN]
   replace hz3:=Zt c9 hz3
   try rw [c9] at c8
   refine Zc Zd [some true,some true,some true,some false,some false,some false,some false,some false,some false,some false,some false,some false,some false,some false,some false,some false,some false,some false,some false,some false,some false] ?_
   simp only [push_cast,seval,↓reduceIte,Za,c8,c9,hN0,hN]
   refine (Kj hy6).then ?_
   simp only [push_cast,seval,↓reduceIte,Za,c8,c9,hN0,hN]
   have hz3:=Option.some.inj hz3;subst hz3
   refine And.intro rfl (Fit2.of (Zj hU rfl rfl ?_) (by omega))
   simp only [push_cast,seval,↓reduceIte,Za,c8,c9,hN0,hN]
  replace hz3:=Zt c8 hz3
  refine Zc Zd [some false,some false,some false,some false,some false,some false,some false,some false,some false,some false,some false,some false,some false,some false,some false,some false,some false,some false,some false,some false,some false] ?_
  simp only [push_cast,seval,↓reduceIte,Za,c8,hN0,hN]
  have hz3:=Option.some.inj hz3;subst hz3
  refine And.intro rfl (Fit2.of (Zj hU rfl rfl ?_) (by omega))
  simp only [push_cast,seval,↓reduceIte,Za,c8,hN0,hN]
 refine Z4 ?_
 try simp only [Zk,Ze]
 have h:=Option.some.inj h;subst h
 refine Zs (.inr rfl) hU [.val (.bool z3)] (by omega) ?_
 simp only [push_cast,seval,↓reduceIte,Za,Try.results108,hN0,hN]
theorem Zd7 {a0:S_api_Edit} {r:(Int×Int)} {O:Objs} {n:Nat} (h:Je a0=some r):GTo Try.prog 70 [.agg (Zh a0)] O n (.tup [.val (.int .i64 r.1),.val (.int .i64 r.2)]) O n:=by
 unfold Je at h
 refine Y8 Zd Try.call70 Try.func70 rfl (Nat.le_of_ble_eq_true rfl) (Nat.le_refl _) fun hU => ?_
 have hN0:O n=none:=hU.fresh _ (Nat.le_refl _)
 have hN:∀ k,O (n+k)=none:=fun k=>hU.fresh _ (Nat.le_add_right _ _)
 show W _ _ _ _ ⟨48,[],[(0,.agg (Zh a0))]⟩ (Zx O n []) _
 refine Zr [1] (Zc Zd [] ?_)
 simp only [push_cast,seval,↓reduceIte,Za,hN0,hN]
 refine Zr [1,4,5] (Zc Zd [] ?_)
 simp only [push_cast,seval,↓reduceIte,Za,hN0,hN]
 refine Zm ?_
 refine Zr [1,4,5,6] (Zc Zd [] ?_)
 simp only [push_cast,seval,↓reduceIte,Za,hN0,hN]
 refine Zl [1,4,5,6] [true] ?_
 simp only [push_cast,seval,↓reduceIte]
 obtain ⟨z14,hz14,h⟩:=bC h
 refine Yx (E':=⟨48,[],[(4,.val (.int .i64 z14.1)),(5,.val (.int .i64 z14.2))]⟩) (O':=(Zx O n [none])) (n0:=(n+1)) ?_ ?_
 ·refine Xg hz14 (fun s0_=>⟨48,[],[(1,.ref n 0),(4,.val (.int .i64 s0_.1)),(5,.val (.int .i64 s0_.2.1)),(6,.val (.int .i64 s0_.2.2))]⟩) (fun s0_=>(Zx O n [some ⟨false,30,11,1,(Zh a0)⟩])) (fun z14=>JX 0 n (⟨48,[],[(4,.val (.int .i64 z14.1)),(5,.val (.int .i64 z14.2))]⟩:Env) (Zx O n [none]) (n+1)) ?_
  intro s0_ x0_ hs0_
  unfold Jf at hs0_
  try dsimp only
  refine Zm ?_
  refine Zr [1,4,5,6,13] (Zc Zd [] ?_)
  simp only [push_cast,seval,↓reduceIte,Za,hN0,hN]
  refine Zv (t:=(decide (s0_.2.2 < (a0.Ops.length:Int)))) rfl (fun c13 => ?_) (fun c13 => ?_)
  ·replace hs0_:=Zu c13 hs0_
   refine Zy ?_
   try simp only [Zk,Ze]
   refine Zl [1,4,5,6] [true] ?_
   simp only [push_cast,seval,↓reduceIte]
   obtain ⟨z1,hz1,hs0_⟩:=bC hs0_
   refine Y6 (E':=⟨48,[],[(1,.ref n 0),(4,.val (.int .i64 z1.1)),(5,.val (.int .i64 z1.2)),(6,.val (.int .i64 s0_.2.2))]⟩) (O':=(Zx O n [some ⟨false,30,11,1,(Zh a0)⟩,none])) (n0:=(n+2)) ?_ ?_
   ·refine Ym ?_
    refine Zm ?_
    obtain ⟨x3,hx3,ax3,bx3,cx3,hz1⟩:=bE (f:=Zg) Zda (fun _=>rfl) (by decide) hz1
    refine Zc Zd [] ?_
    simp only [push_cast,Nat.reduceAdd,Nat.reduceSub,Nat.reduceMul,Nat.reduceLeDiff,Nat.reduceLT,Nat.reduceEqDiff,↓reduceIte,reduceCtorEq,Int.reduceBEq,Int.reduceBNe,Nat.reduceBEq,Int.reduceLE,Int.reduceLT,Int.reduceEq,Int.reduceNe,Int.reduceNeg,Nat.reduceDiv,Nat.reduceMod,Nat.reducePow,Za,ax3,bx3,cx3,hN0,hN]
    refine Zl [1,4,5,6,7] [true,true] ?_
    simp only [push_cast,seval,↓reduceIte]
    refine Zr [1,4,5,6,7,8] (Zc Zd [] ?_)
    simp only [push_cast,seval,↓reduceIte,Za,hN0,hN]
    obtain ⟨z4,hz4,hz1⟩:=bC hz1
    refine Y6 (E':=⟨48,[],[(1,.ref n 0),(4,.val (.int .i64 s0_.1)),(5,.val (.int .i64 s0_.2.1)),(6,.val (.int .i64 s0_.2.2)),(7,.ref (n+1) 0),(8,.val (.int .i64 z4))]⟩) (O':=(Zx O n [some ⟨false,30,11,1,(Zh a0)⟩,some ⟨false,69,14,1,(Z7 x3)⟩])) (n0:=(n+2)) ?_ ?_
    ·refine Zr [1,4,5,6,7,8,29] (Zc Zd [] ?_)
     simp only [push_cast,seval,↓reduceIte,Za,hN0,hN]
     refine Zv (t:=(x3.Kind == 3)) rfl (fun c5 => ?_) (fun c5 => ?_)
     ·replace hz4:=Zu c5 hz4
      refine Zc Zd [] ?_
      simp only [push_cast,seval,↓reduceIte,Za,hN0,hN]
      have hz4:=Option.some.inj hz4;subst hz4
      refine And.intro rfl (Fit2.of (Zj hU rfl rfl ?_) (by omega))
      simp only [push_cast,seval,↓reduceIte,Za,hN0,hN]
     replace hz4:=Zt c5 hz4
     refine Zy ?_
     try simp only [Zk,Ze]
     have hz4:=Option.some.inj hz4;subst hz4
     refine And.intro rfl (Fit2.of (Zj hU rfl rfl ?_) (by omega))
     simp only [push_cast,seval,↓reduceIte,Za,hN0,hN]
    obtain ⟨z6,hz6,hz1⟩:=bC hz1
    refine Y6 (E':=⟨48,[],[(1,.ref n 0),(4,.val (.int .i64 z6)),(5,.val (.int .i64 s0_.2.1)),(6,.val (.int .i64 s0_.2.2)),(7,.ref (n+1) 0),(8,.val (.int .i64 z4))]⟩) (O':=(Zx O n [some ⟨false,30,11,1,(Zh a0)⟩,some ⟨false,69,14,1,(Z7 x3)⟩])) (n0:=(n+2)) ?_ ?_
    ·refine Zr [1,4,5,6,7,8,32] (Zc Zd [] ?_)
     simp only [push_cast,seval,↓reduceIte,Za,hN0,hN]
     refine Zv (t:=(x3.Kind != 2)) rfl (fun c7 => ?_) (fun c7 => ?_)
     ·replace hz6:=Zu c7 hz6
      refine Zc Zd [] ?_
      simp only [push_cast,seval,↓reduceIte,Za,hN0,hN]
      have hz6:=Option.some.inj hz6;subst hz6
      refine And.intro rfl (Fit2.of (Zj hU rfl rfl ?_) (by omega))
      simp only [push_cast,seval,↓reduceIte,Za,hN0,hN]
     replace hz6:=Zt c7 hz6
     refine Zy ?_
     try simp only [Zk,Ze]
     have hz6:=Option.some.inj hz6;subst hz6
     refine And.intro rfl (Fit2.of (Zj hU rfl rfl ?_) (by omega))
     simp only [push_cast,seval,↓reduceIte,Za,hN0,hN]
    obtain ⟨z8,hz8,hz1⟩:=bC hz1
    refine Y6 (E':=⟨48,[],[(1,.ref n 0),(4,.val (.int .i64 z6)),(5,.val (.int .i64 z8)),(6,.val (.int .i64 s0_.2.2))]⟩) (O':=(Zx O n [some ⟨false,30,11,1,(Zh a0)⟩,none])) (n0:=(n+2)) ?_ ?_
    ·refine Zr [1,4,5,6,8,38] (Zc Zd [] ?_)
     simp only [push_cast,seval,↓reduceIte,Za,hN0,hN]
     refine Zv (t:=(x3.Kind != 1)) rfl (fun c9 => ?_) (fun c9 => ?_)
     ·replace hz8:=Zu c9 hz8
      refine Zc Zd [] ?_
      simp only [push_cast,seval,↓reduceIte,Za,hN0,hN]
      have hz8:=Option.some.inj hz8;subst hz8
      refine And.intro rfl (Fit2.of (Zj hU rfl rfl ?_) (by omega))
      simp only [push_cast,seval,↓reduceIte,Za,hN0,hN]
     replace hz8:=Zt c9 hz8
     refine Zy ?_
     try simp only [Zk,Ze]
     have hz8:=Option.some.inj hz8;subst hz8
     refine And.intro rfl (Fit2.of (Zj hU rfl rfl ?_) (by omega))
     simp only [push_cast,seval,↓reduceIte,Za,hN0,hN]
    obtain ⟨z10,hz10,hz1⟩:=bC hz1
    refine Y6 (E':=⟨48,[],[(1,.ref n 0),(4,.val (.int .i64 z10)),(5,.val (.int .i64 z8)),(6,.val (.int .i64 s0_.2.2))]⟩) (O':=(Zx O n [some ⟨false,30,11,1,(Zh a0)⟩,none])) (n0:=(n+2)) ?_ ?_
    ·refine Zr [1,4,5,6,43] (Zc Zd [] ?_)
     simp only [push_cast,seval,↓reduceIte,Za,hN0,hN]
     refine Zv (t:=(decide (1048576 < z6))) rfl (fun c11 => ?_) (fun c11 => ?_)
     ·replace hz10:=Zu c11 hz10
      refine Zc Zd [] ?_
      simp only [push_cast,seval,↓reduceIte,Za,hN0,hN]
      have hz10:=Option.some.inj hz10;subst hz10
      refine And.intro rfl (Fit2.of (Zj hU rfl rfl ?_) (by omega))
      simp only [push_cast,seval,↓reduceIte,Za,hN0,hN]
     replace hz10:=Zt c11 hz10
     refine Zy ?_
     try simp only [Zk,Ze]
     have hz10:=Option.some.inj hz10;subst hz10
     refine And.intro rfl (Fit2.of (Zj hU rfl rfl ?_) (by omega))
     simp only [push_cast,seval,↓reduceIte,Za,hN0,hN]
    refine Zr [1,4,5,6,45] (Zc Zd [] ?_)
    simp only [push_cast,seval,↓reduceIte,Za,hN0,hN]
    refine Zv (t:=(decide (1048576 < z8))) rfl (fun c12 => ?_) (fun c12 => ?_)
    ·replace hz1:=Zu c12 hz1
     refine Zc Zd [] ?_
     simp only [push_cast,seval,↓reduceIte,Za,hN0,hN]
     have hz1:=Option.some.inj hz1;subst hz1
     refine And.intro rfl (Fit2.of (Zj hU rfl rfl ?_) (by omega))
     simp only [push_cast,seval,↓reduceIte,Za,hN0,hN]
    replace hz1:=Zt c12 hz1
    refine Zy ?_
    try simp only [Zk,Ze]
    have hz1:=Option.some.inj hz1;subst hz1
    refine And.intro rfl (Fit2.of (Zj hU rfl rfl ?_) (by omega))
    simp only [push_cast,seval,↓reduceIte,Za,hN0,hN]
   refine Zc Zd [] ?_
   simp only [push_cast,seval,↓reduceIte,Za,hN0,hN]
   have hs0_:=Option.some.inj hs0_;subst hs0_
   refine And.intro rfl (Fit2.of (Zj hU rfl rfl ?_) (by omega))
   simp only [push_cast,seval,↓reduceIte,Za,hN0,hN]
  replace hs0_:=Zt c13 hs0_
  refine Xp ?_
  try simp only [Zk,Ze,↓reduceIte,Nat.reduceEqDiff]
  have hs0_:=Option.some.inj hs0_;subst hs0_
  refine And.intro (fun h=>by cases h) (And.intro rfl (Fit2.of (Zj hU rfl rfl ?_) (by omega)))
  simp only [push_cast,seval,↓reduceIte,Za,hN0,hN]
 try simp only [Zk,Ze,↓reduceIte,Nat.reduceEqDiff]
 refine Zl [4,5] [false] ?_
 simp only [push_cast,seval,↓reduceIte]
 refine Zr [2,3] (Zc Zd [] ?_)
 simp only [push_cast,seval,↓reduceIte,Za,hN0,hN]
 refine Z4 ?_
 try simp only [Zk,Ze]
 have h:=Option.some.inj h;subst h
 refine Zs (.inr rfl) hU [.val (.int .i64 z14.1),.val (.int .i64 z14.2)] (by omega) ?_
 simp only [push_cast,seval,↓reduceIte,Za,Try.results70,hN0,hN]
theorem Zjh {Xm:(S_api_Edit→Int→Option Bool)} {Qp:(Int→S_api_Op→Int→Option Bool)} (Zas:∀ {a0:S_api_Edit} {a1:Int} {r:Bool} {O:Objs} {n:Nat},Xm a0 a1=some r→GTo Try.prog 39 [.agg (Zh a0),.val (.int .i64 a1)] O n (.val (.bool r)) O n) (Zf6:∀ {a0:Int} {a1:S_api_Op} {a2:Int} {r:Bool} {O:Objs} {n:Nat},Qp a0 a1 a2=some r→GTo Try.prog 69 [.val (.int .i64 a0),.agg (Z7 a1),.val (.int .i64 a2)] O n (.val (.bool r)) O n) {a0:S_api_Edit} {a1:Int} {r:Bool} {O:Objs} {n:Nat} (h:Vq Xm Qp a0 a1=some r):GTo Try.prog 39 [.agg (Zh a0),.val (.int .i64 a1)] O n (.val (.bool r)) O n:=by
 unfold Vq at h
 refine Y8 Zd Try.call39 Try.func39 rfl (Nat.le_of_ble_eq_true rfl) (Nat.le_refl _) fun hU => ?_
 have hN0:O n=none:=hU.fresh _ (Nat.le_refl _)
 have hN:∀ k,O (n+k)=none:=fun k=>hU.fresh _ (Nat.le_add_right _ _)
 show W _ _ _ _ ⟨216,[],[(0,.agg (Zh a0)),(1,.val (.int .i64 a1))]⟩ (Zx O n []) _
 refine Zr [1,2] (Zc Zd [] ?_)
 simp only [push_cast,seval,↓reduceIte,Za,hN0,hN]
 refine Zm ?_
 refine Zr [1,2,24] (Zc Zd [none,none,none,none,none,none] ?_)
 simp only [push_cast,seval,↓reduceIte,Za,hN0,hN]
 repeat (with_reducible refine And.intro (by first | (intro h0;simp only [h0,and_self];done) | (intro h0;simp only [h0,Bool.not_false,Bool.not_true,Bool.true_and,Bool.and_true,true_and,and_true,and_self,imp_self,implies_true,bne_iff_ne,ne_eq,beq_iff_eq];done) | (intros;simp_all;done) | exact True.intro) ?_)
 refine Zv (t:=(cond (cond (a1 == 0) true (decide (a0.Kind < 0))) true (decide (3 < a0.Kind)))) rfl (fun c58 => ?_) (fun c58 => ?_)
 ·replace h:=Zu c58 h
  refine Zr [4] (Zc Zd [] ?_)
  simp only [push_cast,seval,↓reduceIte,Za,hN0,hN]
  refine Z4 ?_
  try simp only [Zk,Ze]
  have h:=Option.some.inj h;subst h
  refine Zs (.inr rfl) hU [.val (.bool false)] (by omega) ?_
  simp only [push_cast,seval,↓reduceIte,Za,Try.results39,hN0,hN]
 replace h:=Zt c58 h
 refine Zy ?_
 try simp only [Zk,Ze]
 refine Zl [1,2] [true] ?_
 simp only [push_cast,seval,↓reduceIte]
 refine Zm ?_
 obtain ⟨z3,hz3,h⟩:=bC h
 refine Y6 (E':=⟨216,[],[(1,.val (.int .i64 a1)),(2,.ref n 0),(69,.val (.bool z3))]⟩) (O':=(Zx O n [some ⟨false,30,11,1,(Zh a0)⟩])) (n0:=(n+1)) ?_ ?_
 ·rcases Bool.eq_false_or_eq_true (a0.Kind != 1) with c8 | c8
  ·replace hz3:=Zu c8 hz3
   obtain ⟨y6,hy6,hz3⟩:=bC hz3
   rcases Bool.eq_false_or_eq_true y6 with c9 | c9
   ·replace hz3:=Zu c9 hz3
    try rw [c9] at c8
    obtain ⟨y7,hy7,hz3⟩:=bC hz3
    refine Zc Zd [some true,some true,some true,some true,some true,some true,some true,some true,some true,none,none,none,none,none,none,none,none,none,none,none,none,none,none,none,none,none,none,none,none,none,none,none,none,none,none,none] ?_
    simp only [push_cast,seval,↓reduceIte,Za,c8,c9,hN0,hN]
    repeat (with_reducible refine And.intro (by first | (intro h0;simp only [h0,and_self];done) | (intro h0;simp only [h0,Bool.not_false,Bool.not_true,Bool.true_and,Bool.and_true,true_and,and_true,and_self,imp_self,implies_true,bne_iff_ne,ne_eq,beq_iff_eq];done) | (intros;simp_all;done) | exact True.intro) ?_)
    refine (Kj hy6).then ?_
    simp only [push_cast,seval,↓reduceIte,Za,c8,c9,hN0,hN]
    repeat (with_reducible refine And.intro (by first | (intro h0;simp only [h0,and_self];done) | (intro h0;simp only [h0,Bool.not_false,Bool.not_true,Bool.true_and,Bool.and_true,true_and,and_true,and_self,imp_self,implies_true,bne_iff_ne,ne_eq,beq_iff_eq];done) | (intros;simp_all;done) | exact True.intro) ?_)
    refine (Kj hy7).then ?_
    simp only [push_cast,seval,↓reduceIte,Za,c8,c9,hN0,hN]
    repeat (with_reducible refine And.intro (by first | (intro h0;simp only [h0,and_self];done) | (intro h0;simp only [h0,Bool.not_false,Bool.not_true,Bool.true_and,Bool.and_true,true_and,and_true,and_self,imp_self,implies_true,bne_iff_ne,ne_eq,beq_iff_eq];done) | (intros;simp_all;done) | exact True.intro) ?_)
    have hz3:=Option.some.inj hz3;subst hz3
    refine And.intro rfl (Fit2.of (Zj hU rfl rfl ?_) (by omega))
    simp only [push_cast,seval,↓reduceIte,Za,c8,c9,hN0,hN]
   replace hz3:=Zt c9 hz3
   try rw [c9] at c8
   refine Zc Zd [some true,some true,some true,some true,some false,some false,some false,some true,some true,some false,some false,some false,some false,some false,some false,some false,some false,some false,some false,some false,some false,some false,some false,some false,some false,some false,some false,some false,some false,some false,some false,some false,some false,some false,some false,some false] ?_
   simp only [push_cast,seval,↓reduceIte,Za,c8,c9,hN0,hN]
   refine (Kj hy6).then ?_
   simp only [push_cast,seval,↓reduceIte,Za,c8,c9,hN0,hN]
   have hz3:=Option.some.inj hz3;subst hz3
   refine And.intro rfl (Fit2.of (Zj hU rfl rfl ?_) (by omega))
   simp only [push_cast,seval,↓reduceIte,Za,c8,c9,hN0,hN]
  replace hz3:=Zt c8 hz3
  refine Zc Zd [some false,some false,some false,some false,some false,some false,some false,some false,some false,some true,some true,some true,some true,none,none,none,none,none,none,none,none,some true,none,none,none,none,none,none,none,none,none,none,none,none,none,none] ?_
  simp only [push_cast,seval,↓reduceIte,Za,c8,hN0,hN]
  repeat (with_reducible refine And.intro (by first | (intro h0;simp only [h0,and_self];done) | (intro h0;simp only [h0,Bool.not_false,Bool.not_true,Bool.true_and,Bool.and_true,true_and,and_true,and_self,imp_self,implies_true,bne_iff_ne,ne_eq,beq_iff_eq];done) | (intros;simp_all;done) | exact True.intro) ?_)
  have hz3:=Option.some.inj hz3;subst hz3
  refine And.intro rfl (Fit2.of (Zj hU rfl rfl ?_) (by omega))
  simp only [push_cast,seval,↓reduceIte,Za,c8,hN0,hN]
 refine Zv (t:=z3) rfl (fun c57 => ?_) (fun c57 => ?_)
 ·replace h:=Zu c57 h
  refine Zr [4] (Zc Zd [] ?_)
  simp only [push_cast,seval,↓reduceIte,Za,hN0,hN]
  refine Z4 ?_
  try simp only [Zk,Ze]
  have h:=Option.some.inj h;subst h
  refine Zs (.inr rfl) hU [.val (.bool false)] (by omega) ?_
  simp only [push_cast,seval,↓reduceIte,Za,Try.results39,hN0,hN]
 replace h:=Zt c57 h
 refine Zy ?_
 try simp only [Zk,Ze]
 refine Zl [1,2] [true] ?_
 simp only [push_cast,seval,↓reduceIte]
 refine Zm ?_
 refine Zr [1,2,72] (Zc Zd [] ?_)
 simp only [push_cast,seval,↓reduceIte,Za,hN0,hN]
 refine Zv (t:=(a0.Kind == 1)) rfl (fun c56 => ?_) (fun c56 => ?_)
 ·replace h:=Zu c56 h
  obtain ⟨z12,hz12,h⟩:=bC h
  refine Y6 (E':=⟨216,[],[(4,.val (.bool z12))]⟩) (O':=(Zx O n [none])) (n0:=(n+1)) ?_ ?_
  ·obtain ⟨y15,hy15,hz12⟩:=bC hz12
   rcases Bool.eq_false_or_eq_true y15 with c17 | c17
   ·replace hz12:=Zu c17 hz12
    obtain ⟨y16,hy16,hz12⟩:=bC hz12
    refine Zc Zd [some true,some true,some true,none,none,none,none,none,none,none,none] ?_
    simp only [push_cast,seval,↓reduceIte,Za,c17,hN0,hN]
    repeat (with_reducible refine And.intro (by first | (intro h0;simp only [h0,and_self];done) | (intro h0;simp only [h0,Bool.not_false,Bool.not_true,Bool.true_and,Bool.and_true,true_and,and_true,and_self,imp_self,implies_true,bne_iff_ne,ne_eq,beq_iff_eq];done) | (intros;simp_all;done) | exact True.intro) ?_)
    refine (Vj hy15).then ?_
    simp only [push_cast,seval,↓reduceIte,Za,c17,hN0,hN]
    repeat (with_reducible refine And.intro (by first | (intro h0;simp only [h0,and_self];done) | (intro h0;simp only [h0,Bool.not_false,Bool.not_true,Bool.true_and,Bool.and_true,true_and,and_true,and_self,imp_self,implies_true,bne_iff_ne,ne_eq,beq_iff_eq];done) | (intros;simp_all;done) | exact True.intro) ?_)
    refine (Vj hy16).then ?_
    simp only [push_cast,seval,↓reduceIte,Za,c17,hN0,hN]
    repeat (with_reducible refine And.intro (by first | (intro h0;simp only [h0,and_self];done) | (intro h0;simp only [h0,Bool.not_false,Bool.not_true,Bool.true_and,Bool.and_true,true_and,and_true,and_self,imp_self,implies_true,bne_iff_ne,ne_eq,beq_iff_eq];done) | (intros;simp_all;done) | exact True.intro) ?_)
    have hz12:=Option.some.inj hz12;subst hz12
    refine And.intro rfl (Fit2.of (Zj hU rfl rfl ?_) (by omega))
    simp only [push_cast,seval,↓reduceIte,Za,c17,hN0,hN]
   replace hz12:=Zt c17 hz12
   refine Zc Zd [some false,some false,some false,some false,some false,some false,some false,some false,some false,some false,some false] ?_
   simp only [push_cast,seval,↓reduceIte,Za,c17,hN0,hN]
   refine (Vj hy15).then ?_
   simp only [push_cast,seval,↓reduceIte,Za,c17,hN0,hN]
   have hz12:=Option.some.inj hz12;subst hz12
   refine And.intro rfl (Fit2.of (Zj hU rfl rfl ?_) (by omega))
   simp only [push_cast,seval,↓reduceIte,Za,c17,hN0,hN]
  refine Z4 ?_
  try simp only [Zk,Ze]
  have h:=Option.some.inj h;subst h
  refine Zs (.inr rfl) hU [.val (.bool z12)] (by omega) ?_
  simp only [push_cast,seval,↓reduceIte,Za,Try.results39,hN0,hN]
 replace h:=Zt c56 h
 refine Zy ?_
 try simp only [Zk,Ze]
 refine Zl [1,2] [true] ?_
 simp only [push_cast,seval,↓reduceIte]
 refine Zr [1,2,5] (Zc Zd [] ?_)
 simp only [push_cast,seval,↓reduceIte,Za,hN0,hN]
 refine Zm ?_
 refine Zr [1,2,5,6] (Zc Zd [] ?_)
 simp only [push_cast,seval,↓reduceIte,Za,hN0,hN]
 refine Zl [1,2,5,6] [true] ?_
 simp only [push_cast,seval,↓reduceIte]
 obtain ⟨z33,hz33,h⟩:=bC h
 refine U4 (J:=(Xw (fun z33=>JR n (⟨216,[],[(4,.val (.bool false))]⟩:Env) (Zx O n [none]) (n+1)) (fun z33=>JX 0 n (⟨216,[],[(1,.val (.int .i64 a1)),(2,.ref n 0)]⟩:Env) (Zx O n [some ⟨false,30,11,1,(Zh a0)⟩]) (n+1)))) (z:=z33) ?_ fun hw => ?_
 ·refine Xg hz33 (fun s0_=>⟨216,[],[(1,.val (.int .i64 a1)),(2,.ref n 0),(5,.val (.int .i64 s0_.1)),(6,.val (.int .i64 s0_.2))]⟩) (fun s0_=>(Zx O n [some ⟨false,30,11,1,(Zh a0)⟩])) (Xw (fun z33=>JR n (⟨216,[],[(4,.val (.bool false))]⟩:Env) (Zx O n [none]) (n+1)) (fun z33=>JX 0 n (⟨216,[],[(1,.val (.int .i64 a1)),(2,.ref n 0)]⟩:Env) (Zx O n [some ⟨false,30,11,1,(Zh a0)⟩]) (n+1))) ?_
  intro s0_ x0_ hs0_
  unfold Qz at hs0_
  try dsimp only
  refine Zm ?_
  refine Zr [1,2,5,6,97] (Zc Zd [] ?_)
  simp only [push_cast,seval,↓reduceIte,Za,hN0,hN]
  refine Zv (t:=(decide (s0_.2 < (a0.Words.length:Int)))) rfl (fun c32 => ?_) (fun c32 => ?_)
  ·replace hs0_:=Zu c32 hs0_
   refine Zy ?_
   try simp only [Zk,Ze]
   refine Zl [1,2,5,6] [true] ?_
   simp only [push_cast,seval,↓reduceIte]
   refine Zm ?_
   refine Ym ?_
   refine Zm ?_
   obtain ⟨x19,hx19,ax19,bx19,cx19,hs0_⟩:=bE (f:=Zo) Ztl (fun _=>rfl) (by decide) hs0_
   refine Zc Zd [] ?_
   simp only [push_cast,Nat.reduceAdd,Nat.reduceSub,Nat.reduceMul,Nat.reduceLeDiff,Nat.reduceLT,Nat.reduceEqDiff,↓reduceIte,reduceCtorEq,Int.reduceBEq,Int.reduceBNe,Nat.reduceBEq,Int.reduceLE,Int.reduceLT,Int.reduceEq,Int.reduceNe,Int.reduceNeg,Nat.reduceDiv,Nat.reduceMod,Nat.reducePow,Za,ax19,bx19,cx19,hN0,hN]
   refine Zl [1,2,5,6,7] [true,true] ?_
   simp only [push_cast,seval,↓reduceIte]
   refine Zm ?_
   obtain ⟨z22,hz22,hs0_⟩:=bC hs0_
   refine Y6 (E':=⟨216,[],[(1,.val (.int .i64 a1)),(2,.ref n 0),(6,.val (.int .i64 s0_.2)),(7,.ref (n+1) 0),(134,.val (.bool z22))]⟩) (O':=(Zx O n [some ⟨false,30,11,1,(Zh a0)⟩,some ⟨false,58,4,1,(U9 x19)⟩])) (n0:=(n+2)) ?_ ?_
   ·rcases Bool.eq_false_or_eq_true (decide (x19.At≤s0_.1)) with c27 | c27
    ·replace hz22:=Zu c27 hz22
     refine Zc Zd [none,none,none,none,none,none,some false,some false,some false,some false,some false,some false,some false,some false,some false,some false,some false,some false] ?_
     simp only [push_cast,seval,↓reduceIte,Za,c27,hN0,hN]
     repeat (with_reducible refine And.intro (by first | (intro h0;simp only [h0,and_self];done) | (intro h0;simp only [h0,Bool.not_false,Bool.not_true,Bool.true_and,Bool.and_true,true_and,and_true,and_self,imp_self,implies_true,bne_iff_ne,ne_eq,beq_iff_eq];done) | (intros;simp_all;done) | exact True.intro) ?_)
     have hz22:=Option.some.inj hz22;subst hz22
     refine And.intro rfl (Fit2.of (Zj hU rfl rfl ?_) (by omega))
     simp only [push_cast,seval,↓reduceIte,Za,c27,hN0,hN]
    replace hz22:=Zt c27 hz22
    rcases Bool.eq_false_or_eq_true (decide (65534 < x19.At)) with c28 | c28
    ·replace hz22:=Zu c28 hz22
     try rw [c28] at c27
     refine Zc Zd [none,none,none,none,none,none,some false,some false,some false,some false,some false,some false,some false,some false,some false,some false,some false,some false] ?_
     simp only [push_cast,seval,↓reduceIte,Za,c27,c28,hN0,hN]
     repeat (with_reducible refine And.intro (by first | (intro h0;simp only [h0,and_self];done) | (intro h0;simp only [h0,Bool.not_false,Bool.not_true,Bool.true_and,Bool.and_true,true_and,and_true,and_self,imp_self,implies_true,bne_iff_ne,ne_eq,beq_iff_eq];done) | (intros;simp_all;done) | exact True.intro) ?_)
     have hz22:=Option.some.inj hz22;subst hz22
     refine And.intro rfl (Fit2.of (Zj hU rfl rfl ?_) (by omega))
     simp only [push_cast,seval,↓reduceIte,Za,c27,c28,hN0,hN]
    replace hz22:=Zt c28 hz22
    try rw [c28] at c27
    rcases Bool.eq_false_or_eq_true (x19.Mask == 0) with c29 | c29
    ·replace hz22:=Zu c29 hz22
     try rw [c29] at c27
     try rw [c29] at c28
     refine Zc Zd [none,none,none,none,none,none,some false,some false,some false,some false,some false,some false,some false,some false,some false,some false,some false,some false] ?_
     simp only [push_cast,seval,↓reduceIte,Za,c27,c28,c29,hN0,hN]
     repeat (with_reducible refine And.intro (by first | (intro h0;simp only [h0,and_self];done) | (intro h0;simp only [h0,Bool.not_false,Bool.not_true,Bool.true_and,Bool.and_true,true_and,and_true,and_self,imp_self,implies_true,bne_iff_ne,ne_eq,beq_iff_eq];done) | (intros;simp_all;done) | exact True.intro) ?_)
     have hz22:=Option.some.inj hz22;subst hz22
     refine And.intro rfl (Fit2.of (Zj hU rfl rfl ?_) (by omega))
     simp only [push_cast,seval,↓reduceIte,Za,c27,c28,c29,hN0,hN]
    replace hz22:=Zt c29 hz22
    try rw [c29] at c27
    try rw [c29] at c28
    obtain ⟨y25,hy25,hz22⟩:=bC hz22
    rcases Bool.eq_false_or_eq_true y25 with c30 | c30
    ·replace hz22:=Zu c30 hz22
     try rw [c30] at c27
     try rw [c30] at c28
     try rw [c30] at c29
     obtain ⟨y26,hy26,hz22⟩:=bC hz22
     refine Zc Zd [none,none,none,none,none,none,some true,some true,some true,some true,some true,some true,some true,some true,some true,some true,some true,some true] ?_
     simp only [push_cast,seval,↓reduceIte,Za,c27,c28,c29,c30,hN0,hN]
     repeat (with_reducible refine And.intro (by first | (intro h0;simp only [h0,and_self];done) | (intro h0;simp only [h0,Bool.not_false,Bool.not_true,Bool.true_and,Bool.and_true,true_and,and_true,and_self,imp_self,implies_true,bne_iff_ne,ne_eq,beq_iff_eq];done) | (intros;simp_all;done) | exact True.intro) ?_)
     refine (Zbj hy25).then ?_
     simp only [push_cast,seval,↓reduceIte,Za,c27,c28,c29,c30,hN0,hN]
     repeat (with_reducible refine And.intro (by first | (intro h0;simp only [h0,and_self];done) | (intro h0;simp only [h0,Bool.not_false,Bool.not_true,Bool.true_and,Bool.and_true,true_and,and_true,and_self,imp_self,implies_true,bne_iff_ne,ne_eq,beq_iff_eq];done) | (intros;simp_all;done) | exact True.intro) ?_)
     refine (Zbj hy26).then ?_
     simp only [push_cast,seval,↓reduceIte,Za,c27,c28,c29,c30,hN0,hN]
     repeat (with_reducible refine And.intro (by first | (intro h0;simp only [h0,and_self];done) | (intro h0;simp only [h0,Bool.not_false,Bool.not_true,Bool.true_and,Bool.and_true,true_and,and_true,and_self,imp_self,implies_true,bne_iff_ne,ne_eq,beq_iff_eq];done) | (intros;simp_all;done) | exact True.intro) ?_)
     have hz22:=Option.some.inj hz22;subst hz22
     refine And.intro rfl (Fit2.of (Zj hU rfl rfl ?_) (by omega))
     simp only [push_cast,seval,↓reduceIte,Za,c27,c28,c29,c30,hN0,hN]
    replace hz22:=Zt c30 hz22
    try rw [c30] at c27
    try rw [c30] at c28
    try rw [c30] at c29
    refine Zc Zd [none,none,none,none,none,none,some true,some true,some true,some true,some true,some true,some false,some false,some false,some false,some false,some false] ?_
    simp only [push_cast,seval,↓reduceIte,Za,c27,c28,c29,c30,hN0,hN]
    repeat (with_reducible refine And.intro (by first | (intro h0;simp only [h0,and_self];done) | (intro h0;simp only [h0,Bool.not_false,Bool.not_true,Bool.true_and,Bool.and_true,true_and,and_true,and_self,imp_self,implies_true,bne_iff_ne,ne_eq,beq_iff_eq];done) | (intros;simp_all;done) | exact True.intro) ?_)
    refine (Zbj hy25).then ?_
    simp only [push_cast,seval,↓reduceIte,Za,c27,c28,c29,c30,hN0,hN]
    repeat (with_reducible refine And.intro (by first | (intro h0;simp only [h0,and_self];done) | (intro h0;simp only [h0,Bool.not_false,Bool.not_true,Bool.true_and,Bool.and_true,true_and,and_true,and_self,imp_self,implies_true,bne_iff_ne,ne_eq,beq_iff_eq];done) | (intros;simp_all;done) | exact True.intro) ?_)
    have hz22:=Option.some.inj hz22;subst hz22
    refine And.intro rfl (Fit2.of (Zj hU rfl rfl ?_) (by omega))
    simp only [push_cast,seval,↓reduceIte,Za,c27,c28,c29,c30,hN0,hN]
   refine Zv (t:=z22) rfl (fun c31 => ?_) (fun c31 => ?_)
   ·replace hs0_:=Zu c31 hs0_
    refine Zr [4] (Zc Zd [] ?_)
    simp only [push_cast,seval,↓reduceIte,Za,hN0,hN]
    refine Z4 ?_
    try simp only [Zk,Ze]
    have hs0_:=Option.some.inj hs0_;subst hs0_
    refine And.intro (fun h=>by cases h) (And.intro rfl (Fit2.of (Zj hU rfl rfl ?_) (by omega)))
    simp only [push_cast,seval,↓reduceIte,Za,hN0,hN]
   replace hs0_:=Zt c31 hs0_
   refine Zy ?_
   try simp only [Zk,Ze]
   refine Zl [1,2,6,7] [true,true] ?_
   simp only [push_cast,seval,↓reduceIte]
   refine Zc Zd [] ?_
   simp only [push_cast,seval,↓reduceIte,Za,hN0,hN]
   refine Zl [1,2,5,6] [true,false] ?_
   simp only [push_cast,seval,↓reduceIte]
   refine Zc Zd [] ?_
   simp only [push_cast,seval,↓reduceIte,Za,hN0,hN]
   have hs0_:=Option.some.inj hs0_;subst hs0_
   refine And.intro rfl (Fit2.of (Zj hU rfl rfl ?_) (by omega))
   simp only [push_cast,seval,↓reduceIte,Za,hN0,hN]
  replace hs0_:=Zt c32 hs0_
  refine Xp ?_
  try simp only [Zk,Ze,↓reduceIte,Nat.reduceEqDiff]
  have hs0_:=Option.some.inj hs0_;subst hs0_
  refine And.intro (fun h=>by cases h) (And.intro rfl (Fit2.of (Zj hU rfl rfl ?_) (by omega)))
  simp only [push_cast,seval,↓reduceIte,Za,hN0,hN]
 rcases z33 with z33 | z33
 ·dsimp only [Xw] at hw h
  refine Jc hw ?_
  try simp only [Zk,Ze,↓reduceIte,Nat.reduceEqDiff]
  have h:=Option.some.inj h;subst h
  refine Zs (.inr rfl) hU [.val (.bool false)] (by omega) ?_
  simp only [push_cast,seval,↓reduceIte,Za,Try.results39,hN0,hN]
 dsimp only [Xw] at hw h
 refine Yx hw ?_
 try simp only [Zk,Ze,↓reduceIte,Nat.reduceEqDiff]
 refine Zl [1,2] [true] ?_
 simp only [push_cast,seval,↓reduceIte]
 refine Zr [1,2,5] (Zc Zd [] ?_)
 simp only [push_cast,seval,↓reduceIte,Za,hN0,hN]
 refine Zm ?_
 refine Zr [1,2,5,8] (Zc Zd [] ?_)
 simp only [push_cast,seval,↓reduceIte,Za,hN0,hN]
 refine Zl [1,2,5,8] [true] ?_
 simp only [push_cast,seval,↓reduceIte]
 obtain ⟨z45,hz45,h⟩:=bC h
 refine U4 (J:=(Xw (fun z45=>JR n (⟨216,[],[(4,.val (.bool false))]⟩:Env) (Zx O n [none]) (n+1)) (fun z45=>JX 2 n (⟨216,[],[(1,.val (.int .i64 a1)),(2,.ref n 0)]⟩:Env) (Zx O n [some ⟨false,30,11,1,(Zh a0)⟩]) (n+1)))) (z:=z45) ?_ fun hw => ?_
 ·refine Xg hz45 (fun s1_=>⟨216,[],[(1,.val (.int .i64 a1)),(2,.ref n 0),(5,.val (.int .i64 s1_.1)),(8,.val (.int .i64 s1_.2))]⟩) (fun s1_=>(Zx O n [some ⟨false,30,11,1,(Zh a0)⟩])) (Xw (fun z45=>JR n (⟨216,[],[(4,.val (.bool false))]⟩:Env) (Zx O n [none]) (n+1)) (fun z45=>JX 2 n (⟨216,[],[(1,.val (.int .i64 a1)),(2,.ref n 0)]⟩:Env) (Zx O n [some ⟨false,30,11,1,(Zh a0)⟩]) (n+1))) ?_
  intro s1_ x1_ hs1_
  unfold Q0 at hs1_
  try dsimp only
  refine Zm ?_
  refine Zr [1,2,5,8,141] (Zc Zd [] ?_)
  simp only [push_cast,seval,↓reduceIte,Za,hN0,hN]
  refine Zv (t:=(decide (s1_.2 < (a0.Kids.length:Int)))) rfl (fun c44 => ?_) (fun c44 => ?_)
  ·replace hs1_:=Zu c44 hs1_
   refine Zy ?_
   try simp only [Zk,Ze]
   refine Zl [1,2,5,8] [true] ?_
   simp only [push_cast,seval,↓reduceIte]
   refine Zm ?_
   refine Ym ?_
   refine Zm ?_
   obtain ⟨x35,hx35,ax35,bx35,cx35,hs1_⟩:=bE (f:=Zn) Zmv (fun _=>rfl) (by decide) hs1_
   refine Zc Zd [] ?_
   simp only [push_cast,Nat.reduceAdd,Nat.reduceSub,Nat.reduceMul,Nat.reduceLeDiff,Nat.reduceLT,Nat.reduceEqDiff,↓reduceIte,reduceCtorEq,Int.reduceBEq,Int.reduceBNe,Nat.reduceBEq,Int.reduceLE,Int.reduceLT,Int.reduceEq,Int.reduceNe,Int.reduceNeg,Nat.reduceDiv,Nat.reduceMod,Nat.reducePow,Za,ax35,bx35,cx35,hN0,hN]
   refine Zl [1,2,5,8,9] [true,true] ?_
   simp only [push_cast,seval,↓reduceIte]
   refine Zm ?_
   obtain ⟨z37,hz37,hs1_⟩:=bC hs1_
   refine Y6 (E':=⟨216,[],[(1,.val (.int .i64 a1)),(2,.ref n 0),(8,.val (.int .i64 s1_.2)),(9,.ref (n+1) 0),(171,.val (.bool z37))]⟩) (O':=(Zx O n [some ⟨false,30,11,1,(Zh a0)⟩,some ⟨false,71,12,1,(Zad x35)⟩])) (n0:=(n+2)) ?_ ?_
   ·rcases Bool.eq_false_or_eq_true (decide (x35.At≤s1_.1)) with c40 | c40
    ·replace hz37:=Zu c40 hz37
     refine Zc Zd [none,none,none,none,none,none,none,some false,some false,some false,some false,some false,some false] ?_
     simp only [push_cast,seval,↓reduceIte,Za,c40,hN0,hN]
     repeat (with_reducible refine And.intro (by first | (intro h0;simp only [h0,and_self];done) | (intro h0;simp only [h0,Bool.not_false,Bool.not_true,Bool.true_and,Bool.and_true,true_and,and_true,and_self,imp_self,implies_true,bne_iff_ne,ne_eq,beq_iff_eq];done) | (intros;simp_all;done) | exact True.intro) ?_)
     have hz37:=Option.some.inj hz37;subst hz37
     refine And.intro rfl (Fit2.of (Zj hU rfl rfl ?_) (by omega))
     simp only [push_cast,seval,↓reduceIte,Za,c40,hN0,hN]
    replace hz37:=Zt c40 hz37
    rcases Bool.eq_false_or_eq_true (decide (65534 < x35.At)) with c41 | c41
    ·replace hz37:=Zu c41 hz37
     try rw [c41] at c40
     refine Zc Zd [none,none,none,none,none,none,none,some false,some false,some false,some false,some false,some false] ?_
     simp only [push_cast,seval,↓reduceIte,Za,c40,c41,hN0,hN]
     repeat (with_reducible refine And.intro (by first | (intro h0;simp only [h0,and_self];done) | (intro h0;simp only [h0,Bool.not_false,Bool.not_true,Bool.true_and,Bool.and_true,true_and,and_true,and_self,imp_self,implies_true,bne_iff_ne,ne_eq,beq_iff_eq];done) | (intros;simp_all;done) | exact True.intro) ?_)
     have hz37:=Option.some.inj hz37;subst hz37
     refine And.intro rfl (Fit2.of (Zj hU rfl rfl ?_) (by omega))
     simp only [push_cast,seval,↓reduceIte,Za,c40,c41,hN0,hN]
    replace hz37:=Zt c41 hz37
    try rw [c41] at c40
    rcases Bool.eq_false_or_eq_true (x35.E.Kind == 0) with c42 | c42
    ·replace hz37:=Zu c42 hz37
     try rw [c42] at c40
     try rw [c42] at c41
     refine Zc Zd [none,none,none,none,none,none,none,some false,some false,some false,some false,some false,some false] ?_
     simp only [push_cast,seval,↓reduceIte,Za,c40,c41,c42,hN0,hN]
     repeat (with_reducible refine And.intro (by first | (intro h0;simp only [h0,and_self];done) | (intro h0;simp only [h0,Bool.not_false,Bool.not_true,Bool.true_and,Bool.and_true,true_and,and_true,and_self,imp_self,implies_true,bne_iff_ne,ne_eq,beq_iff_eq];done) | (intros;simp_all;done) | exact True.intro) ?_)
     have hz37:=Option.some.inj hz37;subst hz37
     refine And.intro rfl (Fit2.of (Zj hU rfl rfl ?_) (by omega))
     simp only [push_cast,seval,↓reduceIte,Za,c40,c41,c42,hN0,hN]
    replace hz37:=Zt c42 hz37
    try rw [c42] at c40
    try rw [c42] at c41
    obtain ⟨y39,hy39,hz37⟩:=bC hz37
    refine Zc Zd [none,none,none,none,none,none,none,some true,some true,some true,some true,some true,some true] ?_
    simp only [push_cast,seval,↓reduceIte,Za,c40,c41,c42,hN0,hN]
    repeat (with_reducible refine And.intro (by first | (intro h0;simp only [h0,and_self];done) | (intro h0;simp only [h0,Bool.not_false,Bool.not_true,Bool.true_and,Bool.and_true,true_and,and_true,and_self,imp_self,implies_true,bne_iff_ne,ne_eq,beq_iff_eq];done) | (intros;simp_all;done) | exact True.intro) ?_)
    refine (Zas hy39).then ?_
    simp only [push_cast,seval,↓reduceIte,Za,c40,c41,c42,hN0,hN]
    repeat (with_reducible refine And.intro (by first | (intro h0;simp only [h0,and_self];done) | (intro h0;simp only [h0,Bool.not_false,Bool.not_true,Bool.true_and,Bool.and_true,true_and,and_true,and_self,imp_self,implies_true,bne_iff_ne,ne_eq,beq_iff_eq];done) | (intros;simp_all;done) | exact True.intro) ?_)
    have hz37:=Option.some.inj hz37;subst hz37
    refine And.intro rfl (Fit2.of (Zj hU rfl rfl ?_) (by omega))
    simp only [push_cast,seval,↓reduceIte,Za,c40,c41,c42,hN0,hN]
   refine Zv (t:=z37) rfl (fun c43 => ?_) (fun c43 => ?_)
   ·replace hs1_:=Zu c43 hs1_
    refine Zr [4] (Zc Zd [] ?_)
    simp only [push_cast,seval,↓reduceIte,Za,hN0,hN]
    refine Z4 ?_
    try simp only [Zk,Ze]
    have hs1_:=Option.some.inj hs1_;subst hs1_
    refine And.intro (fun h=>by cases h) (And.intro rfl (Fit2.of (Zj hU rfl rfl ?_) (by omega)))
    simp only [push_cast,seval,↓reduceIte,Za,hN0,hN]
   replace hs1_:=Zt c43 hs1_
   refine Zy ?_
   try simp only [Zk,Ze]
   refine Zl [1,2,8,9] [true,true] ?_
   simp only [push_cast,seval,↓reduceIte]
   refine Zc Zd [] ?_
   simp only [push_cast,seval,↓reduceIte,Za,hN0,hN]
   refine Zl [1,2,5,8] [true,false] ?_
   simp only [push_cast,seval,↓reduceIte]
   refine Zc Zd [] ?_
   simp only [push_cast,seval,↓reduceIte,Za,hN0,hN]
   have hs1_:=Option.some.inj hs1_;subst hs1_
   refine And.intro rfl (Fit2.of (Zj hU rfl rfl ?_) (by omega))
   simp only [push_cast,seval,↓reduceIte,Za,hN0,hN]
  replace hs1_:=Zt c44 hs1_
  refine Xp ?_
  try simp only [Zk,Ze,↓reduceIte,Nat.reduceEqDiff]
  have hs1_:=Option.some.inj hs1_;subst hs1_
  refine And.intro (fun h=>by cases h) (And.intro rfl (Fit2.of (Zj hU rfl rfl ?_) (by omega)))
  simp only [push_cast,seval,↓reduceIte,Za,hN0,hN]
 rcases z45 with z45 | z45
 ·dsimp only [Xw] at hw h
  refine Jc hw ?_
  try simp only [Zk,Ze,↓reduceIte,Nat.reduceEqDiff]
  have h:=Option.some.inj h;subst h
  refine Zs (.inr rfl) hU [.val (.bool false)] (by omega) ?_
  simp only [push_cast,seval,↓reduceIte,Za,Try.results39,hN0,hN]
 dsimp only [Xw] at hw h
 refine Yx hw ?_
 try simp only [Zk,Ze,↓reduceIte,Nat.reduceEqDiff]
 refine Zl [1,2] [true] ?_
 simp only [push_cast,seval,↓reduceIte]
 refine Zm ?_
 refine Zr [1,2,186] (Zc Zd [none,none,none,none,none,none,none,none] ?_)
 simp only [push_cast,seval,↓reduceIte,Za,hN0,hN]
 repeat (with_reducible refine And.intro (by first | (intro h0;simp only [h0,and_self];done) | (intro h0;simp only [h0,Bool.not_false,Bool.not_true,Bool.true_and,Bool.and_true,true_and,and_true,and_self,imp_self,implies_true,bne_iff_ne,ne_eq,beq_iff_eq];done) | (intros;simp_all;done) | exact True.intro) ?_)
 refine Zv (t:=(cond (a0.Kind == 3) (cond (decide (a0.List_ < 2)) true (decide (9 < a0.List_))) false)) rfl (fun c55 => ?_) (fun c55 => ?_)
 ·replace h:=Zu c55 h
  refine Zr [4] (Zc Zd [] ?_)
  simp only [push_cast,seval,↓reduceIte,Za,hN0,hN]
  refine Z4 ?_
  try simp only [Zk,Ze]
  have h:=Option.some.inj h;subst h
  refine Zs (.inr rfl) hU [.val (.bool false)] (by omega) ?_
  simp only [push_cast,seval,↓reduceIte,Za,Try.results39,hN0,hN]
 replace h:=Zt c55 h
 refine Zy ?_
 try simp only [Zk,Ze]
 refine Zl [1,2] [true] ?_
 simp only [push_cast,seval,↓reduceIte]
 refine Zm ?_
 refine Zr [1,2,10] (Zc Zd [] ?_)
 simp only [push_cast,seval,↓reduceIte,Za,hN0,hN]
 refine Zl [1,2,10] [true] ?_
 simp only [push_cast,seval,↓reduceIte]
 obtain ⟨z52,hz52,h⟩:=bC h
 refine U4 (J:=(Xw (fun z52=>JR n (⟨216,[],[(4,.val (.bool false))]⟩:Env) (Zx O n [none]) (n+1)) (fun z52=>JX 4 n (⟨216,[],[(2,.ref n 0)]⟩:Env) (Zx O n [some ⟨false,30,11,1,(Zh a0)⟩]) (n+1)))) (z:=z52) ?_ fun hw => ?_
 ·refine Xg hz52 (fun s2_=>⟨216,[],[(1,.val (.int .i64 a1)),(2,.ref n 0),(10,.val (.int .i64 s2_))]⟩) (fun s2_=>(Zx O n [some ⟨false,30,11,1,(Zh a0)⟩])) (Xw (fun z52=>JR n (⟨216,[],[(4,.val (.bool false))]⟩:Env) (Zx O n [none]) (n+1)) (fun z52=>JX 4 n (⟨216,[],[(2,.ref n 0)]⟩:Env) (Zx O n [some ⟨false,30,11,1,(Zh a0)⟩]) (n+1))) ?_
  intro s2_ x2_ hs2_
  unfold Qd at hs2_
  try dsimp only
  refine Zm ?_
  refine Zr [1,2,10,191] (Zc Zd [] ?_)
  simp only [push_cast,seval,↓reduceIte,Za,hN0,hN]
  refine Zv (t:=(decide (s2_ < (a0.Ops.length:Int)))) rfl (fun c51 => ?_) (fun c51 => ?_)
  ·replace hs2_:=Zu c51 hs2_
   refine Zy ?_
   try simp only [Zk,Ze]
   refine Zl [1,2,10] [true] ?_
   simp only [push_cast,seval,↓reduceIte]
   refine Zm ?_
   refine Ym ?_
   refine Zm ?_
   obtain ⟨x48,hx48,ax48,bx48,cx48,hs2_⟩:=bE (f:=Zg) Zda (fun _=>rfl) (by decide) hs2_
   obtain ⟨y49,hy49,hs2_⟩:=bC hs2_
   refine Kq Zd (by kernel_rfl) [] (by kernel_rfl) ?_
   simp only [push_cast,Nat.reduceAdd,Nat.reduceSub,Nat.reduceMul,Nat.reduceLeDiff,Nat.reduceLT,Nat.reduceEqDiff,↓reduceIte,reduceCtorEq,Int.reduceBEq,Int.reduceBNe,Nat.reduceBEq,Int.reduceLE,Int.reduceLT,Int.reduceEq,Int.reduceNe,Int.reduceNeg,Nat.reduceDiv,Nat.reduceMod,Nat.reducePow,Za,ax48,bx48,cx48,hN0,hN]
   refine PCall.of (Zf6 hy49) ?_
   simp only [push_cast,Nat.reduceAdd,Nat.reduceSub,Nat.reduceMul,Nat.reduceLeDiff,Nat.reduceLT,Nat.reduceEqDiff,↓reduceIte,reduceCtorEq,Int.reduceBEq,Int.reduceBNe,Nat.reduceBEq,Int.reduceLE,Int.reduceLT,Int.reduceEq,Int.reduceNe,Int.reduceNeg,Nat.reduceDiv,Nat.reduceMod,Nat.reducePow,Za,ax48,bx48,cx48,hN0,hN]
   refine Zl [1,2,10,204] [true] ?_
   simp only [push_cast,seval,↓reduceIte]
   refine Zv (t:=(!y49)) rfl (fun c50 => ?_) (fun c50 => ?_)
   ·replace hs2_:=Zu c50 hs2_
    refine Zr [4] (Zc Zd [] ?_)
    simp only [push_cast,seval,↓reduceIte,Za,hN0,hN]
    refine Z4 ?_
    try simp only [Zk,Ze]
    have hs2_:=Option.some.inj hs2_;subst hs2_
    refine And.intro (fun h=>by cases h) (And.intro rfl (Fit2.of (Zj hU rfl rfl ?_) (by omega)))
    simp only [push_cast,seval,↓reduceIte,Za,hN0,hN]
   replace hs2_:=Zt c50 hs2_
   refine Zy ?_
   try simp only [Zk,Ze]
   refine Zl [1,2,10] [true] ?_
   simp only [push_cast,seval,↓reduceIte]
   refine Zc Zd [] ?_
   simp only [push_cast,seval,↓reduceIte,Za,hN0,hN]
   have hs2_:=Option.some.inj hs2_;subst hs2_
   refine And.intro rfl (Fit2.of (Zj hU rfl rfl ?_) (by omega))
   simp only [push_cast,seval,↓reduceIte,Za,hN0,hN]
  replace hs2_:=Zt c51 hs2_
  refine Xp ?_
  try simp only [Zk,Ze,↓reduceIte,Nat.reduceEqDiff]
  have hs2_:=Option.some.inj hs2_;subst hs2_
  refine And.intro (fun h=>by cases h) (And.intro rfl (Fit2.of (Zj hU rfl rfl ?_) (by omega)))
  simp only [push_cast,seval,↓reduceIte,Za,hN0,hN]
 rcases z52 with z52 | z52
 ·dsimp only [Xw] at hw h
  refine Jc hw ?_
  try simp only [Zk,Ze,↓reduceIte,Nat.reduceEqDiff]
  have h:=Option.some.inj h;subst h
  refine Zs (.inr rfl) hU [.val (.bool false)] (by omega) ?_
  simp only [push_cast,seval,↓reduceIte,Za,Try.results39,hN0,hN]
 dsimp only [Xw] at hw h
 refine Yx hw ?_
 try simp only [Zk,Ze,↓reduceIte,Nat.reduceEqDiff]
 refine Zl [2] [true] ?_
 simp only [push_cast,seval,↓reduceIte]
 refine Zm ?_
 obtain ⟨y54,hy54,h⟩:=bC h
 refine Zc Zd [] ?_
 simp only [push_cast,seval,↓reduceIte,Za,hN0,hN]
 refine (Zd7 hy54).then ?_
 simp only [push_cast,seval,↓reduceIte,Za,hN0,hN]
 refine Zl [11,12] [false] ?_
 simp only [push_cast,seval,↓reduceIte]
 refine Zr [4] (Zc Zd [none,none] ?_)
 simp only [push_cast,seval,↓reduceIte,Za,hN0,hN]
 repeat (with_reducible refine And.intro (by first | (intro h0;simp only [h0,and_self];done) | (intro h0;simp only [h0,Bool.not_false,Bool.not_true,Bool.true_and,Bool.and_true,true_and,and_true,and_self,imp_self,implies_true,bne_iff_ne,ne_eq,beq_iff_eq];done) | (intros;simp_all;done) | exact True.intro) ?_)
 refine Z4 ?_
 try simp only [Zk,Ze]
 have h:=Option.some.inj h;subst h
 refine Zs (.inr rfl) hU [.val (.bool (cond (decide (y54.1 < 1048576)) (decide (y54.2 < 1048576)) false))] (by omega) ?_
 simp only [push_cast,seval,↓reduceIte,Za,Try.results39,hN0,hN]
theorem Zmg {Xm:(S_api_Edit→Int→Option Bool)} {Qp:(Int→S_api_Op→Int→Option Bool)} (Zas:∀ {a0:S_api_Edit} {a1:Int} {r:Bool} {O:Objs} {n:Nat},Xm a0 a1=some r→GTo Try.prog 39 [.agg (Zh a0),.val (.int .i64 a1)] O n (.val (.bool r)) O n) (Zf6:∀ {a0:Int} {a1:S_api_Op} {a2:Int} {r:Bool} {O:Objs} {n:Nat},Qp a0 a1 a2=some r→GTo Try.prog 69 [.val (.int .i64 a0),.agg (Z7 a1),.val (.int .i64 a2)] O n (.val (.bool r)) O n) {a0:Int} {a1:S_api_Op} {a2:Int} {r:Bool} {O:Objs} {n:Nat} (h:G0 Xm Qp a0 a1 a2=some r):GTo Try.prog 69 [.val (.int .i64 a0),.agg (Z7 a1),.val (.int .i64 a2)] O n (.val (.bool r)) O n:=by
 unfold G0 at h
 refine Y8 Zd Try.call69 Try.func69 rfl (Nat.le_of_ble_eq_true rfl) (Nat.le_refl _) fun hU => ?_
 have hN0:O n=none:=hU.fresh _ (Nat.le_refl _)
 have hN:∀ k,O (n+k)=none:=fun k=>hU.fresh _ (Nat.le_add_right _ _)
 show W _ _ _ _ ⟨121,[],[(0,.val (.int .i64 a0)),(1,.agg (Z7 a1)),(2,.val (.int .i64 a2))]⟩ (Zx O n []) _
 refine Zr [0,2,4] (Zc Zd [] ?_)
 simp only [push_cast,seval,↓reduceIte,Za,hN0,hN]
 refine Zm ?_
 refine Zr [0,2,4,10] (Zc Zd [] ?_)
 simp only [push_cast,seval,↓reduceIte,Za,hN0,hN]
 refine Zv (t:=(a1.Kind == 0)) rfl (fun c30 => ?_) (fun c30 => ?_)
 ·replace h:=Zu c30 h
  obtain ⟨z2,hz2,h⟩:=bC h
  refine Y6 (E':=⟨121,[],[(6,.val (.bool z2))]⟩) (O':=(Zx O n [none])) (n0:=(n+1)) ?_ ?_
  ·rcases Bool.eq_false_or_eq_true (decide (1≤a1.N)) with c5 | c5
   ·replace hz2:=Zu c5 hz2
    rcases Bool.eq_false_or_eq_true (decide (a1.N≤1048576)) with c6 | c6
    ·replace hz2:=Zu c6 hz2
     try rw [c6] at c5
     rcases Bool.eq_false_or_eq_true ((a1.L.length:Int) == 0) with c7 | c7
     ·replace hz2:=Zu c7 hz2
      try rw [c7] at c5
      try rw [c7] at c6
      obtain ⟨y4,hy4,hz2⟩:=bC hz2
      refine Zc Zd [none,none,none,none,none,none,none,some true,some true,some true] ?_
      simp only [push_cast,seval,↓reduceIte,Za,c5,c6,c7,hN0,hN]
      repeat (with_reducible refine And.intro (by first | (intro h0;simp only [h0,and_self];done) | (intro h0;simp only [h0,Bool.not_false,Bool.not_true,Bool.true_and,Bool.and_true,true_and,and_true,and_self,imp_self,implies_true,bne_iff_ne,ne_eq,beq_iff_eq];done) | (intros;simp_all;done) | exact True.intro) ?_)
      refine (Zf4 hy4).then ?_
      simp only [push_cast,seval,↓reduceIte,Za,c5,c6,c7,hN0,hN]
      repeat (with_reducible refine And.intro (by first | (intro h0;simp only [h0,and_self];done) | (intro h0;simp only [h0,Bool.not_false,Bool.not_true,Bool.true_and,Bool.and_true,true_and,and_true,and_self,imp_self,implies_true,bne_iff_ne,ne_eq,beq_iff_eq];done) | (intros;simp_all;done) | exact True.intro) ?_)
      have hz2:=Option.some.inj hz2;subst hz2
      refine And.intro rfl (Fit2.of (Zj hU rfl rfl ?_) (by omega))
      simp only [push_cast,seval,↓reduceIte,Za,c5,c6,c7,hN0,hN]
     replace hz2:=Zt c7 hz2
     try rw [c7] at c5
     try rw [c7] at c6
     refine Zc Zd [none,none,none,none,none,none,none,some false,some false,some false] ?_
     simp only [push_cast,seval,↓reduceIte,Za,c5,c6,c7,hN0,hN]
     repeat (with_reducible refine And.intro (by first | (intro h0;simp only [h0,and_self];done) | (intro h0;simp only [h0,Bool.not_false,Bool.not_true,Bool.true_and,Bool.and_true,true_and,and_true,and_self,imp_self,implies_true,bne_iff_ne,ne_eq,beq_iff_eq];done) | (intros;simp_all;done) | exact True.intro) ?_)
     have hz2:=Option.some.inj hz2;subst hz2
     refine And.intro rfl (Fit2.of (Zj hU rfl rfl ?_) (by omega))
     simp only [push_cast,seval,↓reduceIte,Za,c5,c6,c7,hN0,hN]
    replace hz2:=Zt c6 hz2
    try rw [c6] at c5
    refine Zc Zd [none,none,none,none,none,none,none,some false,some false,some false] ?_
    simp only [push_cast,seval,↓reduceIte,Za,c5,c6,hN0,hN]
    repeat (with_reducible refine And.intro (by first | (intro h0;simp only [h0,and_self];done) | (intro h0;simp only [h0,Bool.not_false,Bool.not_true,Bool.true_and,Bool.and_true,true_and,and_true,and_self,imp_self,implies_true,bne_iff_ne,ne_eq,beq_iff_eq];done) | (intros;simp_all;done) | exact True.intro) ?_)
    have hz2:=Option.some.inj hz2;subst hz2
    refine And.intro rfl (Fit2.of (Zj hU rfl rfl ?_) (by omega))
    simp only [push_cast,seval,↓reduceIte,Za,c5,c6,hN0,hN]
   replace hz2:=Zt c5 hz2
   refine Zc Zd [none,none,none,none,none,none,none,some false,some false,some false] ?_
   simp only [push_cast,seval,↓reduceIte,Za,c5,hN0,hN]
   repeat (with_reducible refine And.intro (by first | (intro h0;simp only [h0,and_self];done) | (intro h0;simp only [h0,Bool.not_false,Bool.not_true,Bool.true_and,Bool.and_true,true_and,and_true,and_self,imp_self,implies_true,bne_iff_ne,ne_eq,beq_iff_eq];done) | (intros;simp_all;done) | exact True.intro) ?_)
   have hz2:=Option.some.inj hz2;subst hz2
   refine And.intro rfl (Fit2.of (Zj hU rfl rfl ?_) (by omega))
   simp only [push_cast,seval,↓reduceIte,Za,c5,hN0,hN]
  refine Z4 ?_
  try simp only [Zk,Ze]
  have h:=Option.some.inj h;subst h
  refine Zs (.inr rfl) hU [.val (.bool z2)] (by omega) ?_
  simp only [push_cast,seval,↓reduceIte,Za,Try.results69,hN0,hN]
 replace h:=Zt c30 h
 refine Zy ?_
 try simp only [Zk,Ze]
 refine Zl [0,2,4] [true] ?_
 simp only [push_cast,seval,↓reduceIte]
 refine Zm ?_
 refine Zr [0,2,4,42] (Zc Zd [none,none,none,none,none,none] ?_)
 simp only [push_cast,seval,↓reduceIte,Za,hN0,hN]
 repeat (with_reducible refine And.intro (by first | (intro h0;simp only [h0,and_self];done) | (intro h0;simp only [h0,Bool.not_false,Bool.not_true,Bool.true_and,Bool.and_true,true_and,and_true,and_self,imp_self,implies_true,bne_iff_ne,ne_eq,beq_iff_eq];done) | (intros;simp_all;done) | exact True.intro) ?_)
 refine Zv (t:=(cond (cond (a1.N != 0) true (decide (a1.Kind < 0))) true (decide (3 < a1.Kind)))) rfl (fun c29 => ?_) (fun c29 => ?_)
 ·replace h:=Zu c29 h
  refine Zr [6] (Zc Zd [] ?_)
  simp only [push_cast,seval,↓reduceIte,Za,hN0,hN]
  refine Z4 ?_
  try simp only [Zk,Ze]
  have h:=Option.some.inj h;subst h
  refine Zs (.inr rfl) hU [.val (.bool false)] (by omega) ?_
  simp only [push_cast,seval,↓reduceIte,Za,Try.results69,hN0,hN]
 replace h:=Zt c29 h
 refine Zy ?_
 try simp only [Zk,Ze]
 refine Zl [0,2,4] [true] ?_
 simp only [push_cast,seval,↓reduceIte]
 refine Zm ?_
 refine Zr [0,2,4,45] (Zc Zd [] ?_)
 simp only [push_cast,seval,↓reduceIte,Za,hN0,hN]
 refine Zv (t:=(decide (a1.Kind < 3))) rfl (fun c28 => ?_) (fun c28 => ?_)
 ·replace h:=Zu c28 h
  refine Zm ?_
  refine Zr [0,4,7] (Zc Zd [] ?_)
  simp only [push_cast,seval,↓reduceIte,Za,hN0,hN]
  refine Zl [0,4,7] [true] ?_
  simp only [push_cast,seval,↓reduceIte]
  obtain ⟨z14,hz14,h⟩:=bC h
  refine U4 (J:=(Xw (fun z14=>JR n (⟨121,[],[(6,.val (.bool false))]⟩:Env) (Zx O n [none]) (n+1)) (fun z14=>JX 0 n (⟨121,[],[(4,.ref n 0)]⟩:Env) (Zx O n [some ⟨false,69,14,1,(Z7 a1)⟩]) (n+1)))) (z:=z14) ?_ fun hw => ?_
  ·refine Xg hz14 (fun s0_=>⟨121,[],[(0,.val (.int .i64 a0)),(4,.ref n 0),(7,.val (.int .i64 s0_))]⟩) (fun s0_=>(Zx O n [some ⟨false,69,14,1,(Z7 a1)⟩])) (Xw (fun z14=>JR n (⟨121,[],[(6,.val (.bool false))]⟩:Env) (Zx O n [none]) (n+1)) (fun z14=>JX 0 n (⟨121,[],[(4,.ref n 0)]⟩:Env) (Zx O n [some ⟨false,69,14,1,(Z7 a1)⟩]) (n+1))) ?_
   intro s0_ x0_ hs0_
   unfold Vr at hs0_
   try dsimp only
   refine Zm ?_
   refine Zr [0,4,7,50] (Zc Zd [] ?_)
   simp only [push_cast,seval,↓reduceIte,Za,hN0,hN]
   refine Zv (t:=(decide (s0_ < (a1.L.length:Int)))) rfl (fun c13 => ?_) (fun c13 => ?_)
   ·replace hs0_:=Zu c13 hs0_
    refine Zy ?_
    try simp only [Zk,Ze]
    refine Zl [0,4,7] [true] ?_
    simp only [push_cast,seval,↓reduceIte]
    refine Zm ?_
    refine Ym ?_
    refine Zm ?_
    obtain ⟨l10,al10,bl10,cl10,gl10,hs0_⟩:=bS (lo:=(some (.i64,s0_))) (hi:=(some (.i64,(IntKind.i64.wrap (s0_+1))))) (f:=Zb) rfl rfl Zer Vm (fun _=>rfl) hs0_
    obtain ⟨y11,hy11,hs0_⟩:=bC hs0_
    refine Zc Zd [] ?_
    simp only [push_cast,seval,↓reduceIte,Za,al10,bl10,cl10,gl10,hN0,hN]
    refine GCalls.argsW ?_ ((Vj hy11).then ?_)
    ·simp only [push_cast,seval,↓reduceIte,Za,al10,bl10,cl10,gl10,hN0,hN]
    simp only [push_cast,seval,↓reduceIte,Za,al10,bl10,cl10,gl10,hN0,hN]
    refine Zl [0,4,7,62] [true] ?_
    simp only [push_cast,seval,↓reduceIte]
    refine Zv (t:=(!y11)) rfl (fun c12 => ?_) (fun c12 => ?_)
    ·replace hs0_:=Zu c12 hs0_
     refine Zr [6] (Zc Zd [] ?_)
     simp only [push_cast,seval,↓reduceIte,Za,hN0,hN]
     refine Z4 ?_
     try simp only [Zk,Ze]
     have hs0_:=Option.some.inj hs0_;subst hs0_
     refine And.intro (fun h=>by cases h) (And.intro rfl (Fit2.of (Zj hU rfl rfl ?_) (by omega)))
     simp only [push_cast,seval,↓reduceIte,Za,hN0,hN]
    replace hs0_:=Zt c12 hs0_
    refine Zy ?_
    try simp only [Zk,Ze]
    refine Zl [0,4,7] [true] ?_
    simp only [push_cast,seval,↓reduceIte]
    refine Zc Zd [] ?_
    simp only [push_cast,seval,↓reduceIte,Za,hN0,hN]
    have hs0_:=Option.some.inj hs0_;subst hs0_
    refine And.intro rfl (Fit2.of (Zj hU rfl rfl ?_) (by omega))
    simp only [push_cast,seval,↓reduceIte,Za,hN0,hN]
   replace hs0_:=Zt c13 hs0_
   refine Xp ?_
   try simp only [Zk,Ze,↓reduceIte,Nat.reduceEqDiff]
   have hs0_:=Option.some.inj hs0_;subst hs0_
   refine And.intro (fun h=>by cases h) (And.intro rfl (Fit2.of (Zj hU rfl rfl ?_) (by omega)))
   simp only [push_cast,seval,↓reduceIte,Za,hN0,hN]
  rcases z14 with z14 | z14
  ·dsimp only [Xw] at hw h
   refine Jc hw ?_
   try simp only [Zk,Ze,↓reduceIte,Nat.reduceEqDiff]
   have h:=Option.some.inj h;subst h
   refine Zs (.inr rfl) hU [.val (.bool false)] (by omega) ?_
   simp only [push_cast,seval,↓reduceIte,Za,Try.results69,hN0,hN]
  dsimp only [Xw] at hw h
  refine Yx hw ?_
  try simp only [Zk,Ze,↓reduceIte,Nat.reduceEqDiff]
  refine Zl [4] [true] ?_
  simp only [push_cast,seval,↓reduceIte]
  obtain ⟨z16,hz16,h⟩:=bC h
  refine Y6 (E':=⟨121,[],[(6,.val (.bool z16))]⟩) (O':=(Zx O n [none])) (n0:=(n+1)) ?_ ?_
  ·rcases Bool.eq_false_or_eq_true (decide (0 < (a1.L.length:Int))) with c19 | c19
   ·replace hz16:=Zu c19 hz16
    obtain ⟨y18,hy18,hz16⟩:=bC hz16
    refine Zc Zd [some true,some true,some true] ?_
    simp only [push_cast,seval,↓reduceIte,Za,c19,hN0,hN]
    refine (Zf4 hy18).then ?_
    simp only [push_cast,seval,↓reduceIte,Za,c19,hN0,hN]
    have hz16:=Option.some.inj hz16;subst hz16
    refine And.intro rfl (Fit2.of (Zj hU rfl rfl ?_) (by omega))
    simp only [push_cast,seval,↓reduceIte,Za,c19,hN0,hN]
   replace hz16:=Zt c19 hz16
   refine Zc Zd [some false,some false,some false] ?_
   simp only [push_cast,seval,↓reduceIte,Za,c19,hN0,hN]
   have hz16:=Option.some.inj hz16;subst hz16
   refine And.intro rfl (Fit2.of (Zj hU rfl rfl ?_) (by omega))
   simp only [push_cast,seval,↓reduceIte,Za,c19,hN0,hN]
  refine Z4 ?_
  try simp only [Zk,Ze]
  have h:=Option.some.inj h;subst h
  refine Zs (.inr rfl) hU [.val (.bool z16)] (by omega) ?_
  simp only [push_cast,seval,↓reduceIte,Za,Try.results69,hN0,hN]
 replace h:=Zt c28 h
 refine Zy ?_
 try simp only [Zk,Ze]
 refine Zl [0,2,4] [true] ?_
 simp only [push_cast,seval,↓reduceIte]
 refine Zm ?_
 obtain ⟨z21,hz21,h⟩:=bC h
 refine Y6 (E':=⟨121,[],[(0,.val (.int .i64 a0)),(4,.ref n 0),(92,.val (.bool z21))]⟩) (O':=(Zx O n [some ⟨false,69,14,1,(Z7 a1)⟩])) (n0:=(n+1)) ?_ ?_
 ·rcases Bool.eq_false_or_eq_true (decide (0 < (a1.L.length:Int))) with c24 | c24
  ·replace hz21:=Zu c24 hz21
   refine Zc Zd [none,none,none,none,none,none,some false,some false,some false,some false,some false] ?_
   simp only [push_cast,seval,↓reduceIte,Za,c24,hN0,hN]
   repeat (with_reducible refine And.intro (by first | (intro h0;simp only [h0,and_self];done) | (intro h0;simp only [h0,Bool.not_false,Bool.not_true,Bool.true_and,Bool.and_true,true_and,and_true,and_self,imp_self,implies_true,bne_iff_ne,ne_eq,beq_iff_eq];done) | (intros;simp_all;done) | exact True.intro) ?_)
   have hz21:=Option.some.inj hz21;subst hz21
   refine And.intro rfl (Fit2.of (Zj hU rfl rfl ?_) (by omega))
   simp only [push_cast,seval,↓reduceIte,Za,c24,hN0,hN]
  replace hz21:=Zt c24 hz21
  rcases Bool.eq_false_or_eq_true (a1.E.Kind == 0) with c25 | c25
  ·replace hz21:=Zu c25 hz21
   try rw [c25] at c24
   refine Zc Zd [none,none,none,none,none,none,some false,some false,some false,some false,some false] ?_
   simp only [push_cast,seval,↓reduceIte,Za,c24,c25,hN0,hN]
   repeat (with_reducible refine And.intro (by first | (intro h0;simp only [h0,and_self];done) | (intro h0;simp only [h0,Bool.not_false,Bool.not_true,Bool.true_and,Bool.and_true,true_and,and_true,and_self,imp_self,implies_true,bne_iff_ne,ne_eq,beq_iff_eq];done) | (intros;simp_all;done) | exact True.intro) ?_)
   have hz21:=Option.some.inj hz21;subst hz21
   refine And.intro rfl (Fit2.of (Zj hU rfl rfl ?_) (by omega))
   simp only [push_cast,seval,↓reduceIte,Za,c24,c25,hN0,hN]
  replace hz21:=Zt c25 hz21
  try rw [c25] at c24
  rcases Bool.eq_false_or_eq_true (decide (a0≤7)) with c26 | c26
  ·replace hz21:=Zu c26 hz21
   try rw [c26] at c24
   try rw [c26] at c25
   refine Zc Zd [none,none,none,none,none,none,some false,some false,some false,some false,some false] ?_
   simp only [push_cast,seval,↓reduceIte,Za,c24,c25,c26,hN0,hN]
   repeat (with_reducible refine And.intro (by first | (intro h0;simp only [h0,and_self];done) | (intro h0;simp only [h0,Bool.not_false,Bool.not_true,Bool.true_and,Bool.and_true,true_and,and_true,and_self,imp_self,implies_true,bne_iff_ne,ne_eq,beq_iff_eq];done) | (intros;simp_all;done) | exact True.intro) ?_)
   have hz21:=Option.some.inj hz21;subst hz21
   refine And.intro rfl (Fit2.of (Zj hU rfl rfl ?_) (by omega))
   simp only [push_cast,seval,↓reduceIte,Za,c24,c25,c26,hN0,hN]
  replace hz21:=Zt c26 hz21
  try rw [c26] at c24
  try rw [c26] at c25
  obtain ⟨y23,hy23,hz21⟩:=bC hz21
  refine Zc Zd [none,none,none,none,none,none,some true,some true,some true,some true,some true] ?_
  simp only [push_cast,seval,↓reduceIte,Za,c24,c25,c26,hN0,hN]
  repeat (with_reducible refine And.intro (by first | (intro h0;simp only [h0,and_self];done) | (intro h0;simp only [h0,Bool.not_false,Bool.not_true,Bool.true_and,Bool.and_true,true_and,and_true,and_self,imp_self,implies_true,bne_iff_ne,ne_eq,beq_iff_eq];done) | (intros;simp_all;done) | exact True.intro) ?_)
  refine (Zas hy23).then ?_
  simp only [push_cast,seval,↓reduceIte,Za,c24,c25,c26,hN0,hN]
  repeat (with_reducible refine And.intro (by first | (intro h0;simp only [h0,and_self];done) | (intro h0;simp only [h0,Bool.not_false,Bool.not_true,Bool.true_and,Bool.and_true,true_and,and_true,and_self,imp_self,implies_true,bne_iff_ne,ne_eq,beq_iff_eq];done) | (intros;simp_all;done) | exact True.intro) ?_)
  have hz21:=Option.some.inj hz21;subst hz21
  refine And.intro rfl (Fit2.of (Zj hU rfl rfl ?_) (by omega))
  simp only [push_cast,seval,↓reduceIte,Za,c24,c25,c26,hN0,hN]
 refine Zv (t:=z21) rfl (fun c27 => ?_) (fun c27 => ?_)
 ·replace h:=Zu c27 h
  refine Zr [6] (Zc Zd [] ?_)
  simp only [push_cast,seval,↓reduceIte,Za,hN0,hN]
  refine Z4 ?_
  try simp only [Zk,Ze]
  have h:=Option.some.inj h;subst h
  refine Zs (.inr rfl) hU [.val (.bool false)] (by omega) ?_
  simp only [push_cast,seval,↓reduceIte,Za,Try.results69,hN0,hN]
 replace h:=Zt c27 h
 refine Zy ?_
 try simp only [Zk,Ze]
 refine Zl [0,4] [true] ?_
 simp only [push_cast,seval,↓reduceIte]
 refine Zr [6] (Zc Zd [none,none,none,none,none,none,none,none,none,none,none,none,none,none,none,none,none,none,none,none,none,none] ?_)
 simp only [push_cast,seval,↓reduceIte,Za,hN0,hN]
 repeat (with_reducible refine And.intro (by first | (intro h0;simp only [h0,and_self];done) | (intro h0;simp only [h0,Bool.not_false,Bool.not_true,Bool.true_and,Bool.and_true,true_and,and_true,and_self,imp_self,implies_true,bne_iff_ne,ne_eq,beq_iff_eq];done) | (intros;simp_all;done) | exact True.intro) ?_)
 refine Z4 ?_
 try simp only [Zk,Ze]
 have h:=Option.some.inj h;subst h
 refine Zs (.inr rfl) hU [.val (.bool (cond (cond (a0 == 8) true (a1.E.Kind == 2)) true (cond (cond (a1.E.Kind == 1) (a1.E.Old.Kind == 1) false) (a1.E.New.Kind == 1) false)))] (by omega) ?_
 simp only [push_cast,seval,↓reduceIte,Za,Try.results69,hN0,hN]
theorem Zh7:∀ k,(∀ {a0:S_api_Edit} {a1:Int} {r:Bool} {O:Objs} {n:Nat},(Yk k).1 a0 a1=some r→GTo Try.prog 39 [.agg (Zh a0),.val (.int .i64 a1)] O n (.val (.bool r)) O n)∧(∀ {a0:Int} {a1:S_api_Op} {a2:Int} {r:Bool} {O:Objs} {n:Nat},(Yk k).2 a0 a1 a2=some r→GTo Try.prog 69 [.val (.int .i64 a0),.agg (Z7 a1),.val (.int .i64 a2)] O n (.val (.bool r)) O n):=fun k=>by
 induction k with
 | zero=>exact ⟨@fun a0 a1 r O n h=>(nomatch (show (none:Option _)=some _ from h)),@fun a0 a1 a2 r O n h=>(nomatch (show (none:Option _)=some _ from h))⟩
 | succ k ih=>exact ⟨@fun a0 a1 r O n h=>Zjh (ih.1) (ih.2)  h,@fun a0 a1 a2 r O n h=>Zmg (ih.1) (ih.2)  h⟩
theorem Zfk {a0:S_api_Edit} {a1:Int} {r:Bool} {O:Objs} {n:Nat} (h:Zc1 a0 a1=some r):GTo Try.prog 39 [.agg (Zh a0),.val (.int .i64 a1)] O n (.val (.bool r)) O n:=by
 obtain ⟨k,hk⟩:=Uh h
 exact (Zh7 k).1  hk
theorem Zjg {X6:(S_api_Edit→Option Bool)} (Zd9:∀ {a0:S_api_Edit} {r:Bool} {O:Objs} {n:Nat},X6 a0=some r→GTo Try.prog 50 [.agg (Zh a0)] O n (.val (.bool r)) O n) {a0:S_api_Edit} {r:Bool} {O:Objs} {n:Nat} (h:Vp X6 a0=some r):GTo Try.prog 50 [.agg (Zh a0)] O n (.val (.bool r)) O n:=by
 unfold Vp at h
 refine Y8 Zd Try.call50 Try.func50 rfl (Nat.le_of_ble_eq_true rfl) (Nat.le_refl _) fun hU => ?_
 have hN0:O n=none:=hU.fresh _ (Nat.le_refl _)
 have hN:∀ k,O (n+k)=none:=fun k=>hU.fresh _ (Nat.le_add_right _ _)
 show W _ _ _ _ ⟨48,[],[(0,.agg (Zh a0))]⟩ (Zx O n []) _
 refine Zr [1] (Zc Zd [] ?_)
 simp only [push_cast,seval,↓reduceIte,Za,hN0,hN]
 refine Zm ?_
 obtain ⟨y2,hy2,h⟩:=bC h
 refine Zc Zd [] ?_
 simp only [push_cast,seval,↓reduceIte,Za,hN0,hN]
 refine (Zd7 hy2).then ?_
 simp only [push_cast,seval,↓reduceIte,Za,hN0,hN]
 refine Zl [1,3,4] [true] ?_
 simp only [push_cast,seval,↓reduceIte]
 refine Zm ?_
 refine Zr [1,17] (Zc Zd [none,none] ?_)
 simp only [push_cast,seval,↓reduceIte,Za,hN0,hN]
 repeat (with_reducible refine And.intro (by first | (intro h0;simp only [h0,and_self];done) | (intro h0;simp only [h0,Bool.not_false,Bool.not_true,Bool.true_and,Bool.and_true,true_and,and_true,and_self,imp_self,implies_true,bne_iff_ne,ne_eq,beq_iff_eq];done) | (intros;simp_all;done) | exact True.intro) ?_)
 refine Zv (t:=(cond (decide (2000 < y2.1)) true (decide (2000 < y2.2)))) rfl (fun c21 => ?_) (fun c21 => ?_)
 ·replace h:=Zu c21 h
  refine Zr [2] (Zc Zd [] ?_)
  simp only [push_cast,seval,↓reduceIte,Za,hN0,hN]
  refine Z4 ?_
  try simp only [Zk,Ze]
  have h:=Option.some.inj h;subst h
  refine Zs (.inr rfl) hU [.val (.bool false)] (by omega) ?_
  simp only [push_cast,seval,↓reduceIte,Za,Try.results50,hN0,hN]
 replace h:=Zt c21 h
 refine Zy ?_
 try simp only [Zk,Ze]
 refine Zl [1] [true] ?_
 simp only [push_cast,seval,↓reduceIte]
 refine Zm ?_
 refine Zr [1,5] (Zc Zd [] ?_)
 simp only [push_cast,seval,↓reduceIte,Za,hN0,hN]
 refine Zl [1,5] [true] ?_
 simp only [push_cast,seval,↓reduceIte]
 obtain ⟨z11,hz11,h⟩:=bC h
 refine U4 (J:=(Xw (fun z11=>JR n (⟨48,[],[(2,.val (.bool false))]⟩:Env) (Zx O n [none]) (n+1)) (fun z11=>JX 0 n (⟨48,[],[(1,.ref n 0)]⟩:Env) (Zx O n [some ⟨false,30,11,1,(Zh a0)⟩]) (n+1)))) (z:=z11) ?_ fun hw => ?_
 ·refine Xg hz11 (fun s0_=>⟨48,[],[(1,.ref n 0),(5,.val (.int .i64 s0_))]⟩) (fun s0_=>(Zx O n [some ⟨false,30,11,1,(Zh a0)⟩])) (Xw (fun z11=>JR n (⟨48,[],[(2,.val (.bool false))]⟩:Env) (Zx O n [none]) (n+1)) (fun z11=>JX 0 n (⟨48,[],[(1,.ref n 0)]⟩:Env) (Zx O n [some ⟨false,30,11,1,(Zh a0)⟩]) (n+1))) ?_
  intro s0_ x0_ hs0_
  unfold J9 at hs0_
  try dsimp only
  refine Zm ?_
  refine Zr [1,5,22] (Zc Zd [] ?_)
  simp only [push_cast,seval,↓reduceIte,Za,hN0,hN]
  refine Zv (t:=(decide (s0_ < (a0.Kids.length:Int)))) rfl (fun c10 => ?_) (fun c10 => ?_)
  ·replace hs0_:=Zu c10 hs0_
   refine Zy ?_
   try simp only [Zk,Ze]
   refine Zl [1,5] [true] ?_
   simp only [push_cast,seval,↓reduceIte]
   refine Zm ?_
   refine Ym ?_
   refine Zm ?_
   obtain ⟨x6,hx6,ax6,bx6,cx6,hs0_⟩:=bE (f:=Zn) Zmv (fun _=>rfl) (by decide) hs0_
   have g7:=Zc6 (f:=Zn) (off:=1) (sz:=12) Zrj (fun _=>rfl) (by decide) (by decide) hx6
   obtain ⟨y8,hy8,hs0_⟩:=bC hs0_
   refine Zc Zd [] ?_
   simp only [push_cast,Nat.reduceAdd,Nat.reduceSub,Nat.reduceMul,Nat.reduceLeDiff,Nat.reduceLT,Nat.reduceEqDiff,↓reduceIte,reduceCtorEq,Int.reduceBEq,Int.reduceBNe,Nat.reduceBEq,Int.reduceLE,Int.reduceLT,Int.reduceEq,Int.reduceNe,Int.reduceNeg,Nat.reduceDiv,Nat.reduceMod,Nat.reducePow,Za,ax6,bx6,cx6,g7,hN0,hN]
   refine (Zd9 hy8).then ?_
   simp only [push_cast,Nat.reduceAdd,Nat.reduceSub,Nat.reduceMul,Nat.reduceLeDiff,Nat.reduceLT,Nat.reduceEqDiff,↓reduceIte,reduceCtorEq,Int.reduceBEq,Int.reduceBNe,Nat.reduceBEq,Int.reduceLE,Int.reduceLT,Int.reduceEq,Int.reduceNe,Int.reduceNeg,Nat.reduceDiv,Nat.reduceMod,Nat.reducePow,Za,ax6,bx6,cx6,g7,hN0,hN]
   refine Zl [1,5,32] [true] ?_
   simp only [push_cast,seval,↓reduceIte]
   refine Zv (t:=(!y8)) rfl (fun c9 => ?_) (fun c9 => ?_)
   ·replace hs0_:=Zu c9 hs0_
    refine Zr [2] (Zc Zd [] ?_)
    simp only [push_cast,seval,↓reduceIte,Za,hN0,hN]
    refine Z4 ?_
    try simp only [Zk,Ze]
    have hs0_:=Option.some.inj hs0_;subst hs0_
    refine And.intro (fun h=>by cases h) (And.intro rfl (Fit2.of (Zj hU rfl rfl ?_) (by omega)))
    simp only [push_cast,seval,↓reduceIte,Za,hN0,hN]
   replace hs0_:=Zt c9 hs0_
   refine Zy ?_
   try simp only [Zk,Ze]
   refine Zl [1,5] [true] ?_
   simp only [push_cast,seval,↓reduceIte]
   refine Zc Zd [] ?_
   simp only [push_cast,seval,↓reduceIte,Za,hN0,hN]
   have hs0_:=Option.some.inj hs0_;subst hs0_
   refine And.intro rfl (Fit2.of (Zj hU rfl rfl ?_) (by omega))
   simp only [push_cast,seval,↓reduceIte,Za,hN0,hN]
  replace hs0_:=Zt c10 hs0_
  refine Xp ?_
  try simp only [Zk,Ze,↓reduceIte,Nat.reduceEqDiff]
  have hs0_:=Option.some.inj hs0_;subst hs0_
  refine And.intro (fun h=>by cases h) (And.intro rfl (Fit2.of (Zj hU rfl rfl ?_) (by omega)))
  simp only [push_cast,seval,↓reduceIte,Za,hN0,hN]
 rcases z11 with z11 | z11
 ·dsimp only [Xw] at hw h
  refine Jc hw ?_
  try simp only [Zk,Ze,↓reduceIte,Nat.reduceEqDiff]
  have h:=Option.some.inj h;subst h
  refine Zs (.inr rfl) hU [.val (.bool false)] (by omega) ?_
  simp only [push_cast,seval,↓reduceIte,Za,Try.results50,hN0,hN]
 dsimp only [Xw] at hw h
 refine Yx hw ?_
 try simp only [Zk,Ze,↓reduceIte,Nat.reduceEqDiff]
 refine Zl [1] [true] ?_
 simp only [push_cast,seval,↓reduceIte]
 refine Zm ?_
 refine Zr [1,6] (Zc Zd [] ?_)
 simp only [push_cast,seval,↓reduceIte,Za,hN0,hN]
 refine Zl [1,6] [true] ?_
 simp only [push_cast,seval,↓reduceIte]
 obtain ⟨z20,hz20,h⟩:=bC h
 refine U4 (J:=(Xw (fun z20=>JR n (⟨48,[],[(2,.val (.bool false))]⟩:Env) (Zx O n [none]) (n+1)) (fun z20=>JX 2 n (⟨48,[],[]⟩:Env) (Zx O n [none]) (n+1)))) (z:=z20) ?_ fun hw => ?_
 ·refine Xg hz20 (fun s1_=>⟨48,[],[(1,.ref n 0),(6,.val (.int .i64 s1_))]⟩) (fun s1_=>(Zx O n [some ⟨false,30,11,1,(Zh a0)⟩])) (Xw (fun z20=>JR n (⟨48,[],[(2,.val (.bool false))]⟩:Env) (Zx O n [none]) (n+1)) (fun z20=>JX 2 n (⟨48,[],[]⟩:Env) (Zx O n [none]) (n+1))) ?_
  intro s1_ x1_ hs1_
  unfold Ka at hs1_
  try dsimp only
  refine Zm ?_
  refine Zr [1,6,37] (Zc Zd [] ?_)
  simp only [push_cast,seval,↓reduceIte,Za,hN0,hN]
  refine Zv (t:=(decide (s1_ < (a0.Ops.length:Int)))) rfl (fun c19 => ?_) (fun c19 => ?_)
  ·replace hs1_:=Zu c19 hs1_
   refine Zy ?_
   try simp only [Zk,Ze]
   refine Zl [1,6] [true] ?_
   simp only [push_cast,seval,↓reduceIte]
   refine Zm ?_
   refine Ym ?_
   refine Zm ?_
   obtain ⟨x15,hx15,ax15,bx15,cx15,hs1_⟩:=bE (f:=Zg) Zda (fun _=>rfl) (by decide) hs1_
   have g16:=Zc6 (f:=Zg) (off:=3) (sz:=14) Zrj (fun _=>rfl) (by decide) (by decide) hx15
   obtain ⟨y17,hy17,hs1_⟩:=bC hs1_
   refine Zc Zd [] ?_
   simp only [push_cast,Nat.reduceAdd,Nat.reduceSub,Nat.reduceMul,Nat.reduceLeDiff,Nat.reduceLT,Nat.reduceEqDiff,↓reduceIte,reduceCtorEq,Int.reduceBEq,Int.reduceBNe,Nat.reduceBEq,Int.reduceLE,Int.reduceLT,Int.reduceEq,Int.reduceNe,Int.reduceNeg,Nat.reduceDiv,Nat.reduceMod,Nat.reducePow,Za,ax15,bx15,cx15,g16,hN0,hN]
   refine (Zd9 hy17).then ?_
   simp only [push_cast,Nat.reduceAdd,Nat.reduceSub,Nat.reduceMul,Nat.reduceLeDiff,Nat.reduceLT,Nat.reduceEqDiff,↓reduceIte,reduceCtorEq,Int.reduceBEq,Int.reduceBNe,Nat.reduceBEq,Int.reduceLE,Int.reduceLT,Int.reduceEq,Int.reduceNe,Int.reduceNeg,Nat.reduceDiv,Nat.reduceMod,Nat.reducePow,Za,ax15,bx15,cx15,g16,hN0,hN]
   refine Zl [1,6,47] [true] ?_
   simp only [push_cast,seval,↓reduceIte]
   refine Zv (t:=(!y17)) rfl (fun c18 => ?_) (fun c18 => ?_)
   ·replace hs1_:=Zu c18 hs1_
    refine Zr [2] (Zc Zd [] ?_)
    simp only [push_cast,seval,↓reduceIte,Za,hN0,hN]
    refine Z4 ?_
    try simp only [Zk,Ze]
    have hs1_:=Option.some.inj hs1_;subst hs1_
    refine And.intro (fun h=>by cases h) (And.intro rfl (Fit2.of (Zj hU rfl rfl ?_) (by omega)))
    simp only [push_cast,seval,↓reduceIte,Za,hN0,hN]
   replace hs1_:=Zt c18 hs1_
   refine Zy ?_
   try simp only [Zk,Ze]
   refine Zl [1,6] [true] ?_
   simp only [push_cast,seval,↓reduceIte]
   refine Zc Zd [] ?_
   simp only [push_cast,seval,↓reduceIte,Za,hN0,hN]
   have hs1_:=Option.some.inj hs1_;subst hs1_
   refine And.intro rfl (Fit2.of (Zj hU rfl rfl ?_) (by omega))
   simp only [push_cast,seval,↓reduceIte,Za,hN0,hN]
  replace hs1_:=Zt c19 hs1_
  refine Xp ?_
  try simp only [Zk,Ze,↓reduceIte,Nat.reduceEqDiff]
  have hs1_:=Option.some.inj hs1_;subst hs1_
  refine And.intro (fun h=>by cases h) (And.intro rfl (Fit2.of (Zj hU rfl rfl ?_) (by omega)))
  simp only [push_cast,seval,↓reduceIte,Za,hN0,hN]
 rcases z20 with z20 | z20
 ·dsimp only [Xw] at hw h
  refine Jc hw ?_
  try simp only [Zk,Ze,↓reduceIte,Nat.reduceEqDiff]
  have h:=Option.some.inj h;subst h
  refine Zs (.inr rfl) hU [.val (.bool false)] (by omega) ?_
  simp only [push_cast,seval,↓reduceIte,Za,Try.results50,hN0,hN]
 dsimp only [Xw] at hw h
 refine Yx hw ?_
 try simp only [Zk,Ze,↓reduceIte,Nat.reduceEqDiff]
 refine Zl [] [false] ?_
 simp only [push_cast,seval,↓reduceIte]
 refine Zr [2] (Zc Zd [] ?_)
 simp only [push_cast,seval,↓reduceIte,Za,hN0,hN]
 refine Z4 ?_
 try simp only [Zk,Ze]
 have h:=Option.some.inj h;subst h
 refine Zs (.inr rfl) hU [.val (.bool true)] (by omega) ?_
 simp only [push_cast,seval,↓reduceIte,Za,Try.results50,hN0,hN]
theorem Zh6:∀ k,(∀ {a0:S_api_Edit} {r:Bool} {O:Objs} {n:Nat},(Qt k) a0=some r→GTo Try.prog 50 [.agg (Zh a0)] O n (.val (.bool r)) O n):=fun k=>by
 induction k with
 | zero=>exact @fun a0 r O n h=>(nomatch (show (none:Option _)=some _ from h))
 | succ k ih=>exact @fun a0 r O n h=>Zjg (ih)  h
theorem Zkg {a0:S_api_Edit} {r:Bool} {O:Objs} {n:Nat} (h:Zc0 a0=some r):GTo Try.prog 50 [.agg (Zh a0)] O n (.val (.bool r)) O n:=by
 obtain ⟨k,hk⟩:=Uh h
 exact (Zh6 k)  hk
theorem Zc2 {a0:S_api_Edit} {r:Bool} {O:Objs} {n:Nat} (h:Uk a0=some r):GTo Try.prog 15 [.agg (Zh a0)] O n (.val (.bool r)) O n:=by
 unfold Uk at h
 refine Y8 Zd Try.call15 Try.func15 rfl (Nat.le_of_ble_eq_true rfl) (Nat.le_refl _) fun hU => ?_
 have hN0:O n=none:=hU.fresh _ (Nat.le_refl _)
 have hN:∀ k,O (n+k)=none:=fun k=>hU.fresh _ (Nat.le_add_right _ _)
 show W _ _ _ _ ⟨13,[],[(0,.agg (Zh a0))]⟩ (Zx O n []) _
 refine Zr [1] (Zc Zd [] ?_)
 simp only [push_cast,seval,↓reduceIte,Za,hN0,hN]
 obtain ⟨z4,hz4,h⟩:=bC h
 refine Y6 (E':=⟨13,[],[(2,.val (.bool z4))]⟩) (O':=(Zx O n [none])) (n0:=(n+1)) ?_ ?_
 ·obtain ⟨y8,hy8,hz4⟩:=bC hz4
  rcases Bool.eq_false_or_eq_true y8 with c11 | c11
  ·replace hz4:=Zu c11 hz4
   obtain ⟨y9,hy9,hz4⟩:=bC hz4
   rcases Bool.eq_false_or_eq_true y9 with c12 | c12
   ·replace hz4:=Zu c12 hz4
    try rw [c12] at c11
    obtain ⟨y10,hy10,hz4⟩:=bC hz4
    refine Zc Zd [some true,some true,some true,some true] ?_
    simp only [push_cast,seval,↓reduceIte,Za,c11,c12,hN0,hN]
    refine (Zdu hy8).then ?_
    simp only [push_cast,seval,↓reduceIte,Za,c11,c12,hN0,hN]
    refine (Zfk hy9).then ?_
    simp only [push_cast,seval,↓reduceIte,Za,c11,c12,hN0,hN]
    refine (Zkg hy10).then ?_
    simp only [push_cast,seval,↓reduceIte,Za,c11,c12,hN0,hN]
    have hz4:=Option.some.inj hz4;subst hz4
    refine And.intro rfl (Fit2.of (Zj hU rfl rfl ?_) (by omega))
    simp only [push_cast,seval,↓reduceIte,Za,c11,c12,hN0,hN]
   replace hz4:=Zt c12 hz4
   try rw [c12] at c11
   refine Zc Zd [some true,some true,some false,some false] ?_
   simp only [push_cast,seval,↓reduceIte,Za,c11,c12,hN0,hN]
   refine (Zdu hy8).then ?_
   simp only [push_cast,seval,↓reduceIte,Za,c11,c12,hN0,hN]
   refine (Zfk hy9).then ?_
   simp only [push_cast,seval,↓reduceIte,Za,c11,c12,hN0,hN]
   have hz4:=Option.some.inj hz4;subst hz4
   refine And.intro rfl (Fit2.of (Zj hU rfl rfl ?_) (by omega))
   simp only [push_cast,seval,↓reduceIte,Za,c11,c12,hN0,hN]
  replace hz4:=Zt c11 hz4
  refine Zc Zd [some false,some false,some false,some false] ?_
  simp only [push_cast,seval,↓reduceIte,Za,c11,hN0,hN]
  refine (Zdu hy8).then ?_
  simp only [push_cast,seval,↓reduceIte,Za,c11,hN0,hN]
  have hz4:=Option.some.inj hz4;subst hz4
  refine And.intro rfl (Fit2.of (Zj hU rfl rfl ?_) (by omega))
  simp only [push_cast,seval,↓reduceIte,Za,c11,hN0,hN]
 refine Z4 ?_
 try simp only [Zk,Ze]
 have h:=Option.some.inj h;subst h
 refine Zs (.inr rfl) hU [.val (.bool z4)] (by omega) ?_
 simp only [push_cast,seval,↓reduceIte,Za,Try.results15,hN0,hN]
theorem Zgz {a0:S_api_Tree} {r:Bool} {O:Objs} {n:Nat} (h:Gc a0=some r):GTo Try.prog 21 [.agg (Zf a0)] O n (.val (.bool r)) O n:=by
 unfold Gc at h
 refine Y8 Zd Try.call21 Try.func21 rfl (Nat.le_of_ble_eq_true rfl) (Nat.le_refl _) fun hU => ?_
 have hN0:O n=none:=hU.fresh _ (Nat.le_refl _)
 have hN:∀ k,O (n+k)=none:=fun k=>hU.fresh _ (Nat.le_add_right _ _)
 show W _ _ _ _ ⟨6,[],[(0,.agg (Zf a0))]⟩ (Zx O n []) _
 refine Zr [1] (Zc Zd [] ?_)
 simp only [push_cast,seval,↓reduceIte,Za,hN0,hN]
 refine Zm ?_
 obtain ⟨y2,hy2,h⟩:=bC h
 refine Zc Zd [] ?_
 simp only [push_cast,seval,↓reduceIte,Za,hN0,hN]
 refine (V4 hy2).then ?_
 simp only [push_cast,seval,↓reduceIte,Za,hN0,hN]
 refine Zl [2] [false] ?_
 simp only [push_cast,seval,↓reduceIte]
 refine Z4 ?_
 try simp only [Zk,Ze]
 have h:=Option.some.inj h;subst h
 refine Zs (.inr rfl) hU [.val (.bool (decide (0≤y2)))] (by omega) ?_
 simp only [push_cast,seval,↓reduceIte,Za,Try.results21,hN0,hN]
theorem K2 {a0:Zw} {r:Zw} {O:Objs} {n:Nat} {i0 j0_0 j0_1 j0_2:Nat} (hi0:i0 < n) (Vl:j0_0 < n) (Zey:j0_1 < n) (Zgv:j0_2 < n) (Q4:i0≠j0_0) (Vx:i0≠j0_1) (Gr:i0≠j0_2) (Vw:j0_0≠j0_1) (Gp:j0_0≠j0_2) (Gq:j0_1≠j0_2) (ho0:O i0=some ⟨false,110,4,1,[.row j0_2 a0.out.length,.val (.int .i64 a0.kept),.row j0_0 a0.gone.length,.row j0_1 a0.come.length]⟩) (Vy:O j0_0=some ⟨true,25,3,a0.gone.length,fl Zb a0.gone⟩) (Zfx:O j0_1=some ⟨true,25,3,a0.come.length,fl Zb a0.come⟩) (Zh4:O j0_2=some ⟨true,69,14,a0.out.length,fl Zg a0.out⟩) (h:Xr a0=some r):GTo Try.prog 87 [.ref i0 0] O n (.tup []) (Zx ((((O.upd j0_0 none).upd j0_1 none).upd j0_2 none).upd i0 (some ⟨false,110,4,1,[.row (n+2) r.out.length,.val (.int .i64 r.kept),.row n r.gone.length,.row (n+1) r.come.length]⟩)) n [some ⟨true,25,3,r.gone.length,fl Zb r.gone⟩,some ⟨true,25,3,r.come.length,fl Zb r.come⟩,some ⟨true,69,14,r.out.length,fl Zg r.out⟩]) (n+3):=by
 unfold Xr at h
 refine Y8 Zd Try.call87 Try.func87 rfl (Nat.le_of_ble_eq_true rfl) (by omega) fun hU => ?_
 have e0:=Jj (ba:=n) (E:=⟨73,[],Zd4 0 [.ref i0 0]⟩) (O:=(Zx O n [])) (n:=n) (i:=i0) (j:=j0_0) (k:=2) (len:=a0.gone.length) (q:=⟨false,110,4,1,[.row j0_2 a0.out.length,.val (.int .i64 a0.kept),.row j0_0 a0.gone.length,.row j0_1 a0.come.length]⟩) (qj:=⟨true,25,3,a0.gone.length,fl Zb a0.gone⟩) (by rw [Yo _ hi0];first | exact ho0 | exact Yh _ _ _) rfl (by rw [Yo _ Vl];exact Vy) Q4 (by omega)
 simp only [Yu _ _ Vl,Yu _ _ hi0,Xj,Y2,X9,Gh Q4,List.set_cons_zero,List.set_cons_succ,List.cons_append,List.nil_append,List.length_cons,List.length_nil,Nat.zero_add,Nat.reduceAdd,Nat.add_assoc] at e0
 refine Ku e0 ?_
 have e1:=Jj (ba:=n) (E:=⟨73,[],Zd4 0 [.ref i0 0]⟩) (O:=(Zx ((O.upd j0_0 none).upd i0 (some ⟨false,110,4,1,[.row j0_2 a0.out.length,.val (.int .i64 a0.kept),.row n a0.gone.length,.row j0_1 a0.come.length]⟩)) n [some ⟨true,25,3,a0.gone.length,fl Zb a0.gone⟩])) (n:=(n+1)) (i:=i0) (j:=j0_1) (k:=3) (len:=a0.come.length) (q:=⟨false,110,4,1,[.row j0_2 a0.out.length,.val (.int .i64 a0.kept),.row n a0.gone.length,.row j0_1 a0.come.length]⟩) (qj:=⟨true,25,3,a0.come.length,fl Zb a0.come⟩) (by rw [Yo _ hi0];first | exact ho0 | exact Yh _ _ _) rfl (by rw [Yo _ Zey,Y3 _ _ (Ne.symm Vx),Y3 _ _ (Ne.symm Vw)];exact Zfx) Vx (by omega)
 simp only [Yu _ _ Zey,Yu _ _ hi0,Xj,Y2,X9,Gh Vx,List.set_cons_zero,List.set_cons_succ,List.cons_append,List.nil_append,List.length_cons,List.length_nil,Nat.zero_add,Nat.reduceAdd,Nat.add_assoc] at e1
 refine Ku e1 ?_
 have e2:=Jj (ba:=n) (E:=⟨73,[],Zd4 0 [.ref i0 0]⟩) (O:=(Zx (((O.upd j0_0 none).upd j0_1 none).upd i0 (some ⟨false,110,4,1,[.row j0_2 a0.out.length,.val (.int .i64 a0.kept),.row n a0.gone.length,.row (n+1) a0.come.length]⟩)) n [some ⟨true,25,3,a0.gone.length,fl Zb a0.gone⟩,some ⟨true,25,3,a0.come.length,fl Zb a0.come⟩])) (n:=(n+2)) (i:=i0) (j:=j0_2) (k:=0) (len:=a0.out.length) (q:=⟨false,110,4,1,[.row j0_2 a0.out.length,.val (.int .i64 a0.kept),.row n a0.gone.length,.row (n+1) a0.come.length]⟩) (qj:=⟨true,69,14,a0.out.length,fl Zg a0.out⟩) (by rw [Yo _ hi0];first | exact ho0 | exact Yh _ _ _) rfl (by rw [Yo _ Zgv,Y3 _ _ (Ne.symm Gr),Y3 _ _ (Ne.symm Gq),Y3 _ _ (Ne.symm Gp)];exact Zh4) Gr (by omega)
 simp only [Yu _ _ Zgv,Yu _ _ hi0,Xj,Y2,X9,Gh Gr,List.set_cons_zero,List.set_cons_succ,List.cons_append,List.nil_append,List.length_cons,List.length_nil,Nat.zero_add,Nat.reduceAdd,Nat.add_assoc] at e2
 refine Ku e2 ?_
 have hU:=(Und.drop (Und.drop (Und.drop hU j0_0) j0_1) j0_2)
 have hk0:∀ k,i0 < n+k:=fun k=>by omega
 have hN0:∀ o,Objs.upd (((O.upd j0_0 none).upd j0_1 none).upd j0_2 none) i0 o n=none:=fun o=>Q3 hU hi0 _ (Nat.le_refl _)
 have hN:∀ o k,Objs.upd (((O.upd j0_0 none).upd j0_1 none).upd j0_2 none) i0 o (n+k)=none:=fun o k=>Q3 hU hi0 _ (Nat.le_add_right _ _)
 show W _ _ _ _ ⟨73,[],[(0,.ref i0 0)]⟩ (Zx ((((O.upd j0_0 none).upd j0_1 none).upd j0_2 none).upd i0 (some ⟨false,110,4,1,[.row (n+2) a0.out.length,.val (.int .i64 a0.kept),.row n a0.gone.length,.row (n+1) a0.come.length]⟩)) n [some ⟨true,25,3,a0.gone.length,fl Zb a0.gone⟩,some ⟨true,25,3,a0.come.length,fl Zb a0.come⟩,some ⟨true,69,14,a0.out.length,fl Zg a0.out⟩]) _
 obtain ⟨z1,hz1,h⟩:=bC h
 refine Y6 (E':=⟨73,[],[(0,.ref i0 0)]⟩) (O':=(Zx ((((O.upd j0_0 none).upd j0_1 none).upd j0_2 none).upd i0 (some ⟨false,110,4,1,[.row (n+2) z1.length,.val (.int .i64 a0.kept),.row n a0.gone.length,.row (n+1) a0.come.length]⟩)) n [some ⟨true,25,3,a0.gone.length,fl Zb a0.gone⟩,some ⟨true,25,3,a0.come.length,fl Zb a0.come⟩,some ⟨true,69,14,z1.length,fl Zg z1⟩,none])) (n0:=(n+4)) ?_ ?_
 ·refine Zr [0,6] (Zc Zd [] ?_)
  simp only [push_cast,seval,↓reduceIte,Za,hi0,hk0,hN0,hN]
  refine Zv (t:=(decide (0 < a0.kept))) rfl (fun c5 => ?_) (fun c5 => ?_)
  ·replace hz1:=Zu c5 hz1
   obtain ⟨l2,pl2,ql2,el2,hz1⟩:=bA (k:=1) rfl hz1
   obtain ⟨x3,hx3,ax3,bx3,cx3,hz1⟩:=bE (f:=Zg) Zda (fun _=>rfl) (by decide) hz1
   have gu4:Js (fl Zg a0.out++[.val (.int .i64 0),.val (.int .i64 0),.val (.slice none 0 0),.val (.int .i64 0),.val (.int .i64 0),.val (.slice none 0 0),.val (.slice none 0 0),.val (.int .i64 0),.val (.slice none 0 0),.val (.slice none 0 0),.val (.slice none 0 0),.val (.slice none 0 0),.val (.int .i64 0),.val (.slice none 0 0)]) [.val (.int .i64 0),.val (.int .i64 a0.kept),.val (.slice none 0 0),.val (.int .i64 0),.val (.int .i64 0),.val (.slice none 0 0),.val (.slice none 0 0),.val (.int .i64 0),.val (.slice none 0 0),.val (.slice none 0 0),.val (.slice none 0 0),.val (.slice none 0 0),.val (.int .i64 0),.val (.slice none 0 0)] (List.length a0.out * 14)=some (fl Zg a0.out++[.val (.int .i64 0),.val (.int .i64 a0.kept),.val (.slice none 0 0),.val (.int .i64 0),.val (.int .i64 0),.val (.slice none 0 0),.val (.slice none 0 0),.val (.int .i64 0),.val (.slice none 0 0),.val (.slice none 0 0),.val (.slice none 0 0),.val (.slice none 0 0),.val (.int .i64 0),.val (.slice none 0 0)]):=Gi (f:=Zg) (sz:=14) (fun _=>rfl) rfl rfl
   refine Zcs Zd (by kernel_rfl) [.low,.low,.low,.low,.low,.low,.low,.low,.low,.low,.pass,.bar,.shp,.fill true,.shp,.shp,.fill false] (fun i=>i < (n+3)) [0,1,2,3,4,5,6,7,8,9,10,11,12,13,14,15,16] [.low,.low,.low,.low,.low,.low,.low,.low,.low,.low,.pass,.bar,.shp,.fill true,.shp,.shp,.fill false] [] (by kernel_rfl) rfl ?_
   simp only [push_cast,Nat.reduceAdd,Nat.reduceSub,Nat.reduceMul,Nat.reduceLeDiff,Nat.reduceLT,Nat.reduceEqDiff,↓reduceIte,reduceCtorEq,Int.reduceBEq,Int.reduceBNe,Nat.reduceBEq,Int.reduceLE,Int.reduceLT,Int.reduceEq,Int.reduceNe,Int.reduceNeg,Nat.reduceDiv,Nat.reduceMod,Nat.reducePow,Za,pl2,ql2,el2,ax3,bx3,cx3,gu4,hi0,hk0,hN0,hN]
   repeat (with_reducible refine And.intro (by first | omega | exact Xe rfl | exact Y0 | exact J7 rfl rfl) ?_)
   have hz1:=Option.some.inj hz1;subst hz1
   refine And.intro rfl (Fit2.of (Yg hU rfl rfl ?_) (by omega))
   simp only [push_cast,Nat.reduceAdd,Nat.reduceSub,Nat.reduceMul,Nat.reduceLeDiff,Nat.reduceLT,Nat.reduceEqDiff,↓reduceIte,reduceCtorEq,Int.reduceBEq,Int.reduceBNe,Nat.reduceBEq,Int.reduceLE,Int.reduceLT,Int.reduceEq,Int.reduceNe,Int.reduceNeg,Nat.reduceDiv,Nat.reduceMod,Nat.reducePow,Za,pl2,ql2,el2,ax3,bx3,cx3,gu4,hi0,hk0,hN0,hN]
  replace hz1:=Zt c5 hz1
  refine Zy ?_
  try simp only [Zk,Ze]
  have hz1:=Option.some.inj hz1;subst hz1
  refine And.intro rfl (Fit2.of (Yg hU rfl rfl ?_) (by omega))
  simp only [push_cast,seval,↓reduceIte,Za,hi0,hk0,hN0,hN]
 obtain ⟨z6,hz6,h⟩:=bC h
 refine Y6 (E':=⟨73,[],[(0,.ref i0 0)]⟩) (O':=(Zx ((((O.upd j0_0 none).upd j0_1 none).upd j0_2 none).upd i0 (some ⟨false,110,4,1,[.row (n+2) z6.1.length,.val (.int .i64 a0.kept),.sl z6.2.length (fl Zb z6.2),.row (n+1) a0.come.length]⟩)) n [none,some ⟨true,25,3,a0.come.length,fl Zb a0.come⟩,some ⟨true,69,14,z6.1.length,fl Zg z6.1⟩,none,none])) (n0:=(n+5)) ?_ ?_
 ·refine Zr [0,27] (Zc Zd [] ?_)
  simp only [push_cast,seval,↓reduceIte,Za,hi0,hk0,hN0,hN]
  refine Zv (t:=(decide (0 < (a0.gone.length:Int)))) rfl (fun c12 => ?_) (fun c12 => ?_)
  ·replace hz6:=Zu c12 hz6
   refine Zhg ⟨73,[],[(0,.ref i0 0)]⟩ (Zx ((((O.upd j0_0 none).upd j0_1 none).upd j0_2 none).upd i0 (some ⟨false,110,4,1,[.row (n+2) z1.length,.val (.int .i64 a0.kept),.sl a0.gone.length (fl Zb a0.gone),.row (n+1) a0.come.length]⟩)) n [none,some ⟨true,25,3,a0.come.length,fl Zb a0.come⟩,some ⟨true,69,14,z1.length,fl Zg z1⟩,none]) (Yg hU rfl rfl ?_) ?_
   ·simp only [push_cast,seval,↓reduceIte,Za,hi0,hk0,hN0,hN]
   obtain ⟨l9,pl9,ql9,el9,hz6⟩:=bA (k:=1) rfl hz6
   obtain ⟨x10,hx10,ax10,bx10,cx10,hz6⟩:=bE (f:=Zg) Zda (fun _=>rfl) (by decide) hz6
   have gu11:Js (fl Zg z1++[.val (.int .i64 0),.val (.int .i64 0),.val (.slice none 0 0),.val (.int .i64 0),.val (.int .i64 0),.val (.slice none 0 0),.val (.slice none 0 0),.val (.int .i64 0),.val (.slice none 0 0),.val (.slice none 0 0),.val (.slice none 0 0),.val (.slice none 0 0),.val (.int .i64 0),.val (.slice none 0 0)]) [.val (.int .i64 1),.val (.int .i64 0),.sl a0.gone.length (fl Zb a0.gone),.val (.int .i64 0),.val (.int .i64 0),.val (.slice none 0 0),.val (.slice none 0 0),.val (.int .i64 0),.val (.slice none 0 0),.val (.slice none 0 0),.val (.slice none 0 0),.val (.slice none 0 0),.val (.int .i64 0),.val (.slice none 0 0)] (List.length z1 * 14)=some (fl Zg z1++[.val (.int .i64 1),.val (.int .i64 0),.sl a0.gone.length (fl Zb a0.gone),.val (.int .i64 0),.val (.int .i64 0),.val (.slice none 0 0),.val (.slice none 0 0),.val (.int .i64 0),.val (.slice none 0 0),.val (.slice none 0 0),.val (.slice none 0 0),.val (.slice none 0 0),.val (.int .i64 0),.val (.slice none 0 0)]):=Gi (f:=Zg) (sz:=14) (fun _=>rfl) rfl rfl
   refine Zcs Zd (by kernel_rfl) [.low,.low,.low,.low,.low,.low,.low,.low,.low,.low,.pass,.bar,.shp,.fill true,.shp,.shp,.fill false] (fun i=>i < (n+4)) [0,1,2,3,4,5,6,7,8,9,10,11,12,13,14,15,16] [.low,.low,.low,.low,.low,.low,.low,.low,.low,.low,.pass,.bar,.shp,.fill true,.shp,.shp,.fill false] [] (by kernel_rfl) rfl ?_
   simp only [push_cast,Nat.reduceAdd,Nat.reduceSub,Nat.reduceMul,Nat.reduceLeDiff,Nat.reduceLT,Nat.reduceEqDiff,↓reduceIte,reduceCtorEq,Int.reduceBEq,Int.reduceBNe,Nat.reduceBEq,Int.reduceLE,Int.reduceLT,Int.reduceEq,Int.reduceNe,Int.reduceNeg,Nat.reduceDiv,Nat.reduceMod,Nat.reducePow,Za,pl9,ql9,el9,ax10,bx10,cx10,gu11,hi0,hk0,hN0,hN]
   repeat (with_reducible refine And.intro (by first | omega | exact Xe rfl | exact Y0 | exact J7 rfl rfl) ?_)
   have hz6:=Option.some.inj hz6;subst hz6
   refine And.intro rfl (Fit2.of (Yg hU rfl rfl ?_) (by omega))
   simp only [push_cast,Nat.reduceAdd,Nat.reduceSub,Nat.reduceMul,Nat.reduceLeDiff,Nat.reduceLT,Nat.reduceEqDiff,↓reduceIte,reduceCtorEq,Int.reduceBEq,Int.reduceBNe,Nat.reduceBEq,Int.reduceLE,Int.reduceLT,Int.reduceEq,Int.reduceNe,Int.reduceNeg,Nat.reduceDiv,Nat.reduceMod,Nat.reducePow,Za,pl9,ql9,el9,ax10,bx10,cx10,gu11,hi0,hk0,hN0,hN]
  replace hz6:=Zt c12 hz6
  refine Zy ?_
  try simp only [Zk,Ze]
  have hz6:=Option.some.inj hz6;subst hz6
  refine And.intro rfl (Fit2.of (Yg hU rfl rfl ?_) (by omega))
  simp only [push_cast,seval,↓reduceIte,Za,hi0,hk0,hN0,hN]
 obtain ⟨z13,hz13,h⟩:=bC h
 refine Y6 (E':=⟨73,[],[(0,.ref i0 0)]⟩) (O':=(Zx ((((O.upd j0_0 none).upd j0_1 none).upd j0_2 none).upd i0 (some ⟨false,110,4,1,[.row (n+2) z13.1.length,.val (.int .i64 a0.kept),.sl z6.2.length (fl Zb z6.2),.sl z13.2.length (fl Zb z13.2)]⟩)) n [none,none,some ⟨true,69,14,z13.1.length,fl Zg z13.1⟩,none,none,none])) (n0:=(n+6)) ?_ ?_
 ·refine Zr [0,48] (Zc Zd [] ?_)
  simp only [push_cast,seval,↓reduceIte,Za,hi0,hk0,hN0,hN]
  refine Zv (t:=(decide (0 < (a0.come.length:Int)))) rfl (fun c19 => ?_) (fun c19 => ?_)
  ·replace hz13:=Zu c19 hz13
   refine Zhg ⟨73,[],[(0,.ref i0 0)]⟩ (Zx ((((O.upd j0_0 none).upd j0_1 none).upd j0_2 none).upd i0 (some ⟨false,110,4,1,[.row (n+2) z6.1.length,.val (.int .i64 a0.kept),.sl z6.2.length (fl Zb z6.2),.sl a0.come.length (fl Zb a0.come)]⟩)) n [none,none,some ⟨true,69,14,z6.1.length,fl Zg z6.1⟩,none,none]) (Yg hU rfl rfl ?_) ?_
   ·simp only [push_cast,seval,↓reduceIte,Za,hi0,hk0,hN0,hN]
   obtain ⟨l16,pl16,ql16,el16,hz13⟩:=bA (k:=1) rfl hz13
   obtain ⟨x17,hx17,ax17,bx17,cx17,hz13⟩:=bE (f:=Zg) Zda (fun _=>rfl) (by decide) hz13
   have gu18:Js (fl Zg z6.1++[.val (.int .i64 0),.val (.int .i64 0),.val (.slice none 0 0),.val (.int .i64 0),.val (.int .i64 0),.val (.slice none 0 0),.val (.slice none 0 0),.val (.int .i64 0),.val (.slice none 0 0),.val (.slice none 0 0),.val (.slice none 0 0),.val (.slice none 0 0),.val (.int .i64 0),.val (.slice none 0 0)]) [.val (.int .i64 2),.val (.int .i64 0),.sl a0.come.length (fl Zb a0.come),.val (.int .i64 0),.val (.int .i64 0),.val (.slice none 0 0),.val (.slice none 0 0),.val (.int .i64 0),.val (.slice none 0 0),.val (.slice none 0 0),.val (.slice none 0 0),.val (.slice none 0 0),.val (.int .i64 0),.val (.slice none 0 0)] (List.length z6.1 * 14)=some (fl Zg z6.1++[.val (.int .i64 2),.val (.int .i64 0),.sl a0.come.length (fl Zb a0.come),.val (.int .i64 0),.val (.int .i64 0),.val (.slice none 0 0),.val (.slice none 0 0),.val (.int .i64 0),.val (.slice none 0 0),.val (.slice none 0 0),.val (.slice none 0 0),.val (.slice none 0 0),.val (.int .i64 0),.val (.slice none 0 0)]):=Gi (f:=Zg) (sz:=14) (fun _=>rfl) rfl rfl
   refine Zcs Zd (by kernel_rfl) [.low,.low,.low,.low,.low,.low,.low,.low,.low,.low,.pass,.bar,.shp,.fill true,.shp,.shp,.fill false] (fun i=>i < (n+5)) [0,1,2,3,4,5,6,7,8,9,10,11,12,13,14,15,16] [.low,.low,.low,.low,.low,.low,.low,.low,.low,.low,.pass,.bar,.shp,.fill true,.shp,.shp,.fill false] [] (by kernel_rfl) rfl ?_
   simp only [push_cast,Nat.reduceAdd,Nat.reduceSub,Nat.reduceMul,Nat.reduceLeDiff,Nat.reduceLT,Nat.reduceEqDiff,↓reduceIte,reduceCtorEq,Int.reduceBEq,Int.reduceBNe,Nat.reduceBEq,Int.reduceLE,Int.reduceLT,Int.reduceEq,Int.reduceNe,Int.reduceNeg,Nat.reduceDiv,Nat.reduceMod,Nat.reducePow,Za,pl16,ql16,el16,ax17,bx17,cx17,gu18,hi0,hk0,hN0,hN]
   repeat (with_reducible refine And.intro (by first | omega | exact Xe rfl | exact Y0 | exact J7 rfl rfl) ?_)
   have hz13:=Option.some.inj hz13;subst hz13
   refine And.intro rfl (Fit2.of (Yg hU rfl rfl ?_) (by omega))
   simp only [push_cast,Nat.reduceAdd,Nat.reduceSub,Nat.reduceMul,Nat.reduceLeDiff,Nat.reduceLT,Nat.reduceEqDiff,↓reduceIte,reduceCtorEq,Int.reduceBEq,Int.reduceBNe,Nat.reduceBEq,Int.reduceLE,Int.reduceLT,Int.reduceEq,Int.reduceNe,Int.reduceNeg,Nat.reduceDiv,Nat.reduceMod,Nat.reducePow,Za,pl16,ql16,el16,ax17,bx17,cx17,gu18,hi0,hk0,hN0,hN]
  replace hz13:=Zt c19 hz13
  refine Zy ?_
  try simp only [Zk,Ze]
  have hz13:=Option.some.inj hz13;subst hz13
  refine And.intro rfl (Fit2.of (Yg hU rfl rfl ?_) (by omega))
  simp only [push_cast,seval,↓reduceIte,Za,hi0,hk0,hN0,hN]
 refine Zc Zd [] ?_
 simp only [push_cast,seval,↓reduceIte,Za,hi0,hk0,hN0,hN]
 have h:=Option.some.inj h;subst h
 refine Jr (k:=3) (i:=i0) (q1:=⟨false,110,4,1,[.row (n+2) z13.1.length,.val (.int .i64 0),.row n ([]:List S_api_Tree).length,.row (n+1) ([]:List S_api_Tree).length]⟩) (L3:=[some ⟨true,25,3,([]:List S_api_Tree).length,fl Zb ([]:List S_api_Tree)⟩,some ⟨true,25,3,([]:List S_api_Tree).length,fl Zb ([]:List S_api_Tree)⟩,some ⟨true,69,14,z13.1.length,fl Zg z13.1⟩,none]) (E2:=(⟨73,[],[]⟩:Env)) (n3:=(n+4)) (.inl rfl) hU rfl [] ?_ ?_
 ·refine Fit2.trans (E':=(⟨73,[],[]⟩:Env)) (O':=(Zx ((((O.upd j0_0 none).upd j0_1 none).upd j0_2 none).upd i0 (some ⟨false,110,4,1,[.row (n+2) z13.1.length,.val (.int .i64 0),.val (.slice none 0 0),.val (.slice none 0 0)]⟩)) n [none,none,some ⟨true,69,14,z13.1.length,fl Zg z13.1⟩,none,none,none])) (n':=(n+6)) (Fit2.of (Yg hU rfl rfl ?_) (by omega)) ?_
  ·simp only [push_cast,seval,↓reduceIte,Za,hi0,hk0,hN0,hN]
  refine Fit2.trans (E':=(⟨73,[],[]⟩:Env)) (O':=(Zx ((((O.upd j0_0 none).upd j0_1 none).upd j0_2 none).upd i0 (some ⟨false,110,4,1,[.row (n+2) z13.1.length,.val (.int .i64 0),.row (n+6) 0,.val (.slice none 0 0)]⟩)) n [none,none,some ⟨true,69,14,z13.1.length,fl Zg z13.1⟩,none,none,none,some ⟨true,25,3,0,[]⟩])) (n':=(n+7)) ?_ ?_
  ·have ha:=Za6 (ba:=n) (E:=(⟨73,[],[]⟩:Env)) (O:=(Zx ((((O.upd j0_0 none).upd j0_1 none).upd j0_2 none).upd i0 (some ⟨false,110,4,1,[.row (n+2) z13.1.length,.val (.int .i64 0),.val (.slice none 0 0),.val (.slice none 0 0)]⟩)) n [none,none,some ⟨true,69,14,z13.1.length,fl Zg z13.1⟩,none,none,none])) (n:=(n+6)) (p:=i0) (k:=2) (q:=⟨false,110,4,1,[.row (n+2) z13.1.length,.val (.int .i64 0),.val (.slice none 0 0),.val (.slice none 0 0)]⟩) 25 3 (by simp only [U3,Zdc,List.getElem?_cons_zero,List.getElem?_cons_succ,Option.join_some,Yh,Yo,hi0,hk0,hN0,hN]) rfl (by omega)
   simp only [Xj,Y2,Zcr,Za5,List.set_cons_zero,List.set_cons_succ,List.cons_append,List.nil_append,List.length_cons,List.length_nil,Nat.zero_add,Nat.reduceAdd,Nat.reduceLT,Nat.add_assoc,Yu,X9,hi0,hk0,hN0,hN] at ha
   exact ha
  refine Fit2.trans (E':=(⟨73,[],[]⟩:Env)) (O':=(Zx ((((O.upd j0_0 none).upd j0_1 none).upd j0_2 none).upd i0 (some ⟨false,110,4,1,[.row (n+2) z13.1.length,.val (.int .i64 0),.row (n+6) ([]:List S_api_Tree).length,.val (.slice none 0 0)]⟩)) n [none,none,some ⟨true,69,14,z13.1.length,fl Zg z13.1⟩,none,none,none,some ⟨true,25,3,([]:List S_api_Tree).length,fl Zb ([]:List S_api_Tree)⟩])) (n':=(n+7)) (Fit2.of (Yg hU rfl rfl ?_) (by omega)) ?_
  ·simp only [push_cast,seval,↓reduceIte,Za,hi0,hk0,hN0,hN]
  refine Fit2.trans (E':=(⟨73,[],[]⟩:Env)) (O':=(Zx ((((O.upd j0_0 none).upd j0_1 none).upd j0_2 none).upd i0 (some ⟨false,110,4,1,[.row (n+2) z13.1.length,.val (.int .i64 0),.row (n+6) ([]:List S_api_Tree).length,.row (n+7) 0]⟩)) n [none,none,some ⟨true,69,14,z13.1.length,fl Zg z13.1⟩,none,none,none,some ⟨true,25,3,0,[]⟩,some ⟨true,25,3,0,[]⟩])) (n':=(n+8)) ?_ ?_
  ·have ha:=Za6 (ba:=n) (E:=(⟨73,[],[]⟩:Env)) (O:=(Zx ((((O.upd j0_0 none).upd j0_1 none).upd j0_2 none).upd i0 (some ⟨false,110,4,1,[.row (n+2) z13.1.length,.val (.int .i64 0),.row (n+6) ([]:List S_api_Tree).length,.val (.slice none 0 0)]⟩)) n [none,none,some ⟨true,69,14,z13.1.length,fl Zg z13.1⟩,none,none,none,some ⟨true,25,3,([]:List S_api_Tree).length,fl Zb ([]:List S_api_Tree)⟩])) (n:=(n+7)) (p:=i0) (k:=3) (q:=⟨false,110,4,1,[.row (n+2) z13.1.length,.val (.int .i64 0),.row (n+6) ([]:List S_api_Tree).length,.val (.slice none 0 0)]⟩) 25 3 (by simp only [U3,Zdc,List.getElem?_cons_zero,List.getElem?_cons_succ,Option.join_some,Yh,Yo,hi0,hk0,hN0,hN]) rfl (by omega)
   simp only [Xj,Y2,Zcr,Za5,List.set_cons_zero,List.set_cons_succ,List.cons_append,List.nil_append,List.length_cons,List.length_nil,Nat.zero_add,Nat.reduceAdd,Nat.reduceLT,Nat.add_assoc,Yu,X9,hi0,hk0,hN0,hN] at ha
   exact ha
  refine Fit2.trans (E':=(⟨73,[],[]⟩:Env)) (O':=(Zx ((((O.upd j0_0 none).upd j0_1 none).upd j0_2 none).upd i0 (some ⟨false,110,4,1,[.row (n+2) z13.1.length,.val (.int .i64 0),.row (n+6) ([]:List S_api_Tree).length,.row (n+7) ([]:List S_api_Tree).length]⟩)) n [none,none,some ⟨true,69,14,z13.1.length,fl Zg z13.1⟩,none,none,none,some ⟨true,25,3,([]:List S_api_Tree).length,fl Zb ([]:List S_api_Tree)⟩,some ⟨true,25,3,([]:List S_api_Tree).length,fl Zb ([]:List S_api_Tree)⟩])) (n':=(n+8)) (Fit2.of (Yg hU rfl rfl ?_) (by omega)) ?_
  ·simp only [push_cast,seval,↓reduceIte,Za,hi0,hk0,hN0,hN]
  refine X8 (k:=8) (k':=4) hU [3,3,2,3,3,3,0,1] [6,7,2,0] rfl rfl rfl rfl ⟨rfl,rfl⟩ ?_
  simp only [push_cast,seval,↓reduceIte,Za,hi0,hk0,hN0,hN]
 simp only [push_cast,seval,↓reduceIte,Za,Try.results87,hi0,hk0,hN0,hN]
theorem Zd8 {a0:Zw} {a1:Int} {r:Zw} {O:Objs} {n:Nat} {i0 j0_0 j0_1 j0_2:Nat} (hi0:i0 < n) (Vl:j0_0 < n) (Zey:j0_1 < n) (Zgv:j0_2 < n) (Q4:i0≠j0_0) (Vx:i0≠j0_1) (Gr:i0≠j0_2) (Vw:j0_0≠j0_1) (Gp:j0_0≠j0_2) (Gq:j0_1≠j0_2) (ho0:O i0=some ⟨false,110,4,1,[.row j0_2 a0.out.length,.val (.int .i64 a0.kept),.row j0_0 a0.gone.length,.row j0_1 a0.come.length]⟩) (Vy:O j0_0=some ⟨true,25,3,a0.gone.length,fl Zb a0.gone⟩) (Zfx:O j0_1=some ⟨true,25,3,a0.come.length,fl Zb a0.come⟩) (Zh4:O j0_2=some ⟨true,69,14,a0.out.length,fl Zg a0.out⟩) (h:Jh a0 a1=some r):GTo Try.prog 84 [.ref i0 0,.val (.int .i64 a1)] O n (.tup []) (Zx ((((O.upd j0_0 none).upd j0_1 none).upd j0_2 none).upd i0 (some ⟨false,110,4,1,[.row (n+2) r.out.length,.val (.int .i64 r.kept),.row n r.gone.length,.row (n+1) r.come.length]⟩)) n [some ⟨true,25,3,r.gone.length,fl Zb r.gone⟩,some ⟨true,25,3,r.come.length,fl Zb r.come⟩,some ⟨true,69,14,r.out.length,fl Zg r.out⟩]) (n+3):=by
 unfold Jh at h
 refine Y8 Zd Try.call84 Try.func84 rfl (Nat.le_of_ble_eq_true rfl) (by omega) fun hU => ?_
 have e0:=Jj (ba:=n) (E:=⟨19,[],Zd4 0 [.ref i0 0,.val (.int .i64 a1)]⟩) (O:=(Zx O n [])) (n:=n) (i:=i0) (j:=j0_0) (k:=2) (len:=a0.gone.length) (q:=⟨false,110,4,1,[.row j0_2 a0.out.length,.val (.int .i64 a0.kept),.row j0_0 a0.gone.length,.row j0_1 a0.come.length]⟩) (qj:=⟨true,25,3,a0.gone.length,fl Zb a0.gone⟩) (by rw [Yo _ hi0];first | exact ho0 | exact Yh _ _ _) rfl (by rw [Yo _ Vl];exact Vy) Q4 (by omega)
 simp only [Yu _ _ Vl,Yu _ _ hi0,Xj,Y2,X9,Gh Q4,List.set_cons_zero,List.set_cons_succ,List.cons_append,List.nil_append,List.length_cons,List.length_nil,Nat.zero_add,Nat.reduceAdd,Nat.add_assoc] at e0
 refine Ku e0 ?_
 have e1:=Jj (ba:=n) (E:=⟨19,[],Zd4 0 [.ref i0 0,.val (.int .i64 a1)]⟩) (O:=(Zx ((O.upd j0_0 none).upd i0 (some ⟨false,110,4,1,[.row j0_2 a0.out.length,.val (.int .i64 a0.kept),.row n a0.gone.length,.row j0_1 a0.come.length]⟩)) n [some ⟨true,25,3,a0.gone.length,fl Zb a0.gone⟩])) (n:=(n+1)) (i:=i0) (j:=j0_1) (k:=3) (len:=a0.come.length) (q:=⟨false,110,4,1,[.row j0_2 a0.out.length,.val (.int .i64 a0.kept),.row n a0.gone.length,.row j0_1 a0.come.length]⟩) (qj:=⟨true,25,3,a0.come.length,fl Zb a0.come⟩) (by rw [Yo _ hi0];first | exact ho0 | exact Yh _ _ _) rfl (by rw [Yo _ Zey,Y3 _ _ (Ne.symm Vx),Y3 _ _ (Ne.symm Vw)];exact Zfx) Vx (by omega)
 simp only [Yu _ _ Zey,Yu _ _ hi0,Xj,Y2,X9,Gh Vx,List.set_cons_zero,List.set_cons_succ,List.cons_append,List.nil_append,List.length_cons,List.length_nil,Nat.zero_add,Nat.reduceAdd,Nat.add_assoc] at e1
 refine Ku e1 ?_
 have e2:=Jj (ba:=n) (E:=⟨19,[],Zd4 0 [.ref i0 0,.val (.int .i64 a1)]⟩) (O:=(Zx (((O.upd j0_0 none).upd j0_1 none).upd i0 (some ⟨false,110,4,1,[.row j0_2 a0.out.length,.val (.int .i64 a0.kept),.row n a0.gone.length,.row (n+1) a0.come.length]⟩)) n [some ⟨true,25,3,a0.gone.length,fl Zb a0.gone⟩,some ⟨true,25,3,a0.come.length,fl Zb a0.come⟩])) (n:=(n+2)) (i:=i0) (j:=j0_2) (k:=0) (len:=a0.out.length) (q:=⟨false,110,4,1,[.row j0_2 a0.out.length,.val (.int .i64 a0.kept),.row n a0.gone.length,.row (n+1) a0.come.length]⟩) (qj:=⟨true,69,14,a0.out.length,fl Zg a0.out⟩) (by rw [Yo _ hi0];first | exact ho0 | exact Yh _ _ _) rfl (by rw [Yo _ Zgv,Y3 _ _ (Ne.symm Gr),Y3 _ _ (Ne.symm Gq),Y3 _ _ (Ne.symm Gp)];exact Zh4) Gr (by omega)
 simp only [Yu _ _ Zgv,Yu _ _ hi0,Xj,Y2,X9,Gh Gr,List.set_cons_zero,List.set_cons_succ,List.cons_append,List.nil_append,List.length_cons,List.length_nil,Nat.zero_add,Nat.reduceAdd,Nat.add_assoc] at e2
 refine Ku e2 ?_
 have hU:=(Und.drop (Und.drop (Und.drop hU j0_0) j0_1) j0_2)
 have hk0:∀ k,i0 < n+k:=fun k=>by omega
 have hN0:∀ o,Objs.upd (((O.upd j0_0 none).upd j0_1 none).upd j0_2 none) i0 o n=none:=fun o=>Q3 hU hi0 _ (Nat.le_refl _)
 have hN:∀ o k,Objs.upd (((O.upd j0_0 none).upd j0_1 none).upd j0_2 none) i0 o (n+k)=none:=fun o k=>Q3 hU hi0 _ (Nat.le_add_right _ _)
 show W _ _ _ _ ⟨19,[],[(0,.ref i0 0),(1,.val (.int .i64 a1))]⟩ (Zx ((((O.upd j0_0 none).upd j0_1 none).upd j0_2 none).upd i0 (some ⟨false,110,4,1,[.row (n+2) a0.out.length,.val (.int .i64 a0.kept),.row n a0.gone.length,.row (n+1) a0.come.length]⟩)) n [some ⟨true,25,3,a0.gone.length,fl Zb a0.gone⟩,some ⟨true,25,3,a0.come.length,fl Zb a0.come⟩,some ⟨true,69,14,a0.out.length,fl Zg a0.out⟩]) _
 obtain ⟨z1,hz1,h⟩:=bC h
 refine Y6 (E':=⟨19,[],[(0,.ref i0 0),(1,.val (.int .i64 a1))]⟩) (O':=(Zx ((((O.upd j0_0 none).upd j0_1 none).upd j0_2 none).upd i0 (some ⟨false,110,4,1,[.row (n+6) z1.1.length,.val (.int .i64 z1.2.2.2),.row (n+7) z1.2.1.length,.row (n+8) z1.2.2.1.length]⟩)) n [none,none,none,none,none,none,some ⟨true,69,14,z1.1.length,fl Zg z1.1⟩,some ⟨true,25,3,z1.2.1.length,fl Zb z1.2.1⟩,some ⟨true,25,3,z1.2.2.1.length,fl Zb z1.2.2.1⟩])) (n0:=(n+9)) ?_ ?_
 ·refine Zr [0,1,8] (Zc Zd [] ?_)
  simp only [push_cast,seval,↓reduceIte,Za,hi0,hk0,hN0,hN]
  refine Zv (t:=(a0.kept == 0)) rfl (fun c3 => ?_) (fun c3 => ?_)
  ·replace hz1:=Zu c3 hz1
   obtain ⟨y2,hy2,hz1⟩:=bC hz1
   refine Zc Zd [] ?_
   simp only [push_cast,seval,↓reduceIte,Za,hi0,hk0,hN0,hN]
   refine (K2 (i0:=i0) (j0_0:=n) (j0_1:=(n+1)) (j0_2:=(n+2)) (by omega) (by omega) (by omega) (by omega) (by omega) (by omega) (by omega) (by omega) (by omega) (by omega) (by simp only [push_cast,seval,↓reduceIte,Za,Xf,hi0,hk0,hN0,hN] <;> rfl) (by simp only [push_cast,seval,↓reduceIte,Za,Xf,hi0,hk0,hN0,hN] <;> rfl) (by simp only [push_cast,seval,↓reduceIte,Za,Xf,hi0,hk0,hN0,hN] <;> rfl) (by simp only [push_cast,seval,↓reduceIte,Za,Xf,hi0,hk0,hN0,hN] <;> rfl) hy2).then ?_
   simp only [push_cast,seval,↓reduceIte,Za,hi0,hk0,hN0,hN]
   have hz1:=Option.some.inj hz1;subst hz1
   refine And.intro rfl ?_
   refine Fit2.trans (E':=(⟨19,[],[(0,.ref i0 0),(1,.val (.int .i64 a1))]⟩:Env)) (O':=(Zx ((((O.upd j0_0 none).upd j0_1 none).upd j0_2 none).upd i0 (some ⟨false,110,4,1,[.row (n+5) y2.out.length,.val (.int .i64 y2.kept),.row (n+3) y2.gone.length,.row (n+4) y2.come.length]⟩)) n [none,none,none,some ⟨true,25,3,y2.gone.length,fl Zb y2.gone⟩,some ⟨true,25,3,y2.come.length,fl Zb y2.come⟩,some ⟨true,69,14,y2.out.length,fl Zg y2.out⟩])) (n':=(n+6)) (Fit2.of (Yg hU rfl rfl ?_) (by omega)) ?_
   ·simp only [push_cast,seval,↓reduceIte,Za,hi0,hk0,hN0,hN]
   refine X8 (k:=6) (k':=9) hU [5,5,5,7,8,6] [0,0,0,0,0,0,5,3,4] rfl rfl rfl rfl ⟨rfl,rfl⟩ ?_
   simp only [push_cast,seval,↓reduceIte,Za,hi0,hk0,hN0,hN]
  replace hz1:=Zt c3 hz1
  refine Zy ?_
  try simp only [Zk,Ze]
  have hz1:=Option.some.inj hz1;subst hz1
  refine And.intro rfl ?_
  refine Fit2.trans (E':=(⟨19,[],[(0,.ref i0 0),(1,.val (.int .i64 a1))]⟩:Env)) (O':=(Zx ((((O.upd j0_0 none).upd j0_1 none).upd j0_2 none).upd i0 (some ⟨false,110,4,1,[.row (n+2) a0.out.length,.val (.int .i64 a0.kept),.row n a0.gone.length,.row (n+1) a0.come.length]⟩)) n [some ⟨true,25,3,a0.gone.length,fl Zb a0.gone⟩,some ⟨true,25,3,a0.come.length,fl Zb a0.come⟩,some ⟨true,69,14,a0.out.length,fl Zg a0.out⟩])) (n':=(n+3)) (Fit2.of (Yg hU rfl rfl ?_) (by omega)) ?_
  ·simp only [push_cast,seval,↓reduceIte,Za,hi0,hk0,hN0,hN]
  refine X8 (k:=3) (k':=9) hU [7,8,6] [0,0,0,0,0,0,2,0,1] rfl rfl rfl rfl ⟨rfl,rfl⟩ ?_
  simp only [push_cast,seval,↓reduceIte,Za,hi0,hk0,hN0,hN]
 refine Zc Zd [] ?_
 simp only [push_cast,seval,↓reduceIte,Za,hi0,hk0,hN0,hN]
 have h:=Option.some.inj h;subst h
 refine Jr (k:=3) (i:=i0) (q1:=⟨false,110,4,1,[.row (n+2) z1.1.length,.val (.int .i64 (IntKind.i64.wrap (z1.2.2.2+a1))),.row n z1.2.1.length,.row (n+1) z1.2.2.1.length]⟩) (L3:=[some ⟨true,25,3,z1.2.1.length,fl Zb z1.2.1⟩,some ⟨true,25,3,z1.2.2.1.length,fl Zb z1.2.2.1⟩,some ⟨true,69,14,z1.1.length,fl Zg z1.1⟩,none]) (E2:=(⟨19,[],[]⟩:Env)) (n3:=(n+4)) (.inl rfl) hU rfl [] ?_ ?_
 ·refine Fit2.trans (E':=(⟨19,[],[]⟩:Env)) (O':=(Zx ((((O.upd j0_0 none).upd j0_1 none).upd j0_2 none).upd i0 (some ⟨false,110,4,1,[.row (n+6) z1.1.length,.val (.int .i64 (IntKind.i64.wrap (z1.2.2.2+a1))),.row (n+7) z1.2.1.length,.row (n+8) z1.2.2.1.length]⟩)) n [none,none,none,none,none,none,some ⟨true,69,14,z1.1.length,fl Zg z1.1⟩,some ⟨true,25,3,z1.2.1.length,fl Zb z1.2.1⟩,some ⟨true,25,3,z1.2.2.1.length,fl Zb z1.2.2.1⟩])) (n':=(n+9)) (Fit2.of (Yg hU rfl rfl ?_) (by omega)) ?_
  ·simp only [push_cast,seval,↓reduceIte,Za,hi0,hk0,hN0,hN]
  refine X8 (k:=9) (k':=4) hU [3,3,3,3,3,3,2,0,1] [7,8,6,0] rfl rfl rfl rfl ⟨rfl,rfl⟩ ?_
  simp only [push_cast,seval,↓reduceIte,Za,hi0,hk0,hN0,hN]
 simp only [push_cast,seval,↓reduceIte,Za,Try.results84,hi0,hk0,hN0,hN]
theorem Uq {a0:(List Int)} {r:(List Int)} {O:Objs} {n:Nat} (h:Ki a0=some r):GTo Try.prog 88 [.sl a0.length (fl (eI .u64) a0)] O n (.sl r.length (fl (eI .u64) r)) O n:=by
 unfold Ki at h
 refine Y8 Zd Try.call88 Try.func88 rfl (Nat.le_of_ble_eq_true rfl) (Nat.le_refl _) fun hU => ?_
 have hN0:O n=none:=hU.fresh _ (Nat.le_refl _)
 have hN:∀ k,O (n+k)=none:=fun k=>hU.fresh _ (Nat.le_add_right _ _)
 show W _ _ _ _ ⟨22,[],[(0,.sl a0.length (fl (eI .u64) a0))]⟩ (Zx O n []) _
 refine Zr [0] (Zc Zd [] ?_)
 simp only [push_cast,seval,↓reduceIte,Za,hN0,hN]
 refine Zr [0,3] (Zc Zd [] ?_)
 simp only [push_cast,seval,↓reduceIte,Za,hN0,hN]
 refine Zm ?_
 refine Zl [0,3] [] ?_
 simp only [push_cast,seval,↓reduceIte]
 obtain ⟨z7,hz7,h⟩:=bC h
 refine Yx (E':=⟨22,[],[(0,.sl a0.length (fl (eI .u64) a0)),(3,.val (.int .i64 z7))]⟩) (O':=(Zx O n [])) (n0:=n) ?_ ?_
 ·refine Xg hz7 (fun s0_=>⟨22,[],[(0,.sl a0.length (fl (eI .u64) a0)),(3,.val (.int .i64 s0_))]⟩) (fun s0_=>(Zx O n [])) (fun z7=>JX 0 n (⟨22,[],[(0,.sl a0.length (fl (eI .u64) a0)),(3,.val (.int .i64 z7))]⟩:Env) (Zx O n []) n) ?_
  intro s0_ x0_ hs0_
  unfold Vi at hs0_
  try dsimp only
  refine Zm ?_
  obtain ⟨z2,hz2,hs0_⟩:=bC hs0_
  refine Y6 (E':=⟨22,[],[(0,.sl a0.length (fl (eI .u64) a0)),(3,.val (.int .i64 s0_)),(15,.val (.bool z2))]⟩) (O':=(Zx O n [])) (n0:=n) ?_ ?_
  ·rcases Bool.eq_false_or_eq_true (decide (0 < s0_)) with c5 | c5
   ·replace hz2:=Zu c5 hz2
    obtain ⟨x4,hx4,ax4,bx4,cx4,hz2⟩:=bE (f:=(eI .u64)) Zg2 (fun _=>rfl) (by decide) hz2
    refine Zc Zd [some true,some true,some true,some true,some true,some true] ?_
    simp only [push_cast,Nat.reduceAdd,Nat.reduceSub,Nat.reduceMul,Nat.reduceLeDiff,Nat.reduceLT,Nat.reduceEqDiff,↓reduceIte,reduceCtorEq,Int.reduceBEq,Int.reduceBNe,Nat.reduceBEq,Int.reduceLE,Int.reduceLT,Int.reduceEq,Int.reduceNe,Int.reduceNeg,Nat.reduceDiv,Nat.reduceMod,Nat.reducePow,Za,c5,ax4,bx4,cx4,hN0,hN]
    have hz2:=Option.some.inj hz2;subst hz2
    refine And.intro rfl (Fit2.of (Zj hU rfl rfl ?_) (by omega))
    simp only [push_cast,Nat.reduceAdd,Nat.reduceSub,Nat.reduceMul,Nat.reduceLeDiff,Nat.reduceLT,Nat.reduceEqDiff,↓reduceIte,reduceCtorEq,Int.reduceBEq,Int.reduceBNe,Nat.reduceBEq,Int.reduceLE,Int.reduceLT,Int.reduceEq,Int.reduceNe,Int.reduceNeg,Nat.reduceDiv,Nat.reduceMod,Nat.reducePow,Za,c5,ax4,bx4,cx4,hN0,hN]
   replace hz2:=Zt c5 hz2
   refine Zc Zd [some false,some false,some false,some false,some false,some false] ?_
   simp only [push_cast,seval,↓reduceIte,Za,c5,hN0,hN]
   have hz2:=Option.some.inj hz2;subst hz2
   refine And.intro rfl (Fit2.of (Zj hU rfl rfl ?_) (by omega))
   simp only [push_cast,seval,↓reduceIte,Za,c5,hN0,hN]
  refine Zv (t:=z2) rfl (fun c6 => ?_) (fun c6 => ?_)
  ·replace hs0_:=Zu c6 hs0_
   refine Zy ?_
   try simp only [Zk,Ze]
   refine Zl [0,3] [] ?_
   simp only [push_cast,seval,↓reduceIte]
   refine Ym ?_
   refine Zc Zd [] ?_
   simp only [push_cast,seval,↓reduceIte,Za,hN0,hN]
   have hs0_:=Option.some.inj hs0_;subst hs0_
   refine And.intro rfl (Fit2.of (Zj hU rfl rfl ?_) (by omega))
   simp only [push_cast,seval,↓reduceIte,Za,hN0,hN]
  replace hs0_:=Zt c6 hs0_
  refine Xp ?_
  try simp only [Zk,Ze,↓reduceIte,Nat.reduceEqDiff]
  have hs0_:=Option.some.inj hs0_;subst hs0_
  refine And.intro (fun h=>by cases h) (And.intro rfl (Fit2.of (Zj hU rfl rfl ?_) (by omega)))
  simp only [push_cast,seval,↓reduceIte,Za,hN0,hN]
 try simp only [Zk,Ze,↓reduceIte,Nat.reduceEqDiff]
 refine Zl [0,3] [] ?_
 simp only [push_cast,seval,↓reduceIte]
 obtain ⟨l9,al9,bl9,cl9,gl9,h⟩:=bS3 (lo:=none) (hi:=(.i64,z7)) (f:=(eI .u64)) rfl rfl Zo8 Zg2 (fun _=>rfl) h
 refine Zr [2] (Zc Zd [] ?_)
 simp only [push_cast,seval,↓reduceIte,Za,al9,bl9,cl9,gl9,hN0,hN]
 refine Z4 ?_
 try simp only [Zk,Ze]
 have h:=Option.some.inj h;subst h
 refine Zs (.inr rfl) hU [.sl l9.length (fl (eI .u64) l9)] (by omega) ?_
 simp only [push_cast,seval,↓reduceIte,Za,Try.results88,hN0,hN]
theorem Zef {a0:(List S_api_Tree)} {r:(List S_api_Tree)} {O:Objs} {n:Nat} (h:Ve a0=some r):GTo Try.prog 89 [.sl a0.length (fl Zb a0)] O n (.sl r.length (fl Zb r)) O n:=by
 unfold Ve at h
 refine Y8 Zd Try.call89 Try.func89 rfl (Nat.le_of_ble_eq_true rfl) (Nat.le_refl _) fun hU => ?_
 have hN0:O n=none:=hU.fresh _ (Nat.le_refl _)
 have hN:∀ k,O (n+k)=none:=fun k=>hU.fresh _ (Nat.le_add_right _ _)
 show W _ _ _ _ ⟨23,[],[(0,.sl a0.length (fl Zb a0))]⟩ (Zx O n []) _
 refine Zr [0] (Zc Zd [] ?_)
 simp only [push_cast,seval,↓reduceIte,Za,hN0,hN]
 refine Zr [0,3] (Zc Zd [] ?_)
 simp only [push_cast,seval,↓reduceIte,Za,hN0,hN]
 refine Zm ?_
 refine Zl [0,3] [] ?_
 simp only [push_cast,seval,↓reduceIte]
 obtain ⟨z10,hz10,h⟩:=bC h
 refine Yx (E':=⟨23,[],[(0,.sl a0.length (fl Zb a0)),(3,.val (.int .i64 z10))]⟩) (O':=(Zx O n [])) (n0:=n) ?_ ?_
 ·refine Xg hz10 (fun s0_=>⟨23,[],[(0,.sl a0.length (fl Zb a0)),(3,.val (.int .i64 s0_))]⟩) (fun s0_=>(Zx O n [])) (fun z10=>JX 0 n (⟨23,[],[(0,.sl a0.length (fl Zb a0)),(3,.val (.int .i64 z10))]⟩:Env) (Zx O n []) n) ?_
  intro s0_ x0_ hs0_
  unfold V2 at hs0_
  try dsimp only
  refine Zm ?_
  obtain ⟨z3,hz3,hs0_⟩:=bC hs0_
  refine Y6 (E':=⟨23,[],[(0,.sl a0.length (fl Zb a0)),(3,.val (.int .i64 s0_)),(16,.val (.bool z3))]⟩) (O':=(Zx O n [])) (n0:=n) ?_ ?_
  ·rcases Bool.eq_false_or_eq_true (decide (0 < s0_)) with c8 | c8
   ·replace hz3:=Zu c8 hz3
    obtain ⟨x6,hx6,ax6,bx6,cx6,hz3⟩:=bE (f:=Zb) Vm (fun _=>rfl) (by decide) hz3
    have g7:=Zh2 (f:=Zb) (sz:=3) Zvh (fun _=>rfl) (by decide) (by decide) hx6
    refine Zc Zd [some true,some true,some true,some true,some true,some true,some true] ?_
    simp only [push_cast,Nat.reduceAdd,Nat.reduceSub,Nat.reduceMul,Nat.reduceLeDiff,Nat.reduceLT,Nat.reduceEqDiff,↓reduceIte,reduceCtorEq,Int.reduceBEq,Int.reduceBNe,Nat.reduceBEq,Int.reduceLE,Int.reduceLT,Int.reduceEq,Int.reduceNe,Int.reduceNeg,Nat.reduceDiv,Nat.reduceMod,Nat.reducePow,Za,c8,ax6,bx6,cx6,g7,hN0,hN]
    have hz3:=Option.some.inj hz3;subst hz3
    refine And.intro rfl (Fit2.of (Zj hU rfl rfl ?_) (by omega))
    simp only [push_cast,Nat.reduceAdd,Nat.reduceSub,Nat.reduceMul,Nat.reduceLeDiff,Nat.reduceLT,Nat.reduceEqDiff,↓reduceIte,reduceCtorEq,Int.reduceBEq,Int.reduceBNe,Nat.reduceBEq,Int.reduceLE,Int.reduceLT,Int.reduceEq,Int.reduceNe,Int.reduceNeg,Nat.reduceDiv,Nat.reduceMod,Nat.reducePow,Za,c8,ax6,bx6,cx6,g7,hN0,hN]
   replace hz3:=Zt c8 hz3
   refine Zc Zd [some false,some false,some false,some false,some false,some false,some false] ?_
   simp only [push_cast,seval,↓reduceIte,Za,c8,hN0,hN]
   have hz3:=Option.some.inj hz3;subst hz3
   refine And.intro rfl (Fit2.of (Zj hU rfl rfl ?_) (by omega))
   simp only [push_cast,seval,↓reduceIte,Za,c8,hN0,hN]
  refine Zv (t:=z3) rfl (fun c9 => ?_) (fun c9 => ?_)
  ·replace hs0_:=Zu c9 hs0_
   refine Zy ?_
   try simp only [Zk,Ze]
   refine Zl [0,3] [] ?_
   simp only [push_cast,seval,↓reduceIte]
   refine Ym ?_
   refine Zc Zd [] ?_
   simp only [push_cast,seval,↓reduceIte,Za,hN0,hN]
   have hs0_:=Option.some.inj hs0_;subst hs0_
   refine And.intro rfl (Fit2.of (Zj hU rfl rfl ?_) (by omega))
   simp only [push_cast,seval,↓reduceIte,Za,hN0,hN]
  replace hs0_:=Zt c9 hs0_
  refine Xp ?_
  try simp only [Zk,Ze,↓reduceIte,Nat.reduceEqDiff]
  have hs0_:=Option.some.inj hs0_;subst hs0_
  refine And.intro (fun h=>by cases h) (And.intro rfl (Fit2.of (Zj hU rfl rfl ?_) (by omega)))
  simp only [push_cast,seval,↓reduceIte,Za,hN0,hN]
 try simp only [Zk,Ze,↓reduceIte,Nat.reduceEqDiff]
 refine Zl [0,3] [] ?_
 simp only [push_cast,seval,↓reduceIte]
 obtain ⟨l12,al12,bl12,cl12,gl12,h⟩:=bS3 (lo:=none) (hi:=(.i64,z10)) (f:=Zb) rfl rfl Zer Vm (fun _=>rfl) h
 refine Zr [2] (Zc Zd [] ?_)
 simp only [push_cast,seval,↓reduceIte,Za,al12,bl12,cl12,gl12,hN0,hN]
 refine Z4 ?_
 try simp only [Zk,Ze]
 have h:=Option.some.inj h;subst h
 refine Zs (.inr rfl) hU [.sl l12.length (fl Zb l12)] (by omega) ?_
 simp only [push_cast,seval,↓reduceIte,Za,Try.results89,hN0,hN]
theorem Zsn {Zc9:(S_api_Tree→Option S_api_Tree)} (Zql:∀ {a0:S_api_Tree} {r:S_api_Tree} {O:Objs} {n:Nat},Zc9 a0=some r→GTo Try.prog 53 [.agg (Zf a0)] O n (.agg (Zf r)) O n) {a0:S_api_Tree} {r:S_api_Tree} {O:Objs} {n:Nat} (h:Zet Zc9 a0=some r):GTo Try.prog 53 [.agg (Zf a0)] O n (.agg (Zf r)) O n:=by
 unfold Zet at h
 refine Y8 Zd Try.call53 Try.func53 rfl (Nat.le_of_ble_eq_true rfl) (Nat.le_refl _) fun hU => ?_
 have hN0:O n=none:=hU.fresh _ (Nat.le_refl _)
 have hN:∀ k,O (n+k)=none:=fun k=>hU.fresh _ (Nat.le_add_right _ _)
 show W _ _ _ _ ⟨49,[],[(0,.agg (Zf a0))]⟩ (Zx O n []) _
 refine Zr [1,2] (Zc Zd [] ?_)
 simp only [push_cast,seval,↓reduceIte,Za,hN0,hN]
 refine Zm ?_
 refine Zr [1,2,10] (Zc Zd [] ?_)
 simp only [push_cast,seval,↓reduceIte,Za,hN0,hN]
 refine Zv (t:=(a0.Kind == 0)) rfl (fun c15 => ?_) (fun c15 => ?_)
 ·replace h:=Zu c15 h
  refine Zm ?_
  refine Zc Zd [] ?_
  simp only [push_cast,seval,↓reduceIte,Za,hN0,hN]
  refine Zl [2] [false,true] ?_
  simp only [push_cast,seval,↓reduceIte]
  refine Z4 ?_
  try simp only [Zk,Ze]
  have h:=Option.some.inj h;subst h
  refine Zs (.inr rfl) hU [.agg [.val (.int .i64 0),.val (.slice none 0 0),.val (.slice none 0 0)]] (by omega) ?_
  simp only [push_cast,seval,↓reduceIte,Za,Try.results53,hN0,hN]
 replace h:=Zt c15 h
 refine Zy ?_
 try simp only [Zk,Ze]
 refine Zl [1,2] [true,true] ?_
 simp only [push_cast,seval,↓reduceIte]
 refine Zr [1,2,3,4] (Kq Zd (by kernel_rfl) [] (by kernel_rfl) ?_)
 simp only [push_cast,seval,↓reduceIte,Za,hN0,hN]
 obtain ⟨z1,hz1,h⟩:=bC h
 refine Y6 (E':=⟨49,[],[(1,.ref n 0),(2,.ref (n+1) 0),(3,.sl z1.1.length (fl (eI .u64) z1.1)),(4,.sl z1.2.length (fl Zb z1.2))]⟩) (O':=(Zx O n [some ⟨false,25,3,1,(Zf a0)⟩,some ⟨false,25,3,1,[.val (.int .i64 0),.val (.slice none 0 0),.val (.slice none 0 0)]⟩])) (n0:=(n+2)) ?_ ?_
 ·refine Zr [1,2,3,4,18] (Zc Zd [] ?_)
  simp only [push_cast,seval,↓reduceIte,Za,hN0,hN]
  refine Zv (t:=(a0.Kind == 1)) rfl (fun c4 => ?_) (fun c4 => ?_)
  ·replace hz1:=Zu c4 hz1
   obtain ⟨y2,hy2,hz1⟩:=bC hz1
   obtain ⟨y3,hy3,hz1⟩:=bC hz1
   refine Zc Zd [] ?_
   simp only [push_cast,seval,↓reduceIte,Za,hN0,hN]
   refine (Uq hy2).then ?_
   simp only [push_cast,seval,↓reduceIte,Za,hN0,hN]
   refine (Zef hy3).then ?_
   simp only [push_cast,seval,↓reduceIte,Za,hN0,hN]
   have hz1:=Option.some.inj hz1;subst hz1
   refine And.intro rfl (Fit2.of (Zj hU rfl rfl ?_) (by omega))
   simp only [push_cast,seval,↓reduceIte,Za,hN0,hN]
  replace hz1:=Zt c4 hz1
  refine Zy ?_
  try simp only [Zk,Ze]
  have hz1:=Option.some.inj hz1;subst hz1
  refine And.intro rfl (Fit2.of (Zj hU rfl rfl ?_) (by omega))
  simp only [push_cast,seval,↓reduceIte,Za,hN0,hN]
 refine Zm ?_
 refine Zc Zd [] ?_
 simp only [push_cast,seval,↓reduceIte,Za,hN0,hN]
 refine Zl [2,4,5] [false,true,true] ?_
 simp only [push_cast,seval,↓reduceIte]
 obtain ⟨z5,hz5,h⟩:=bC h
 refine Y6 (E':=⟨49,[],[(2,.ref (n+1) 0),(4,.sl z1.2.length (fl Zb z1.2)),(5,.ref (n+2) 0)]⟩) (O':=(Zx O n [none,some ⟨false,25,3,1,[.val (.int .i64 0),.val (.slice none 0 0),.val (.slice none 0 0)]⟩,some ⟨false,25,3,1,[.val (.int .i64 a0.Kind),.sl z1.1.length (fl (eI .u64) z1.1),.row (n+4) z5.length]⟩,none,some ⟨true,25,3,z5.length,fl Zb z5⟩,none])) (n0:=(n+6)) ?_ ?_
 ·refine Zr [2,4,5,29] (Zc Zd [] ?_)
  simp only [push_cast,seval,↓reduceIte,Za,hN0,hN]
  refine Zv (t:=(decide (0 < (z1.2.length:Int)))) rfl (fun c7 => ?_) (fun c7 => ?_)
  ·replace hz5:=Zu c7 hz5
   obtain ⟨l6,al6,bl6,cl6,el6,hz5⟩:=bM2 (c:=56) rfl hz5
   have nl6:Int.toNat (z1.2.length:Int)=List.length l6:=by rw [el6,List.length_replicate]
   have fl6:∀ O O' n,Gn O O' n (List.replicate (List.length l6) [.val (.int .i64 0),.val (.slice none 0 0),.val (.slice none 0 0)]).flatten (fl Zb l6)=True:=fun O O' n=>by rw [← nl6,el6];exact eq_true (Zyc (by simp only [push_cast,seval,↓reduceIte,Za]) _)
   clear el6
   refine Zc Zd [] ?_
   simp only [push_cast,seval,↓reduceIte,Za,al6,bl6,cl6,fl6,nl6,hN0,hN]
   have hz5:=Option.some.inj hz5;subst hz5
   refine And.intro rfl ?_
   refine Fit2.trans (E':=(⟨49,[],[(2,.ref (n+1) 0),(4,.sl z1.2.length (fl Zb z1.2)),(5,.ref (n+2) 0)]⟩:Env)) (O':=(Zx O n [none,some ⟨false,25,3,1,[.val (.int .i64 0),.val (.slice none 0 0),.val (.slice none 0 0)]⟩,some ⟨false,25,3,1,[.val (.int .i64 a0.Kind),.sl z1.1.length (fl (eI .u64) z1.1),.row (n+3) l6.length]⟩,some ⟨true,25,3,l6.length,fl Zb l6⟩])) (n':=(n+4)) (Fit2.of (Zj hU rfl rfl ?_) (by omega)) ?_
   ·simp only [push_cast,seval,↓reduceIte,Za,al6,bl6,cl6,fl6,nl6,hN0,hN]
   refine V5 (k:=4) (k':=6) hU [5,1,2,4] [0,1,2,0,3,0] rfl rfl rfl rfl ⟨rfl,rfl⟩ ?_
   simp only [push_cast,seval,↓reduceIte,Za,hN0,hN]
  replace hz5:=Zt c7 hz5
  refine Zy ?_
  try simp only [Zk,Ze]
  have hz5:=Option.some.inj hz5;subst hz5
  refine And.intro rfl ?_
  refine Fit2.trans (E':=(⟨49,[],[(2,.ref (n+1) 0),(4,.sl z1.2.length (fl Zb z1.2)),(5,.ref (n+2) 0)]⟩:Env)) (O':=(Zx O n [none,some ⟨false,25,3,1,[.val (.int .i64 0),.val (.slice none 0 0),.val (.slice none 0 0)]⟩,some ⟨false,25,3,1,[.val (.int .i64 a0.Kind),.sl z1.1.length (fl (eI .u64) z1.1),.val (.slice none 0 0)]⟩])) (n':=(n+3)) (Fit2.of (Zj hU rfl rfl ?_) (by omega)) ?_
  ·simp only [push_cast,seval,↓reduceIte,Za,hN0,hN]
  refine Fit2.trans (E':=(⟨49,[],[(2,.ref (n+1) 0),(4,.sl z1.2.length (fl Zb z1.2)),(5,.ref (n+2) 0)]⟩:Env)) (O':=(Zx O n [none,some ⟨false,25,3,1,[.val (.int .i64 0),.val (.slice none 0 0),.val (.slice none 0 0)]⟩,some ⟨false,25,3,1,[.val (.int .i64 a0.Kind),.sl z1.1.length (fl (eI .u64) z1.1),.row (n+3) 0]⟩,some ⟨true,25,3,0,[]⟩])) (n':=(n+4)) ?_ ?_
  ·have ha:=Za6 (ba:=n) (E:=(⟨49,[],[(2,.ref (n+1) 0),(4,.sl z1.2.length (fl Zb z1.2)),(5,.ref (n+2) 0)]⟩:Env)) (O:=(Zx O n [none,some ⟨false,25,3,1,[.val (.int .i64 0),.val (.slice none 0 0),.val (.slice none 0 0)]⟩,some ⟨false,25,3,1,[.val (.int .i64 a0.Kind),.sl z1.1.length (fl (eI .u64) z1.1),.val (.slice none 0 0)]⟩])) (n:=(n+3)) (p:=(n+2)) (k:=2) (q:=⟨false,25,3,1,[.val (.int .i64 a0.Kind),.sl z1.1.length (fl (eI .u64) z1.1),.val (.slice none 0 0)]⟩) 25 3 (by simp only [U3,Zdc,List.getElem?_cons_zero,List.getElem?_cons_succ,Option.join_some,Yh]) rfl (by omega)
   simp only [Xj,Y2,Zcr,Za5,List.set_cons_zero,List.set_cons_succ,List.cons_append,List.nil_append,List.length_cons,List.length_nil,Nat.zero_add,Nat.reduceAdd,Nat.reduceLT,Nat.add_assoc] at ha
   exact ha
  refine Fit2.trans (E':=(⟨49,[],[(2,.ref (n+1) 0),(4,.sl z1.2.length (fl Zb z1.2)),(5,.ref (n+2) 0)]⟩:Env)) (O':=(Zx O n [none,some ⟨false,25,3,1,[.val (.int .i64 0),.val (.slice none 0 0),.val (.slice none 0 0)]⟩,some ⟨false,25,3,1,[.val (.int .i64 a0.Kind),.sl z1.1.length (fl (eI .u64) z1.1),.row (n+3) ([]:List S_api_Tree).length]⟩,some ⟨true,25,3,([]:List S_api_Tree).length,fl Zb ([]:List S_api_Tree)⟩])) (n':=(n+4)) (Fit2.of (Zj hU rfl rfl ?_) (by omega)) ?_
  ·simp only [push_cast,seval,↓reduceIte,Za,hN0,hN]
  refine V5 (k:=4) (k':=6) hU [5,1,2,4] [0,1,2,0,3,0] rfl rfl rfl rfl ⟨rfl,rfl⟩ ?_
  simp only [push_cast,seval,↓reduceIte,Za,hN0,hN]
 refine Zm ?_
 refine Zr [2,5,34,35,36] (Zc Zd [] ?_)
 simp only [push_cast,seval,↓reduceIte,Za,hN0,hN]
 refine Zl [2,5,34,35,36] [false,true,true,false,true,false] ?_
 simp only [push_cast,seval,↓reduceIte]
 obtain ⟨z14,hz14,h⟩:=bC h
 refine Yx (E':=⟨49,[],[(2,.ref (n+1) 0),(5,.ref (n+2) 0)]⟩) (O':=(Zx O n [none,some ⟨false,25,3,1,[.val (.int .i64 0),.val (.slice none 0 0),.val (.slice none 0 0)]⟩,some ⟨false,25,3,1,[.val (.int .i64 a0.Kind),.sl z1.1.length (fl (eI .u64) z1.1),.row (n+4) z14.length]⟩,none,some ⟨true,25,3,z14.length,fl Zb z14⟩,none])) (n0:=(n+6)) ?_ ?_
 ·refine Xg hz14 (fun s0_=>⟨49,[],[(2,.ref (n+1) 0),(5,.ref (n+2) 0),(34,.sl z1.2.length (fl Zb z1.2)),(35,.val (.int .i64 (z1.2.length:Int))),(36,.val (.int .i64 s0_.1))]⟩) (fun s0_=>(Zx O n [none,some ⟨false,25,3,1,[.val (.int .i64 0),.val (.slice none 0 0),.val (.slice none 0 0)]⟩,some ⟨false,25,3,1,[.val (.int .i64 a0.Kind),.sl z1.1.length (fl (eI .u64) z1.1),.row (n+4) s0_.2.length]⟩,none,some ⟨true,25,3,s0_.2.length,fl Zb s0_.2⟩,none])) (fun z14=>JX 0 n (⟨49,[],[(2,.ref (n+1) 0),(5,.ref (n+2) 0)]⟩:Env) (Zx O n [none,some ⟨false,25,3,1,[.val (.int .i64 0),.val (.slice none 0 0),.val (.slice none 0 0)]⟩,some ⟨false,25,3,1,[.val (.int .i64 a0.Kind),.sl z1.1.length (fl (eI .u64) z1.1),.row (n+4) z14.length]⟩,none,some ⟨true,25,3,z14.length,fl Zb z14⟩,none]) (n+6)) ?_
  intro s0_ x0_ hs0_
  unfold U8 at hs0_
  try dsimp only
  refine Zr [2,5,34,35,36,37] (Zc Zd [] ?_)
  simp only [push_cast,seval,↓reduceIte,Za,hN0,hN]
  refine Zm ?_
  refine Zv (t:=(decide (s0_.1 < (z1.2.length:Int)))) rfl (fun c13 => ?_) (fun c13 => ?_)
  ·replace hs0_:=Zu c13 hs0_
   refine Zy ?_
   try simp only [Zk,Ze]
   refine Zl [2,5,34,35,36] [false,true,true,false,true,false] ?_
   simp only [push_cast,seval,↓reduceIte]
   refine Zm ?_
   refine Ym ?_
   refine Zm ?_
   obtain ⟨x9,hx9,ax9,bx9,cx9,hs0_⟩:=bE (f:=Zb) Vm (fun _=>rfl) (by decide) hs0_
   refine Zc Zd [] ?_
   simp only [push_cast,Nat.reduceAdd,Nat.reduceSub,Nat.reduceMul,Nat.reduceLeDiff,Nat.reduceLT,Nat.reduceEqDiff,↓reduceIte,reduceCtorEq,Int.reduceBEq,Int.reduceBNe,Nat.reduceBEq,Int.reduceLE,Int.reduceLT,Int.reduceEq,Int.reduceNe,Int.reduceNeg,Nat.reduceDiv,Nat.reduceMod,Nat.reducePow,Za,ax9,bx9,cx9,hN0,hN]
   refine Zl [2,5,6,7,34,35,36] [false,true,true,false,true,false,true] ?_
   simp only [push_cast,seval,↓reduceIte]
   obtain ⟨y10,hy10,hs0_⟩:=bC hs0_
   obtain ⟨x11,hx11,ax11,bx11,cx11,hs0_⟩:=bE (f:=Zb) Vm (fun _=>rfl) (by decide) hs0_
   have gu12:Js (fl Zb s0_.2) [.val (.int .i64 y10.Kind),.sl y10.Words.length (fl (eI .u64) y10.Words),.sl y10.Kids.length (fl Zb y10.Kids)] (Int.toNat s0_.1 * 3)=some (fl Zb (Zc4 s0_.2 s0_.1 y10)):=(congrArg (fun c=>Js (fl Zb s0_.2) c (Int.toNat s0_.1 * 3)) (show [.val (.int .i64 y10.Kind),.sl y10.Words.length (fl (eI .u64) y10.Words),.sl y10.Kids.length (fl Zb y10.Kids)]=Zb y10 from by simp only [Zb,Ys,eI,eB,eS,eL])).trans (Zhn (f:=Zb) (ti:=⟨.bool,3,0,[],false⟩) (x:=y10) (fun _=>rfl) (Zdo hx11))
   refine Zfl Zd (by kernel_rfl) [false,false,false,false,false,false,true] [] (by kernel_rfl) ?_
   simp only [push_cast,Nat.reduceAdd,Nat.reduceSub,Nat.reduceMul,Nat.reduceLeDiff,Nat.reduceLT,Nat.reduceEqDiff,↓reduceIte,reduceCtorEq,Int.reduceBEq,Int.reduceBNe,Nat.reduceBEq,Int.reduceLE,Int.reduceLT,Int.reduceEq,Int.reduceNe,Int.reduceNeg,Nat.reduceDiv,Nat.reduceMod,Nat.reducePow,Za,ax11,bx11,cx11,gu12,hN0,hN]
   refine PCall.of (Zql hy10) ?_
   simp only [push_cast,Nat.reduceAdd,Nat.reduceSub,Nat.reduceMul,Nat.reduceLeDiff,Nat.reduceLT,Nat.reduceEqDiff,↓reduceIte,reduceCtorEq,Int.reduceBEq,Int.reduceBNe,Nat.reduceBEq,Int.reduceLE,Int.reduceLT,Int.reduceEq,Int.reduceNe,Int.reduceNeg,Nat.reduceDiv,Nat.reduceMod,Nat.reducePow,Za,ax11,bx11,cx11,gu12,hN0,hN]
   refine Zl [2,5,34,35,36] [false,true,true,false,true,false,false] ?_
   simp only [push_cast,seval,↓reduceIte]
   refine Zc Zd [] ?_
   simp only [push_cast,seval,↓reduceIte,Za,hN0,hN]
   have hs0_:=Option.some.inj hs0_;subst hs0_
   refine And.intro rfl (Fit2.of (Zj hU rfl rfl ?_) (by omega))
   simp only [push_cast,seval,↓reduceIte,Za,hN0,hN]
  replace hs0_:=Zt c13 hs0_
  refine Xp ?_
  try simp only [Zk,Ze,↓reduceIte,Nat.reduceEqDiff]
  have hs0_:=Option.some.inj hs0_;subst hs0_
  refine And.intro (fun h=>by cases h) (And.intro rfl (Fit2.of (Zj hU rfl rfl ?_) (by omega)))
  simp only [push_cast,seval,↓reduceIte,Za,hN0,hN]
 try simp only [Zk,Ze,↓reduceIte,Nat.reduceEqDiff]
 refine Zl [2,5] [false,true,true,false,true,false] ?_
 simp only [push_cast,seval,↓reduceIte]
 refine Zm ?_
 refine Zc Zd [] ?_
 simp only [push_cast,seval,↓reduceIte,Za,hN0,hN]
 refine Zl [2] [false,true,false,false,true,false] ?_
 simp only [push_cast,seval,↓reduceIte]
 refine Z4 ?_
 try simp only [Zk,Ze]
 have h:=Option.some.inj h;subst h
 refine Zs (.inr rfl) hU [.agg [.val (.int .i64 a0.Kind),.sl z1.1.length (fl (eI .u64) z1.1),.row (n+4) z14.length]] (by omega) ?_
 simp only [push_cast,seval,↓reduceIte,Za,Try.results53,hN0,hN]
theorem Zom:∀ k,(∀ {a0:S_api_Tree} {r:S_api_Tree} {O:Objs} {n:Nat},(Vk k) a0=some r→GTo Try.prog 53 [.agg (Zf a0)] O n (.agg (Zf r)) O n):=fun k=>by
 induction k with
 | zero=>exact @fun a0 r O n h=>(nomatch (show (none:Option _)=some _ from h))
 | succ k ih=>exact @fun a0 r O n h=>Zsn (ih)  h
theorem Gv {a0:S_api_Tree} {r:S_api_Tree} {O:Objs} {n:Nat} (h:Gj a0=some r):GTo Try.prog 53 [.agg (Zf a0)] O n (.agg (Zf r)) O n:=by
 obtain ⟨k,hk⟩:=Uh h
 exact (Zom k)  hk
end Go.Proofs.Ytbcgiaijjaocdaa
