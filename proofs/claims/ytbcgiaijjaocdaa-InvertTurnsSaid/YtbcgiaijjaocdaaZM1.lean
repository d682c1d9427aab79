/- Part ZM1 of this seat's mirrors: functions of the seat's program, and the plain functions that they are; each theorem bears its own conditions. -/
import Derived.Test.YtbcgiaijjaocdaaZE
namespace Go.Proofs.Ytbcgiaijjaocdaa
open Go.RowKit
set_option linter.unusedVariables false
set_option linter.unusedSimpArgs false
set_option maxRecDepth 100000
set_option maxHeartbeats 1000000
attribute [local push_cast] Ze G0 Z3 Zo Zbr Zs3 Zs2 Zts Ztr Zl Zi Zpi Zkg Zkf onW Xx Zds Zcc Zpj Zpk Zh5 evS wok Qx Op.operands Call.operands gop onK onP atK List.all_cons List.all_nil Bool.and_true Bool.true_and Bool.and_self Value.oneCell' List.take_zero List.take_succ_cons List.take_nil List.drop_zero List.drop_succ_cons List.drop_nil List.append_nil Nat.add_zero Nat.zero_add Uu Yf ev Jd Zff Zw5 Zrm Zrl Zw9 Zio Zeg Zhy Zdx Zm1 Zgj U6 Zki Zkh Zcd Zjh Zce Zke Zik Zs8 bLo bHi bMx Zei Zkd Zw7 Zii Zj4 Zga Za7 Zr6 Zxb Zjf Zxh Zef Z0d Jc Zim gone Zp9 Zk3 Zk2 pop TK.isAgg G.one G.under G.unders List.getD_cons_zero List.getD_cons_succ List.set_cons_zero List.set_cons_succ List.map_cons List.map_nil List.toList_toArray Array.toList_append Option.toArray_none Option.toArray_some Array.toList_map Option.map_some Option.map_none Option.bind_some Option.bind_none List.getElem?_cons_zero List.getElem?_cons_succ List.getElem?_nil List.nil_append List.cons_append List.replicate_succ List.replicate_zero List.length_cons List.length_nil and_true true_and and_false false_and Bool.true_eq_false Bool.false_eq_true forall_const false_implies implies_true IntKind.bits if_true if_false ite_true ite_false eq_self true_implies false_or or_false or_true true_or not_true_eq_false not_false_eq_true decide_true decide_false decide_eq_true_eq decide_eq_false_iff_not beq_iff_eq bne_iff_ne ne_eq Bool.not_eq_true Bool.not_eq_false beq_eq_false_iff_ne bne_eq_false_iff_eq beq_self_eq_true bne_self_eq_false Option.some.injEq exists_eq_left' exists_eq_left ge_iff_le gt_iff_lt decide_not Bool.not_true Bool.not_false imp_self Zxe cond_true cond_false Z5n Z5m Bool.not_not Bool.and_false Bool.false_and Bool.or_true Bool.true_or Bool.or_false Bool.false_or Ke V5 Jo Qs Yv Yj Option.join_some Nat.add_assoc Int.toNat_natCast eI eB eS eL Xg Zjg Zil Zs7 Zs5 Zs6 Z0l Z12 Zjk Zi1 Zt1 Ztz Zt0 Zv8 Zkb Zvn Zmc Zsr Zgw Zst List.length_append G.agg.injEq G.row.injEq G.ref.injEq G.val.injEq G.sl.injEq G.tup.injEq Value.int.injEq Value.bool.injEq Value.string.injEq List.cons.injEq exists_and_left exists_const List.flatten_cons List.flatten_nil Int.le_refl Nat.le_refl Q9 Yr Y2 Bool.not_eq_true' Bool.not_eq_false' Zve Zml Zyv Zyz Zyu Zyy Z35 Z30 List.size_toArray Zof Zqc G.ren G.rens Zrs Zgq Zt4 Zsw Zsx Zqo Zy0 Zfr G.fn.injEq Zrh Zri Zvd Z31 Zrg Zyx Z34 Z33 Zyw Zxi Z1p Option.join_none Ya Ud undef Zj6 Arr.len Arr.put_eq Zjj Znh Zkz Zi0 Zty Ztw Ztx onB Z0k Zr5 Zqj Zor Zos Zot Zou Zov Zow Zm8 Znk Zni Zk1 Zi2 Znj Zp8 Zp7 Zp6 Zp5 Z11 Z4v Zv7 Ztt Vb Zv4 Zoa Znl Zk0 Zxm Zqm Zih Zj3 Ze5 Zma Zox Zoy Zoz Zo0 Zmm Zmn Zmo Zmp Zmq Zmr Zms Zfc prT Zdz Z54 Zyk Zig Zyl Z55 Zym Zwn Zyn Z56 Zyo Z57 Zyp Z58 Zyq Z59 Zyr Z2w Zub Z2x Zuc Z2y Zud Z2z Zue Z20 Zuf Z21 Zug Z22 Zuh Z23 Zui Z24 Zuj Z25 Zuk Z26 Zul Z27 Zmk Zsl Zjp Z28 Zum Zai Zun Z29 Zuo Z3a Zup Z3b Zuq Z3c Zur Zh6 Zus Z3d Zut Z3e Zuu Z3f Zuv Zh7 Zuw Z3g Zux Zmj Zuy Z3h Zuz Z3i Zu0 V2 Zu1 Z3j Zu2 Zhd Zu3 Z3k Zu4 Z3l Zu5 Z3m Zu6 Z3n Zu7 Z3o Zu8 Z3p Zu9 Zwo Zoq Z3q Zva Zxx Zqq Zxy Zqr Zxz Zqs Zx0 Zqt Zx1 Zqu Zx2 Zqv Zx3 Zqw Zx4 Zqx Zx5 Zqy Zx6 Zqz Zx7 Zq0 Zx8 Zq1 Zx9 Zq2 Zya Zq3 Zyb Zq4 Zyc Zq5 Zyd Zq6 Zye Zq7 Zyf Zq8 Zyg Zq9 Zyh Zra Zyi Zrb Zyj Zrc Zb Yo Zlh Zlf Zkm Zky Zlj Zjb Zi6 Zi4 Zlb Zd9 Zd8 Zd0 Zd1 Zea Zdq Zdl Zdk Zd7 Zg Xt Zf Zh Xd Xn Yt Zbn Zbm Za9 Zbf Zbp Zax Zav Zau Zbk Zb1 Zb0 Zbx Zby Zb2 Zbl Zbi Zbh Zbz Zf3 Zf2 Zfj Zfq Zf4 Zex Zev Zeu Zf1 Zny Znx Zm5 Zne Znz Zlc Zk5 Zk4 Znu Z7 Zaz Zay Zap Zat Za0 Gu Gt Gs Zaw Zlg Zle Zkl Zkx Zli Zja Zi5 Zi3 Zla
theorem Zhr {Q7:(S_api_Tree→Int→Int→Option Int)} (Zg4:∀ {a0:S_api_Tree} {a1:Int} {a2:Int} {r:Int} {O:Objs} {n:Nat},Q7 a0 a1 a2=some r→GTo Try.prog 56 [.agg (Zo a0),.val (.int .i64 a1),.val (.int .i64 a2)] O n (.val (.int .i64 r)) O n) {a0:S_api_Tree} {a1:Int} {a2:Int} {r:Int} {O:Objs} {n:Nat} (h:Xq Q7 a0 a1 a2=some r):GTo Try.prog 56 [.agg (Zo a0),.val (.int .i64 a1),.val (.int .i64 a2)] O n (.val (.int .i64 r)) O n:=by
 unfold Xq at h
 refine Y3 Zd Try.call56 Try.func56 rfl (Nat.le_of_ble_eq_true rfl) (Nat.le_refl _) fun hU => ?_
 have hN0:O n=none:=hU.fresh _ (Nat.le_refl _)
 have hN:∀ k,O (n+k)=none:=fun k=>hU.fresh _ (Nat.le_add_right _ _)
 show W _ _ _ _ ⟨41,[],[(0,.agg (Zo a0)),(1,.val (.int .i64 a1)),(2,.val (.int .i64 a2))]⟩ (Zv O n []) _
 refine Zq [1,2,3] (Zc Zd [] ?_)
 simp only [push_cast,seval,↓reduceIte,Za,hN0,hN]
 refine Zq [1,2,3] (Zc Zd [] ?_)
 simp only [push_cast,seval,↓reduceIte,Za,hN0,hN]
 refine Zm ?_
 refine Zq [1,2,3,19] (Zc Zd [none,none] ?_)
 simp only [push_cast,seval,↓reduceIte,Za,hN0,hN]
 repeat (with_reducible refine And.intro (by first | (intro h0;simp only [h0,and_self];done) | (intro h0;simp only [h0,Bool.not_false,Bool.not_true,Bool.true_and,Bool.and_true,true_and,and_true,and_self,imp_self,implies_true,bne_iff_ne,ne_eq,beq_iff_eq];done) | (intros;simp_all;done) | exact True.intro) ?_)
 refine Zu (t:=(cond (a1 == 0) true (decide ((IntKind.i64.wrap ((IntKind.i64.wrap (a2 - 1)) - (a0.Words.length:Int))) < 0)))) rfl (fun c5 => ?_) (fun c5 => ?_)
 ·replace h:=Zs c5 h
  refine Zq [6] (Zc Zd [] ?_)
  simp only [push_cast,seval,↓reduceIte,Za,hN0,hN]
  refine Z0 ?_
  try simp only [Zl,Zi]
  have h:=Option.some.inj h;subst h
  refine Zt (.inr rfl) hU [.val (.int .i64 (-1))] (by omega) ?_
  simp only [push_cast,seval,↓reduceIte,Za,Try.results56,hN0,hN]
 replace h:=Zr c5 h
 refine Zy ?_
 try simp only [Zl,Zi]
 refine Zk [1,2,3] [true] ?_
 simp only [push_cast,seval,↓reduceIte]
 refine Zm ?_
 refine Zq [1,2,3,7] (Zc Zd [] ?_)
 simp only [push_cast,seval,↓reduceIte,Za,hN0,hN]
 refine Zk [1,2,3,7] [true] ?_
 simp only [push_cast,seval,↓reduceIte]
 obtain ⟨z4,hz4,h⟩:=bC h
 refine Yb (E':=⟨41,[],[(2,.val (.int .i64 z4))]⟩) (O':=(Zv O n [none])) (n0:=(n+1)) ?_ ?_
 ·refine Yn hz4 (fun s0_=>⟨41,[],[(1,.val (.int .i64 a1)),(2,.val (.int .i64 s0_.1)),(3,.ref n 0),(7,.val (.int .i64 s0_.2))]⟩) (fun s0_=>(Zv O n [some ⟨false,25,3,1,(Zo a0)⟩])) (fun z4=>JX 0 n (⟨41,[],[(2,.val (.int .i64 z4))]⟩:Env) (Zv O n [none]) (n+1)) ?_
  intro s0_ x0_ hs0_
  unfold Xl at hs0_
  try dsimp only
  refine Zm ?_
  refine Zq [1,2,3,7,28] (Zc Zd [none,none] ?_)
  simp only [push_cast,seval,↓reduceIte,Za,hN0,hN]
  repeat (with_reducible refine And.intro (by first | (intro h0;simp only [h0,and_self];done) | (intro h0;simp only [h0,Bool.not_false,Bool.not_true,Bool.true_and,Bool.and_true,true_and,and_true,and_self,imp_self,implies_true,bne_iff_ne,ne_eq,beq_iff_eq];done) | (intros;simp_all;done) | exact True.intro) ?_)
  refine Zu (t:=(cond (decide (s0_.2 < (a0.Kids.length:Int))) (decide (0≤s0_.1)) false)) rfl (fun c3 => ?_) (fun c3 => ?_)
  ·replace hs0_:=Zs c3 hs0_
   refine Zy ?_
   try simp only [Zl,Zi]
   refine Zk [1,2,3,7] [true] ?_
   simp only [push_cast,seval,↓reduceIte]
   refine Zm ?_
   refine Z6 ?_
   obtain ⟨x1,hx1,ax1,bx1,cx1,hs0_⟩:=bE (f:=Zb) Zai (fun _=>rfl) (by decide) hs0_
   obtain ⟨y2,hy2,hs0_⟩:=bC hs0_
   refine Zc Zd [] ?_
   simp only [push_cast,Nat.reduceAdd,Nat.reduceSub,Nat.reduceMul,Nat.reduceLeDiff,Nat.reduceLT,Nat.reduceEqDiff,↓reduceIte,reduceCtorEq,Int.reduceBEq,Int.reduceBNe,Nat.reduceBEq,Int.reduceLE,Int.reduceLT,Int.reduceEq,Int.reduceNe,Int.reduceNeg,Nat.reduceDiv,Nat.reduceMod,Nat.reducePow,Za,ax1,bx1,cx1,hN0,hN]
   refine (Zg4 hy2).then ?_
   simp only [push_cast,Nat.reduceAdd,Nat.reduceSub,Nat.reduceMul,Nat.reduceLeDiff,Nat.reduceLT,Nat.reduceEqDiff,↓reduceIte,reduceCtorEq,Int.reduceBEq,Int.reduceBNe,Nat.reduceBEq,Int.reduceLE,Int.reduceLT,Int.reduceEq,Int.reduceNe,Int.reduceNeg,Nat.reduceDiv,Nat.reduceMod,Nat.reducePow,Za,ax1,bx1,cx1,hN0,hN]
   refine Zk [1,2,3,7] [true] ?_
   simp only [push_cast,seval,↓reduceIte]
   refine Zc Zd [] ?_
   simp only [push_cast,seval,↓reduceIte,Za,hN0,hN]
   have hs0_:=Option.some.inj hs0_;subst hs0_
   refine And.intro rfl (Fit2.of (Zj hU rfl rfl ?_) (by omega))
   simp only [push_cast,seval,↓reduceIte,Za,hN0,hN]
  replace hs0_:=Zr c3 hs0_
  refine Yx ?_
  try simp only [Zl,Zi,↓reduceIte,Nat.reduceEqDiff]
  have hs0_:=Option.some.inj hs0_;subst hs0_
  refine And.intro (fun h=>by cases h) (And.intro rfl (Fit2.of (Zj hU rfl rfl ?_) (by omega)))
  simp only [push_cast,seval,↓reduceIte,Za,hN0,hN]
 try simp only [Zl,Zi,↓reduceIte,Nat.reduceEqDiff]
 refine Zk [2] [false] ?_
 simp only [push_cast,seval,↓reduceIte]
 refine Zq [6] (Zc Zd [] ?_)
 simp only [push_cast,seval,↓reduceIte,Za,hN0,hN]
 refine Z0 ?_
 try simp only [Zl,Zi]
 have h:=Option.some.inj h;subst h
 refine Zt (.inr rfl) hU [.val (.int .i64 z4)] (by omega) ?_
 simp only [push_cast,seval,↓reduceIte,Za,Try.results56,hN0,hN]
theorem Zgk:∀ k,(∀ {a0:S_api_Tree} {a1:Int} {a2:Int} {r:Int} {O:Objs} {n:Nat},(Yk k) a0 a1 a2=some r→GTo Try.prog 56 [.agg (Zo a0),.val (.int .i64 a1),.val (.int .i64 a2)] O n (.val (.int .i64 r)) O n):=fun k=>by
 induction k with
 | zero=>exact @fun a0 a1 a2 r O n h=>(nomatch (show (none:Option _)=some _ from h))
 | succ k ih=>exact @fun a0 a1 a2 r O n h=>Zhr (ih)  h
theorem Zaq {a0:S_api_Tree} {a1:Int} {a2:Int} {r:Int} {O:Objs} {n:Nat} (h:Q2 a0 a1 a2=some r):GTo Try.prog 56 [.agg (Zo a0),.val (.int .i64 a1),.val (.int .i64 a2)] O n (.val (.int .i64 r)) O n:=by
 obtain ⟨k,hk⟩:=Vs h
 exact (Zgk k)  hk
theorem Zjz {X7:(S_api_Edit→Int→Int→Option Int)} (Zen:∀ {a0:S_api_Edit} {a1:Int} {a2:Int} {r:Int} {O:Objs} {n:Nat},X7 a0 a1 a2=some r→GTo Try.prog 83 [.agg (Ze a0),.val (.int .i64 a1),.val (.int .i64 a2)] O n (.val (.int .i64 r)) O n) {a0:S_api_Edit} {a1:Int} {a2:Int} {r:Int} {O:Objs} {n:Nat} (h:Ql X7 a0 a1 a2=some r):GTo Try.prog 83 [.agg (Ze a0),.val (.int .i64 a1),.val (.int .i64 a2)] O n (.val (.int .i64 r)) O n:=by
 unfold Ql at h
 refine Y3 Zd Try.call83 Try.func83 rfl (Nat.le_of_ble_eq_true rfl) (Nat.le_refl _) fun hU => ?_
 have hN0:O n=none:=hU.fresh _ (Nat.le_refl _)
 have hN:∀ k,O (n+k)=none:=fun k=>hU.fresh _ (Nat.le_add_right _ _)
 show W _ _ _ _ ⟨107,[],[(0,.agg (Ze a0)),(1,.val (.int .i64 a1)),(2,.val (.int .i64 a2))]⟩ (Zv O n []) _
 refine Zq [1,2,3] (Zc Zd [] ?_)
 simp only [push_cast,seval,↓reduceIte,Za,hN0,hN]
 refine Zq [1,2,3] (Zc Zd [] ?_)
 simp only [push_cast,seval,↓reduceIte,Za,hN0,hN]
 refine Zm ?_
 refine Zq [1,2,3,25] (Zc Zd [none,none] ?_)
 simp only [push_cast,seval,↓reduceIte,Za,hN0,hN]
 repeat (with_reducible refine And.intro (by first | (intro h0;simp only [h0,and_self];done) | (intro h0;simp only [h0,Bool.not_false,Bool.not_true,Bool.true_and,Bool.and_true,true_and,and_true,and_self,imp_self,implies_true,bne_iff_ne,ne_eq,beq_iff_eq];done) | (intros;simp_all;done) | exact True.intro) ?_)
 refine Zu (t:=(cond (a1 == 0) true (decide ((IntKind.i64.wrap ((IntKind.i64.wrap ((IntKind.i64.wrap (a2 - 1)) - (a0.Words.length:Int))) - (a0.Ops.length:Int))) < 0)))) rfl (fun c28 => ?_) (fun c28 => ?_)
 ·replace h:=Zs c28 h
  refine Zq [6] (Zc Zd [] ?_)
  simp only [push_cast,seval,↓reduceIte,Za,hN0,hN]
  refine Z0 ?_
  try simp only [Zl,Zi]
  have h:=Option.some.inj h;subst h
  refine Zt (.inr rfl) hU [.val (.int .i64 (-1))] (by omega) ?_
  simp only [push_cast,seval,↓reduceIte,Za,Try.results83,hN0,hN]
 replace h:=Zr c28 h
 refine Zy ?_
 try simp only [Zl,Zi]
 refine Zk [1,2,3] [true] ?_
 simp only [push_cast,seval,↓reduceIte]
 refine Zm ?_
 obtain ⟨y2,hy2,h⟩:=bC h
 refine Zc Zd [] ?_
 simp only [push_cast,seval,↓reduceIte,Za,hN0,hN]
 refine (Zaq hy2).then ?_
 simp only [push_cast,seval,↓reduceIte,Za,hN0,hN]
 refine Zk [1,2,3] [true] ?_
 simp only [push_cast,seval,↓reduceIte]
 obtain ⟨z3,hz3,h⟩:=bC h
 refine Yl (E':=⟨107,[],[(1,.val (.int .i64 a1)),(2,.val (.int .i64 z3)),(3,.ref n 0)]⟩) (O':=(Zv O n [some ⟨false,30,11,1,(Ze a0)⟩])) (n0:=(n+1)) ?_ ?_
 ·refine Zq [1,2,3,31] (Zc Zd [] ?_)
  simp only [push_cast,seval,↓reduceIte,Za,hN0,hN]
  refine Zu (t:=(decide (0≤y2))) rfl (fun c5 => ?_) (fun c5 => ?_)
  ·replace hz3:=Zs c5 hz3
   obtain ⟨y4,hy4,hz3⟩:=bC hz3
   refine Zc Zd [] ?_
   simp only [push_cast,seval,↓reduceIte,Za,hN0,hN]
   refine (Zaq hy4).then ?_
   simp only [push_cast,seval,↓reduceIte,Za,hN0,hN]
   have hz3:=Option.some.inj hz3;subst hz3
   refine And.intro rfl (Fit2.of (Zj hU rfl rfl ?_) (by omega))
   simp only [push_cast,seval,↓reduceIte,Za,hN0,hN]
  replace hz3:=Zr c5 hz3
  refine Zy ?_
  try simp only [Zl,Zi]
  have hz3:=Option.some.inj hz3;subst hz3
  refine And.intro rfl (Fit2.of (Zj hU rfl rfl ?_) (by omega))
  simp only [push_cast,seval,↓reduceIte,Za,hN0,hN]
 refine Zm ?_
 refine Zq [1,2,3,7] (Zc Zd [] ?_)
 simp only [push_cast,seval,↓reduceIte,Za,hN0,hN]
 refine Zk [1,2,3,7] [true] ?_
 simp only [push_cast,seval,↓reduceIte]
 obtain ⟨z10,hz10,h⟩:=bC h
 refine Yb (E':=⟨107,[],[(1,.val (.int .i64 a1)),(2,.val (.int .i64 z10)),(3,.ref n 0)]⟩) (O':=(Zv O n [some ⟨false,30,11,1,(Ze a0)⟩])) (n0:=(n+1)) ?_ ?_
 ·refine Yn hz10 (fun s0_=>⟨107,[],[(1,.val (.int .i64 a1)),(2,.val (.int .i64 s0_.1)),(3,.ref n 0),(7,.val (.int .i64 s0_.2))]⟩) (fun s0_=>(Zv O n [some ⟨false,30,11,1,(Ze a0)⟩])) (fun z10=>JX 0 n (⟨107,[],[(1,.val (.int .i64 a1)),(2,.val (.int .i64 z10)),(3,.ref n 0)]⟩:Env) (Zv O n [some ⟨false,30,11,1,(Ze a0)⟩]) (n+1)) ?_
  intro s0_ x0_ hs0_
  unfold Qc at hs0_
  try dsimp only
  refine Zm ?_
  refine Zq [1,2,3,7,44] (Zc Zd [none,none] ?_)
  simp only [push_cast,seval,↓reduceIte,Za,hN0,hN]
  repeat (with_reducible refine And.intro (by first | (intro h0;simp only [h0,and_self];done) | (intro h0;simp only [h0,Bool.not_false,Bool.not_true,Bool.true_and,Bool.and_true,true_and,and_true,and_self,imp_self,implies_true,bne_iff_ne,ne_eq,beq_iff_eq];done) | (intros;simp_all;done) | exact True.intro) ?_)
  refine Zu (t:=(cond (decide (s0_.2 < (a0.Kids.length:Int))) (decide (0≤s0_.1)) false)) rfl (fun c9 => ?_) (fun c9 => ?_)
  ·replace hs0_:=Zs c9 hs0_
   refine Zy ?_
   try simp only [Zl,Zi]
   refine Zk [1,2,3,7] [true] ?_
   simp only [push_cast,seval,↓reduceIte]
   refine Zm ?_
   refine Z6 ?_
   obtain ⟨x6,hx6,ax6,bx6,cx6,hs0_⟩:=bE (f:=Zh) Zhd (fun _=>rfl) (by decide) hs0_
   have g7:=J3 (f:=Zh) (off:=1) (sz:=12) Zh6 (fun _=>rfl) (by decide) (by decide) hx6
   obtain ⟨y8,hy8,hs0_⟩:=bC hs0_
   refine Zc Zd [] ?_
   simp only [push_cast,Nat.reduceAdd,Nat.reduceSub,Nat.reduceMul,Nat.reduceLeDiff,Nat.reduceLT,Nat.reduceEqDiff,↓reduceIte,reduceCtorEq,Int.reduceBEq,Int.reduceBNe,Nat.reduceBEq,Int.reduceLE,Int.reduceLT,Int.reduceEq,Int.reduceNe,Int.reduceNeg,Nat.reduceDiv,Nat.reduceMod,Nat.reducePow,Za,ax6,bx6,cx6,g7,hN0,hN]
   refine (Zen hy8).then ?_
   simp only [push_cast,Nat.reduceAdd,Nat.reduceSub,Nat.reduceMul,Nat.reduceLeDiff,Nat.reduceLT,Nat.reduceEqDiff,↓reduceIte,reduceCtorEq,Int.reduceBEq,Int.reduceBNe,Nat.reduceBEq,Int.reduceLE,Int.reduceLT,Int.reduceEq,Int.reduceNe,Int.reduceNeg,Nat.reduceDiv,Nat.reduceMod,Nat.reducePow,Za,ax6,bx6,cx6,g7,hN0,hN]
   refine Zk [1,2,3,7] [true] ?_
   simp only [push_cast,seval,↓reduceIte]
   refine Zc Zd [] ?_
   simp only [push_cast,seval,↓reduceIte,Za,hN0,hN]
   have hs0_:=Option.some.inj hs0_;subst hs0_
   refine And.intro rfl (Fit2.of (Zj hU rfl rfl ?_) (by omega))
   simp only [push_cast,seval,↓reduceIte,Za,hN0,hN]
  replace hs0_:=Zr c9 hs0_
  refine Yx ?_
  try simp only [Zl,Zi,↓reduceIte,Nat.reduceEqDiff]
  have hs0_:=Option.some.inj hs0_;subst hs0_
  refine And.intro (fun h=>by cases h) (And.intro rfl (Fit2.of (Zj hU rfl rfl ?_) (by omega)))
  simp only [push_cast,seval,↓reduceIte,Za,hN0,hN]
 try simp only [Zl,Zi,↓reduceIte,Nat.reduceEqDiff]
 refine Zk [1,2,3] [true] ?_
 simp only [push_cast,seval,↓reduceIte]
 refine Zm ?_
 refine Zq [1,2,3,8] (Zc Zd [] ?_)
 simp only [push_cast,seval,↓reduceIte,Za,hN0,hN]
 refine Zk [1,2,3,8] [true] ?_
 simp only [push_cast,seval,↓reduceIte]
 obtain ⟨z27,hz27,h⟩:=bC h
 refine Yb (E':=⟨107,[],[(2,.val (.int .i64 z27))]⟩) (O':=(Zv O n [none])) (n0:=(n+1)) ?_ ?_
 ·refine Yn hz27 (fun s1_=>⟨107,[],[(1,.val (.int .i64 a1)),(2,.val (.int .i64 s1_.1)),(3,.ref n 0),(8,.val (.int .i64 s1_.2))]⟩) (fun s1_=>(Zv O n [some ⟨false,30,11,1,(Ze a0)⟩])) (fun z27=>JX 2 n (⟨107,[],[(2,.val (.int .i64 z27))]⟩:Env) (Zv O n [none]) (n+1)) ?_
  intro s1_ x1_ hs1_
  unfold Qd at hs1_
  try dsimp only
  refine Zm ?_
  refine Zq [1,2,3,8,65] (Zc Zd [none,none] ?_)
  simp only [push_cast,seval,↓reduceIte,Za,hN0,hN]
  repeat (with_reducible refine And.intro (by first | (intro h0;simp only [h0,and_self];done) | (intro h0;simp only [h0,Bool.not_false,Bool.not_true,Bool.true_and,Bool.and_true,true_and,and_true,and_self,imp_self,implies_true,bne_iff_ne,ne_eq,beq_iff_eq];done) | (intros;simp_all;done) | exact True.intro) ?_)
  refine Zu (t:=(cond (decide (s1_.2 < (a0.Ops.length:Int))) (decide (0≤s1_.1)) false)) rfl (fun c26 => ?_) (fun c26 => ?_)
  ·replace hs1_:=Zs c26 hs1_
   refine Zy ?_
   try simp only [Zl,Zi]
   refine Zk [1,2,3,8] [true] ?_
   simp only [push_cast,seval,↓reduceIte]
   obtain ⟨z11,hz11,hs1_⟩:=bC hs1_
   refine Yl (E':=⟨107,[],[(1,.val (.int .i64 a1)),(2,.val (.int .i64 z11)),(3,.ref n 0),(8,.val (.int .i64 s1_.2))]⟩) (O':=(Zv O n [some ⟨false,30,11,1,(Ze a0)⟩])) (n0:=(n+1)) ?_ ?_
   ·refine Z6 ?_
    refine Zm ?_
    refine Zq [1,2,3,8,9] (Zc Zd [] ?_)
    simp only [push_cast,seval,↓reduceIte,Za,hN0,hN]
    refine Zk [1,2,3,8,9] [true] ?_
    simp only [push_cast,seval,↓reduceIte]
    obtain ⟨z21,hz21,hz11⟩:=bC hz11
    refine Yb (E':=⟨107,[],[(1,.val (.int .i64 a1)),(2,.val (.int .i64 z21)),(3,.ref n 0),(8,.val (.int .i64 s1_.2))]⟩) (O':=(Zv O n [some ⟨false,30,11,1,(Ze a0)⟩])) (n0:=(n+1)) ?_ ?_
    ·refine Yn hz21 (fun s2_=>⟨107,[],[(1,.val (.int .i64 a1)),(2,.val (.int .i64 s2_.1)),(3,.ref n 0),(8,.val (.int .i64 s1_.2)),(9,.val (.int .i64 s2_.2))]⟩) (fun s2_=>(Zv O n [some ⟨false,30,11,1,(Ze a0)⟩])) (fun z21=>JX 4 n (⟨107,[],[(1,.val (.int .i64 a1)),(2,.val (.int .i64 z21)),(3,.ref n 0),(8,.val (.int .i64 s1_.2))]⟩:Env) (Zv O n [some ⟨false,30,11,1,(Ze a0)⟩]) (n+1)) ?_
     intro s2_ x2_ hs2_
     unfold Kh at hs2_
     try dsimp only
     refine Zm ?_
     obtain ⟨x14,hx14,ax14,bx14,cx14,hs2_⟩:=bE (f:=Zf) V2 (fun _=>rfl) (by decide) hs2_
     have g15:=J3 (f:=Zf) (off:=2) (sz:=14) Zsl (fun _=>rfl) (by decide) (by decide) hx14
     refine Zq [1,2,3,8,9,80] (Zc Zd [none,none] ?_)
     simp only [push_cast,Nat.reduceAdd,Nat.reduceSub,Nat.reduceMul,Nat.reduceLeDiff,Nat.reduceLT,Nat.reduceEqDiff,↓reduceIte,reduceCtorEq,Int.reduceBEq,Int.reduceBNe,Nat.reduceBEq,Int.reduceLE,Int.reduceLT,Int.reduceEq,Int.reduceNe,Int.reduceNeg,Nat.reduceDiv,Nat.reduceMod,Nat.reducePow,Za,ax14,bx14,cx14,g15,hN0,hN]
     repeat (with_reducible refine And.intro (by first | (intro h0;simp only [h0,and_self];done) | (intro h0;simp only [h0,Bool.not_false,Bool.not_true,Bool.true_and,Bool.and_true,true_and,and_true,and_self,imp_self,implies_true,bne_iff_ne,ne_eq,beq_iff_eq];done) | (intros;simp_all;done) | exact True.intro) ?_)
     refine Zu (t:=(cond (decide (s2_.2 < (x14.L.length:Int))) (decide (0≤s2_.1)) false)) rfl (fun c20 => ?_) (fun c20 => ?_)
     ·replace hs2_:=Zs c20 hs2_
      refine Zy ?_
      try simp only [Zl,Zi]
      refine Zk [1,2,3,8,9] [true] ?_
      simp only [push_cast,seval,↓reduceIte]
      refine Zm ?_
      refine Z6 ?_
      obtain ⟨x16,hx16,ax16,bx16,cx16,hs2_⟩:=bE (f:=Zf) V2 (fun _=>rfl) (by decide) hs2_
      have g17:=J3 (f:=Zf) (off:=2) (sz:=14) Zsl (fun _=>rfl) (by decide) (by decide) hx16
      obtain ⟨x18,hx18,ax18,bx18,cx18,hs2_⟩:=bE (f:=Zb) Zai (fun _=>rfl) (by decide) hs2_
      obtain ⟨y19,hy19,hs2_⟩:=bC hs2_
      refine Zc Zd [] ?_
      simp only [push_cast,Nat.reduceAdd,Nat.reduceSub,Nat.reduceMul,Nat.reduceLeDiff,Nat.reduceLT,Nat.reduceEqDiff,↓reduceIte,reduceCtorEq,Int.reduceBEq,Int.reduceBNe,Nat.reduceBEq,Int.reduceLE,Int.reduceLT,Int.reduceEq,Int.reduceNe,Int.reduceNeg,Nat.reduceDiv,Nat.reduceMod,Nat.reducePow,Za,ax16,bx16,cx16,g17,ax18,bx18,cx18,hN0,hN]
      refine (Zaq hy19).then ?_
      simp only [push_cast,Nat.reduceAdd,Nat.reduceSub,Nat.reduceMul,Nat.reduceLeDiff,Nat.reduceLT,Nat.reduceEqDiff,↓reduceIte,reduceCtorEq,Int.reduceBEq,Int.reduceBNe,Nat.reduceBEq,Int.reduceLE,Int.reduceLT,Int.reduceEq,Int.reduceNe,Int.reduceNeg,Nat.reduceDiv,Nat.reduceMod,Nat.reducePow,Za,ax16,bx16,cx16,g17,ax18,bx18,cx18,hN0,hN]
      refine Zk [1,2,3,8,9] [true] ?_
      simp only [push_cast,seval,↓reduceIte]
      refine Zc Zd [] ?_
      simp only [push_cast,seval,↓reduceIte,Za,hN0,hN]
      have hs2_:=Option.some.inj hs2_;subst hs2_
      refine And.intro rfl (Fit2.of (Zj hU rfl rfl ?_) (by omega))
      simp only [push_cast,seval,↓reduceIte,Za,hN0,hN]
     replace hs2_:=Zr c20 hs2_
     refine Yx ?_
     try simp only [Zl,Zi,↓reduceIte,Nat.reduceEqDiff]
     have hs2_:=Option.some.inj hs2_;subst hs2_
     refine And.intro (fun h=>by cases h) (And.intro rfl (Fit2.of (Zj hU rfl rfl ?_) (by omega)))
     simp only [push_cast,seval,↓reduceIte,Za,hN0,hN]
    try simp only [Zl,Zi,↓reduceIte,Nat.reduceEqDiff]
    refine Zk [1,2,3,8] [true] ?_
    simp only [push_cast,seval,↓reduceIte]
    refine Zq [1,2,3,8,95] (Zc Zd [] ?_)
    simp only [push_cast,seval,↓reduceIte,Za,hN0,hN]
    refine Zu (t:=(decide (0≤z21))) rfl (fun c25 => ?_) (fun c25 => ?_)
    ·replace hz11:=Zs c25 hz11
     obtain ⟨x22,hx22,ax22,bx22,cx22,hz11⟩:=bE (f:=Zf) V2 (fun _=>rfl) (by decide) hz11
     have g23:=J3 (f:=Zf) (off:=3) (sz:=14) Zh6 (fun _=>rfl) (by decide) (by decide) hx22
     obtain ⟨y24,hy24,hz11⟩:=bC hz11
     refine Zc Zd [] ?_
     simp only [push_cast,Nat.reduceAdd,Nat.reduceSub,Nat.reduceMul,Nat.reduceLeDiff,Nat.reduceLT,Nat.reduceEqDiff,↓reduceIte,reduceCtorEq,Int.reduceBEq,Int.reduceBNe,Nat.reduceBEq,Int.reduceLE,Int.reduceLT,Int.reduceEq,Int.reduceNe,Int.reduceNeg,Nat.reduceDiv,Nat.reduceMod,Nat.reducePow,Za,ax22,bx22,cx22,g23,hN0,hN]
     refine (Zen hy24).then ?_
     simp only [push_cast,Nat.reduceAdd,Nat.reduceSub,Nat.reduceMul,Nat.reduceLeDiff,Nat.reduceLT,Nat.reduceEqDiff,↓reduceIte,reduceCtorEq,Int.reduceBEq,Int.reduceBNe,Nat.reduceBEq,Int.reduceLE,Int.reduceLT,Int.reduceEq,Int.reduceNe,Int.reduceNeg,Nat.reduceDiv,Nat.reduceMod,Nat.reducePow,Za,ax22,bx22,cx22,g23,hN0,hN]
     have hz11:=Option.some.inj hz11;subst hz11
     refine And.intro rfl (Fit2.of (Zj hU rfl rfl ?_) (by omega))
     simp only [push_cast,Nat.reduceAdd,Nat.reduceSub,Nat.reduceMul,Nat.reduceLeDiff,Nat.reduceLT,Nat.reduceEqDiff,↓reduceIte,reduceCtorEq,Int.reduceBEq,Int.reduceBNe,Nat.reduceBEq,Int.reduceLE,Int.reduceLT,Int.reduceEq,Int.reduceNe,Int.reduceNeg,Nat.reduceDiv,Nat.reduceMod,Nat.reducePow,Za,ax22,bx22,cx22,g23,hN0,hN]
    replace hz11:=Zr c25 hz11
    refine Zy ?_
    try simp only [Zl,Zi]
    have hz11:=Option.some.inj hz11;subst hz11
    refine And.intro rfl (Fit2.of (Zj hU rfl rfl ?_) (by omega))
    simp only [push_cast,seval,↓reduceIte,Za,hN0,hN]
   refine Zc Zd [] ?_
   simp only [push_cast,seval,↓reduceIte,Za,hN0,hN]
   have hs1_:=Option.some.inj hs1_;subst hs1_
   refine And.intro rfl (Fit2.of (Zj hU rfl rfl ?_) (by omega))
   simp only [push_cast,seval,↓reduceIte,Za,hN0,hN]
  replace hs1_:=Zr c26 hs1_
  refine Yx ?_
  try simp only [Zl,Zi,↓reduceIte,Nat.reduceEqDiff]
  have hs1_:=Option.some.inj hs1_;subst hs1_
  refine And.intro (fun h=>by cases h) (And.intro rfl (Fit2.of (Zj hU rfl rfl ?_) (by omega)))
  simp only [push_cast,seval,↓reduceIte,Za,hN0,hN]
 try simp only [Zl,Zi,↓reduceIte,Nat.reduceEqDiff]
 refine Zk [2] [false] ?_
 simp only [push_cast,seval,↓reduceIte]
 refine Zq [6] (Zc Zd [] ?_)
 simp only [push_cast,seval,↓reduceIte,Za,hN0,hN]
 refine Z0 ?_
 try simp only [Zl,Zi]
 have h:=Option.some.inj h;subst h
 refine Zt (.inr rfl) hU [.val (.int .i64 z27)] (by omega) ?_
 simp only [push_cast,seval,↓reduceIte,Za,Try.results83,hN0,hN]
theorem Zic:∀ k,(∀ {a0:S_api_Edit} {a1:Int} {a2:Int} {r:Int} {O:Objs} {n:Nat},(Yg k) a0 a1 a2=some r→GTo Try.prog 83 [.agg (Ze a0),.val (.int .i64 a1),.val (.int .i64 a2)] O n (.val (.int .i64 r)) O n):=fun k=>by
 induction k with
 | zero=>exact @fun a0 a1 a2 r O n h=>(nomatch (show (none:Option _)=some _ from h))
 | succ k ih=>exact @fun a0 a1 a2 r O n h=>Zjz (ih)  h
theorem Zkr {a0:S_api_Edit} {a1:Int} {a2:Int} {r:Int} {O:Objs} {n:Nat} (h:Zdb a0 a1 a2=some r):GTo Try.prog 83 [.agg (Ze a0),.val (.int .i64 a1),.val (.int .i64 a2)] O n (.val (.int .i64 r)) O n:=by
 obtain ⟨k,hk⟩:=Vs h
 exact (Zic k)  hk
theorem Zdg {a0:S_api_Edit} {r:Bool} {O:Objs} {n:Nat} (h:U9 a0=some r):GTo Try.prog 49 [.agg (Ze a0)] O n (.val (.bool r)) O n:=by
 unfold U9 at h
 refine Y3 Zd Try.call49 Try.func49 rfl (Nat.le_of_ble_eq_true rfl) (Nat.le_refl _) fun hU => ?_
 have hN0:O n=none:=hU.fresh _ (Nat.le_refl _)
 have hN:∀ k,O (n+k)=none:=fun k=>hU.fresh _ (Nat.le_add_right _ _)
 show W _ _ _ _ ⟨6,[],[(0,.agg (Ze a0))]⟩ (Zv O n []) _
 refine Zq [1] (Zc Zd [] ?_)
 simp only [push_cast,seval,↓reduceIte,Za,hN0,hN]
 refine Zm ?_
 obtain ⟨y2,hy2,h⟩:=bC h
 refine Zc Zd [] ?_
 simp only [push_cast,seval,↓reduceIte,Za,hN0,hN]
 refine (Zkr hy2).then ?_
 simp only [push_cast,seval,↓reduceIte,Za,hN0,hN]
 refine Zk [2] [false] ?_
 simp only [push_cast,seval,↓reduceIte]
 refine Z0 ?_
 try simp only [Zl,Zi]
 have h:=Option.some.inj h;subst h
 refine Zt (.inr rfl) hU [.val (.bool (decide (0≤y2)))] (by omega) ?_
 simp only [push_cast,seval,↓reduceIte,Za,Try.results49,hN0,hN]
theorem J7 {a0:S_api_Tree} {r:Bool} {O:Objs} {n:Nat} (h:Qm a0=some r):GTo Try.prog 67 [.agg (Zo a0)] O n (.val (.bool r)) O n:=by
 unfold Qm at h
 refine Y3 Zd Try.call67 Try.func67 rfl (Nat.le_of_ble_eq_true rfl) (Nat.le_refl _) fun hU => ?_
 have hN0:O n=none:=hU.fresh _ (Nat.le_refl _)
 have hN:∀ k,O (n+k)=none:=fun k=>hU.fresh _ (Nat.le_add_right _ _)
 show W _ _ _ _ ⟨16,[],[(0,.agg (Zo a0))]⟩ (Zv O n []) _
 refine Zq [1] (Zc Zd [] ?_)
 simp only [push_cast,seval,↓reduceIte,Za,hN0,hN]
 refine Zq [2] (Zc Zd [none,none,none,none,none,none,none,none] ?_)
 simp only [push_cast,seval,↓reduceIte,Za,hN0,hN]
 repeat (with_reducible refine And.intro (by first | (intro h0;simp only [h0,and_self];done) | (intro h0;simp only [h0,Bool.not_false,Bool.not_true,Bool.true_and,Bool.and_true,true_and,and_true,and_self,imp_self,implies_true,bne_iff_ne,ne_eq,beq_iff_eq];done) | (intros;simp_all;done) | exact True.intro) ?_)
 refine Z0 ?_
 try simp only [Zl,Zi]
 have h:=Option.some.inj h;subst h
 refine Zt (.inr rfl) hU [.val (.bool (cond (a0.Kind == 0) ((IntKind.i64.wrap ((a0.Words.length:Int)+(a0.Kids.length:Int))) == 0) false))] (by omega) ?_
 simp only [push_cast,seval,↓reduceIte,Za,Try.results67,hN0,hN]
theorem Zjt {a0:Int} {r:Int} {O:Objs} {n:Nat} (h:Zch a0=some r):GTo Try.prog 92 [.val (.int .i64 a0)] O n (.val (.int .i64 r)) O n:=by
 unfold Zch at h
 refine Y3 Zd Try.call92 Try.func92 rfl (Nat.le_of_ble_eq_true rfl) (Nat.le_refl _) fun hU => ?_
 have hN0:O n=none:=hU.fresh _ (Nat.le_refl _)
 have hN:∀ k,O (n+k)=none:=fun k=>hU.fresh _ (Nat.le_add_right _ _)
 show W _ _ _ _ ⟨16,[],[(0,.val (.int .i64 a0))]⟩ (Zv O n []) _
 refine Zq [0] (Zc Zd [] ?_)
 simp only [push_cast,seval,↓reduceIte,Za,hN0,hN]
 refine Zm ?_
 refine Zq [3] (Zc Zd [] ?_)
 simp only [push_cast,seval,↓reduceIte,Za,hN0,hN]
 refine Z6 ?_
 refine Zq [3,4] (Zc Zd [] ?_)
 simp only [push_cast,seval,↓reduceIte,Za,hN0,hN]
 refine Zu (t:=(a0 == 0)) rfl (fun c6 => ?_) (fun c6 => ?_)
 ·replace h:=Zs c6 h
  refine Zq [2] (Zc Zd [] ?_)
  simp only [push_cast,seval,↓reduceIte,Za,hN0,hN]
  refine Z0 ?_
  try simp only [Zl,Zi]
  have h:=Option.some.inj h;subst h
  refine Zt (.inr rfl) hU [.val (.int .i64 0)] (by omega) ?_
  simp only [push_cast,seval,↓reduceIte,Za,Try.results92,hN0,hN]
 replace h:=Zr c6 h
 refine Zq [3,6] (Zc Zd [] ?_)
 simp only [push_cast,seval,↓reduceIte,Za,hN0,hN]
 refine Zu (t:=(a0 == 1)) rfl (fun c5 => ?_) (fun c5 => ?_)
 ·replace h:=Zs c5 h
  refine Zq [2] (Zc Zd [] ?_)
  simp only [push_cast,seval,↓reduceIte,Za,hN0,hN]
  refine Z0 ?_
  try simp only [Zl,Zi]
  have h:=Option.some.inj h;subst h
  refine Zt (.inr rfl) hU [.val (.int .i64 1)] (by omega) ?_
  simp only [push_cast,seval,↓reduceIte,Za,Try.results92,hN0,hN]
 replace h:=Zr c5 h
 refine Zq [3,8] (Zc Zd [] ?_)
 simp only [push_cast,seval,↓reduceIte,Za,hN0,hN]
 refine Zu (t:=(a0 == 2)) rfl (fun c4 => ?_) (fun c4 => ?_)
 ·replace h:=Zs c4 h
  refine Zq [2] (Zc Zd [] ?_)
  simp only [push_cast,seval,↓reduceIte,Za,hN0,hN]
  refine Z0 ?_
  try simp only [Zl,Zi]
  have h:=Option.some.inj h;subst h
  refine Zt (.inr rfl) hU [.val (.int .i64 8)] (by omega) ?_
  simp only [push_cast,seval,↓reduceIte,Za,Try.results92,hN0,hN]
 replace h:=Zr c4 h
 refine Zq [3,10] (Zc Zd [] ?_)
 simp only [push_cast,seval,↓reduceIte,Za,hN0,hN]
 refine Zu (t:=(a0 == 3)) rfl (fun c3 => ?_) (fun c3 => ?_)
 ·replace h:=Zs c3 h
  refine Zq [2] (Zc Zd [] ?_)
  simp only [push_cast,seval,↓reduceIte,Za,hN0,hN]
  refine Z0 ?_
  try simp only [Zl,Zi]
  have h:=Option.some.inj h;subst h
  refine Zt (.inr rfl) hU [.val (.int .i64 16)] (by omega) ?_
  simp only [push_cast,seval,↓reduceIte,Za,Try.results92,hN0,hN]
 replace h:=Zr c3 h
 refine Zq [3,12] (Zc Zd [] ?_)
 simp only [push_cast,seval,↓reduceIte,Za,hN0,hN]
 refine Zu (t:=(a0 == 4)) rfl (fun c2 => ?_) (fun c2 => ?_)
 ·replace h:=Zs c2 h
  refine Zq [2] (Zc Zd [] ?_)
  simp only [push_cast,seval,↓reduceIte,Za,hN0,hN]
  refine Z0 ?_
  try simp only [Zl,Zi]
  have h:=Option.some.inj h;subst h
  refine Zt (.inr rfl) hU [.val (.int .i64 32)] (by omega) ?_
  simp only [push_cast,seval,↓reduceIte,Za,Try.results92,hN0,hN]
 replace h:=Zr c2 h
 refine Zq [14] (Zc Zd [] ?_)
 simp only [push_cast,seval,↓reduceIte,Za,hN0,hN]
 refine Zu (t:=(a0 == 5)) rfl (fun c1 => ?_) (fun c1 => ?_)
 ·replace h:=Zs c1 h
  refine Zq [2] (Zc Zd [] ?_)
  simp only [push_cast,seval,↓reduceIte,Za,hN0,hN]
  refine Z0 ?_
  try simp only [Zl,Zi]
  have h:=Option.some.inj h;subst h
  refine Zt (.inr rfl) hU [.val (.int .i64 64)] (by omega) ?_
  simp only [push_cast,seval,↓reduceIte,Za,Try.results92,hN0,hN]
 replace h:=Zr c1 h
 refine Zy ?_
 try simp only [Zl,Zi]
 refine Zk [] [] ?_
 simp only [push_cast,seval,↓reduceIte]
 refine Zq [2] (Zc Zd [] ?_)
 simp only [push_cast,seval,↓reduceIte,Za,hN0,hN]
 refine Z0 ?_
 try simp only [Zl,Zi]
 have h:=Option.some.inj h;subst h
 refine Zt (.inr rfl) hU [.val (.int .i64 (-1))] (by omega) ?_
 simp only [push_cast,seval,↓reduceIte,Za,Try.results92,hN0,hN]
theorem Zfl {a0:Int} {a1:Int} {r:Bool} {O:Objs} {n:Nat} (h:Ku a0 a1=some r):GTo Try.prog 57 [.val (.int .i64 a0),.val (.int .u64 a1)] O n (.val (.bool r)) O n:=by
 unfold Ku at h
 refine Y3 Zd Try.call57 Try.func57 rfl (Nat.le_of_ble_eq_true rfl) (Nat.le_refl _) fun hU => ?_
 have hN0:O n=none:=hU.fresh _ (Nat.le_refl _)
 have hN:∀ k,O (n+k)=none:=fun k=>hU.fresh _ (Nat.le_add_right _ _)
 show W _ _ _ _ ⟨20,[],[(0,.val (.int .i64 a0)),(1,.val (.int .u64 a1))]⟩ (Zv O n []) _
 refine Zq [0,1] (Zc Zd [] ?_)
 simp only [push_cast,seval,↓reduceIte,Za,hN0,hN]
 refine Zm ?_
 obtain ⟨y2,hy2,h⟩:=bC h
 refine Zc Zd [] ?_
 simp only [push_cast,seval,↓reduceIte,Za,hN0,hN]
 refine (Zjt hy2).then ?_
 simp only [push_cast,seval,↓reduceIte,Za,hN0,hN]
 refine Zk [1,5] [] ?_
 simp only [push_cast,seval,↓reduceIte]
 refine Zm ?_
 refine Zq [1,5,10] (Zc Zd [] ?_)
 simp only [push_cast,seval,↓reduceIte,Za,hN0,hN]
 refine Zu (t:=(decide (y2 < 0))) rfl (fun c5 => ?_) (fun c5 => ?_)
 ·replace h:=Zs c5 h
  refine Zq [4] (Zc Zd [] ?_)
  simp only [push_cast,seval,↓reduceIte,Za,hN0,hN]
  refine Z0 ?_
  try simp only [Zl,Zi]
  have h:=Option.some.inj h;subst h
  refine Zt (.inr rfl) hU [.val (.bool false)] (by omega) ?_
  simp only [push_cast,seval,↓reduceIte,Za,Try.results57,hN0,hN]
 replace h:=Zr c5 h
 refine Zy ?_
 try simp only [Zl,Zi]
 refine Zk [1,5] [] ?_
 simp only [push_cast,seval,↓reduceIte]
 refine Zm ?_
 refine Zq [1,5,6] (Zc Zd [] ?_)
 simp only [push_cast,seval,↓reduceIte,Za,hN0,hN]
 refine Zk [1,5,6] [] ?_
 simp only [push_cast,seval,↓reduceIte]
 obtain ⟨z4,hz4,h⟩:=bC h
 refine Yb (E':=⟨20,[],[(1,.val (.int .u64 z4))]⟩) (O':=(Zv O n [])) (n0:=n) ?_ ?_
 ·refine Yn hz4 (fun s0_=>⟨20,[],[(1,.val (.int .u64 s0_.1)),(5,.val (.int .i64 y2)),(6,.val (.int .i64 s0_.2))]⟩) (fun s0_=>(Zv O n [])) (fun z4=>JX 0 n (⟨20,[],[(1,.val (.int .u64 z4))]⟩:Env) (Zv O n []) n) ?_
  intro s0_ x0_ hs0_
  unfold Xr at hs0_
  try dsimp only
  refine Zm ?_
  refine Zq [1,5,6,13] (Zc Zd [] ?_)
  simp only [push_cast,seval,↓reduceIte,Za,hN0,hN]
  refine Zu (t:=(decide (s0_.2 < y2))) rfl (fun c3 => ?_) (fun c3 => ?_)
  ·replace hs0_:=Zs c3 hs0_
   refine Zy ?_
   try simp only [Zl,Zi]
   refine Zk [1,5,6] [] ?_
   simp only [push_cast,seval,↓reduceIte]
   refine Zm ?_
   refine Z6 ?_
   refine Zc Zd [] ?_
   simp only [push_cast,seval,↓reduceIte,Za,hN0,hN]
   refine Zk [1,5,6] [] ?_
   simp only [push_cast,seval,↓reduceIte]
   refine Zc Zd [] ?_
   simp only [push_cast,seval,↓reduceIte,Za,hN0,hN]
   have hs0_:=Option.some.inj hs0_;subst hs0_
   refine And.intro rfl (Fit2.of (Zj hU rfl rfl ?_) (by omega))
   simp only [push_cast,seval,↓reduceIte,Za,hN0,hN]
  replace hs0_:=Zr c3 hs0_
  refine Yx ?_
  try simp only [Zl,Zi,↓reduceIte,Nat.reduceEqDiff]
  have hs0_:=Option.some.inj hs0_;subst hs0_
  refine And.intro (fun h=>by cases h) (And.intro rfl (Fit2.of (Zj hU rfl rfl ?_) (by omega)))
  simp only [push_cast,seval,↓reduceIte,Za,hN0,hN]
 try simp only [Zl,Zi,↓reduceIte,Nat.reduceEqDiff]
 refine Zk [1] [] ?_
 simp only [push_cast,seval,↓reduceIte]
 refine Zq [4] (Zc Zd [] ?_)
 simp only [push_cast,seval,↓reduceIte,Za,hN0,hN]
 refine Z0 ?_
 try simp only [Zl,Zi]
 have h:=Option.some.inj h;subst h
 refine Zt (.inr rfl) hU [.val (.bool (z4 == 0))] (by omega) ?_
 simp only [push_cast,seval,↓reduceIte,Za,Try.results57,hN0,hN]
theorem Ziu {Ka:(S_api_Tree→Int→Option Bool)} (Zif:∀ {a0:S_api_Tree} {a1:Int} {r:Bool} {O:Objs} {n:Nat},Ka a0 a1=some r→GTo Try.prog 22 [.agg (Zo a0),.val (.int .i64 a1)] O n (.val (.bool r)) O n) {a0:S_api_Tree} {a1:Int} {r:Bool} {O:Objs} {n:Nat} (h:Vg Ka a0 a1=some r):GTo Try.prog 22 [.agg (Zo a0),.val (.int .i64 a1)] O n (.val (.bool r)) O n:=by
 unfold Vg at h
 refine Y3 Zd Try.call22 Try.func22 rfl (Nat.le_of_ble_eq_true rfl) (Nat.le_refl _) fun hU => ?_
 have hN0:O n=none:=hU.fresh _ (Nat.le_refl _)
 have hN:∀ k,O (n+k)=none:=fun k=>hU.fresh _ (Nat.le_add_right _ _)
 show W _ _ _ _ ⟨132,[],[(0,.agg (Zo a0)),(1,.val (.int .i64 a1))]⟩ (Zv O n []) _
 refine Zq [1,2] (Zc Zd [] ?_)
 simp only [push_cast,seval,↓reduceIte,Za,hN0,hN]
 refine Zm ?_
 refine Zq [1,2,10] (Zc Zd [] ?_)
 simp only [push_cast,seval,↓reduceIte,Za,hN0,hN]
 refine Zu (t:=(a0.Kind == 0)) rfl (fun c32 => ?_) (fun c32 => ?_)
 ·replace h:=Zs c32 h
  refine Zq [4] (Zc Zd [none,none,none,none] ?_)
  simp only [push_cast,seval,↓reduceIte,Za,hN0,hN]
  repeat (with_reducible refine And.intro (by first | (intro h0;simp only [h0,and_self];done) | (intro h0;simp only [h0,Bool.not_false,Bool.not_true,Bool.true_and,Bool.and_true,true_and,and_true,and_self,imp_self,implies_true,bne_iff_ne,ne_eq,beq_iff_eq];done) | (intros;simp_all;done) | exact True.intro) ?_)
  refine Z0 ?_
  try simp only [Zl,Zi]
  have h:=Option.some.inj h;subst h
  refine Zt (.inr rfl) hU [.val (.bool (cond ((a0.Words.length:Int) == 0) ((a0.Kids.length:Int) == 0) false))] (by omega) ?_
  simp only [push_cast,seval,↓reduceIte,Za,Try.results22,hN0,hN]
 replace h:=Zr c32 h
 refine Zy ?_
 try simp only [Zl,Zi]
 refine Zk [1,2] [true] ?_
 simp only [push_cast,seval,↓reduceIte]
 refine Zm ?_
 refine Zq [1,2,23] (Zc Zd [] ?_)
 simp only [push_cast,seval,↓reduceIte,Za,hN0,hN]
 refine Zu (t:=(a0.Kind == 10)) rfl (fun c31 => ?_) (fun c31 => ?_)
 ·replace h:=Zs c31 h
  refine Zq [4] (Zc Zd [none,none,none,none] ?_)
  simp only [push_cast,seval,↓reduceIte,Za,hN0,hN]
  repeat (with_reducible refine And.intro (by first | (intro h0;simp only [h0,and_self];done) | (intro h0;simp only [h0,Bool.not_false,Bool.not_true,Bool.true_and,Bool.and_true,true_and,and_true,and_self,imp_self,implies_true,bne_iff_ne,ne_eq,beq_iff_eq];done) | (intros;simp_all;done) | exact True.intro) ?_)
  refine Z0 ?_
  try simp only [Zl,Zi]
  have h:=Option.some.inj h;subst h
  refine Zt (.inr rfl) hU [.val (.bool (cond ((a0.Words.length:Int) == 1) ((a0.Kids.length:Int) == 0) false))] (by omega) ?_
  simp only [push_cast,seval,↓reduceIte,Za,Try.results22,hN0,hN]
 replace h:=Zr c31 h
 refine Zy ?_
 try simp only [Zl,Zi]
 refine Zk [1,2] [true] ?_
 simp only [push_cast,seval,↓reduceIte]
 refine Zm ?_
 refine Zq [1,2,68] (Zc Zd [none,none,none,none,none,none,none,none,none,none,none,none,none,none,none,none,none,none,none,none,none,none] ?_)
 simp only [push_cast,seval,↓reduceIte,Za,hN0,hN]
 repeat (with_reducible refine And.intro (by first | (intro h0;simp only [h0,and_self];done) | (intro h0;simp only [h0,Bool.not_false,Bool.not_true,Bool.true_and,Bool.and_true,true_and,and_true,and_self,imp_self,implies_true,bne_iff_ne,ne_eq,beq_iff_eq];done) | (intros;simp_all;done) | exact True.intro) ?_)
 refine Zu (t:=(cond (cond (cond (cond (cond (decide (a0.Kind < 0)) true (decide (10 < a0.Kind))) true (a1 == 0)) true (decide (65536≤(a0.Words.length:Int)))) true (cond (a0.Kind == 1) (decide (65536≤(a0.Kids.length:Int))) false)) true (decide (1048576≤(a0.Kids.length:Int))))) rfl (fun c30 => ?_) (fun c30 => ?_)
 ·replace h:=Zs c30 h
  refine Zq [4] (Zc Zd [] ?_)
  simp only [push_cast,seval,↓reduceIte,Za,hN0,hN]
  refine Z0 ?_
  try simp only [Zl,Zi]
  have h:=Option.some.inj h;subst h
  refine Zt (.inr rfl) hU [.val (.bool false)] (by omega) ?_
  simp only [push_cast,seval,↓reduceIte,Za,Try.results22,hN0,hN]
 replace h:=Zr c30 h
 refine Zy ?_
 try simp only [Zl,Zi]
 refine Zk [1,2] [true] ?_
 simp only [push_cast,seval,↓reduceIte]
 refine Zm ?_
 refine Zq [1,2,77] (Zc Zd [none,none,none,none] ?_)
 simp only [push_cast,seval,↓reduceIte,Za,hN0,hN]
 repeat (with_reducible refine And.intro (by first | (intro h0;simp only [h0,and_self];done) | (intro h0;simp only [h0,Bool.not_false,Bool.not_true,Bool.true_and,Bool.and_true,true_and,and_true,and_self,imp_self,implies_true,bne_iff_ne,ne_eq,beq_iff_eq];done) | (intros;simp_all;done) | exact True.intro) ?_)
 refine Zu (t:=(cond (decide (1 < a0.Kind)) (decide (0 < (a0.Words.length:Int))) false)) rfl (fun c29 => ?_) (fun c29 => ?_)
 ·replace h:=Zs c29 h
  refine Zq [4] (Zc Zd [] ?_)
  simp only [push_cast,seval,↓reduceIte,Za,hN0,hN]
  refine Z0 ?_
  try simp only [Zl,Zi]
  have h:=Option.some.inj h;subst h
  refine Zt (.inr rfl) hU [.val (.bool false)] (by omega) ?_
  simp only [push_cast,seval,↓reduceIte,Za,Try.results22,hN0,hN]
 replace h:=Zr c29 h
 refine Zy ?_
 try simp only [Zl,Zi]
 refine Zk [1,2] [true] ?_
 simp only [push_cast,seval,↓reduceIte]
 refine Zm ?_
 refine Zq [1,2,5] (Zc Zd [] ?_)
 simp only [push_cast,seval,↓reduceIte,Za,hN0,hN]
 refine Zk [1,2,5] [true] ?_
 simp only [push_cast,seval,↓reduceIte]
 obtain ⟨z28,hz28,h⟩:=bC h
 refine U0 (J:=(Xc (fun z28=>JR n (⟨132,[],[(4,.val (.bool false))]⟩:Env) (Zv O n [none]) (n+1)) (fun z28=>JX 0 n (⟨132,[],[]⟩:Env) (Zv O n [none]) (n+1)))) (z:=z28) ?_ fun hw => ?_
 ·refine Yn hz28 (fun s0_=>⟨132,[],[(1,.val (.int .i64 a1)),(2,.ref n 0),(5,.val (.int .i64 s0_))]⟩) (fun s0_=>(Zv O n [some ⟨false,25,3,1,(Zo a0)⟩])) (Xc (fun z28=>JR n (⟨132,[],[(4,.val (.bool false))]⟩:Env) (Zv O n [none]) (n+1)) (fun z28=>JX 0 n (⟨132,[],[]⟩:Env) (Zv O n [none]) (n+1))) ?_
  intro s0_ x0_ hs0_
  unfold Jt at hs0_
  try dsimp only
  refine Zm ?_
  refine Zq [1,2,5,82] (Zc Zd [] ?_)
  simp only [push_cast,seval,↓reduceIte,Za,hN0,hN]
  refine Zu (t:=(decide (s0_ < (a0.Kids.length:Int)))) rfl (fun c27 => ?_) (fun c27 => ?_)
  ·replace hs0_:=Zs c27 hs0_
   refine Zy ?_
   try simp only [Zl,Zi]
   refine Zk [1,2,5] [true] ?_
   simp only [push_cast,seval,↓reduceIte]
   refine Zm ?_
   refine Z6 ?_
   refine Zm ?_
   obtain ⟨x2,hx2,ax2,bx2,cx2,hs0_⟩:=bE (f:=Zb) Zai (fun _=>rfl) (by decide) hs0_
   refine Zc Zd [] ?_
   simp only [push_cast,Nat.reduceAdd,Nat.reduceSub,Nat.reduceMul,Nat.reduceLeDiff,Nat.reduceLT,Nat.reduceEqDiff,↓reduceIte,reduceCtorEq,Int.reduceBEq,Int.reduceBNe,Nat.reduceBEq,Int.reduceLE,Int.reduceLT,Int.reduceEq,Int.reduceNe,Int.reduceNeg,Nat.reduceDiv,Nat.reduceMod,Nat.reducePow,Za,ax2,bx2,cx2,hN0,hN]
   refine Zk [1,2,5,6] [true,true] ?_
   simp only [push_cast,seval,↓reduceIte]
   refine Zm ?_
   refine Zm ?_
   obtain ⟨y4,hy4,hs0_⟩:=bC hs0_
   refine Zc Zd [] ?_
   simp only [push_cast,seval,↓reduceIte,Za,hN0,hN]
   refine (Zif hy4).then ?_
   simp only [push_cast,seval,↓reduceIte,Za,hN0,hN]
   refine Zk [1,2,5,6,94] [true,true] ?_
   simp only [push_cast,seval,↓reduceIte]
   refine Zu (t:=(!y4)) rfl (fun c26 => ?_) (fun c26 => ?_)
   ·replace hs0_:=Zs c26 hs0_
    refine Zq [4] (Zc Zd [] ?_)
    simp only [push_cast,seval,↓reduceIte,Za,hN0,hN]
    refine Z0 ?_
    try simp only [Zl,Zi]
    have hs0_:=Option.some.inj hs0_;subst hs0_
    refine And.intro (fun h=>by cases h) (And.intro rfl (Fit2.of (Zj hU rfl rfl ?_) (by omega)))
    simp only [push_cast,seval,↓reduceIte,Za,hN0,hN]
   replace hs0_:=Zr c26 hs0_
   refine Zy ?_
   try simp only [Zl,Zi]
   refine Zk [1,2,5,6] [true,true] ?_
   simp only [push_cast,seval,↓reduceIte]
   refine Zq [1,2,5,6,7] (Zc Zd [none,none,none] ?_)
   simp only [push_cast,seval,↓reduceIte,Za,hN0,hN]
   repeat (with_reducible refine And.intro (by first | (intro h0;simp only [h0,and_self];done) | (intro h0;simp only [h0,Bool.not_false,Bool.not_true,Bool.true_and,Bool.and_true,true_and,and_true,and_self,imp_self,implies_true,bne_iff_ne,ne_eq,beq_iff_eq];done) | (intros;simp_all;done) | exact True.intro) ?_)
   obtain ⟨z9,hz9,hs0_⟩:=bC hs0_
   refine Yl (E':=⟨132,[],[(1,.val (.int .i64 a1)),(2,.ref n 0),(5,.val (.int .i64 s0_)),(131,.val (.bool z9))]⟩) (O':=(Zv O n [some ⟨false,25,3,1,(Zo a0)⟩,none])) (n0:=(n+2)) ?_ ?_
   ·rcases Bool.eq_false_or_eq_true ((cond (decide (2≤a0.Kind)) (decide (a0.Kind≤7)) false) != (x2.Kind == 10)) with c18 | c18
    ·replace hz9:=Zs c18 hz9
     refine K8 Zd (by kernel_rfl) [none,none,none,none,none,none,none,none,some false,some false,some false,some false,some false,some false,some false,some false,some false,some false,some false,some false] (by kernel_rfl) ?_
     simp only [push_cast,seval,↓reduceIte,Za,c18,hN0,hN]
     repeat (with_reducible refine And.intro (by first | (intro h0;simp only [h0,and_self];done) | (intro h0;simp only [h0,Bool.not_false,Bool.not_true,Bool.true_and,Bool.and_true,true_and,and_true,and_self,imp_self,implies_true,bne_iff_ne,ne_eq,beq_iff_eq];done) | (intros;simp_all;done) | exact True.intro) ?_)
     have hz9:=Option.some.inj hz9;subst hz9
     refine And.intro rfl (Fit2.of (Zj hU rfl rfl ?_) (by omega))
     simp only [push_cast,seval,↓reduceIte,Za,c18,hN0,hN]
    replace hz9:=Zr c18 hz9
    rcases Bool.eq_false_or_eq_true (a0.Kind == 9) with c19 | c19
    ·replace hz9:=Zs c19 hz9
     try rw [c19] at c18
     rcases Bool.eq_false_or_eq_true (x2.Kind != 1) with c20 | c20
     ·replace hz9:=Zs c20 hz9
      try rw [c20] at c18
      try rw [c20] at c19
      refine K8 Zd (by kernel_rfl) [none,none,none,none,none,none,none,none,some false,some false,some false,some false,some false,some false,some false,some false,some false,some false,some false,some false] (by kernel_rfl) ?_
      simp only [push_cast,seval,↓reduceIte,Za,c18,c19,c20,hN0,hN]
      repeat (with_reducible refine And.intro (by first | (intro h0;simp only [h0,and_self];done) | (intro h0;simp only [h0,Bool.not_false,Bool.not_true,Bool.true_and,Bool.and_true,true_and,and_true,and_self,imp_self,implies_true,bne_iff_ne,ne_eq,beq_iff_eq];done) | (intros;simp_all;done) | exact True.intro) ?_)
      have hz9:=Option.some.inj hz9;subst hz9
      refine And.intro rfl (Fit2.of (Zj hU rfl rfl ?_) (by omega))
      simp only [push_cast,seval,↓reduceIte,Za,c18,c19,c20,hN0,hN]
     replace hz9:=Zr c20 hz9
     try rw [c20] at c18
     try rw [c20] at c19
     rcases Bool.eq_false_or_eq_true (decide (2≤a0.Kind)) with c21 | c21
     ·replace hz9:=Zs c21 hz9
      try rw [c21] at c18
      try rw [c21] at c19
      try rw [c21] at c20
      rcases Bool.eq_false_or_eq_true (decide (a0.Kind≤7)) with c22 | c22
      ·replace hz9:=Zs c22 hz9
       try rw [c22] at c18
       try rw [c22] at c19
       try rw [c22] at c20
       try rw [c22] at c21
       obtain ⟨x14,hx14,ax14,bx14,cx14,hz9⟩:=bE (f:=(eI .u64)) Zh7 (fun _=>rfl) (by decide) hz9
       obtain ⟨y15,hy15,hz9⟩:=bC hz9
       refine K8 Zd (by kernel_rfl) [none,none,none,none,none,none,none,none,some true,some true,some true,some true,some true,some true,some true,some true,some true,some true,some true,some true] (by kernel_rfl) ?_
       simp only [push_cast,Nat.reduceAdd,Nat.reduceSub,Nat.reduceMul,Nat.reduceLeDiff,Nat.reduceLT,Nat.reduceEqDiff,↓reduceIte,reduceCtorEq,Int.reduceBEq,Int.reduceBNe,Nat.reduceBEq,Int.reduceLE,Int.reduceLT,Int.reduceEq,Int.reduceNe,Int.reduceNeg,Nat.reduceDiv,Nat.reduceMod,Nat.reducePow,Za,c18,c19,c20,c21,c22,ax14,bx14,cx14,hN0,hN]
       repeat (with_reducible refine And.intro (by first | (intro h0;simp only [h0,and_self];done) | (intro h0;simp only [h0,Bool.not_false,Bool.not_true,Bool.true_and,Bool.and_true,true_and,and_true,and_self,imp_self,implies_true,bne_iff_ne,ne_eq,beq_iff_eq];done) | (intros;simp_all;done) | exact True.intro) ?_)
       refine PCall.of (Zfl hy15) ?_
       simp only [push_cast,Nat.reduceAdd,Nat.reduceSub,Nat.reduceMul,Nat.reduceLeDiff,Nat.reduceLT,Nat.reduceEqDiff,↓reduceIte,reduceCtorEq,Int.reduceBEq,Int.reduceBNe,Nat.reduceBEq,Int.reduceLE,Int.reduceLT,Int.reduceEq,Int.reduceNe,Int.reduceNeg,Nat.reduceDiv,Nat.reduceMod,Nat.reducePow,Za,c18,c19,c20,c21,c22,ax14,bx14,cx14,hN0,hN]
       repeat (with_reducible refine And.intro (by first | (intro h0;simp only [h0,and_self];done) | (intro h0;simp only [h0,Bool.not_false,Bool.not_true,Bool.true_and,Bool.and_true,true_and,and_true,and_self,imp_self,implies_true,bne_iff_ne,ne_eq,beq_iff_eq];done) | (intros;simp_all;done) | exact True.intro) ?_)
       have hz9:=Option.some.inj hz9;subst hz9
       refine And.intro rfl (Fit2.of (Zj hU rfl rfl ?_) (by omega))
       simp only [push_cast,Nat.reduceAdd,Nat.reduceSub,Nat.reduceMul,Nat.reduceLeDiff,Nat.reduceLT,Nat.reduceEqDiff,↓reduceIte,reduceCtorEq,Int.reduceBEq,Int.reduceBNe,Nat.reduceBEq,Int.reduceLE,Int.reduceLT,Int.reduceEq,Int.reduceNe,Int.reduceNeg,Nat.reduceDiv,Nat.reduceMod,Nat.reducePow,Za,c18,c19,c20,c21,c22,ax14,bx14,cx14,hN0,hN]
      replace hz9:=Zr c22 hz9
      try rw [c22] at c18
      try rw [c22] at c19
      try rw [c22] at c20
      try rw [c22] at c21
      refine K8 Zd (by kernel_rfl) [none,none,none,none,none,none,none,none,some true,some true,some false,some false,some false,some false,some false,some false,some false,some false,some false,some true] (by kernel_rfl) ?_
      simp only [push_cast,seval,↓reduceIte,Za,c18,c19,c20,c21,c22,hN0,hN]
      repeat (with_reducible refine And.intro (by first | (intro h0;simp only [h0,and_self];done) | (intro h0;simp only [h0,Bool.not_false,Bool.not_true,Bool.true_and,Bool.and_true,true_and,and_true,and_self,imp_self,implies_true,bne_iff_ne,ne_eq,beq_iff_eq];done) | (intros;simp_all;done) | exact True.intro) ?_)
      have hz9:=Option.some.inj hz9;subst hz9
      refine And.intro rfl (Fit2.of (Zj hU rfl rfl ?_) (by omega))
      simp only [push_cast,seval,↓reduceIte,Za,c18,c19,c20,c21,c22,hN0,hN]
     replace hz9:=Zr c21 hz9
     try rw [c21] at c18
     try rw [c21] at c19
     try rw [c21] at c20
     refine K8 Zd (by kernel_rfl) [none,none,none,none,none,none,none,none,some true,some true,some false,some false,some false,some false,some false,some false,some false,some false,some false,some true] (by kernel_rfl) ?_
     simp only [push_cast,seval,↓reduceIte,Za,c18,c19,c20,c21,hN0,hN]
     repeat (with_reducible refine And.intro (by first | (intro h0;simp only [h0,and_self];done) | (intro h0;simp only [h0,Bool.not_false,Bool.not_true,Bool.true_and,Bool.and_true,true_and,and_true,and_self,imp_self,implies_true,bne_iff_ne,ne_eq,beq_iff_eq];done) | (intros;simp_all;done) | exact True.intro) ?_)
     have hz9:=Option.some.inj hz9;subst hz9
     refine And.intro rfl (Fit2.of (Zj hU rfl rfl ?_) (by omega))
     simp only [push_cast,seval,↓reduceIte,Za,c18,c19,c20,c21,hN0,hN]
    replace hz9:=Zr c19 hz9
    try rw [c19] at c18
    rcases Bool.eq_false_or_eq_true (decide (2≤a0.Kind)) with c23 | c23
    ·replace hz9:=Zs c23 hz9
     try rw [c23] at c18
     try rw [c23] at c19
     rcases Bool.eq_false_or_eq_true (decide (a0.Kind≤7)) with c24 | c24
     ·replace hz9:=Zs c24 hz9
      try rw [c24] at c18
      try rw [c24] at c19
      try rw [c24] at c23
      obtain ⟨x16,hx16,ax16,bx16,cx16,hz9⟩:=bE (f:=(eI .u64)) Zh7 (fun _=>rfl) (by decide) hz9
      obtain ⟨y17,hy17,hz9⟩:=bC hz9
      refine K8 Zd (by kernel_rfl) [none,none,none,none,none,none,none,none,some true,some true,some true,some true,some true,some true,some true,some true,some true,some true,some true,some true] (by kernel_rfl) ?_
      simp only [push_cast,Nat.reduceAdd,Nat.reduceSub,Nat.reduceMul,Nat.reduceLeDiff,Nat.reduceLT,Nat.reduceEqDiff,↓reduceIte,reduceCtorEq,Int.reduceBEq,Int.reduceBNe,Nat.reduceBEq,Int.reduceLE,Int.reduceLT,Int.reduceEq,Int.reduceNe,Int.reduceNeg,Nat.reduceDiv,Nat.reduceMod,Nat.reducePow,Za,c18,c19,c23,c24,ax16,bx16,cx16,hN0,hN]
      repeat (with_reducible refine And.intro (by first | (intro h0;simp only [h0,and_self];done) | (intro h0;simp only [h0,Bool.not_false,Bool.not_true,Bool.true_and,Bool.and_true,true_and,and_true,and_self,imp_self,implies_true,bne_iff_ne,ne_eq,beq_iff_eq];done) | (intros;simp_all;done) | exact True.intro) ?_)
      refine PCall.of (Zfl hy17) ?_
      simp only [push_cast,Nat.reduceAdd,Nat.reduceSub,Nat.reduceMul,Nat.reduceLeDiff,Nat.reduceLT,Nat.reduceEqDiff,↓reduceIte,reduceCtorEq,Int.reduceBEq,Int.reduceBNe,Nat.reduceBEq,Int.reduceLE,Int.reduceLT,Int.reduceEq,Int.reduceNe,Int.reduceNeg,Nat.reduceDiv,Nat.reduceMod,Nat.reducePow,Za,c18,c19,c23,c24,ax16,bx16,cx16,hN0,hN]
      repeat (with_reducible refine And.intro (by first | (intro h0;simp only [h0,and_self];done) | (intro h0;simp only [h0,Bool.not_false,Bool.not_true,Bool.true_and,Bool.and_true,true_and,and_true,and_self,imp_self,implies_true,bne_iff_ne,ne_eq,beq_iff_eq];done) | (intros;simp_all;done) | exact True.intro) ?_)
      have hz9:=Option.some.inj hz9;subst hz9
      refine And.intro rfl (Fit2.of (Zj hU rfl rfl ?_) (by omega))
      simp only [push_cast,Nat.reduceAdd,Nat.reduceSub,Nat.reduceMul,Nat.reduceLeDiff,Nat.reduceLT,Nat.reduceEqDiff,↓reduceIte,reduceCtorEq,Int.reduceBEq,Int.reduceBNe,Nat.reduceBEq,Int.reduceLE,Int.reduceLT,Int.reduceEq,Int.reduceNe,Int.reduceNeg,Nat.reduceDiv,Nat.reduceMod,Nat.reducePow,Za,c18,c19,c23,c24,ax16,bx16,cx16,hN0,hN]
     replace hz9:=Zr c24 hz9
     try rw [c24] at c18
     try rw [c24] at c19
     try rw [c24] at c23
     refine K8 Zd (by kernel_rfl) [none,none,none,none,none,none,none,none,some true,some true,some false,some false,some false,some false,some false,some false,some false,some false,some false,some true] (by kernel_rfl) ?_
     simp only [push_cast,seval,↓reduceIte,Za,c18,c19,c23,c24,hN0,hN]
     repeat (with_reducible refine And.intro (by first | (intro h0;simp only [h0,and_self];done) | (intro h0;simp only [h0,Bool.not_false,Bool.not_true,Bool.true_and,Bool.and_true,true_and,and_true,and_self,imp_self,implies_true,bne_iff_ne,ne_eq,beq_iff_eq];done) | (intros;simp_all;done) | exact True.intro) ?_)
     have hz9:=Option.some.inj hz9;subst hz9
     refine And.intro rfl (Fit2.of (Zj hU rfl rfl ?_) (by omega))
     simp only [push_cast,seval,↓reduceIte,Za,c18,c19,c23,c24,hN0,hN]
    replace hz9:=Zr c23 hz9
    try rw [c23] at c18
    try rw [c23] at c19
    refine K8 Zd (by kernel_rfl) [none,none,none,none,none,none,none,none,some true,some true,some false,some false,some false,some false,some false,some false,some false,some false,some false,some true] (by kernel_rfl) ?_
    simp only [push_cast,seval,↓reduceIte,Za,c18,c19,c23,hN0,hN]
    repeat (with_reducible refine And.intro (by first | (intro h0;simp only [h0,and_self];done) | (intro h0;simp only [h0,Bool.not_false,Bool.not_true,Bool.true_and,Bool.and_true,true_and,and_true,and_self,imp_self,implies_true,bne_iff_ne,ne_eq,beq_iff_eq];done) | (intros;simp_all;done) | exact True.intro) ?_)
    have hz9:=Option.some.inj hz9;subst hz9
    refine And.intro rfl (Fit2.of (Zj hU rfl rfl ?_) (by omega))
    simp only [push_cast,seval,↓reduceIte,Za,c18,c19,c23,hN0,hN]
   refine Zu (t:=z9) rfl (fun c25 => ?_) (fun c25 => ?_)
   ·replace hs0_:=Zs c25 hs0_
    refine Zq [4] (Zc Zd [] ?_)
    simp only [push_cast,seval,↓reduceIte,Za,hN0,hN]
    refine Z0 ?_
    try simp only [Zl,Zi]
    have hs0_:=Option.some.inj hs0_;subst hs0_
    refine And.intro (fun h=>by cases h) (And.intro rfl (Fit2.of (Zj hU rfl rfl ?_) (by omega)))
    simp only [push_cast,seval,↓reduceIte,Za,hN0,hN]
   replace hs0_:=Zr c25 hs0_
   refine Zy ?_
   try simp only [Zl,Zi]
   refine Zk [1,2,5] [true,false] ?_
   simp only [push_cast,seval,↓reduceIte]
   refine Zc Zd [] ?_
   simp only [push_cast,seval,↓reduceIte,Za,hN0,hN]
   have hs0_:=Option.some.inj hs0_;subst hs0_
   refine And.intro rfl (Fit2.of (Zj hU rfl rfl ?_) (by omega))
   simp only [push_cast,seval,↓reduceIte,Za,hN0,hN]
  replace hs0_:=Zr c27 hs0_
  refine Yx ?_
  try simp only [Zl,Zi,↓reduceIte,Nat.reduceEqDiff]
  have hs0_:=Option.some.inj hs0_;subst hs0_
  refine And.intro (fun h=>by cases h) (And.intro rfl (Fit2.of (Zj hU rfl rfl ?_) (by omega)))
  simp only [push_cast,seval,↓reduceIte,Za,hN0,hN]
 rcases z28 with z28 | z28
 ·dsimp only [Xc] at hw h
  refine Q0 hw ?_
  try simp only [Zl,Zi,↓reduceIte,Nat.reduceEqDiff]
  have h:=Option.some.inj h;subst h
  refine Zt (.inr rfl) hU [.val (.bool false)] (by omega) ?_
  simp only [push_cast,seval,↓reduceIte,Za,Try.results22,hN0,hN]
 dsimp only [Xc] at hw h
 refine Yb hw ?_
 try simp only [Zl,Zi,↓reduceIte,Nat.reduceEqDiff]
 refine Zk [] [false] ?_
 simp only [push_cast,seval,↓reduceIte]
 refine Zq [4] (Zc Zd [] ?_)
 simp only [push_cast,seval,↓reduceIte,Za,hN0,hN]
 refine Z0 ?_
 try simp only [Zl,Zi]
 have h:=Option.some.inj h;subst h
 refine Zt (.inr rfl) hU [.val (.bool true)] (by omega) ?_
 simp only [push_cast,seval,↓reduceIte,Za,Try.results22,hN0,hN]
theorem Zhk:∀ k,(∀ {a0:S_api_Tree} {a1:Int} {r:Bool} {O:Objs} {n:Nat},(Qi k) a0 a1=some r→GTo Try.prog 22 [.agg (Zo a0),.val (.int .i64 a1)] O n (.val (.bool r)) O n):=fun k=>by
 induction k with
 | zero=>exact @fun a0 a1 r O n h=>(nomatch (show (none:Option _)=some _ from h))
 | succ k ih=>exact @fun a0 a1 r O n h=>Ziu (ih)  h
theorem Uz {a0:S_api_Tree} {a1:Int} {r:Bool} {O:Objs} {n:Nat} (h:Vv a0 a1=some r):GTo Try.prog 22 [.agg (Zo a0),.val (.int .i64 a1)] O n (.val (.bool r)) O n:=by
 obtain ⟨k,hk⟩:=Vs h
 exact (Zhk k)  hk
theorem Ze1 {a0:Int} {r:(Arr Int 8)} {O:Objs} {n:Nat} (h:J6 a0=some r):GTo Try.prog 74 [.val (.int .u64 a0)] O n (.agg (fl (eI .u8) r.1)) O n:=by
 unfold J6 at h
 refine Y3 Zd Try.call74 Try.func74 rfl (Nat.le_of_ble_eq_true rfl) (Nat.le_refl _) fun hU => ?_
 have hN0:O n=none:=hU.fresh _ (Nat.le_refl _)
 have hN:∀ k,O (n+k)=none:=fun k=>hU.fresh _ (Nat.le_add_right _ _)
 show W _ _ _ _ ⟨18,[],[(0,.val (.int .u64 a0))]⟩ (Zv O n []) _
 obtain ⟨y3,hy3,ey3,h⟩:=bY (f:=(eI .u8)) (cs:=[.val (.int .u8 0),.val (.int .u8 0),.val (.int .u8 0),.val (.int .u8 0),.val (.int .u8 0),.val (.int .u8 0),.val (.int .u8 0),.val (.int .u8 0)]) rfl h
 have g4:=congrArg (GObj.mk false 95 8 1) ey3
 refine Zq [0,2] (Zc Zd [] ?_)
 simp only [push_cast,seval,↓reduceIte,Za,g4,hN0,hN]
 refine Zm ?_
 obtain ⟨y9,hy9,ey9,h⟩:=bY (f:=(eI .u8)) (cs:=[.val (.int .u8 0),.val (.int .u8 0),.val (.int .u8 0),.val (.int .u8 0),.val (.int .u8 0),.val (.int .u8 0),.val (.int .u8 0),.val (.int .u8 0)]) rfl h
 have g10:=congrArg G.agg ey9
 have g11:=congrArg (GObj.mk false 95 8 1) ey9
 have g12:=Zfg (f:=(eI .u8)) y9 y9 (fun _=>rfl)
 refine Zc Zd [] ?_
 simp only [push_cast,seval,↓reduceIte,Za,g10,g11,g12,hN0,hN]
 refine Zk [0,2,3] [true,true] ?_
 simp only [push_cast,seval,↓reduceIte]
 refine Zm ?_
 refine Zq [0,2,3,4] (Zc Zd [] ?_)
 simp only [push_cast,seval,↓reduceIte,Za,hN0,hN]
 refine Zk [0,2,3,4] [true,true] ?_
 simp only [push_cast,seval,↓reduceIte]
 obtain ⟨z18,hz18,h⟩:=bC h
 refine Yb (E':=⟨18,[],[(2,.ref n 0),(3,.ref (n+1) 0)]⟩) (O':=(Zv O n [some ⟨false,95,8,1,fl (eI .u8) y3.1⟩,some ⟨false,95,8,1,fl (eI .u8) z18.1⟩])) (n0:=(n+2)) ?_ ?_
 ·refine Yn hz18 (fun s0_=>⟨18,[],[(0,.val (.int .u64 s0_.1)),(2,.ref n 0),(3,.ref (n+1) 0),(4,.val (.int .i64 s0_.2.1))]⟩) (fun s0_=>(Zv O n [some ⟨false,95,8,1,fl (eI .u8) y3.1⟩,some ⟨false,95,8,1,fl (eI .u8) s0_.2.2.1⟩])) (fun z18=>JX 0 n (⟨18,[],[(2,.ref n 0),(3,.ref (n+1) 0)]⟩:Env) (Zv O n [some ⟨false,95,8,1,fl (eI .u8) y3.1⟩,some ⟨false,95,8,1,fl (eI .u8) z18.1⟩]) (n+2)) ?_
  intro s0_ x0_ hs0_
  unfold Jz at hs0_
  try dsimp only
  refine Zm ?_
  refine Zq [0,2,3,4,7] (Zc Zd [] ?_)
  simp only [push_cast,seval,↓reduceIte,Za,hN0,hN]
  refine Zu (t:=(decide (s0_.2.1 < 8))) rfl (fun c17 => ?_) (fun c17 => ?_)
  ·replace hs0_:=Zs c17 hs0_
   refine Zy ?_
   try simp only [Zl,Zi]
   refine Zk [0,2,3,4] [true,true] ?_
   simp only [push_cast,seval,↓reduceIte]
   refine Zm ?_
   refine Z6 ?_
   refine Zm ?_
   obtain ⟨x15,hx15,ax15,bx15,cx15,hs0_⟩:=bEA (f:=(eI .u8)) (b:=8) rfl Zwn (fun _=>rfl) (by decide) hs0_
   have gu16:J4 (fl (eI .u8) s0_.2.2.1) [.val (.int .u8 (IntKind.u8.wrap (Int.tmod s0_.1 256)))] (Int.toNat s0_.2.1 * 1)=some (fl (eI .u8) (Zg9 s0_.2.2.1 s0_.2.1 (IntKind.u8.wrap (Int.tmod s0_.1 256)))):=Zm2 (f:=(eI .u8)) (ti:=⟨.bool,1,0,[],false⟩) (x:=(IntKind.u8.wrap (Int.tmod s0_.1 256))) (fun _=>rfl) (Zeh hx15)
   refine Zc Zd [] ?_
   simp only [push_cast,Nat.reduceAdd,Nat.reduceSub,Nat.reduceMul,Nat.reduceLeDiff,Nat.reduceLT,Nat.reduceEqDiff,↓reduceIte,reduceCtorEq,Int.reduceBEq,Int.reduceBNe,Nat.reduceBEq,Int.reduceLE,Int.reduceLT,Int.reduceEq,Int.reduceNe,Int.reduceNeg,Nat.reduceDiv,Nat.reduceMod,Nat.reducePow,Za,ax15,bx15,cx15,gu16,hN0,hN]
   refine Zk [0,2,3,4] [true,true] ?_
   simp only [push_cast,seval,↓reduceIte]
   refine Zc Zd [] ?_
   simp only [push_cast,seval,↓reduceIte,Za,hN0,hN]
   refine Zk [0,2,3,4] [true,true] ?_
   simp only [push_cast,seval,↓reduceIte]
   refine Zc Zd [] ?_
   simp only [push_cast,seval,↓reduceIte,Za,hN0,hN]
   have hs0_:=Option.some.inj hs0_;subst hs0_
   refine And.intro rfl (Fit2.of (Zj hU rfl rfl ?_) (by omega))
   simp only [push_cast,seval,↓reduceIte,Za,hN0,hN]
  replace hs0_:=Zr c17 hs0_
  refine Yx ?_
  try simp only [Zl,Zi,↓reduceIte,Nat.reduceEqDiff]
  have hs0_:=Option.some.inj hs0_;subst hs0_
  refine And.intro (fun h=>by cases h) (And.intro rfl (Fit2.of (Zj hU rfl rfl ?_) (by omega)))
  simp only [push_cast,seval,↓reduceIte,Za,hN0,hN]
 try simp only [Zl,Zi,↓reduceIte,Nat.reduceEqDiff]
 refine Zk [2,3] [true,true] ?_
 simp only [push_cast,seval,↓reduceIte]
 refine Zm ?_
 have g21:=Zr7 (f:=(eI .u8)) z18 Zwo rfl (fun _=>rfl) rfl
 have g22:=Zfg (f:=(eI .u8)) y3 z18 (fun _=>rfl)
 refine Zc Zd [] ?_
 simp only [push_cast,seval,↓reduceIte,Za,g21,g22,hN0,hN]
 refine Zk [2] [true,false] ?_
 simp only [push_cast,seval,↓reduceIte]
 refine Z0 ?_
 try simp only [Zl,Zi]
 have h:=Option.some.inj h;subst h
 have gR0:=Zr7 (f:=(eI .u8)) z18 Zwo rfl (fun _=>rfl) rfl
 refine Zt (.inr rfl) hU [.agg (fl (eI .u8) z18.1)] (by omega) ?_
 simp only [push_cast,seval,↓reduceIte,Za,Try.results74,hN0,hN,gR0]
theorem Zjs {a0:Int} {a1:Int} {r:Bool} {O:Objs} {n:Nat} (h:Vt a0 a1=some r):GTo Try.prog 75 [.val (.int .u8 a0),.val (.int .i64 a1)] O n (.val (.bool r)) O n:=by
 unfold Vt at h
 refine Y3 Zd Try.call75 Try.func75 rfl (Nat.le_of_ble_eq_true rfl) (Nat.le_refl _) fun hU => ?_
 have hN0:O n=none:=hU.fresh _ (Nat.le_refl _)
 have hN:∀ k,O (n+k)=none:=fun k=>hU.fresh _ (Nat.le_add_right _ _)
 show W _ _ _ _ ⟨16,[],[(0,.val (.int .u8 a0)),(1,.val (.int .i64 a1))]⟩ (Zv O n []) _
 refine Zq [0,1] (Zc Zd [] ?_)
 simp only [push_cast,seval,↓reduceIte,Za,hN0,hN]
 refine Zm ?_
 refine Zq [0,1,5] (Zc Zd [] ?_)
 simp only [push_cast,seval,↓reduceIte,Za,hN0,hN]
 refine Zk [0,1,5] [] ?_
 simp only [push_cast,seval,↓reduceIte]
 obtain ⟨z2,hz2,h⟩:=bC h
 refine Yb (E':=⟨16,[],[(0,.val (.int .u8 z2))]⟩) (O':=(Zv O n [])) (n0:=n) ?_ ?_
 ·refine Yn hz2 (fun s0_=>⟨16,[],[(0,.val (.int .u8 s0_.1)),(1,.val (.int .i64 a1)),(5,.val (.int .i64 s0_.2))]⟩) (fun s0_=>(Zv O n [])) (fun z2=>JX 0 n (⟨16,[],[(0,.val (.int .u8 z2))]⟩:Env) (Zv O n []) n) ?_
  intro s0_ x0_ hs0_
  unfold Qq at hs0_
  try dsimp only
  refine Zm ?_
  refine Zq [0,1,5,8] (Zc Zd [] ?_)
  simp only [push_cast,seval,↓reduceIte,Za,hN0,hN]
  refine Zu (t:=(decide (s0_.2 < a1))) rfl (fun c1 => ?_) (fun c1 => ?_)
  ·replace hs0_:=Zs c1 hs0_
   refine Zy ?_
   try simp only [Zl,Zi]
   refine Zk [0,1,5] [] ?_
   simp only [push_cast,seval,↓reduceIte]
   refine Zm ?_
   refine Z6 ?_
   refine Zc Zd [] ?_
   simp only [push_cast,seval,↓reduceIte,Za,hN0,hN]
   refine Zk [0,1,5] [] ?_
   simp only [push_cast,seval,↓reduceIte]
   refine Zc Zd [] ?_
   simp only [push_cast,seval,↓reduceIte,Za,hN0,hN]
   have hs0_:=Option.some.inj hs0_;subst hs0_
   refine And.intro rfl (Fit2.of (Zj hU rfl rfl ?_) (by omega))
   simp only [push_cast,seval,↓reduceIte,Za,hN0,hN]
  replace hs0_:=Zr c1 hs0_
  refine Yx ?_
  try simp only [Zl,Zi,↓reduceIte,Nat.reduceEqDiff]
  have hs0_:=Option.some.inj hs0_;subst hs0_
  refine And.intro (fun h=>by cases h) (And.intro rfl (Fit2.of (Zj hU rfl rfl ?_) (by omega)))
  simp only [push_cast,seval,↓reduceIte,Za,hN0,hN]
 try simp only [Zl,Zi,↓reduceIte,Nat.reduceEqDiff]
 refine Zk [0] [] ?_
 simp only [push_cast,seval,↓reduceIte]
 refine Zq [4] (Zc Zd [] ?_)
 simp only [push_cast,seval,↓reduceIte,Za,hN0,hN]
 refine Z0 ?_
 try simp only [Zl,Zi]
 have h:=Option.some.inj h;subst h
 refine Zt (.inr rfl) hU [.val (.bool ((Int.tmod z2 2) == 1))] (by omega) ?_
 simp only [push_cast,seval,↓reduceIte,Za,Try.results75,hN0,hN]
theorem Zna {a0:(List Int)} {a1:Int} {r:Int} {O:Objs} {n:Nat} (h:Zcb a0 a1=some r):GTo Try.prog 76 [.sl a0.length (fl (eI .u8) a0),.val (.int .i64 a1)] O n (.val (.int .u64 r)) O n:=by
 unfold Zcb at h
 refine Y3 Zd Try.call76 Try.func76 rfl (Nat.le_of_ble_eq_true rfl) (Nat.le_refl _) fun hU => ?_
 have hN0:O n=none:=hU.fresh _ (Nat.le_refl _)
 have hN:∀ k,O (n+k)=none:=fun k=>hU.fresh _ (Nat.le_add_right _ _)
 show W _ _ _ _ ⟨22,[],[(0,.sl a0.length (fl (eI .u8) a0)),(1,.val (.int .i64 a1))]⟩ (Zv O n []) _
 refine Zq [0,1] (Zc Zd [] ?_)
 simp only [push_cast,seval,↓reduceIte,Za,hN0,hN]
 refine Zq [0,1,5] (Zc Zd [] ?_)
 simp only [push_cast,seval,↓reduceIte,Za,hN0,hN]
 refine Zm ?_
 refine Zq [0,1,5,6] (Zc Zd [] ?_)
 simp only [push_cast,seval,↓reduceIte,Za,hN0,hN]
 refine Zk [0,1,5,6] [] ?_
 simp only [push_cast,seval,↓reduceIte]
 obtain ⟨z3,hz3,h⟩:=bC h
 refine Yb (E':=⟨22,[],[(5,.val (.int .u64 z3))]⟩) (O':=(Zv O n [])) (n0:=n) ?_ ?_
 ·refine Yn hz3 (fun s0_=>⟨22,[],[(0,.sl a0.length (fl (eI .u8) a0)),(1,.val (.int .i64 a1)),(5,.val (.int .u64 s0_.1)),(6,.val (.int .i64 s0_.2))]⟩) (fun s0_=>(Zv O n [])) (fun z3=>JX 0 n (⟨22,[],[(5,.val (.int .u64 z3))]⟩:Env) (Zv O n []) n) ?_
  intro s0_ x0_ hs0_
  unfold Vu at hs0_
  try dsimp only
  refine Zm ?_
  refine Zq [0,1,5,6,8] (Zc Zd [] ?_)
  simp only [push_cast,seval,↓reduceIte,Za,hN0,hN]
  refine Zu (t:=(decide (0≤s0_.2))) rfl (fun c2 => ?_) (fun c2 => ?_)
  ·replace hs0_:=Zs c2 hs0_
   refine Zy ?_
   try simp only [Zl,Zi]
   refine Zk [0,1,5,6] [] ?_
   simp only [push_cast,seval,↓reduceIte]
   refine Zm ?_
   refine Z6 ?_
   obtain ⟨x1,hx1,ax1,bx1,cx1,hs0_⟩:=bE (f:=(eI .u8)) Zwn (fun _=>rfl) (by decide) hs0_
   refine Zc Zd [] ?_
   simp only [push_cast,Nat.reduceAdd,Nat.reduceSub,Nat.reduceMul,Nat.reduceLeDiff,Nat.reduceLT,Nat.reduceEqDiff,↓reduceIte,reduceCtorEq,Int.reduceBEq,Int.reduceBNe,Nat.reduceBEq,Int.reduceLE,Int.reduceLT,Int.reduceEq,Int.reduceNe,Int.reduceNeg,Nat.reduceDiv,Nat.reduceMod,Nat.reducePow,Za,ax1,bx1,cx1,hN0,hN]
   refine Zk [0,1,5,6] [] ?_
   simp only [push_cast,seval,↓reduceIte]
   refine Zc Zd [] ?_
   simp only [push_cast,seval,↓reduceIte,Za,hN0,hN]
   have hs0_:=Option.some.inj hs0_;subst hs0_
   refine And.intro rfl (Fit2.of (Zj hU rfl rfl ?_) (by omega))
   simp only [push_cast,seval,↓reduceIte,Za,hN0,hN]
  replace hs0_:=Zr c2 hs0_
  refine Yx ?_
  try simp only [Zl,Zi,↓reduceIte,Nat.reduceEqDiff]
  have hs0_:=Option.some.inj hs0_;subst hs0_
  refine And.intro (fun h=>by cases h) (And.intro rfl (Fit2.of (Zj hU rfl rfl ?_) (by omega)))
  simp only [push_cast,seval,↓reduceIte,Za,hN0,hN]
 try simp only [Zl,Zi,↓reduceIte,Nat.reduceEqDiff]
 refine Zk [5] [] ?_
 simp only [push_cast,seval,↓reduceIte]
 refine Zq [4] (Zc Zd [] ?_)
 simp only [push_cast,seval,↓reduceIte,Za,hN0,hN]
 refine Z0 ?_
 try simp only [Zl,Zi]
 have h:=Option.some.inj h;subst h
 refine Zt (.inr rfl) hU [.val (.int .u64 z3)] (by omega) ?_
 simp only [push_cast,seval,↓reduceIte,Za,Try.results76,hN0,hN]
theorem Zlx {a0:Int} {a1:Int} {a2:Int} {r:Int} {O:Objs} {n:Nat} (h:U8 a0 a1 a2=some r):GTo Try.prog 107 [.val (.int .u64 a0),.val (.int .u64 a1),.val (.int .u8 a2)] O n (.val (.int .u64 r)) O n:=by
 unfold U8 at h
 refine Y3 Zd Try.call107 Try.func107 rfl (Nat.le_of_ble_eq_true rfl) (Nat.le_refl _) fun hU => ?_
 have hN0:O n=none:=hU.fresh _ (Nat.le_refl _)
 have hN:∀ k,O (n+k)=none:=fun k=>hU.fresh _ (Nat.le_add_right _ _)
 show W _ _ _ _ ⟨28,[],[(0,.val (.int .u64 a0)),(1,.val (.int .u64 a1)),(2,.val (.int .u8 a2))]⟩ (Zv O n []) _
 refine Zq [0,1,2] (Zc Zd [] ?_)
 simp only [push_cast,seval,↓reduceIte,Za,hN0,hN]
 refine Zm ?_
 obtain ⟨y8,hy8,h⟩:=bC h
 obtain ⟨y9,hy9,h⟩:=bC h
 obtain ⟨y10,hy10,ey10,h⟩:=bY (f:=(eI .u8)) (cs:=[.val (.int .u8 0),.val (.int .u8 0),.val (.int .u8 0),.val (.int .u8 0),.val (.int .u8 0),.val (.int .u8 0),.val (.int .u8 0),.val (.int .u8 0)]) rfl h
 have g11:=congrArg (GObj.mk false 95 8 1) ey10
 have g12:=congrArg (GObj.mk false 95 8 1) ey10
 have g13:=Zfg (f:=(eI .u8)) y10 y8 (fun _=>rfl)
 have g14:=Zfg (f:=(eI .u8)) y10 y9 (fun _=>rfl)
 refine Zc Zd [] ?_
 simp only [push_cast,seval,↓reduceIte,Za,g11,g12,g13,g14,hN0,hN]
 refine (Ze1 hy8).then ?_
 simp only [push_cast,seval,↓reduceIte,Za,g11,g12,g13,g14,hN0,hN]
 refine (Ze1 hy9).then ?_
 simp only [push_cast,seval,↓reduceIte,Za,g11,g12,g13,g14,hN0,hN]
 refine Zk [2,7,8] [true,true] ?_
 simp only [push_cast,seval,↓reduceIte]
 refine Zm ?_
 refine Zq [2,7,8,9] (Zc Zd [] ?_)
 simp only [push_cast,seval,↓reduceIte,Za,hN0,hN]
 refine Zk [2,7,8,9] [true,true] ?_
 simp only [push_cast,seval,↓reduceIte]
 obtain ⟨z23,hz23,h⟩:=bC h
 refine Yb (E':=⟨28,[],[(7,.ref n 0)]⟩) (O':=(Zv O n [some ⟨false,95,8,1,fl (eI .u8) z23.1⟩,none])) (n0:=(n+2)) ?_ ?_
 ·refine Yn hz23 (fun s0_=>⟨28,[],[(2,.val (.int .u8 a2)),(7,.ref n 0),(8,.ref (n+1) 0),(9,.val (.int .i64 s0_.1))]⟩) (fun s0_=>(Zv O n [some ⟨false,95,8,1,fl (eI .u8) s0_.2.1⟩,some ⟨false,95,8,1,fl (eI .u8) y9.1⟩])) (fun z23=>JX 0 n (⟨28,[],[(7,.ref n 0)]⟩:Env) (Zv O n [some ⟨false,95,8,1,fl (eI .u8) z23.1⟩,none]) (n+2)) ?_
  intro s0_ x0_ hs0_
  unfold K6 at hs0_
  try dsimp only
  refine Zm ?_
  refine Zq [2,7,8,9,15] (Zc Zd [] ?_)
  simp only [push_cast,seval,↓reduceIte,Za,hN0,hN]
  refine Zu (t:=(decide (s0_.1 < 8))) rfl (fun c22 => ?_) (fun c22 => ?_)
  ·replace hs0_:=Zs c22 hs0_
   refine Zy ?_
   try simp only [Zl,Zi]
   refine Zk [2,7,8,9] [true,true] ?_
   simp only [push_cast,seval,↓reduceIte]
   obtain ⟨z15,hz15,hs0_⟩:=bC hs0_
   refine Yl (E':=⟨28,[],[(2,.val (.int .u8 a2)),(7,.ref n 0),(8,.ref (n+1) 0),(9,.val (.int .i64 s0_.1))]⟩) (O':=(Zv O n [some ⟨false,95,8,1,fl (eI .u8) z15.1⟩,some ⟨false,95,8,1,fl (eI .u8) y9.1⟩])) (n0:=(n+2)) ?_ ?_
   ·refine Z6 ?_
    refine Zm ?_
    obtain ⟨y17,hy17,hz15⟩:=bC hz15
    refine Zc Zd [] ?_
    simp only [push_cast,seval,↓reduceIte,Za,hN0,hN]
    refine (Zjs hy17).then ?_
    simp only [push_cast,seval,↓reduceIte,Za,hN0,hN]
    refine Zk [2,7,8,9,20] [true,true] ?_
    simp only [push_cast,seval,↓reduceIte]
    refine Zu (t:=y17) rfl (fun c21 => ?_) (fun c21 => ?_)
    ·replace hz15:=Zs c21 hz15
     obtain ⟨x18,hx18,ax18,bx18,cx18,hz15⟩:=bEA (f:=(eI .u8)) (b:=8) rfl Zwn (fun _=>rfl) (by decide) hz15
     obtain ⟨x19,hx19,ax19,bx19,cx19,hz15⟩:=bEA (f:=(eI .u8)) (b:=8) rfl Zwn (fun _=>rfl) (by decide) hz15
     have gu20:J4 (fl (eI .u8) s0_.2.1) [.val (.int .u8 x18)] (Int.toNat s0_.1 * 1)=some (fl (eI .u8) (Zg9 s0_.2.1 s0_.1 x18)):=Zm2 (f:=(eI .u8)) (ti:=⟨.bool,1,0,[],false⟩) (x:=x18) (fun _=>rfl) (Zeh hx19)
     refine Zc Zd [] ?_
     simp only [push_cast,Nat.reduceAdd,Nat.reduceSub,Nat.reduceMul,Nat.reduceLeDiff,Nat.reduceLT,Nat.reduceEqDiff,↓reduceIte,reduceCtorEq,Int.reduceBEq,Int.reduceBNe,Nat.reduceBEq,Int.reduceLE,Int.reduceLT,Int.reduceEq,Int.reduceNe,Int.reduceNeg,Nat.reduceDiv,Nat.reduceMod,Nat.reducePow,Za,ax18,bx18,cx18,ax19,bx19,cx19,gu20,hN0,hN]
     have hz15:=Option.some.inj hz15;subst hz15
     refine And.intro rfl (Fit2.of (Zj hU rfl rfl ?_) (by omega))
     simp only [push_cast,Nat.reduceAdd,Nat.reduceSub,Nat.reduceMul,Nat.reduceLeDiff,Nat.reduceLT,Nat.reduceEqDiff,↓reduceIte,reduceCtorEq,Int.reduceBEq,Int.reduceBNe,Nat.reduceBEq,Int.reduceLE,Int.reduceLT,Int.reduceEq,Int.reduceNe,Int.reduceNeg,Nat.reduceDiv,Nat.reduceMod,Nat.reducePow,Za,ax18,bx18,cx18,ax19,bx19,cx19,gu20,hN0,hN]
    replace hz15:=Zr c21 hz15
    refine Zy ?_
    try simp only [Zl,Zi]
    have hz15:=Option.some.inj hz15;subst hz15
    refine And.intro rfl (Fit2.of (Zj hU rfl rfl ?_) (by omega))
    simp only [push_cast,seval,↓reduceIte,Za,hN0,hN]
   refine Zc Zd [] ?_
   simp only [push_cast,seval,↓reduceIte,Za,hN0,hN]
   have hs0_:=Option.some.inj hs0_;subst hs0_
   refine And.intro rfl (Fit2.of (Zj hU rfl rfl ?_) (by omega))
   simp only [push_cast,seval,↓reduceIte,Za,hN0,hN]
  replace hs0_:=Zr c22 hs0_
  refine Yx ?_
  try simp only [Zl,Zi,↓reduceIte,Nat.reduceEqDiff]
  have hs0_:=Option.some.inj hs0_;subst hs0_
  refine And.intro (fun h=>by cases h) (And.intro rfl (Fit2.of (Zj hU rfl rfl ?_) (by omega)))
  simp only [push_cast,seval,↓reduceIte,Za,hN0,hN]
 try simp only [Zl,Zi,↓reduceIte,Nat.reduceEqDiff]
 refine Zk [7] [true,false] ?_
 simp only [push_cast,seval,↓reduceIte]
 refine Zm ?_
 have g27:=Zxf (j:=n) Zoq Zwn (by decide)
 have g28:=z23.2
 obtain ⟨y29,hy29,h⟩:=bC h
 refine Zc Zd [] ?_
 simp only [push_cast,seval,↓reduceIte,Za,g27,g28,hN0,hN]
 refine GCalls.lend (Zna hy29) rfl ?_ ?_
 ·simp only [push_cast,seval,↓reduceIte,Za,g27,g28,hN0,hN]
 simp only [push_cast,seval,↓reduceIte,Za,g27,g28,hN0,hN]
 refine Zk [6] [false,false] ?_
 simp only [push_cast,seval,↓reduceIte]
 refine Z0 ?_
 try simp only [Zl,Zi]
 have h:=Option.some.inj h;subst h
 refine Zt (.inr rfl) hU [.val (.int .u64 y29)] (by omega) ?_
 simp only [push_cast,seval,↓reduceIte,Za,Try.results107,hN0,hN]
theorem Zbd {a0:Int} {a1:Int} {r:Bool} {O:Objs} {n:Nat} (h:Jl a0 a1=some r):GTo Try.prog 68 [.val (.int .u64 a0),.val (.int .u8 a1)] O n (.val (.bool r)) O n:=by
 unfold Jl at h
 refine Y3 Zd Try.call68 Try.func68 rfl (Nat.le_of_ble_eq_true rfl) (Nat.le_refl _) fun hU => ?_
 have hN0:O n=none:=hU.fresh _ (Nat.le_refl _)
 have hN:∀ k,O (n+k)=none:=fun k=>hU.fresh _ (Nat.le_add_right _ _)
 show W _ _ _ _ ⟨9,[],[(0,.val (.int .u64 a0)),(1,.val (.int .u8 a1))]⟩ (Zv O n []) _
 refine Zq [0,1] (Zc Zd [] ?_)
 simp only [push_cast,seval,↓reduceIte,Za,hN0,hN]
 refine Zm ?_
 obtain ⟨y2,hy2,h⟩:=bC h
 refine Zc Zd [] ?_
 simp only [push_cast,seval,↓reduceIte,Za,hN0,hN]
 refine (Zlx hy2).then ?_
 simp only [push_cast,seval,↓reduceIte,Za,hN0,hN]
 refine Zk [4] [] ?_
 simp only [push_cast,seval,↓reduceIte]
 refine Z0 ?_
 try simp only [Zl,Zi]
 have h:=Option.some.inj h;subst h
 refine Zt (.inr rfl) hU [.val (.bool (y2 == 0))] (by omega) ?_
 simp only [push_cast,seval,↓reduceIte,Za,Try.results68,hN0,hN]
theorem Zfm {a0:S_api_Edit} {r:Bool} {O:Objs} {n:Nat} (h:Kv a0=some r):GTo Try.prog 108 [.agg (Ze a0)] O n (.val (.bool r)) O n:=by
 unfold Kv at h
 refine Y3 Zd Try.call108 Try.func108 rfl (Nat.le_of_ble_eq_true rfl) (Nat.le_refl _) fun hU => ?_
 have hN0:O n=none:=hU.fresh _ (Nat.le_refl _)
 have hN:∀ k,O (n+k)=none:=fun k=>hU.fresh _ (Nat.le_add_right _ _)
 show W _ _ _ _ ⟨35,[],[(0,.agg (Ze a0))]⟩ (Zv O n []) _
 refine Zq [1] (Zc Zd [] ?_)
 simp only [push_cast,seval,↓reduceIte,Za,hN0,hN]
 obtain ⟨z3,hz3,h⟩:=bC h
 refine Yl (E':=⟨35,[],[(2,.val (.bool z3))]⟩) (O':=(Zv O n [none])) (n0:=(n+1)) ?_ ?_
 ·rcases Bool.eq_false_or_eq_true (a0.Kind == 0) with c8 | c8
  ·replace hz3:=Zs c8 hz3
   obtain ⟨y6,hy6,hz3⟩:=bC hz3
   rcases Bool.eq_false_or_eq_true y6 with c9 | c9
   ·replace hz3:=Zs c9 hz3
    try rw [c9] at c8
    obtain ⟨y7,hy7,hz3⟩:=bC hz3
    refine Zc Zd [some true,some true,some true,some true,some true,some true,none,none,none,none,none,none,none,none,none,none,none,none,none,none,none] ?_
    simp only [push_cast,seval,↓reduceIte,Za,c8,c9,hN0,hN]
    repeat (with_reducible refine And.intro (by first | (intro h0;simp only [h0,and_self];done) | (intro h0;simp only [h0,Bool.not_false,Bool.not_true,Bool.true_and,Bool.and_true,true_and,and_true,and_self,imp_self,implies_true,bne_iff_ne,ne_eq,beq_iff_eq];done) | (intros;simp_all;done) | exact True.intro) ?_)
    refine (J7 hy6).then ?_
    simp only [push_cast,seval,↓reduceIte,Za,c8,c9,hN0,hN]
    repeat (with_reducible refine And.intro (by first | (intro h0;simp only [h0,and_self];done) | (intro h0;simp only [h0,Bool.not_false,Bool.not_true,Bool.true_and,Bool.and_true,true_and,and_true,and_self,imp_self,implies_true,bne_iff_ne,ne_eq,beq_iff_eq];done) | (intros;simp_all;done) | exact True.intro) ?_)
    refine (J7 hy7).then ?_
    simp only [push_cast,seval,↓reduceIte,Za,c8,c9,hN0,hN]
    repeat (with_reducible refine And.intro (by first | (intro h0;simp only [h0,and_self];done) | (intro h0;simp only [h0,Bool.not_false,Bool.not_true,Bool.true_and,Bool.and_true,true_and,and_true,and_self,imp_self,implies_true,bne_iff_ne,ne_eq,beq_iff_eq];done) | (intros;simp_all;done) | exact True.intro) ?_)
    have hz3:=Option.some.inj hz3;subst hz3
    refine And.intro rfl (Fit2.of (Zj hU rfl rfl ?_) (by omega))
    simp only [push_cast,seval,↓reduceIte,Za,c8,c9,hN0,hN]
   replace hz3:=Zr c9 hz3
   try rw [c9] at c8
   refine Zc Zd [some true,some true,some true,some false,some false,some false,some false,some false,some false,some false,some false,some false,some false,some false,some false,some false,some false,some false,some false,some false,some false] ?_
   simp only [push_cast,seval,↓reduceIte,Za,c8,c9,hN0,hN]
   refine (J7 hy6).then ?_
   simp only [push_cast,seval,↓reduceIte,Za,c8,c9,hN0,hN]
   have hz3:=Option.some.inj hz3;subst hz3
   refine And.intro rfl (Fit2.of (Zj hU rfl rfl ?_) (by omega))
   simp only [push_cast,seval,↓reduceIte,Za,c8,c9,hN0,hN]
  replace hz3:=Zr c8 hz3
  refine Zc Zd [some false,some false,some false,some false,some false,some false,some false,some false,some false,some false,some false,some false,some false,some false,some false,some false,some false,some false,some false,some false,some false] ?_
  simp only [push_cast,seval,↓reduceIte,Za,c8,hN0,hN]
  have hz3:=Option.some.inj hz3;subst hz3
  refine And.intro rfl (Fit2.of (Zj hU rfl rfl ?_) (by omega))
  simp only [push_cast,seval,↓reduceIte,Za,c8,hN0,hN]
 refine Z0 ?_
 try simp only [Zl,Zi]
 have h:=Option.some.inj h;subst h
 refine Zt (.inr rfl) hU [.val (.bool z3)] (by omega) ?_
 simp only [push_cast,seval,↓reduceIte,Za,Try.results108,hN0,hN]
theorem Zdu {a0:S_api_Edit} {r:(Int×Int)} {O:Objs} {n:Nat} (h:Q3 a0=some r):GTo Try.prog 70 [.agg (Ze a0)] O n (.tup [.val (.int .i64 r.1),.val (.int .i64 r.2)]) O n:=by
 unfold Q3 at h
 refine Y3 Zd Try.call70 Try.func70 rfl (Nat.le_of_ble_eq_true rfl) (Nat.le_refl _) fun hU => ?_
 have hN0:O n=none:=hU.fresh _ (Nat.le_refl _)
 have hN:∀ k,O (n+k)=none:=fun k=>hU.fresh _ (Nat.le_add_right _ _)
 show W _ _ _ _ ⟨48,[],[(0,.agg (Ze a0))]⟩ (Zv O n []) _
 refine Zq [1] (Zc Zd [] ?_)
 simp only [push_cast,seval,↓reduceIte,Za,hN0,hN]
 refine Zq [1,4,5] (Zc Zd [] ?_)
 simp only [push_cast,seval,↓reduceIte,Za,hN0,hN]
 refine Zm ?_
 refine Zq [1,4,5,6] (Zc Zd [] ?_)
 simp only [push_cast,seval,↓reduceIte,Za,hN0,hN]
 refine Zk [1,4,5,6] [true] ?_
 simp only [push_cast,seval,↓reduceIte]
 obtain ⟨z14,hz14,h⟩:=bC h
 refine Yb (E':=⟨48,[],[(4,.val (.int .i64 z14.1)),(5,.val (.int .i64 z14.2))]⟩) (O':=(Zv O n [none])) (n0:=(n+1)) ?_ ?_
 ·refine Yn hz14 (fun s0_=>⟨48,[],[(1,.ref n 0),(4,.val (.int .i64 s0_.1)),(5,.val (.int .i64 s0_.2.1)),(6,.val (.int .i64 s0_.2.2))]⟩) (fun s0_=>(Zv O n [some ⟨false,30,11,1,(Ze a0)⟩])) (fun z14=>JX 0 n (⟨48,[],[(4,.val (.int .i64 z14.1)),(5,.val (.int .i64 z14.2))]⟩:Env) (Zv O n [none]) (n+1)) ?_
  intro s0_ x0_ hs0_
  unfold Q4 at hs0_
  try dsimp only
  refine Zm ?_
  refine Zq [1,4,5,6,13] (Zc Zd [] ?_)
  simp only [push_cast,seval,↓reduceIte,Za,hN0,hN]
  refine Zu (t:=(decide (s0_.2.2 < (a0.Ops.length:Int)))) rfl (fun c13 => ?_) (fun c13 => ?_)
  ·replace hs0_:=Zs c13 hs0_
   refine Zy ?_
   try simp only [Zl,Zi]
   refine Zk [1,4,5,6] [true] ?_
   simp only [push_cast,seval,↓reduceIte]
   obtain ⟨z1,hz1,hs0_⟩:=bC hs0_
   refine Yl (E':=⟨48,[],[(1,.ref n 0),(4,.val (.int .i64 z1.1)),(5,.val (.int .i64 z1.2)),(6,.val (.int .i64 s0_.2.2))]⟩) (O':=(Zv O n [some ⟨false,30,11,1,(Ze a0)⟩,none])) (n0:=(n+2)) ?_ ?_
   ·refine Z6 ?_
    refine Zm ?_
    obtain ⟨x3,hx3,ax3,bx3,cx3,hz1⟩:=bE (f:=Zf) V2 (fun _=>rfl) (by decide) hz1
    refine Zc Zd [] ?_
    simp only [push_cast,Nat.reduceAdd,Nat.reduceSub,Nat.reduceMul,Nat.reduceLeDiff,Nat.reduceLT,Nat.reduceEqDiff,↓reduceIte,reduceCtorEq,Int.reduceBEq,Int.reduceBNe,Nat.reduceBEq,Int.reduceLE,Int.reduceLT,Int.reduceEq,Int.reduceNe,Int.reduceNeg,Nat.reduceDiv,Nat.reduceMod,Nat.reducePow,Za,ax3,bx3,cx3,hN0,hN]
    refine Zk [1,4,5,6,7] [true,true] ?_
    simp only [push_cast,seval,↓reduceIte]
    refine Zq [1,4,5,6,7,8] (Zc Zd [] ?_)
    simp only [push_cast,seval,↓reduceIte,Za,hN0,hN]
    obtain ⟨z4,hz4,hz1⟩:=bC hz1
    refine Yl (E':=⟨48,[],[(1,.ref n 0),(4,.val (.int .i64 s0_.1)),(5,.val (.int .i64 s0_.2.1)),(6,.val (.int .i64 s0_.2.2)),(7,.ref (n+1) 0),(8,.val (.int .i64 z4))]⟩) (O':=(Zv O n [some ⟨false,30,11,1,(Ze a0)⟩,some ⟨false,69,14,1,(Z3 x3)⟩])) (n0:=(n+2)) ?_ ?_
    ·refine Zq [1,4,5,6,7,8,29] (Zc Zd [] ?_)
     simp only [push_cast,seval,↓reduceIte,Za,hN0,hN]
     refine Zu (t:=(x3.Kind == 3)) rfl (fun c5 => ?_) (fun c5 => ?_)
     ·replace hz4:=Zs c5 hz4
      refine Zc Zd [] ?_
      simp only [push_cast,seval,↓reduceIte,Za,hN0,hN]
      have hz4:=Option.some.inj hz4;subst hz4
      refine And.intro rfl (Fit2.of (Zj hU rfl rfl ?_) (by omega))
      simp only [push_cast,seval,↓reduceIte,Za,hN0,hN]
     replace hz4:=Zr c5 hz4
     refine Zy ?_
     try simp only [Zl,Zi]
     have hz4:=Option.some.inj hz4;subst hz4
     refine And.intro rfl (Fit2.of (Zj hU rfl rfl ?_) (by omega))
     simp only [push_cast,seval,↓reduceIte,Za,hN0,hN]
    obtain ⟨z6,hz6,hz1⟩:=bC hz1
    refine Yl (E':=⟨48,[],[(1,.ref n 0),(4,.val (.int .i64 z6)),(5,.val (.int .i64 s0_.2.1)),(6,.val (.int .i64 s0_.2.2)),(7,.ref (n+1) 0),(8,.val (.int .i64 z4))]⟩) (O':=(Zv O n [some ⟨false,30,11,1,(Ze a0)⟩,some ⟨false,69,14,1,(Z3 x3)⟩])) (n0:=(n+2)) ?_ ?_
    ·refine Zq [1,4,5,6,7,8,32] (Zc Zd [] ?_)
     simp only [push_cast,seval,↓reduceIte,Za,hN0,hN]
     refine Zu (t:=(x3.Kind != 2)) rfl (fun c7 => ?_) (fun c7 => ?_)
     ·replace hz6:=Zs c7 hz6
      refine Zc Zd [] ?_
      simp only [push_cast,seval,↓reduceIte,Za,hN0,hN]
      have hz6:=Option.some.inj hz6;subst hz6
      refine And.intro rfl (Fit2.of (Zj hU rfl rfl ?_) (by omega))
      simp only [push_cast,seval,↓reduceIte,Za,hN0,hN]
     replace hz6:=Zr c7 hz6
     refine Zy ?_
     try simp only [Zl,Zi]
     have hz6:=Option.some.inj hz6;subst hz6
     refine And.intro rfl (Fit2.of (Zj hU rfl rfl ?_) (by omega))
     simp only [push_cast,seval,↓reduceIte,Za,hN0,hN]
    obtain ⟨z8,hz8,hz1⟩:=bC hz1
    refine Yl (E':=⟨48,[],[(1,.ref n 0),(4,.val (.int .i64 z6)),(5,.val (.int .i64 z8)),(6,.val (.int .i64 s0_.2.2))]⟩) (O':=(Zv O n [some ⟨false,30,11,1,(Ze a0)⟩,none])) (n0:=(n+2)) ?_ ?_
    ·refine Zq [1,4,5,6,8,38] (Zc Zd [] ?_)
     simp only [push_cast,seval,↓reduceIte,Za,hN0,hN]
     refine Zu (t:=(x3.Kind != 1)) rfl (fun c9 => ?_) (fun c9 => ?_)
     ·replace hz8:=Zs c9 hz8
      refine Zc Zd [] ?_
      simp only [push_cast,seval,↓reduceIte,Za,hN0,hN]
      have hz8:=Option.some.inj hz8;subst hz8
      refine And.intro rfl (Fit2.of (Zj hU rfl rfl ?_) (by omega))
      simp only [push_cast,seval,↓reduceIte,Za,hN0,hN]
     replace hz8:=Zr c9 hz8
     refine Zy ?_
     try simp only [Zl,Zi]
     have hz8:=Option.some.inj hz8;subst hz8
     refine And.intro rfl (Fit2.of (Zj hU rfl rfl ?_) (by omega))
     simp only [push_cast,seval,↓reduceIte,Za,hN0,hN]
    obtain ⟨z10,hz10,hz1⟩:=bC hz1
    refine Yl (E':=⟨48,[],[(1,.ref n 0),(4,.val (.int .i64 z10)),(5,.val (.int .i64 z8)),(6,.val (.int .i64 s0_.2.2))]⟩) (O':=(Zv O n [some ⟨false,30,11,1,(Ze a0)⟩,none])) (n0:=(n+2)) ?_ ?_
    ·refine Zq [1,4,5,6,43] (Zc Zd [] ?_)
     simp only [push_cast,seval,↓reduceIte,Za,hN0,hN]
     refine Zu (t:=(decide (1048576 < z6))) rfl (fun c11 => ?_) (fun c11 => ?_)
     ·replace hz10:=Zs c11 hz10
      refine Zc Zd [] ?_
      simp only [push_cast,seval,↓reduceIte,Za,hN0,hN]
      have hz10:=Option.some.inj hz10;subst hz10
      refine And.intro rfl (Fit2.of (Zj hU rfl rfl ?_) (by omega))
      simp only [push_cast,seval,↓reduceIte,Za,hN0,hN]
     replace hz10:=Zr c11 hz10
     refine Zy ?_
     try simp only [Zl,Zi]
     have hz10:=Option.some.inj hz10;subst hz10
     refine And.intro rfl (Fit2.of (Zj hU rfl rfl ?_) (by omega))
     simp only [push_cast,seval,↓reduceIte,Za,hN0,hN]
    refine Zq [1,4,5,6,45] (Zc Zd [] ?_)
    simp only [push_cast,seval,↓reduceIte,Za,hN0,hN]
    refine Zu (t:=(decide (1048576 < z8))) rfl (fun c12 => ?_) (fun c12 => ?_)
    ·replace hz1:=Zs c12 hz1
     refine Zc Zd [] ?_
     simp only [push_cast,seval,↓reduceIte,Za,hN0,hN]
     have hz1:=Option.some.inj hz1;subst hz1
     refine And.intro rfl (Fit2.of (Zj hU rfl rfl ?_) (by omega))
     simp only [push_cast,seval,↓reduceIte,Za,hN0,hN]
    replace hz1:=Zr c12 hz1
    refine Zy ?_
    try simp only [Zl,Zi]
    have hz1:=Option.some.inj hz1;subst hz1
    refine And.intro rfl (Fit2.of (Zj hU rfl rfl ?_) (by omega))
    simp only [push_cast,seval,↓reduceIte,Za,hN0,hN]
   refine Zc Zd [] ?_
   simp only [push_cast,seval,↓reduceIte,Za,hN0,hN]
   have hs0_:=Option.some.inj hs0_;subst hs0_
   refine And.intro rfl (Fit2.of (Zj hU rfl rfl ?_) (by omega))
   simp only [push_cast,seval,↓reduceIte,Za,hN0,hN]
  replace hs0_:=Zr c13 hs0_
  refine Yx ?_
  try simp only [Zl,Zi,↓reduceIte,Nat.reduceEqDiff]
  have hs0_:=Option.some.inj hs0_;subst hs0_
  refine And.intro (fun h=>by cases h) (And.intro rfl (Fit2.of (Zj hU rfl rfl ?_) (by omega)))
  simp only [push_cast,seval,↓reduceIte,Za,hN0,hN]
 try simp only [Zl,Zi,↓reduceIte,Nat.reduceEqDiff]
 refine Zk [4,5] [false] ?_
 simp only [push_cast,seval,↓reduceIte]
 refine Zq [2,3] (Zc Zd [] ?_)
 simp only [push_cast,seval,↓reduceIte,Za,hN0,hN]
 refine Z0 ?_
 try simp only [Zl,Zi]
 have h:=Option.some.inj h;subst h
 refine Zt (.inr rfl) hU [.val (.int .i64 z14.1),.val (.int .i64 z14.2)] (by omega) ?_
 simp only [push_cast,seval,↓reduceIte,Za,Try.results70,hN0,hN]
theorem Ziw {Y8:(S_api_Edit→Int→Option Bool)} {Qf:(Int→S_api_Op→Int→Option Bool)} (Zar:∀ {a0:S_api_Edit} {a1:Int} {r:Bool} {O:Objs} {n:Nat},Y8 a0 a1=some r→GTo Try.prog 39 [.agg (Ze a0),.val (.int .i64 a1)] O n (.val (.bool r)) O n) (Zfo:∀ {a0:Int} {a1:S_api_Op} {a2:Int} {r:Bool} {O:Objs} {n:Nat},Qf a0 a1 a2=some r→GTo Try.prog 69 [.val (.int .i64 a0),.agg (Z3 a1),.val (.int .i64 a2)] O n (.val (.bool r)) O n) {a0:S_api_Edit} {a1:Int} {r:Bool} {O:Objs} {n:Nat} (h:Vi Y8 Qf a0 a1=some r):GTo Try.prog 39 [.agg (Ze a0),.val (.int .i64 a1)] O n (.val (.bool r)) O n:=by
 unfold Vi at h
 refine Y3 Zd Try.call39 Try.func39 rfl (Nat.le_of_ble_eq_true rfl) (Nat.le_refl _) fun hU => ?_
 have hN0:O n=none:=hU.fresh _ (Nat.le_refl _)
 have hN:∀ k,O (n+k)=none:=fun k=>hU.fresh _ (Nat.le_add_right _ _)
 show W _ _ _ _ ⟨216,[],[(0,.agg (Ze a0)),(1,.val (.int .i64 a1))]⟩ (Zv O n []) _
 refine Zq [1,2] (Zc Zd [] ?_)
 simp only [push_cast,seval,↓reduceIte,Za,hN0,hN]
 refine Zm ?_
 refine Zq [1,2,24] (Zc Zd [none,none,none,none,none,none] ?_)
 simp only [push_cast,seval,↓reduceIte,Za,hN0,hN]
 repeat (with_reducible refine And.intro (by first | (intro h0;simp only [h0,and_self];done) | (intro h0;simp only [h0,Bool.not_false,Bool.not_true,Bool.true_and,Bool.and_true,true_and,and_true,and_self,imp_self,implies_true,bne_iff_ne,ne_eq,beq_iff_eq];done) | (intros;simp_all;done) | exact True.intro) ?_)
 refine Zu (t:=(cond (cond (a1 == 0) true (decide (a0.Kind < 0))) true (decide (3 < a0.Kind)))) rfl (fun c58 => ?_) (fun c58 => ?_)
 ·replace h:=Zs c58 h
  refine Zq [4] (Zc Zd [] ?_)
  simp only [push_cast,seval,↓reduceIte,Za,hN0,hN]
  refine Z0 ?_
  try simp only [Zl,Zi]
  have h:=Option.some.inj h;subst h
  refine Zt (.inr rfl) hU [.val (.bool false)] (by omega) ?_
  simp only [push_cast,seval,↓reduceIte,Za,Try.results39,hN0,hN]
 replace h:=Zr c58 h
 refine Zy ?_
 try simp only [Zl,Zi]
 refine Zk [1,2] [true] ?_
 simp only [push_cast,seval,↓reduceIte]
 refine Zm ?_
 obtain ⟨z3,hz3,h⟩:=bC h
 refine Yl (E':=⟨216,[],[(1,.val (.int .i64 a1)),(2,.ref n 0),(69,.val (.bool z3))]⟩) (O':=(Zv O n [some ⟨false,30,11,1,(Ze a0)⟩])) (n0:=(n+1)) ?_ ?_
 ·rcases Bool.eq_false_or_eq_true (a0.Kind != 1) with c8 | c8
  ·replace hz3:=Zs c8 hz3
   obtain ⟨y6,hy6,hz3⟩:=bC hz3
   rcases Bool.eq_false_or_eq_true y6 with c9 | c9
   ·replace hz3:=Zs c9 hz3
    try rw [c9] at c8
    obtain ⟨y7,hy7,hz3⟩:=bC hz3
    refine Zc Zd [some true,some true,some true,some true,some true,some true,some true,some true,some true,none,none,none,none,none,none,none,none,none,none,none,none,none,none,none,none,none,none,none,none,none,none,none,none,none,none,none] ?_
    simp only [push_cast,seval,↓reduceIte,Za,c8,c9,hN0,hN]
    repeat (with_reducible refine And.intro (by first | (intro h0;simp only [h0,and_self];done) | (intro h0;simp only [h0,Bool.not_false,Bool.not_true,Bool.true_and,Bool.and_true,true_and,and_true,and_self,imp_self,implies_true,bne_iff_ne,ne_eq,beq_iff_eq];done) | (intros;simp_all;done) | exact True.intro) ?_)
    refine (J7 hy6).then ?_
    simp only [push_cast,seval,↓reduceIte,Za,c8,c9,hN0,hN]
    repeat (with_reducible refine And.intro (by first | (intro h0;simp only [h0,and_self];done) | (intro h0;simp only [h0,Bool.not_false,Bool.not_true,Bool.true_and,Bool.and_true,true_and,and_true,and_self,imp_self,implies_true,bne_iff_ne,ne_eq,beq_iff_eq];done) | (intros;simp_all;done) | exact True.intro) ?_)
    refine (J7 hy7).then ?_
    simp only [push_cast,seval,↓reduceIte,Za,c8,c9,hN0,hN]
    repeat (with_reducible refine And.intro (by first | (intro h0;simp only [h0,and_self];done) | (intro h0;simp only [h0,Bool.not_false,Bool.not_true,Bool.true_and,Bool.and_true,true_and,and_true,and_self,imp_self,implies_true,bne_iff_ne,ne_eq,beq_iff_eq];done) | (intros;simp_all;done) | exact True.intro) ?_)
    have hz3:=Option.some.inj hz3;subst hz3
    refine And.intro rfl (Fit2.of (Zj hU rfl rfl ?_) (by omega))
    simp only [push_cast,seval,↓reduceIte,Za,c8,c9,hN0,hN]
   replace hz3:=Zr c9 hz3
   try rw [c9] at c8
   refine Zc Zd [some true,some true,some true,some true,some false,some false,some false,some true,some true,some false,some false,some false,some false,some false,some false,some false,some false,some false,some false,some false,some false,some false,some false,some false,some false,some false,some false,some false,some false,some false,some false,some false,some false,some false,some false,some false] ?_
   simp only [push_cast,seval,↓reduceIte,Za,c8,c9,hN0,hN]
   refine (J7 hy6).then ?_
   simp only [push_cast,seval,↓reduceIte,Za,c8,c9,hN0,hN]
   have hz3:=Option.some.inj hz3;subst hz3
   refine And.intro rfl (Fit2.of (Zj hU rfl rfl ?_) (by omega))
   simp only [push_cast,seval,↓reduceIte,Za,c8,c9,hN0,hN]
  replace hz3:=Zr c8 hz3
  refine Zc Zd [some false,some false,some false,some false,some false,some false,some false,some false,some false,some true,some true,some true,some true,none,none,none,none,none,none,none,none,some true,none,none,none,none,none,none,none,none,none,none,none,none,none,none] ?_
  simp only [push_cast,seval,↓reduceIte,Za,c8,hN0,hN]
  repeat (with_reducible refine And.intro (by first | (intro h0;simp only [h0,and_self];done) | (intro h0;simp only [h0,Bool.not_false,Bool.not_true,Bool.true_and,Bool.and_true,true_and,and_true,and_self,imp_self,implies_true,bne_iff_ne,ne_eq,beq_iff_eq];done) | (intros;simp_all;done) | exact True.intro) ?_)
  have hz3:=Option.some.inj hz3;subst hz3
  refine And.intro rfl (Fit2.of (Zj hU rfl rfl ?_) (by omega))
  simp only [push_cast,seval,↓reduceIte,Za,c8,hN0,hN]
 refine Zu (t:=z3) rfl (fun c57 => ?_) (fun c57 => ?_)
 ·replace h:=Zs c57 h
  refine Zq [4] (Zc Zd [] ?_)
  simp only [push_cast,seval,↓reduceIte,Za,hN0,hN]
  refine Z0 ?_
  try simp only [Zl,Zi]
  have h:=Option.some.inj h;subst h
  refine Zt (.inr rfl) hU [.val (.bool false)] (by omega) ?_
  simp only [push_cast,seval,↓reduceIte,Za,Try.results39,hN0,hN]
 replace h:=Zr c57 h
 refine Zy ?_
 try simp only [Zl,Zi]
 refine Zk [1,2] [true] ?_
 simp only [push_cast,seval,↓reduceIte]
 refine Zm ?_
 refine Zq [1,2,72] (Zc Zd [] ?_)
 simp only [push_cast,seval,↓reduceIte,Za,hN0,hN]
 refine Zu (t:=(a0.Kind == 1)) rfl (fun c56 => ?_) (fun c56 => ?_)
 ·replace h:=Zs c56 h
  obtain ⟨z12,hz12,h⟩:=bC h
  refine Yl (E':=⟨216,[],[(4,.val (.bool z12))]⟩) (O':=(Zv O n [none])) (n0:=(n+1)) ?_ ?_
  ·obtain ⟨y15,hy15,hz12⟩:=bC hz12
   rcases Bool.eq_false_or_eq_true y15 with c17 | c17
   ·replace hz12:=Zs c17 hz12
    obtain ⟨y16,hy16,hz12⟩:=bC hz12
    refine Zc Zd [some true,some true,some true,none,none,none,none,none,none,none,none] ?_
    simp only [push_cast,seval,↓reduceIte,Za,c17,hN0,hN]
    repeat (with_reducible refine And.intro (by first | (intro h0;simp only [h0,and_self];done) | (intro h0;simp only [h0,Bool.not_false,Bool.not_true,Bool.true_and,Bool.and_true,true_and,and_true,and_self,imp_self,implies_true,bne_iff_ne,ne_eq,beq_iff_eq];done) | (intros;simp_all;done) | exact True.intro) ?_)
    refine (Uz hy15).then ?_
    simp only [push_cast,seval,↓reduceIte,Za,c17,hN0,hN]
    repeat (with_reducible refine And.intro (by first | (intro h0;simp only [h0,and_self];done) | (intro h0;simp only [h0,Bool.not_false,Bool.not_true,Bool.true_and,Bool.and_true,true_and,and_true,and_self,imp_self,implies_true,bne_iff_ne,ne_eq,beq_iff_eq];done) | (intros;simp_all;done) | exact True.intro) ?_)
    refine (Uz hy16).then ?_
    simp only [push_cast,seval,↓reduceIte,Za,c17,hN0,hN]
    repeat (with_reducible refine And.intro (by first | (intro h0;simp only [h0,and_self];done) | (intro h0;simp only [h0,Bool.not_false,Bool.not_true,Bool.true_and,Bool.and_true,true_and,and_true,and_self,imp_self,implies_true,bne_iff_ne,ne_eq,beq_iff_eq];done) | (intros;simp_all;done) | exact True.intro) ?_)
    have hz12:=Option.some.inj hz12;subst hz12
    refine And.intro rfl (Fit2.of (Zj hU rfl rfl ?_) (by omega))
    simp only [push_cast,seval,↓reduceIte,Za,c17,hN0,hN]
   replace hz12:=Zr c17 hz12
   refine Zc Zd [some false,some false,some false,some false,some false,some false,some false,some false,some false,some false,some false] ?_
   simp only [push_cast,seval,↓reduceIte,Za,c17,hN0,hN]
   refine (Uz hy15).then ?_
   simp only [push_cast,seval,↓reduceIte,Za,c17,hN0,hN]
   have hz12:=Option.some.inj hz12;subst hz12
   refine And.intro rfl (Fit2.of (Zj hU rfl rfl ?_) (by omega))
   simp only [push_cast,seval,↓reduceIte,Za,c17,hN0,hN]
  refine Z0 ?_
  try simp only [Zl,Zi]
  have h:=Option.some.inj h;subst h
  refine Zt (.inr rfl) hU [.val (.bool z12)] (by omega) ?_
  simp only [push_cast,seval,↓reduceIte,Za,Try.results39,hN0,hN]
 replace h:=Zr c56 h
 refine Zy ?_
 try simp only [Zl,Zi]
 refine Zk [1,2] [true] ?_
 simp only [push_cast,seval,↓reduceIte]
 refine Zq [1,2,5] (Zc Zd [] ?_)
 simp only [push_cast,seval,↓reduceIte,Za,hN0,hN]
 refine Zm ?_
 refine Zq [1,2,5,6] (Zc Zd [] ?_)
 simp only [push_cast,seval,↓reduceIte,Za,hN0,hN]
 refine Zk [1,2,5,6] [true] ?_
 simp only [push_cast,seval,↓reduceIte]
 obtain ⟨z33,hz33,h⟩:=bC h
 refine U0 (J:=(Xc (fun z33=>JR n (⟨216,[],[(4,.val (.bool false))]⟩:Env) (Zv O n [none]) (n+1)) (fun z33=>JX 0 n (⟨216,[],[(1,.val (.int .i64 a1)),(2,.ref n 0)]⟩:Env) (Zv O n [some ⟨false,30,11,1,(Ze a0)⟩]) (n+1)))) (z:=z33) ?_ fun hw => ?_
 ·refine Yn hz33 (fun s0_=>⟨216,[],[(1,.val (.int .i64 a1)),(2,.ref n 0),(5,.val (.int .i64 s0_.1)),(6,.val (.int .i64 s0_.2))]⟩) (fun s0_=>(Zv O n [some ⟨false,30,11,1,(Ze a0)⟩])) (Xc (fun z33=>JR n (⟨216,[],[(4,.val (.bool false))]⟩:Env) (Zv O n [none]) (n+1)) (fun z33=>JX 0 n (⟨216,[],[(1,.val (.int .i64 a1)),(2,.ref n 0)]⟩:Env) (Zv O n [some ⟨false,30,11,1,(Ze a0)⟩]) (n+1))) ?_
  intro s0_ x0_ hs0_
  unfold Qo at hs0_
  try dsimp only
  refine Zm ?_
  refine Zq [1,2,5,6,97] (Zc Zd [] ?_)
  simp only [push_cast,seval,↓reduceIte,Za,hN0,hN]
  refine Zu (t:=(decide (s0_.2 < (a0.Words.length:Int)))) rfl (fun c32 => ?_) (fun c32 => ?_)
  ·replace hs0_:=Zs c32 hs0_
   refine Zy ?_
   try simp only [Zl,Zi]
   refine Zk [1,2,5,6] [true] ?_
   simp only [push_cast,seval,↓reduceIte]
   refine Zm ?_
   refine Z6 ?_
   refine Zm ?_
   obtain ⟨x19,hx19,ax19,bx19,cx19,hs0_⟩:=bE (f:=Zg) Zmj (fun _=>rfl) (by decide) hs0_
   refine Zc Zd [] ?_
   simp only [push_cast,Nat.reduceAdd,Nat.reduceSub,Nat.reduceMul,Nat.reduceLeDiff,Nat.reduceLT,Nat.reduceEqDiff,↓reduceIte,reduceCtorEq,Int.reduceBEq,Int.reduceBNe,Nat.reduceBEq,Int.reduceLE,Int.reduceLT,Int.reduceEq,Int.reduceNe,Int.reduceNeg,Nat.reduceDiv,Nat.reduceMod,Nat.reducePow,Za,ax19,bx19,cx19,hN0,hN]
   refine Zk [1,2,5,6,7] [true,true] ?_
   simp only [push_cast,seval,↓reduceIte]
   refine Zm ?_
   obtain ⟨z22,hz22,hs0_⟩:=bC hs0_
   refine Yl (E':=⟨216,[],[(1,.val (.int .i64 a1)),(2,.ref n 0),(6,.val (.int .i64 s0_.2)),(7,.ref (n+1) 0),(134,.val (.bool z22))]⟩) (O':=(Zv O n [some ⟨false,30,11,1,(Ze a0)⟩,some ⟨false,58,4,1,(Zbr x19)⟩])) (n0:=(n+2)) ?_ ?_
   ·rcases Bool.eq_false_or_eq_true (decide (x19.At≤s0_.1)) with c27 | c27
    ·replace hz22:=Zs c27 hz22
     refine Zc Zd [none,none,none,none,none,none,some false,some false,some false,some false,some false,some false,some false,some false,some false,some false,some false,some false] ?_
     simp only [push_cast,seval,↓reduceIte,Za,c27,hN0,hN]
     repeat (with_reducible refine And.intro (by first | (intro h0;simp only [h0,and_self];done) | (intro h0;simp only [h0,Bool.not_false,Bool.not_true,Bool.true_and,Bool.and_true,true_and,and_true,and_self,imp_self,implies_true,bne_iff_ne,ne_eq,beq_iff_eq];done) | (intros;simp_all;done) | exact True.intro) ?_)
     have hz22:=Option.some.inj hz22;subst hz22
     refine And.intro rfl (Fit2.of (Zj hU rfl rfl ?_) (by omega))
     simp only [push_cast,seval,↓reduceIte,Za,c27,hN0,hN]
    replace hz22:=Zr c27 hz22
    rcases Bool.eq_false_or_eq_true (decide (65534 < x19.At)) with c28 | c28
    ·replace hz22:=Zs c28 hz22
     try rw [c28] at c27
     refine Zc Zd [none,none,none,none,none,none,some false,some false,some false,some false,some false,some false,some false,some false,some false,some false,some false,some false] ?_
     simp only [push_cast,seval,↓reduceIte,Za,c27,c28,hN0,hN]
     repeat (with_reducible refine And.intro (by first | (intro h0;simp only [h0,and_self];done) | (intro h0;simp only [h0,Bool.not_false,Bool.not_true,Bool.true_and,Bool.and_true,true_and,and_true,and_self,imp_self,implies_true,bne_iff_ne,ne_eq,beq_iff_eq];done) | (intros;simp_all;done) | exact True.intro) ?_)
     have hz22:=Option.some.inj hz22;subst hz22
     refine And.intro rfl (Fit2.of (Zj hU rfl rfl ?_) (by omega))
     simp only [push_cast,seval,↓reduceIte,Za,c27,c28,hN0,hN]
    replace hz22:=Zr c28 hz22
    try rw [c28] at c27
    rcases Bool.eq_false_or_eq_true (x19.Mask == 0) with c29 | c29
    ·replace hz22:=Zs c29 hz22
     try rw [c29] at c27
     try rw [c29] at c28
     refine Zc Zd [none,none,none,none,none,none,some false,some false,some false,some false,some false,some false,some false,some false,some false,some false,some false,some false] ?_
     simp only [push_cast,seval,↓reduceIte,Za,c27,c28,c29,hN0,hN]
     repeat (with_reducible refine And.intro (by first | (intro h0;simp only [h0,and_self];done) | (intro h0;simp only [h0,Bool.not_false,Bool.not_true,Bool.true_and,Bool.and_true,true_and,and_true,and_self,imp_self,implies_true,bne_iff_ne,ne_eq,beq_iff_eq];done) | (intros;simp_all;done) | exact True.intro) ?_)
     have hz22:=Option.some.inj hz22;subst hz22
     refine And.intro rfl (Fit2.of (Zj hU rfl rfl ?_) (by omega))
     simp only [push_cast,seval,↓reduceIte,Za,c27,c28,c29,hN0,hN]
    replace hz22:=Zr c29 hz22
    try rw [c29] at c27
    try rw [c29] at c28
    obtain ⟨y25,hy25,hz22⟩:=bC hz22
    rcases Bool.eq_false_or_eq_true y25 with c30 | c30
    ·replace hz22:=Zs c30 hz22
     try rw [c30] at c27
     try rw [c30] at c28
     try rw [c30] at c29
     obtain ⟨y26,hy26,hz22⟩:=bC hz22
     refine Zc Zd [none,none,none,none,none,none,some true,some true,some true,some true,some true,some true,some true,some true,some true,some true,some true,some true] ?_
     simp only [push_cast,seval,↓reduceIte,Za,c27,c28,c29,c30,hN0,hN]
     repeat (with_reducible refine And.intro (by first | (intro h0;simp only [h0,and_self];done) | (intro h0;simp only [h0,Bool.not_false,Bool.not_true,Bool.true_and,Bool.and_true,true_and,and_true,and_self,imp_self,implies_true,bne_iff_ne,ne_eq,beq_iff_eq];done) | (intros;simp_all;done) | exact True.intro) ?_)
     refine (Zbd hy25).then ?_
     simp only [push_cast,seval,↓reduceIte,Za,c27,c28,c29,c30,hN0,hN]
     repeat (with_reducible refine And.intro (by first | (intro h0;simp only [h0,and_self];done) | (intro h0;simp only [h0,Bool.not_false,Bool.not_true,Bool.true_and,Bool.and_true,true_and,and_true,and_self,imp_self,implies_true,bne_iff_ne,ne_eq,beq_iff_eq];done) | (intros;simp_all;done) | exact True.intro) ?_)
     refine (Zbd hy26).then ?_
     simp only [push_cast,seval,↓reduceIte,Za,c27,c28,c29,c30,hN0,hN]
     repeat (with_reducible refine And.intro (by first | (intro h0;simp only [h0,and_self];done) | (intro h0;simp only [h0,Bool.not_false,Bool.not_true,Bool.true_and,Bool.and_true,true_and,and_true,and_self,imp_self,implies_true,bne_iff_ne,ne_eq,beq_iff_eq];done) | (intros;simp_all;done) | exact True.intro) ?_)
     have hz22:=Option.some.inj hz22;subst hz22
     refine And.intro rfl (Fit2.of (Zj hU rfl rfl ?_) (by omega))
     simp only [push_cast,seval,↓reduceIte,Za,c27,c28,c29,c30,hN0,hN]
    replace hz22:=Zr c30 hz22
    try rw [c30] at c27
    try rw [c30] at c28
    try rw [c30] at c29
    refine Zc Zd [none,none,none,none,none,none,some true,some true,some true,some true,some true,some true,some false,some false,some false,some false,some false,some false] ?_
    simp only [push_cast,seval,↓reduceIte,Za,c27,c28,c29,c30,hN0,hN]
    repeat (with_reducible refine And.intro (by first | (intro h0;simp only [h0,and_self];done) | (intro h0;simp only [h0,Bool.not_false,Bool.not_true,Bool.true_and,Bool.and_true,true_and,and_true,and_self,imp_self,implies_true,bne_iff_ne,ne_eq,beq_iff_eq];done) | (intros;simp_all;done) | exact True.intro) ?_)
    refine (Zbd hy25).then ?_
    simp only [push_cast,seval,↓reduceIte,Za,c27,c28,c29,c30,hN0,hN]
    repeat (with_reducible refine And.intro (by first | (intro h0;simp only [h0,and_self];done) | (intro h0;simp only [h0,Bool.not_false,Bool.not_true,Bool.true_and,Bool.and_true,true_and,and_true,and_self,imp_self,implies_true,bne_iff_ne,ne_eq,beq_iff_eq];done) | (intros;simp_all;done) | exact True.intro) ?_)
    have hz22:=Option.some.inj hz22;subst hz22
    refine And.intro rfl (Fit2.of (Zj hU rfl rfl ?_) (by omega))
    simp only [push_cast,seval,↓reduceIte,Za,c27,c28,c29,c30,hN0,hN]
   refine Zu (t:=z22) rfl (fun c31 => ?_) (fun c31 => ?_)
   ·replace hs0_:=Zs c31 hs0_
    refine Zq [4] (Zc Zd [] ?_)
    simp only [push_cast,seval,↓reduceIte,Za,hN0,hN]
    refine Z0 ?_
    try simp only [Zl,Zi]
    have hs0_:=Option.some.inj hs0_;subst hs0_
    refine And.intro (fun h=>by cases h) (And.intro rfl (Fit2.of (Zj hU rfl rfl ?_) (by omega)))
    simp only [push_cast,seval,↓reduceIte,Za,hN0,hN]
   replace hs0_:=Zr c31 hs0_
   refine Zy ?_
   try simp only [Zl,Zi]
   refine Zk [1,2,6,7] [true,true] ?_
   simp only [push_cast,seval,↓reduceIte]
   refine Zc Zd [] ?_
   simp only [push_cast,seval,↓reduceIte,Za,hN0,hN]
   refine Zk [1,2,5,6] [true,false] ?_
   simp only [push_cast,seval,↓reduceIte]
   refine Zc Zd [] ?_
   simp only [push_cast,seval,↓reduceIte,Za,hN0,hN]
   have hs0_:=Option.some.inj hs0_;subst hs0_
   refine And.intro rfl (Fit2.of (Zj hU rfl rfl ?_) (by omega))
   simp only [push_cast,seval,↓reduceIte,Za,hN0,hN]
  replace hs0_:=Zr c32 hs0_
  refine Yx ?_
  try simp only [Zl,Zi,↓reduceIte,Nat.reduceEqDiff]
  have hs0_:=Option.some.inj hs0_;subst hs0_
  refine And.intro (fun h=>by cases h) (And.intro rfl (Fit2.of (Zj hU rfl rfl ?_) (by omega)))
  simp only [push_cast,seval,↓reduceIte,Za,hN0,hN]
 rcases z33 with z33 | z33
 ·dsimp only [Xc] at hw h
  refine Q0 hw ?_
  try simp only [Zl,Zi,↓reduceIte,Nat.reduceEqDiff]
  have h:=Option.some.inj h;subst h
  refine Zt (.inr rfl) hU [.val (.bool false)] (by omega) ?_
  simp only [push_cast,seval,↓reduceIte,Za,Try.results39,hN0,hN]
 dsimp only [Xc] at hw h
 refine Yb hw ?_
 try simp only [Zl,Zi,↓reduceIte,Nat.reduceEqDiff]
 refine Zk [1,2] [true] ?_
 simp only [push_cast,seval,↓reduceIte]
 refine Zq [1,2,5] (Zc Zd [] ?_)
 simp only [push_cast,seval,↓reduceIte,Za,hN0,hN]
 refine Zm ?_
 refine Zq [1,2,5,8] (Zc Zd [] ?_)
 simp only [push_cast,seval,↓reduceIte,Za,hN0,hN]
 refine Zk [1,2,5,8] [true] ?_
 simp only [push_cast,seval,↓reduceIte]
 obtain ⟨z45,hz45,h⟩:=bC h
 refine U0 (J:=(Xc (fun z45=>JR n (⟨216,[],[(4,.val (.bool false))]⟩:Env) (Zv O n [none]) (n+1)) (fun z45=>JX 2 n (⟨216,[],[(1,.val (.int .i64 a1)),(2,.ref n 0)]⟩:Env) (Zv O n [some ⟨false,30,11,1,(Ze a0)⟩]) (n+1)))) (z:=z45) ?_ fun hw => ?_
 ·refine Yn hz45 (fun s1_=>⟨216,[],[(1,.val (.int .i64 a1)),(2,.ref n 0),(5,.val (.int .i64 s1_.1)),(8,.val (.int .i64 s1_.2))]⟩) (fun s1_=>(Zv O n [some ⟨false,30,11,1,(Ze a0)⟩])) (Xc (fun z45=>JR n (⟨216,[],[(4,.val (.bool false))]⟩:Env) (Zv O n [none]) (n+1)) (fun z45=>JX 2 n (⟨216,[],[(1,.val (.int .i64 a1)),(2,.ref n 0)]⟩:Env) (Zv O n [some ⟨false,30,11,1,(Ze a0)⟩]) (n+1))) ?_
  intro s1_ x1_ hs1_
  unfold Qp at hs1_
  try dsimp only
  refine Zm ?_
  refine Zq [1,2,5,8,141] (Zc Zd [] ?_)
  simp only [push_cast,seval,↓reduceIte,Za,hN0,hN]
  refine Zu (t:=(decide (s1_.2 < (a0.Kids.length:Int)))) rfl (fun c44 => ?_) (fun c44 => ?_)
  ·replace hs1_:=Zs c44 hs1_
   refine Zy ?_
   try simp only [Zl,Zi]
   refine Zk [1,2,5,8] [true] ?_
   simp only [push_cast,seval,↓reduceIte]
   refine Zm ?_
   refine Z6 ?_
   refine Zm ?_
   obtain ⟨x35,hx35,ax35,bx35,cx35,hs1_⟩:=bE (f:=Zh) Zhd (fun _=>rfl) (by decide) hs1_
   refine Zc Zd [] ?_
   simp only [push_cast,Nat.reduceAdd,Nat.reduceSub,Nat.reduceMul,Nat.reduceLeDiff,Nat.reduceLT,Nat.reduceEqDiff,↓reduceIte,reduceCtorEq,Int.reduceBEq,Int.reduceBNe,Nat.reduceBEq,Int.reduceLE,Int.reduceLT,Int.reduceEq,Int.reduceNe,Int.reduceNeg,Nat.reduceDiv,Nat.reduceMod,Nat.reducePow,Za,ax35,bx35,cx35,hN0,hN]
   refine Zk [1,2,5,8,9] [true,true] ?_
   simp only [push_cast,seval,↓reduceIte]
   refine Zm ?_
   obtain ⟨z37,hz37,hs1_⟩:=bC hs1_
   refine Yl (E':=⟨216,[],[(1,.val (.int .i64 a1)),(2,.ref n 0),(8,.val (.int .i64 s1_.2)),(9,.ref (n+1) 0),(171,.val (.bool z37))]⟩) (O':=(Zv O n [some ⟨false,30,11,1,(Ze a0)⟩,some ⟨false,71,12,1,(G0 x35)⟩])) (n0:=(n+2)) ?_ ?_
   ·rcases Bool.eq_false_or_eq_true (decide (x35.At≤s1_.1)) with c40 | c40
    ·replace hz37:=Zs c40 hz37
     refine Zc Zd [none,none,none,none,none,none,none,some false,some false,some false,some false,some false,some false] ?_
     simp only [push_cast,seval,↓reduceIte,Za,c40,hN0,hN]
     repeat (with_reducible refine And.intro (by first | (intro h0;simp only [h0,and_self];done) | (intro h0;simp only [h0,Bool.not_false,Bool.not_true,Bool.true_and,Bool.and_true,true_and,and_true,and_self,imp_self,implies_true,bne_iff_ne,ne_eq,beq_iff_eq];done) | (intros;simp_all;done) | exact True.intro) ?_)
     have hz37:=Option.some.inj hz37;subst hz37
     refine And.intro rfl (Fit2.of (Zj hU rfl rfl ?_) (by omega))
     simp only [push_cast,seval,↓reduceIte,Za,c40,hN0,hN]
    replace hz37:=Zr c40 hz37
    rcases Bool.eq_false_or_eq_true (decide (65534 < x35.At)) with c41 | c41
    ·replace hz37:=Zs c41 hz37
     try rw [c41] at c40
     refine Zc Zd [none,none,none,none,none,none,none,some false,some false,some false,some false,some false,some false] ?_
     simp only [push_cast,seval,↓reduceIte,Za,c40,c41,hN0,hN]
     repeat (with_reducible refine And.intro (by first | (intro h0;simp only [h0,and_self];done) | (intro h0;simp only [h0,Bool.not_false,Bool.not_true,Bool.true_and,Bool.and_true,true_and,and_true,and_self,imp_self,implies_true,bne_iff_ne,ne_eq,beq_iff_eq];done) | (intros;simp_all;done) | exact True.intro) ?_)
     have hz37:=Option.some.inj hz37;subst hz37
     refine And.intro rfl (Fit2.of (Zj hU rfl rfl ?_) (by omega))
     simp only [push_cast,seval,↓reduceIte,Za,c40,c41,hN0,hN]
    replace hz37:=Zr c41 hz37
    try rw [c41] at c40
    rcases Bool.eq_false_or_eq_true (x35.E.Kind == 0) with c42 | c42
    ·replace hz37:=Zs c42 hz37
     try rw [c42] at c40
     try rw [c42] at c41
     refine Zc Zd [none,none,none,none,none,none,none,some false,some false,some false,some false,some false,some false] ?_
     simp only [push_cast,seval,↓reduceIte,Za,c40,c41,c42,hN0,hN]
     repeat (with_reducible refine And.intro (by first | (intro h0;simp only [h0,and_self];done) | (intro h0;simp only [h0,Bool.not_false,Bool.not_true,Bool.true_and,Bool.and_true,true_and,and_true,and_self,imp_self,implies_true,bne_iff_ne,ne_eq,beq_iff_eq];done) | (intros;simp_all;done) | exact True.intro) ?_)
     have hz37:=Option.some.inj hz37;subst hz37
     refine And.intro rfl (Fit2.of (Zj hU rfl rfl ?_) (by omega))
     simp only [push_cast,seval,↓reduceIte,Za,c40,c41,c42,hN0,hN]
    replace hz37:=Zr c42 hz37
    try rw [c42] at c40
    try rw [c42] at c41
    obtain ⟨y39,hy39,hz37⟩:=bC hz37
    refine Zc Zd [none,none,none,none,none,none,none,some true,some true,some true,some true,some true,some true] ?_
    simp only [push_cast,seval,↓reduceIte,Za,c40,c41,c42,hN0,hN]
    repeat (with_reducible refine And.intro (by first | (intro h0;simp only [h0,and_self];done) | (intro h0;simp only [h0,Bool.not_false,Bool.not_true,Bool.true_and,Bool.and_true,true_and,and_true,and_self,imp_self,implies_true,bne_iff_ne,ne_eq,beq_iff_eq];done) | (intros;simp_all;done) | exact True.intro) ?_)
    refine (Zar hy39).then ?_
    simp only [push_cast,seval,↓reduceIte,Za,c40,c41,c42,hN0,hN]
    repeat (with_reducible refine And.intro (by first | (intro h0;simp only [h0,and_self];done) | (intro h0;simp only [h0,Bool.not_false,Bool.not_true,Bool.true_and,Bool.and_true,true_and,and_true,and_self,imp_self,implies_true,bne_iff_ne,ne_eq,beq_iff_eq];done) | (intros;simp_all;done) | exact True.intro) ?_)
    have hz37:=Option.some.inj hz37;subst hz37
    refine And.intro rfl (Fit2.of (Zj hU rfl rfl ?_) (by omega))
    simp only [push_cast,seval,↓reduceIte,Za,c40,c41,c42,hN0,hN]
   refine Zu (t:=z37) rfl (fun c43 => ?_) (fun c43 => ?_)
   ·replace hs1_:=Zs c43 hs1_
    refine Zq [4] (Zc Zd [] ?_)
    simp only [push_cast,seval,↓reduceIte,Za,hN0,hN]
    refine Z0 ?_
    try simp only [Zl,Zi]
    have hs1_:=Option.some.inj hs1_;subst hs1_
    refine And.intro (fun h=>by cases h) (And.intro rfl (Fit2.of (Zj hU rfl rfl ?_) (by omega)))
    simp only [push_cast,seval,↓reduceIte,Za,hN0,hN]
   replace hs1_:=Zr c43 hs1_
   refine Zy ?_
   try simp only [Zl,Zi]
   refine Zk [1,2,8,9] [true,true] ?_
   simp only [push_cast,seval,↓reduceIte]
   refine Zc Zd [] ?_
   simp only [push_cast,seval,↓reduceIte,Za,hN0,hN]
   refine Zk [1,2,5,8] [true,false] ?_
   simp only [push_cast,seval,↓reduceIte]
   refine Zc Zd [] ?_
   simp only [push_cast,seval,↓reduceIte,Za,hN0,hN]
   have hs1_:=Option.some.inj hs1_;subst hs1_
   refine And.intro rfl (Fit2.of (Zj hU rfl rfl ?_) (by omega))
   simp only [push_cast,seval,↓reduceIte,Za,hN0,hN]
  replace hs1_:=Zr c44 hs1_
  refine Yx ?_
  try simp only [Zl,Zi,↓reduceIte,Nat.reduceEqDiff]
  have hs1_:=Option.some.inj hs1_;subst hs1_
  refine And.intro (fun h=>by cases h) (And.intro rfl (Fit2.of (Zj hU rfl rfl ?_) (by omega)))
  simp only [push_cast,seval,↓reduceIte,Za,hN0,hN]
 rcases z45 with z45 | z45
 ·dsimp only [Xc] at hw h
  refine Q0 hw ?_
  try simp only [Zl,Zi,↓reduceIte,Nat.reduceEqDiff]
  have h:=Option.some.inj h;subst h
  refine Zt (.inr rfl) hU [.val (.bool false)] (by omega) ?_
  simp only [push_cast,seval,↓reduceIte,Za,Try.results39,hN0,hN]
 dsimp only [Xc] at hw h
 refine Yb hw ?_
 try simp only [Zl,Zi,↓reduceIte,Nat.reduceEqDiff]
 refine Zk [1,2] [true] ?_
 simp only [push_cast,seval,↓reduceIte]
 refine Zm ?_
 refine Zq [1,2,186] (Zc Zd [none,none,none,none,none,none,none,none] ?_)
 simp only [push_cast,seval,↓reduceIte,Za,hN0,hN]
 repeat (with_reducible refine And.intro (by first | (intro h0;simp only [h0,and_self];done) | (intro h0;simp only [h0,Bool.not_false,Bool.not_true,Bool.true_and,Bool.and_true,true_and,and_true,and_self,imp_self,implies_true,bne_iff_ne,ne_eq,beq_iff_eq];done) | (intros;simp_all;done) | exact True.intro) ?_)
 refine Zu (t:=(cond (a0.Kind == 3) (cond (decide (a0.List_ < 2)) true (decide (9 < a0.List_))) false)) rfl (fun c55 => ?_) (fun c55 => ?_)
 ·replace h:=Zs c55 h
  refine Zq [4] (Zc Zd [] ?_)
  simp only [push_cast,seval,↓reduceIte,Za,hN0,hN]
  refine Z0 ?_
  try simp only [Zl,Zi]
  have h:=Option.some.inj h;subst h
  refine Zt (.inr rfl) hU [.val (.bool false)] (by omega) ?_
  simp only [push_cast,seval,↓reduceIte,Za,Try.results39,hN0,hN]
 replace h:=Zr c55 h
 refine Zy ?_
 try simp only [Zl,Zi]
 refine Zk [1,2] [true] ?_
 simp only [push_cast,seval,↓reduceIte]
 refine Zm ?_
 refine Zq [1,2,10] (Zc Zd [] ?_)
 simp only [push_cast,seval,↓reduceIte,Za,hN0,hN]
 refine Zk [1,2,10] [true] ?_
 simp only [push_cast,seval,↓reduceIte]
 obtain ⟨z52,hz52,h⟩:=bC h
 refine U0 (J:=(Xc (fun z52=>JR n (⟨216,[],[(4,.val (.bool false))]⟩:Env) (Zv O n [none]) (n+1)) (fun z52=>JX 4 n (⟨216,[],[(2,.ref n 0)]⟩:Env) (Zv O n [some ⟨false,30,11,1,(Ze a0)⟩]) (n+1)))) (z:=z52) ?_ fun hw => ?_
 ·refine Yn hz52 (fun s2_=>⟨216,[],[(1,.val (.int .i64 a1)),(2,.ref n 0),(10,.val (.int .i64 s2_))]⟩) (fun s2_=>(Zv O n [some ⟨false,30,11,1,(Ze a0)⟩])) (Xc (fun z52=>JR n (⟨216,[],[(4,.val (.bool false))]⟩:Env) (Zv O n [none]) (n+1)) (fun z52=>JX 4 n (⟨216,[],[(2,.ref n 0)]⟩:Env) (Zv O n [some ⟨false,30,11,1,(Ze a0)⟩]) (n+1))) ?_
  intro s2_ x2_ hs2_
  unfold X3 at hs2_
  try dsimp only
  refine Zm ?_
  refine Zq [1,2,10,191] (Zc Zd [] ?_)
  simp only [push_cast,seval,↓reduceIte,Za,hN0,hN]
  refine Zu (t:=(decide (s2_ < (a0.Ops.length:Int)))) rfl (fun c51 => ?_) (fun c51 => ?_)
  ·replace hs2_:=Zs c51 hs2_
   refine Zy ?_
   try simp only [Zl,Zi]
   refine Zk [1,2,10] [true] ?_
   simp only [push_cast,seval,↓reduceIte]
   refine Zm ?_
   refine Z6 ?_
   refine Zm ?_
   obtain ⟨x48,hx48,ax48,bx48,cx48,hs2_⟩:=bE (f:=Zf) V2 (fun _=>rfl) (by decide) hs2_
   obtain ⟨y49,hy49,hs2_⟩:=bC hs2_
   refine K8 Zd (by kernel_rfl) [] (by kernel_rfl) ?_
   simp only [push_cast,Nat.reduceAdd,Nat.reduceSub,Nat.reduceMul,Nat.reduceLeDiff,Nat.reduceLT,Nat.reduceEqDiff,↓reduceIte,reduceCtorEq,Int.reduceBEq,Int.reduceBNe,Nat.reduceBEq,Int.reduceLE,Int.reduceLT,Int.reduceEq,Int.reduceNe,Int.reduceNeg,Nat.reduceDiv,Nat.reduceMod,Nat.reducePow,Za,ax48,bx48,cx48,hN0,hN]
   refine PCall.of (Zfo hy49) ?_
   simp only [push_cast,Nat.reduceAdd,Nat.reduceSub,Nat.reduceMul,Nat.reduceLeDiff,Nat.reduceLT,Nat.reduceEqDiff,↓reduceIte,reduceCtorEq,Int.reduceBEq,Int.reduceBNe,Nat.reduceBEq,Int.reduceLE,Int.reduceLT,Int.reduceEq,Int.reduceNe,Int.reduceNeg,Nat.reduceDiv,Nat.reduceMod,Nat.reducePow,Za,ax48,bx48,cx48,hN0,hN]
   refine Zk [1,2,10,204] [true] ?_
   simp only [push_cast,seval,↓reduceIte]
   refine Zu (t:=(!y49)) rfl (fun c50 => ?_) (fun c50 => ?_)
   ·replace hs2_:=Zs c50 hs2_
    refine Zq [4] (Zc Zd [] ?_)
    simp only [push_cast,seval,↓reduceIte,Za,hN0,hN]
    refine Z0 ?_
    try simp only [Zl,Zi]
    have hs2_:=Option.some.inj hs2_;subst hs2_
    refine And.intro (fun h=>by cases h) (And.intro rfl (Fit2.of (Zj hU rfl rfl ?_) (by omega)))
    simp only [push_cast,seval,↓reduceIte,Za,hN0,hN]
   replace hs2_:=Zr c50 hs2_
   refine Zy ?_
   try simp only [Zl,Zi]
   refine Zk [1,2,10] [true] ?_
   simp only [push_cast,seval,↓reduceIte]
   refine Zc Zd [] ?_
   simp only [push_cast,seval,↓reduceIte,Za,hN0,hN]
   have hs2_:=Option.some.inj hs2_;subst hs2_
   refine And.intro rfl (Fit2.of (Zj hU rfl rfl ?_) (by omega))
   simp only [push_cast,seval,↓reduceIte,Za,hN0,hN]
  replace hs2_:=Zr c51 hs2_
  refine Yx ?_
  try simp only [Zl,Zi,↓reduceIte,Nat.reduceEqDiff]
  have hs2_:=Option.some.inj hs2_;subst hs2_
  refine And.intro (fun h=>by cases h) (And.intro rfl (Fit2.of (Zj hU rfl rfl ?_) (by omega)))
  simp only [push_cast,seval,↓reduceIte,Za,hN0,hN]
 rcases z52 with z52 | z52
 ·dsimp only [Xc] at hw h
  refine Q0 hw ?_
  try simp only [Zl,Zi,↓reduceIte,Nat.reduceEqDiff]
  have h:=Option.some.inj h;subst h
  refine Zt (.inr rfl) hU [.val (.bool false)] (by omega) ?_
  simp only [push_cast,seval,↓reduceIte,Za,Try.results39,hN0,hN]
 dsimp only [Xc] at hw h
 refine Yb hw ?_
 try simp only [Zl,Zi,↓reduceIte,Nat.reduceEqDiff]
 refine Zk [2] [true] ?_
 simp only [push_cast,seval,↓reduceIte]
 refine Zm ?_
 obtain ⟨y54,hy54,h⟩:=bC h
 refine Zc Zd [] ?_
 simp only [push_cast,seval,↓reduceIte,Za,hN0,hN]
 refine (Zdu hy54).then ?_
 simp only [push_cast,seval,↓reduceIte,Za,hN0,hN]
 refine Zk [11,12] [false] ?_
 simp only [push_cast,seval,↓reduceIte]
 refine Zq [4] (Zc Zd [none,none] ?_)
 simp only [push_cast,seval,↓reduceIte,Za,hN0,hN]
 repeat (with_reducible refine And.intro (by first | (intro h0;simp only [h0,and_self];done) | (intro h0;simp only [h0,Bool.not_false,Bool.not_true,Bool.true_and,Bool.and_true,true_and,and_true,and_self,imp_self,implies_true,bne_iff_ne,ne_eq,beq_iff_eq];done) | (intros;simp_all;done) | exact True.intro) ?_)
 refine Z0 ?_
 try simp only [Zl,Zi]
 have h:=Option.some.inj h;subst h
 refine Zt (.inr rfl) hU [.val (.bool (cond (decide (y54.1 < 1048576)) (decide (y54.2 < 1048576)) false))] (by omega) ?_
 simp only [push_cast,seval,↓reduceIte,Za,Try.results39,hN0,hN]
theorem Zl0 {Y8:(S_api_Edit→Int→Option Bool)} {Qf:(Int→S_api_Op→Int→Option Bool)} (Zar:∀ {a0:S_api_Edit} {a1:Int} {r:Bool} {O:Objs} {n:Nat},Y8 a0 a1=some r→GTo Try.prog 39 [.agg (Ze a0),.val (.int .i64 a1)] O n (.val (.bool r)) O n) (Zfo:∀ {a0:Int} {a1:S_api_Op} {a2:Int} {r:Bool} {O:Objs} {n:Nat},Qf a0 a1 a2=some r→GTo Try.prog 69 [.val (.int .i64 a0),.agg (Z3 a1),.val (.int .i64 a2)] O n (.val (.bool r)) O n) {a0:Int} {a1:S_api_Op} {a2:Int} {r:Bool} {O:Objs} {n:Nat} (h:Gv Y8 Qf a0 a1 a2=some r):GTo Try.prog 69 [.val (.int .i64 a0),.agg (Z3 a1),.val (.int .i64 a2)] O n (.val (.bool r)) O n:=by
 unfold Gv at h
 refine Y3 Zd Try.call69 Try.func69 rfl (Nat.le_of_ble_eq_true rfl) (Nat.le_refl _) fun hU => ?_
 have hN0:O n=none:=hU.fresh _ (Nat.le_refl _)
 have hN:∀ k,O (n+k)=none:=fun k=>hU.fresh _ (Nat.le_add_right _ _)
 show W _ _ _ _ ⟨121,[],[(0,.val (.int .i64 a0)),(1,.agg (Z3 a1)),(2,.val (.int .i64 a2))]⟩ (Zv O n []) _
 refine Zq [0,2,4] (Zc Zd [] ?_)
 simp only [push_cast,seval,↓reduceIte,Za,hN0,hN]
 refine Zm ?_
 refine Zq [0,2,4,10] (Zc Zd [] ?_)
 simp only [push_cast,seval,↓reduceIte,Za,hN0,hN]
 refine Zu (t:=(a1.Kind == 0)) rfl (fun c30 => ?_) (fun c30 => ?_)
 ·replace h:=Zs c30 h
  obtain ⟨z2,hz2,h⟩:=bC h
  refine Yl (E':=⟨121,[],[(6,.val (.bool z2))]⟩) (O':=(Zv O n [none])) (n0:=(n+1)) ?_ ?_
  ·rcases Bool.eq_false_or_eq_true (decide (1≤a1.N)) with c5 | c5
   ·replace hz2:=Zs c5 hz2
    rcases Bool.eq_false_or_eq_true (decide (a1.N≤1048576)) with c6 | c6
    ·replace hz2:=Zs c6 hz2
     try rw [c6] at c5
     rcases Bool.eq_false_or_eq_true ((a1.L.length:Int) == 0) with c7 | c7
     ·replace hz2:=Zs c7 hz2
      try rw [c7] at c5
      try rw [c7] at c6
      obtain ⟨y4,hy4,hz2⟩:=bC hz2
      refine Zc Zd [none,none,none,none,none,none,none,some true,some true,some true] ?_
      simp only [push_cast,seval,↓reduceIte,Za,c5,c6,c7,hN0,hN]
      repeat (with_reducible refine And.intro (by first | (intro h0;simp only [h0,and_self];done) | (intro h0;simp only [h0,Bool.not_false,Bool.not_true,Bool.true_and,Bool.and_true,true_and,and_true,and_self,imp_self,implies_true,bne_iff_ne,ne_eq,beq_iff_eq];done) | (intros;simp_all;done) | exact True.intro) ?_)
      refine (Zfm hy4).then ?_
      simp only [push_cast,seval,↓reduceIte,Za,c5,c6,c7,hN0,hN]
      repeat (with_reducible refine And.intro (by first | (intro h0;simp only [h0,and_self];done) | (intro h0;simp only [h0,Bool.not_false,Bool.not_true,Bool.true_and,Bool.and_true,true_and,and_true,and_self,imp_self,implies_true,bne_iff_ne,ne_eq,beq_iff_eq];done) | (intros;simp_all;done) | exact True.intro) ?_)
      have hz2:=Option.some.inj hz2;subst hz2
      refine And.intro rfl (Fit2.of (Zj hU rfl rfl ?_) (by omega))
      simp only [push_cast,seval,↓reduceIte,Za,c5,c6,c7,hN0,hN]
     replace hz2:=Zr c7 hz2
     try rw [c7] at c5
     try rw [c7] at c6
     refine Zc Zd [none,none,none,none,none,none,none,some false,some false,some false] ?_
     simp only [push_cast,seval,↓reduceIte,Za,c5,c6,c7,hN0,hN]
     repeat (with_reducible refine And.intro (by first | (intro h0;simp only [h0,and_self];done) | (intro h0;simp only [h0,Bool.not_false,Bool.not_true,Bool.true_and,Bool.and_true,true_and,and_true,and_self,imp_self,implies_true,bne_iff_ne,ne_eq,beq_iff_eq];done) | (intros;simp_all;done) | exact True.intro) ?_)
     have hz2:=Option.some.inj hz2;subst hz2
     refine And.intro rfl (Fit2.of (Zj hU rfl rfl ?_) (by omega))
     simp only [push_cast,seval,↓reduceIte,Za,c5,c6,c7,hN0,hN]
    replace hz2:=Zr c6 hz2
    try rw [c6] at c5
    refine Zc Zd [none,none,none,none,none,none,none,some false,some false,some false] ?_
    simp only [push_cast,seval,↓reduceIte,Za,c5,c6,hN0,hN]
    repeat (with_reducible refine And.intro (by first | (intro h0;simp only [h0,and_self];done) | (intro h0;simp only [h0,Bool.not_false,Bool.not_true,Bool.true_and,Bool.and_true,true_and,and_true,and_self,imp_self,implies_true,bne_iff_ne,ne_eq,beq_iff_eq];done) | (intros;simp_all;done) | exact True.intro) ?_)
    have hz2:=Option.some.inj hz2;subst hz2
    refine And.intro rfl (Fit2.of (Zj hU rfl rfl ?_) (by omega))
    simp only [push_cast,seval,↓reduceIte,Za,c5,c6,hN0,hN]
   replace hz2:=Zr c5 hz2
   refine Zc Zd [none,none,none,none,none,none,none,some false,some false,some false] ?_
   simp only [push_cast,seval,↓reduceIte,Za,c5,hN0,hN]
   repeat (with_reducible refine And.intro (by first | (intro h0;simp only [h0,and_self];done) | (intro h0;simp only [h0,Bool.not_false,Bool.not_true,Bool.true_and,Bool.and_true,true_and,and_true,and_self,imp_self,implies_true,bne_iff_ne,ne_eq,beq_iff_eq];done) | (intros;simp_all;done) | exact True.intro) ?_)
   have hz2:=Option.some.inj hz2;subst hz2
   refine And.intro rfl (Fit2.of (Zj hU rfl rfl ?_) (by omega))
   simp only [push_cast,seval,↓reduceIte,Za,c5,hN0,hN]
  refine Z0 ?_
  try simp only [Zl,Zi]
  have h:=Option.some.inj h;subst h
  refine Zt (.inr rfl) hU [.val (.bool z2)] (by omega) ?_
  simp only [push_cast,seval,↓reduceIte,Za,Try.results69,hN0,hN]
 replace h:=Zr c30 h
 refine Zy ?_
 try simp only [Zl,Zi]
 refine Zk [0,2,4] [true] ?_
 simp only [push_cast,seval,↓reduceIte]
 refine Zm ?_
 refine Zq [0,2,4,42] (Zc Zd [none,none,none,none,none,none] ?_)
 simp only [push_cast,seval,↓reduceIte,Za,hN0,hN]
 repeat (with_reducible refine And.intro (by first | (intro h0;simp only [h0,and_self];done) | (intro h0;simp only [h0,Bool.not_false,Bool.not_true,Bool.true_and,Bool.and_true,true_and,and_true,and_self,imp_self,implies_true,bne_iff_ne,ne_eq,beq_iff_eq];done) | (intros;simp_all;done) | exact True.intro) ?_)
 refine Zu (t:=(cond (cond (a1.N != 0) true (decide (a1.Kind < 0))) true (decide (3 < a1.Kind)))) rfl (fun c29 => ?_) (fun c29 => ?_)
 ·replace h:=Zs c29 h
  refine Zq [6] (Zc Zd [] ?_)
  simp only [push_cast,seval,↓reduceIte,Za,hN0,hN]
  refine Z0 ?_
  try simp only [Zl,Zi]
  have h:=Option.some.inj h;subst h
  refine Zt (.inr rfl) hU [.val (.bool false)] (by omega) ?_
  simp only [push_cast,seval,↓reduceIte,Za,Try.results69,hN0,hN]
 replace h:=Zr c29 h
 refine Zy ?_
 try simp only [Zl,Zi]
 refine Zk [0,2,4] [true] ?_
 simp only [push_cast,seval,↓reduceIte]
 refine Zm ?_
 refine Zq [0,2,4,45] (Zc Zd [] ?_)
 simp only [push_cast,seval,↓reduceIte,Za,hN0,hN]
 refine Zu (t:=(decide (a1.Kind < 3))) rfl (fun c28 => ?_) (fun c28 => ?_)
 ·replace h:=Zs c28 h
  refine Zm ?_
  refine Zq [0,4,7] (Zc Zd [] ?_)
  simp only [push_cast,seval,↓reduceIte,Za,hN0,hN]
  refine Zk [0,4,7] [true] ?_
  simp only [push_cast,seval,↓reduceIte]
  obtain ⟨z14,hz14,h⟩:=bC h
  refine U0 (J:=(Xc (fun z14=>JR n (⟨121,[],[(6,.val (.bool false))]⟩:Env) (Zv O n [none]) (n+1)) (fun z14=>JX 0 n (⟨121,[],[(4,.ref n 0)]⟩:Env) (Zv O n [some ⟨false,69,14,1,(Z3 a1)⟩]) (n+1)))) (z:=z14) ?_ fun hw => ?_
  ·refine Yn hz14 (fun s0_=>⟨121,[],[(0,.val (.int .i64 a0)),(4,.ref n 0),(7,.val (.int .i64 s0_))]⟩) (fun s0_=>(Zv O n [some ⟨false,69,14,1,(Z3 a1)⟩])) (Xc (fun z14=>JR n (⟨121,[],[(6,.val (.bool false))]⟩:Env) (Zv O n [none]) (n+1)) (fun z14=>JX 0 n (⟨121,[],[(4,.ref n 0)]⟩:Env) (Zv O n [some ⟨false,69,14,1,(Z3 a1)⟩]) (n+1))) ?_
   intro s0_ x0_ hs0_
   unfold Vj at hs0_
   try dsimp only
   refine Zm ?_
   refine Zq [0,4,7,50] (Zc Zd [] ?_)
   simp only [push_cast,seval,↓reduceIte,Za,hN0,hN]
   refine Zu (t:=(decide (s0_ < (a1.L.length:Int)))) rfl (fun c13 => ?_) (fun c13 => ?_)
   ·replace hs0_:=Zs c13 hs0_
    refine Zy ?_
    try simp only [Zl,Zi]
    refine Zk [0,4,7] [true] ?_
    simp only [push_cast,seval,↓reduceIte]
    refine Zm ?_
    refine Z6 ?_
    refine Zm ?_
    obtain ⟨l10,al10,bl10,cl10,gl10,hs0_⟩:=bS (lo:=(some (.i64,s0_))) (hi:=(some (.i64,(IntKind.i64.wrap (s0_+1))))) (f:=Zb) rfl rfl Zjp Zai (fun _=>rfl) hs0_
    obtain ⟨y11,hy11,hs0_⟩:=bC hs0_
    refine Zc Zd [] ?_
    simp only [push_cast,seval,↓reduceIte,Za,al10,bl10,cl10,gl10,hN0,hN]
    refine GCalls.argsW ?_ ((Uz hy11).then ?_)
    ·simp only [push_cast,seval,↓reduceIte,Za,al10,bl10,cl10,gl10,hN0,hN]
    simp only [push_cast,seval,↓reduceIte,Za,al10,bl10,cl10,gl10,hN0,hN]
    refine Zk [0,4,7,62] [true] ?_
    simp only [push_cast,seval,↓reduceIte]
    refine Zu (t:=(!y11)) rfl (fun c12 => ?_) (fun c12 => ?_)
    ·replace hs0_:=Zs c12 hs0_
     refine Zq [6] (Zc Zd [] ?_)
     simp only [push_cast,seval,↓reduceIte,Za,hN0,hN]
     refine Z0 ?_
     try simp only [Zl,Zi]
     have hs0_:=Option.some.inj hs0_;subst hs0_
     refine And.intro (fun h=>by cases h) (And.intro rfl (Fit2.of (Zj hU rfl rfl ?_) (by omega)))
     simp only [push_cast,seval,↓reduceIte,Za,hN0,hN]
    replace hs0_:=Zr c12 hs0_
    refine Zy ?_
    try simp only [Zl,Zi]
    refine Zk [0,4,7] [true] ?_
    simp only [push_cast,seval,↓reduceIte]
    refine Zc Zd [] ?_
    simp only [push_cast,seval,↓reduceIte,Za,hN0,hN]
    have hs0_:=Option.some.inj hs0_;subst hs0_
    refine And.intro rfl (Fit2.of (Zj hU rfl rfl ?_) (by omega))
    simp only [push_cast,seval,↓reduceIte,Za,hN0,hN]
   replace hs0_:=Zr c13 hs0_
   refine Yx ?_
   try simp only [Zl,Zi,↓reduceIte,Nat.reduceEqDiff]
   have hs0_:=Option.some.inj hs0_;subst hs0_
   refine And.intro (fun h=>by cases h) (And.intro rfl (Fit2.of (Zj hU rfl rfl ?_) (by omega)))
   simp only [push_cast,seval,↓reduceIte,Za,hN0,hN]
  rcases z14 with z14 | z14
  ·dsimp only [Xc] at hw h
   refine Q0 hw ?_
   try simp only [Zl,Zi,↓reduceIte,Nat.reduceEqDiff]
   have h:=Option.some.inj h;subst h
   refine Zt (.inr rfl) hU [.val (.bool false)] (by omega) ?_
   simp only [push_cast,seval,↓reduceIte,Za,Try.results69,hN0,hN]
  dsimp only [Xc] at hw h
  refine Yb hw ?_
  try simp only [Zl,Zi,↓reduceIte,Nat.reduceEqDiff]
  refine Zk [4] [true] ?_
  simp only [push_cast,seval,↓reduceIte]
  obtain ⟨z16,hz16,h⟩:=bC h
  refine Yl (E':=⟨121,[],[(6,.val (.bool z16))]⟩) (O':=(Zv O n [none])) (n0:=(n+1)) ?_ ?_
  ·rcases Bool.eq_false_or_eq_true (decide (0 < (a1.L.length:Int))) with c19 | c19
   ·replace hz16:=Zs c19 hz16
    obtain ⟨y18,hy18,hz16⟩:=bC hz16
    refine Zc Zd [some true,some true,some true] ?_
    simp only [push_cast,seval,↓reduceIte,Za,c19,hN0,hN]
    refine (Zfm hy18).then ?_
    simp only [push_cast,seval,↓reduceIte,Za,c19,hN0,hN]
    have hz16:=Option.some.inj hz16;subst hz16
    refine And.intro rfl (Fit2.of (Zj hU rfl rfl ?_) (by omega))
    simp only [push_cast,seval,↓reduceIte,Za,c19,hN0,hN]
   replace hz16:=Zr c19 hz16
   refine Zc Zd [some false,some false,some false] ?_
   simp only [push_cast,seval,↓reduceIte,Za,c19,hN0,hN]
   have hz16:=Option.some.inj hz16;subst hz16
   refine And.intro rfl (Fit2.of (Zj hU rfl rfl ?_) (by omega))
   simp only [push_cast,seval,↓reduceIte,Za,c19,hN0,hN]
  refine Z0 ?_
  try simp only [Zl,Zi]
  have h:=Option.some.inj h;subst h
  refine Zt (.inr rfl) hU [.val (.bool z16)] (by omega) ?_
  simp only [push_cast,seval,↓reduceIte,Za,Try.results69,hN0,hN]
 replace h:=Zr c28 h
 refine Zy ?_
 try simp only [Zl,Zi]
 refine Zk [0,2,4] [true] ?_
 simp only [push_cast,seval,↓reduceIte]
 refine Zm ?_
 obtain ⟨z21,hz21,h⟩:=bC h
 refine Yl (E':=⟨121,[],[(0,.val (.int .i64 a0)),(4,.ref n 0),(92,.val (.bool z21))]⟩) (O':=(Zv O n [some ⟨false,69,14,1,(Z3 a1)⟩])) (n0:=(n+1)) ?_ ?_
 ·rcases Bool.eq_false_or_eq_true (decide (0 < (a1.L.length:Int))) with c24 | c24
  ·replace hz21:=Zs c24 hz21
   refine Zc Zd [none,none,none,none,none,none,some false,some false,some false,some false,some false] ?_
   simp only [push_cast,seval,↓reduceIte,Za,c24,hN0,hN]
   repeat (with_reducible refine And.intro (by first | (intro h0;simp only [h0,and_self];done) | (intro h0;simp only [h0,Bool.not_false,Bool.not_true,Bool.true_and,Bool.and_true,true_and,and_true,and_self,imp_self,implies_true,bne_iff_ne,ne_eq,beq_iff_eq];done) | (intros;simp_all;done) | exact True.intro) ?_)
   have hz21:=Option.some.inj hz21;subst hz21
   refine And.intro rfl (Fit2.of (Zj hU rfl rfl ?_) (by omega))
   simp only [push_cast,seval,↓reduceIte,Za,c24,hN0,hN]
  replace hz21:=Zr c24 hz21
  rcases Bool.eq_false_or_eq_true (a1.E.Kind == 0) with c25 | c25
  ·replace hz21:=Zs c25 hz21
   try rw [c25] at c24
   refine Zc Zd [none,none,none,none,none,none,some false,some false,some false,some false,some false] ?_
   simp only [push_cast,seval,↓reduceIte,Za,c24,c25,hN0,hN]
   repeat (with_reducible refine And.intro (by first | (intro h0;simp only [h0,and_self];done) | (intro h0;simp only [h0,Bool.not_false,Bool.not_true,Bool.true_and,Bool.and_true,true_and,and_true,and_self,imp_self,implies_true,bne_iff_ne,ne_eq,beq_iff_eq];done) | (intros;simp_all;done) | exact True.intro) ?_)
   have hz21:=Option.some.inj hz21;subst hz21
   refine And.intro rfl (Fit2.of (Zj hU rfl rfl ?_) (by omega))
   simp only [push_cast,seval,↓reduceIte,Za,c24,c25,hN0,hN]
  replace hz21:=Zr c25 hz21
  try rw [c25] at c24
  rcases Bool.eq_false_or_eq_true (decide (a0≤7)) with c26 | c26
  ·replace hz21:=Zs c26 hz21
   try rw [c26] at c24
   try rw [c26] at c25
   refine Zc Zd [none,none,none,none,none,none,some false,some false,some false,some false,some false] ?_
   simp only [push_cast,seval,↓reduceIte,Za,c24,c25,c26,hN0,hN]
   repeat (with_reducible refine And.intro (by first | (intro h0;simp only [h0,and_self];done) | (intro h0;simp only [h0,Bool.not_false,Bool.not_true,Bool.true_and,Bool.and_true,true_and,and_true,and_self,imp_self,implies_true,bne_iff_ne,ne_eq,beq_iff_eq];done) | (intros;simp_all;done) | exact True.intro) ?_)
   have hz21:=Option.some.inj hz21;subst hz21
   refine And.intro rfl (Fit2.of (Zj hU rfl rfl ?_) (by omega))
   simp only [push_cast,seval,↓reduceIte,Za,c24,c25,c26,hN0,hN]
  replace hz21:=Zr c26 hz21
  try rw [c26] at c24
  try rw [c26] at c25
  obtain ⟨y23,hy23,hz21⟩:=bC hz21
  refine Zc Zd [none,none,none,none,none,none,some true,some true,some true,some true,some true] ?_
  simp only [push_cast,seval,↓reduceIte,Za,c24,c25,c26,hN0,hN]
  repeat (with_reducible refine And.intro (by first | (intro h0;simp only [h0,and_self];done) | (intro h0;simp only [h0,Bool.not_false,Bool.not_true,Bool.true_and,Bool.and_true,true_and,and_true,and_self,imp_self,implies_true,bne_iff_ne,ne_eq,beq_iff_eq];done) | (intros;simp_all;done) | exact True.intro) ?_)
  refine (Zar hy23).then ?_
  simp only [push_cast,seval,↓reduceIte,Za,c24,c25,c26,hN0,hN]
  repeat (with_reducible refine And.intro (by first | (intro h0;simp only [h0,and_self];done) | (intro h0;simp only [h0,Bool.not_false,Bool.not_true,Bool.true_and,Bool.and_true,true_and,and_true,and_self,imp_self,implies_true,bne_iff_ne,ne_eq,beq_iff_eq];done) | (intros;simp_all;done) | exact True.intro) ?_)
  have hz21:=Option.some.inj hz21;subst hz21
  refine And.intro rfl (Fit2.of (Zj hU rfl rfl ?_) (by omega))
  simp only [push_cast,seval,↓reduceIte,Za,c24,c25,c26,hN0,hN]
 refine Zu (t:=z21) rfl (fun c27 => ?_) (fun c27 => ?_)
 ·replace h:=Zs c27 h
  refine Zq [6] (Zc Zd [] ?_)
  simp only [push_cast,seval,↓reduceIte,Za,hN0,hN]
  refine Z0 ?_
  try simp only [Zl,Zi]
  have h:=Option.some.inj h;subst h
  refine Zt (.inr rfl) hU [.val (.bool false)] (by omega) ?_
  simp only [push_cast,seval,↓reduceIte,Za,Try.results69,hN0,hN]
 replace h:=Zr c27 h
 refine Zy ?_
 try simp only [Zl,Zi]
 refine Zk [0,4] [true] ?_
 simp only [push_cast,seval,↓reduceIte]
 refine Zq [6] (Zc Zd [none,none,none,none,none,none,none,none,none,none,none,none,none,none,none,none,none,none,none,none,none,none] ?_)
 simp only [push_cast,seval,↓reduceIte,Za,hN0,hN]
 repeat (with_reducible refine And.intro (by first | (intro h0;simp only [h0,and_self];done) | (intro h0;simp only [h0,Bool.not_false,Bool.not_true,Bool.true_and,Bool.and_true,true_and,and_true,and_self,imp_self,implies_true,bne_iff_ne,ne_eq,beq_iff_eq];done) | (intros;simp_all;done) | exact True.intro) ?_)
 refine Z0 ?_
 try simp only [Zl,Zi]
 have h:=Option.some.inj h;subst h
 refine Zt (.inr rfl) hU [.val (.bool (cond (cond (a0 == 8) true (a1.E.Kind == 2)) true (cond (cond (a1.E.Kind == 1) (a1.E.Old.Kind == 1) false) (a1.E.New.Kind == 1) false)))] (by omega) ?_
 simp only [push_cast,seval,↓reduceIte,Za,Try.results69,hN0,hN]
theorem Zhm:∀ k,(∀ {a0:S_api_Edit} {a1:Int} {r:Bool} {O:Objs} {n:Nat},(Yc k).1 a0 a1=some r→GTo Try.prog 39 [.agg (Ze a0),.val (.int .i64 a1)] O n (.val (.bool r)) O n)∧(∀ {a0:Int} {a1:S_api_Op} {a2:Int} {r:Bool} {O:Objs} {n:Nat},(Yc k).2 a0 a1 a2=some r→GTo Try.prog 69 [.val (.int .i64 a0),.agg (Z3 a1),.val (.int .i64 a2)] O n (.val (.bool r)) O n):=fun k=>by
 induction k with
 | zero=>exact ⟨@fun a0 a1 r O n h=>(nomatch (show (none:Option _)=some _ from h)),@fun a0 a1 a2 r O n h=>(nomatch (show (none:Option _)=some _ from h))⟩
 | succ k ih=>exact ⟨@fun a0 a1 r O n h=>Ziw (ih.1) (ih.2)  h,@fun a0 a1 a2 r O n h=>Zl0 (ih.1) (ih.2)  h⟩
theorem Ze2 {a0:S_api_Edit} {a1:Int} {r:Bool} {O:Objs} {n:Nat} (h:Zcj a0 a1=some r):GTo Try.prog 39 [.agg (Ze a0),.val (.int .i64 a1)] O n (.val (.bool r)) O n:=by
 obtain ⟨k,hk⟩:=Vs h
 exact (Zhm k).1  hk
theorem Ziv {Xv:(S_api_Edit→Option Bool)} (Zdw:∀ {a0:S_api_Edit} {r:Bool} {O:Objs} {n:Nat},Xv a0=some r→GTo Try.prog 50 [.agg (Ze a0)] O n (.val (.bool r)) O n) {a0:S_api_Edit} {r:Bool} {O:Objs} {n:Nat} (h:Vh Xv a0=some r):GTo Try.prog 50 [.agg (Ze a0)] O n (.val (.bool r)) O n:=by
 unfold Vh at h
 refine Y3 Zd Try.call50 Try.func50 rfl (Nat.le_of_ble_eq_true rfl) (Nat.le_refl _) fun hU => ?_
 have hN0:O n=none:=hU.fresh _ (Nat.le_refl _)
 have hN:∀ k,O (n+k)=none:=fun k=>hU.fresh _ (Nat.le_add_right _ _)
 show W _ _ _ _ ⟨48,[],[(0,.agg (Ze a0))]⟩ (Zv O n []) _
 refine Zq [1] (Zc Zd [] ?_)
 simp only [push_cast,seval,↓reduceIte,Za,hN0,hN]
 refine Zm ?_
 obtain ⟨y2,hy2,h⟩:=bC h
 refine Zc Zd [] ?_
 simp only [push_cast,seval,↓reduceIte,Za,hN0,hN]
 refine (Zdu hy2).then ?_
 simp only [push_cast,seval,↓reduceIte,Za,hN0,hN]
 refine Zk [1,3,4] [true] ?_
 simp only [push_cast,seval,↓reduceIte]
 refine Zm ?_
 refine Zq [1,17] (Zc Zd [none,none] ?_)
 simp only [push_cast,seval,↓reduceIte,Za,hN0,hN]
 repeat (with_reducible refine And.intro (by first | (intro h0;simp only [h0,and_self];done) | (intro h0;simp only [h0,Bool.not_false,Bool.not_true,Bool.true_and,Bool.and_true,true_and,and_true,and_self,imp_self,implies_true,bne_iff_ne,ne_eq,beq_iff_eq];done) | (intros;simp_all;done) | exact True.intro) ?_)
 refine Zu (t:=(cond (decide (2000 < y2.1)) true (decide (2000 < y2.2)))) rfl (fun c21 => ?_) (fun c21 => ?_)
 ·replace h:=Zs c21 h
  refine Zq [2] (Zc Zd [] ?_)
  simp only [push_cast,seval,↓reduceIte,Za,hN0,hN]
  refine Z0 ?_
  try simp only [Zl,Zi]
  have h:=Option.some.inj h;subst h
  refine Zt (.inr rfl) hU [.val (.bool false)] (by omega) ?_
  simp only [push_cast,seval,↓reduceIte,Za,Try.results50,hN0,hN]
 replace h:=Zr c21 h
 refine Zy ?_
 try simp only [Zl,Zi]
 refine Zk [1] [true] ?_
 simp only [push_cast,seval,↓reduceIte]
 refine Zm ?_
 refine Zq [1,5] (Zc Zd [] ?_)
 simp only [push_cast,seval,↓reduceIte,Za,hN0,hN]
 refine Zk [1,5] [true] ?_
 simp only [push_cast,seval,↓reduceIte]
 obtain ⟨z11,hz11,h⟩:=bC h
 refine U0 (J:=(Xc (fun z11=>JR n (⟨48,[],[(2,.val (.bool false))]⟩:Env) (Zv O n [none]) (n+1)) (fun z11=>JX 0 n (⟨48,[],[(1,.ref n 0)]⟩:Env) (Zv O n [some ⟨false,30,11,1,(Ze a0)⟩]) (n+1)))) (z:=z11) ?_ fun hw => ?_
 ·refine Yn hz11 (fun s0_=>⟨48,[],[(1,.ref n 0),(5,.val (.int .i64 s0_))]⟩) (fun s0_=>(Zv O n [some ⟨false,30,11,1,(Ze a0)⟩])) (Xc (fun z11=>JR n (⟨48,[],[(2,.val (.bool false))]⟩:Env) (Zv O n [none]) (n+1)) (fun z11=>JX 0 n (⟨48,[],[(1,.ref n 0)]⟩:Env) (Zv O n [some ⟨false,30,11,1,(Ze a0)⟩]) (n+1))) ?_
  intro s0_ x0_ hs0_
  unfold Ju at hs0_
  try dsimp only
  refine Zm ?_
  refine Zq [1,5,22] (Zc Zd [] ?_)
  simp only [push_cast,seval,↓reduceIte,Za,hN0,hN]
  refine Zu (t:=(decide (s0_ < (a0.Kids.length:Int)))) rfl (fun c10 => ?_) (fun c10 => ?_)
  ·replace hs0_:=Zs c10 hs0_
   refine Zy ?_
   try simp only [Zl,Zi]
   refine Zk [1,5] [true] ?_
   simp only [push_cast,seval,↓reduceIte]
   refine Zm ?_
   refine Z6 ?_
   refine Zm ?_
   obtain ⟨x6,hx6,ax6,bx6,cx6,hs0_⟩:=bE (f:=Zh) Zhd (fun _=>rfl) (by decide) hs0_
   have g7:=J3 (f:=Zh) (off:=1) (sz:=12) Zh6 (fun _=>rfl) (by decide) (by decide) hx6
   obtain ⟨y8,hy8,hs0_⟩:=bC hs0_
   refine Zc Zd [] ?_
   simp only [push_cast,Nat.reduceAdd,Nat.reduceSub,Nat.reduceMul,Nat.reduceLeDiff,Nat.reduceLT,Nat.reduceEqDiff,↓reduceIte,reduceCtorEq,Int.reduceBEq,Int.reduceBNe,Nat.reduceBEq,Int.reduceLE,Int.reduceLT,Int.reduceEq,Int.reduceNe,Int.reduceNeg,Nat.reduceDiv,Nat.reduceMod,Nat.reducePow,Za,ax6,bx6,cx6,g7,hN0,hN]
   refine (Zdw hy8).then ?_
   simp only [push_cast,Nat.reduceAdd,Nat.reduceSub,Nat.reduceMul,Nat.reduceLeDiff,Nat.reduceLT,Nat.reduceEqDiff,↓reduceIte,reduceCtorEq,Int.reduceBEq,Int.reduceBNe,Nat.reduceBEq,Int.reduceLE,Int.reduceLT,Int.reduceEq,Int.reduceNe,Int.reduceNeg,Nat.reduceDiv,Nat.reduceMod,Nat.reducePow,Za,ax6,bx6,cx6,g7,hN0,hN]
   refine Zk [1,5,32] [true] ?_
   simp only [push_cast,seval,↓reduceIte]
   refine Zu (t:=(!y8)) rfl (fun c9 => ?_) (fun c9 => ?_)
   ·replace hs0_:=Zs c9 hs0_
    refine Zq [2] (Zc Zd [] ?_)
    simp only [push_cast,seval,↓reduceIte,Za,hN0,hN]
    refine Z0 ?_
    try simp only [Zl,Zi]
    have hs0_:=Option.some.inj hs0_;subst hs0_
    refine And.intro (fun h=>by cases h) (And.intro rfl (Fit2.of (Zj hU rfl rfl ?_) (by omega)))
    simp only [push_cast,seval,↓reduceIte,Za,hN0,hN]
   replace hs0_:=Zr c9 hs0_
   refine Zy ?_
   try simp only [Zl,Zi]
   refine Zk [1,5] [true] ?_
   simp only [push_cast,seval,↓reduceIte]
   refine Zc Zd [] ?_
   simp only [push_cast,seval,↓reduceIte,Za,hN0,hN]
   have hs0_:=Option.some.inj hs0_;subst hs0_
   refine And.intro rfl (Fit2.of (Zj hU rfl rfl ?_) (by omega))
   simp only [push_cast,seval,↓reduceIte,Za,hN0,hN]
  replace hs0_:=Zr c10 hs0_
  refine Yx ?_
  try simp only [Zl,Zi,↓reduceIte,Nat.reduceEqDiff]
  have hs0_:=Option.some.inj hs0_;subst hs0_
  refine And.intro (fun h=>by cases h) (And.intro rfl (Fit2.of (Zj hU rfl rfl ?_) (by omega)))
  simp only [push_cast,seval,↓reduceIte,Za,hN0,hN]
 rcases z11 with z11 | z11
 ·dsimp only [Xc] at hw h
  refine Q0 hw ?_
  try simp only [Zl,Zi,↓reduceIte,Nat.reduceEqDiff]
  have h:=Option.some.inj h;subst h
  refine Zt (.inr rfl) hU [.val (.bool false)] (by omega) ?_
  simp only [push_cast,seval,↓reduceIte,Za,Try.results50,hN0,hN]
 dsimp only [Xc] at hw h
 refine Yb hw ?_
 try simp only [Zl,Zi,↓reduceIte,Nat.reduceEqDiff]
 refine Zk [1] [true] ?_
 simp only [push_cast,seval,↓reduceIte]
 refine Zm ?_
 refine Zq [1,6] (Zc Zd [] ?_)
 simp only [push_cast,seval,↓reduceIte,Za,hN0,hN]
 refine Zk [1,6] [true] ?_
 simp only [push_cast,seval,↓reduceIte]
 obtain ⟨z20,hz20,h⟩:=bC h
 refine U0 (J:=(Xc (fun z20=>JR n (⟨48,[],[(2,.val (.bool false))]⟩:Env) (Zv O n [none]) (n+1)) (fun z20=>JX 2 n (⟨48,[],[]⟩:Env) (Zv O n [none]) (n+1)))) (z:=z20) ?_ fun hw => ?_
 ·refine Yn hz20 (fun s1_=>⟨48,[],[(1,.ref n 0),(6,.val (.int .i64 s1_))]⟩) (fun s1_=>(Zv O n [some ⟨false,30,11,1,(Ze a0)⟩])) (Xc (fun z20=>JR n (⟨48,[],[(2,.val (.bool false))]⟩:Env) (Zv O n [none]) (n+1)) (fun z20=>JX 2 n (⟨48,[],[]⟩:Env) (Zv O n [none]) (n+1))) ?_
  intro s1_ x1_ hs1_
  unfold Jv at hs1_
  try dsimp only
  refine Zm ?_
  refine Zq [1,6,37] (Zc Zd [] ?_)
  simp only [push_cast,seval,↓reduceIte,Za,hN0,hN]
  refine Zu (t:=(decide (s1_ < (a0.Ops.length:Int)))) rfl (fun c19 => ?_) (fun c19 => ?_)
  ·replace hs1_:=Zs c19 hs1_
   refine Zy ?_
   try simp only [Zl,Zi]
   refine Zk [1,6] [true] ?_
   simp only [push_cast,seval,↓reduceIte]
   refine Zm ?_
   refine Z6 ?_
   refine Zm ?_
   obtain ⟨x15,hx15,ax15,bx15,cx15,hs1_⟩:=bE (f:=Zf) V2 (fun _=>rfl) (by decide) hs1_
   have g16:=J3 (f:=Zf) (off:=3) (sz:=14) Zh6 (fun _=>rfl) (by decide) (by decide) hx15
   obtain ⟨y17,hy17,hs1_⟩:=bC hs1_
   refine Zc Zd [] ?_
   simp only [push_cast,Nat.reduceAdd,Nat.reduceSub,Nat.reduceMul,Nat.reduceLeDiff,Nat.reduceLT,Nat.reduceEqDiff,↓reduceIte,reduceCtorEq,Int.reduceBEq,Int.reduceBNe,Nat.reduceBEq,Int.reduceLE,Int.reduceLT,Int.reduceEq,Int.reduceNe,Int.reduceNeg,Nat.reduceDiv,Nat.reduceMod,Nat.reducePow,Za,ax15,bx15,cx15,g16,hN0,hN]
   refine (Zdw hy17).then ?_
   simp only [push_cast,Nat.reduceAdd,Nat.reduceSub,Nat.reduceMul,Nat.reduceLeDiff,Nat.reduceLT,Nat.reduceEqDiff,↓reduceIte,reduceCtorEq,Int.reduceBEq,Int.reduceBNe,Nat.reduceBEq,Int.reduceLE,Int.reduceLT,Int.reduceEq,Int.reduceNe,Int.reduceNeg,Nat.reduceDiv,Nat.reduceMod,Nat.reducePow,Za,ax15,bx15,cx15,g16,hN0,hN]
   refine Zk [1,6,47] [true] ?_
   simp only [push_cast,seval,↓reduceIte]
   refine Zu (t:=(!y17)) rfl (fun c18 => ?_) (fun c18 => ?_)
   ·replace hs1_:=Zs c18 hs1_
    refine Zq [2] (Zc Zd [] ?_)
    simp only [push_cast,seval,↓reduceIte,Za,hN0,hN]
    refine Z0 ?_
    try simp only [Zl,Zi]
    have hs1_:=Option.some.inj hs1_;subst hs1_
    refine And.intro (fun h=>by cases h) (And.intro rfl (Fit2.of (Zj hU rfl rfl ?_) (by omega)))
    simp only [push_cast,seval,↓reduceIte,Za,hN0,hN]
   replace hs1_:=Zr c18 hs1_
   refine Zy ?_
   try simp only [Zl,Zi]
   refine Zk [1,6] [true] ?_
   simp only [push_cast,seval,↓reduceIte]
   refine Zc Zd [] ?_
   simp only [push_cast,seval,↓reduceIte,Za,hN0,hN]
   have hs1_:=Option.some.inj hs1_;subst hs1_
   refine And.intro rfl (Fit2.of (Zj hU rfl rfl ?_) (by omega))
   simp only [push_cast,seval,↓reduceIte,Za,hN0,hN]
  replace hs1_:=Zr c19 hs1_
  refine Yx ?_
  try simp only [Zl,Zi,↓reduceIte,Nat.reduceEqDiff]
  have hs1_:=Option.some.inj hs1_;subst hs1_
  refine And.intro (fun h=>by cases h) (And.intro rfl (Fit2.of (Zj hU rfl rfl ?_) (by omega)))
  simp only [push_cast,seval,↓reduceIte,Za,hN0,hN]
 rcases z20 with z20 | z20
 ·dsimp only [Xc] at hw h
  refine Q0 hw ?_
  try simp only [Zl,Zi,↓reduceIte,Nat.reduceEqDiff]
  have h:=Option.some.inj h;subst h
  refine Zt (.inr rfl) hU [.val (.bool false)] (by omega) ?_
  simp only [push_cast,seval,↓reduceIte,Za,Try.results50,hN0,hN]
 dsimp only [Xc] at hw h
 refine Yb hw ?_
 try simp only [Zl,Zi,↓reduceIte,Nat.reduceEqDiff]
 refine Zk [] [false] ?_
 simp only [push_cast,seval,↓reduceIte]
 refine Zq [2] (Zc Zd [] ?_)
 simp only [push_cast,seval,↓reduceIte,Za,hN0,hN]
 refine Z0 ?_
 try simp only [Zl,Zi]
 have h:=Option.some.inj h;subst h
 refine Zt (.inr rfl) hU [.val (.bool true)] (by omega) ?_
 simp only [push_cast,seval,↓reduceIte,Za,Try.results50,hN0,hN]
theorem Zhl:∀ k,(∀ {a0:S_api_Edit} {r:Bool} {O:Objs} {n:Nat},(Qj k) a0=some r→GTo Try.prog 50 [.agg (Ze a0)] O n (.val (.bool r)) O n):=fun k=>by
 induction k with
 | zero=>exact @fun a0 r O n h=>(nomatch (show (none:Option _)=some _ from h))
 | succ k ih=>exact @fun a0 r O n h=>Ziv (ih)  h
theorem Zju {a0:S_api_Edit} {r:Bool} {O:Objs} {n:Nat} (h:Zci a0=some r):GTo Try.prog 50 [.agg (Ze a0)] O n (.val (.bool r)) O n:=by
 obtain ⟨k,hk⟩:=Vs h
 exact (Zhl k)  hk
theorem Zkq {a0:S_api_Edit} {r:Bool} {O:Objs} {n:Nat} (h:Ui a0=some r):GTo Try.prog 15 [.agg (Ze a0)] O n (.val (.bool r)) O n:=by
 unfold Ui at h
 refine Y3 Zd Try.call15 Try.func15 rfl (Nat.le_of_ble_eq_true rfl) (Nat.le_refl _) fun hU => ?_
 have hN0:O n=none:=hU.fresh _ (Nat.le_refl _)
 have hN:∀ k,O (n+k)=none:=fun k=>hU.fresh _ (Nat.le_add_right _ _)
 show W _ _ _ _ ⟨13,[],[(0,.agg (Ze a0))]⟩ (Zv O n []) _
 refine Zq [1] (Zc Zd [] ?_)
 simp only [push_cast,seval,↓reduceIte,Za,hN0,hN]
 obtain ⟨z4,hz4,h⟩:=bC h
 refine Yl (E':=⟨13,[],[(2,.val (.bool z4))]⟩) (O':=(Zv O n [none])) (n0:=(n+1)) ?_ ?_
 ·obtain ⟨y8,hy8,hz4⟩:=bC hz4
  rcases Bool.eq_false_or_eq_true y8 with c11 | c11
  ·replace hz4:=Zs c11 hz4
   obtain ⟨y9,hy9,hz4⟩:=bC hz4
   rcases Bool.eq_false_or_eq_true y9 with c12 | c12
   ·replace hz4:=Zs c12 hz4
    try rw [c12] at c11
    obtain ⟨y10,hy10,hz4⟩:=bC hz4
    refine Zc Zd [some true,some true,some true,some true] ?_
    simp only [push_cast,seval,↓reduceIte,Za,c11,c12,hN0,hN]
    refine (Zdg hy8).then ?_
    simp only [push_cast,seval,↓reduceIte,Za,c11,c12,hN0,hN]
    refine (Ze2 hy9).then ?_
    simp only [push_cast,seval,↓reduceIte,Za,c11,c12,hN0,hN]
    refine (Zju hy10).then ?_
    simp only [push_cast,seval,↓reduceIte,Za,c11,c12,hN0,hN]
    have hz4:=Option.some.inj hz4;subst hz4
    refine And.intro rfl (Fit2.of (Zj hU rfl rfl ?_) (by omega))
    simp only [push_cast,seval,↓reduceIte,Za,c11,c12,hN0,hN]
   replace hz4:=Zr c12 hz4
   try rw [c12] at c11
   refine Zc Zd [some true,some true,some false,some false] ?_
   simp only [push_cast,seval,↓reduceIte,Za,c11,c12,hN0,hN]
   refine (Zdg hy8).then ?_
   simp only [push_cast,seval,↓reduceIte,Za,c11,c12,hN0,hN]
   refine (Ze2 hy9).then ?_
   simp only [push_cast,seval,↓reduceIte,Za,c11,c12,hN0,hN]
   have hz4:=Option.some.inj hz4;subst hz4
   refine And.intro rfl (Fit2.of (Zj hU rfl rfl ?_) (by omega))
   simp only [push_cast,seval,↓reduceIte,Za,c11,c12,hN0,hN]
  replace hz4:=Zr c11 hz4
  refine Zc Zd [some false,some false,some false,some false] ?_
  simp only [push_cast,seval,↓reduceIte,Za,c11,hN0,hN]
  refine (Zdg hy8).then ?_
  simp only [push_cast,seval,↓reduceIte,Za,c11,hN0,hN]
  have hz4:=Option.some.inj hz4;subst hz4
  refine And.intro rfl (Fit2.of (Zj hU rfl rfl ?_) (by omega))
  simp only [push_cast,seval,↓reduceIte,Za,c11,hN0,hN]
 refine Z0 ?_
 try simp only [Zl,Zi]
 have h:=Option.some.inj h;subst h
 refine Zt (.inr rfl) hU [.val (.bool z4)] (by omega) ?_
 simp only [push_cast,seval,↓reduceIte,Za,Try.results15,hN0,hN]
theorem Zl2 {Xy:(S_api_Edit→Option S_api_Edit)} {Xp:(S_api_Op→Option S_api_Op)} (Gp:∀ {a0:S_api_Edit} {r:S_api_Edit} {O:Objs} {n:Nat},Xy a0=some r→GTo Try.prog 61 [.agg (Ze a0)] O n (.agg (Ze r)) O n) (Zbe:∀ {a0:S_api_Op} {r:S_api_Op} {O:Objs} {n:Nat},Xp a0=some r→GTo Try.prog 102 [.agg (Z3 a0)] O n (.agg (Z3 r)) O n) {a0:S_api_Edit} {r:S_api_Edit} {O:Objs} {n:Nat} (h:Gx Xy Xp a0=some r):GTo Try.prog 61 [.agg (Ze a0)] O n (.agg (Ze r)) O n:=by
 unfold Gx at h
 refine Y3 Zd Try.call61 Try.func61 rfl (Nat.le_of_ble_eq_true rfl) (Nat.le_refl _) fun hU => ?_
 have hN0:O n=none:=hU.fresh _ (Nat.le_refl _)
 have hN:∀ k,O (n+k)=none:=fun k=>hU.fresh _ (Nat.le_add_right _ _)
 show W _ _ _ _ ⟨76,[],[(0,.agg (Ze a0))]⟩ (Zv O n []) _
 refine Zq [1,2] (Zc Zd [] ?_)
 simp only [push_cast,seval,↓reduceIte,Za,hN0,hN]
 refine Zm ?_
 refine Zc Zd [] ?_
 simp only [push_cast,seval,↓reduceIte,Za,hN0,hN]
 refine Zk [1,2,3] [true,true,true] ?_
 simp only [push_cast,seval,↓reduceIte]
 refine Zm ?_
 refine Zq [1,2,3,20,21,22] (Zc Zd [] ?_)
 simp only [push_cast,seval,↓reduceIte,Za,hN0,hN]
 refine Zk [1,2,3,20,21,22] [true,true,true] ?_
 simp only [push_cast,seval,↓reduceIte]
 refine Jh (E':=(⟨76,[],[(1,.ref n 0),(2,.ref (n+1) 0),(3,.ref (n+2) 0),(20,.sl a0.Words.length (fl Zg a0.Words)),(21,.val (.int .i64 (a0.Words.length:Int))),(22,.val (.int .i64 0))]⟩:Env)) (O':=(Zv O n [some ⟨false,30,11,1,(Ze a0)⟩,some ⟨false,30,11,1,[.val (.int .i64 0),.val (.int .i64 0),.val (.slice none 0 0),.val (.slice none 0 0),.val (.int .i64 0),.val (.slice none 0 0),.val (.slice none 0 0),.val (.slice none 0 0),.val (.slice none 0 0),.val (.int .i64 0),.val (.slice none 0 0)]⟩,some ⟨false,30,11,1,[.val (.int .i64 a0.Kind),.val (.int .i64 a0.New.Kind),.sl a0.New.Words.length (fl (eI .u64) a0.New.Words),.sl a0.New.Kids.length (fl Zb a0.New.Kids),.val (.int .i64 a0.Old.Kind),.sl a0.Old.Words.length (fl (eI .u64) a0.Old.Words),.sl a0.Old.Kids.length (fl Zb a0.Old.Kids),.row (n+3) ([]:List Zp).length,.val (.slice none 0 0),.val (.int .i64 a0.List_),.val (.slice none 0 0)]⟩,some ⟨true,58,4,([]:List Zp).length,fl Zg ([]:List Zp)⟩,none])) (n':=(n+5)) ?_ ?_
 ·refine Fit2.trans (E':=(⟨76,[],[(1,.ref n 0),(2,.ref (n+1) 0),(3,.ref (n+2) 0),(20,.sl a0.Words.length (fl Zg a0.Words)),(21,.val (.int .i64 (a0.Words.length:Int))),(22,.val (.int .i64 0))]⟩:Env)) (O':=(Zv O n [some ⟨false,30,11,1,(Ze a0)⟩,some ⟨false,30,11,1,[.val (.int .i64 0),.val (.int .i64 0),.val (.slice none 0 0),.val (.slice none 0 0),.val (.int .i64 0),.val (.slice none 0 0),.val (.slice none 0 0),.val (.slice none 0 0),.val (.slice none 0 0),.val (.int .i64 0),.val (.slice none 0 0)]⟩,some ⟨false,30,11,1,[.val (.int .i64 a0.Kind),.val (.int .i64 a0.New.Kind),.sl a0.New.Words.length (fl (eI .u64) a0.New.Words),.sl a0.New.Kids.length (fl Zb a0.New.Kids),.val (.int .i64 a0.Old.Kind),.sl a0.Old.Words.length (fl (eI .u64) a0.Old.Words),.sl a0.Old.Kids.length (fl Zb a0.Old.Kids),.val (.slice none 0 0),.val (.slice none 0 0),.val (.int .i64 a0.List_),.val (.slice none 0 0)]⟩])) (n':=(n+3)) (Fit2.of (Zj hU rfl rfl ?_) (by omega)) ?_
  ·simp only [push_cast,seval,↓reduceIte,Za,hN0,hN]
  refine Fit2.trans (E':=(⟨76,[],[(1,.ref n 0),(2,.ref (n+1) 0),(3,.ref (n+2) 0),(20,.sl a0.Words.length (fl Zg a0.Words)),(21,.val (.int .i64 (a0.Words.length:Int))),(22,.val (.int .i64 0))]⟩:Env)) (O':=(Zv O n [some ⟨false,30,11,1,(Ze a0)⟩,some ⟨false,30,11,1,[.val (.int .i64 0),.val (.int .i64 0),.val (.slice none 0 0),.val (.slice none 0 0),.val (.int .i64 0),.val (.slice none 0 0),.val (.slice none 0 0),.val (.slice none 0 0),.val (.slice none 0 0),.val (.int .i64 0),.val (.slice none 0 0)]⟩,some ⟨false,30,11,1,[.val (.int .i64 a0.Kind),.val (.int .i64 a0.New.Kind),.sl a0.New.Words.length (fl (eI .u64) a0.New.Words),.sl a0.New.Kids.length (fl Zb a0.New.Kids),.val (.int .i64 a0.Old.Kind),.sl a0.Old.Words.length (fl (eI .u64) a0.Old.Words),.sl a0.Old.Kids.length (fl Zb a0.Old.Kids),.row (n+3) 0,.val (.slice none 0 0),.val (.int .i64 a0.List_),.val (.slice none 0 0)]⟩,some ⟨true,58,4,0,[]⟩])) (n':=(n+4)) ?_ ?_
  ·have ha:=Ji (ba:=n) (E:=(⟨76,[],[(1,.ref n 0),(2,.ref (n+1) 0),(3,.ref (n+2) 0),(20,.sl a0.Words.length (fl Zg a0.Words)),(21,.val (.int .i64 (a0.Words.length:Int))),(22,.val (.int .i64 0))]⟩:Env)) (O:=(Zv O n [some ⟨false,30,11,1,[.val (.int .i64 a0.Kind),.val (.int .i64 a0.Old.Kind),.sl a0.Old.Words.length (fl (eI .u64) a0.Old.Words),.sl a0.Old.Kids.length (fl Zb a0.Old.Kids),.val (.int .i64 a0.New.Kind),.sl a0.New.Words.length (fl (eI .u64) a0.New.Words),.sl a0.New.Kids.length (fl Zb a0.New.Kids),.sl a0.Words.length (fl Zg a0.Words),.sl a0.Kids.length (fl Zh a0.Kids),.val (.int .i64 a0.List_),.sl a0.Ops.length (fl Zf a0.Ops)]⟩,some ⟨false,30,11,1,[.val (.int .i64 0),.val (.int .i64 0),.val (.slice none 0 0),.val (.slice none 0 0),.val (.int .i64 0),.val (.slice none 0 0),.val (.slice none 0 0),.val (.slice none 0 0),.val (.slice none 0 0),.val (.int .i64 0),.val (.slice none 0 0)]⟩,some ⟨false,30,11,1,[.val (.int .i64 a0.Kind),.val (.int .i64 a0.New.Kind),.sl a0.New.Words.length (fl (eI .u64) a0.New.Words),.sl a0.New.Kids.length (fl Zb a0.New.Kids),.val (.int .i64 a0.Old.Kind),.sl a0.Old.Words.length (fl (eI .u64) a0.Old.Words),.sl a0.Old.Kids.length (fl Zb a0.Old.Kids),.val (.slice none 0 0),.val (.slice none 0 0),.val (.int .i64 a0.List_),.val (.slice none 0 0)]⟩])) (n:=(n+3)) (p:=(n+2)) (k:=7) (q:=⟨false,30,11,1,[.val (.int .i64 a0.Kind),.val (.int .i64 a0.New.Kind),.sl a0.New.Words.length (fl (eI .u64) a0.New.Words),.sl a0.New.Kids.length (fl Zb a0.New.Kids),.val (.int .i64 a0.Old.Kind),.sl a0.Old.Words.length (fl (eI .u64) a0.Old.Words),.sl a0.Old.Kids.length (fl Zb a0.Old.Kids),.val (.slice none 0 0),.val (.slice none 0 0),.val (.int .i64 a0.List_),.val (.slice none 0 0)]⟩) 58 4 (by simp only [Ke,V5,List.getElem?_cons_zero,List.getElem?_cons_succ,Option.join_some,Ya]) rfl (by omega)
   simp only [Yv,Yj,Jo,Qs,List.set_cons_zero,List.set_cons_succ,List.cons_append,List.nil_append,List.length_cons,List.length_nil,Nat.zero_add,Nat.reduceAdd,Nat.reduceLT,Nat.add_assoc] at ha
   exact ha
  refine Fit2.trans (E':=(⟨76,[],[(1,.ref n 0),(2,.ref (n+1) 0),(3,.ref (n+2) 0),(20,.sl a0.Words.length (fl Zg a0.Words)),(21,.val (.int .i64 (a0.Words.length:Int))),(22,.val (.int .i64 0))]⟩:Env)) (O':=(Zv O n [some ⟨false,30,11,1,(Ze a0)⟩,some ⟨false,30,11,1,[.val (.int .i64 0),.val (.int .i64 0),.val (.slice none 0 0),.val (.slice none 0 0),.val (.int .i64 0),.val (.slice none 0 0),.val (.slice none 0 0),.val (.slice none 0 0),.val (.slice none 0 0),.val (.int .i64 0),.val (.slice none 0 0)]⟩,some ⟨false,30,11,1,[.val (.int .i64 a0.Kind),.val (.int .i64 a0.New.Kind),.sl a0.New.Words.length (fl (eI .u64) a0.New.Words),.sl a0.New.Kids.length (fl Zb a0.New.Kids),.val (.int .i64 a0.Old.Kind),.sl a0.Old.Words.length (fl (eI .u64) a0.Old.Words),.sl a0.Old.Kids.length (fl Zb a0.Old.Kids),.row (n+3) ([]:List Zp).length,.val (.slice none 0 0),.val (.int .i64 a0.List_),.val (.slice none 0 0)]⟩,some ⟨true,58,4,([]:List Zp).length,fl Zg ([]:List Zp)⟩])) (n':=(n+4)) (Fit2.of (Zj hU rfl rfl ?_) (by omega)) ?_
  ·simp only [push_cast,seval,↓reduceIte,Za,hN0,hN]
  refine Jr (k:=4) (k':=5) hU [0,1,2,3] [0,1,2,3,0] rfl rfl rfl rfl ⟨rfl,rfl⟩ ?_
  simp only [push_cast,seval,↓reduceIte,Za,hN0,hN]
 obtain ⟨z5,hz5,h⟩:=bC h
 refine Yb (E':=⟨76,[],[(1,.ref n 0),(2,.ref (n+1) 0),(3,.ref (n+2) 0)]⟩) (O':=(Zv O n [some ⟨false,30,11,1,(Ze a0)⟩,some ⟨false,30,11,1,[.val (.int .i64 0),.val (.int .i64 0),.val (.slice none 0 0),.val (.slice none 0 0),.val (.int .i64 0),.val (.slice none 0 0),.val (.slice none 0 0),.val (.slice none 0 0),.val (.slice none 0 0),.val (.int .i64 0),.val (.slice none 0 0)]⟩,some ⟨false,30,11,1,[.val (.int .i64 a0.Kind),.val (.int .i64 a0.New.Kind),.sl a0.New.Words.length (fl (eI .u64) a0.New.Words),.sl a0.New.Kids.length (fl Zb a0.New.Kids),.val (.int .i64 a0.Old.Kind),.sl a0.Old.Words.length (fl (eI .u64) a0.Old.Words),.sl a0.Old.Kids.length (fl Zb a0.Old.Kids),.row (n+3) z5.length,.val (.slice none 0 0),.val (.int .i64 a0.List_),.val (.slice none 0 0)]⟩,some ⟨true,58,4,z5.length,fl Zg z5⟩,none])) (n0:=(n+5)) ?_ ?_
 ·refine Yn hz5 (fun s0_=>⟨76,[],[(1,.ref n 0),(2,.ref (n+1) 0),(3,.ref (n+2) 0),(20,.sl a0.Words.length (fl Zg a0.Words)),(21,.val (.int .i64 (a0.Words.length:Int))),(22,.val (.int .i64 s0_.1))]⟩) (fun s0_=>(Zv O n [some ⟨false,30,11,1,(Ze a0)⟩,some ⟨false,30,11,1,[.val (.int .i64 0),.val (.int .i64 0),.val (.slice none 0 0),.val (.slice none 0 0),.val (.int .i64 0),.val (.slice none 0 0),.val (.slice none 0 0),.val (.slice none 0 0),.val (.slice none 0 0),.val (.int .i64 0),.val (.slice none 0 0)]⟩,some ⟨false,30,11,1,[.val (.int .i64 a0.Kind),.val (.int .i64 a0.New.Kind),.sl a0.New.Words.length (fl (eI .u64) a0.New.Words),.sl a0.New.Kids.length (fl Zb a0.New.Kids),.val (.int .i64 a0.Old.Kind),.sl a0.Old.Words.length (fl (eI .u64) a0.Old.Words),.sl a0.Old.Kids.length (fl Zb a0.Old.Kids),.row (n+3) s0_.2.length,.val (.slice none 0 0),.val (.int .i64 a0.List_),.val (.slice none 0 0)]⟩,some ⟨true,58,4,s0_.2.length,fl Zg s0_.2⟩,none])) (fun z5=>JX 0 n (⟨76,[],[(1,.ref n 0),(2,.ref (n+1) 0),(3,.ref (n+2) 0)]⟩:Env) (Zv O n [some ⟨false,30,11,1,(Ze a0)⟩,some ⟨false,30,11,1,[.val (.int .i64 0),.val (.int .i64 0),.val (.slice none 0 0),.val (.slice none 0 0),.val (.int .i64 0),.val (.slice none 0 0),.val (.slice none 0 0),.val (.slice none 0 0),.val (.slice none 0 0),.val (.int .i64 0),.val (.slice none 0 0)]⟩,some ⟨false,30,11,1,[.val (.int .i64 a0.Kind),.val (.int .i64 a0.New.Kind),.sl a0.New.Words.length (fl (eI .u64) a0.New.Words),.sl a0.New.Kids.length (fl Zb a0.New.Kids),.val (.int .i64 a0.Old.Kind),.sl a0.Old.Words.length (fl (eI .u64) a0.Old.Words),.sl a0.Old.Kids.length (fl Zb a0.Old.Kids),.row (n+3) z5.length,.val (.slice none 0 0),.val (.int .i64 a0.List_),.val (.slice none 0 0)]⟩,some ⟨true,58,4,z5.length,fl Zg z5⟩,none]) (n+5)) ?_
  intro s0_ x0_ hs0_
  unfold Vm at hs0_
  try dsimp only
  refine Zq [1,2,3,20,21,22,23] (Zc Zd [] ?_)
  simp only [push_cast,seval,↓reduceIte,Za,hN0,hN]
  refine Zm ?_
  refine Zu (t:=(decide (s0_.1 < (a0.Words.length:Int)))) rfl (fun c4 => ?_) (fun c4 => ?_)
  ·replace hs0_:=Zs c4 hs0_
   refine Zy ?_
   try simp only [Zl,Zi]
   refine Zk [1,2,3,20,21,22] [true,true,true,true,false] ?_
   simp only [push_cast,seval,↓reduceIte]
   refine Zm ?_
   refine Z6 ?_
   refine Zm ?_
   obtain ⟨x2,hx2,ax2,bx2,cx2,hs0_⟩:=bE (f:=Zg) Zmj (fun _=>rfl) (by decide) hs0_
   refine Zc Zd [] ?_
   simp only [push_cast,Nat.reduceAdd,Nat.reduceSub,Nat.reduceMul,Nat.reduceLeDiff,Nat.reduceLT,Nat.reduceEqDiff,↓reduceIte,reduceCtorEq,Int.reduceBEq,Int.reduceBNe,Nat.reduceBEq,Int.reduceLE,Int.reduceLT,Int.reduceEq,Int.reduceNe,Int.reduceNeg,Nat.reduceDiv,Nat.reduceMod,Nat.reducePow,Za,ax2,bx2,cx2,hN0,hN]
   refine Zk [1,2,3,5,20,21,22] [true,true,true,true,false,true] ?_
   simp only [push_cast,seval,↓reduceIte]
   obtain ⟨l3,pl3,ql3,el3,hs0_⟩:=bA (k:=1) rfl hs0_
   refine Zc Zd [] ?_
   simp only [push_cast,seval,↓reduceIte,Za,pl3,ql3,el3,hN0,hN]
   refine Zbw ⟨76,[],[(1,.ref n 0),(2,.ref (n+1) 0),(3,.ref (n+2) 0),(20,.sl a0.Words.length (fl Zg a0.Words)),(21,.val (.int .i64 (a0.Words.length:Int))),(22,.val (.int .i64 s0_.1))]⟩ (Zv O n [some ⟨false,30,11,1,(Ze a0)⟩,some ⟨false,30,11,1,[.val (.int .i64 0),.val (.int .i64 0),.val (.slice none 0 0),.val (.slice none 0 0),.val (.int .i64 0),.val (.slice none 0 0),.val (.slice none 0 0),.val (.slice none 0 0),.val (.slice none 0 0),.val (.int .i64 0),.val (.slice none 0 0)]⟩,some ⟨false,30,11,1,[.val (.int .i64 a0.Kind),.val (.int .i64 a0.New.Kind),.sl a0.New.Words.length (fl (eI .u64) a0.New.Words),.sl a0.New.Kids.length (fl Zb a0.New.Kids),.val (.int .i64 a0.Old.Kind),.sl a0.Old.Words.length (fl (eI .u64) a0.Old.Words),.sl a0.Old.Kids.length (fl Zb a0.Old.Kids),.row (n+3) l3.length,.val (.slice none 0 0),.val (.int .i64 a0.List_),.val (.slice none 0 0)]⟩,some ⟨true,58,4,l3.length,fl Zg l3⟩,none,none,none]) (Zj hU rfl rfl ?_) ?_
   ·simp only [push_cast,seval,↓reduceIte,Za,pl3,ql3,el3,hN0,hN]
   refine Zc Zd [] ?_
   simp only [push_cast,seval,↓reduceIte,Za,hN0,hN]
   have hs0_:=Option.some.inj hs0_;subst hs0_
   refine And.intro rfl (Fit2.of (Zj hU rfl rfl ?_) (by omega))
   simp only [push_cast,seval,↓reduceIte,Za,hN0,hN]
  replace hs0_:=Zr c4 hs0_
  refine Yx ?_
  try simp only [Zl,Zi,↓reduceIte,Nat.reduceEqDiff]
  have hs0_:=Option.some.inj hs0_;subst hs0_
  refine And.intro (fun h=>by cases h) (And.intro rfl (Fit2.of (Zj hU rfl rfl ?_) (by omega)))
  simp only [push_cast,seval,↓reduceIte,Za,hN0,hN]
 try simp only [Zl,Zi,↓reduceIte,Nat.reduceEqDiff]
 refine Zk [1,2,3] [true,true,true,true,false] ?_
 simp only [push_cast,seval,↓reduceIte]
 refine Zm ?_
 refine Zq [1,2,3,42,43,44] (Zc Zd [] ?_)
 simp only [push_cast,seval,↓reduceIte,Za,hN0,hN]
 refine Zk [1,2,3,42,43,44] [true,true,true,true,false] ?_
 simp only [push_cast,seval,↓reduceIte]
 refine Jh (E':=(⟨76,[],[(1,.ref n 0),(2,.ref (n+1) 0),(3,.ref (n+2) 0),(42,.sl a0.Kids.length (fl Zh a0.Kids)),(43,.val (.int .i64 (a0.Kids.length:Int))),(44,.val (.int .i64 0))]⟩:Env)) (O':=(Zv O n [some ⟨false,30,11,1,(Ze a0)⟩,some ⟨false,30,11,1,[.val (.int .i64 0),.val (.int .i64 0),.val (.slice none 0 0),.val (.slice none 0 0),.val (.int .i64 0),.val (.slice none 0 0),.val (.slice none 0 0),.val (.slice none 0 0),.val (.slice none 0 0),.val (.int .i64 0),.val (.slice none 0 0)]⟩,some ⟨false,30,11,1,[.val (.int .i64 a0.Kind),.val (.int .i64 a0.New.Kind),.sl a0.New.Words.length (fl (eI .u64) a0.New.Words),.sl a0.New.Kids.length (fl Zb a0.New.Kids),.val (.int .i64 a0.Old.Kind),.sl a0.Old.Words.length (fl (eI .u64) a0.Old.Words),.sl a0.Old.Kids.length (fl Zb a0.Old.Kids),.row (n+3) z5.length,.row (n+5) ([]:List S_api_KidEdit).length,.val (.int .i64 a0.List_),.val (.slice none 0 0)]⟩,some ⟨true,58,4,z5.length,fl Zg z5⟩,none,some ⟨true,71,12,([]:List S_api_KidEdit).length,fl Zh ([]:List S_api_KidEdit)⟩,none])) (n':=(n+7)) ?_ ?_
 ·refine Fit2.trans (E':=(⟨76,[],[(1,.ref n 0),(2,.ref (n+1) 0),(3,.ref (n+2) 0),(42,.sl a0.Kids.length (fl Zh a0.Kids)),(43,.val (.int .i64 (a0.Kids.length:Int))),(44,.val (.int .i64 0))]⟩:Env)) (O':=(Zv O n [some ⟨false,30,11,1,(Ze a0)⟩,some ⟨false,30,11,1,[.val (.int .i64 0),.val (.int .i64 0),.val (.slice none 0 0),.val (.slice none 0 0),.val (.int .i64 0),.val (.slice none 0 0),.val (.slice none 0 0),.val (.slice none 0 0),.val (.slice none 0 0),.val (.int .i64 0),.val (.slice none 0 0)]⟩,some ⟨false,30,11,1,[.val (.int .i64 a0.Kind),.val (.int .i64 a0.New.Kind),.sl a0.New.Words.length (fl (eI .u64) a0.New.Words),.sl a0.New.Kids.length (fl Zb a0.New.Kids),.val (.int .i64 a0.Old.Kind),.sl a0.Old.Words.length (fl (eI .u64) a0.Old.Words),.sl a0.Old.Kids.length (fl Zb a0.Old.Kids),.row (n+3) z5.length,.val (.slice none 0 0),.val (.int .i64 a0.List_),.val (.slice none 0 0)]⟩,some ⟨true,58,4,z5.length,fl Zg z5⟩,none])) (n':=(n+5)) (Fit2.of (Zj hU rfl rfl ?_) (by omega)) ?_
  ·simp only [push_cast,seval,↓reduceIte,Za,hN0,hN]
  refine Fit2.trans (E':=(⟨76,[],[(1,.ref n 0),(2,.ref (n+1) 0),(3,.ref (n+2) 0),(42,.sl a0.Kids.length (fl Zh a0.Kids)),(43,.val (.int .i64 (a0.Kids.length:Int))),(44,.val (.int .i64 0))]⟩:Env)) (O':=(Zv O n [some ⟨false,30,11,1,(Ze a0)⟩,some ⟨false,30,11,1,[.val (.int .i64 0),.val (.int .i64 0),.val (.slice none 0 0),.val (.slice none 0 0),.val (.int .i64 0),.val (.slice none 0 0),.val (.slice none 0 0),.val (.slice none 0 0),.val (.slice none 0 0),.val (.int .i64 0),.val (.slice none 0 0)]⟩,some ⟨false,30,11,1,[.val (.int .i64 a0.Kind),.val (.int .i64 a0.New.Kind),.sl a0.New.Words.length (fl (eI .u64) a0.New.Words),.sl a0.New.Kids.length (fl Zb a0.New.Kids),.val (.int .i64 a0.Old.Kind),.sl a0.Old.Words.length (fl (eI .u64) a0.Old.Words),.sl a0.Old.Kids.length (fl Zb a0.Old.Kids),.row (n+3) z5.length,.row (n+5) 0,.val (.int .i64 a0.List_),.val (.slice none 0 0)]⟩,some ⟨true,58,4,z5.length,fl Zg z5⟩,none,some ⟨true,71,12,0,[]⟩])) (n':=(n+6)) ?_ ?_
  ·have ha:=Ji (ba:=n) (E:=(⟨76,[],[(1,.ref n 0),(2,.ref (n+1) 0),(3,.ref (n+2) 0),(42,.sl a0.Kids.length (fl Zh a0.Kids)),(43,.val (.int .i64 (a0.Kids.length:Int))),(44,.val (.int .i64 0))]⟩:Env)) (O:=(Zv O n [some ⟨false,30,11,1,[.val (.int .i64 a0.Kind),.val (.int .i64 a0.Old.Kind),.sl a0.Old.Words.length (fl (eI .u64) a0.Old.Words),.sl a0.Old.Kids.length (fl Zb a0.Old.Kids),.val (.int .i64 a0.New.Kind),.sl a0.New.Words.length (fl (eI .u64) a0.New.Words),.sl a0.New.Kids.length (fl Zb a0.New.Kids),.sl a0.Words.length (fl Zg a0.Words),.sl a0.Kids.length (fl Zh a0.Kids),.val (.int .i64 a0.List_),.sl a0.Ops.length (fl Zf a0.Ops)]⟩,some ⟨false,30,11,1,[.val (.int .i64 0),.val (.int .i64 0),.val (.slice none 0 0),.val (.slice none 0 0),.val (.int .i64 0),.val (.slice none 0 0),.val (.slice none 0 0),.val (.slice none 0 0),.val (.slice none 0 0),.val (.int .i64 0),.val (.slice none 0 0)]⟩,some ⟨false,30,11,1,[.val (.int .i64 a0.Kind),.val (.int .i64 a0.New.Kind),.sl a0.New.Words.length (fl (eI .u64) a0.New.Words),.sl a0.New.Kids.length (fl Zb a0.New.Kids),.val (.int .i64 a0.Old.Kind),.sl a0.Old.Words.length (fl (eI .u64) a0.Old.Words),.sl a0.Old.Kids.length (fl Zb a0.Old.Kids),.row (n+3) z5.length,.val (.slice none 0 0),.val (.int .i64 a0.List_),.val (.slice none 0 0)]⟩,some ⟨true,58,4,z5.length,fl Zg z5⟩,none])) (n:=(n+5)) (p:=(n+2)) (k:=8) (q:=⟨false,30,11,1,[.val (.int .i64 a0.Kind),.val (.int .i64 a0.New.Kind),.sl a0.New.Words.length (fl (eI .u64) a0.New.Words),.sl a0.New.Kids.length (fl Zb a0.New.Kids),.val (.int .i64 a0.Old.Kind),.sl a0.Old.Words.length (fl (eI .u64) a0.Old.Words),.sl a0.Old.Kids.length (fl Zb a0.Old.Kids),.row (n+3) z5.length,.val (.slice none 0 0),.val (.int .i64 a0.List_),.val (.slice none 0 0)]⟩) 71 12 (by simp only [Ke,V5,List.getElem?_cons_zero,List.getElem?_cons_succ,Option.join_some,Ya]) rfl (by omega)
   simp only [Yv,Yj,Jo,Qs,List.set_cons_zero,List.set_cons_succ,List.cons_append,List.nil_append,List.length_cons,List.length_nil,Nat.zero_add,Nat.reduceAdd,Nat.reduceLT,Nat.add_assoc] at ha
   exact ha
  refine Fit2.trans (E':=(⟨76,[],[(1,.ref n 0),(2,.ref (n+1) 0),(3,.ref (n+2) 0),(42,.sl a0.Kids.length (fl Zh a0.Kids)),(43,.val (.int .i64 (a0.Kids.length:Int))),(44,.val (.int .i64 0))]⟩:Env)) (O':=(Zv O n [some ⟨false,30,11,1,(Ze a0)⟩,some ⟨false,30,11,1,[.val (.int .i64 0),.val (.int .i64 0),.val (.slice none 0 0),.val (.slice none 0 0),.val (.int .i64 0),.val (.slice none 0 0),.val (.slice none 0 0),.val (.slice none 0 0),.val (.slice none 0 0),.val (.int .i64 0),.val (.slice none 0 0)]⟩,some ⟨false,30,11,1,[.val (.int .i64 a0.Kind),.val (.int .i64 a0.New.Kind),.sl a0.New.Words.length (fl (eI .u64) a0.New.Words),.sl a0.New.Kids.length (fl Zb a0.New.Kids),.val (.int .i64 a0.Old.Kind),.sl a0.Old.Words.length (fl (eI .u64) a0.Old.Words),.sl a0.Old.Kids.length (fl Zb a0.Old.Kids),.row (n+3) z5.length,.row (n+5) ([]:List S_api_KidEdit).length,.val (.int .i64 a0.List_),.val (.slice none 0 0)]⟩,some ⟨true,58,4,z5.length,fl Zg z5⟩,none,some ⟨true,71,12,([]:List S_api_KidEdit).length,fl Zh ([]:List S_api_KidEdit)⟩])) (n':=(n+6)) (Fit2.of (Zj hU rfl rfl ?_) (by omega)) ?_
  ·simp only [push_cast,seval,↓reduceIte,Za,hN0,hN]
  refine Jr (k:=6) (k':=7) hU [0,1,2,3,6,5] [0,1,2,3,0,5,0] rfl rfl rfl rfl ⟨rfl,rfl⟩ ?_
  simp only [push_cast,seval,↓reduceIte,Za,hN0,hN]
 obtain ⟨z11,hz11,h⟩:=bC h
 refine Yb (E':=⟨76,[],[(1,.ref n 0),(2,.ref (n+1) 0),(3,.ref (n+2) 0)]⟩) (O':=(Zv O n [some ⟨false,30,11,1,(Ze a0)⟩,some ⟨false,30,11,1,[.val (.int .i64 0),.val (.int .i64 0),.val (.slice none 0 0),.val (.slice none 0 0),.val (.int .i64 0),.val (.slice none 0 0),.val (.slice none 0 0),.val (.slice none 0 0),.val (.slice none 0 0),.val (.int .i64 0),.val (.slice none 0 0)]⟩,some ⟨false,30,11,1,[.val (.int .i64 a0.Kind),.val (.int .i64 a0.New.Kind),.sl a0.New.Words.length (fl (eI .u64) a0.New.Words),.sl a0.New.Kids.length (fl Zb a0.New.Kids),.val (.int .i64 a0.Old.Kind),.sl a0.Old.Words.length (fl (eI .u64) a0.Old.Words),.sl a0.Old.Kids.length (fl Zb a0.Old.Kids),.row (n+3) z5.length,.row (n+5) z11.length,.val (.int .i64 a0.List_),.val (.slice none 0 0)]⟩,some ⟨true,58,4,z5.length,fl Zg z5⟩,none,some ⟨true,71,12,z11.length,fl Zh z11⟩,none])) (n0:=(n+7)) ?_ ?_
 ·refine Yn hz11 (fun s1_=>⟨76,[],[(1,.ref n 0),(2,.ref (n+1) 0),(3,.ref (n+2) 0),(42,.sl a0.Kids.length (fl Zh a0.Kids)),(43,.val (.int .i64 (a0.Kids.length:Int))),(44,.val (.int .i64 s1_.1))]⟩) (fun s1_=>(Zv O n [some ⟨false,30,11,1,(Ze a0)⟩,some ⟨false,30,11,1,[.val (.int .i64 0),.val (.int .i64 0),.val (.slice none 0 0),.val (.slice none 0 0),.val (.int .i64 0),.val (.slice none 0 0),.val (.slice none 0 0),.val (.slice none 0 0),.val (.slice none 0 0),.val (.int .i64 0),.val (.slice none 0 0)]⟩,some ⟨false,30,11,1,[.val (.int .i64 a0.Kind),.val (.int .i64 a0.New.Kind),.sl a0.New.Words.length (fl (eI .u64) a0.New.Words),.sl a0.New.Kids.length (fl Zb a0.New.Kids),.val (.int .i64 a0.Old.Kind),.sl a0.Old.Words.length (fl (eI .u64) a0.Old.Words),.sl a0.Old.Kids.length (fl Zb a0.Old.Kids),.row (n+3) z5.length,.row (n+5) s1_.2.length,.val (.int .i64 a0.List_),.val (.slice none 0 0)]⟩,some ⟨true,58,4,z5.length,fl Zg z5⟩,none,some ⟨true,71,12,s1_.2.length,fl Zh s1_.2⟩,none])) (fun z11=>JX 2 n (⟨76,[],[(1,.ref n 0),(2,.ref (n+1) 0),(3,.ref (n+2) 0)]⟩:Env) (Zv O n [some ⟨false,30,11,1,(Ze a0)⟩,some ⟨false,30,11,1,[.val (.int .i64 0),.val (.int .i64 0),.val (.slice none 0 0),.val (.slice none 0 0),.val (.int .i64 0),.val (.slice none 0 0),.val (.slice none 0 0),.val (.slice none 0 0),.val (.slice none 0 0),.val (.int .i64 0),.val (.slice none 0 0)]⟩,some ⟨false,30,11,1,[.val (.int .i64 a0.Kind),.val (.int .i64 a0.New.Kind),.sl a0.New.Words.length (fl (eI .u64) a0.New.Words),.sl a0.New.Kids.length (fl Zb a0.New.Kids),.val (.int .i64 a0.Old.Kind),.sl a0.Old.Words.length (fl (eI .u64) a0.Old.Words),.sl a0.Old.Kids.length (fl Zb a0.Old.Kids),.row (n+3) z5.length,.row (n+5) z11.length,.val (.int .i64 a0.List_),.val (.slice none 0 0)]⟩,some ⟨true,58,4,z5.length,fl Zg z5⟩,none,some ⟨true,71,12,z11.length,fl Zh z11⟩,none]) (n+7)) ?_
  intro s1_ x1_ hs1_
  unfold Vn at hs1_
  try dsimp only
  refine Zq [1,2,3,42,43,44,45] (Zc Zd [] ?_)
  simp only [push_cast,seval,↓reduceIte,Za,hN0,hN]
  refine Zm ?_
  refine Zu (t:=(decide (s1_.1 < (a0.Kids.length:Int)))) rfl (fun c10 => ?_) (fun c10 => ?_)
  ·replace hs1_:=Zs c10 hs1_
   refine Zy ?_
   try simp only [Zl,Zi]
   refine Zk [1,2,3,42,43,44] [true,true,true,true,false,true,false] ?_
   simp only [push_cast,seval,↓reduceIte]
   refine Zm ?_
   refine Z6 ?_
   refine Zm ?_
   obtain ⟨x7,hx7,ax7,bx7,cx7,hs1_⟩:=bE (f:=Zh) Zhd (fun _=>rfl) (by decide) hs1_
   refine Zc Zd [] ?_
   simp only [push_cast,Nat.reduceAdd,Nat.reduceSub,Nat.reduceMul,Nat.reduceLeDiff,Nat.reduceLT,Nat.reduceEqDiff,↓reduceIte,reduceCtorEq,Int.reduceBEq,Int.reduceBNe,Nat.reduceBEq,Int.reduceLE,Int.reduceLT,Int.reduceEq,Int.reduceNe,Int.reduceNeg,Nat.reduceDiv,Nat.reduceMod,Nat.reducePow,Za,ax7,bx7,cx7,hN0,hN]
   refine Zk [1,2,3,7,42,43,44] [true,true,true,true,false,true,false,true] ?_
   simp only [push_cast,seval,↓reduceIte]
   obtain ⟨y8,hy8,hs1_⟩:=bC hs1_
   obtain ⟨l9,pl9,ql9,el9,hs1_⟩:=bA (k:=1) rfl hs1_
   refine Zc0 Zd (by kernel_rfl) [.low,.low,.plain,.plain,.plain,.plain,.plain,.plain,.pass,.bar,.plain,.bar] (fun i=>i < (n+8)) [0,1,2,3,4,5,6,7,8,9,10,11] [.low,.low,.plain,.plain,.plain,.plain,.plain,.plain,.pass,.bar,.plain,.bar] [] (by kernel_rfl) rfl ?_
   simp only [push_cast,seval,↓reduceIte,Za,pl9,ql9,el9,hN0,hN]
   repeat (with_reducible refine And.intro (by first | omega | exact Qa rfl | exact Xk | exact Js rfl rfl) ?_)
   first | refine PCallA.of (fun _ _=>Gp hy8) ?_ | refine PCall.of (Gp hy8) ?_
   simp only [push_cast,seval,↓reduceIte,Za,pl9,ql9,el9,hN0,hN]
   repeat (with_reducible refine And.intro (by first | omega | exact Qa rfl | exact Xk | exact Js rfl rfl) ?_)
   refine Zbw ⟨76,[],[(1,.ref n 0),(2,.ref (n+1) 0),(3,.ref (n+2) 0),(42,.sl a0.Kids.length (fl Zh a0.Kids)),(43,.val (.int .i64 (a0.Kids.length:Int))),(44,.val (.int .i64 s1_.1))]⟩ (Zv O n [some ⟨false,30,11,1,(Ze a0)⟩,some ⟨false,30,11,1,[.val (.int .i64 0),.val (.int .i64 0),.val (.slice none 0 0),.val (.slice none 0 0),.val (.int .i64 0),.val (.slice none 0 0),.val (.slice none 0 0),.val (.slice none 0 0),.val (.slice none 0 0),.val (.int .i64 0),.val (.slice none 0 0)]⟩,some ⟨false,30,11,1,[.val (.int .i64 a0.Kind),.val (.int .i64 a0.New.Kind),.sl a0.New.Words.length (fl (eI .u64) a0.New.Words),.sl a0.New.Kids.length (fl Zb a0.New.Kids),.val (.int .i64 a0.Old.Kind),.sl a0.Old.Words.length (fl (eI .u64) a0.Old.Words),.sl a0.Old.Kids.length (fl Zb a0.Old.Kids),.row (n+3) z5.length,.row (n+5) l9.length,.val (.int .i64 a0.List_),.val (.slice none 0 0)]⟩,some ⟨true,58,4,z5.length,fl Zg z5⟩,none,some ⟨true,71,12,l9.length,fl Zh l9⟩,none,none,none]) (Zj hU rfl rfl ?_) ?_
   ·simp only [push_cast,seval,↓reduceIte,Za,pl9,ql9,el9,hN0,hN]
   refine Zc Zd [] ?_
   simp only [push_cast,seval,↓reduceIte,Za,hN0,hN]
   have hs1_:=Option.some.inj hs1_;subst hs1_
   refine And.intro rfl (Fit2.of (Zj hU rfl rfl ?_) (by omega))
   simp only [push_cast,seval,↓reduceIte,Za,hN0,hN]
  replace hs1_:=Zr c10 hs1_
  refine Yx ?_
  try simp only [Zl,Zi,↓reduceIte,Nat.reduceEqDiff]
  have hs1_:=Option.some.inj hs1_;subst hs1_
  refine And.intro (fun h=>by cases h) (And.intro rfl (Fit2.of (Zj hU rfl rfl ?_) (by omega)))
  simp only [push_cast,seval,↓reduceIte,Za,hN0,hN]
 try simp only [Zl,Zi,↓reduceIte,Nat.reduceEqDiff]
 refine Zk [1,2,3] [true,true,true,true,false,true,false] ?_
 simp only [push_cast,seval,↓reduceIte]
 refine Zm ?_
 refine Zq [2,3,61,62,63] (Zc Zd [] ?_)
 simp only [push_cast,seval,↓reduceIte,Za,hN0,hN]
 refine Zk [2,3,61,62,63] [false,true,true,true,false,true,false] ?_
 simp only [push_cast,seval,↓reduceIte]
 refine Jh (E':=(⟨76,[],[(2,.ref (n+1) 0),(3,.ref (n+2) 0),(61,.sl a0.Ops.length (fl Zf a0.Ops)),(62,.val (.int .i64 (a0.Ops.length:Int))),(63,.val (.int .i64 0))]⟩:Env)) (O':=(Zv O n [none,some ⟨false,30,11,1,[.val (.int .i64 0),.val (.int .i64 0),.val (.slice none 0 0),.val (.slice none 0 0),.val (.int .i64 0),.val (.slice none 0 0),.val (.slice none 0 0),.val (.slice none 0 0),.val (.slice none 0 0),.val (.int .i64 0),.val (.slice none 0 0)]⟩,some ⟨false,30,11,1,[.val (.int .i64 a0.Kind),.val (.int .i64 a0.New.Kind),.sl a0.New.Words.length (fl (eI .u64) a0.New.Words),.sl a0.New.Kids.length (fl Zb a0.New.Kids),.val (.int .i64 a0.Old.Kind),.sl a0.Old.Words.length (fl (eI .u64) a0.Old.Words),.sl a0.Old.Kids.length (fl Zb a0.Old.Kids),.row (n+3) z5.length,.row (n+5) z11.length,.val (.int .i64 a0.List_),.row (n+7) ([]:List S_api_Op).length]⟩,some ⟨true,58,4,z5.length,fl Zg z5⟩,none,some ⟨true,71,12,z11.length,fl Zh z11⟩,none,some ⟨true,69,14,([]:List S_api_Op).length,fl Zf ([]:List S_api_Op)⟩,none])) (n':=(n+9)) ?_ ?_
 ·refine Fit2.trans (E':=(⟨76,[],[(2,.ref (n+1) 0),(3,.ref (n+2) 0),(61,.sl a0.Ops.length (fl Zf a0.Ops)),(62,.val (.int .i64 (a0.Ops.length:Int))),(63,.val (.int .i64 0))]⟩:Env)) (O':=(Zv O n [none,some ⟨false,30,11,1,[.val (.int .i64 0),.val (.int .i64 0),.val (.slice none 0 0),.val (.slice none 0 0),.val (.int .i64 0),.val (.slice none 0 0),.val (.slice none 0 0),.val (.slice none 0 0),.val (.slice none 0 0),.val (.int .i64 0),.val (.slice none 0 0)]⟩,some ⟨false,30,11,1,[.val (.int .i64 a0.Kind),.val (.int .i64 a0.New.Kind),.sl a0.New.Words.length (fl (eI .u64) a0.New.Words),.sl a0.New.Kids.length (fl Zb a0.New.Kids),.val (.int .i64 a0.Old.Kind),.sl a0.Old.Words.length (fl (eI .u64) a0.Old.Words),.sl a0.Old.Kids.length (fl Zb a0.Old.Kids),.row (n+3) z5.length,.row (n+5) z11.length,.val (.int .i64 a0.List_),.val (.slice none 0 0)]⟩,some ⟨true,58,4,z5.length,fl Zg z5⟩,none,some ⟨true,71,12,z11.length,fl Zh z11⟩,none])) (n':=(n+7)) (Fit2.of (Zj hU rfl rfl ?_) (by omega)) ?_
  ·simp only [push_cast,seval,↓reduceIte,Za,hN0,hN]
  refine Fit2.trans (E':=(⟨76,[],[(2,.ref (n+1) 0),(3,.ref (n+2) 0),(61,.sl a0.Ops.length (fl Zf a0.Ops)),(62,.val (.int .i64 (a0.Ops.length:Int))),(63,.val (.int .i64 0))]⟩:Env)) (O':=(Zv O n [none,some ⟨false,30,11,1,[.val (.int .i64 0),.val (.int .i64 0),.val (.slice none 0 0),.val (.slice none 0 0),.val (.int .i64 0),.val (.slice none 0 0),.val (.slice none 0 0),.val (.slice none 0 0),.val (.slice none 0 0),.val (.int .i64 0),.val (.slice none 0 0)]⟩,some ⟨false,30,11,1,[.val (.int .i64 a0.Kind),.val (.int .i64 a0.New.Kind),.sl a0.New.Words.length (fl (eI .u64) a0.New.Words),.sl a0.New.Kids.length (fl Zb a0.New.Kids),.val (.int .i64 a0.Old.Kind),.sl a0.Old.Words.length (fl (eI .u64) a0.Old.Words),.sl a0.Old.Kids.length (fl Zb a0.Old.Kids),.row (n+3) z5.length,.row (n+5) z11.length,.val (.int .i64 a0.List_),.row (n+7) 0]⟩,some ⟨true,58,4,z5.length,fl Zg z5⟩,none,some ⟨true,71,12,z11.length,fl Zh z11⟩,none,some ⟨true,69,14,0,[]⟩])) (n':=(n+8)) ?_ ?_
  ·have ha:=Ji (ba:=n) (E:=(⟨76,[],[(2,.ref (n+1) 0),(3,.ref (n+2) 0),(61,.sl a0.Ops.length (fl Zf a0.Ops)),(62,.val (.int .i64 (a0.Ops.length:Int))),(63,.val (.int .i64 0))]⟩:Env)) (O:=(Zv O n [none,some ⟨false,30,11,1,[.val (.int .i64 0),.val (.int .i64 0),.val (.slice none 0 0),.val (.slice none 0 0),.val (.int .i64 0),.val (.slice none 0 0),.val (.slice none 0 0),.val (.slice none 0 0),.val (.slice none 0 0),.val (.int .i64 0),.val (.slice none 0 0)]⟩,some ⟨false,30,11,1,[.val (.int .i64 a0.Kind),.val (.int .i64 a0.New.Kind),.sl a0.New.Words.length (fl (eI .u64) a0.New.Words),.sl a0.New.Kids.length (fl Zb a0.New.Kids),.val (.int .i64 a0.Old.Kind),.sl a0.Old.Words.length (fl (eI .u64) a0.Old.Words),.sl a0.Old.Kids.length (fl Zb a0.Old.Kids),.row (n+3) z5.length,.row (n+5) z11.length,.val (.int .i64 a0.List_),.val (.slice none 0 0)]⟩,some ⟨true,58,4,z5.length,fl Zg z5⟩,none,some ⟨true,71,12,z11.length,fl Zh z11⟩,none])) (n:=(n+7)) (p:=(n+2)) (k:=10) (q:=⟨false,30,11,1,[.val (.int .i64 a0.Kind),.val (.int .i64 a0.New.Kind),.sl a0.New.Words.length (fl (eI .u64) a0.New.Words),.sl a0.New.Kids.length (fl Zb a0.New.Kids),.val (.int .i64 a0.Old.Kind),.sl a0.Old.Words.length (fl (eI .u64) a0.Old.Words),.sl a0.Old.Kids.length (fl Zb a0.Old.Kids),.row (n+3) z5.length,.row (n+5) z11.length,.val (.int .i64 a0.List_),.val (.slice none 0 0)]⟩) 69 14 (by simp only [Ke,V5,List.getElem?_cons_zero,List.getElem?_cons_succ,Option.join_some,Ya]) rfl (by omega)
   simp only [Yv,Yj,Jo,Qs,List.set_cons_zero,List.set_cons_succ,List.cons_append,List.nil_append,List.length_cons,List.length_nil,Nat.zero_add,Nat.reduceAdd,Nat.reduceLT,Nat.add_assoc] at ha
   exact ha
  refine Fit2.trans (E':=(⟨76,[],[(2,.ref (n+1) 0),(3,.ref (n+2) 0),(61,.sl a0.Ops.length (fl Zf a0.Ops)),(62,.val (.int .i64 (a0.Ops.length:Int))),(63,.val (.int .i64 0))]⟩:Env)) (O':=(Zv O n [none,some ⟨false,30,11,1,[.val (.int .i64 0),.val (.int .i64 0),.val (.slice none 0 0),.val (.slice none 0 0),.val (.int .i64 0),.val (.slice none 0 0),.val (.slice none 0 0),.val (.slice none 0 0),.val (.slice none 0 0),.val (.int .i64 0),.val (.slice none 0 0)]⟩,some ⟨false,30,11,1,[.val (.int .i64 a0.Kind),.val (.int .i64 a0.New.Kind),.sl a0.New.Words.length (fl (eI .u64) a0.New.Words),.sl a0.New.Kids.length (fl Zb a0.New.Kids),.val (.int .i64 a0.Old.Kind),.sl a0.Old.Words.length (fl (eI .u64) a0.Old.Words),.sl a0.Old.Kids.length (fl Zb a0.Old.Kids),.row (n+3) z5.length,.row (n+5) z11.length,.val (.int .i64 a0.List_),.row (n+7) ([]:List S_api_Op).length]⟩,some ⟨true,58,4,z5.length,fl Zg z5⟩,none,some ⟨true,71,12,z11.length,fl Zh z11⟩,none,some ⟨true,69,14,([]:List S_api_Op).length,fl Zf ([]:List S_api_Op)⟩])) (n':=(n+8)) (Fit2.of (Zj hU rfl rfl ?_) (by omega)) ?_
  ·simp only [push_cast,seval,↓reduceIte,Za,hN0,hN]
  refine Jr (k:=8) (k':=9) hU [8,1,2,3,8,5,8,7] [0,1,2,3,0,5,0,7,0] rfl rfl rfl rfl ⟨rfl,rfl⟩ ?_
  simp only [push_cast,seval,↓reduceIte,Za,hN0,hN]
 obtain ⟨z17,hz17,h⟩:=bC h
 refine Yb (E':=⟨76,[],[(2,.ref (n+1) 0),(3,.ref (n+2) 0)]⟩) (O':=(Zv O n [none,some ⟨false,30,11,1,[.val (.int .i64 0),.val (.int .i64 0),.val (.slice none 0 0),.val (.slice none 0 0),.val (.int .i64 0),.val (.slice none 0 0),.val (.slice none 0 0),.val (.slice none 0 0),.val (.slice none 0 0),.val (.int .i64 0),.val (.slice none 0 0)]⟩,some ⟨false,30,11,1,[.val (.int .i64 a0.Kind),.val (.int .i64 a0.New.Kind),.sl a0.New.Words.length (fl (eI .u64) a0.New.Words),.sl a0.New.Kids.length (fl Zb a0.New.Kids),.val (.int .i64 a0.Old.Kind),.sl a0.Old.Words.length (fl (eI .u64) a0.Old.Words),.sl a0.Old.Kids.length (fl Zb a0.Old.Kids),.row (n+3) z5.length,.row (n+5) z11.length,.val (.int .i64 a0.List_),.row (n+7) z17.length]⟩,some ⟨true,58,4,z5.length,fl Zg z5⟩,none,some ⟨true,71,12,z11.length,fl Zh z11⟩,none,some ⟨true,69,14,z17.length,fl Zf z17⟩,none])) (n0:=(n+9)) ?_ ?_
 ·refine Yn hz17 (fun s2_=>⟨76,[],[(2,.ref (n+1) 0),(3,.ref (n+2) 0),(61,.sl a0.Ops.length (fl Zf a0.Ops)),(62,.val (.int .i64 (a0.Ops.length:Int))),(63,.val (.int .i64 s2_.1))]⟩) (fun s2_=>(Zv O n [none,some ⟨false,30,11,1,[.val (.int .i64 0),.val (.int .i64 0),.val (.slice none 0 0),.val (.slice none 0 0),.val (.int .i64 0),.val (.slice none 0 0),.val (.slice none 0 0),.val (.slice none 0 0),.val (.slice none 0 0),.val (.int .i64 0),.val (.slice none 0 0)]⟩,some ⟨false,30,11,1,[.val (.int .i64 a0.Kind),.val (.int .i64 a0.New.Kind),.sl a0.New.Words.length (fl (eI .u64) a0.New.Words),.sl a0.New.Kids.length (fl Zb a0.New.Kids),.val (.int .i64 a0.Old.Kind),.sl a0.Old.Words.length (fl (eI .u64) a0.Old.Words),.sl a0.Old.Kids.length (fl Zb a0.Old.Kids),.row (n+3) z5.length,.row (n+5) z11.length,.val (.int .i64 a0.List_),.row (n+7) s2_.2.length]⟩,some ⟨true,58,4,z5.length,fl Zg z5⟩,none,some ⟨true,71,12,z11.length,fl Zh z11⟩,none,some ⟨true,69,14,s2_.2.length,fl Zf s2_.2⟩,none])) (fun z17=>JX 4 n (⟨76,[],[(2,.ref (n+1) 0),(3,.ref (n+2) 0)]⟩:Env) (Zv O n [none,some ⟨false,30,11,1,[.val (.int .i64 0),.val (.int .i64 0),.val (.slice none 0 0),.val (.slice none 0 0),.val (.int .i64 0),.val (.slice none 0 0),.val (.slice none 0 0),.val (.slice none 0 0),.val (.slice none 0 0),.val (.int .i64 0),.val (.slice none 0 0)]⟩,some ⟨false,30,11,1,[.val (.int .i64 a0.Kind),.val (.int .i64 a0.New.Kind),.sl a0.New.Words.length (fl (eI .u64) a0.New.Words),.sl a0.New.Kids.length (fl Zb a0.New.Kids),.val (.int .i64 a0.Old.Kind),.sl a0.Old.Words.length (fl (eI .u64) a0.Old.Words),.sl a0.Old.Kids.length (fl Zb a0.Old.Kids),.row (n+3) z5.length,.row (n+5) z11.length,.val (.int .i64 a0.List_),.row (n+7) z17.length]⟩,some ⟨true,58,4,z5.length,fl Zg z5⟩,none,some ⟨true,71,12,z11.length,fl Zh z11⟩,none,some ⟨true,69,14,z17.length,fl Zf z17⟩,none]) (n+9)) ?_
  intro s2_ x2_ hs2_
  unfold Vo at hs2_
  try dsimp only
  refine Zq [2,3,61,62,63,64] (Zc Zd [] ?_)
  simp only [push_cast,seval,↓reduceIte,Za,hN0,hN]
  refine Zm ?_
  refine Zu (t:=(decide (s2_.1 < (a0.Ops.length:Int)))) rfl (fun c16 => ?_) (fun c16 => ?_)
  ·replace hs2_:=Zs c16 hs2_
   refine Zy ?_
   try simp only [Zl,Zi]
   refine Zk [2,3,61,62,63] [false,true,true,true,false,true,false,true,false] ?_
   simp only [push_cast,seval,↓reduceIte]
   refine Zm ?_
   refine Z6 ?_
   refine Zm ?_
   obtain ⟨x13,hx13,ax13,bx13,cx13,hs2_⟩:=bE (f:=Zf) V2 (fun _=>rfl) (by decide) hs2_
   refine Zc Zd [] ?_
   simp only [push_cast,Nat.reduceAdd,Nat.reduceSub,Nat.reduceMul,Nat.reduceLeDiff,Nat.reduceLT,Nat.reduceEqDiff,↓reduceIte,reduceCtorEq,Int.reduceBEq,Int.reduceBNe,Nat.reduceBEq,Int.reduceLE,Int.reduceLT,Int.reduceEq,Int.reduceNe,Int.reduceNeg,Nat.reduceDiv,Nat.reduceMod,Nat.reducePow,Za,ax13,bx13,cx13,hN0,hN]
   refine Zk [2,3,9,61,62,63] [false,true,true,true,false,true,false,true,false,true] ?_
   simp only [push_cast,seval,↓reduceIte]
   obtain ⟨y14,hy14,hs2_⟩:=bC hs2_
   obtain ⟨l15,pl15,ql15,el15,hs2_⟩:=bA (k:=1) rfl hs2_
   refine Zc0 Zd (by kernel_rfl) [.low,.low,.plain,.plain,.pass,.bar,.plain,.bar] (fun i=>i < (n+10)) [0,1,2,3,4,5,6,7] [.low,.low,.plain,.plain,.pass,.bar,.plain,.bar] [] (by kernel_rfl) rfl ?_
   simp only [push_cast,seval,↓reduceIte,Za,pl15,ql15,el15,hN0,hN]
   repeat (with_reducible refine And.intro (by first | omega | exact Qa rfl | exact Xk | exact Js rfl rfl) ?_)
   first | refine PCallA.of (fun _ _=>Zbe hy14) ?_ | refine PCall.of (Zbe hy14) ?_
   simp only [push_cast,seval,↓reduceIte,Za,pl15,ql15,el15,hN0,hN]
   repeat (with_reducible refine And.intro (by first | omega | exact Qa rfl | exact Xk | exact Js rfl rfl) ?_)
   refine Zbw ⟨76,[],[(2,.ref (n+1) 0),(3,.ref (n+2) 0),(61,.sl a0.Ops.length (fl Zf a0.Ops)),(62,.val (.int .i64 (a0.Ops.length:Int))),(63,.val (.int .i64 s2_.1))]⟩ (Zv O n [none,some ⟨false,30,11,1,[.val (.int .i64 0),.val (.int .i64 0),.val (.slice none 0 0),.val (.slice none 0 0),.val (.int .i64 0),.val (.slice none 0 0),.val (.slice none 0 0),.val (.slice none 0 0),.val (.slice none 0 0),.val (.int .i64 0),.val (.slice none 0 0)]⟩,some ⟨false,30,11,1,[.val (.int .i64 a0.Kind),.val (.int .i64 a0.New.Kind),.sl a0.New.Words.length (fl (eI .u64) a0.New.Words),.sl a0.New.Kids.length (fl Zb a0.New.Kids),.val (.int .i64 a0.Old.Kind),.sl a0.Old.Words.length (fl (eI .u64) a0.Old.Words),.sl a0.Old.Kids.length (fl Zb a0.Old.Kids),.row (n+3) z5.length,.row (n+5) z11.length,.val (.int .i64 a0.List_),.row (n+7) l15.length]⟩,some ⟨true,58,4,z5.length,fl Zg z5⟩,none,some ⟨true,71,12,z11.length,fl Zh z11⟩,none,some ⟨true,69,14,l15.length,fl Zf l15⟩,none,none,none]) (Zj hU rfl rfl ?_) ?_
   ·simp only [push_cast,seval,↓reduceIte,Za,pl15,ql15,el15,hN0,hN]
   refine Zc Zd [] ?_
   simp only [push_cast,seval,↓reduceIte,Za,hN0,hN]
   have hs2_:=Option.some.inj hs2_;subst hs2_
   refine And.intro rfl (Fit2.of (Zj hU rfl rfl ?_) (by omega))
   simp only [push_cast,seval,↓reduceIte,Za,hN0,hN]
  replace hs2_:=Zr c16 hs2_
  refine Yx ?_
  try simp only [Zl,Zi,↓reduceIte,Nat.reduceEqDiff]
  have hs2_:=Option.some.inj hs2_;subst hs2_
  refine And.intro (fun h=>by cases h) (And.intro rfl (Fit2.of (Zj hU rfl rfl ?_) (by omega)))
  simp only [push_cast,seval,↓reduceIte,Za,hN0,hN]
 try simp only [Zl,Zi,↓reduceIte,Nat.reduceEqDiff]
 refine Zk [2,3] [false,true,true,true,false,true,false,true,false] ?_
 simp only [push_cast,seval,↓reduceIte]
 refine Zm ?_
 refine Zc Zd [] ?_
 simp only [push_cast,seval,↓reduceIte,Za,hN0,hN]
 refine Zk [2] [false,true,false,true,false,true,false,true,false] ?_
 simp only [push_cast,seval,↓reduceIte]
 refine Z0 ?_
 try simp only [Zl,Zi]
 have h:=Option.some.inj h;subst h
 refine Zt (.inr rfl) hU [.agg [.val (.int .i64 a0.Kind),.val (.int .i64 a0.New.Kind),.sl a0.New.Words.length (fl (eI .u64) a0.New.Words),.sl a0.New.Kids.length (fl Zb a0.New.Kids),.val (.int .i64 a0.Old.Kind),.sl a0.Old.Words.length (fl (eI .u64) a0.Old.Words),.sl a0.Old.Kids.length (fl Zb a0.Old.Kids),.row (n+3) z5.length,.row (n+5) z11.length,.val (.int .i64 a0.List_),.row (n+7) z17.length]] (by omega) ?_
 simp only [push_cast,seval,↓reduceIte,Za,Try.results61,hN0,hN]
theorem Zj2 {Xy:(S_api_Edit→Option S_api_Edit)} {Xp:(S_api_Op→Option S_api_Op)} (Gp:∀ {a0:S_api_Edit} {r:S_api_Edit} {O:Objs} {n:Nat},Xy a0=some r→GTo Try.prog 61 [.agg (Ze a0)] O n (.agg (Ze r)) O n) (Zbe:∀ {a0:S_api_Op} {r:S_api_Op} {O:Objs} {n:Nat},Xp a0=some r→GTo Try.prog 102 [.agg (Z3 a0)] O n (.agg (Z3 r)) O n) {a0:S_api_Op} {r:S_api_Op} {O:Objs} {n:Nat} (h:Ub Xy Xp a0=some r):GTo Try.prog 102 [.agg (Z3 a0)] O n (.agg (Z3 r)) O n:=by
 unfold Ub at h
 refine Y3 Zd Try.call102 Try.func102 rfl (Nat.le_of_ble_eq_true rfl) (Nat.le_refl _) fun hU => ?_
 have hN0:O n=none:=hU.fresh _ (Nat.le_refl _)
 have hN:∀ k,O (n+k)=none:=fun k=>hU.fresh _ (Nat.le_add_right _ _)
 show W _ _ _ _ ⟨18,[],[(0,.agg (Z3 a0))]⟩ (Zv O n []) _
 refine Zq [1,2] (Zc Zd [] ?_)
 simp only [push_cast,seval,↓reduceIte,Za,hN0,hN]
 obtain ⟨z1,hz1,h⟩:=bC h
 refine Yl (E':=⟨18,[],[(1,.ref n 0),(2,.ref (n+1) 0)]⟩) (O':=(Zv O n [some ⟨false,69,14,1,[.val (.int .i64 z1.1),.val (.int .i64 a0.N),.sl a0.L.length (fl Zb a0.L),.val (.int .i64 z1.2.1),.val (.int .i64 z1.2.2.1),.sl z1.2.2.2.1.length (fl (eI .u64) z1.2.2.2.1),.sl z1.2.2.2.2.1.length (fl Zb z1.2.2.2.2.1),.val (.int .i64 z1.2.2.2.2.2.1),.sl z1.2.2.2.2.2.2.1.length (fl (eI .u64) z1.2.2.2.2.2.2.1),.sl z1.2.2.2.2.2.2.2.1.length (fl Zb z1.2.2.2.2.2.2.2.1),.sl z1.2.2.2.2.2.2.2.2.1.length (fl Zg z1.2.2.2.2.2.2.2.2.1),.sl z1.2.2.2.2.2.2.2.2.2.1.length (fl Zh z1.2.2.2.2.2.2.2.2.2.1),.val (.int .i64 z1.2.2.2.2.2.2.2.2.2.2.1),.sl z1.2.2.2.2.2.2.2.2.2.2.2.length (fl Zf z1.2.2.2.2.2.2.2.2.2.2.2)]⟩,some ⟨false,69,14,1,[.val (.int .i64 0),.val (.int .i64 0),.val (.slice none 0 0),.val (.int .i64 0),.val (.int .i64 0),.val (.slice none 0 0),.val (.slice none 0 0),.val (.int .i64 0),.val (.slice none 0 0),.val (.slice none 0 0),.val (.slice none 0 0),.val (.slice none 0 0),.val (.int .i64 0),.val (.slice none 0 0)]⟩])) (n0:=(n+2)) ?_ ?_
 ·refine Zq [1,2,4] (Zc Zd [] ?_)
  simp only [push_cast,seval,↓reduceIte,Za,hN0,hN]
  refine Z6 ?_
  refine Zq [1,2,4,5] (Zc Zd [] ?_)
  simp only [push_cast,seval,↓reduceIte,Za,hN0,hN]
  refine Zu (t:=(a0.Kind == 1)) rfl (fun c5 => ?_) (fun c5 => ?_)
  ·replace hz1:=Zs c5 hz1
   refine Zc Zd [] ?_
   simp only [push_cast,seval,↓reduceIte,Za,hN0,hN]
   have hz1:=Option.some.inj hz1;subst hz1
   refine And.intro rfl (Fit2.of (Zj hU rfl rfl ?_) (by omega))
   simp only [push_cast,seval,↓reduceIte,Za,hN0,hN]
  replace hz1:=Zr c5 hz1
  refine Zq [1,2,4,8] (Zc Zd [] ?_)
  simp only [push_cast,seval,↓reduceIte,Za,hN0,hN]
  refine Zu (t:=(a0.Kind == 2)) rfl (fun c4 => ?_) (fun c4 => ?_)
  ·replace hz1:=Zs c4 hz1
   refine Zc Zd [] ?_
   simp only [push_cast,seval,↓reduceIte,Za,hN0,hN]
   have hz1:=Option.some.inj hz1;subst hz1
   refine And.intro rfl (Fit2.of (Zj hU rfl rfl ?_) (by omega))
   simp only [push_cast,seval,↓reduceIte,Za,hN0,hN]
  replace hz1:=Zr c4 hz1
  refine Zq [1,2,11] (Zc Zd [] ?_)
  simp only [push_cast,seval,↓reduceIte,Za,hN0,hN]
  refine Zu (t:=(a0.Kind == 3)) rfl (fun c3 => ?_) (fun c3 => ?_)
  ·replace hz1:=Zs c3 hz1
   obtain ⟨y2,hy2,hz1⟩:=bC hz1
   refine Zc Zd [] ?_
   simp only [push_cast,seval,↓reduceIte,Za,hN0,hN]
   refine (Gp hy2).then ?_
   simp only [push_cast,seval,↓reduceIte,Za,hN0,hN]
   have hz1:=Option.some.inj hz1;subst hz1
   refine And.intro rfl (Fit2.of (Zj hU rfl rfl ?_) (by omega))
   simp only [push_cast,seval,↓reduceIte,Za,hN0,hN]
  replace hz1:=Zr c3 hz1
  refine Zy ?_
  try simp only [Zl,Zi]
  have hz1:=Option.some.inj hz1;subst hz1
  refine And.intro rfl (Fit2.of (Zj hU rfl rfl ?_) (by omega))
  simp only [push_cast,seval,↓reduceIte,Za,hN0,hN]
 refine Zm ?_
 refine Zc Zd [] ?_
 simp only [push_cast,seval,↓reduceIte,Za,hN0,hN]
 refine Zk [2] [false,true] ?_
 simp only [push_cast,seval,↓reduceIte]
 refine Z0 ?_
 try simp only [Zl,Zi]
 have h:=Option.some.inj h;subst h
 refine Zt (.inr rfl) hU [.agg [.val (.int .i64 z1.1),.val (.int .i64 a0.N),.sl a0.L.length (fl Zb a0.L),.val (.int .i64 z1.2.1),.val (.int .i64 z1.2.2.1),.sl z1.2.2.2.1.length (fl (eI .u64) z1.2.2.2.1),.sl z1.2.2.2.2.1.length (fl Zb z1.2.2.2.2.1),.val (.int .i64 z1.2.2.2.2.2.1),.sl z1.2.2.2.2.2.2.1.length (fl (eI .u64) z1.2.2.2.2.2.2.1),.sl z1.2.2.2.2.2.2.2.1.length (fl Zb z1.2.2.2.2.2.2.2.1),.sl z1.2.2.2.2.2.2.2.2.1.length (fl Zg z1.2.2.2.2.2.2.2.2.1),.sl z1.2.2.2.2.2.2.2.2.2.1.length (fl Zh z1.2.2.2.2.2.2.2.2.2.1),.val (.int .i64 z1.2.2.2.2.2.2.2.2.2.2.1),.sl z1.2.2.2.2.2.2.2.2.2.2.2.length (fl Zf z1.2.2.2.2.2.2.2.2.2.2.2)]] (by omega) ?_
 simp only [push_cast,seval,↓reduceIte,Za,Try.results102,hN0,hN]
theorem Zjq:∀ k,(∀ {a0:S_api_Edit} {r:S_api_Edit} {O:Objs} {n:Nat},(Yz k).1 a0=some r→GTo Try.prog 61 [.agg (Ze a0)] O n (.agg (Ze r)) O n)∧(∀ {a0:S_api_Op} {r:S_api_Op} {O:Objs} {n:Nat},(Yz k).2 a0=some r→GTo Try.prog 102 [.agg (Z3 a0)] O n (.agg (Z3 r)) O n):=fun k=>by
 induction k with
 | zero=>exact ⟨@fun a0 r O n h=>(nomatch (show (none:Option _)=some _ from h)),@fun a0 r O n h=>(nomatch (show (none:Option _)=some _ from h))⟩
 | succ k ih=>exact ⟨@fun a0 r O n h=>Zl2 (ih.1) (ih.2)  h,@fun a0 r O n h=>Zj2 (ih.1) (ih.2)  h⟩
theorem Znb {a0:S_api_Edit} {r:S_api_Edit} {O:Objs} {n:Nat} (h:Zes a0=some r):GTo Try.prog 61 [.agg (Ze a0)] O n (.agg (Ze r)) O n:=by
 obtain ⟨k,hk⟩:=Vs h
 exact (Zjq k).1  hk
end Go.Proofs.Ytbcgiaijjaocdaa
