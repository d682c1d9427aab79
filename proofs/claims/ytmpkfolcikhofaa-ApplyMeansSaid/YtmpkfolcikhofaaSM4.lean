/- Part SM4 of this seat's mirrors: functions of the seat's program, and the plain functions that they are; each theorem bears its own conditions. -/
import Derived.Test.YtmpkfolcikhofaaSE
import Derived.Test.YtmpkfolcikhofaaSM3
namespace Go.Proofs.Ytmpkfolcikhofaa
open Go.RowKit
set_option linter.unusedVariables false
set_option linter.unusedSimpArgs false
set_option maxRecDepth 100000
set_option maxHeartbeats 1000000
attribute [local push_cast] Zh Vd Ym Ze Q6 Zkm Zkl Zk5 Zk4 Zj Zg Zhp Zdd Zdc onW Y8 Zas G0 Zkq Zjs Zew evS wok Xz Op.operands Call.operands gop onK onP atK List.all_cons List.all_nil Bool.and_true Bool.true_and Bool.and_self Value.oneCell' List.take_zero List.take_succ_cons List.take_nil List.drop_zero List.drop_succ_cons List.drop_nil List.append_nil Nat.add_zero Nat.zero_add Vc Ya ev Qd Zjr Zse Znr Znq Zsj Ze1 Zac Zem Zak Zfk Zcq K3 Zhq Zde Uq Zen Ur Zgf Ze0 Zow bLo bHi bMx Zad Zge Zsf Zez Zg1 Zbz Vo Zng Zsk Zek Zsn Zab Ztt Qc Zgh gone Zh7 Zdv Zdu pop TK.isAgg G.one G.under G.unders List.getD_cons_zero List.getD_cons_succ List.set_cons_zero List.set_cons_succ List.map_cons List.map_nil List.toList_toArray Array.toList_append Option.toArray_none Option.toArray_some Array.toList_map Option.map_some Option.map_none Option.bind_some Option.bind_none List.getElem?_cons_zero List.getElem?_cons_succ List.getElem?_nil List.nil_append List.cons_append List.replicate_succ List.replicate_zero List.length_cons List.length_nil and_true true_and and_false false_and Bool.true_eq_false Bool.false_eq_true forall_const false_implies implies_true IntKind.bits if_true if_false ite_true ite_false eq_self true_implies false_or or_false or_true true_or not_true_eq_false not_false_eq_true decide_true decide_false decide_eq_true_eq decide_eq_false_iff_not beq_iff_eq bne_iff_ne ne_eq Bool.not_eq_true Bool.not_eq_false beq_eq_false_iff_ne bne_eq_false_iff_eq beq_self_eq_true bne_self_eq_false Option.some.injEq exists_eq_left' exists_eq_left ge_iff_le gt_iff_lt decide_not Bool.not_true Bool.not_false imp_self Zoy cond_true cond_false Zyu Zyt Bool.not_not Bool.and_false Bool.false_and Bool.or_true Bool.true_or Bool.or_false Bool.false_or Gz Zgd Zcz Zb0 Vi Q5 Option.join_some Nat.add_assoc Int.toNat_natCast eI eB eS eL Za3 Zc4 Zb7 Zkp Zkn Zko Zt7 Zwc Zc7 Zcg Zlc Zla Zlb Zra Zho Zoq Zia Zop Zbn Zmx List.length_append G.agg.injEq G.row.injEq G.ref.injEq G.val.injEq G.sl.injEq G.tup.injEq Value.int.injEq Value.bool.injEq Value.string.injEq List.cons.injEq exists_and_left exists_const List.flatten_cons List.flatten_nil Int.le_refl Nat.le_refl Zai Xw Ky Bool.not_eq_true' Bool.not_eq_false' Zmq Zga Zqu Zq0 Zqt Zqz Zvq Zvm List.size_toArray Zlf Zlg G.ren G.rens Znw Zct Zli Zkg Zkh Zic Zq1 Zcs G.fn.injEq Zi4 Zi5 Zmp Zvn Zi3 Zqx Zvp Zvo Zqw Zo4 Zty Option.join_none Yp Kt undef Zg2 Arr.len Arr.put_eq Zc6 Zfv Zdq Zcf Zk9 Zk7 Zk8 onB Zt6 Zne Zib Zhd Zhe Zhf Zhg Zhh Zhi Zfr Zfz Zfx Zdt Zch Zfy Zh6 Zh5 Zh4 Zh3 Zwb Zyb Zq9 Zpg Vx Zq5 Zkt Zf0 Zds Zs2 Zlk Zey Zg0 Zbf Zf1 Zhj Zhk Zhl Zhm Ze9 Zfa Zfb Zfc Zfd Zfe Zff Zb4 prT Zc2 Z0k Zqh Zyj Zqi Z0l Zqj Zrc Zqk Z0m Zql Z0n Zqm Z0o Zqn Z0p Zqo Zul Zlp Zum Zlq Zun Zlr Zuo Zls Zup Zlt Zuq Zlu Zur Zlv Zus Zlw Zut Zlx Zuu Zly Zuv Zlz Zuw Zgv Zqf Gw Zux Zl0 V1 Zl1 Zuy Zl2 Zuz Zl3 Zu0 Zl4 Zu1 Zl5 Zu2 Zl6 Zu3 Zl7 Zu4 Zl8 Zu5 Zl9 Zu6 Zma Zln Zmb Zu7 Zmc Zlo Zmd Zu8 Zme Zg6 Zmf Zbm Zmg Zu9 Zmh Zva Zmi Zvb Zmj Zvc Zmk Zvd Zml Zve Zmm Zvf Zmn Zqg Zmo Zpr Zie Zps Zif Zpt Zig Zpu Zih Zpv Zii Zpw Zij Zj8 Zf7 Zpx Zik Zpy Zil Zpz Zim Zp0 Zin Zp1 Zio Zp2 Zip Zp3 Ziq Zp4 Zir Zp5 Zis Zp6 Zit Zp7 Ziu Zp8 Ziv Zp9 Ziw Zqa Zix Zqb Ziy Zqc Ziz Zqd Zi0 Zqe Zi1 Zb Yd Zee Zed Zdg Zdo Zeg Zcn Zcj Zci Zea Um Ul Uc Ug Un V2 Vz Vy Uj Zm Y0 Zp Zt Yw Yj Y6 Z7 J3 Jz Jn Js J5 Q3 Q1 Qz Jw Kr Kq Kj Ko Ks Jy Jv Ju Kp Gq Gp Gc Gj Gs U0 Uz Uy Gn J4 J0 Jo Jt J6 Q4 Q2 Q0 Jx Zgb Zf9 Zfn Zfu Zgc Zeb Zd3 Zd2 Zf8
theorem Zh1 {Yu : (S_api_Edit → Int → Option Bool)} {Xv : (Int → S_api_Op → Int → Option Bool)} (U5 : ∀ {a0 : S_api_Edit} {a1 : Int} {r : Bool} {O : Objs} {n : Nat}, Yu a0 a1 = some r → GTo Try.prog 48 [.agg (Zh a0), .val (.int .i64 a1)] O n (.val (.bool r)) O n) (Zdn : ∀ {a0 : Int} {a1 : S_api_Op} {a2 : Int} {r : Bool} {O : Objs} {n : Nat}, Xv a0 a1 a2 = some r → GTo Try.prog 78 [.val (.int .i64 a0), .agg (Ym a1), .val (.int .i64 a2)] O n (.val (.bool r)) O n) {a0 : S_api_Edit} {a1 : Int} {r : Bool} {O : Objs} {n : Nat} (h : K1 Yu Xv a0 a1 = some r) : GTo Try.prog 48 [.agg (Zh a0), .val (.int .i64 a1)] O n (.val (.bool r)) O n := by
 unfold K1 at h
 refine Xn Zd Try.call48 Try.func48 rfl (Nat.le_of_ble_eq_true rfl) (Nat.le_refl _) fun hU => ?_
 have hN0 : O n = none := hU.fresh _ (Nat.le_refl _)
 have hN : ∀ k, O (n + k) = none := fun k => hU.fresh _ (Nat.le_add_right _ _)
 show W _ _ _ _ ⟨216, [], [(0, .agg (Zh a0)), (1, .val (.int .i64 a1))]⟩ (Zy O n []) _
 refine Zr [1, 2] (Zc Zd [] ?_)
 simp only [push_cast, seval, ↓reduceIte, Za, hN0, hN]
 refine Zl ?_
 refine Zr [1, 2, 24] (Zc Zd [none, none, none, none, none, none] ?_)
 simp only [push_cast, seval, ↓reduceIte, Za, hN0, hN]
 repeat (with_reducible refine And.intro (by first | (intro h0; simp only [h0, and_self]; done) | (intro h0; simp only [h0, Bool.not_false, Bool.not_true, Bool.true_and, Bool.and_true, true_and, and_true, and_self, imp_self, implies_true, bne_iff_ne, ne_eq, beq_iff_eq]; done) | (intros; simp_all; done) | exact True.intro) ?_)
 refine Zw (t := (cond (cond (a1 == 0) true (decide (a0.Kind < 0))) true (decide (3 < a0.Kind)))) rfl (fun c58 => ?_) (fun c58 => ?_)
 ·replace h := Zv c58 h
  refine Zr [4] (Zc Zd [] ?_)
  simp only [push_cast, seval, ↓reduceIte, Za, hN0, hN]
  refine Z5 ?_
  try simp only [Zj, Zg]
  have h := Option.some.inj h; subst h
  refine Zs (.inr rfl) hU [.val (.bool false)] (by omega) ?_
  simp only [push_cast, seval, ↓reduceIte, Za, Try.results48, hN0, hN]
 replace h := Zu c58 h
 refine Z0 ?_
 try simp only [Zj, Zg]
 refine Zi [1, 2] [true] ?_
 simp only [push_cast, seval, ↓reduceIte]
 refine Zl ?_
 obtain ⟨z3, hz3, h⟩ := bC h
 refine Xh (E' := ⟨216, [], [(1, .val (.int .i64 a1)), (2, .ref n 0), (69, .val (.bool z3))]⟩) (O' := (Zy O n [some ⟨false, 54, 11, 1, (Zh a0)⟩])) (n0 := (n + 1)) ?_ ?_
 ·rcases Bool.eq_false_or_eq_true (a0.Kind != 1) with c8 | c8
  ·replace hz3 := Zv c8 hz3
   obtain ⟨y6, hy6, hz3⟩ := bC hz3
   rcases Bool.eq_false_or_eq_true y6 with c9 | c9
   ·replace hz3 := Zv c9 hz3
    try rw [c9] at c8
    obtain ⟨y7, hy7, hz3⟩ := bC hz3
    refine Zc Zd [some true, some true, some true, some true, some true, some true, some true, some true, some true, none, none, none, none, none, none, none, none, none, none, none, none, none, none, none, none, none, none, none, none, none, none, none, none, none, none, none] ?_
    simp only [push_cast, seval, ↓reduceIte, Za, c8, c9, hN0, hN]
    repeat (with_reducible refine And.intro (by first | (intro h0; simp only [h0, and_self]; done) | (intro h0; simp only [h0, Bool.not_false, Bool.not_true, Bool.true_and, Bool.and_true, true_and, and_true, and_self, imp_self, implies_true, bne_iff_ne, ne_eq, beq_iff_eq]; done) | (intros; simp_all; done) | exact True.intro) ?_)
    refine (Jd hy6).then ?_
    simp only [push_cast, seval, ↓reduceIte, Za, c8, c9, hN0, hN]
    repeat (with_reducible refine And.intro (by first | (intro h0; simp only [h0, and_self]; done) | (intro h0; simp only [h0, Bool.not_false, Bool.not_true, Bool.true_and, Bool.and_true, true_and, and_true, and_self, imp_self, implies_true, bne_iff_ne, ne_eq, beq_iff_eq]; done) | (intros; simp_all; done) | exact True.intro) ?_)
    refine (Jd hy7).then ?_
    simp only [push_cast, seval, ↓reduceIte, Za, c8, c9, hN0, hN]
    repeat (with_reducible refine And.intro (by first | (intro h0; simp only [h0, and_self]; done) | (intro h0; simp only [h0, Bool.not_false, Bool.not_true, Bool.true_and, Bool.and_true, true_and, and_true, and_self, imp_self, implies_true, bne_iff_ne, ne_eq, beq_iff_eq]; done) | (intros; simp_all; done) | exact True.intro) ?_)
    have hz3 := Option.some.inj hz3; subst hz3
    refine And.intro rfl (Fit2.of (Zk hU rfl rfl ?_) (by omega))
    simp only [push_cast, seval, ↓reduceIte, Za, c8, c9, hN0, hN]
   replace hz3 := Zu c9 hz3
   try rw [c9] at c8
   refine Zc Zd [some true, some true, some true, some true, some false, some false, some false, some true, some true, some false, some false, some false, some false, some false, some false, some false, some false, some false, some false, some false, some false, some false, some false, some false, some false, some false, some false, some false, some false, some false, some false, some false, some false, some false, some false, some false] ?_
   simp only [push_cast, seval, ↓reduceIte, Za, c8, c9, hN0, hN]
   refine (Jd hy6).then ?_
   simp only [push_cast, seval, ↓reduceIte, Za, c8, c9, hN0, hN]
   have hz3 := Option.some.inj hz3; subst hz3
   refine And.intro rfl (Fit2.of (Zk hU rfl rfl ?_) (by omega))
   simp only [push_cast, seval, ↓reduceIte, Za, c8, c9, hN0, hN]
  replace hz3 := Zu c8 hz3
  refine Zc Zd [some false, some false, some false, some false, some false, some false, some false, some false, some false, some true, some true, some true, some true, none, none, none, none, none, none, none, none, some true, none, none, none, none, none, none, none, none, none, none, none, none, none, none] ?_
  simp only [push_cast, seval, ↓reduceIte, Za, c8, hN0, hN]
  repeat (with_reducible refine And.intro (by first | (intro h0; simp only [h0, and_self]; done) | (intro h0; simp only [h0, Bool.not_false, Bool.not_true, Bool.true_and, Bool.and_true, true_and, and_true, and_self, imp_self, implies_true, bne_iff_ne, ne_eq, beq_iff_eq]; done) | (intros; simp_all; done) | exact True.intro) ?_)
  have hz3 := Option.some.inj hz3; subst hz3
  refine And.intro rfl (Fit2.of (Zk hU rfl rfl ?_) (by omega))
  simp only [push_cast, seval, ↓reduceIte, Za, c8, hN0, hN]
 refine Zw (t := z3) rfl (fun c57 => ?_) (fun c57 => ?_)
 ·replace h := Zv c57 h
  refine Zr [4] (Zc Zd [] ?_)
  simp only [push_cast, seval, ↓reduceIte, Za, hN0, hN]
  refine Z5 ?_
  try simp only [Zj, Zg]
  have h := Option.some.inj h; subst h
  refine Zs (.inr rfl) hU [.val (.bool false)] (by omega) ?_
  simp only [push_cast, seval, ↓reduceIte, Za, Try.results48, hN0, hN]
 replace h := Zu c57 h
 refine Z0 ?_
 try simp only [Zj, Zg]
 refine Zi [1, 2] [true] ?_
 simp only [push_cast, seval, ↓reduceIte]
 refine Zl ?_
 refine Zr [1, 2, 72] (Zc Zd [] ?_)
 simp only [push_cast, seval, ↓reduceIte, Za, hN0, hN]
 refine Zw (t := (a0.Kind == 1)) rfl (fun c56 => ?_) (fun c56 => ?_)
 ·replace h := Zv c56 h
  obtain ⟨z12, hz12, h⟩ := bC h
  refine Xh (E' := ⟨216, [], [(4, .val (.bool z12))]⟩) (O' := (Zy O n [none])) (n0 := (n + 1)) ?_ ?_
  ·obtain ⟨y15, hy15, hz12⟩ := bC hz12
   rcases Bool.eq_false_or_eq_true y15 with c17 | c17
   ·replace hz12 := Zv c17 hz12
    obtain ⟨y16, hy16, hz12⟩ := bC hz12
    refine Zc Zd [some true, some true, some true, none, none, none, none, none, none, none, none] ?_
    simp only [push_cast, seval, ↓reduceIte, Za, c17, hN0, hN]
    repeat (with_reducible refine And.intro (by first | (intro h0; simp only [h0, and_self]; done) | (intro h0; simp only [h0, Bool.not_false, Bool.not_true, Bool.true_and, Bool.and_true, true_and, and_true, and_self, imp_self, implies_true, bne_iff_ne, ne_eq, beq_iff_eq]; done) | (intros; simp_all; done) | exact True.intro) ?_)
    refine (Km hy15).then ?_
    simp only [push_cast, seval, ↓reduceIte, Za, c17, hN0, hN]
    repeat (with_reducible refine And.intro (by first | (intro h0; simp only [h0, and_self]; done) | (intro h0; simp only [h0, Bool.not_false, Bool.not_true, Bool.true_and, Bool.and_true, true_and, and_true, and_self, imp_self, implies_true, bne_iff_ne, ne_eq, beq_iff_eq]; done) | (intros; simp_all; done) | exact True.intro) ?_)
    refine (Km hy16).then ?_
    simp only [push_cast, seval, ↓reduceIte, Za, c17, hN0, hN]
    repeat (with_reducible refine And.intro (by first | (intro h0; simp only [h0, and_self]; done) | (intro h0; simp only [h0, Bool.not_false, Bool.not_true, Bool.true_and, Bool.and_true, true_and, and_true, and_self, imp_self, implies_true, bne_iff_ne, ne_eq, beq_iff_eq]; done) | (intros; simp_all; done) | exact True.intro) ?_)
    have hz12 := Option.some.inj hz12; subst hz12
    refine And.intro rfl (Fit2.of (Zk hU rfl rfl ?_) (by omega))
    simp only [push_cast, seval, ↓reduceIte, Za, c17, hN0, hN]
   replace hz12 := Zu c17 hz12
   refine Zc Zd [some false, some false, some false, some false, some false, some false, some false, some false, some false, some false, some false] ?_
   simp only [push_cast, seval, ↓reduceIte, Za, c17, hN0, hN]
   refine (Km hy15).then ?_
   simp only [push_cast, seval, ↓reduceIte, Za, c17, hN0, hN]
   have hz12 := Option.some.inj hz12; subst hz12
   refine And.intro rfl (Fit2.of (Zk hU rfl rfl ?_) (by omega))
   simp only [push_cast, seval, ↓reduceIte, Za, c17, hN0, hN]
  refine Z5 ?_
  try simp only [Zj, Zg]
  have h := Option.some.inj h; subst h
  refine Zs (.inr rfl) hU [.val (.bool z12)] (by omega) ?_
  simp only [push_cast, seval, ↓reduceIte, Za, Try.results48, hN0, hN]
 replace h := Zu c56 h
 refine Z0 ?_
 try simp only [Zj, Zg]
 refine Zi [1, 2] [true] ?_
 simp only [push_cast, seval, ↓reduceIte]
 refine Zr [1, 2, 5] (Zc Zd [] ?_)
 simp only [push_cast, seval, ↓reduceIte, Za, hN0, hN]
 refine Zl ?_
 refine Zr [1, 2, 5, 6] (Zc Zd [] ?_)
 simp only [push_cast, seval, ↓reduceIte, Za, hN0, hN]
 refine Zi [1, 2, 5, 6] [true] ?_
 simp only [push_cast, seval, ↓reduceIte]
 obtain ⟨z33, hz33, h⟩ := bC h
 refine Zaz (J := (Qt (fun z33 => JR n (⟨216, [], [(4, .val (.bool false))]⟩ : Env) (Zy O n [none]) (n + 1)) (fun z33 => JX 0 n (⟨216, [], [(1, .val (.int .i64 a1)), (2, .ref n 0)]⟩ : Env) (Zy O n [some ⟨false, 54, 11, 1, (Zh a0)⟩]) (n + 1)))) (z := z33) ?_ fun hw => ?_
 ·refine Y7 hz33 (fun s0_ => ⟨216, [], [(1, .val (.int .i64 a1)), (2, .ref n 0), (5, .val (.int .i64 s0_.1)), (6, .val (.int .i64 s0_.2))]⟩) (fun s0_ => (Zy O n [some ⟨false, 54, 11, 1, (Zh a0)⟩])) (Qt (fun z33 => JR n (⟨216, [], [(4, .val (.bool false))]⟩ : Env) (Zy O n [none]) (n + 1)) (fun z33 => JX 0 n (⟨216, [], [(1, .val (.int .i64 a1)), (2, .ref n 0)]⟩ : Env) (Zy O n [some ⟨false, 54, 11, 1, (Zh a0)⟩]) (n + 1))) ?_
  intro s0_ x0_ hs0_
  unfold X7 at hs0_
  try dsimp only
  refine Zl ?_
  refine Zr [1, 2, 5, 6, 97] (Zc Zd [] ?_)
  simp only [push_cast, seval, ↓reduceIte, Za, hN0, hN]
  refine Zw (t := (decide (s0_.2 < (a0.Words.length : Int)))) rfl (fun c32 => ?_) (fun c32 => ?_)
  ·replace hs0_ := Zv c32 hs0_
   refine Z0 ?_
   try simp only [Zj, Zg]
   refine Zi [1, 2, 5, 6] [true] ?_
   simp only [push_cast, seval, ↓reduceIte]
   refine Zl ?_
   refine Yr ?_
   refine Zl ?_
   obtain ⟨x19, hx19, ax19, bx19, cx19, hs0_⟩ := bE (f := Zm) Zqg (fun _ => rfl) (by decide) hs0_
   refine Zc Zd [] ?_
   simp only [push_cast, Nat.reduceAdd, Nat.reduceSub, Nat.reduceMul, Nat.reduceLeDiff, Nat.reduceLT, Nat.reduceEqDiff, ↓reduceIte, reduceCtorEq, Int.reduceBEq, Int.reduceBNe, Nat.reduceBEq, Int.reduceLE, Int.reduceLT, Int.reduceEq, Int.reduceNe, Int.reduceNeg, Nat.reduceDiv, Nat.reduceMod, Nat.reducePow, Za, ax19, bx19, cx19, hN0, hN]
   refine Zi [1, 2, 5, 6, 7] [true, true] ?_
   simp only [push_cast, seval, ↓reduceIte]
   refine Zl ?_
   obtain ⟨z22, hz22, hs0_⟩ := bC hs0_
   refine Xh (E' := ⟨216, [], [(1, .val (.int .i64 a1)), (2, .ref n 0), (6, .val (.int .i64 s0_.2)), (7, .ref (n + 1) 0), (134, .val (.bool z22))]⟩) (O' := (Zy O n [some ⟨false, 54, 11, 1, (Zh a0)⟩, some ⟨false, 91, 4, 1, (Q6 x19)⟩])) (n0 := (n + 2)) ?_ ?_
   ·rcases Bool.eq_false_or_eq_true (decide (x19.At ≤ s0_.1)) with c27 | c27
    ·replace hz22 := Zv c27 hz22
     refine Zc Zd [none, none, none, none, none, none, some false, some false, some false, some false, some false, some false, some false, some false, some false, some false, some false, some false] ?_
     simp only [push_cast, seval, ↓reduceIte, Za, c27, hN0, hN]
     repeat (with_reducible refine And.intro (by first | (intro h0; simp only [h0, and_self]; done) | (intro h0; simp only [h0, Bool.not_false, Bool.not_true, Bool.true_and, Bool.and_true, true_and, and_true, and_self, imp_self, implies_true, bne_iff_ne, ne_eq, beq_iff_eq]; done) | (intros; simp_all; done) | exact True.intro) ?_)
     have hz22 := Option.some.inj hz22; subst hz22
     refine And.intro rfl (Fit2.of (Zk hU rfl rfl ?_) (by omega))
     simp only [push_cast, seval, ↓reduceIte, Za, c27, hN0, hN]
    replace hz22 := Zu c27 hz22
    rcases Bool.eq_false_or_eq_true (decide (65534 < x19.At)) with c28 | c28
    ·replace hz22 := Zv c28 hz22
     try rw [c28] at c27
     refine Zc Zd [none, none, none, none, none, none, some false, some false, some false, some false, some false, some false, some false, some false, some false, some false, some false, some false] ?_
     simp only [push_cast, seval, ↓reduceIte, Za, c27, c28, hN0, hN]
     repeat (with_reducible refine And.intro (by first | (intro h0; simp only [h0, and_self]; done) | (intro h0; simp only [h0, Bool.not_false, Bool.not_true, Bool.true_and, Bool.and_true, true_and, and_true, and_self, imp_self, implies_true, bne_iff_ne, ne_eq, beq_iff_eq]; done) | (intros; simp_all; done) | exact True.intro) ?_)
     have hz22 := Option.some.inj hz22; subst hz22
     refine And.intro rfl (Fit2.of (Zk hU rfl rfl ?_) (by omega))
     simp only [push_cast, seval, ↓reduceIte, Za, c27, c28, hN0, hN]
    replace hz22 := Zu c28 hz22
    try rw [c28] at c27
    rcases Bool.eq_false_or_eq_true (x19.Mask == 0) with c29 | c29
    ·replace hz22 := Zv c29 hz22
     try rw [c29] at c27
     try rw [c29] at c28
     refine Zc Zd [none, none, none, none, none, none, some false, some false, some false, some false, some false, some false, some false, some false, some false, some false, some false, some false] ?_
     simp only [push_cast, seval, ↓reduceIte, Za, c27, c28, c29, hN0, hN]
     repeat (with_reducible refine And.intro (by first | (intro h0; simp only [h0, and_self]; done) | (intro h0; simp only [h0, Bool.not_false, Bool.not_true, Bool.true_and, Bool.and_true, true_and, and_true, and_self, imp_self, implies_true, bne_iff_ne, ne_eq, beq_iff_eq]; done) | (intros; simp_all; done) | exact True.intro) ?_)
     have hz22 := Option.some.inj hz22; subst hz22
     refine And.intro rfl (Fit2.of (Zk hU rfl rfl ?_) (by omega))
     simp only [push_cast, seval, ↓reduceIte, Za, c27, c28, c29, hN0, hN]
    replace hz22 := Zu c29 hz22
    try rw [c29] at c27
    try rw [c29] at c28
    obtain ⟨y25, hy25, hz22⟩ := bC hz22
    rcases Bool.eq_false_or_eq_true y25 with c30 | c30
    ·replace hz22 := Zv c30 hz22
     try rw [c30] at c27
     try rw [c30] at c28
     try rw [c30] at c29
     obtain ⟨y26, hy26, hz22⟩ := bC hz22
     refine Zc Zd [none, none, none, none, none, none, some true, some true, some true, some true, some true, some true, some true, some true, some true, some true, some true, some true] ?_
     simp only [push_cast, seval, ↓reduceIte, Za, c27, c28, c29, c30, hN0, hN]
     repeat (with_reducible refine And.intro (by first | (intro h0; simp only [h0, and_self]; done) | (intro h0; simp only [h0, Bool.not_false, Bool.not_true, Bool.true_and, Bool.and_true, true_and, and_true, and_self, imp_self, implies_true, bne_iff_ne, ne_eq, beq_iff_eq]; done) | (intros; simp_all; done) | exact True.intro) ?_)
     refine (Gi hy25).then ?_
     simp only [push_cast, seval, ↓reduceIte, Za, c27, c28, c29, c30, hN0, hN]
     repeat (with_reducible refine And.intro (by first | (intro h0; simp only [h0, and_self]; done) | (intro h0; simp only [h0, Bool.not_false, Bool.not_true, Bool.true_and, Bool.and_true, true_and, and_true, and_self, imp_self, implies_true, bne_iff_ne, ne_eq, beq_iff_eq]; done) | (intros; simp_all; done) | exact True.intro) ?_)
     refine (Gi hy26).then ?_
     simp only [push_cast, seval, ↓reduceIte, Za, c27, c28, c29, c30, hN0, hN]
     repeat (with_reducible refine And.intro (by first | (intro h0; simp only [h0, and_self]; done) | (intro h0; simp only [h0, Bool.not_false, Bool.not_true, Bool.true_and, Bool.and_true, true_and, and_true, and_self, imp_self, implies_true, bne_iff_ne, ne_eq, beq_iff_eq]; done) | (intros; simp_all; done) | exact True.intro) ?_)
     have hz22 := Option.some.inj hz22; subst hz22
     refine And.intro rfl (Fit2.of (Zk hU rfl rfl ?_) (by omega))
     simp only [push_cast, seval, ↓reduceIte, Za, c27, c28, c29, c30, hN0, hN]
    replace hz22 := Zu c30 hz22
    try rw [c30] at c27
    try rw [c30] at c28
    try rw [c30] at c29
    refine Zc Zd [none, none, none, none, none, none, some true, some true, some true, some true, some true, some true, some false, some false, some false, some false, some false, some false] ?_
    simp only [push_cast, seval, ↓reduceIte, Za, c27, c28, c29, c30, hN0, hN]
    repeat (with_reducible refine And.intro (by first | (intro h0; simp only [h0, and_self]; done) | (intro h0; simp only [h0, Bool.not_false, Bool.not_true, Bool.true_and, Bool.and_true, true_and, and_true, and_self, imp_self, implies_true, bne_iff_ne, ne_eq, beq_iff_eq]; done) | (intros; simp_all; done) | exact True.intro) ?_)
    refine (Gi hy25).then ?_
    simp only [push_cast, seval, ↓reduceIte, Za, c27, c28, c29, c30, hN0, hN]
    repeat (with_reducible refine And.intro (by first | (intro h0; simp only [h0, and_self]; done) | (intro h0; simp only [h0, Bool.not_false, Bool.not_true, Bool.true_and, Bool.and_true, true_and, and_true, and_self, imp_self, implies_true, bne_iff_ne, ne_eq, beq_iff_eq]; done) | (intros; simp_all; done) | exact True.intro) ?_)
    have hz22 := Option.some.inj hz22; subst hz22
    refine And.intro rfl (Fit2.of (Zk hU rfl rfl ?_) (by omega))
    simp only [push_cast, seval, ↓reduceIte, Za, c27, c28, c29, c30, hN0, hN]
   refine Zw (t := z22) rfl (fun c31 => ?_) (fun c31 => ?_)
   ·replace hs0_ := Zv c31 hs0_
    refine Zr [4] (Zc Zd [] ?_)
    simp only [push_cast, seval, ↓reduceIte, Za, hN0, hN]
    refine Z5 ?_
    try simp only [Zj, Zg]
    have hs0_ := Option.some.inj hs0_; subst hs0_
    refine And.intro (fun h => by cases h) (And.intro rfl (Fit2.of (Zk hU rfl rfl ?_) (by omega)))
    simp only [push_cast, seval, ↓reduceIte, Za, hN0, hN]
   replace hs0_ := Zu c31 hs0_
   refine Z0 ?_
   try simp only [Zj, Zg]
   refine Zi [1, 2, 6, 7] [true, true] ?_
   simp only [push_cast, seval, ↓reduceIte]
   refine Zc Zd [] ?_
   simp only [push_cast, seval, ↓reduceIte, Za, hN0, hN]
   refine Zi [1, 2, 5, 6] [true, false] ?_
   simp only [push_cast, seval, ↓reduceIte]
   refine Zc Zd [] ?_
   simp only [push_cast, seval, ↓reduceIte, Za, hN0, hN]
   have hs0_ := Option.some.inj hs0_; subst hs0_
   refine And.intro rfl (Fit2.of (Zk hU rfl rfl ?_) (by omega))
   simp only [push_cast, seval, ↓reduceIte, Za, hN0, hN]
  replace hs0_ := Zu c32 hs0_
  refine Qb ?_
  try simp only [Zj, Zg, ↓reduceIte, Nat.reduceEqDiff]
  have hs0_ := Option.some.inj hs0_; subst hs0_
  refine And.intro (fun h => by cases h) (And.intro rfl (Fit2.of (Zk hU rfl rfl ?_) (by omega)))
  simp only [push_cast, seval, ↓reduceIte, Za, hN0, hN]
 rcases z33 with z33 | z33
 ·dsimp only [Qt] at hw h
  refine Vj hw ?_
  try simp only [Zj, Zg, ↓reduceIte, Nat.reduceEqDiff]
  have h := Option.some.inj h; subst h
  refine Zs (.inr rfl) hU [.val (.bool false)] (by omega) ?_
  simp only [push_cast, seval, ↓reduceIte, Za, Try.results48, hN0, hN]
 dsimp only [Qt] at hw h
 refine Yq hw ?_
 try simp only [Zj, Zg, ↓reduceIte, Nat.reduceEqDiff]
 refine Zi [1, 2] [true] ?_
 simp only [push_cast, seval, ↓reduceIte]
 refine Zr [1, 2, 5] (Zc Zd [] ?_)
 simp only [push_cast, seval, ↓reduceIte, Za, hN0, hN]
 refine Zl ?_
 refine Zr [1, 2, 5, 8] (Zc Zd [] ?_)
 simp only [push_cast, seval, ↓reduceIte, Za, hN0, hN]
 refine Zi [1, 2, 5, 8] [true] ?_
 simp only [push_cast, seval, ↓reduceIte]
 obtain ⟨z45, hz45, h⟩ := bC h
 refine Zaz (J := (Qt (fun z45 => JR n (⟨216, [], [(4, .val (.bool false))]⟩ : Env) (Zy O n [none]) (n + 1)) (fun z45 => JX 2 n (⟨216, [], [(1, .val (.int .i64 a1)), (2, .ref n 0)]⟩ : Env) (Zy O n [some ⟨false, 54, 11, 1, (Zh a0)⟩]) (n + 1)))) (z := z45) ?_ fun hw => ?_
 ·refine Y7 hz45 (fun s1_ => ⟨216, [], [(1, .val (.int .i64 a1)), (2, .ref n 0), (5, .val (.int .i64 s1_.1)), (8, .val (.int .i64 s1_.2))]⟩) (fun s1_ => (Zy O n [some ⟨false, 54, 11, 1, (Zh a0)⟩])) (Qt (fun z45 => JR n (⟨216, [], [(4, .val (.bool false))]⟩ : Env) (Zy O n [none]) (n + 1)) (fun z45 => JX 2 n (⟨216, [], [(1, .val (.int .i64 a1)), (2, .ref n 0)]⟩ : Env) (Zy O n [some ⟨false, 54, 11, 1, (Zh a0)⟩]) (n + 1))) ?_
  intro s1_ x1_ hs1_
  unfold X8 at hs1_
  try dsimp only
  refine Zl ?_
  refine Zr [1, 2, 5, 8, 141] (Zc Zd [] ?_)
  simp only [push_cast, seval, ↓reduceIte, Za, hN0, hN]
  refine Zw (t := (decide (s1_.2 < (a0.Kids.length : Int)))) rfl (fun c44 => ?_) (fun c44 => ?_)
  ·replace hs1_ := Zv c44 hs1_
   refine Z0 ?_
   try simp only [Zj, Zg]
   refine Zi [1, 2, 5, 8] [true] ?_
   simp only [push_cast, seval, ↓reduceIte]
   refine Zl ?_
   refine Yr ?_
   refine Zl ?_
   obtain ⟨x35, hx35, ax35, bx35, cx35, hs1_⟩ := bE (f := Zp) Zlo (fun _ => rfl) (by decide) hs1_
   refine Zc Zd [] ?_
   simp only [push_cast, Nat.reduceAdd, Nat.reduceSub, Nat.reduceMul, Nat.reduceLeDiff, Nat.reduceLT, Nat.reduceEqDiff, ↓reduceIte, reduceCtorEq, Int.reduceBEq, Int.reduceBNe, Nat.reduceBEq, Int.reduceLE, Int.reduceLT, Int.reduceEq, Int.reduceNe, Int.reduceNeg, Nat.reduceDiv, Nat.reduceMod, Nat.reducePow, Za, ax35, bx35, cx35, hN0, hN]
   refine Zi [1, 2, 5, 8, 9] [true, true] ?_
   simp only [push_cast, seval, ↓reduceIte]
   refine Zl ?_
   obtain ⟨z37, hz37, hs1_⟩ := bC hs1_
   refine Xh (E' := ⟨216, [], [(1, .val (.int .i64 a1)), (2, .ref n 0), (8, .val (.int .i64 s1_.2)), (9, .ref (n + 1) 0), (171, .val (.bool z37))]⟩) (O' := (Zy O n [some ⟨false, 54, 11, 1, (Zh a0)⟩, some ⟨false, 62, 12, 1, (Vd x35)⟩])) (n0 := (n + 2)) ?_ ?_
   ·rcases Bool.eq_false_or_eq_true (decide (x35.At ≤ s1_.1)) with c40 | c40
    ·replace hz37 := Zv c40 hz37
     refine Zc Zd [none, none, none, none, none, none, none, some false, some false, some false, some false, some false, some false] ?_
     simp only [push_cast, seval, ↓reduceIte, Za, c40, hN0, hN]
     repeat (with_reducible refine And.intro (by first | (intro h0; simp only [h0, and_self]; done) | (intro h0; simp only [h0, Bool.not_false, Bool.not_true, Bool.true_and, Bool.and_true, true_and, and_true, and_self, imp_self, implies_true, bne_iff_ne, ne_eq, beq_iff_eq]; done) | (intros; simp_all; done) | exact True.intro) ?_)
     have hz37 := Option.some.inj hz37; subst hz37
     refine And.intro rfl (Fit2.of (Zk hU rfl rfl ?_) (by omega))
     simp only [push_cast, seval, ↓reduceIte, Za, c40, hN0, hN]
    replace hz37 := Zu c40 hz37
    rcases Bool.eq_false_or_eq_true (decide (65534 < x35.At)) with c41 | c41
    ·replace hz37 := Zv c41 hz37
     try rw [c41] at c40
     refine Zc Zd [none, none, none, none, none, none, none, some false, some false, some false, some false, some false, some false] ?_
     simp only [push_cast, seval, ↓reduceIte, Za, c40, c41, hN0, hN]
     repeat (with_reducible refine And.intro (by first | (intro h0; simp only [h0, and_self]; done) | (intro h0; simp only [h0, Bool.not_false, Bool.not_true, Bool.true_and, Bool.and_true, true_and, and_true, and_self, imp_self, implies_true, bne_iff_ne, ne_eq, beq_iff_eq]; done) | (intros; simp_all; done) | exact True.intro) ?_)
     have hz37 := Option.some.inj hz37; subst hz37
     refine And.intro rfl (Fit2.of (Zk hU rfl rfl ?_) (by omega))
     simp only [push_cast, seval, ↓reduceIte, Za, c40, c41, hN0, hN]
    replace hz37 := Zu c41 hz37
    try rw [c41] at c40
    rcases Bool.eq_false_or_eq_true (x35.E.Kind == 0) with c42 | c42
    ·replace hz37 := Zv c42 hz37
     try rw [c42] at c40
     try rw [c42] at c41
     refine Zc Zd [none, none, none, none, none, none, none, some false, some false, some false, some false, some false, some false] ?_
     simp only [push_cast, seval, ↓reduceIte, Za, c40, c41, c42, hN0, hN]
     repeat (with_reducible refine And.intro (by first | (intro h0; simp only [h0, and_self]; done) | (intro h0; simp only [h0, Bool.not_false, Bool.not_true, Bool.true_and, Bool.and_true, true_and, and_true, and_self, imp_self, implies_true, bne_iff_ne, ne_eq, beq_iff_eq]; done) | (intros; simp_all; done) | exact True.intro) ?_)
     have hz37 := Option.some.inj hz37; subst hz37
     refine And.intro rfl (Fit2.of (Zk hU rfl rfl ?_) (by omega))
     simp only [push_cast, seval, ↓reduceIte, Za, c40, c41, c42, hN0, hN]
    replace hz37 := Zu c42 hz37
    try rw [c42] at c40
    try rw [c42] at c41
    obtain ⟨y39, hy39, hz37⟩ := bC hz37
    refine Zc Zd [none, none, none, none, none, none, none, some true, some true, some true, some true, some true, some true] ?_
    simp only [push_cast, seval, ↓reduceIte, Za, c40, c41, c42, hN0, hN]
    repeat (with_reducible refine And.intro (by first | (intro h0; simp only [h0, and_self]; done) | (intro h0; simp only [h0, Bool.not_false, Bool.not_true, Bool.true_and, Bool.and_true, true_and, and_true, and_self, imp_self, implies_true, bne_iff_ne, ne_eq, beq_iff_eq]; done) | (intros; simp_all; done) | exact True.intro) ?_)
    refine (U5 hy39).then ?_
    simp only [push_cast, seval, ↓reduceIte, Za, c40, c41, c42, hN0, hN]
    repeat (with_reducible refine And.intro (by first | (intro h0; simp only [h0, and_self]; done) | (intro h0; simp only [h0, Bool.not_false, Bool.not_true, Bool.true_and, Bool.and_true, true_and, and_true, and_self, imp_self, implies_true, bne_iff_ne, ne_eq, beq_iff_eq]; done) | (intros; simp_all; done) | exact True.intro) ?_)
    have hz37 := Option.some.inj hz37; subst hz37
    refine And.intro rfl (Fit2.of (Zk hU rfl rfl ?_) (by omega))
    simp only [push_cast, seval, ↓reduceIte, Za, c40, c41, c42, hN0, hN]
   refine Zw (t := z37) rfl (fun c43 => ?_) (fun c43 => ?_)
   ·replace hs1_ := Zv c43 hs1_
    refine Zr [4] (Zc Zd [] ?_)
    simp only [push_cast, seval, ↓reduceIte, Za, hN0, hN]
    refine Z5 ?_
    try simp only [Zj, Zg]
    have hs1_ := Option.some.inj hs1_; subst hs1_
    refine And.intro (fun h => by cases h) (And.intro rfl (Fit2.of (Zk hU rfl rfl ?_) (by omega)))
    simp only [push_cast, seval, ↓reduceIte, Za, hN0, hN]
   replace hs1_ := Zu c43 hs1_
   refine Z0 ?_
   try simp only [Zj, Zg]
   refine Zi [1, 2, 8, 9] [true, true] ?_
   simp only [push_cast, seval, ↓reduceIte]
   refine Zc Zd [] ?_
   simp only [push_cast, seval, ↓reduceIte, Za, hN0, hN]
   refine Zi [1, 2, 5, 8] [true, false] ?_
   simp only [push_cast, seval, ↓reduceIte]
   refine Zc Zd [] ?_
   simp only [push_cast, seval, ↓reduceIte, Za, hN0, hN]
   have hs1_ := Option.some.inj hs1_; subst hs1_
   refine And.intro rfl (Fit2.of (Zk hU rfl rfl ?_) (by omega))
   simp only [push_cast, seval, ↓reduceIte, Za, hN0, hN]
  replace hs1_ := Zu c44 hs1_
  refine Qb ?_
  try simp only [Zj, Zg, ↓reduceIte, Nat.reduceEqDiff]
  have hs1_ := Option.some.inj hs1_; subst hs1_
  refine And.intro (fun h => by cases h) (And.intro rfl (Fit2.of (Zk hU rfl rfl ?_) (by omega)))
  simp only [push_cast, seval, ↓reduceIte, Za, hN0, hN]
 rcases z45 with z45 | z45
 ·dsimp only [Qt] at hw h
  refine Vj hw ?_
  try simp only [Zj, Zg, ↓reduceIte, Nat.reduceEqDiff]
  have h := Option.some.inj h; subst h
  refine Zs (.inr rfl) hU [.val (.bool false)] (by omega) ?_
  simp only [push_cast, seval, ↓reduceIte, Za, Try.results48, hN0, hN]
 dsimp only [Qt] at hw h
 refine Yq hw ?_
 try simp only [Zj, Zg, ↓reduceIte, Nat.reduceEqDiff]
 refine Zi [1, 2] [true] ?_
 simp only [push_cast, seval, ↓reduceIte]
 refine Zl ?_
 refine Zr [1, 2, 186] (Zc Zd [none, none, none, none, none, none, none, none] ?_)
 simp only [push_cast, seval, ↓reduceIte, Za, hN0, hN]
 repeat (with_reducible refine And.intro (by first | (intro h0; simp only [h0, and_self]; done) | (intro h0; simp only [h0, Bool.not_false, Bool.not_true, Bool.true_and, Bool.and_true, true_and, and_true, and_self, imp_self, implies_true, bne_iff_ne, ne_eq, beq_iff_eq]; done) | (intros; simp_all; done) | exact True.intro) ?_)
 refine Zw (t := (cond (a0.Kind == 3) (cond (decide (a0.List_ < 2)) true (decide (9 < a0.List_))) false)) rfl (fun c55 => ?_) (fun c55 => ?_)
 ·replace h := Zv c55 h
  refine Zr [4] (Zc Zd [] ?_)
  simp only [push_cast, seval, ↓reduceIte, Za, hN0, hN]
  refine Z5 ?_
  try simp only [Zj, Zg]
  have h := Option.some.inj h; subst h
  refine Zs (.inr rfl) hU [.val (.bool false)] (by omega) ?_
  simp only [push_cast, seval, ↓reduceIte, Za, Try.results48, hN0, hN]
 replace h := Zu c55 h
 refine Z0 ?_
 try simp only [Zj, Zg]
 refine Zi [1, 2] [true] ?_
 simp only [push_cast, seval, ↓reduceIte]
 refine Zl ?_
 refine Zr [1, 2, 10] (Zc Zd [] ?_)
 simp only [push_cast, seval, ↓reduceIte, Za, hN0, hN]
 refine Zi [1, 2, 10] [true] ?_
 simp only [push_cast, seval, ↓reduceIte]
 obtain ⟨z52, hz52, h⟩ := bC h
 refine Zaz (J := (Qt (fun z52 => JR n (⟨216, [], [(4, .val (.bool false))]⟩ : Env) (Zy O n [none]) (n + 1)) (fun z52 => JX 4 n (⟨216, [], [(2, .ref n 0)]⟩ : Env) (Zy O n [some ⟨false, 54, 11, 1, (Zh a0)⟩]) (n + 1)))) (z := z52) ?_ fun hw => ?_
 ·refine Y7 hz52 (fun s2_ => ⟨216, [], [(1, .val (.int .i64 a1)), (2, .ref n 0), (10, .val (.int .i64 s2_))]⟩) (fun s2_ => (Zy O n [some ⟨false, 54, 11, 1, (Zh a0)⟩])) (Qt (fun z52 => JR n (⟨216, [], [(4, .val (.bool false))]⟩ : Env) (Zy O n [none]) (n + 1)) (fun z52 => JX 4 n (⟨216, [], [(2, .ref n 0)]⟩ : Env) (Zy O n [some ⟨false, 54, 11, 1, (Zh a0)⟩]) (n + 1))) ?_
  intro s2_ x2_ hs2_
  unfold Xi at hs2_
  try dsimp only
  refine Zl ?_
  refine Zr [1, 2, 10, 191] (Zc Zd [] ?_)
  simp only [push_cast, seval, ↓reduceIte, Za, hN0, hN]
  refine Zw (t := (decide (s2_ < (a0.Ops.length : Int)))) rfl (fun c51 => ?_) (fun c51 => ?_)
  ·replace hs2_ := Zv c51 hs2_
   refine Z0 ?_
   try simp only [Zj, Zg]
   refine Zi [1, 2, 10] [true] ?_
   simp only [push_cast, seval, ↓reduceIte]
   refine Zl ?_
   refine Yr ?_
   refine Zl ?_
   obtain ⟨x48, hx48, ax48, bx48, cx48, hs2_⟩ := bE (f := Zt) Zg6 (fun _ => rfl) (by decide) hs2_
   obtain ⟨y49, hy49, hs2_⟩ := bC hs2_
   refine Jg Zd (by kernel_rfl) [] (by kernel_rfl) ?_
   simp only [push_cast, Nat.reduceAdd, Nat.reduceSub, Nat.reduceMul, Nat.reduceLeDiff, Nat.reduceLT, Nat.reduceEqDiff, ↓reduceIte, reduceCtorEq, Int.reduceBEq, Int.reduceBNe, Nat.reduceBEq, Int.reduceLE, Int.reduceLT, Int.reduceEq, Int.reduceNe, Int.reduceNeg, Nat.reduceDiv, Nat.reduceMod, Nat.reducePow, Za, ax48, bx48, cx48, hN0, hN]
   refine PCall.of (Zdn hy49) ?_
   simp only [push_cast, Nat.reduceAdd, Nat.reduceSub, Nat.reduceMul, Nat.reduceLeDiff, Nat.reduceLT, Nat.reduceEqDiff, ↓reduceIte, reduceCtorEq, Int.reduceBEq, Int.reduceBNe, Nat.reduceBEq, Int.reduceLE, Int.reduceLT, Int.reduceEq, Int.reduceNe, Int.reduceNeg, Nat.reduceDiv, Nat.reduceMod, Nat.reducePow, Za, ax48, bx48, cx48, hN0, hN]
   refine Zi [1, 2, 10, 204] [true] ?_
   simp only [push_cast, seval, ↓reduceIte]
   refine Zw (t := (!y49)) rfl (fun c50 => ?_) (fun c50 => ?_)
   ·replace hs2_ := Zv c50 hs2_
    refine Zr [4] (Zc Zd [] ?_)
    simp only [push_cast, seval, ↓reduceIte, Za, hN0, hN]
    refine Z5 ?_
    try simp only [Zj, Zg]
    have hs2_ := Option.some.inj hs2_; subst hs2_
    refine And.intro (fun h => by cases h) (And.intro rfl (Fit2.of (Zk hU rfl rfl ?_) (by omega)))
    simp only [push_cast, seval, ↓reduceIte, Za, hN0, hN]
   replace hs2_ := Zu c50 hs2_
   refine Z0 ?_
   try simp only [Zj, Zg]
   refine Zi [1, 2, 10] [true] ?_
   simp only [push_cast, seval, ↓reduceIte]
   refine Zc Zd [] ?_
   simp only [push_cast, seval, ↓reduceIte, Za, hN0, hN]
   have hs2_ := Option.some.inj hs2_; subst hs2_
   refine And.intro rfl (Fit2.of (Zk hU rfl rfl ?_) (by omega))
   simp only [push_cast, seval, ↓reduceIte, Za, hN0, hN]
  replace hs2_ := Zu c51 hs2_
  refine Qb ?_
  try simp only [Zj, Zg, ↓reduceIte, Nat.reduceEqDiff]
  have hs2_ := Option.some.inj hs2_; subst hs2_
  refine And.intro (fun h => by cases h) (And.intro rfl (Fit2.of (Zk hU rfl rfl ?_) (by omega)))
  simp only [push_cast, seval, ↓reduceIte, Za, hN0, hN]
 rcases z52 with z52 | z52
 ·dsimp only [Qt] at hw h
  refine Vj hw ?_
  try simp only [Zj, Zg, ↓reduceIte, Nat.reduceEqDiff]
  have h := Option.some.inj h; subst h
  refine Zs (.inr rfl) hU [.val (.bool false)] (by omega) ?_
  simp only [push_cast, seval, ↓reduceIte, Za, Try.results48, hN0, hN]
 dsimp only [Qt] at hw h
 refine Yq hw ?_
 try simp only [Zj, Zg, ↓reduceIte, Nat.reduceEqDiff]
 refine Zi [2] [true] ?_
 simp only [push_cast, seval, ↓reduceIte]
 refine Zl ?_
 obtain ⟨y54, hy54, h⟩ := bC h
 refine Zc Zd [] ?_
 simp only [push_cast, seval, ↓reduceIte, Za, hN0, hN]
 refine (Zbk hy54).then ?_
 simp only [push_cast, seval, ↓reduceIte, Za, hN0, hN]
 refine Zi [11, 12] [false] ?_
 simp only [push_cast, seval, ↓reduceIte]
 refine Zr [4] (Zc Zd [none, none] ?_)
 simp only [push_cast, seval, ↓reduceIte, Za, hN0, hN]
 repeat (with_reducible refine And.intro (by first | (intro h0; simp only [h0, and_self]; done) | (intro h0; simp only [h0, Bool.not_false, Bool.not_true, Bool.true_and, Bool.and_true, true_and, and_true, and_self, imp_self, implies_true, bne_iff_ne, ne_eq, beq_iff_eq]; done) | (intros; simp_all; done) | exact True.intro) ?_)
 refine Z5 ?_
 try simp only [Zj, Zg]
 have h := Option.some.inj h; subst h
 refine Zs (.inr rfl) hU [.val (.bool (cond (decide (y54.1 < 1048576)) (decide (y54.2 < 1048576)) false))] (by omega) ?_
 simp only [push_cast, seval, ↓reduceIte, Za, Try.results48, hN0, hN]
theorem Zk1 {Yu : (S_api_Edit → Int → Option Bool)} {Xv : (Int → S_api_Op → Int → Option Bool)} (U5 : ∀ {a0 : S_api_Edit} {a1 : Int} {r : Bool} {O : Objs} {n : Nat}, Yu a0 a1 = some r → GTo Try.prog 48 [.agg (Zh a0), .val (.int .i64 a1)] O n (.val (.bool r)) O n) (Zdn : ∀ {a0 : Int} {a1 : S_api_Op} {a2 : Int} {r : Bool} {O : Objs} {n : Nat}, Xv a0 a1 a2 = some r → GTo Try.prog 78 [.val (.int .i64 a0), .agg (Ym a1), .val (.int .i64 a2)] O n (.val (.bool r)) O n) {a0 : Int} {a1 : S_api_Op} {a2 : Int} {r : Bool} {O : Objs} {n : Nat} (h : Ut Yu Xv a0 a1 a2 = some r) : GTo Try.prog 78 [.val (.int .i64 a0), .agg (Ym a1), .val (.int .i64 a2)] O n (.val (.bool r)) O n := by
 unfold Ut at h
 refine Xn Zd Try.call78 Try.func78 rfl (Nat.le_of_ble_eq_true rfl) (Nat.le_refl _) fun hU => ?_
 have hN0 : O n = none := hU.fresh _ (Nat.le_refl _)
 have hN : ∀ k, O (n + k) = none := fun k => hU.fresh _ (Nat.le_add_right _ _)
 show W _ _ _ _ ⟨121, [], [(0, .val (.int .i64 a0)), (1, .agg (Ym a1)), (2, .val (.int .i64 a2))]⟩ (Zy O n []) _
 refine Zr [0, 2, 4] (Zc Zd [] ?_)
 simp only [push_cast, seval, ↓reduceIte, Za, hN0, hN]
 refine Zl ?_
 refine Zr [0, 2, 4, 10] (Zc Zd [] ?_)
 simp only [push_cast, seval, ↓reduceIte, Za, hN0, hN]
 refine Zw (t := (a1.Kind == 0)) rfl (fun c30 => ?_) (fun c30 => ?_)
 ·replace h := Zv c30 h
  obtain ⟨z2, hz2, h⟩ := bC h
  refine Xh (E' := ⟨121, [], [(6, .val (.bool z2))]⟩) (O' := (Zy O n [none])) (n0 := (n + 1)) ?_ ?_
  ·rcases Bool.eq_false_or_eq_true (decide (1 ≤ a1.N)) with c5 | c5
   ·replace hz2 := Zv c5 hz2
    rcases Bool.eq_false_or_eq_true (decide (a1.N ≤ 1048576)) with c6 | c6
    ·replace hz2 := Zv c6 hz2
     try rw [c6] at c5
     rcases Bool.eq_false_or_eq_true ((a1.L.length : Int) == 0) with c7 | c7
     ·replace hz2 := Zv c7 hz2
      try rw [c7] at c5
      try rw [c7] at c6
      obtain ⟨y4, hy4, hz2⟩ := bC hz2
      refine Zc Zd [none, none, none, none, none, none, none, some true, some true, some true] ?_
      simp only [push_cast, seval, ↓reduceIte, Za, c5, c6, c7, hN0, hN]
      repeat (with_reducible refine And.intro (by first | (intro h0; simp only [h0, and_self]; done) | (intro h0; simp only [h0, Bool.not_false, Bool.not_true, Bool.true_and, Bool.and_true, true_and, and_true, and_self, imp_self, implies_true, bne_iff_ne, ne_eq, beq_iff_eq]; done) | (intros; simp_all; done) | exact True.intro) ?_)
      refine (Zdm hy4).then ?_
      simp only [push_cast, seval, ↓reduceIte, Za, c5, c6, c7, hN0, hN]
      repeat (with_reducible refine And.intro (by first | (intro h0; simp only [h0, and_self]; done) | (intro h0; simp only [h0, Bool.not_false, Bool.not_true, Bool.true_and, Bool.and_true, true_and, and_true, and_self, imp_self, implies_true, bne_iff_ne, ne_eq, beq_iff_eq]; done) | (intros; simp_all; done) | exact True.intro) ?_)
      have hz2 := Option.some.inj hz2; subst hz2
      refine And.intro rfl (Fit2.of (Zk hU rfl rfl ?_) (by omega))
      simp only [push_cast, seval, ↓reduceIte, Za, c5, c6, c7, hN0, hN]
     replace hz2 := Zu c7 hz2
     try rw [c7] at c5
     try rw [c7] at c6
     refine Zc Zd [none, none, none, none, none, none, none, some false, some false, some false] ?_
     simp only [push_cast, seval, ↓reduceIte, Za, c5, c6, c7, hN0, hN]
     repeat (with_reducible refine And.intro (by first | (intro h0; simp only [h0, and_self]; done) | (intro h0; simp only [h0, Bool.not_false, Bool.not_true, Bool.true_and, Bool.and_true, true_and, and_true, and_self, imp_self, implies_true, bne_iff_ne, ne_eq, beq_iff_eq]; done) | (intros; simp_all; done) | exact True.intro) ?_)
     have hz2 := Option.some.inj hz2; subst hz2
     refine And.intro rfl (Fit2.of (Zk hU rfl rfl ?_) (by omega))
     simp only [push_cast, seval, ↓reduceIte, Za, c5, c6, c7, hN0, hN]
    replace hz2 := Zu c6 hz2
    try rw [c6] at c5
    refine Zc Zd [none, none, none, none, none, none, none, some false, some false, some false] ?_
    simp only [push_cast, seval, ↓reduceIte, Za, c5, c6, hN0, hN]
    repeat (with_reducible refine And.intro (by first | (intro h0; simp only [h0, and_self]; done) | (intro h0; simp only [h0, Bool.not_false, Bool.not_true, Bool.true_and, Bool.and_true, true_and, and_true, and_self, imp_self, implies_true, bne_iff_ne, ne_eq, beq_iff_eq]; done) | (intros; simp_all; done) | exact True.intro) ?_)
    have hz2 := Option.some.inj hz2; subst hz2
    refine And.intro rfl (Fit2.of (Zk hU rfl rfl ?_) (by omega))
    simp only [push_cast, seval, ↓reduceIte, Za, c5, c6, hN0, hN]
   replace hz2 := Zu c5 hz2
   refine Zc Zd [none, none, none, none, none, none, none, some false, some false, some false] ?_
   simp only [push_cast, seval, ↓reduceIte, Za, c5, hN0, hN]
   repeat (with_reducible refine And.intro (by first | (intro h0; simp only [h0, and_self]; done) | (intro h0; simp only [h0, Bool.not_false, Bool.not_true, Bool.true_and, Bool.and_true, true_and, and_true, and_self, imp_self, implies_true, bne_iff_ne, ne_eq, beq_iff_eq]; done) | (intros; simp_all; done) | exact True.intro) ?_)
   have hz2 := Option.some.inj hz2; subst hz2
   refine And.intro rfl (Fit2.of (Zk hU rfl rfl ?_) (by omega))
   simp only [push_cast, seval, ↓reduceIte, Za, c5, hN0, hN]
  refine Z5 ?_
  try simp only [Zj, Zg]
  have h := Option.some.inj h; subst h
  refine Zs (.inr rfl) hU [.val (.bool z2)] (by omega) ?_
  simp only [push_cast, seval, ↓reduceIte, Za, Try.results78, hN0, hN]
 replace h := Zu c30 h
 refine Z0 ?_
 try simp only [Zj, Zg]
 refine Zi [0, 2, 4] [true] ?_
 simp only [push_cast, seval, ↓reduceIte]
 refine Zl ?_
 refine Zr [0, 2, 4, 42] (Zc Zd [none, none, none, none, none, none] ?_)
 simp only [push_cast, seval, ↓reduceIte, Za, hN0, hN]
 repeat (with_reducible refine And.intro (by first | (intro h0; simp only [h0, and_self]; done) | (intro h0; simp only [h0, Bool.not_false, Bool.not_true, Bool.true_and, Bool.and_true, true_and, and_true, and_self, imp_self, implies_true, bne_iff_ne, ne_eq, beq_iff_eq]; done) | (intros; simp_all; done) | exact True.intro) ?_)
 refine Zw (t := (cond (cond (a1.N != 0) true (decide (a1.Kind < 0))) true (decide (3 < a1.Kind)))) rfl (fun c29 => ?_) (fun c29 => ?_)
 ·replace h := Zv c29 h
  refine Zr [6] (Zc Zd [] ?_)
  simp only [push_cast, seval, ↓reduceIte, Za, hN0, hN]
  refine Z5 ?_
  try simp only [Zj, Zg]
  have h := Option.some.inj h; subst h
  refine Zs (.inr rfl) hU [.val (.bool false)] (by omega) ?_
  simp only [push_cast, seval, ↓reduceIte, Za, Try.results78, hN0, hN]
 replace h := Zu c29 h
 refine Z0 ?_
 try simp only [Zj, Zg]
 refine Zi [0, 2, 4] [true] ?_
 simp only [push_cast, seval, ↓reduceIte]
 refine Zl ?_
 refine Zr [0, 2, 4, 45] (Zc Zd [] ?_)
 simp only [push_cast, seval, ↓reduceIte, Za, hN0, hN]
 refine Zw (t := (decide (a1.Kind < 3))) rfl (fun c28 => ?_) (fun c28 => ?_)
 ·replace h := Zv c28 h
  refine Zl ?_
  refine Zr [0, 4, 7] (Zc Zd [] ?_)
  simp only [push_cast, seval, ↓reduceIte, Za, hN0, hN]
  refine Zi [0, 4, 7] [true] ?_
  simp only [push_cast, seval, ↓reduceIte]
  obtain ⟨z14, hz14, h⟩ := bC h
  refine Zaz (J := (Qt (fun z14 => JR n (⟨121, [], [(6, .val (.bool false))]⟩ : Env) (Zy O n [none]) (n + 1)) (fun z14 => JX 0 n (⟨121, [], [(4, .ref n 0)]⟩ : Env) (Zy O n [some ⟨false, 64, 14, 1, (Ym a1)⟩]) (n + 1)))) (z := z14) ?_ fun hw => ?_
  ·refine Y7 hz14 (fun s0_ => ⟨121, [], [(0, .val (.int .i64 a0)), (4, .ref n 0), (7, .val (.int .i64 s0_))]⟩) (fun s0_ => (Zy O n [some ⟨false, 64, 14, 1, (Ym a1)⟩])) (Qt (fun z14 => JR n (⟨121, [], [(6, .val (.bool false))]⟩ : Env) (Zy O n [none]) (n + 1)) (fun z14 => JX 0 n (⟨121, [], [(4, .ref n 0)]⟩ : Env) (Zy O n [some ⟨false, 64, 14, 1, (Ym a1)⟩]) (n + 1))) ?_
   intro s0_ x0_ hs0_
   unfold K2 at hs0_
   try dsimp only
   refine Zl ?_
   refine Zr [0, 4, 7, 50] (Zc Zd [] ?_)
   simp only [push_cast, seval, ↓reduceIte, Za, hN0, hN]
   refine Zw (t := (decide (s0_ < (a1.L.length : Int)))) rfl (fun c13 => ?_) (fun c13 => ?_)
   ·replace hs0_ := Zv c13 hs0_
    refine Z0 ?_
    try simp only [Zj, Zg]
    refine Zi [0, 4, 7] [true] ?_
    simp only [push_cast, seval, ↓reduceIte]
    refine Zl ?_
    refine Yr ?_
    refine Zl ?_
    obtain ⟨l10, al10, bl10, cl10, gl10, hs0_⟩ := bS (lo := (some (.i64, s0_))) (hi := (some (.i64, (IntKind.i64.wrap (s0_ + 1))))) (f := Zb) rfl rfl Gw V1 (fun _ => rfl) hs0_
    obtain ⟨y11, hy11, hs0_⟩ := bC hs0_
    refine Zc Zd [] ?_
    simp only [push_cast, seval, ↓reduceIte, Za, al10, bl10, cl10, gl10, hN0, hN]
    refine GCalls.argsW ?_ ((Km hy11).then ?_)
    ·simp only [push_cast, seval, ↓reduceIte, Za, al10, bl10, cl10, gl10, hN0, hN]
    simp only [push_cast, seval, ↓reduceIte, Za, al10, bl10, cl10, gl10, hN0, hN]
    refine Zi [0, 4, 7, 62] [true] ?_
    simp only [push_cast, seval, ↓reduceIte]
    refine Zw (t := (!y11)) rfl (fun c12 => ?_) (fun c12 => ?_)
    ·replace hs0_ := Zv c12 hs0_
     refine Zr [6] (Zc Zd [] ?_)
     simp only [push_cast, seval, ↓reduceIte, Za, hN0, hN]
     refine Z5 ?_
     try simp only [Zj, Zg]
     have hs0_ := Option.some.inj hs0_; subst hs0_
     refine And.intro (fun h => by cases h) (And.intro rfl (Fit2.of (Zk hU rfl rfl ?_) (by omega)))
     simp only [push_cast, seval, ↓reduceIte, Za, hN0, hN]
    replace hs0_ := Zu c12 hs0_
    refine Z0 ?_
    try simp only [Zj, Zg]
    refine Zi [0, 4, 7] [true] ?_
    simp only [push_cast, seval, ↓reduceIte]
    refine Zc Zd [] ?_
    simp only [push_cast, seval, ↓reduceIte, Za, hN0, hN]
    have hs0_ := Option.some.inj hs0_; subst hs0_
    refine And.intro rfl (Fit2.of (Zk hU rfl rfl ?_) (by omega))
    simp only [push_cast, seval, ↓reduceIte, Za, hN0, hN]
   replace hs0_ := Zu c13 hs0_
   refine Qb ?_
   try simp only [Zj, Zg, ↓reduceIte, Nat.reduceEqDiff]
   have hs0_ := Option.some.inj hs0_; subst hs0_
   refine And.intro (fun h => by cases h) (And.intro rfl (Fit2.of (Zk hU rfl rfl ?_) (by omega)))
   simp only [push_cast, seval, ↓reduceIte, Za, hN0, hN]
  rcases z14 with z14 | z14
  ·dsimp only [Qt] at hw h
   refine Vj hw ?_
   try simp only [Zj, Zg, ↓reduceIte, Nat.reduceEqDiff]
   have h := Option.some.inj h; subst h
   refine Zs (.inr rfl) hU [.val (.bool false)] (by omega) ?_
   simp only [push_cast, seval, ↓reduceIte, Za, Try.results78, hN0, hN]
  dsimp only [Qt] at hw h
  refine Yq hw ?_
  try simp only [Zj, Zg, ↓reduceIte, Nat.reduceEqDiff]
  refine Zi [4] [true] ?_
  simp only [push_cast, seval, ↓reduceIte]
  obtain ⟨z16, hz16, h⟩ := bC h
  refine Xh (E' := ⟨121, [], [(6, .val (.bool z16))]⟩) (O' := (Zy O n [none])) (n0 := (n + 1)) ?_ ?_
  ·rcases Bool.eq_false_or_eq_true (decide (0 < (a1.L.length : Int))) with c19 | c19
   ·replace hz16 := Zv c19 hz16
    obtain ⟨y18, hy18, hz16⟩ := bC hz16
    refine Zc Zd [some true, some true, some true] ?_
    simp only [push_cast, seval, ↓reduceIte, Za, c19, hN0, hN]
    refine (Zdm hy18).then ?_
    simp only [push_cast, seval, ↓reduceIte, Za, c19, hN0, hN]
    have hz16 := Option.some.inj hz16; subst hz16
    refine And.intro rfl (Fit2.of (Zk hU rfl rfl ?_) (by omega))
    simp only [push_cast, seval, ↓reduceIte, Za, c19, hN0, hN]
   replace hz16 := Zu c19 hz16
   refine Zc Zd [some false, some false, some false] ?_
   simp only [push_cast, seval, ↓reduceIte, Za, c19, hN0, hN]
   have hz16 := Option.some.inj hz16; subst hz16
   refine And.intro rfl (Fit2.of (Zk hU rfl rfl ?_) (by omega))
   simp only [push_cast, seval, ↓reduceIte, Za, c19, hN0, hN]
  refine Z5 ?_
  try simp only [Zj, Zg]
  have h := Option.some.inj h; subst h
  refine Zs (.inr rfl) hU [.val (.bool z16)] (by omega) ?_
  simp only [push_cast, seval, ↓reduceIte, Za, Try.results78, hN0, hN]
 replace h := Zu c28 h
 refine Z0 ?_
 try simp only [Zj, Zg]
 refine Zi [0, 2, 4] [true] ?_
 simp only [push_cast, seval, ↓reduceIte]
 refine Zl ?_
 obtain ⟨z21, hz21, h⟩ := bC h
 refine Xh (E' := ⟨121, [], [(0, .val (.int .i64 a0)), (4, .ref n 0), (92, .val (.bool z21))]⟩) (O' := (Zy O n [some ⟨false, 64, 14, 1, (Ym a1)⟩])) (n0 := (n + 1)) ?_ ?_
 ·rcases Bool.eq_false_or_eq_true (decide (0 < (a1.L.length : Int))) with c24 | c24
  ·replace hz21 := Zv c24 hz21
   refine Zc Zd [none, none, none, none, none, none, some false, some false, some false, some false, some false] ?_
   simp only [push_cast, seval, ↓reduceIte, Za, c24, hN0, hN]
   repeat (with_reducible refine And.intro (by first | (intro h0; simp only [h0, and_self]; done) | (intro h0; simp only [h0, Bool.not_false, Bool.not_true, Bool.true_and, Bool.and_true, true_and, and_true, and_self, imp_self, implies_true, bne_iff_ne, ne_eq, beq_iff_eq]; done) | (intros; simp_all; done) | exact True.intro) ?_)
   have hz21 := Option.some.inj hz21; subst hz21
   refine And.intro rfl (Fit2.of (Zk hU rfl rfl ?_) (by omega))
   simp only [push_cast, seval, ↓reduceIte, Za, c24, hN0, hN]
  replace hz21 := Zu c24 hz21
  rcases Bool.eq_false_or_eq_true (a1.E.Kind == 0) with c25 | c25
  ·replace hz21 := Zv c25 hz21
   try rw [c25] at c24
   refine Zc Zd [none, none, none, none, none, none, some false, some false, some false, some false, some false] ?_
   simp only [push_cast, seval, ↓reduceIte, Za, c24, c25, hN0, hN]
   repeat (with_reducible refine And.intro (by first | (intro h0; simp only [h0, and_self]; done) | (intro h0; simp only [h0, Bool.not_false, Bool.not_true, Bool.true_and, Bool.and_true, true_and, and_true, and_self, imp_self, implies_true, bne_iff_ne, ne_eq, beq_iff_eq]; done) | (intros; simp_all; done) | exact True.intro) ?_)
   have hz21 := Option.some.inj hz21; subst hz21
   refine And.intro rfl (Fit2.of (Zk hU rfl rfl ?_) (by omega))
   simp only [push_cast, seval, ↓reduceIte, Za, c24, c25, hN0, hN]
  replace hz21 := Zu c25 hz21
  try rw [c25] at c24
  rcases Bool.eq_false_or_eq_true (decide (a0 ≤ 7)) with c26 | c26
  ·replace hz21 := Zv c26 hz21
   try rw [c26] at c24
   try rw [c26] at c25
   refine Zc Zd [none, none, none, none, none, none, some false, some false, some false, some false, some false] ?_
   simp only [push_cast, seval, ↓reduceIte, Za, c24, c25, c26, hN0, hN]
   repeat (with_reducible refine And.intro (by first | (intro h0; simp only [h0, and_self]; done) | (intro h0; simp only [h0, Bool.not_false, Bool.not_true, Bool.true_and, Bool.and_true, true_and, and_true, and_self, imp_self, implies_true, bne_iff_ne, ne_eq, beq_iff_eq]; done) | (intros; simp_all; done) | exact True.intro) ?_)
   have hz21 := Option.some.inj hz21; subst hz21
   refine And.intro rfl (Fit2.of (Zk hU rfl rfl ?_) (by omega))
   simp only [push_cast, seval, ↓reduceIte, Za, c24, c25, c26, hN0, hN]
  replace hz21 := Zu c26 hz21
  try rw [c26] at c24
  try rw [c26] at c25
  obtain ⟨y23, hy23, hz21⟩ := bC hz21
  refine Zc Zd [none, none, none, none, none, none, some true, some true, some true, some true, some true] ?_
  simp only [push_cast, seval, ↓reduceIte, Za, c24, c25, c26, hN0, hN]
  repeat (with_reducible refine And.intro (by first | (intro h0; simp only [h0, and_self]; done) | (intro h0; simp only [h0, Bool.not_false, Bool.not_true, Bool.true_and, Bool.and_true, true_and, and_true, and_self, imp_self, implies_true, bne_iff_ne, ne_eq, beq_iff_eq]; done) | (intros; simp_all; done) | exact True.intro) ?_)
  refine (U5 hy23).then ?_
  simp only [push_cast, seval, ↓reduceIte, Za, c24, c25, c26, hN0, hN]
  repeat (with_reducible refine And.intro (by first | (intro h0; simp only [h0, and_self]; done) | (intro h0; simp only [h0, Bool.not_false, Bool.not_true, Bool.true_and, Bool.and_true, true_and, and_true, and_self, imp_self, implies_true, bne_iff_ne, ne_eq, beq_iff_eq]; done) | (intros; simp_all; done) | exact True.intro) ?_)
  have hz21 := Option.some.inj hz21; subst hz21
  refine And.intro rfl (Fit2.of (Zk hU rfl rfl ?_) (by omega))
  simp only [push_cast, seval, ↓reduceIte, Za, c24, c25, c26, hN0, hN]
 refine Zw (t := z21) rfl (fun c27 => ?_) (fun c27 => ?_)
 ·replace h := Zv c27 h
  refine Zr [6] (Zc Zd [] ?_)
  simp only [push_cast, seval, ↓reduceIte, Za, hN0, hN]
  refine Z5 ?_
  try simp only [Zj, Zg]
  have h := Option.some.inj h; subst h
  refine Zs (.inr rfl) hU [.val (.bool false)] (by omega) ?_
  simp only [push_cast, seval, ↓reduceIte, Za, Try.results78, hN0, hN]
 replace h := Zu c27 h
 refine Z0 ?_
 try simp only [Zj, Zg]
 refine Zi [0, 4] [true] ?_
 simp only [push_cast, seval, ↓reduceIte]
 refine Zr [6] (Zc Zd [none, none, none, none, none, none, none, none, none, none, none, none, none, none, none, none, none, none, none, none, none, none] ?_)
 simp only [push_cast, seval, ↓reduceIte, Za, hN0, hN]
 repeat (with_reducible refine And.intro (by first | (intro h0; simp only [h0, and_self]; done) | (intro h0; simp only [h0, Bool.not_false, Bool.not_true, Bool.true_and, Bool.and_true, true_and, and_true, and_self, imp_self, implies_true, bne_iff_ne, ne_eq, beq_iff_eq]; done) | (intros; simp_all; done) | exact True.intro) ?_)
 refine Z5 ?_
 try simp only [Zj, Zg]
 have h := Option.some.inj h; subst h
 refine Zs (.inr rfl) hU [.val (.bool (cond (cond (a0 == 8) true (a1.E.Kind == 2)) true (cond (cond (a1.E.Kind == 1) (a1.E.Old.Kind == 1) false) (a1.E.New.Kind == 1) false)))] (by omega) ?_
 simp only [push_cast, seval, ↓reduceIte, Za, Try.results78, hN0, hN]
theorem Zgk : ∀ k, (∀ {a0 : S_api_Edit} {a1 : Int} {r : Bool} {O : Objs} {n : Nat}, (Z9 k).1 a0 a1 = some r → GTo Try.prog 48 [.agg (Zh a0), .val (.int .i64 a1)] O n (.val (.bool r)) O n) ∧ (∀ {a0 : Int} {a1 : S_api_Op} {a2 : Int} {r : Bool} {O : Objs} {n : Nat}, (Z9 k).2 a0 a1 a2 = some r → GTo Try.prog 78 [.val (.int .i64 a0), .agg (Ym a1), .val (.int .i64 a2)] O n (.val (.bool r)) O n) := fun k => by
 induction k with
 | zero => exact ⟨@fun a0 a1 r O n h => (nomatch (show (none : Option _) = some _ from h)), @fun a0 a1 a2 r O n h => (nomatch (show (none : Option _) = some _ from h))⟩
 | succ k ih => exact ⟨@fun a0 a1 r O n h => Zh1 (ih.1) (ih.2)  h, @fun a0 a1 a2 r O n h => Zk1 (ih.1) (ih.2)  h⟩
theorem Zcy {a0 : S_api_Edit} {a1 : Int} {r : Bool} {O : Objs} {n : Nat} (h : Zao a0 a1 = some r) : GTo Try.prog 48 [.agg (Zh a0), .val (.int .i64 a1)] O n (.val (.bool r)) O n := by
 obtain ⟨k, hk⟩ := Gd h
 exact (Zgk k).1  hk
theorem Zh0 {Xe : (S_api_Edit → Option Bool)} (Zbl : ∀ {a0 : S_api_Edit} {r : Bool} {O : Objs} {n : Nat}, Xe a0 = some r → GTo Try.prog 85 [.agg (Zh a0)] O n (.val (.bool r)) O n) {a0 : S_api_Edit} {r : Bool} {O : Objs} {n : Nat} (h : K0 Xe a0 = some r) : GTo Try.prog 85 [.agg (Zh a0)] O n (.val (.bool r)) O n := by
 unfold K0 at h
 refine Xn Zd Try.call85 Try.func85 rfl (Nat.le_of_ble_eq_true rfl) (Nat.le_refl _) fun hU => ?_
 have hN0 : O n = none := hU.fresh _ (Nat.le_refl _)
 have hN : ∀ k, O (n + k) = none := fun k => hU.fresh _ (Nat.le_add_right _ _)
 show W _ _ _ _ ⟨48, [], [(0, .agg (Zh a0))]⟩ (Zy O n []) _
 refine Zr [1] (Zc Zd [] ?_)
 simp only [push_cast, seval, ↓reduceIte, Za, hN0, hN]
 refine Zl ?_
 obtain ⟨y2, hy2, h⟩ := bC h
 refine Zc Zd [] ?_
 simp only [push_cast, seval, ↓reduceIte, Za, hN0, hN]
 refine (Zbk hy2).then ?_
 simp only [push_cast, seval, ↓reduceIte, Za, hN0, hN]
 refine Zi [1, 3, 4] [true] ?_
 simp only [push_cast, seval, ↓reduceIte]
 refine Zl ?_
 refine Zr [1, 17] (Zc Zd [none, none] ?_)
 simp only [push_cast, seval, ↓reduceIte, Za, hN0, hN]
 repeat (with_reducible refine And.intro (by first | (intro h0; simp only [h0, and_self]; done) | (intro h0; simp only [h0, Bool.not_false, Bool.not_true, Bool.true_and, Bool.and_true, true_and, and_true, and_self, imp_self, implies_true, bne_iff_ne, ne_eq, beq_iff_eq]; done) | (intros; simp_all; done) | exact True.intro) ?_)
 refine Zw (t := (cond (decide (2000 < y2.1)) true (decide (2000 < y2.2)))) rfl (fun c21 => ?_) (fun c21 => ?_)
 ·replace h := Zv c21 h
  refine Zr [2] (Zc Zd [] ?_)
  simp only [push_cast, seval, ↓reduceIte, Za, hN0, hN]
  refine Z5 ?_
  try simp only [Zj, Zg]
  have h := Option.some.inj h; subst h
  refine Zs (.inr rfl) hU [.val (.bool false)] (by omega) ?_
  simp only [push_cast, seval, ↓reduceIte, Za, Try.results85, hN0, hN]
 replace h := Zu c21 h
 refine Z0 ?_
 try simp only [Zj, Zg]
 refine Zi [1] [true] ?_
 simp only [push_cast, seval, ↓reduceIte]
 refine Zl ?_
 refine Zr [1, 5] (Zc Zd [] ?_)
 simp only [push_cast, seval, ↓reduceIte, Za, hN0, hN]
 refine Zi [1, 5] [true] ?_
 simp only [push_cast, seval, ↓reduceIte]
 obtain ⟨z11, hz11, h⟩ := bC h
 refine Zaz (J := (Qt (fun z11 => JR n (⟨48, [], [(2, .val (.bool false))]⟩ : Env) (Zy O n [none]) (n + 1)) (fun z11 => JX 0 n (⟨48, [], [(1, .ref n 0)]⟩ : Env) (Zy O n [some ⟨false, 54, 11, 1, (Zh a0)⟩]) (n + 1)))) (z := z11) ?_ fun hw => ?_
 ·refine Y7 hz11 (fun s0_ => ⟨48, [], [(1, .ref n 0), (5, .val (.int .i64 s0_))]⟩) (fun s0_ => (Zy O n [some ⟨false, 54, 11, 1, (Zh a0)⟩])) (Qt (fun z11 => JR n (⟨48, [], [(2, .val (.bool false))]⟩ : Env) (Zy O n [none]) (n + 1)) (fun z11 => JX 0 n (⟨48, [], [(1, .ref n 0)]⟩ : Env) (Zy O n [some ⟨false, 54, 11, 1, (Zh a0)⟩]) (n + 1))) ?_
  intro s0_ x0_ hs0_
  unfold Qv at hs0_
  try dsimp only
  refine Zl ?_
  refine Zr [1, 5, 22] (Zc Zd [] ?_)
  simp only [push_cast, seval, ↓reduceIte, Za, hN0, hN]
  refine Zw (t := (decide (s0_ < (a0.Kids.length : Int)))) rfl (fun c10 => ?_) (fun c10 => ?_)
  ·replace hs0_ := Zv c10 hs0_
   refine Z0 ?_
   try simp only [Zj, Zg]
   refine Zi [1, 5] [true] ?_
   simp only [push_cast, seval, ↓reduceIte]
   refine Zl ?_
   refine Yr ?_
   refine Zl ?_
   obtain ⟨x6, hx6, ax6, bx6, cx6, hs0_⟩ := bE (f := Zp) Zlo (fun _ => rfl) (by decide) hs0_
   have g7 := Zbp (f := Zp) (off := 1) (sz := 12) Zln (fun _ => rfl) (by decide) (by decide) hx6
   obtain ⟨y8, hy8, hs0_⟩ := bC hs0_
   refine Zc Zd [] ?_
   simp only [push_cast, Nat.reduceAdd, Nat.reduceSub, Nat.reduceMul, Nat.reduceLeDiff, Nat.reduceLT, Nat.reduceEqDiff, ↓reduceIte, reduceCtorEq, Int.reduceBEq, Int.reduceBNe, Nat.reduceBEq, Int.reduceLE, Int.reduceLT, Int.reduceEq, Int.reduceNe, Int.reduceNeg, Nat.reduceDiv, Nat.reduceMod, Nat.reducePow, Za, ax6, bx6, cx6, g7, hN0, hN]
   refine (Zbl hy8).then ?_
   simp only [push_cast, Nat.reduceAdd, Nat.reduceSub, Nat.reduceMul, Nat.reduceLeDiff, Nat.reduceLT, Nat.reduceEqDiff, ↓reduceIte, reduceCtorEq, Int.reduceBEq, Int.reduceBNe, Nat.reduceBEq, Int.reduceLE, Int.reduceLT, Int.reduceEq, Int.reduceNe, Int.reduceNeg, Nat.reduceDiv, Nat.reduceMod, Nat.reducePow, Za, ax6, bx6, cx6, g7, hN0, hN]
   refine Zi [1, 5, 32] [true] ?_
   simp only [push_cast, seval, ↓reduceIte]
   refine Zw (t := (!y8)) rfl (fun c9 => ?_) (fun c9 => ?_)
   ·replace hs0_ := Zv c9 hs0_
    refine Zr [2] (Zc Zd [] ?_)
    simp only [push_cast, seval, ↓reduceIte, Za, hN0, hN]
    refine Z5 ?_
    try simp only [Zj, Zg]
    have hs0_ := Option.some.inj hs0_; subst hs0_
    refine And.intro (fun h => by cases h) (And.intro rfl (Fit2.of (Zk hU rfl rfl ?_) (by omega)))
    simp only [push_cast, seval, ↓reduceIte, Za, hN0, hN]
   replace hs0_ := Zu c9 hs0_
   refine Z0 ?_
   try simp only [Zj, Zg]
   refine Zi [1, 5] [true] ?_
   simp only [push_cast, seval, ↓reduceIte]
   refine Zc Zd [] ?_
   simp only [push_cast, seval, ↓reduceIte, Za, hN0, hN]
   have hs0_ := Option.some.inj hs0_; subst hs0_
   refine And.intro rfl (Fit2.of (Zk hU rfl rfl ?_) (by omega))
   simp only [push_cast, seval, ↓reduceIte, Za, hN0, hN]
  replace hs0_ := Zu c10 hs0_
  refine Qb ?_
  try simp only [Zj, Zg, ↓reduceIte, Nat.reduceEqDiff]
  have hs0_ := Option.some.inj hs0_; subst hs0_
  refine And.intro (fun h => by cases h) (And.intro rfl (Fit2.of (Zk hU rfl rfl ?_) (by omega)))
  simp only [push_cast, seval, ↓reduceIte, Za, hN0, hN]
 rcases z11 with z11 | z11
 ·dsimp only [Qt] at hw h
  refine Vj hw ?_
  try simp only [Zj, Zg, ↓reduceIte, Nat.reduceEqDiff]
  have h := Option.some.inj h; subst h
  refine Zs (.inr rfl) hU [.val (.bool false)] (by omega) ?_
  simp only [push_cast, seval, ↓reduceIte, Za, Try.results85, hN0, hN]
 dsimp only [Qt] at hw h
 refine Yq hw ?_
 try simp only [Zj, Zg, ↓reduceIte, Nat.reduceEqDiff]
 refine Zi [1] [true] ?_
 simp only [push_cast, seval, ↓reduceIte]
 refine Zl ?_
 refine Zr [1, 6] (Zc Zd [] ?_)
 simp only [push_cast, seval, ↓reduceIte, Za, hN0, hN]
 refine Zi [1, 6] [true] ?_
 simp only [push_cast, seval, ↓reduceIte]
 obtain ⟨z20, hz20, h⟩ := bC h
 refine Zaz (J := (Qt (fun z20 => JR n (⟨48, [], [(2, .val (.bool false))]⟩ : Env) (Zy O n [none]) (n + 1)) (fun z20 => JX 2 n (⟨48, [], []⟩ : Env) (Zy O n [none]) (n + 1)))) (z := z20) ?_ fun hw => ?_
 ·refine Y7 hz20 (fun s1_ => ⟨48, [], [(1, .ref n 0), (6, .val (.int .i64 s1_))]⟩) (fun s1_ => (Zy O n [some ⟨false, 54, 11, 1, (Zh a0)⟩])) (Qt (fun z20 => JR n (⟨48, [], [(2, .val (.bool false))]⟩ : Env) (Zy O n [none]) (n + 1)) (fun z20 => JX 2 n (⟨48, [], []⟩ : Env) (Zy O n [none]) (n + 1))) ?_
  intro s1_ x1_ hs1_
  unfold Qw at hs1_
  try dsimp only
  refine Zl ?_
  refine Zr [1, 6, 37] (Zc Zd [] ?_)
  simp only [push_cast, seval, ↓reduceIte, Za, hN0, hN]
  refine Zw (t := (decide (s1_ < (a0.Ops.length : Int)))) rfl (fun c19 => ?_) (fun c19 => ?_)
  ·replace hs1_ := Zv c19 hs1_
   refine Z0 ?_
   try simp only [Zj, Zg]
   refine Zi [1, 6] [true] ?_
   simp only [push_cast, seval, ↓reduceIte]
   refine Zl ?_
   refine Yr ?_
   refine Zl ?_
   obtain ⟨x15, hx15, ax15, bx15, cx15, hs1_⟩ := bE (f := Zt) Zg6 (fun _ => rfl) (by decide) hs1_
   have g16 := Zbp (f := Zt) (off := 3) (sz := 14) Zln (fun _ => rfl) (by decide) (by decide) hx15
   obtain ⟨y17, hy17, hs1_⟩ := bC hs1_
   refine Zc Zd [] ?_
   simp only [push_cast, Nat.reduceAdd, Nat.reduceSub, Nat.reduceMul, Nat.reduceLeDiff, Nat.reduceLT, Nat.reduceEqDiff, ↓reduceIte, reduceCtorEq, Int.reduceBEq, Int.reduceBNe, Nat.reduceBEq, Int.reduceLE, Int.reduceLT, Int.reduceEq, Int.reduceNe, Int.reduceNeg, Nat.reduceDiv, Nat.reduceMod, Nat.reducePow, Za, ax15, bx15, cx15, g16, hN0, hN]
   refine (Zbl hy17).then ?_
   simp only [push_cast, Nat.reduceAdd, Nat.reduceSub, Nat.reduceMul, Nat.reduceLeDiff, Nat.reduceLT, Nat.reduceEqDiff, ↓reduceIte, reduceCtorEq, Int.reduceBEq, Int.reduceBNe, Nat.reduceBEq, Int.reduceLE, Int.reduceLT, Int.reduceEq, Int.reduceNe, Int.reduceNeg, Nat.reduceDiv, Nat.reduceMod, Nat.reducePow, Za, ax15, bx15, cx15, g16, hN0, hN]
   refine Zi [1, 6, 47] [true] ?_
   simp only [push_cast, seval, ↓reduceIte]
   refine Zw (t := (!y17)) rfl (fun c18 => ?_) (fun c18 => ?_)
   ·replace hs1_ := Zv c18 hs1_
    refine Zr [2] (Zc Zd [] ?_)
    simp only [push_cast, seval, ↓reduceIte, Za, hN0, hN]
    refine Z5 ?_
    try simp only [Zj, Zg]
    have hs1_ := Option.some.inj hs1_; subst hs1_
    refine And.intro (fun h => by cases h) (And.intro rfl (Fit2.of (Zk hU rfl rfl ?_) (by omega)))
    simp only [push_cast, seval, ↓reduceIte, Za, hN0, hN]
   replace hs1_ := Zu c18 hs1_
   refine Z0 ?_
   try simp only [Zj, Zg]
   refine Zi [1, 6] [true] ?_
   simp only [push_cast, seval, ↓reduceIte]
   refine Zc Zd [] ?_
   simp only [push_cast, seval, ↓reduceIte, Za, hN0, hN]
   have hs1_ := Option.some.inj hs1_; subst hs1_
   refine And.intro rfl (Fit2.of (Zk hU rfl rfl ?_) (by omega))
   simp only [push_cast, seval, ↓reduceIte, Za, hN0, hN]
  replace hs1_ := Zu c19 hs1_
  refine Qb ?_
  try simp only [Zj, Zg, ↓reduceIte, Nat.reduceEqDiff]
  have hs1_ := Option.some.inj hs1_; subst hs1_
  refine And.intro (fun h => by cases h) (And.intro rfl (Fit2.of (Zk hU rfl rfl ?_) (by omega)))
  simp only [push_cast, seval, ↓reduceIte, Za, hN0, hN]
 rcases z20 with z20 | z20
 ·dsimp only [Qt] at hw h
  refine Vj hw ?_
  try simp only [Zj, Zg, ↓reduceIte, Nat.reduceEqDiff]
  have h := Option.some.inj h; subst h
  refine Zs (.inr rfl) hU [.val (.bool false)] (by omega) ?_
  simp only [push_cast, seval, ↓reduceIte, Za, Try.results85, hN0, hN]
 dsimp only [Qt] at hw h
 refine Yq hw ?_
 try simp only [Zj, Zg, ↓reduceIte, Nat.reduceEqDiff]
 refine Zi [] [false] ?_
 simp only [push_cast, seval, ↓reduceIte]
 refine Zr [2] (Zc Zd [] ?_)
 simp only [push_cast, seval, ↓reduceIte, Za, hN0, hN]
 refine Z5 ?_
 try simp only [Zj, Zg]
 have h := Option.some.inj h; subst h
 refine Zs (.inr rfl) hU [.val (.bool true)] (by omega) ?_
 simp only [push_cast, seval, ↓reduceIte, Za, Try.results85, hN0, hN]
theorem Zgj : ∀ k, (∀ {a0 : S_api_Edit} {r : Bool} {O : Objs} {n : Nat}, (X1 k) a0 = some r → GTo Try.prog 85 [.agg (Zh a0)] O n (.val (.bool r)) O n) := fun k => by
 induction k with
 | zero => exact @fun a0 r O n h => (nomatch (show (none : Option _) = some _ from h))
 | succ k ih => exact @fun a0 r O n h => Zh0 (ih)  h
theorem Zji {a0 : S_api_Edit} {r : Bool} {O : Objs} {n : Nat} (h : Zan a0 = some r) : GTo Try.prog 85 [.agg (Zh a0)] O n (.val (.bool r)) O n := by
 obtain ⟨k, hk⟩ := Gd h
 exact (Zgj k)  hk
theorem Zj1 {a0 : S_api_Edit} {r : Bool} {O : Objs} {n : Nat} (h : Vv a0 = some r) : GTo Try.prog 54 [.agg (Zh a0)] O n (.val (.bool r)) O n := by
 unfold Vv at h
 refine Xn Zd Try.call54 Try.func54 rfl (Nat.le_of_ble_eq_true rfl) (Nat.le_refl _) fun hU => ?_
 have hN0 : O n = none := hU.fresh _ (Nat.le_refl _)
 have hN : ∀ k, O (n + k) = none := fun k => hU.fresh _ (Nat.le_add_right _ _)
 show W _ _ _ _ ⟨13, [], [(0, .agg (Zh a0))]⟩ (Zy O n []) _
 refine Zr [1] (Zc Zd [] ?_)
 simp only [push_cast, seval, ↓reduceIte, Za, hN0, hN]
 obtain ⟨z4, hz4, h⟩ := bC h
 refine Xh (E' := ⟨13, [], [(2, .val (.bool z4))]⟩) (O' := (Zy O n [none])) (n0 := (n + 1)) ?_ ?_
 ·obtain ⟨y8, hy8, hz4⟩ := bC hz4
  rcases Bool.eq_false_or_eq_true y8 with c11 | c11
  ·replace hz4 := Zv c11 hz4
   obtain ⟨y9, hy9, hz4⟩ := bC hz4
   rcases Bool.eq_false_or_eq_true y9 with c12 | c12
   ·replace hz4 := Zv c12 hz4
    try rw [c12] at c11
    obtain ⟨y10, hy10, hz4⟩ := bC hz4
    refine Zc Zd [some true, some true, some true, some true] ?_
    simp only [push_cast, seval, ↓reduceIte, Za, c11, c12, hN0, hN]
    refine (Zbb hy8).then ?_
    simp only [push_cast, seval, ↓reduceIte, Za, c11, c12, hN0, hN]
    refine (Zcy hy9).then ?_
    simp only [push_cast, seval, ↓reduceIte, Za, c11, c12, hN0, hN]
    refine (Zji hy10).then ?_
    simp only [push_cast, seval, ↓reduceIte, Za, c11, c12, hN0, hN]
    have hz4 := Option.some.inj hz4; subst hz4
    refine And.intro rfl (Fit2.of (Zk hU rfl rfl ?_) (by omega))
    simp only [push_cast, seval, ↓reduceIte, Za, c11, c12, hN0, hN]
   replace hz4 := Zu c12 hz4
   try rw [c12] at c11
   refine Zc Zd [some true, some true, some false, some false] ?_
   simp only [push_cast, seval, ↓reduceIte, Za, c11, c12, hN0, hN]
   refine (Zbb hy8).then ?_
   simp only [push_cast, seval, ↓reduceIte, Za, c11, c12, hN0, hN]
   refine (Zcy hy9).then ?_
   simp only [push_cast, seval, ↓reduceIte, Za, c11, c12, hN0, hN]
   have hz4 := Option.some.inj hz4; subst hz4
   refine And.intro rfl (Fit2.of (Zk hU rfl rfl ?_) (by omega))
   simp only [push_cast, seval, ↓reduceIte, Za, c11, c12, hN0, hN]
  replace hz4 := Zu c11 hz4
  refine Zc Zd [some false, some false, some false, some false] ?_
  simp only [push_cast, seval, ↓reduceIte, Za, c11, hN0, hN]
  refine (Zbb hy8).then ?_
  simp only [push_cast, seval, ↓reduceIte, Za, c11, hN0, hN]
  have hz4 := Option.some.inj hz4; subst hz4
  refine And.intro rfl (Fit2.of (Zk hU rfl rfl ?_) (by omega))
  simp only [push_cast, seval, ↓reduceIte, Za, c11, hN0, hN]
 refine Z5 ?_
 try simp only [Zj, Zg]
 have h := Option.some.inj h; subst h
 refine Zs (.inr rfl) hU [.val (.bool z4)] (by omega) ?_
 simp only [push_cast, seval, ↓reduceIte, Za, Try.results54, hN0, hN]
theorem Ze4 {a0 : S_api_Edit} {a1 : S_api_Tree} {r : Bool} {O : Objs} {n : Nat} (h : J8 a0 a1 = some r) : GTo Try.prog 12 [.agg (Zh a0), .agg (Ze a1)] O n (.val (.bool r)) O n := by
 unfold J8 at h
 refine Xn Zd Try.call12 Try.func12 rfl (Nat.le_of_ble_eq_true rfl) (Nat.le_refl _) fun hU => ?_
 have hN0 : O n = none := hU.fresh _ (Nat.le_refl _)
 have hN : ∀ k, O (n + k) = none := fun k => hU.fresh _ (Nat.le_add_right _ _)
 show W _ _ _ _ ⟨42, [], [(0, .agg (Zh a0)), (1, .agg (Ze a1))]⟩ (Zy O n []) _
 refine Zr [2, 3] (Zc Zd [] ?_)
 simp only [push_cast, seval, ↓reduceIte, Za, hN0, hN]
 refine Zl ?_
 obtain ⟨z3, hz3, h⟩ := bC h
 refine Xh (E' := ⟨42, [], [(2, .ref n 0), (3, .ref (n + 1) 0), (16, .val (.bool z3))]⟩) (O' := (Zy O n [some ⟨false, 54, 11, 1, (Zh a0)⟩, some ⟨false, 25, 3, 1, (Ze a1)⟩])) (n0 := (n + 2)) ?_ ?_
 ·obtain ⟨y6, hy6, hz3⟩ := bC hz3
  rcases Bool.eq_false_or_eq_true y6 with c8 | c8
  ·replace hz3 := Zv c8 hz3
   obtain ⟨y7, hy7, hz3⟩ := bC hz3
   refine Zc Zd [some true, some true, some true] ?_
   simp only [push_cast, seval, ↓reduceIte, Za, c8, hN0, hN]
   refine (Zdi hy6).then ?_
   simp only [push_cast, seval, ↓reduceIte, Za, c8, hN0, hN]
   refine (Zj1 hy7).then ?_
   simp only [push_cast, seval, ↓reduceIte, Za, c8, hN0, hN]
   have hz3 := Option.some.inj hz3; subst hz3
   refine And.intro rfl (Fit2.of (Zk hU rfl rfl ?_) (by omega))
   simp only [push_cast, seval, ↓reduceIte, Za, c8, hN0, hN]
  replace hz3 := Zu c8 hz3
  refine Zc Zd [some false, some false, some false] ?_
  simp only [push_cast, seval, ↓reduceIte, Za, c8, hN0, hN]
  refine (Zdi hy6).then ?_
  simp only [push_cast, seval, ↓reduceIte, Za, c8, hN0, hN]
  have hz3 := Option.some.inj hz3; subst hz3
  refine And.intro rfl (Fit2.of (Zk hU rfl rfl ?_) (by omega))
  simp only [push_cast, seval, ↓reduceIte, Za, c8, hN0, hN]
 refine Zw (t := z3) rfl (fun c26 => ?_) (fun c26 => ?_)
 ·replace h := Zv c26 h
  refine Zl ?_
  obtain ⟨y10, hy10, h⟩ := bC h
  refine Zc Zd [] ?_
  simp only [push_cast, seval, ↓reduceIte, Za, hN0, hN]
  refine (Zcw hy10).then ?_
  simp only [push_cast, seval, ↓reduceIte, Za, hN0, hN]
  refine Zi [4] [false, false] ?_
  simp only [push_cast, seval, ↓reduceIte]
  refine Z5 ?_
  try simp only [Zj, Zg]
  have h := Option.some.inj h; subst h
  refine Zs (.inr rfl) hU [.val (.bool y10)] (by omega) ?_
  simp only [push_cast, seval, ↓reduceIte, Za, Try.results12, hN0, hN]
 replace h := Zu c26 h
 refine Z0 ?_
 try simp only [Zj, Zg]
 refine Zi [2, 3] [true, true] ?_
 simp only [push_cast, seval, ↓reduceIte]
 refine Zl ?_
 obtain ⟨y12, hy12, h⟩ := bC h
 refine Zc Zd [] ?_
 simp only [push_cast, seval, ↓reduceIte, Za, hN0, hN]
 refine (Zag hy12).then ?_
 simp only [push_cast, seval, ↓reduceIte, Za, hN0, hN]
 refine Zi [2, 3, 5, 6] [true, true, true] ?_
 simp only [push_cast, seval, ↓reduceIte]
 refine Zl ?_
 obtain ⟨y15, hy15, h⟩ := bC h
 obtain ⟨y16, hy16, h⟩ := bC h
 refine Zi6 Zd (by kernel_rfl) [.low, .low, .low, .low, .low, .low, .low, .pass, .pass, .plain] (fun i => i < (n + 3)) [0, 1, 2, 3, 4, 5, 6, 7, 8, 9] [.low, .low, .low, .low, .low, .low, .low, .pass, .pass, .plain] [] (by kernel_rfl) rfl ?_
 simp only [push_cast, seval, ↓reduceIte, Za, hN0, hN]
 repeat (with_reducible refine And.intro (by first | omega | exact Y3 rfl | exact Yt | exact U7 rfl rfl) ?_)
 first | refine PCallA.of (fun _ _ => Zdk hy15) ?_ | refine PCall.of (Zdk hy15) ?_
 simp only [push_cast, seval, ↓reduceIte, Za, hN0, hN]
 repeat (with_reducible refine And.intro (by first | omega | exact Y3 rfl | exact Yt | exact U7 rfl rfl) ?_)
 first | refine PCallA.of (fun _ _ => Zag hy16) ?_ | refine PCall.of (Zag hy16) ?_
 simp only [push_cast, seval, ↓reduceIte, Za, hN0, hN]
 repeat (with_reducible refine And.intro (by first | omega | exact Y3 rfl | exact Yt | exact U7 rfl rfl) ?_)
 refine Zi [5, 6, 7, 8] [false, false, true, true] ?_
 simp only [push_cast, seval, ↓reduceIte]
 obtain ⟨z19, hz19, h⟩ := bC h
 refine Xh (E' := ⟨42, [], [(4, .val (.bool z19))]⟩) (O' := (Zy O n [none, none, none, none])) (n0 := (n + 4)) ?_ ?_
 ·rcases Bool.eq_false_or_eq_true (y12.2 == y16.2) with c24 | c24
  ·replace hz19 := Zv c24 hz19
   obtain ⟨y22, hy22, hz19⟩ := bC hz19
   rcases Bool.eq_false_or_eq_true y22 with c25 | c25
   ·replace hz19 := Zv c25 hz19
    try rw [c25] at c24
    obtain ⟨y23, hy23, hz19⟩ := bC hz19
    refine Zc Zd [some true, some true, some true, some true] ?_
    simp only [push_cast, seval, ↓reduceIte, Za, c24, c25, hN0, hN]
    refine (Zdl hy22).then ?_
    simp only [push_cast, seval, ↓reduceIte, Za, c24, c25, hN0, hN]
    refine (Zcw hy23).then ?_
    simp only [push_cast, seval, ↓reduceIte, Za, c24, c25, hN0, hN]
    have hz19 := Option.some.inj hz19; subst hz19
    refine And.intro rfl (Fit2.of (Zk hU rfl rfl ?_) (by omega))
    simp only [push_cast, seval, ↓reduceIte, Za, c24, c25, hN0, hN]
   replace hz19 := Zu c25 hz19
   try rw [c25] at c24
   refine Zc Zd [some true, some true, some true, some false] ?_
   simp only [push_cast, seval, ↓reduceIte, Za, c24, c25, hN0, hN]
   refine (Zdl hy22).then ?_
   simp only [push_cast, seval, ↓reduceIte, Za, c24, c25, hN0, hN]
   have hz19 := Option.some.inj hz19; subst hz19
   refine And.intro rfl (Fit2.of (Zk hU rfl rfl ?_) (by omega))
   simp only [push_cast, seval, ↓reduceIte, Za, c24, c25, hN0, hN]
  replace hz19 := Zu c24 hz19
  refine Zc Zd [some false, some false, some false, some false] ?_
  simp only [push_cast, seval, ↓reduceIte, Za, c24, hN0, hN]
  have hz19 := Option.some.inj hz19; subst hz19
  refine And.intro rfl (Fit2.of (Zk hU rfl rfl ?_) (by omega))
  simp only [push_cast, seval, ↓reduceIte, Za, c24, hN0, hN]
 refine Z5 ?_
 try simp only [Zj, Zg]
 have h := Option.some.inj h; subst h
 refine Zs (.inr rfl) hU [.val (.bool z19)] (by omega) ?_
 simp only [push_cast, seval, ↓reduceIte, Za, Try.results12, hN0, hN]
end Go.Proofs.Ytmpkfolcikhofaa
