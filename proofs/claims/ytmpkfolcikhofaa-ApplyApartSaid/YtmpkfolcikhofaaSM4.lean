/- Part SM4 of this seat's mirrors: functions of the seat's program, and the plain functions that they are; each theorem bears its own conditions. -/
import Derived.Test.YtmpkfolcikhofaaSE
import Derived.Test.YtmpkfolcikhofaaSM3
namespace Go.Proofs.Ytmpkfolcikhofaa
open Go.RowKit
set_option linter.unusedVariables false
set_option linter.unusedSimpArgs false
set_option maxRecDepth 100000
set_option maxHeartbeats 1000000
attribute [local push_cast] Zh Vi Ym Ze Q8 Zkx Zkw Zlf Zle Zk Zg Zhq Zdh Zdg onW Y7 Zaw Zae Zk1 Zj1 Zey evS wok X0 Op.operands Call.operands gop onK onP atK List.all_cons List.all_nil Bool.and_true Bool.true_and Bool.and_self Value.oneCell' List.take_zero List.take_succ_cons List.take_nil List.drop_zero List.drop_succ_cons List.drop_nil List.append_nil Nat.add_zero Nat.zero_add Vh Yb ev Qf Zj0 Zsv Zn4 Zn3 Zs0 Ze3 Zah Zep Zao Zfl Zcv K6 Zhr Zdi Uw Zeq Ux Zgf Ze2 Zpa bLo bHi bMx Zai Zge Zsw Ze1 Zg0 Zb3 Vt Zns Zs1 Zen Zs4 Zag Zuc Qe Zgh gone Zia Zdy Zdx pop TK.isAgg G.one G.under G.unders List.getD_cons_zero List.getD_cons_succ List.set_cons_zero List.set_cons_succ List.map_cons List.map_nil List.toList_toArray Array.toList_append Option.toArray_none Option.toArray_some Array.toList_map Option.map_some Option.map_none Option.bind_some Option.bind_none List.getElem?_cons_zero List.getElem?_cons_succ List.getElem?_nil List.nil_append List.cons_append List.replicate_succ List.replicate_zero List.length_cons List.length_nil and_true true_and and_false false_and Bool.true_eq_false Bool.false_eq_true forall_const false_implies implies_true IntKind.bits if_true if_false ite_true ite_false eq_self true_implies false_or or_false or_true true_or not_true_eq_false not_false_eq_true decide_true decide_false decide_eq_true_eq decide_eq_false_iff_not beq_iff_eq bne_iff_ne ne_eq Bool.not_eq_true Bool.not_eq_false beq_eq_false_iff_ne bne_eq_false_iff_eq beq_self_eq_true bne_self_eq_false Option.some.injEq exists_eq_left' exists_eq_left ge_iff_le gt_iff_lt decide_not Bool.not_true Bool.not_false imp_self Zpc cond_true cond_false Zzc Zzb Bool.not_not Bool.and_false Bool.false_and Bool.or_true Bool.true_or Bool.or_false Bool.false_or Zad Zgd Zc3 Zb5 Vn Q7 Option.join_some Nat.add_assoc Int.toNat_natCast eI eB eS eL Za7 Zc8 Zcd Zk0 Zky Zkz Zup Zwz Zdb Zcl Zlm Zlk Zll Zrq Zhp Zo4 Zif Zo3 Zbq Zm8 List.length_append G.agg.injEq G.row.injEq G.ref.injEq G.val.injEq G.sl.injEq G.tup.injEq Value.int.injEq Value.bool.injEq Value.string.injEq List.cons.injEq exists_and_left exists_const List.flatten_cons List.flatten_nil Int.le_refl Nat.le_refl Zam Xx K1 Bool.not_eq_true' Bool.not_eq_false' Zm0 Zga Zra Zrg Zq9 Zrf Zwc Zv8 List.size_toArray Zlp Zlq G.ren G.rens Zn9 Zcy Zls Zkr Zks Zih Zrh Zcx G.fn.injEq Zja Zjb Zmz Zv9 Zi9 Zrd Zwb Zwa Zrc Zpi Zuh Option.join_none Yp Kv undef Zg1 Arr.len Arr.put_eq Zda Zfv Zdt Zck Zlj Zlh Zli onB Zuo Znq Zig Zhd Zhe Zhf Zhg Zhh Zhi Zfs Zfz Zfx Zdw Zcm Zfy Zh9 Zh8 Zh7 Zh6 Zwy Zyr Zrp Zpv V0 Zrl Zk4 Zf0 Zdv Ztj Zlu Ze0 Zgz Zbi Zf1 Zhj Zhk Zhl Zhm Zfb Zfc Zfd Zfe Zff Zfg Zfh Zca prT Zc6 Z00 Zqw Zy1 Zqx Z01 Zqy Zrs Zqz Z02 Zq0 Z03 Zq1 Z04 Zq2 Z05 Zq3 Zu5 Zlz Zu6 Zl0 Zu7 Zl1 Zu8 Zl2 Zu9 Zl3 Zva Zl4 Zvb Zl5 Zvc Zl6 Zvd Zl7 Zve Zl8 Zvf Zl9 Zvg Zgv Zqu Zab Zvh Zma V4 Zmb Zvi Zmc Zvj Zmd Zvk Zme Zvl Zmf Zvm Zmg Zvn Zmh Zvo Zmi Zvp Zmj Zvq Zmk Zlx Zml Zvr Zmm Zly Zmn Zvs Zmo Zg5 Zmp Zbp Zmq Zvt Zmr Zvu Zms Zvv Zmt Zvw Zmu Zvx Zmv Zvy Zmw Zvz Zmx Zqv Zmy Zp6 Zij Zp7 Zik Zp8 Zil Zp9 Zim Zqa Zin Zqb Zio Zkh Zf7 Zqc Zip Zqd Ziq Zqe Zir Zqf Zis Zqg Zit Zqh Ziu Zqi Ziv Zqj Ziw Zqk Zix Zql Ziy Zqm Ziz Zqn Zi0 Zqo Zi1 Zqp Zi2 Zqq Zi3 Zqr Zi4 Zqs Zi5 Zqt Zi6 Zb Ya Zei Zeh Zdk Zdr Zek Zcs Zco Zcn Zee Us Ur Ui Um Ut V5 V2 V1 Up Zm Yz Zp Zt Yv Yj Y5 Z7 J4 J0 Jo Jt J6 Q5 Q3 Q1 Jx Kt Ks Kl Kq Ku Jz Jw Jv Kr Gw Gv Gj Gr Gy U7 U6 U5 Gu J5 J3 Jp Ju J7 Q6 Q4 Q2 Jy Zgb Zf9 Zfo Zfu Zgc Zef Zd7 Zd6 Zf8
theorem Zh4 {Yt : (S_api_Edit → Int → Option Bool)} {Xw : (Int → S_api_Op → Int → Option Bool)} (Gc : ∀ {a0 : S_api_Edit} {a1 : Int} {r : Bool} {O : Objs} {n : Nat}, Yt a0 a1 = some r → GTo Try.prog 48 [.agg (Zh a0), .val (.int .i64 a1)] O n (.val (.bool r)) O n) (Zdq : ∀ {a0 : Int} {a1 : S_api_Op} {a2 : Int} {r : Bool} {O : Objs} {n : Nat}, Xw a0 a1 a2 = some r → GTo Try.prog 78 [.val (.int .i64 a0), .agg (Ym a1), .val (.int .i64 a2)] O n (.val (.bool r)) O n) {a0 : S_api_Edit} {a1 : Int} {r : Bool} {O : Objs} {n : Nat} (h : K4 Yt Xw a0 a1 = some r) : GTo Try.prog 48 [.agg (Zh a0), .val (.int .i64 a1)] O n (.val (.bool r)) O n := by
 unfold K4 at h
 refine Xj Zd Try.call48 Try.func48 rfl (Nat.le_of_ble_eq_true rfl) (Nat.le_refl _) fun hU => ?_
 have hN0 : O n = none := hU.fresh _ (Nat.le_refl _)
 have hN : ∀ k, O (n + k) = none := fun k => hU.fresh _ (Nat.le_add_right _ _)
 show W _ _ _ _ ⟨216, [], [(0, .agg (Zh a0)), (1, .val (.int .i64 a1))]⟩ (Zy O n []) _
 refine Zr [1, 2] (Zc Zd [] ?_)
 simp only [push_cast, seval, ↓reduceIte, Za, hN0, hN]
 refine Zl ?_
 refine Zr [1, 2, 24] (Zc Zd [none, none, none, none, none, none] ?_)
 simp only [push_cast, seval, ↓reduceIte, Za, hN0, hN]
 repeat (with_reducible refine And.intro (by first | (intro h0; simp only [h0, and_self]; done) | (intro h0; simp only [h0, Bool.not_false, Bool.not_true, Bool.true_and, Bool.and_true, true_and, and_true, and_self, imp_self, implies_true, bne_iff_ne, ne_eq, beq_iff_eq]; done) | (intros; simp_all; done) | exact True.intro) ?_)
 refine Zw (t := (cond (cond (a1 == 0) true (decide (a0.Kind < 0))) true (decide (3 < a0.Kind)))) rfl (fun c58 => ?_) (fun c58 => ?_)
 ·replace h := Zv c58 h
  refine Zr [4] (Zc Zd [] ?_)
  simp only [push_cast, seval, ↓reduceIte, Za, hN0, hN]
  refine Z5 ?_
  try simp only [Zk, Zg]
  have h := Option.some.inj h; subst h
  refine Zs (.inr rfl) hU [.val (.bool false)] (by omega) ?_
  simp only [push_cast, seval, ↓reduceIte, Za, Try.results48, hN0, hN]
 replace h := Zu c58 h
 refine Z0 ?_
 try simp only [Zk, Zg]
 refine Zi [1, 2] [true] ?_
 simp only [push_cast, seval, ↓reduceIte]
 refine Zl ?_
 obtain ⟨z3, hz3, h⟩ := bC h
 refine Xg (E' := ⟨216, [], [(1, .val (.int .i64 a1)), (2, .ref n 0), (69, .val (.bool z3))]⟩) (O' := (Zy O n [some ⟨false, 54, 11, 1, (Zh a0)⟩])) (n0 := (n + 1)) ?_ ?_
 ·rcases Bool.eq_false_or_eq_true (a0.Kind != 1) with c8 | c8
  ·replace hz3 := Zv c8 hz3
   obtain ⟨y6, hy6, hz3⟩ := bC hz3
   rcases Bool.eq_false_or_eq_true y6 with c9 | c9
   ·replace hz3 := Zv c9 hz3
    try rw [c9] at c8
    obtain ⟨y7, hy7, hz3⟩ := bC hz3
    refine Zc Zd [some true, some true, some true, some true, some true, some true, some true, some true, some true, none, none, none, none, none, none, none, none, none, none, none, none, none, none, none, none, none, none, none, none, none, none, none, none, none, none, none] ?_
    simp only [push_cast, seval, ↓reduceIte, Za, c8, c9, hN0, hN]
    repeat (with_reducible refine And.intro (by first | (intro h0; simp only [h0, and_self]; done) | (intro h0; simp only [h0, Bool.not_false, Bool.not_true, Bool.true_and, Bool.and_true, true_and, and_true, and_self, imp_self, implies_true, bne_iff_ne, ne_eq, beq_iff_eq]; done) | (intros; simp_all; done) | exact True.intro) ?_)
    refine (Jf hy6).then ?_
    simp only [push_cast, seval, ↓reduceIte, Za, c8, c9, hN0, hN]
    repeat (with_reducible refine And.intro (by first | (intro h0; simp only [h0, and_self]; done) | (intro h0; simp only [h0, Bool.not_false, Bool.not_true, Bool.true_and, Bool.and_true, true_and, and_true, and_self, imp_self, implies_true, bne_iff_ne, ne_eq, beq_iff_eq]; done) | (intros; simp_all; done) | exact True.intro) ?_)
    refine (Jf hy7).then ?_
    simp only [push_cast, seval, ↓reduceIte, Za, c8, c9, hN0, hN]
    repeat (with_reducible refine And.intro (by first | (intro h0; simp only [h0, and_self]; done) | (intro h0; simp only [h0, Bool.not_false, Bool.not_true, Bool.true_and, Bool.and_true, true_and, and_true, and_self, imp_self, implies_true, bne_iff_ne, ne_eq, beq_iff_eq]; done) | (intros; simp_all; done) | exact True.intro) ?_)
    have hz3 := Option.some.inj hz3; subst hz3
    refine And.intro rfl (Fit2.of (Zj hU rfl rfl ?_) (by omega))
    simp only [push_cast, seval, ↓reduceIte, Za, c8, c9, hN0, hN]
   replace hz3 := Zu c9 hz3
   try rw [c9] at c8
   refine Zc Zd [some true, some true, some true, some true, some false, some false, some false, some true, some true, some false, some false, some false, some false, some false, some false, some false, some false, some false, some false, some false, some false, some false, some false, some false, some false, some false, some false, some false, some false, some false, some false, some false, some false, some false, some false, some false] ?_
   simp only [push_cast, seval, ↓reduceIte, Za, c8, c9, hN0, hN]
   refine (Jf hy6).then ?_
   simp only [push_cast, seval, ↓reduceIte, Za, c8, c9, hN0, hN]
   have hz3 := Option.some.inj hz3; subst hz3
   refine And.intro rfl (Fit2.of (Zj hU rfl rfl ?_) (by omega))
   simp only [push_cast, seval, ↓reduceIte, Za, c8, c9, hN0, hN]
  replace hz3 := Zu c8 hz3
  refine Zc Zd [some false, some false, some false, some false, some false, some false, some false, some false, some false, some true, some true, some true, some true, none, none, none, none, none, none, none, none, some true, none, none, none, none, none, none, none, none, none, none, none, none, none, none] ?_
  simp only [push_cast, seval, ↓reduceIte, Za, c8, hN0, hN]
  repeat (with_reducible refine And.intro (by first | (intro h0; simp only [h0, and_self]; done) | (intro h0; simp only [h0, Bool.not_false, Bool.not_true, Bool.true_and, Bool.and_true, true_and, and_true, and_self, imp_self, implies_true, bne_iff_ne, ne_eq, beq_iff_eq]; done) | (intros; simp_all; done) | exact True.intro) ?_)
  have hz3 := Option.some.inj hz3; subst hz3
  refine And.intro rfl (Fit2.of (Zj hU rfl rfl ?_) (by omega))
  simp only [push_cast, seval, ↓reduceIte, Za, c8, hN0, hN]
 refine Zw (t := z3) rfl (fun c57 => ?_) (fun c57 => ?_)
 ·replace h := Zv c57 h
  refine Zr [4] (Zc Zd [] ?_)
  simp only [push_cast, seval, ↓reduceIte, Za, hN0, hN]
  refine Z5 ?_
  try simp only [Zk, Zg]
  have h := Option.some.inj h; subst h
  refine Zs (.inr rfl) hU [.val (.bool false)] (by omega) ?_
  simp only [push_cast, seval, ↓reduceIte, Za, Try.results48, hN0, hN]
 replace h := Zu c57 h
 refine Z0 ?_
 try simp only [Zk, Zg]
 refine Zi [1, 2] [true] ?_
 simp only [push_cast, seval, ↓reduceIte]
 refine Zl ?_
 refine Zr [1, 2, 72] (Zc Zd [] ?_)
 simp only [push_cast, seval, ↓reduceIte, Za, hN0, hN]
 refine Zw (t := (a0.Kind == 1)) rfl (fun c56 => ?_) (fun c56 => ?_)
 ·replace h := Zv c56 h
  obtain ⟨z12, hz12, h⟩ := bC h
  refine Xg (E' := ⟨216, [], [(4, .val (.bool z12))]⟩) (O' := (Zy O n [none])) (n0 := (n + 1)) ?_ ?_
  ·obtain ⟨y15, hy15, hz12⟩ := bC hz12
   rcases Bool.eq_false_or_eq_true y15 with c17 | c17
   ·replace hz12 := Zv c17 hz12
    obtain ⟨y16, hy16, hz12⟩ := bC hz12
    refine Zc Zd [some true, some true, some true, none, none, none, none, none, none, none, none] ?_
    simp only [push_cast, seval, ↓reduceIte, Za, c17, hN0, hN]
    repeat (with_reducible refine And.intro (by first | (intro h0; simp only [h0, and_self]; done) | (intro h0; simp only [h0, Bool.not_false, Bool.not_true, Bool.true_and, Bool.and_true, true_and, and_true, and_self, imp_self, implies_true, bne_iff_ne, ne_eq, beq_iff_eq]; done) | (intros; simp_all; done) | exact True.intro) ?_)
    refine (Kp hy15).then ?_
    simp only [push_cast, seval, ↓reduceIte, Za, c17, hN0, hN]
    repeat (with_reducible refine And.intro (by first | (intro h0; simp only [h0, and_self]; done) | (intro h0; simp only [h0, Bool.not_false, Bool.not_true, Bool.true_and, Bool.and_true, true_and, and_true, and_self, imp_self, implies_true, bne_iff_ne, ne_eq, beq_iff_eq]; done) | (intros; simp_all; done) | exact True.intro) ?_)
    refine (Kp hy16).then ?_
    simp only [push_cast, seval, ↓reduceIte, Za, c17, hN0, hN]
    repeat (with_reducible refine And.intro (by first | (intro h0; simp only [h0, and_self]; done) | (intro h0; simp only [h0, Bool.not_false, Bool.not_true, Bool.true_and, Bool.and_true, true_and, and_true, and_self, imp_self, implies_true, bne_iff_ne, ne_eq, beq_iff_eq]; done) | (intros; simp_all; done) | exact True.intro) ?_)
    have hz12 := Option.some.inj hz12; subst hz12
    refine And.intro rfl (Fit2.of (Zj hU rfl rfl ?_) (by omega))
    simp only [push_cast, seval, ↓reduceIte, Za, c17, hN0, hN]
   replace hz12 := Zu c17 hz12
   refine Zc Zd [some false, some false, some false, some false, some false, some false, some false, some false, some false, some false, some false] ?_
   simp only [push_cast, seval, ↓reduceIte, Za, c17, hN0, hN]
   refine (Kp hy15).then ?_
   simp only [push_cast, seval, ↓reduceIte, Za, c17, hN0, hN]
   have hz12 := Option.some.inj hz12; subst hz12
   refine And.intro rfl (Fit2.of (Zj hU rfl rfl ?_) (by omega))
   simp only [push_cast, seval, ↓reduceIte, Za, c17, hN0, hN]
  refine Z5 ?_
  try simp only [Zk, Zg]
  have h := Option.some.inj h; subst h
  refine Zs (.inr rfl) hU [.val (.bool z12)] (by omega) ?_
  simp only [push_cast, seval, ↓reduceIte, Za, Try.results48, hN0, hN]
 replace h := Zu c56 h
 refine Z0 ?_
 try simp only [Zk, Zg]
 refine Zi [1, 2] [true] ?_
 simp only [push_cast, seval, ↓reduceIte]
 refine Zr [1, 2, 5] (Zc Zd [] ?_)
 simp only [push_cast, seval, ↓reduceIte, Za, hN0, hN]
 refine Zl ?_
 refine Zr [1, 2, 5, 6] (Zc Zd [] ?_)
 simp only [push_cast, seval, ↓reduceIte, Za, hN0, hN]
 refine Zi [1, 2, 5, 6] [true] ?_
 simp only [push_cast, seval, ↓reduceIte]
 obtain ⟨z33, hz33, h⟩ := bC h
 refine Za3 (J := (Qv (fun z33 => JR n (⟨216, [], [(4, .val (.bool false))]⟩ : Env) (Zy O n [none]) (n + 1)) (fun z33 => JX 0 n (⟨216, [], [(1, .val (.int .i64 a1)), (2, .ref n 0)]⟩ : Env) (Zy O n [some ⟨false, 54, 11, 1, (Zh a0)⟩]) (n + 1)))) (z := z33) ?_ fun hw => ?_
 ·refine Y6 hz33 (fun s0_ => ⟨216, [], [(1, .val (.int .i64 a1)), (2, .ref n 0), (5, .val (.int .i64 s0_.1)), (6, .val (.int .i64 s0_.2))]⟩) (fun s0_ => (Zy O n [some ⟨false, 54, 11, 1, (Zh a0)⟩])) (Qv (fun z33 => JR n (⟨216, [], [(4, .val (.bool false))]⟩ : Env) (Zy O n [none]) (n + 1)) (fun z33 => JX 0 n (⟨216, [], [(1, .val (.int .i64 a1)), (2, .ref n 0)]⟩ : Env) (Zy O n [some ⟨false, 54, 11, 1, (Zh a0)⟩]) (n + 1))) ?_
  intro s0_ x0_ hs0_
  unfold X9 at hs0_
  try dsimp only
  refine Zl ?_
  refine Zr [1, 2, 5, 6, 97] (Zc Zd [] ?_)
  simp only [push_cast, seval, ↓reduceIte, Za, hN0, hN]
  refine Zw (t := (decide (s0_.2 < (a0.Words.length : Int)))) rfl (fun c32 => ?_) (fun c32 => ?_)
  ·replace hs0_ := Zv c32 hs0_
   refine Z0 ?_
   try simp only [Zk, Zg]
   refine Zi [1, 2, 5, 6] [true] ?_
   simp only [push_cast, seval, ↓reduceIte]
   refine Zl ?_
   refine Yr ?_
   refine Zl ?_
   obtain ⟨x19, hx19, ax19, bx19, cx19, hs0_⟩ := bE (f := Zm) Zqv (fun _ => rfl) (by decide) hs0_
   refine Zc Zd [] ?_
   simp only [push_cast, Nat.reduceAdd, Nat.reduceSub, Nat.reduceMul, Nat.reduceLeDiff, Nat.reduceLT, Nat.reduceEqDiff, ↓reduceIte, reduceCtorEq, Int.reduceBEq, Int.reduceBNe, Nat.reduceBEq, Int.reduceLE, Int.reduceLT, Int.reduceEq, Int.reduceNe, Int.reduceNeg, Nat.reduceDiv, Nat.reduceMod, Nat.reducePow, Za, ax19, bx19, cx19, hN0, hN]
   refine Zi [1, 2, 5, 6, 7] [true, true] ?_
   simp only [push_cast, seval, ↓reduceIte]
   refine Zl ?_
   obtain ⟨z22, hz22, hs0_⟩ := bC hs0_
   refine Xg (E' := ⟨216, [], [(1, .val (.int .i64 a1)), (2, .ref n 0), (6, .val (.int .i64 s0_.2)), (7, .ref (n + 1) 0), (134, .val (.bool z22))]⟩) (O' := (Zy O n [some ⟨false, 54, 11, 1, (Zh a0)⟩, some ⟨false, 91, 4, 1, (Q8 x19)⟩])) (n0 := (n + 2)) ?_ ?_
   ·rcases Bool.eq_false_or_eq_true (decide (x19.At ≤ s0_.1)) with c27 | c27
    ·replace hz22 := Zv c27 hz22
     refine Zc Zd [none, none, none, none, none, none, some false, some false, some false, some false, some false, some false, some false, some false, some false, some false, some false, some false] ?_
     simp only [push_cast, seval, ↓reduceIte, Za, c27, hN0, hN]
     repeat (with_reducible refine And.intro (by first | (intro h0; simp only [h0, and_self]; done) | (intro h0; simp only [h0, Bool.not_false, Bool.not_true, Bool.true_and, Bool.and_true, true_and, and_true, and_self, imp_self, implies_true, bne_iff_ne, ne_eq, beq_iff_eq]; done) | (intros; simp_all; done) | exact True.intro) ?_)
     have hz22 := Option.some.inj hz22; subst hz22
     refine And.intro rfl (Fit2.of (Zj hU rfl rfl ?_) (by omega))
     simp only [push_cast, seval, ↓reduceIte, Za, c27, hN0, hN]
    replace hz22 := Zu c27 hz22
    rcases Bool.eq_false_or_eq_true (decide (65534 < x19.At)) with c28 | c28
    ·replace hz22 := Zv c28 hz22
     try rw [c28] at c27
     refine Zc Zd [none, none, none, none, none, none, some false, some false, some false, some false, some false, some false, some false, some false, some false, some false, some false, some false] ?_
     simp only [push_cast, seval, ↓reduceIte, Za, c27, c28, hN0, hN]
     repeat (with_reducible refine And.intro (by first | (intro h0; simp only [h0, and_self]; done) | (intro h0; simp only [h0, Bool.not_false, Bool.not_true, Bool.true_and, Bool.and_true, true_and, and_true, and_self, imp_self, implies_true, bne_iff_ne, ne_eq, beq_iff_eq]; done) | (intros; simp_all; done) | exact True.intro) ?_)
     have hz22 := Option.some.inj hz22; subst hz22
     refine And.intro rfl (Fit2.of (Zj hU rfl rfl ?_) (by omega))
     simp only [push_cast, seval, ↓reduceIte, Za, c27, c28, hN0, hN]
    replace hz22 := Zu c28 hz22
    try rw [c28] at c27
    rcases Bool.eq_false_or_eq_true (x19.Mask == 0) with c29 | c29
    ·replace hz22 := Zv c29 hz22
     try rw [c29] at c27
     try rw [c29] at c28
     refine Zc Zd [none, none, none, none, none, none, some false, some false, some false, some false, some false, some false, some false, some false, some false, some false, some false, some false] ?_
     simp only [push_cast, seval, ↓reduceIte, Za, c27, c28, c29, hN0, hN]
     repeat (with_reducible refine And.intro (by first | (intro h0; simp only [h0, and_self]; done) | (intro h0; simp only [h0, Bool.not_false, Bool.not_true, Bool.true_and, Bool.and_true, true_and, and_true, and_self, imp_self, implies_true, bne_iff_ne, ne_eq, beq_iff_eq]; done) | (intros; simp_all; done) | exact True.intro) ?_)
     have hz22 := Option.some.inj hz22; subst hz22
     refine And.intro rfl (Fit2.of (Zj hU rfl rfl ?_) (by omega))
     simp only [push_cast, seval, ↓reduceIte, Za, c27, c28, c29, hN0, hN]
    replace hz22 := Zu c29 hz22
    try rw [c29] at c27
    try rw [c29] at c28
    obtain ⟨y25, hy25, hz22⟩ := bC hz22
    rcases Bool.eq_false_or_eq_true y25 with c30 | c30
    ·replace hz22 := Zv c30 hz22
     try rw [c30] at c27
     try rw [c30] at c28
     try rw [c30] at c29
     obtain ⟨y26, hy26, hz22⟩ := bC hz22
     refine Zc Zd [none, none, none, none, none, none, some true, some true, some true, some true, some true, some true, some true, some true, some true, some true, some true, some true] ?_
     simp only [push_cast, seval, ↓reduceIte, Za, c27, c28, c29, c30, hN0, hN]
     repeat (with_reducible refine And.intro (by first | (intro h0; simp only [h0, and_self]; done) | (intro h0; simp only [h0, Bool.not_false, Bool.not_true, Bool.true_and, Bool.and_true, true_and, and_true, and_self, imp_self, implies_true, bne_iff_ne, ne_eq, beq_iff_eq]; done) | (intros; simp_all; done) | exact True.intro) ?_)
     refine (Gq hy25).then ?_
     simp only [push_cast, seval, ↓reduceIte, Za, c27, c28, c29, c30, hN0, hN]
     repeat (with_reducible refine And.intro (by first | (intro h0; simp only [h0, and_self]; done) | (intro h0; simp only [h0, Bool.not_false, Bool.not_true, Bool.true_and, Bool.and_true, true_and, and_true, and_self, imp_self, implies_true, bne_iff_ne, ne_eq, beq_iff_eq]; done) | (intros; simp_all; done) | exact True.intro) ?_)
     refine (Gq hy26).then ?_
     simp only [push_cast, seval, ↓reduceIte, Za, c27, c28, c29, c30, hN0, hN]
     repeat (with_reducible refine And.intro (by first | (intro h0; simp only [h0, and_self]; done) | (intro h0; simp only [h0, Bool.not_false, Bool.not_true, Bool.true_and, Bool.and_true, true_and, and_true, and_self, imp_self, implies_true, bne_iff_ne, ne_eq, beq_iff_eq]; done) | (intros; simp_all; done) | exact True.intro) ?_)
     have hz22 := Option.some.inj hz22; subst hz22
     refine And.intro rfl (Fit2.of (Zj hU rfl rfl ?_) (by omega))
     simp only [push_cast, seval, ↓reduceIte, Za, c27, c28, c29, c30, hN0, hN]
    replace hz22 := Zu c30 hz22
    try rw [c30] at c27
    try rw [c30] at c28
    try rw [c30] at c29
    refine Zc Zd [none, none, none, none, none, none, some true, some true, some true, some true, some true, some true, some false, some false, some false, some false, some false, some false] ?_
    simp only [push_cast, seval, ↓reduceIte, Za, c27, c28, c29, c30, hN0, hN]
    repeat (with_reducible refine And.intro (by first | (intro h0; simp only [h0, and_self]; done) | (intro h0; simp only [h0, Bool.not_false, Bool.not_true, Bool.true_and, Bool.and_true, true_and, and_true, and_self, imp_self, implies_true, bne_iff_ne, ne_eq, beq_iff_eq]; done) | (intros; simp_all; done) | exact True.intro) ?_)
    refine (Gq hy25).then ?_
    simp only [push_cast, seval, ↓reduceIte, Za, c27, c28, c29, c30, hN0, hN]
    repeat (with_reducible refine And.intro (by first | (intro h0; simp only [h0, and_self]; done) | (intro h0; simp only [h0, Bool.not_false, Bool.not_true, Bool.true_and, Bool.and_true, true_and, and_true, and_self, imp_self, implies_true, bne_iff_ne, ne_eq, beq_iff_eq]; done) | (intros; simp_all; done) | exact True.intro) ?_)
    have hz22 := Option.some.inj hz22; subst hz22
    refine And.intro rfl (Fit2.of (Zj hU rfl rfl ?_) (by omega))
    simp only [push_cast, seval, ↓reduceIte, Za, c27, c28, c29, c30, hN0, hN]
   refine Zw (t := z22) rfl (fun c31 => ?_) (fun c31 => ?_)
   ·replace hs0_ := Zv c31 hs0_
    refine Zr [4] (Zc Zd [] ?_)
    simp only [push_cast, seval, ↓reduceIte, Za, hN0, hN]
    refine Z5 ?_
    try simp only [Zk, Zg]
    have hs0_ := Option.some.inj hs0_; subst hs0_
    refine And.intro (fun h => by cases h) (And.intro rfl (Fit2.of (Zj hU rfl rfl ?_) (by omega)))
    simp only [push_cast, seval, ↓reduceIte, Za, hN0, hN]
   replace hs0_ := Zu c31 hs0_
   refine Z0 ?_
   try simp only [Zk, Zg]
   refine Zi [1, 2, 6, 7] [true, true] ?_
   simp only [push_cast, seval, ↓reduceIte]
   refine Zc Zd [] ?_
   simp only [push_cast, seval, ↓reduceIte, Za, hN0, hN]
   refine Zi [1, 2, 5, 6] [true, false] ?_
   simp only [push_cast, seval, ↓reduceIte]
   refine Zc Zd [] ?_
   simp only [push_cast, seval, ↓reduceIte, Za, hN0, hN]
   have hs0_ := Option.some.inj hs0_; subst hs0_
   refine And.intro rfl (Fit2.of (Zj hU rfl rfl ?_) (by omega))
   simp only [push_cast, seval, ↓reduceIte, Za, hN0, hN]
  replace hs0_ := Zu c32 hs0_
  refine Qd ?_
  try simp only [Zk, Zg, ↓reduceIte, Nat.reduceEqDiff]
  have hs0_ := Option.some.inj hs0_; subst hs0_
  refine And.intro (fun h => by cases h) (And.intro rfl (Fit2.of (Zj hU rfl rfl ?_) (by omega)))
  simp only [push_cast, seval, ↓reduceIte, Za, hN0, hN]
 rcases z33 with z33 | z33
 ·dsimp only [Qv] at hw h
  refine Vo hw ?_
  try simp only [Zk, Zg, ↓reduceIte, Nat.reduceEqDiff]
  have h := Option.some.inj h; subst h
  refine Zs (.inr rfl) hU [.val (.bool false)] (by omega) ?_
  simp only [push_cast, seval, ↓reduceIte, Za, Try.results48, hN0, hN]
 dsimp only [Qv] at hw h
 refine Yq hw ?_
 try simp only [Zk, Zg, ↓reduceIte, Nat.reduceEqDiff]
 refine Zi [1, 2] [true] ?_
 simp only [push_cast, seval, ↓reduceIte]
 refine Zr [1, 2, 5] (Zc Zd [] ?_)
 simp only [push_cast, seval, ↓reduceIte, Za, hN0, hN]
 refine Zl ?_
 refine Zr [1, 2, 5, 8] (Zc Zd [] ?_)
 simp only [push_cast, seval, ↓reduceIte, Za, hN0, hN]
 refine Zi [1, 2, 5, 8] [true] ?_
 simp only [push_cast, seval, ↓reduceIte]
 obtain ⟨z45, hz45, h⟩ := bC h
 refine Za3 (J := (Qv (fun z45 => JR n (⟨216, [], [(4, .val (.bool false))]⟩ : Env) (Zy O n [none]) (n + 1)) (fun z45 => JX 2 n (⟨216, [], [(1, .val (.int .i64 a1)), (2, .ref n 0)]⟩ : Env) (Zy O n [some ⟨false, 54, 11, 1, (Zh a0)⟩]) (n + 1)))) (z := z45) ?_ fun hw => ?_
 ·refine Y6 hz45 (fun s1_ => ⟨216, [], [(1, .val (.int .i64 a1)), (2, .ref n 0), (5, .val (.int .i64 s1_.1)), (8, .val (.int .i64 s1_.2))]⟩) (fun s1_ => (Zy O n [some ⟨false, 54, 11, 1, (Zh a0)⟩])) (Qv (fun z45 => JR n (⟨216, [], [(4, .val (.bool false))]⟩ : Env) (Zy O n [none]) (n + 1)) (fun z45 => JX 2 n (⟨216, [], [(1, .val (.int .i64 a1)), (2, .ref n 0)]⟩ : Env) (Zy O n [some ⟨false, 54, 11, 1, (Zh a0)⟩]) (n + 1))) ?_
  intro s1_ x1_ hs1_
  unfold Qa at hs1_
  try dsimp only
  refine Zl ?_
  refine Zr [1, 2, 5, 8, 141] (Zc Zd [] ?_)
  simp only [push_cast, seval, ↓reduceIte, Za, hN0, hN]
  refine Zw (t := (decide (s1_.2 < (a0.Kids.length : Int)))) rfl (fun c44 => ?_) (fun c44 => ?_)
  ·replace hs1_ := Zv c44 hs1_
   refine Z0 ?_
   try simp only [Zk, Zg]
   refine Zi [1, 2, 5, 8] [true] ?_
   simp only [push_cast, seval, ↓reduceIte]
   refine Zl ?_
   refine Yr ?_
   refine Zl ?_
   obtain ⟨x35, hx35, ax35, bx35, cx35, hs1_⟩ := bE (f := Zp) Zly (fun _ => rfl) (by decide) hs1_
   refine Zc Zd [] ?_
   simp only [push_cast, Nat.reduceAdd, Nat.reduceSub, Nat.reduceMul, Nat.reduceLeDiff, Nat.reduceLT, Nat.reduceEqDiff, ↓reduceIte, reduceCtorEq, Int.reduceBEq, Int.reduceBNe, Nat.reduceBEq, Int.reduceLE, Int.reduceLT, Int.reduceEq, Int.reduceNe, Int.reduceNeg, Nat.reduceDiv, Nat.reduceMod, Nat.reducePow, Za, ax35, bx35, cx35, hN0, hN]
   refine Zi [1, 2, 5, 8, 9] [true, true] ?_
   simp only [push_cast, seval, ↓reduceIte]
   refine Zl ?_
   obtain ⟨z37, hz37, hs1_⟩ := bC hs1_
   refine Xg (E' := ⟨216, [], [(1, .val (.int .i64 a1)), (2, .ref n 0), (8, .val (.int .i64 s1_.2)), (9, .ref (n + 1) 0), (171, .val (.bool z37))]⟩) (O' := (Zy O n [some ⟨false, 54, 11, 1, (Zh a0)⟩, some ⟨false, 62, 12, 1, (Vi x35)⟩])) (n0 := (n + 2)) ?_ ?_
   ·rcases Bool.eq_false_or_eq_true (decide (x35.At ≤ s1_.1)) with c40 | c40
    ·replace hz37 := Zv c40 hz37
     refine Zc Zd [none, none, none, none, none, none, none, some false, some false, some false, some false, some false, some false] ?_
     simp only [push_cast, seval, ↓reduceIte, Za, c40, hN0, hN]
     repeat (with_reducible refine And.intro (by first | (intro h0; simp only [h0, and_self]; done) | (intro h0; simp only [h0, Bool.not_false, Bool.not_true, Bool.true_and, Bool.and_true, true_and, and_true, and_self, imp_self, implies_true, bne_iff_ne, ne_eq, beq_iff_eq]; done) | (intros; simp_all; done) | exact True.intro) ?_)
     have hz37 := Option.some.inj hz37; subst hz37
     refine And.intro rfl (Fit2.of (Zj hU rfl rfl ?_) (by omega))
     simp only [push_cast, seval, ↓reduceIte, Za, c40, hN0, hN]
    replace hz37 := Zu c40 hz37
    rcases Bool.eq_false_or_eq_true (decide (65534 < x35.At)) with c41 | c41
    ·replace hz37 := Zv c41 hz37
     try rw [c41] at c40
     refine Zc Zd [none, none, none, none, none, none, none, some false, some false, some false, some false, some false, some false] ?_
     simp only [push_cast, seval, ↓reduceIte, Za, c40, c41, hN0, hN]
     repeat (with_reducible refine And.intro (by first | (intro h0; simp only [h0, and_self]; done) | (intro h0; simp only [h0, Bool.not_false, Bool.not_true, Bool.true_and, Bool.and_true, true_and, and_true, and_self, imp_self, implies_true, bne_iff_ne, ne_eq, beq_iff_eq]; done) | (intros; simp_all; done) | exact True.intro) ?_)
     have hz37 := Option.some.inj hz37; subst hz37
     refine And.intro rfl (Fit2.of (Zj hU rfl rfl ?_) (by omega))
     simp only [push_cast, seval, ↓reduceIte, Za, c40, c41, hN0, hN]
    replace hz37 := Zu c41 hz37
    try rw [c41] at c40
    rcases Bool.eq_false_or_eq_true (x35.E.Kind == 0) with c42 | c42
    ·replace hz37 := Zv c42 hz37
     try rw [c42] at c40
     try rw [c42] at c41
     refine Zc Zd [none, none, none, none, none, none, none, some false, some false, some false, some false, some false, some false] ?_
     simp only [push_cast, seval, ↓reduceIte, Za, c40, c41, c42, hN0, hN]
     repeat (with_reducible refine And.intro (by first | (intro h0; simp only [h0, and_self]; done) | (intro h0; simp only [h0, Bool.not_false, Bool.not_true, Bool.true_and, Bool.and_true, true_and, and_true, and_self, imp_self, implies_true, bne_iff_ne, ne_eq, beq_iff_eq]; done) | (intros; simp_all; done) | exact True.intro) ?_)
     have hz37 := Option.some.inj hz37; subst hz37
     refine And.intro rfl (Fit2.of (Zj hU rfl rfl ?_) (by omega))
     simp only [push_cast, seval, ↓reduceIte, Za, c40, c41, c42, hN0, hN]
    replace hz37 := Zu c42 hz37
    try rw [c42] at c40
    try rw [c42] at c41
    obtain ⟨y39, hy39, hz37⟩ := bC hz37
    refine Zc Zd [none, none, none, none, none, none, none, some true, some true, some true, some true, some true, some true] ?_
    simp only [push_cast, seval, ↓reduceIte, Za, c40, c41, c42, hN0, hN]
    repeat (with_reducible refine And.intro (by first | (intro h0; simp only [h0, and_self]; done) | (intro h0; simp only [h0, Bool.not_false, Bool.not_true, Bool.true_and, Bool.and_true, true_and, and_true, and_self, imp_self, implies_true, bne_iff_ne, ne_eq, beq_iff_eq]; done) | (intros; simp_all; done) | exact True.intro) ?_)
    refine (Gc hy39).then ?_
    simp only [push_cast, seval, ↓reduceIte, Za, c40, c41, c42, hN0, hN]
    repeat (with_reducible refine And.intro (by first | (intro h0; simp only [h0, and_self]; done) | (intro h0; simp only [h0, Bool.not_false, Bool.not_true, Bool.true_and, Bool.and_true, true_and, and_true, and_self, imp_self, implies_true, bne_iff_ne, ne_eq, beq_iff_eq]; done) | (intros; simp_all; done) | exact True.intro) ?_)
    have hz37 := Option.some.inj hz37; subst hz37
    refine And.intro rfl (Fit2.of (Zj hU rfl rfl ?_) (by omega))
    simp only [push_cast, seval, ↓reduceIte, Za, c40, c41, c42, hN0, hN]
   refine Zw (t := z37) rfl (fun c43 => ?_) (fun c43 => ?_)
   ·replace hs1_ := Zv c43 hs1_
    refine Zr [4] (Zc Zd [] ?_)
    simp only [push_cast, seval, ↓reduceIte, Za, hN0, hN]
    refine Z5 ?_
    try simp only [Zk, Zg]
    have hs1_ := Option.some.inj hs1_; subst hs1_
    refine And.intro (fun h => by cases h) (And.intro rfl (Fit2.of (Zj hU rfl rfl ?_) (by omega)))
    simp only [push_cast, seval, ↓reduceIte, Za, hN0, hN]
   replace hs1_ := Zu c43 hs1_
   refine Z0 ?_
   try simp only [Zk, Zg]
   refine Zi [1, 2, 8, 9] [true, true] ?_
   simp only [push_cast, seval, ↓reduceIte]
   refine Zc Zd [] ?_
   simp only [push_cast, seval, ↓reduceIte, Za, hN0, hN]
   refine Zi [1, 2, 5, 8] [true, false] ?_
   simp only [push_cast, seval, ↓reduceIte]
   refine Zc Zd [] ?_
   simp only [push_cast, seval, ↓reduceIte, Za, hN0, hN]
   have hs1_ := Option.some.inj hs1_; subst hs1_
   refine And.intro rfl (Fit2.of (Zj hU rfl rfl ?_) (by omega))
   simp only [push_cast, seval, ↓reduceIte, Za, hN0, hN]
  replace hs1_ := Zu c44 hs1_
  refine Qd ?_
  try simp only [Zk, Zg, ↓reduceIte, Nat.reduceEqDiff]
  have hs1_ := Option.some.inj hs1_; subst hs1_
  refine And.intro (fun h => by cases h) (And.intro rfl (Fit2.of (Zj hU rfl rfl ?_) (by omega)))
  simp only [push_cast, seval, ↓reduceIte, Za, hN0, hN]
 rcases z45 with z45 | z45
 ·dsimp only [Qv] at hw h
  refine Vo hw ?_
  try simp only [Zk, Zg, ↓reduceIte, Nat.reduceEqDiff]
  have h := Option.some.inj h; subst h
  refine Zs (.inr rfl) hU [.val (.bool false)] (by omega) ?_
  simp only [push_cast, seval, ↓reduceIte, Za, Try.results48, hN0, hN]
 dsimp only [Qv] at hw h
 refine Yq hw ?_
 try simp only [Zk, Zg, ↓reduceIte, Nat.reduceEqDiff]
 refine Zi [1, 2] [true] ?_
 simp only [push_cast, seval, ↓reduceIte]
 refine Zl ?_
 refine Zr [1, 2, 186] (Zc Zd [none, none, none, none, none, none, none, none] ?_)
 simp only [push_cast, seval, ↓reduceIte, Za, hN0, hN]
 repeat (with_reducible refine And.intro (by first | (intro h0; simp only [h0, and_self]; done) | (intro h0; simp only [h0, Bool.not_false, Bool.not_true, Bool.true_and, Bool.and_true, true_and, and_true, and_self, imp_self, implies_true, bne_iff_ne, ne_eq, beq_iff_eq]; done) | (intros; simp_all; done) | exact True.intro) ?_)
 refine Zw (t := (cond (a0.Kind == 3) (cond (decide (a0.List_ < 2)) true (decide (9 < a0.List_))) false)) rfl (fun c55 => ?_) (fun c55 => ?_)
 ·replace h := Zv c55 h
  refine Zr [4] (Zc Zd [] ?_)
  simp only [push_cast, seval, ↓reduceIte, Za, hN0, hN]
  refine Z5 ?_
  try simp only [Zk, Zg]
  have h := Option.some.inj h; subst h
  refine Zs (.inr rfl) hU [.val (.bool false)] (by omega) ?_
  simp only [push_cast, seval, ↓reduceIte, Za, Try.results48, hN0, hN]
 replace h := Zu c55 h
 refine Z0 ?_
 try simp only [Zk, Zg]
 refine Zi [1, 2] [true] ?_
 simp only [push_cast, seval, ↓reduceIte]
 refine Zl ?_
 refine Zr [1, 2, 10] (Zc Zd [] ?_)
 simp only [push_cast, seval, ↓reduceIte, Za, hN0, hN]
 refine Zi [1, 2, 10] [true] ?_
 simp only [push_cast, seval, ↓reduceIte]
 obtain ⟨z52, hz52, h⟩ := bC h
 refine Za3 (J := (Qv (fun z52 => JR n (⟨216, [], [(4, .val (.bool false))]⟩ : Env) (Zy O n [none]) (n + 1)) (fun z52 => JX 4 n (⟨216, [], [(2, .ref n 0)]⟩ : Env) (Zy O n [some ⟨false, 54, 11, 1, (Zh a0)⟩]) (n + 1)))) (z := z52) ?_ fun hw => ?_
 ·refine Y6 hz52 (fun s2_ => ⟨216, [], [(1, .val (.int .i64 a1)), (2, .ref n 0), (10, .val (.int .i64 s2_))]⟩) (fun s2_ => (Zy O n [some ⟨false, 54, 11, 1, (Zh a0)⟩])) (Qv (fun z52 => JR n (⟨216, [], [(4, .val (.bool false))]⟩ : Env) (Zy O n [none]) (n + 1)) (fun z52 => JX 4 n (⟨216, [], [(2, .ref n 0)]⟩ : Env) (Zy O n [some ⟨false, 54, 11, 1, (Zh a0)⟩]) (n + 1))) ?_
  intro s2_ x2_ hs2_
  unfold Xh at hs2_
  try dsimp only
  refine Zl ?_
  refine Zr [1, 2, 10, 191] (Zc Zd [] ?_)
  simp only [push_cast, seval, ↓reduceIte, Za, hN0, hN]
  refine Zw (t := (decide (s2_ < (a0.Ops.length : Int)))) rfl (fun c51 => ?_) (fun c51 => ?_)
  ·replace hs2_ := Zv c51 hs2_
   refine Z0 ?_
   try simp only [Zk, Zg]
   refine Zi [1, 2, 10] [true] ?_
   simp only [push_cast, seval, ↓reduceIte]
   refine Zl ?_
   refine Yr ?_
   refine Zl ?_
   obtain ⟨x48, hx48, ax48, bx48, cx48, hs2_⟩ := bE (f := Zt) Zg5 (fun _ => rfl) (by decide) hs2_
   obtain ⟨y49, hy49, hs2_⟩ := bC hs2_
   refine X4 Zd (by kernel_rfl) [] (by kernel_rfl) ?_
   simp only [push_cast, Nat.reduceAdd, Nat.reduceSub, Nat.reduceMul, Nat.reduceLeDiff, Nat.reduceLT, Nat.reduceEqDiff, ↓reduceIte, reduceCtorEq, Int.reduceBEq, Int.reduceBNe, Nat.reduceBEq, Int.reduceLE, Int.reduceLT, Int.reduceEq, Int.reduceNe, Int.reduceNeg, Nat.reduceDiv, Nat.reduceMod, Nat.reducePow, Za, ax48, bx48, cx48, hN0, hN]
   refine PCall.of (Zdq hy49) ?_
   simp only [push_cast, Nat.reduceAdd, Nat.reduceSub, Nat.reduceMul, Nat.reduceLeDiff, Nat.reduceLT, Nat.reduceEqDiff, ↓reduceIte, reduceCtorEq, Int.reduceBEq, Int.reduceBNe, Nat.reduceBEq, Int.reduceLE, Int.reduceLT, Int.reduceEq, Int.reduceNe, Int.reduceNeg, Nat.reduceDiv, Nat.reduceMod, Nat.reducePow, Za, ax48, bx48, cx48, hN0, hN]
   refine Zi [1, 2, 10, 204] [true] ?_
   simp only [push_cast, seval, ↓reduceIte]
   refine Zw (t := (!y49)) rfl (fun c50 => ?_) (fun c50 => ?_)
   ·replace hs2_ := Zv c50 hs2_
    refine Zr [4] (Zc Zd [] ?_)
    simp only [push_cast, seval, ↓reduceIte, Za, hN0, hN]
    refine Z5 ?_
    try simp only [Zk, Zg]
    have hs2_ := Option.some.inj hs2_; subst hs2_
    refine And.intro (fun h => by cases h) (And.intro rfl (Fit2.of (Zj hU rfl rfl ?_) (by omega)))
    simp only [push_cast, seval, ↓reduceIte, Za, hN0, hN]
   replace hs2_ := Zu c50 hs2_
   refine Z0 ?_
   try simp only [Zk, Zg]
   refine Zi [1, 2, 10] [true] ?_
   simp only [push_cast, seval, ↓reduceIte]
   refine Zc Zd [] ?_
   simp only [push_cast, seval, ↓reduceIte, Za, hN0, hN]
   have hs2_ := Option.some.inj hs2_; subst hs2_
   refine And.intro rfl (Fit2.of (Zj hU rfl rfl ?_) (by omega))
   simp only [push_cast, seval, ↓reduceIte, Za, hN0, hN]
  replace hs2_ := Zu c51 hs2_
  refine Qd ?_
  try simp only [Zk, Zg, ↓reduceIte, Nat.reduceEqDiff]
  have hs2_ := Option.some.inj hs2_; subst hs2_
  refine And.intro (fun h => by cases h) (And.intro rfl (Fit2.of (Zj hU rfl rfl ?_) (by omega)))
  simp only [push_cast, seval, ↓reduceIte, Za, hN0, hN]
 rcases z52 with z52 | z52
 ·dsimp only [Qv] at hw h
  refine Vo hw ?_
  try simp only [Zk, Zg, ↓reduceIte, Nat.reduceEqDiff]
  have h := Option.some.inj h; subst h
  refine Zs (.inr rfl) hU [.val (.bool false)] (by omega) ?_
  simp only [push_cast, seval, ↓reduceIte, Za, Try.results48, hN0, hN]
 dsimp only [Qv] at hw h
 refine Yq hw ?_
 try simp only [Zk, Zg, ↓reduceIte, Nat.reduceEqDiff]
 refine Zi [2] [true] ?_
 simp only [push_cast, seval, ↓reduceIte]
 refine Zl ?_
 obtain ⟨y54, hy54, h⟩ := bC h
 refine Zc Zd [] ?_
 simp only [push_cast, seval, ↓reduceIte, Za, hN0, hN]
 refine (Zbn hy54).then ?_
 simp only [push_cast, seval, ↓reduceIte, Za, hN0, hN]
 refine Zi [11, 12] [false] ?_
 simp only [push_cast, seval, ↓reduceIte]
 refine Zr [4] (Zc Zd [none, none] ?_)
 simp only [push_cast, seval, ↓reduceIte, Za, hN0, hN]
 repeat (with_reducible refine And.intro (by first | (intro h0; simp only [h0, and_self]; done) | (intro h0; simp only [h0, Bool.not_false, Bool.not_true, Bool.true_and, Bool.and_true, true_and, and_true, and_self, imp_self, implies_true, bne_iff_ne, ne_eq, beq_iff_eq]; done) | (intros; simp_all; done) | exact True.intro) ?_)
 refine Z5 ?_
 try simp only [Zk, Zg]
 have h := Option.some.inj h; subst h
 refine Zs (.inr rfl) hU [.val (.bool (cond (decide (y54.1 < 1048576)) (decide (y54.2 < 1048576)) false))] (by omega) ?_
 simp only [push_cast, seval, ↓reduceIte, Za, Try.results48, hN0, hN]
theorem Zlb {Yt : (S_api_Edit → Int → Option Bool)} {Xw : (Int → S_api_Op → Int → Option Bool)} (Gc : ∀ {a0 : S_api_Edit} {a1 : Int} {r : Bool} {O : Objs} {n : Nat}, Yt a0 a1 = some r → GTo Try.prog 48 [.agg (Zh a0), .val (.int .i64 a1)] O n (.val (.bool r)) O n) (Zdq : ∀ {a0 : Int} {a1 : S_api_Op} {a2 : Int} {r : Bool} {O : Objs} {n : Nat}, Xw a0 a1 a2 = some r → GTo Try.prog 78 [.val (.int .i64 a0), .agg (Ym a1), .val (.int .i64 a2)] O n (.val (.bool r)) O n) {a0 : Int} {a1 : S_api_Op} {a2 : Int} {r : Bool} {O : Objs} {n : Nat} (h : U0 Yt Xw a0 a1 a2 = some r) : GTo Try.prog 78 [.val (.int .i64 a0), .agg (Ym a1), .val (.int .i64 a2)] O n (.val (.bool r)) O n := by
 unfold U0 at h
 refine Xj Zd Try.call78 Try.func78 rfl (Nat.le_of_ble_eq_true rfl) (Nat.le_refl _) fun hU => ?_
 have hN0 : O n = none := hU.fresh _ (Nat.le_refl _)
 have hN : ∀ k, O (n + k) = none := fun k => hU.fresh _ (Nat.le_add_right _ _)
 show W _ _ _ _ ⟨121, [], [(0, .val (.int .i64 a0)), (1, .agg (Ym a1)), (2, .val (.int .i64 a2))]⟩ (Zy O n []) _
 refine Zr [0, 2, 4] (Zc Zd [] ?_)
 simp only [push_cast, seval, ↓reduceIte, Za, hN0, hN]
 refine Zl ?_
 refine Zr [0, 2, 4, 10] (Zc Zd [] ?_)
 simp only [push_cast, seval, ↓reduceIte, Za, hN0, hN]
 refine Zw (t := (a1.Kind == 0)) rfl (fun c30 => ?_) (fun c30 => ?_)
 ·replace h := Zv c30 h
  obtain ⟨z2, hz2, h⟩ := bC h
  refine Xg (E' := ⟨121, [], [(6, .val (.bool z2))]⟩) (O' := (Zy O n [none])) (n0 := (n + 1)) ?_ ?_
  ·rcases Bool.eq_false_or_eq_true (decide (1 ≤ a1.N)) with c5 | c5
   ·replace hz2 := Zv c5 hz2
    rcases Bool.eq_false_or_eq_true (decide (a1.N ≤ 1048576)) with c6 | c6
    ·replace hz2 := Zv c6 hz2
     try rw [c6] at c5
     rcases Bool.eq_false_or_eq_true ((a1.L.length : Int) == 0) with c7 | c7
     ·replace hz2 := Zv c7 hz2
      try rw [c7] at c5
      try rw [c7] at c6
      obtain ⟨y4, hy4, hz2⟩ := bC hz2
      refine Zc Zd [none, none, none, none, none, none, none, some true, some true, some true] ?_
      simp only [push_cast, seval, ↓reduceIte, Za, c5, c6, c7, hN0, hN]
      repeat (with_reducible refine And.intro (by first | (intro h0; simp only [h0, and_self]; done) | (intro h0; simp only [h0, Bool.not_false, Bool.not_true, Bool.true_and, Bool.and_true, true_and, and_true, and_self, imp_self, implies_true, bne_iff_ne, ne_eq, beq_iff_eq]; done) | (intros; simp_all; done) | exact True.intro) ?_)
      refine (Zdp hy4).then ?_
      simp only [push_cast, seval, ↓reduceIte, Za, c5, c6, c7, hN0, hN]
      repeat (with_reducible refine And.intro (by first | (intro h0; simp only [h0, and_self]; done) | (intro h0; simp only [h0, Bool.not_false, Bool.not_true, Bool.true_and, Bool.and_true, true_and, and_true, and_self, imp_self, implies_true, bne_iff_ne, ne_eq, beq_iff_eq]; done) | (intros; simp_all; done) | exact True.intro) ?_)
      have hz2 := Option.some.inj hz2; subst hz2
      refine And.intro rfl (Fit2.of (Zj hU rfl rfl ?_) (by omega))
      simp only [push_cast, seval, ↓reduceIte, Za, c5, c6, c7, hN0, hN]
     replace hz2 := Zu c7 hz2
     try rw [c7] at c5
     try rw [c7] at c6
     refine Zc Zd [none, none, none, none, none, none, none, some false, some false, some false] ?_
     simp only [push_cast, seval, ↓reduceIte, Za, c5, c6, c7, hN0, hN]
     repeat (with_reducible refine And.intro (by first | (intro h0; simp only [h0, and_self]; done) | (intro h0; simp only [h0, Bool.not_false, Bool.not_true, Bool.true_and, Bool.and_true, true_and, and_true, and_self, imp_self, implies_true, bne_iff_ne, ne_eq, beq_iff_eq]; done) | (intros; simp_all; done) | exact True.intro) ?_)
     have hz2 := Option.some.inj hz2; subst hz2
     refine And.intro rfl (Fit2.of (Zj hU rfl rfl ?_) (by omega))
     simp only [push_cast, seval, ↓reduceIte, Za, c5, c6, c7, hN0, hN]
    replace hz2 := Zu c6 hz2
    try rw [c6] at c5
    refine Zc Zd [none, none, none, none, none, none, none, some false, some false, some false] ?_
    simp only [push_cast, seval, ↓reduceIte, Za, c5, c6, hN0, hN]
    repeat (with_reducible refine And.intro (by first | (intro h0; simp only [h0, and_self]; done) | (intro h0; simp only [h0, Bool.not_false, Bool.not_true, Bool.true_and, Bool.and_true, true_and, and_true, and_self, imp_self, implies_true, bne_iff_ne, ne_eq, beq_iff_eq]; done) | (intros; simp_all; done) | exact True.intro) ?_)
    have hz2 := Option.some.inj hz2; subst hz2
    refine And.intro rfl (Fit2.of (Zj hU rfl rfl ?_) (by omega))
    simp only [push_cast, seval, ↓reduceIte, Za, c5, c6, hN0, hN]
   replace hz2 := Zu c5 hz2
   refine Zc Zd [none, none, none, none, none, none, none, some false, some false, some false] ?_
   simp only [push_cast, seval, ↓reduceIte, Za, c5, hN0, hN]
   repeat (with_reducible refine And.intro (by first | (intro h0; simp only [h0, and_self]; done) | (intro h0; simp only [h0, Bool.not_false, Bool.not_true, Bool.true_and, Bool.and_true, true_and, and_true, and_self, imp_self, implies_true, bne_iff_ne, ne_eq, beq_iff_eq]; done) | (intros; simp_all; done) | exact True.intro) ?_)
   have hz2 := Option.some.inj hz2; subst hz2
   refine And.intro rfl (Fit2.of (Zj hU rfl rfl ?_) (by omega))
   simp only [push_cast, seval, ↓reduceIte, Za, c5, hN0, hN]
  refine Z5 ?_
  try simp only [Zk, Zg]
  have h := Option.some.inj h; subst h
  refine Zs (.inr rfl) hU [.val (.bool z2)] (by omega) ?_
  simp only [push_cast, seval, ↓reduceIte, Za, Try.results78, hN0, hN]
 replace h := Zu c30 h
 refine Z0 ?_
 try simp only [Zk, Zg]
 refine Zi [0, 2, 4] [true] ?_
 simp only [push_cast, seval, ↓reduceIte]
 refine Zl ?_
 refine Zr [0, 2, 4, 42] (Zc Zd [none, none, none, none, none, none] ?_)
 simp only [push_cast, seval, ↓reduceIte, Za, hN0, hN]
 repeat (with_reducible refine And.intro (by first | (intro h0; simp only [h0, and_self]; done) | (intro h0; simp only [h0, Bool.not_false, Bool.not_true, Bool.true_and, Bool.and_true, true_and, and_true, and_self, imp_self, implies_true, bne_iff_ne, ne_eq, beq_iff_eq]; done) | (intros; simp_all; done) | exact True.intro) ?_)
 refine Zw (t := (cond (cond (a1.N != 0) true (decide (a1.Kind < 0))) true (decide (3 < a1.Kind)))) rfl (fun c29 => ?_) (fun c29 => ?_)
 ·replace h := Zv c29 h
  refine Zr [6] (Zc Zd [] ?_)
  simp only [push_cast, seval, ↓reduceIte, Za, hN0, hN]
  refine Z5 ?_
  try simp only [Zk, Zg]
  have h := Option.some.inj h; subst h
  refine Zs (.inr rfl) hU [.val (.bool false)] (by omega) ?_
  simp only [push_cast, seval, ↓reduceIte, Za, Try.results78, hN0, hN]
 replace h := Zu c29 h
 refine Z0 ?_
 try simp only [Zk, Zg]
 refine Zi [0, 2, 4] [true] ?_
 simp only [push_cast, seval, ↓reduceIte]
 refine Zl ?_
 refine Zr [0, 2, 4, 45] (Zc Zd [] ?_)
 simp only [push_cast, seval, ↓reduceIte, Za, hN0, hN]
 refine Zw (t := (decide (a1.Kind < 3))) rfl (fun c28 => ?_) (fun c28 => ?_)
 ·replace h := Zv c28 h
  refine Zl ?_
  refine Zr [0, 4, 7] (Zc Zd [] ?_)
  simp only [push_cast, seval, ↓reduceIte, Za, hN0, hN]
  refine Zi [0, 4, 7] [true] ?_
  simp only [push_cast, seval, ↓reduceIte]
  obtain ⟨z14, hz14, h⟩ := bC h
  refine Za3 (J := (Qv (fun z14 => JR n (⟨121, [], [(6, .val (.bool false))]⟩ : Env) (Zy O n [none]) (n + 1)) (fun z14 => JX 0 n (⟨121, [], [(4, .ref n 0)]⟩ : Env) (Zy O n [some ⟨false, 64, 14, 1, (Ym a1)⟩]) (n + 1)))) (z := z14) ?_ fun hw => ?_
  ·refine Y6 hz14 (fun s0_ => ⟨121, [], [(0, .val (.int .i64 a0)), (4, .ref n 0), (7, .val (.int .i64 s0_))]⟩) (fun s0_ => (Zy O n [some ⟨false, 64, 14, 1, (Ym a1)⟩])) (Qv (fun z14 => JR n (⟨121, [], [(6, .val (.bool false))]⟩ : Env) (Zy O n [none]) (n + 1)) (fun z14 => JX 0 n (⟨121, [], [(4, .ref n 0)]⟩ : Env) (Zy O n [some ⟨false, 64, 14, 1, (Ym a1)⟩]) (n + 1))) ?_
   intro s0_ x0_ hs0_
   unfold K5 at hs0_
   try dsimp only
   refine Zl ?_
   refine Zr [0, 4, 7, 50] (Zc Zd [] ?_)
   simp only [push_cast, seval, ↓reduceIte, Za, hN0, hN]
   refine Zw (t := (decide (s0_ < (a1.L.length : Int)))) rfl (fun c13 => ?_) (fun c13 => ?_)
   ·replace hs0_ := Zv c13 hs0_
    refine Z0 ?_
    try simp only [Zk, Zg]
    refine Zi [0, 4, 7] [true] ?_
    simp only [push_cast, seval, ↓reduceIte]
    refine Zl ?_
    refine Yr ?_
    refine Zl ?_
    obtain ⟨l10, al10, bl10, cl10, gl10, hs0_⟩ := bS (lo := (some (.i64, s0_))) (hi := (some (.i64, (IntKind.i64.wrap (s0_ + 1))))) (f := Zb) rfl rfl Zab V4 (fun _ => rfl) hs0_
    obtain ⟨y11, hy11, hs0_⟩ := bC hs0_
    refine Zc Zd [] ?_
    simp only [push_cast, seval, ↓reduceIte, Za, al10, bl10, cl10, gl10, hN0, hN]
    refine GCalls.argsW ?_ ((Kp hy11).then ?_)
    ·simp only [push_cast, seval, ↓reduceIte, Za, al10, bl10, cl10, gl10, hN0, hN]
    simp only [push_cast, seval, ↓reduceIte, Za, al10, bl10, cl10, gl10, hN0, hN]
    refine Zi [0, 4, 7, 62] [true] ?_
    simp only [push_cast, seval, ↓reduceIte]
    refine Zw (t := (!y11)) rfl (fun c12 => ?_) (fun c12 => ?_)
    ·replace hs0_ := Zv c12 hs0_
     refine Zr [6] (Zc Zd [] ?_)
     simp only [push_cast, seval, ↓reduceIte, Za, hN0, hN]
     refine Z5 ?_
     try simp only [Zk, Zg]
     have hs0_ := Option.some.inj hs0_; subst hs0_
     refine And.intro (fun h => by cases h) (And.intro rfl (Fit2.of (Zj hU rfl rfl ?_) (by omega)))
     simp only [push_cast, seval, ↓reduceIte, Za, hN0, hN]
    replace hs0_ := Zu c12 hs0_
    refine Z0 ?_
    try simp only [Zk, Zg]
    refine Zi [0, 4, 7] [true] ?_
    simp only [push_cast, seval, ↓reduceIte]
    refine Zc Zd [] ?_
    simp only [push_cast, seval, ↓reduceIte, Za, hN0, hN]
    have hs0_ := Option.some.inj hs0_; subst hs0_
    refine And.intro rfl (Fit2.of (Zj hU rfl rfl ?_) (by omega))
    simp only [push_cast, seval, ↓reduceIte, Za, hN0, hN]
   replace hs0_ := Zu c13 hs0_
   refine Qd ?_
   try simp only [Zk, Zg, ↓reduceIte, Nat.reduceEqDiff]
   have hs0_ := Option.some.inj hs0_; subst hs0_
   refine And.intro (fun h => by cases h) (And.intro rfl (Fit2.of (Zj hU rfl rfl ?_) (by omega)))
   simp only [push_cast, seval, ↓reduceIte, Za, hN0, hN]
  rcases z14 with z14 | z14
  ·dsimp only [Qv] at hw h
   refine Vo hw ?_
   try simp only [Zk, Zg, ↓reduceIte, Nat.reduceEqDiff]
   have h := Option.some.inj h; subst h
   refine Zs (.inr rfl) hU [.val (.bool false)] (by omega) ?_
   simp only [push_cast, seval, ↓reduceIte, Za, Try.results78, hN0, hN]
  dsimp only [Qv] at hw h
  refine Yq hw ?_
  try simp only [Zk, Zg, ↓reduceIte, Nat.reduceEqDiff]
  refine Zi [4] [true] ?_
  simp only [push_cast, seval, ↓reduceIte]
  obtain ⟨z16, hz16, h⟩ := bC h
  refine Xg (E' := ⟨121, [], [(6, .val (.bool z16))]⟩) (O' := (Zy O n [none])) (n0 := (n + 1)) ?_ ?_
  ·rcases Bool.eq_false_or_eq_true (decide (0 < (a1.L.length : Int))) with c19 | c19
   ·replace hz16 := Zv c19 hz16
    obtain ⟨y18, hy18, hz16⟩ := bC hz16
    refine Zc Zd [some true, some true, some true] ?_
    simp only [push_cast, seval, ↓reduceIte, Za, c19, hN0, hN]
    refine (Zdp hy18).then ?_
    simp only [push_cast, seval, ↓reduceIte, Za, c19, hN0, hN]
    have hz16 := Option.some.inj hz16; subst hz16
    refine And.intro rfl (Fit2.of (Zj hU rfl rfl ?_) (by omega))
    simp only [push_cast, seval, ↓reduceIte, Za, c19, hN0, hN]
   replace hz16 := Zu c19 hz16
   refine Zc Zd [some false, some false, some false] ?_
   simp only [push_cast, seval, ↓reduceIte, Za, c19, hN0, hN]
   have hz16 := Option.some.inj hz16; subst hz16
   refine And.intro rfl (Fit2.of (Zj hU rfl rfl ?_) (by omega))
   simp only [push_cast, seval, ↓reduceIte, Za, c19, hN0, hN]
  refine Z5 ?_
  try simp only [Zk, Zg]
  have h := Option.some.inj h; subst h
  refine Zs (.inr rfl) hU [.val (.bool z16)] (by omega) ?_
  simp only [push_cast, seval, ↓reduceIte, Za, Try.results78, hN0, hN]
 replace h := Zu c28 h
 refine Z0 ?_
 try simp only [Zk, Zg]
 refine Zi [0, 2, 4] [true] ?_
 simp only [push_cast, seval, ↓reduceIte]
 refine Zl ?_
 obtain ⟨z21, hz21, h⟩ := bC h
 refine Xg (E' := ⟨121, [], [(0, .val (.int .i64 a0)), (4, .ref n 0), (92, .val (.bool z21))]⟩) (O' := (Zy O n [some ⟨false, 64, 14, 1, (Ym a1)⟩])) (n0 := (n + 1)) ?_ ?_
 ·rcases Bool.eq_false_or_eq_true (decide (0 < (a1.L.length : Int))) with c24 | c24
  ·replace hz21 := Zv c24 hz21
   refine Zc Zd [none, none, none, none, none, none, some false, some false, some false, some false, some false] ?_
   simp only [push_cast, seval, ↓reduceIte, Za, c24, hN0, hN]
   repeat (with_reducible refine And.intro (by first | (intro h0; simp only [h0, and_self]; done) | (intro h0; simp only [h0, Bool.not_false, Bool.not_true, Bool.true_and, Bool.and_true, true_and, and_true, and_self, imp_self, implies_true, bne_iff_ne, ne_eq, beq_iff_eq]; done) | (intros; simp_all; done) | exact True.intro) ?_)
   have hz21 := Option.some.inj hz21; subst hz21
   refine And.intro rfl (Fit2.of (Zj hU rfl rfl ?_) (by omega))
   simp only [push_cast, seval, ↓reduceIte, Za, c24, hN0, hN]
  replace hz21 := Zu c24 hz21
  rcases Bool.eq_false_or_eq_true (a1.E.Kind == 0) with c25 | c25
  ·replace hz21 := Zv c25 hz21
   try rw [c25] at c24
   refine Zc Zd [none, none, none, none, none, none, some false, some false, some false, some false, some false] ?_
   simp only [push_cast, seval, ↓reduceIte, Za, c24, c25, hN0, hN]
   repeat (with_reducible refine And.intro (by first | (intro h0; simp only [h0, and_self]; done) | (intro h0; simp only [h0, Bool.not_false, Bool.not_true, Bool.true_and, Bool.and_true, true_and, and_true, and_self, imp_self, implies_true, bne_iff_ne, ne_eq, beq_iff_eq]; done) | (intros; simp_all; done) | exact True.intro) ?_)
   have hz21 := Option.some.inj hz21; subst hz21
   refine And.intro rfl (Fit2.of (Zj hU rfl rfl ?_) (by omega))
   simp only [push_cast, seval, ↓reduceIte, Za, c24, c25, hN0, hN]
  replace hz21 := Zu c25 hz21
  try rw [c25] at c24
  rcases Bool.eq_false_or_eq_true (decide (a0 ≤ 7)) with c26 | c26
  ·replace hz21 := Zv c26 hz21
   try rw [c26] at c24
   try rw [c26] at c25
   refine Zc Zd [none, none, none, none, none, none, some false, some false, some false, some false, some false] ?_
   simp only [push_cast, seval, ↓reduceIte, Za, c24, c25, c26, hN0, hN]
   repeat (with_reducible refine And.intro (by first | (intro h0; simp only [h0, and_self]; done) | (intro h0; simp only [h0, Bool.not_false, Bool.not_true, Bool.true_and, Bool.and_true, true_and, and_true, and_self, imp_self, implies_true, bne_iff_ne, ne_eq, beq_iff_eq]; done) | (intros; simp_all; done) | exact True.intro) ?_)
   have hz21 := Option.some.inj hz21; subst hz21
   refine And.intro rfl (Fit2.of (Zj hU rfl rfl ?_) (by omega))
   simp only [push_cast, seval, ↓reduceIte, Za, c24, c25, c26, hN0, hN]
  replace hz21 := Zu c26 hz21
  try rw [c26] at c24
  try rw [c26] at c25
  obtain ⟨y23, hy23, hz21⟩ := bC hz21
  refine Zc Zd [none, none, none, none, none, none, some true, some true, some true, some true, some true] ?_
  simp only [push_cast, seval, ↓reduceIte, Za, c24, c25, c26, hN0, hN]
  repeat (with_reducible refine And.intro (by first | (intro h0; simp only [h0, and_self]; done) | (intro h0; simp only [h0, Bool.not_false, Bool.not_true, Bool.true_and, Bool.and_true, true_and, and_true, and_self, imp_self, implies_true, bne_iff_ne, ne_eq, beq_iff_eq]; done) | (intros; simp_all; done) | exact True.intro) ?_)
  refine (Gc hy23).then ?_
  simp only [push_cast, seval, ↓reduceIte, Za, c24, c25, c26, hN0, hN]
  repeat (with_reducible refine And.intro (by first | (intro h0; simp only [h0, and_self]; done) | (intro h0; simp only [h0, Bool.not_false, Bool.not_true, Bool.true_and, Bool.and_true, true_and, and_true, and_self, imp_self, implies_true, bne_iff_ne, ne_eq, beq_iff_eq]; done) | (intros; simp_all; done) | exact True.intro) ?_)
  have hz21 := Option.some.inj hz21; subst hz21
  refine And.intro rfl (Fit2.of (Zj hU rfl rfl ?_) (by omega))
  simp only [push_cast, seval, ↓reduceIte, Za, c24, c25, c26, hN0, hN]
 refine Zw (t := z21) rfl (fun c27 => ?_) (fun c27 => ?_)
 ·replace h := Zv c27 h
  refine Zr [6] (Zc Zd [] ?_)
  simp only [push_cast, seval, ↓reduceIte, Za, hN0, hN]
  refine Z5 ?_
  try simp only [Zk, Zg]
  have h := Option.some.inj h; subst h
  refine Zs (.inr rfl) hU [.val (.bool false)] (by omega) ?_
  simp only [push_cast, seval, ↓reduceIte, Za, Try.results78, hN0, hN]
 replace h := Zu c27 h
 refine Z0 ?_
 try simp only [Zk, Zg]
 refine Zi [0, 4] [true] ?_
 simp only [push_cast, seval, ↓reduceIte]
 refine Zr [6] (Zc Zd [none, none, none, none, none, none, none, none, none, none, none, none, none, none, none, none, none, none, none, none, none, none] ?_)
 simp only [push_cast, seval, ↓reduceIte, Za, hN0, hN]
 repeat (with_reducible refine And.intro (by first | (intro h0; simp only [h0, and_self]; done) | (intro h0; simp only [h0, Bool.not_false, Bool.not_true, Bool.true_and, Bool.and_true, true_and, and_true, and_self, imp_self, implies_true, bne_iff_ne, ne_eq, beq_iff_eq]; done) | (intros; simp_all; done) | exact True.intro) ?_)
 refine Z5 ?_
 try simp only [Zk, Zg]
 have h := Option.some.inj h; subst h
 refine Zs (.inr rfl) hU [.val (.bool (cond (cond (a0 == 8) true (a1.E.Kind == 2)) true (cond (cond (a1.E.Kind == 1) (a1.E.Old.Kind == 1) false) (a1.E.New.Kind == 1) false)))] (by omega) ?_
 simp only [push_cast, seval, ↓reduceIte, Za, Try.results78, hN0, hN]
theorem Zgk : ∀ k, (∀ {a0 : S_api_Edit} {a1 : Int} {r : Bool} {O : Objs} {n : Nat}, (Z9 k).1 a0 a1 = some r → GTo Try.prog 48 [.agg (Zh a0), .val (.int .i64 a1)] O n (.val (.bool r)) O n) ∧ (∀ {a0 : Int} {a1 : S_api_Op} {a2 : Int} {r : Bool} {O : Objs} {n : Nat}, (Z9 k).2 a0 a1 a2 = some r → GTo Try.prog 78 [.val (.int .i64 a0), .agg (Ym a1), .val (.int .i64 a2)] O n (.val (.bool r)) O n) := fun k => by
 induction k with
 | zero => exact ⟨@fun a0 a1 r O n h => (nomatch (show (none : Option _) = some _ from h)), @fun a0 a1 a2 r O n h => (nomatch (show (none : Option _) = some _ from h))⟩
 | succ k ih => exact ⟨@fun a0 a1 r O n h => Zh4 (ih.1) (ih.2)  h, @fun a0 a1 a2 r O n h => Zlb (ih.1) (ih.2)  h⟩
theorem Zc2 {a0 : S_api_Edit} {a1 : Int} {r : Bool} {O : Objs} {n : Nat} (h : Zas a0 a1 = some r) : GTo Try.prog 48 [.agg (Zh a0), .val (.int .i64 a1)] O n (.val (.bool r)) O n := by
 obtain ⟨k, hk⟩ := Gk h
 exact (Zgk k).1  hk
theorem Zh3 {Xd : (S_api_Edit → Option Bool)} (Zbo : ∀ {a0 : S_api_Edit} {r : Bool} {O : Objs} {n : Nat}, Xd a0 = some r → GTo Try.prog 85 [.agg (Zh a0)] O n (.val (.bool r)) O n) {a0 : S_api_Edit} {r : Bool} {O : Objs} {n : Nat} (h : K3 Xd a0 = some r) : GTo Try.prog 85 [.agg (Zh a0)] O n (.val (.bool r)) O n := by
 unfold K3 at h
 refine Xj Zd Try.call85 Try.func85 rfl (Nat.le_of_ble_eq_true rfl) (Nat.le_refl _) fun hU => ?_
 have hN0 : O n = none := hU.fresh _ (Nat.le_refl _)
 have hN : ∀ k, O (n + k) = none := fun k => hU.fresh _ (Nat.le_add_right _ _)
 show W _ _ _ _ ⟨48, [], [(0, .agg (Zh a0))]⟩ (Zy O n []) _
 refine Zr [1] (Zc Zd [] ?_)
 simp only [push_cast, seval, ↓reduceIte, Za, hN0, hN]
 refine Zl ?_
 obtain ⟨y2, hy2, h⟩ := bC h
 refine Zc Zd [] ?_
 simp only [push_cast, seval, ↓reduceIte, Za, hN0, hN]
 refine (Zbn hy2).then ?_
 simp only [push_cast, seval, ↓reduceIte, Za, hN0, hN]
 refine Zi [1, 3, 4] [true] ?_
 simp only [push_cast, seval, ↓reduceIte]
 refine Zl ?_
 refine Zr [1, 17] (Zc Zd [none, none] ?_)
 simp only [push_cast, seval, ↓reduceIte, Za, hN0, hN]
 repeat (with_reducible refine And.intro (by first | (intro h0; simp only [h0, and_self]; done) | (intro h0; simp only [h0, Bool.not_false, Bool.not_true, Bool.true_and, Bool.and_true, true_and, and_true, and_self, imp_self, implies_true, bne_iff_ne, ne_eq, beq_iff_eq]; done) | (intros; simp_all; done) | exact True.intro) ?_)
 refine Zw (t := (cond (decide (2000 < y2.1)) true (decide (2000 < y2.2)))) rfl (fun c21 => ?_) (fun c21 => ?_)
 ·replace h := Zv c21 h
  refine Zr [2] (Zc Zd [] ?_)
  simp only [push_cast, seval, ↓reduceIte, Za, hN0, hN]
  refine Z5 ?_
  try simp only [Zk, Zg]
  have h := Option.some.inj h; subst h
  refine Zs (.inr rfl) hU [.val (.bool false)] (by omega) ?_
  simp only [push_cast, seval, ↓reduceIte, Za, Try.results85, hN0, hN]
 replace h := Zu c21 h
 refine Z0 ?_
 try simp only [Zk, Zg]
 refine Zi [1] [true] ?_
 simp only [push_cast, seval, ↓reduceIte]
 refine Zl ?_
 refine Zr [1, 5] (Zc Zd [] ?_)
 simp only [push_cast, seval, ↓reduceIte, Za, hN0, hN]
 refine Zi [1, 5] [true] ?_
 simp only [push_cast, seval, ↓reduceIte]
 obtain ⟨z11, hz11, h⟩ := bC h
 refine Za3 (J := (Qv (fun z11 => JR n (⟨48, [], [(2, .val (.bool false))]⟩ : Env) (Zy O n [none]) (n + 1)) (fun z11 => JX 0 n (⟨48, [], [(1, .ref n 0)]⟩ : Env) (Zy O n [some ⟨false, 54, 11, 1, (Zh a0)⟩]) (n + 1)))) (z := z11) ?_ fun hw => ?_
 ·refine Y6 hz11 (fun s0_ => ⟨48, [], [(1, .ref n 0), (5, .val (.int .i64 s0_))]⟩) (fun s0_ => (Zy O n [some ⟨false, 54, 11, 1, (Zh a0)⟩])) (Qv (fun z11 => JR n (⟨48, [], [(2, .val (.bool false))]⟩ : Env) (Zy O n [none]) (n + 1)) (fun z11 => JX 0 n (⟨48, [], [(1, .ref n 0)]⟩ : Env) (Zy O n [some ⟨false, 54, 11, 1, (Zh a0)⟩]) (n + 1))) ?_
  intro s0_ x0_ hs0_
  unfold Qx at hs0_
  try dsimp only
  refine Zl ?_
  refine Zr [1, 5, 22] (Zc Zd [] ?_)
  simp only [push_cast, seval, ↓reduceIte, Za, hN0, hN]
  refine Zw (t := (decide (s0_ < (a0.Kids.length : Int)))) rfl (fun c10 => ?_) (fun c10 => ?_)
  ·replace hs0_ := Zv c10 hs0_
   refine Z0 ?_
   try simp only [Zk, Zg]
   refine Zi [1, 5] [true] ?_
   simp only [push_cast, seval, ↓reduceIte]
   refine Zl ?_
   refine Yr ?_
   refine Zl ?_
   obtain ⟨x6, hx6, ax6, bx6, cx6, hs0_⟩ := bE (f := Zp) Zly (fun _ => rfl) (by decide) hs0_
   have g7 := Zbs (f := Zp) (off := 1) (sz := 12) Zlx (fun _ => rfl) (by decide) (by decide) hx6
   obtain ⟨y8, hy8, hs0_⟩ := bC hs0_
   refine Zc Zd [] ?_
   simp only [push_cast, Nat.reduceAdd, Nat.reduceSub, Nat.reduceMul, Nat.reduceLeDiff, Nat.reduceLT, Nat.reduceEqDiff, ↓reduceIte, reduceCtorEq, Int.reduceBEq, Int.reduceBNe, Nat.reduceBEq, Int.reduceLE, Int.reduceLT, Int.reduceEq, Int.reduceNe, Int.reduceNeg, Nat.reduceDiv, Nat.reduceMod, Nat.reducePow, Za, ax6, bx6, cx6, g7, hN0, hN]
   refine (Zbo hy8).then ?_
   simp only [push_cast, Nat.reduceAdd, Nat.reduceSub, Nat.reduceMul, Nat.reduceLeDiff, Nat.reduceLT, Nat.reduceEqDiff, ↓reduceIte, reduceCtorEq, Int.reduceBEq, Int.reduceBNe, Nat.reduceBEq, Int.reduceLE, Int.reduceLT, Int.reduceEq, Int.reduceNe, Int.reduceNeg, Nat.reduceDiv, Nat.reduceMod, Nat.reducePow, Za, ax6, bx6, cx6, g7, hN0, hN]
   refine Zi [1, 5, 32] [true] ?_
   simp only [push_cast, seval, ↓reduceIte]
   refine Zw (t := (!y8)) rfl (fun c9 => ?_) (fun c9 => ?_)
   ·replace hs0_ := Zv c9 hs0_
    refine Zr [2] (Zc Zd [] ?_)
    simp only [push_cast, seval, ↓reduceIte, Za, hN0, hN]
    refine Z5 ?_
    try simp only [Zk, Zg]
    have hs0_ := Option.some.inj hs0_; subst hs0_
    refine And.intro (fun h => by cases h) (And.intro rfl (Fit2.of (Zj hU rfl rfl ?_) (by omega)))
    simp only [push_cast, seval, ↓reduceIte, Za, hN0, hN]
   replace hs0_ := Zu c9 hs0_
   refine Z0 ?_
   try simp only [Zk, Zg]
   refine Zi [1, 5] [true] ?_
   simp only [push_cast, seval, ↓reduceIte]
   refine Zc Zd [] ?_
   simp only [push_cast, seval, ↓reduceIte, Za, hN0, hN]
   have hs0_ := Option.some.inj hs0_; subst hs0_
   refine And.intro rfl (Fit2.of (Zj hU rfl rfl ?_) (by omega))
   simp only [push_cast, seval, ↓reduceIte, Za, hN0, hN]
  replace hs0_ := Zu c10 hs0_
  refine Qd ?_
  try simp only [Zk, Zg, ↓reduceIte, Nat.reduceEqDiff]
  have hs0_ := Option.some.inj hs0_; subst hs0_
  refine And.intro (fun h => by cases h) (And.intro rfl (Fit2.of (Zj hU rfl rfl ?_) (by omega)))
  simp only [push_cast, seval, ↓reduceIte, Za, hN0, hN]
 rcases z11 with z11 | z11
 ·dsimp only [Qv] at hw h
  refine Vo hw ?_
  try simp only [Zk, Zg, ↓reduceIte, Nat.reduceEqDiff]
  have h := Option.some.inj h; subst h
  refine Zs (.inr rfl) hU [.val (.bool false)] (by omega) ?_
  simp only [push_cast, seval, ↓reduceIte, Za, Try.results85, hN0, hN]
 dsimp only [Qv] at hw h
 refine Yq hw ?_
 try simp only [Zk, Zg, ↓reduceIte, Nat.reduceEqDiff]
 refine Zi [1] [true] ?_
 simp only [push_cast, seval, ↓reduceIte]
 refine Zl ?_
 refine Zr [1, 6] (Zc Zd [] ?_)
 simp only [push_cast, seval, ↓reduceIte, Za, hN0, hN]
 refine Zi [1, 6] [true] ?_
 simp only [push_cast, seval, ↓reduceIte]
 obtain ⟨z20, hz20, h⟩ := bC h
 refine Za3 (J := (Qv (fun z20 => JR n (⟨48, [], [(2, .val (.bool false))]⟩ : Env) (Zy O n [none]) (n + 1)) (fun z20 => JX 2 n (⟨48, [], []⟩ : Env) (Zy O n [none]) (n + 1)))) (z := z20) ?_ fun hw => ?_
 ·refine Y6 hz20 (fun s1_ => ⟨48, [], [(1, .ref n 0), (6, .val (.int .i64 s1_))]⟩) (fun s1_ => (Zy O n [some ⟨false, 54, 11, 1, (Zh a0)⟩])) (Qv (fun z20 => JR n (⟨48, [], [(2, .val (.bool false))]⟩ : Env) (Zy O n [none]) (n + 1)) (fun z20 => JX 2 n (⟨48, [], []⟩ : Env) (Zy O n [none]) (n + 1))) ?_
  intro s1_ x1_ hs1_
  unfold Qy at hs1_
  try dsimp only
  refine Zl ?_
  refine Zr [1, 6, 37] (Zc Zd [] ?_)
  simp only [push_cast, seval, ↓reduceIte, Za, hN0, hN]
  refine Zw (t := (decide (s1_ < (a0.Ops.length : Int)))) rfl (fun c19 => ?_) (fun c19 => ?_)
  ·replace hs1_ := Zv c19 hs1_
   refine Z0 ?_
   try simp only [Zk, Zg]
   refine Zi [1, 6] [true] ?_
   simp only [push_cast, seval, ↓reduceIte]
   refine Zl ?_
   refine Yr ?_
   refine Zl ?_
   obtain ⟨x15, hx15, ax15, bx15, cx15, hs1_⟩ := bE (f := Zt) Zg5 (fun _ => rfl) (by decide) hs1_
   have g16 := Zbs (f := Zt) (off := 3) (sz := 14) Zlx (fun _ => rfl) (by decide) (by decide) hx15
   obtain ⟨y17, hy17, hs1_⟩ := bC hs1_
   refine Zc Zd [] ?_
   simp only [push_cast, Nat.reduceAdd, Nat.reduceSub, Nat.reduceMul, Nat.reduceLeDiff, Nat.reduceLT, Nat.reduceEqDiff, ↓reduceIte, reduceCtorEq, Int.reduceBEq, Int.reduceBNe, Nat.reduceBEq, Int.reduceLE, Int.reduceLT, Int.reduceEq, Int.reduceNe, Int.reduceNeg, Nat.reduceDiv, Nat.reduceMod, Nat.reducePow, Za, ax15, bx15, cx15, g16, hN0, hN]
   refine (Zbo hy17).then ?_
   simp only [push_cast, Nat.reduceAdd, Nat.reduceSub, Nat.reduceMul, Nat.reduceLeDiff, Nat.reduceLT, Nat.reduceEqDiff, ↓reduceIte, reduceCtorEq, Int.reduceBEq, Int.reduceBNe, Nat.reduceBEq, Int.reduceLE, Int.reduceLT, Int.reduceEq, Int.reduceNe, Int.reduceNeg, Nat.reduceDiv, Nat.reduceMod, Nat.reducePow, Za, ax15, bx15, cx15, g16, hN0, hN]
   refine Zi [1, 6, 47] [true] ?_
   simp only [push_cast, seval, ↓reduceIte]
   refine Zw (t := (!y17)) rfl (fun c18 => ?_) (fun c18 => ?_)
   ·replace hs1_ := Zv c18 hs1_
    refine Zr [2] (Zc Zd [] ?_)
    simp only [push_cast, seval, ↓reduceIte, Za, hN0, hN]
    refine Z5 ?_
    try simp only [Zk, Zg]
    have hs1_ := Option.some.inj hs1_; subst hs1_
    refine And.intro (fun h => by cases h) (And.intro rfl (Fit2.of (Zj hU rfl rfl ?_) (by omega)))
    simp only [push_cast, seval, ↓reduceIte, Za, hN0, hN]
   replace hs1_ := Zu c18 hs1_
   refine Z0 ?_
   try simp only [Zk, Zg]
   refine Zi [1, 6] [true] ?_
   simp only [push_cast, seval, ↓reduceIte]
   refine Zc Zd [] ?_
   simp only [push_cast, seval, ↓reduceIte, Za, hN0, hN]
   have hs1_ := Option.some.inj hs1_; subst hs1_
   refine And.intro rfl (Fit2.of (Zj hU rfl rfl ?_) (by omega))
   simp only [push_cast, seval, ↓reduceIte, Za, hN0, hN]
  replace hs1_ := Zu c19 hs1_
  refine Qd ?_
  try simp only [Zk, Zg, ↓reduceIte, Nat.reduceEqDiff]
  have hs1_ := Option.some.inj hs1_; subst hs1_
  refine And.intro (fun h => by cases h) (And.intro rfl (Fit2.of (Zj hU rfl rfl ?_) (by omega)))
  simp only [push_cast, seval, ↓reduceIte, Za, hN0, hN]
 rcases z20 with z20 | z20
 ·dsimp only [Qv] at hw h
  refine Vo hw ?_
  try simp only [Zk, Zg, ↓reduceIte, Nat.reduceEqDiff]
  have h := Option.some.inj h; subst h
  refine Zs (.inr rfl) hU [.val (.bool false)] (by omega) ?_
  simp only [push_cast, seval, ↓reduceIte, Za, Try.results85, hN0, hN]
 dsimp only [Qv] at hw h
 refine Yq hw ?_
 try simp only [Zk, Zg, ↓reduceIte, Nat.reduceEqDiff]
 refine Zi [] [false] ?_
 simp only [push_cast, seval, ↓reduceIte]
 refine Zr [2] (Zc Zd [] ?_)
 simp only [push_cast, seval, ↓reduceIte, Za, hN0, hN]
 refine Z5 ?_
 try simp only [Zk, Zg]
 have h := Option.some.inj h; subst h
 refine Zs (.inr rfl) hU [.val (.bool true)] (by omega) ?_
 simp only [push_cast, seval, ↓reduceIte, Za, Try.results85, hN0, hN]
theorem Zgj : ∀ k, (∀ {a0 : S_api_Edit} {r : Bool} {O : Objs} {n : Nat}, (X2 k) a0 = some r → GTo Try.prog 85 [.agg (Zh a0)] O n (.val (.bool r)) O n) := fun k => by
 induction k with
 | zero => exact @fun a0 r O n h => (nomatch (show (none : Option _) = some _ from h))
 | succ k ih => exact @fun a0 r O n h => Zh3 (ih)  h
theorem Zjp {a0 : S_api_Edit} {r : Bool} {O : Objs} {n : Nat} (h : Zar a0 = some r) : GTo Try.prog 85 [.agg (Zh a0)] O n (.val (.bool r)) O n := by
 obtain ⟨k, hk⟩ := Gk h
 exact (Zgj k)  hk
theorem Zka {a0 : S_api_Edit} {r : Bool} {O : Objs} {n : Nat} (h : Vy a0 = some r) : GTo Try.prog 54 [.agg (Zh a0)] O n (.val (.bool r)) O n := by
 unfold Vy at h
 refine Xj Zd Try.call54 Try.func54 rfl (Nat.le_of_ble_eq_true rfl) (Nat.le_refl _) fun hU => ?_
 have hN0 : O n = none := hU.fresh _ (Nat.le_refl _)
 have hN : ∀ k, O (n + k) = none := fun k => hU.fresh _ (Nat.le_add_right _ _)
 show W _ _ _ _ ⟨13, [], [(0, .agg (Zh a0))]⟩ (Zy O n []) _
 refine Zr [1] (Zc Zd [] ?_)
 simp only [push_cast, seval, ↓reduceIte, Za, hN0, hN]
 obtain ⟨z4, hz4, h⟩ := bC h
 refine Xg (E' := ⟨13, [], [(2, .val (.bool z4))]⟩) (O' := (Zy O n [none])) (n0 := (n + 1)) ?_ ?_
 ·obtain ⟨y8, hy8, hz4⟩ := bC hz4
  rcases Bool.eq_false_or_eq_true y8 with c11 | c11
  ·replace hz4 := Zv c11 hz4
   obtain ⟨y9, hy9, hz4⟩ := bC hz4
   rcases Bool.eq_false_or_eq_true y9 with c12 | c12
   ·replace hz4 := Zv c12 hz4
    try rw [c12] at c11
    obtain ⟨y10, hy10, hz4⟩ := bC hz4
    refine Zc Zd [some true, some true, some true, some true] ?_
    simp only [push_cast, seval, ↓reduceIte, Za, c11, c12, hN0, hN]
    refine (Zbe hy8).then ?_
    simp only [push_cast, seval, ↓reduceIte, Za, c11, c12, hN0, hN]
    refine (Zc2 hy9).then ?_
    simp only [push_cast, seval, ↓reduceIte, Za, c11, c12, hN0, hN]
    refine (Zjp hy10).then ?_
    simp only [push_cast, seval, ↓reduceIte, Za, c11, c12, hN0, hN]
    have hz4 := Option.some.inj hz4; subst hz4
    refine And.intro rfl (Fit2.of (Zj hU rfl rfl ?_) (by omega))
    simp only [push_cast, seval, ↓reduceIte, Za, c11, c12, hN0, hN]
   replace hz4 := Zu c12 hz4
   try rw [c12] at c11
   refine Zc Zd [some true, some true, some false, some false] ?_
   simp only [push_cast, seval, ↓reduceIte, Za, c11, c12, hN0, hN]
   refine (Zbe hy8).then ?_
   simp only [push_cast, seval, ↓reduceIte, Za, c11, c12, hN0, hN]
   refine (Zc2 hy9).then ?_
   simp only [push_cast, seval, ↓reduceIte, Za, c11, c12, hN0, hN]
   have hz4 := Option.some.inj hz4; subst hz4
   refine And.intro rfl (Fit2.of (Zj hU rfl rfl ?_) (by omega))
   simp only [push_cast, seval, ↓reduceIte, Za, c11, c12, hN0, hN]
  replace hz4 := Zu c11 hz4
  refine Zc Zd [some false, some false, some false, some false] ?_
  simp only [push_cast, seval, ↓reduceIte, Za, c11, hN0, hN]
  refine (Zbe hy8).then ?_
  simp only [push_cast, seval, ↓reduceIte, Za, c11, hN0, hN]
  have hz4 := Option.some.inj hz4; subst hz4
  refine And.intro rfl (Fit2.of (Zj hU rfl rfl ?_) (by omega))
  simp only [push_cast, seval, ↓reduceIte, Za, c11, hN0, hN]
 refine Z5 ?_
 try simp only [Zk, Zg]
 have h := Option.some.inj h; subst h
 refine Zs (.inr rfl) hU [.val (.bool z4)] (by omega) ?_
 simp only [push_cast, seval, ↓reduceIte, Za, Try.results54, hN0, hN]
theorem Ze7 {a0 : S_api_Edit} {a1 : S_api_Tree} {a2 : S_api_Tree} {r : Bool} {O : Objs} {n : Nat} (h : J9 a0 a1 a2 = some r) : GTo Try.prog 13 [.agg (Zh a0), .agg (Ze a1), .agg (Ze a2)] O n (.val (.bool r)) O n := by
 unfold J9 at h
 refine Xj Zd Try.call13 Try.func13 rfl (Nat.le_of_ble_eq_true rfl) (Nat.le_refl _) fun hU => ?_
 have hN0 : O n = none := hU.fresh _ (Nat.le_refl _)
 have hN : ∀ k, O (n + k) = none := fun k => hU.fresh _ (Nat.le_add_right _ _)
 show W _ _ _ _ ⟨55, [], [(0, .agg (Zh a0)), (1, .agg (Ze a1)), (2, .agg (Ze a2))]⟩ (Zy O n []) _
 refine Zr [3, 4, 5] (Zc Zd [] ?_)
 simp only [push_cast, seval, ↓reduceIte, Za, hN0, hN]
 refine Zl ?_
 obtain ⟨z4, hz4, h⟩ := bC h
 refine Xg (E' := ⟨55, [], [(3, .ref n 0), (4, .ref (n + 1) 0), (5, .ref (n + 2) 0), (23, .val (.bool z4))]⟩) (O' := (Zy O n [some ⟨false, 54, 11, 1, (Zh a0)⟩, some ⟨false, 25, 3, 1, (Ze a1)⟩, some ⟨false, 25, 3, 1, (Ze a2)⟩])) (n0 := (n + 3)) ?_ ?_
 ·obtain ⟨y8, hy8, hz4⟩ := bC hz4
  rcases Bool.eq_false_or_eq_true y8 with c11 | c11
  ·replace hz4 := Zv c11 hz4
   obtain ⟨y9, hy9, hz4⟩ := bC hz4
   rcases Bool.eq_false_or_eq_true y9 with c12 | c12
   ·replace hz4 := Zv c12 hz4
    try rw [c12] at c11
    obtain ⟨y10, hy10, hz4⟩ := bC hz4
    refine Zc Zd [some true, some true, some true, some true, some true, some true] ?_
    simp only [push_cast, seval, ↓reduceIte, Za, c11, c12, hN0, hN]
    refine (Vd hy8).then ?_
    simp only [push_cast, seval, ↓reduceIte, Za, c11, c12, hN0, hN]
    refine (Vd hy9).then ?_
    simp only [push_cast, seval, ↓reduceIte, Za, c11, c12, hN0, hN]
    refine (Zka hy10).then ?_
    simp only [push_cast, seval, ↓reduceIte, Za, c11, c12, hN0, hN]
    have hz4 := Option.some.inj hz4; subst hz4
    refine And.intro rfl (Fit2.of (Zj hU rfl rfl ?_) (by omega))
    simp only [push_cast, seval, ↓reduceIte, Za, c11, c12, hN0, hN]
   replace hz4 := Zu c12 hz4
   try rw [c12] at c11
   refine Zc Zd [some true, some true, some true, some false, some false, some false] ?_
   simp only [push_cast, seval, ↓reduceIte, Za, c11, c12, hN0, hN]
   refine (Vd hy8).then ?_
   simp only [push_cast, seval, ↓reduceIte, Za, c11, c12, hN0, hN]
   refine (Vd hy9).then ?_
   simp only [push_cast, seval, ↓reduceIte, Za, c11, c12, hN0, hN]
   have hz4 := Option.some.inj hz4; subst hz4
   refine And.intro rfl (Fit2.of (Zj hU rfl rfl ?_) (by omega))
   simp only [push_cast, seval, ↓reduceIte, Za, c11, c12, hN0, hN]
  replace hz4 := Zu c11 hz4
  refine Zc Zd [some false, some false, some false, some false, some false, some false] ?_
  simp only [push_cast, seval, ↓reduceIte, Za, c11, hN0, hN]
  refine (Vd hy8).then ?_
  simp only [push_cast, seval, ↓reduceIte, Za, c11, hN0, hN]
  have hz4 := Option.some.inj hz4; subst hz4
  refine And.intro rfl (Fit2.of (Zj hU rfl rfl ?_) (by omega))
  simp only [push_cast, seval, ↓reduceIte, Za, c11, hN0, hN]
 refine Zw (t := z4) rfl (fun c38 => ?_) (fun c38 => ?_)
 ·replace h := Zv c38 h
  refine Zl ?_
  obtain ⟨y14, hy14, h⟩ := bC h
  refine Zc Zd [] ?_
  simp only [push_cast, seval, ↓reduceIte, Za, hN0, hN]
  refine (Uc hy14).then ?_
  simp only [push_cast, seval, ↓reduceIte, Za, hN0, hN]
  refine Zi [6] [false, false, false] ?_
  simp only [push_cast, seval, ↓reduceIte]
  refine Z5 ?_
  try simp only [Zk, Zg]
  have h := Option.some.inj h; subst h
  refine Zs (.inr rfl) hU [.val (.bool y14)] (by omega) ?_
  simp only [push_cast, seval, ↓reduceIte, Za, Try.results13, hN0, hN]
 replace h := Zu c38 h
 refine Z0 ?_
 try simp only [Zk, Zg]
 refine Zi [3, 4, 5] [true, true, true] ?_
 simp only [push_cast, seval, ↓reduceIte]
 refine Zl ?_
 obtain ⟨y16, hy16, h⟩ := bC h
 refine Zc Zd [] ?_
 simp only [push_cast, seval, ↓reduceIte, Za, hN0, hN]
 refine (Zb4 hy16).then ?_
 simp only [push_cast, seval, ↓reduceIte, Za, hN0, hN]
 refine Zi [3, 4, 5, 7, 8] [true, true, true, true] ?_
 simp only [push_cast, seval, ↓reduceIte]
 refine Zl ?_
 obtain ⟨y18, hy18, h⟩ := bC h
 refine Zc Zd [] ?_
 simp only [push_cast, seval, ↓reduceIte, Za, hN0, hN]
 refine (Zb4 hy18).then ?_
 simp only [push_cast, seval, ↓reduceIte, Za, hN0, hN]
 refine Zi [4, 5, 7, 8, 9, 10] [false, true, true, true, true] ?_
 simp only [push_cast, seval, ↓reduceIte]
 obtain ⟨z24, hz24, h⟩ := bC h
 refine Xg (E' := ⟨55, [], [(6, .val (.bool z24))]⟩) (O' := (Zy O n [none, none, none, none, none])) (n0 := (n + 5)) ?_ ?_
 ·rcases Bool.eq_false_or_eq_true y16.2 with c35 | c35
  ·replace hz24 := Zv c35 hz24
   rcases Bool.eq_false_or_eq_true y18.2 with c36 | c36
   ·replace hz24 := Zv c36 hz24
    try rw [c36] at c35
    obtain ⟨y30, hy30, hz24⟩ := bC hz24
    obtain ⟨y31, hy31, hz24⟩ := bC hz24
    rcases Bool.eq_false_or_eq_true (y30 == y31) with c37 | c37
    ·replace hz24 := Zv c37 hz24
     try rw [c37] at c35
     try rw [c37] at c36
     obtain ⟨y32, hy32, hz24⟩ := bC hz24
     refine X4 Zd (by kernel_rfl) [none, none, some true, some true, some true, some true, some true, some true, some true, some true] (by kernel_rfl) ?_
     simp only [push_cast, seval, ↓reduceIte, Za, c35, c36, c37, hN0, hN]
     repeat (with_reducible refine And.intro (by first | (intro h0; simp only [h0, and_self]; done) | (intro h0; simp only [h0, Bool.not_false, Bool.not_true, Bool.true_and, Bool.and_true, true_and, and_true, and_self, imp_self, implies_true, bne_iff_ne, ne_eq, beq_iff_eq]; done) | (intros; simp_all; done) | exact True.intro) ?_)
     refine PCall.of (Ud hy30) ?_
     simp only [push_cast, seval, ↓reduceIte, Za, c35, c36, c37, hN0, hN]
     repeat (with_reducible refine And.intro (by first | (intro h0; simp only [h0, and_self]; done) | (intro h0; simp only [h0, Bool.not_false, Bool.not_true, Bool.true_and, Bool.and_true, true_and, and_true, and_self, imp_self, implies_true, bne_iff_ne, ne_eq, beq_iff_eq]; done) | (intros; simp_all; done) | exact True.intro) ?_)
     refine PCall.of (Ud hy31) ?_
     simp only [push_cast, seval, ↓reduceIte, Za, c35, c36, c37, hN0, hN]
     repeat (with_reducible refine And.intro (by first | (intro h0; simp only [h0, and_self]; done) | (intro h0; simp only [h0, Bool.not_false, Bool.not_true, Bool.true_and, Bool.and_true, true_and, and_true, and_self, imp_self, implies_true, bne_iff_ne, ne_eq, beq_iff_eq]; done) | (intros; simp_all; done) | exact True.intro) ?_)
     refine PCall.of (Uc hy32) ?_
     simp only [push_cast, seval, ↓reduceIte, Za, c35, c36, c37, hN0, hN]
     repeat (with_reducible refine And.intro (by first | (intro h0; simp only [h0, and_self]; done) | (intro h0; simp only [h0, Bool.not_false, Bool.not_true, Bool.true_and, Bool.and_true, true_and, and_true, and_self, imp_self, implies_true, bne_iff_ne, ne_eq, beq_iff_eq]; done) | (intros; simp_all; done) | exact True.intro) ?_)
     have hz24 := Option.some.inj hz24; subst hz24
     refine And.intro rfl (Fit2.of (Zj hU rfl rfl ?_) (by omega))
     simp only [push_cast, seval, ↓reduceIte, Za, c35, c36, c37, hN0, hN]
    replace hz24 := Zu c37 hz24
    try rw [c37] at c35
    try rw [c37] at c36
    refine X4 Zd (by kernel_rfl) [none, none, some true, some true, some true, some true, some true, some true, some true, some false] (by kernel_rfl) ?_
    simp only [push_cast, seval, ↓reduceIte, Za, c35, c36, c37, hN0, hN]
    repeat (with_reducible refine And.intro (by first | (intro h0; simp only [h0, and_self]; done) | (intro h0; simp only [h0, Bool.not_false, Bool.not_true, Bool.true_and, Bool.and_true, true_and, and_true, and_self, imp_self, implies_true, bne_iff_ne, ne_eq, beq_iff_eq]; done) | (intros; simp_all; done) | exact True.intro) ?_)
    refine PCall.of (Ud hy30) ?_
    simp only [push_cast, seval, ↓reduceIte, Za, c35, c36, c37, hN0, hN]
    repeat (with_reducible refine And.intro (by first | (intro h0; simp only [h0, and_self]; done) | (intro h0; simp only [h0, Bool.not_false, Bool.not_true, Bool.true_and, Bool.and_true, true_and, and_true, and_self, imp_self, implies_true, bne_iff_ne, ne_eq, beq_iff_eq]; done) | (intros; simp_all; done) | exact True.intro) ?_)
    refine PCall.of (Ud hy31) ?_
    simp only [push_cast, seval, ↓reduceIte, Za, c35, c36, c37, hN0, hN]
    repeat (with_reducible refine And.intro (by first | (intro h0; simp only [h0, and_self]; done) | (intro h0; simp only [h0, Bool.not_false, Bool.not_true, Bool.true_and, Bool.and_true, true_and, and_true, and_self, imp_self, implies_true, bne_iff_ne, ne_eq, beq_iff_eq]; done) | (intros; simp_all; done) | exact True.intro) ?_)
    have hz24 := Option.some.inj hz24; subst hz24
    refine And.intro rfl (Fit2.of (Zj hU rfl rfl ?_) (by omega))
    simp only [push_cast, seval, ↓reduceIte, Za, c35, c36, c37, hN0, hN]
   replace hz24 := Zu c36 hz24
   try rw [c36] at c35
   obtain ⟨y33, hy33, hz24⟩ := bC hz24
   refine X4 Zd (by kernel_rfl) [none, none, some false, some false, some false, some false, some false, some false, some false, some true] (by kernel_rfl) ?_
   simp only [push_cast, seval, ↓reduceIte, Za, c35, c36, hN0, hN]
   repeat (with_reducible refine And.intro (by first | (intro h0; simp only [h0, and_self]; done) | (intro h0; simp only [h0, Bool.not_false, Bool.not_true, Bool.true_and, Bool.and_true, true_and, and_true, and_self, imp_self, implies_true, bne_iff_ne, ne_eq, beq_iff_eq]; done) | (intros; simp_all; done) | exact True.intro) ?_)
   refine PCall.of (Uc hy33) ?_
   simp only [push_cast, seval, ↓reduceIte, Za, c35, c36, hN0, hN]
   repeat (with_reducible refine And.intro (by first | (intro h0; simp only [h0, and_self]; done) | (intro h0; simp only [h0, Bool.not_false, Bool.not_true, Bool.true_and, Bool.and_true, true_and, and_true, and_self, imp_self, implies_true, bne_iff_ne, ne_eq, beq_iff_eq]; done) | (intros; simp_all; done) | exact True.intro) ?_)
   have hz24 := Option.some.inj hz24; subst hz24
   refine And.intro rfl (Fit2.of (Zj hU rfl rfl ?_) (by omega))
   simp only [push_cast, seval, ↓reduceIte, Za, c35, c36, hN0, hN]
  replace hz24 := Zu c35 hz24
  obtain ⟨y34, hy34, hz24⟩ := bC hz24
  refine X4 Zd (by kernel_rfl) [none, none, some false, some false, some false, some false, some false, some false, some false, some true] (by kernel_rfl) ?_
  simp only [push_cast, seval, ↓reduceIte, Za, c35, hN0, hN]
  repeat (with_reducible refine And.intro (by first | (intro h0; simp only [h0, and_self]; done) | (intro h0; simp only [h0, Bool.not_false, Bool.not_true, Bool.true_and, Bool.and_true, true_and, and_true, and_self, imp_self, implies_true, bne_iff_ne, ne_eq, beq_iff_eq]; done) | (intros; simp_all; done) | exact True.intro) ?_)
  refine PCall.of (Uc hy34) ?_
  simp only [push_cast, seval, ↓reduceIte, Za, c35, hN0, hN]
  repeat (with_reducible refine And.intro (by first | (intro h0; simp only [h0, and_self]; done) | (intro h0; simp only [h0, Bool.not_false, Bool.not_true, Bool.true_and, Bool.and_true, true_and, and_true, and_self, imp_self, implies_true, bne_iff_ne, ne_eq, beq_iff_eq]; done) | (intros; simp_all; done) | exact True.intro) ?_)
  have hz24 := Option.some.inj hz24; subst hz24
  refine And.intro rfl (Fit2.of (Zj hU rfl rfl ?_) (by omega))
  simp only [push_cast, seval, ↓reduceIte, Za, c35, hN0, hN]
 refine Z5 ?_
 try simp only [Zk, Zg]
 have h := Option.some.inj h; subst h
 refine Zs (.inr rfl) hU [.val (.bool z24)] (by omega) ?_
 simp only [push_cast, seval, ↓reduceIte, Za, Try.results13, hN0, hN]
end Go.Proofs.Ytmpkfolcikhofaa
