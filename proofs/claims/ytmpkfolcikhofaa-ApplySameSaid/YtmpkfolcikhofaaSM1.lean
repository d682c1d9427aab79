/- Part SM1 of this seat's mirrors: functions of the seat's program, and the plain functions that they are; each theorem bears its own conditions. -/
import Derived.Test.YtmpkfolcikhofaaSE
namespace Go.Proofs.Ytmpkfolcikhofaa
open Go.RowKit
set_option linter.unusedVariables false
set_option linter.unusedSimpArgs false
set_option maxRecDepth 100000
set_option maxHeartbeats 1000000
attribute [local push_cast] Zp Vm Xj Zd Jv Zif Zie Ziu Zit Zk Zg Zfj Zbn Zbm onW Yu U2 Ul Zij Zhp Zcz evS wok Xd Op.operands Call.operands gop onK onP atK List.all_cons List.all_nil Bool.and_true Bool.true_and Bool.and_self Value.oneCell' List.take_zero List.take_succ_cons List.take_nil List.drop_zero List.drop_succ_cons List.drop_nil List.append_nil Nat.add_zero Nat.zero_add J8 Z7 ev Xk Zho Zpz Zlg Zlf Zp4 Zc5 Uq Zcr Uw Zdk Za3 J0 Zfk Zbo Vj Zcs Vk Zed Zc3 Zmi bLo bHi bMx Ur Zec Zp0 Zc2 Zev Zac Ki Zk5 Zp5 Zcp Zp8 Up Zrf Xi Zee gone Zf1 Zb2 Zb1 pop TK.isAgg G.one G.under G.unders List.getD_cons_zero List.getD_cons_succ List.set_cons_zero List.set_cons_succ List.map_cons List.map_nil List.toList_toArray Array.toList_append Option.toArray_none Option.toArray_some Array.toList_map Option.map_some Option.map_none Option.bind_some Option.bind_none List.getElem?_cons_zero List.getElem?_cons_succ List.getElem?_nil List.nil_append List.cons_append List.replicate_succ List.replicate_zero List.length_cons List.length_nil and_true true_and and_false false_and Bool.true_eq_false Bool.false_eq_true forall_const false_implies implies_true IntKind.bits if_true if_false ite_true ite_false eq_self true_implies false_or or_false or_true true_or not_true_eq_false not_false_eq_true decide_true decide_false decide_eq_true_eq decide_eq_false_iff_not beq_iff_eq bne_iff_ne ne_eq Bool.not_eq_true Bool.not_eq_false beq_eq_false_iff_ne bne_eq_false_iff_eq beq_self_eq_true bne_self_eq_false Option.some.injEq exists_eq_left' exists_eq_left ge_iff_le gt_iff_lt decide_not Bool.not_true Bool.not_false imp_self Zmk cond_true cond_false Zv7 Zv6 Bool.not_not Bool.and_false Bool.false_and Bool.or_true Bool.true_or Bool.or_false Bool.false_or Uk Zeb Za7 Zae Ke Qd Option.join_some Nat.add_assoc Int.toNat_natCast eI eB eS eL Ga Zbc Zam Zii Zig Zih Zrt Zty Zbe Zau Zi1 Ziz Zi0 Zow Zfi Zmc Zf4 Zmb Gq Zko List.length_append G.agg.injEq G.row.injEq G.ref.injEq G.val.injEq G.sl.injEq G.tup.injEq Value.int.injEq Value.bool.injEq Value.string.injEq List.cons.injEq exists_and_left exists_const List.flatten_cons List.flatten_nil Int.le_refl Nat.le_refl Uu Xb Jy Bool.not_eq_true' Bool.not_eq_false' Zkh Zd8 Zog Zom Zof Zol Ztd Zs9 List.size_toArray Zi4 Zi5 G.ren G.rens Zlm Za5 Zi7 Zh9 Zia Zf6 Zon Za4 G.fn.injEq Zg0 Zg1 Zkg Zta Zgz Zoj Ztc Ztb Zoi Zmp Zrl Option.join_none Yi Jp undef Zew Arr.len Arr.put_eq Zbd Zdu Zbx Zat Ziy Ziw Zix onB Zrs Zk3 Zf5 Ze6 Ze7 Ze8 Ze9 Zfa Zfb Zdq Zdy Zdw Zb0 Zav Zdx Zf0 Zfz Zfy Zfx Ztx Zvo Zov Zm2 Kp Zor Zim Zdz Zbz Zqn Zjd Zc1 Zeu Gi Zd0 Zfc Zfd Zfe Zff Zda Zdb Zdc Zdd Zde Zdf Zdg Zaj prT Zba Zxn Zn3 Zvx Zn4 Zxo Zn5 Zxp Zn6 Zxq Zn7 Zxr Zn8 Zxs Zn9 Zxt Zoa Zr7 Zjg Zr8 Zjh Zr9 Zji Zsa Zjj Zsb Zjk Zsc Zjl Zsd Zjm Zse Zjn Zsf Zjo Zsg Zjp Zsh Zjq Zsi Zer Zsj Uv Zsk Zjr Va Zjs Zsl Zjt Zsm Zju Zsn Zjv Zso Zjw Zsp Zjx Zsq Zjy Zsr Zjz Zss Zj0 Zst Zj1 Zsu Zj2 Zsv Zj3 Zpk Zj4 Zsw Zj5 Zpl Zj6 Gn Zj7 Zsx Zj8 Zsy Zj9 Zsz Zka Zs0 Zkb Zs1 Zkc Zs2 Zkd Zs3 Zke Zpm Zkf Zne Zf8 Znf Zf9 Zng Zga Znh Zgb Zni Zgc Znj Zgd Znk Zge Znl Zgf Znm Zgg Znn Zgh Zno Zgi Znp Zgj Znq Zgk Znr Zgl Zns Zgm Znt Zgn Znu Zgo Znv Zgp Znw Zgq Znx Zgr Zny Zgs Znz Zgt Zn0 Zgu Zn1 Zgv Zn2 Zgw Zb Yc Zcl Zck Zbq Zbu Zcn Za1 Zax Zaw Zch Ve Vd K5 K7 Vf Kt Kr Kq Vb Zi Vi Zq Z6 Xo Yp Xv Zy Q4 Q2 Qq Qv Q6 Qb X9 X7 Qz Jn Jm Ji Jk Jo Q1 Qy Qx Jl Ud Uc V3 V9 Uf Vt Vs Vr Ub Q5 Q3 Qr Qw Q7 Qc Qa X8 Q0 Zd9 Zd7 Zdm Zdt Zea Zci Zca Zb9 Zd6
theorem Zek {Xp : (S_api_Tree → Int → Int → Option Int)} (Zds : ∀ {a0 : S_api_Tree} {a1 : Int} {a2 : Int} {r : Int} {O : Objs} {n : Nat}, Xp a0 a1 a2 = some r → GTo Try.prog 58 [.agg (Zd a0), .val (.int .i64 a1), .val (.int .i64 a2)] O n (.val (.int .i64 r)) O n) {a0 : S_api_Tree} {a1 : Int} {a2 : Int} {r : Int} {O : Objs} {n : Nat} (h : Yw Xp a0 a1 a2 = some r) : GTo Try.prog 58 [.agg (Zd a0), .val (.int .i64 a1), .val (.int .i64 a2)] O n (.val (.int .i64 r)) O n := by
 unfold Yw at h
 refine Qp Zf Try.call58 Try.func58 rfl (Nat.le_of_ble_eq_true rfl) (Nat.le_refl _) fun hU => ?_
 have hN0 : O n = none := hU.fresh _ (Nat.le_refl _)
 have hN : ∀ k, O (n + k) = none := fun k => hU.fresh _ (Nat.le_add_right _ _)
 show W _ _ _ _ ⟨41, [], [(0, .agg (Zd a0)), (1, .val (.int .i64 a1)), (2, .val (.int .i64 a2))]⟩ (Zt O n []) _
 refine Zw [1, 2, 3] (Zc Zf [] ?_)
 simp only [push_cast, seval, ↓reduceIte, Za, hN0, hN]
 refine Zw [1, 2, 3] (Zc Zf [] ?_)
 simp only [push_cast, seval, ↓reduceIte, Za, hN0, hN]
 refine Zm ?_
 refine Zw [1, 2, 3, 19] (Zc Zf [none, none] ?_)
 simp only [push_cast, seval, ↓reduceIte, Za, hN0, hN]
 repeat (with_reducible refine And.intro (by first | (intro h0; simp only [h0, and_self]; done) | (intro h0; simp only [h0, Bool.not_false, Bool.not_true, Bool.true_and, Bool.and_true, true_and, and_true, and_self, imp_self, implies_true, bne_iff_ne, ne_eq, beq_iff_eq]; done) | (intros; simp_all; done) | exact True.intro) ?_)
 refine Z0 (t := (cond (a1 == 0) true (decide ((IntKind.i64.wrap ((IntKind.i64.wrap (a2 - 1)) - (a0.Words.length : Int))) < 0)))) rfl (fun c5 => ?_) (fun c5 => ?_)
 ·replace h := Z4 c5 h
  refine Zw [6] (Zc Zf [] ?_)
  simp only [push_cast, seval, ↓reduceIte, Za, hN0, hN]
  refine Yb ?_
  try simp only [Zk, Zg]
  have h := Option.some.inj h; subst h
  refine Zu (.inr rfl) hU [.val (.int .i64 (-1))] (by omega) ?_
  simp only [push_cast, seval, ↓reduceIte, Za, Try.results58, hN0, hN]
 replace h := Z3 c5 h
 refine Ya ?_
 try simp only [Zk, Zg]
 refine Zl [1, 2, 3] [true] ?_
 simp only [push_cast, seval, ↓reduceIte]
 refine Zm ?_
 refine Zw [1, 2, 3, 7] (Zc Zf [] ?_)
 simp only [push_cast, seval, ↓reduceIte, Za, hN0, hN]
 refine Zl [1, 2, 3, 7] [true] ?_
 simp only [push_cast, seval, ↓reduceIte]
 obtain ⟨z4, hz4, h⟩ := bC h
 refine X4 (E' := ⟨41, [], [(2, .val (.int .i64 z4))]⟩) (O' := (Zt O n [none])) (n0 := (n + 1)) ?_ ?_
 ·refine J7 hz4 (fun s0_ => ⟨41, [], [(1, .val (.int .i64 a1)), (2, .val (.int .i64 s0_.1)), (3, .ref n 0), (7, .val (.int .i64 s0_.2))]⟩) (fun s0_ => (Zt O n [some ⟨false, 25, 3, 1, (Zd a0)⟩])) (fun z4 => JX 0 n (⟨41, [], [(2, .val (.int .i64 z4))]⟩ : Env) (Zt O n [none]) (n + 1)) ?_
  intro s0_ x0_ hs0_
  unfold Ys at hs0_
  try dsimp only
  refine Zm ?_
  refine Zw [1, 2, 3, 7, 28] (Zc Zf [none, none] ?_)
  simp only [push_cast, seval, ↓reduceIte, Za, hN0, hN]
  repeat (with_reducible refine And.intro (by first | (intro h0; simp only [h0, and_self]; done) | (intro h0; simp only [h0, Bool.not_false, Bool.not_true, Bool.true_and, Bool.and_true, true_and, and_true, and_self, imp_self, implies_true, bne_iff_ne, ne_eq, beq_iff_eq]; done) | (intros; simp_all; done) | exact True.intro) ?_)
  refine Z0 (t := (cond (decide (s0_.2 < (a0.Kids.length : Int))) (decide (0 ≤ s0_.1)) false)) rfl (fun c3 => ?_) (fun c3 => ?_)
  ·replace hs0_ := Z4 c3 hs0_
   refine Ya ?_
   try simp only [Zk, Zg]
   refine Zl [1, 2, 3, 7] [true] ?_
   simp only [push_cast, seval, ↓reduceIte]
   refine Zm ?_
   refine Xq ?_
   obtain ⟨x1, hx1, ax1, bx1, cx1, hs0_⟩ := bE (f := Zb) Va (fun _ => rfl) (by decide) hs0_
   obtain ⟨y2, hy2, hs0_⟩ := bC hs0_
   refine Zc Zf [] ?_
   simp only [push_cast, Nat.reduceAdd, Nat.reduceSub, Nat.reduceMul, Nat.reduceLeDiff, Nat.reduceLT, Nat.reduceEqDiff, ↓reduceIte, reduceCtorEq, Int.reduceBEq, Int.reduceBNe, Nat.reduceBEq, Int.reduceLE, Int.reduceLT, Int.reduceEq, Int.reduceNe, Int.reduceNeg, Nat.reduceDiv, Nat.reduceMod, Nat.reducePow, Za, ax1, bx1, cx1, hN0, hN]
   refine (Zds hy2).then ?_
   simp only [push_cast, Nat.reduceAdd, Nat.reduceSub, Nat.reduceMul, Nat.reduceLeDiff, Nat.reduceLT, Nat.reduceEqDiff, ↓reduceIte, reduceCtorEq, Int.reduceBEq, Int.reduceBNe, Nat.reduceBEq, Int.reduceLE, Int.reduceLT, Int.reduceEq, Int.reduceNe, Int.reduceNeg, Nat.reduceDiv, Nat.reduceMod, Nat.reducePow, Za, ax1, bx1, cx1, hN0, hN]
   refine Zl [1, 2, 3, 7] [true] ?_
   simp only [push_cast, seval, ↓reduceIte]
   refine Zc Zf [] ?_
   simp only [push_cast, seval, ↓reduceIte, Za, hN0, hN]
   have hs0_ := Option.some.inj hs0_; subst hs0_
   refine And.intro rfl (Fit2.of (Zo hU rfl rfl ?_) (by omega))
   simp only [push_cast, seval, ↓reduceIte, Za, hN0, hN]
  replace hs0_ := Z3 c3 hs0_
  refine Vy ?_
  try simp only [Zk, Zg, ↓reduceIte, Nat.reduceEqDiff]
  have hs0_ := Option.some.inj hs0_; subst hs0_
  refine And.intro (fun h => by cases h) (And.intro rfl (Fit2.of (Zo hU rfl rfl ?_) (by omega)))
  simp only [push_cast, seval, ↓reduceIte, Za, hN0, hN]
 try simp only [Zk, Zg, ↓reduceIte, Nat.reduceEqDiff]
 refine Zl [2] [false] ?_
 simp only [push_cast, seval, ↓reduceIte]
 refine Zw [6] (Zc Zf [] ?_)
 simp only [push_cast, seval, ↓reduceIte, Za, hN0, hN]
 refine Yb ?_
 try simp only [Zk, Zg]
 have h := Option.some.inj h; subst h
 refine Zu (.inr rfl) hU [.val (.int .i64 z4)] (by omega) ?_
 simp only [push_cast, seval, ↓reduceIte, Za, Try.results58, hN0, hN]
theorem Zc6 : ∀ k, (∀ {a0 : S_api_Tree} {a1 : Int} {a2 : Int} {r : Int} {O : Objs} {n : Nat}, (Z9 k) a0 a1 a2 = some r → GTo Try.prog 58 [.agg (Zd a0), .val (.int .i64 a1), .val (.int .i64 a2)] O n (.val (.int .i64 r)) O n) := fun k => by
 induction k with
 | zero => exact @fun a0 a1 a2 r O n h => (nomatch (show (none : Option _) = some _ from h))
 | succ k ih => exact @fun a0 a1 a2 r O n h => Zek (ih)  h
theorem Ze3 {a0 : S_api_Tree} {a1 : Int} {a2 : Int} {r : Int} {O : Objs} {n : Nat} (h : V6 a0 a1 a2 = some r) : GTo Try.prog 58 [.agg (Zd a0), .val (.int .i64 a1), .val (.int .i64 a2)] O n (.val (.int .i64 r)) O n := by
 obtain ⟨k, hk⟩ := Zao h
 exact (Zc6 k)  hk
theorem Zcw {a0 : S_api_Tree} {r : Bool} {O : Objs} {n : Nat} (h : K6 a0 = some r) : GTo Try.prog 15 [.agg (Zd a0)] O n (.val (.bool r)) O n := by
 unfold K6 at h
 refine Qp Zf Try.call15 Try.func15 rfl (Nat.le_of_ble_eq_true rfl) (Nat.le_refl _) fun hU => ?_
 have hN0 : O n = none := hU.fresh _ (Nat.le_refl _)
 have hN : ∀ k, O (n + k) = none := fun k => hU.fresh _ (Nat.le_add_right _ _)
 show W _ _ _ _ ⟨6, [], [(0, .agg (Zd a0))]⟩ (Zt O n []) _
 refine Zw [1] (Zc Zf [] ?_)
 simp only [push_cast, seval, ↓reduceIte, Za, hN0, hN]
 refine Zm ?_
 obtain ⟨y2, hy2, h⟩ := bC h
 refine Zc Zf [] ?_
 simp only [push_cast, seval, ↓reduceIte, Za, hN0, hN]
 refine (Ze3 hy2).then ?_
 simp only [push_cast, seval, ↓reduceIte, Za, hN0, hN]
 refine Zl [2] [false] ?_
 simp only [push_cast, seval, ↓reduceIte]
 refine Yb ?_
 try simp only [Zk, Zg]
 have h := Option.some.inj h; subst h
 refine Zu (.inr rfl) hU [.val (.bool (decide (0 ≤ y2)))] (by omega) ?_
 simp only [push_cast, seval, ↓reduceIte, Za, Try.results15, hN0, hN]
theorem Zhb {a0 : Int} {r : Int} {O : Objs} {n : Nat} (h : Uy a0 = some r) : GTo Try.prog 92 [.val (.int .i64 a0)] O n (.val (.int .i64 r)) O n := by
 unfold Uy at h
 refine Qp Zf Try.call92 Try.func92 rfl (Nat.le_of_ble_eq_true rfl) (Nat.le_refl _) fun hU => ?_
 have hN0 : O n = none := hU.fresh _ (Nat.le_refl _)
 have hN : ∀ k, O (n + k) = none := fun k => hU.fresh _ (Nat.le_add_right _ _)
 show W _ _ _ _ ⟨16, [], [(0, .val (.int .i64 a0))]⟩ (Zt O n []) _
 refine Zw [0] (Zc Zf [] ?_)
 simp only [push_cast, seval, ↓reduceIte, Za, hN0, hN]
 refine Zm ?_
 refine Zw [3] (Zc Zf [] ?_)
 simp only [push_cast, seval, ↓reduceIte, Za, hN0, hN]
 refine Xq ?_
 refine Zw [3, 4] (Zc Zf [] ?_)
 simp only [push_cast, seval, ↓reduceIte, Za, hN0, hN]
 refine Z0 (t := (a0 == 0)) rfl (fun c6 => ?_) (fun c6 => ?_)
 ·replace h := Z4 c6 h
  refine Zw [2] (Zc Zf [] ?_)
  simp only [push_cast, seval, ↓reduceIte, Za, hN0, hN]
  refine Yb ?_
  try simp only [Zk, Zg]
  have h := Option.some.inj h; subst h
  refine Zu (.inr rfl) hU [.val (.int .i64 0)] (by omega) ?_
  simp only [push_cast, seval, ↓reduceIte, Za, Try.results92, hN0, hN]
 replace h := Z3 c6 h
 refine Zw [3, 6] (Zc Zf [] ?_)
 simp only [push_cast, seval, ↓reduceIte, Za, hN0, hN]
 refine Z0 (t := (a0 == 1)) rfl (fun c5 => ?_) (fun c5 => ?_)
 ·replace h := Z4 c5 h
  refine Zw [2] (Zc Zf [] ?_)
  simp only [push_cast, seval, ↓reduceIte, Za, hN0, hN]
  refine Yb ?_
  try simp only [Zk, Zg]
  have h := Option.some.inj h; subst h
  refine Zu (.inr rfl) hU [.val (.int .i64 1)] (by omega) ?_
  simp only [push_cast, seval, ↓reduceIte, Za, Try.results92, hN0, hN]
 replace h := Z3 c5 h
 refine Zw [3, 8] (Zc Zf [] ?_)
 simp only [push_cast, seval, ↓reduceIte, Za, hN0, hN]
 refine Z0 (t := (a0 == 2)) rfl (fun c4 => ?_) (fun c4 => ?_)
 ·replace h := Z4 c4 h
  refine Zw [2] (Zc Zf [] ?_)
  simp only [push_cast, seval, ↓reduceIte, Za, hN0, hN]
  refine Yb ?_
  try simp only [Zk, Zg]
  have h := Option.some.inj h; subst h
  refine Zu (.inr rfl) hU [.val (.int .i64 8)] (by omega) ?_
  simp only [push_cast, seval, ↓reduceIte, Za, Try.results92, hN0, hN]
 replace h := Z3 c4 h
 refine Zw [3, 10] (Zc Zf [] ?_)
 simp only [push_cast, seval, ↓reduceIte, Za, hN0, hN]
 refine Z0 (t := (a0 == 3)) rfl (fun c3 => ?_) (fun c3 => ?_)
 ·replace h := Z4 c3 h
  refine Zw [2] (Zc Zf [] ?_)
  simp only [push_cast, seval, ↓reduceIte, Za, hN0, hN]
  refine Yb ?_
  try simp only [Zk, Zg]
  have h := Option.some.inj h; subst h
  refine Zu (.inr rfl) hU [.val (.int .i64 16)] (by omega) ?_
  simp only [push_cast, seval, ↓reduceIte, Za, Try.results92, hN0, hN]
 replace h := Z3 c3 h
 refine Zw [3, 12] (Zc Zf [] ?_)
 simp only [push_cast, seval, ↓reduceIte, Za, hN0, hN]
 refine Z0 (t := (a0 == 4)) rfl (fun c2 => ?_) (fun c2 => ?_)
 ·replace h := Z4 c2 h
  refine Zw [2] (Zc Zf [] ?_)
  simp only [push_cast, seval, ↓reduceIte, Za, hN0, hN]
  refine Yb ?_
  try simp only [Zk, Zg]
  have h := Option.some.inj h; subst h
  refine Zu (.inr rfl) hU [.val (.int .i64 32)] (by omega) ?_
  simp only [push_cast, seval, ↓reduceIte, Za, Try.results92, hN0, hN]
 replace h := Z3 c2 h
 refine Zw [14] (Zc Zf [] ?_)
 simp only [push_cast, seval, ↓reduceIte, Za, hN0, hN]
 refine Z0 (t := (a0 == 5)) rfl (fun c1 => ?_) (fun c1 => ?_)
 ·replace h := Z4 c1 h
  refine Zw [2] (Zc Zf [] ?_)
  simp only [push_cast, seval, ↓reduceIte, Za, hN0, hN]
  refine Yb ?_
  try simp only [Zk, Zg]
  have h := Option.some.inj h; subst h
  refine Zu (.inr rfl) hU [.val (.int .i64 64)] (by omega) ?_
  simp only [push_cast, seval, ↓reduceIte, Za, Try.results92, hN0, hN]
 replace h := Z3 c1 h
 refine Ya ?_
 try simp only [Zk, Zg]
 refine Zl [] [] ?_
 simp only [push_cast, seval, ↓reduceIte]
 refine Zw [2] (Zc Zf [] ?_)
 simp only [push_cast, seval, ↓reduceIte, Za, hN0, hN]
 refine Yb ?_
 try simp only [Zk, Zg]
 have h := Option.some.inj h; subst h
 refine Zu (.inr rfl) hU [.val (.int .i64 (-1))] (by omega) ?_
 simp only [push_cast, seval, ↓reduceIte, Za, Try.results92, hN0, hN]
theorem Zbt {a0 : Int} {a1 : Int} {r : Bool} {O : Objs} {n : Nat} (h : Ja a0 a1 = some r) : GTo Try.prog 61 [.val (.int .i64 a0), .val (.int .u64 a1)] O n (.val (.bool r)) O n := by
 unfold Ja at h
 refine Qp Zf Try.call61 Try.func61 rfl (Nat.le_of_ble_eq_true rfl) (Nat.le_refl _) fun hU => ?_
 have hN0 : O n = none := hU.fresh _ (Nat.le_refl _)
 have hN : ∀ k, O (n + k) = none := fun k => hU.fresh _ (Nat.le_add_right _ _)
 show W _ _ _ _ ⟨20, [], [(0, .val (.int .i64 a0)), (1, .val (.int .u64 a1))]⟩ (Zt O n []) _
 refine Zw [0, 1] (Zc Zf [] ?_)
 simp only [push_cast, seval, ↓reduceIte, Za, hN0, hN]
 refine Zm ?_
 obtain ⟨y2, hy2, h⟩ := bC h
 refine Zc Zf [] ?_
 simp only [push_cast, seval, ↓reduceIte, Za, hN0, hN]
 refine (Zhb hy2).then ?_
 simp only [push_cast, seval, ↓reduceIte, Za, hN0, hN]
 refine Zl [1, 5] [] ?_
 simp only [push_cast, seval, ↓reduceIte]
 refine Zm ?_
 refine Zw [1, 5, 10] (Zc Zf [] ?_)
 simp only [push_cast, seval, ↓reduceIte, Za, hN0, hN]
 refine Z0 (t := (decide (y2 < 0))) rfl (fun c5 => ?_) (fun c5 => ?_)
 ·replace h := Z4 c5 h
  refine Zw [4] (Zc Zf [] ?_)
  simp only [push_cast, seval, ↓reduceIte, Za, hN0, hN]
  refine Yb ?_
  try simp only [Zk, Zg]
  have h := Option.some.inj h; subst h
  refine Zu (.inr rfl) hU [.val (.bool false)] (by omega) ?_
  simp only [push_cast, seval, ↓reduceIte, Za, Try.results61, hN0, hN]
 replace h := Z3 c5 h
 refine Ya ?_
 try simp only [Zk, Zg]
 refine Zl [1, 5] [] ?_
 simp only [push_cast, seval, ↓reduceIte]
 refine Zm ?_
 refine Zw [1, 5, 6] (Zc Zf [] ?_)
 simp only [push_cast, seval, ↓reduceIte, Za, hN0, hN]
 refine Zl [1, 5, 6] [] ?_
 simp only [push_cast, seval, ↓reduceIte]
 obtain ⟨z4, hz4, h⟩ := bC h
 refine X4 (E' := ⟨20, [], [(1, .val (.int .u64 z4))]⟩) (O' := (Zt O n [])) (n0 := n) ?_ ?_
 ·refine J7 hz4 (fun s0_ => ⟨20, [], [(1, .val (.int .u64 s0_.1)), (5, .val (.int .i64 y2)), (6, .val (.int .i64 s0_.2))]⟩) (fun s0_ => (Zt O n [])) (fun z4 => JX 0 n (⟨20, [], [(1, .val (.int .u64 z4))]⟩ : Env) (Zt O n []) n) ?_
  intro s0_ x0_ hs0_
  unfold Yx at hs0_
  try dsimp only
  refine Zm ?_
  refine Zw [1, 5, 6, 13] (Zc Zf [] ?_)
  simp only [push_cast, seval, ↓reduceIte, Za, hN0, hN]
  refine Z0 (t := (decide (s0_.2 < y2))) rfl (fun c3 => ?_) (fun c3 => ?_)
  ·replace hs0_ := Z4 c3 hs0_
   refine Ya ?_
   try simp only [Zk, Zg]
   refine Zl [1, 5, 6] [] ?_
   simp only [push_cast, seval, ↓reduceIte]
   refine Zm ?_
   refine Xq ?_
   refine Zc Zf [] ?_
   simp only [push_cast, seval, ↓reduceIte, Za, hN0, hN]
   refine Zl [1, 5, 6] [] ?_
   simp only [push_cast, seval, ↓reduceIte]
   refine Zc Zf [] ?_
   simp only [push_cast, seval, ↓reduceIte, Za, hN0, hN]
   have hs0_ := Option.some.inj hs0_; subst hs0_
   refine And.intro rfl (Fit2.of (Zo hU rfl rfl ?_) (by omega))
   simp only [push_cast, seval, ↓reduceIte, Za, hN0, hN]
  replace hs0_ := Z3 c3 hs0_
  refine Vy ?_
  try simp only [Zk, Zg, ↓reduceIte, Nat.reduceEqDiff]
  have hs0_ := Option.some.inj hs0_; subst hs0_
  refine And.intro (fun h => by cases h) (And.intro rfl (Fit2.of (Zo hU rfl rfl ?_) (by omega)))
  simp only [push_cast, seval, ↓reduceIte, Za, hN0, hN]
 try simp only [Zk, Zg, ↓reduceIte, Nat.reduceEqDiff]
 refine Zl [1] [] ?_
 simp only [push_cast, seval, ↓reduceIte]
 refine Zw [4] (Zc Zf [] ?_)
 simp only [push_cast, seval, ↓reduceIte, Za, hN0, hN]
 refine Yb ?_
 try simp only [Zk, Zg]
 have h := Option.some.inj h; subst h
 refine Zu (.inr rfl) hU [.val (.bool (z4 == 0))] (by omega) ?_
 simp only [push_cast, seval, ↓reduceIte, Za, Try.results61, hN0, hN]
theorem Zfu {Qi : (S_api_Tree → Int → Option Bool)} (Ze4 : ∀ {a0 : S_api_Tree} {a1 : Int} {r : Bool} {O : Objs} {n : Nat}, Qi a0 a1 = some r → GTo Try.prog 18 [.agg (Zd a0), .val (.int .i64 a1)] O n (.val (.bool r)) O n) {a0 : S_api_Tree} {a1 : Int} {r : Bool} {O : Objs} {n : Nat} (h : Jz Qi a0 a1 = some r) : GTo Try.prog 18 [.agg (Zd a0), .val (.int .i64 a1)] O n (.val (.bool r)) O n := by
 unfold Jz at h
 refine Qp Zf Try.call18 Try.func18 rfl (Nat.le_of_ble_eq_true rfl) (Nat.le_refl _) fun hU => ?_
 have hN0 : O n = none := hU.fresh _ (Nat.le_refl _)
 have hN : ∀ k, O (n + k) = none := fun k => hU.fresh _ (Nat.le_add_right _ _)
 show W _ _ _ _ ⟨132, [], [(0, .agg (Zd a0)), (1, .val (.int .i64 a1))]⟩ (Zt O n []) _
 refine Zw [1, 2] (Zc Zf [] ?_)
 simp only [push_cast, seval, ↓reduceIte, Za, hN0, hN]
 refine Zm ?_
 refine Zw [1, 2, 10] (Zc Zf [] ?_)
 simp only [push_cast, seval, ↓reduceIte, Za, hN0, hN]
 refine Z0 (t := (a0.Kind == 0)) rfl (fun c32 => ?_) (fun c32 => ?_)
 ·replace h := Z4 c32 h
  refine Zw [4] (Zc Zf [none, none, none, none] ?_)
  simp only [push_cast, seval, ↓reduceIte, Za, hN0, hN]
  repeat (with_reducible refine And.intro (by first | (intro h0; simp only [h0, and_self]; done) | (intro h0; simp only [h0, Bool.not_false, Bool.not_true, Bool.true_and, Bool.and_true, true_and, and_true, and_self, imp_self, implies_true, bne_iff_ne, ne_eq, beq_iff_eq]; done) | (intros; simp_all; done) | exact True.intro) ?_)
  refine Yb ?_
  try simp only [Zk, Zg]
  have h := Option.some.inj h; subst h
  refine Zu (.inr rfl) hU [.val (.bool (cond ((a0.Words.length : Int) == 0) ((a0.Kids.length : Int) == 0) false))] (by omega) ?_
  simp only [push_cast, seval, ↓reduceIte, Za, Try.results18, hN0, hN]
 replace h := Z3 c32 h
 refine Ya ?_
 try simp only [Zk, Zg]
 refine Zl [1, 2] [true] ?_
 simp only [push_cast, seval, ↓reduceIte]
 refine Zm ?_
 refine Zw [1, 2, 23] (Zc Zf [] ?_)
 simp only [push_cast, seval, ↓reduceIte, Za, hN0, hN]
 refine Z0 (t := (a0.Kind == 10)) rfl (fun c31 => ?_) (fun c31 => ?_)
 ·replace h := Z4 c31 h
  refine Zw [4] (Zc Zf [none, none, none, none] ?_)
  simp only [push_cast, seval, ↓reduceIte, Za, hN0, hN]
  repeat (with_reducible refine And.intro (by first | (intro h0; simp only [h0, and_self]; done) | (intro h0; simp only [h0, Bool.not_false, Bool.not_true, Bool.true_and, Bool.and_true, true_and, and_true, and_self, imp_self, implies_true, bne_iff_ne, ne_eq, beq_iff_eq]; done) | (intros; simp_all; done) | exact True.intro) ?_)
  refine Yb ?_
  try simp only [Zk, Zg]
  have h := Option.some.inj h; subst h
  refine Zu (.inr rfl) hU [.val (.bool (cond ((a0.Words.length : Int) == 1) ((a0.Kids.length : Int) == 0) false))] (by omega) ?_
  simp only [push_cast, seval, ↓reduceIte, Za, Try.results18, hN0, hN]
 replace h := Z3 c31 h
 refine Ya ?_
 try simp only [Zk, Zg]
 refine Zl [1, 2] [true] ?_
 simp only [push_cast, seval, ↓reduceIte]
 refine Zm ?_
 refine Zw [1, 2, 68] (Zc Zf [none, none, none, none, none, none, none, none, none, none, none, none, none, none, none, none, none, none, none, none, none, none] ?_)
 simp only [push_cast, seval, ↓reduceIte, Za, hN0, hN]
 repeat (with_reducible refine And.intro (by first | (intro h0; simp only [h0, and_self]; done) | (intro h0; simp only [h0, Bool.not_false, Bool.not_true, Bool.true_and, Bool.and_true, true_and, and_true, and_self, imp_self, implies_true, bne_iff_ne, ne_eq, beq_iff_eq]; done) | (intros; simp_all; done) | exact True.intro) ?_)
 refine Z0 (t := (cond (cond (cond (cond (cond (decide (a0.Kind < 0)) true (decide (10 < a0.Kind))) true (a1 == 0)) true (decide (65536 ≤ (a0.Words.length : Int)))) true (cond (a0.Kind == 1) (decide (65536 ≤ (a0.Kids.length : Int))) false)) true (decide (1048576 ≤ (a0.Kids.length : Int))))) rfl (fun c30 => ?_) (fun c30 => ?_)
 ·replace h := Z4 c30 h
  refine Zw [4] (Zc Zf [] ?_)
  simp only [push_cast, seval, ↓reduceIte, Za, hN0, hN]
  refine Yb ?_
  try simp only [Zk, Zg]
  have h := Option.some.inj h; subst h
  refine Zu (.inr rfl) hU [.val (.bool false)] (by omega) ?_
  simp only [push_cast, seval, ↓reduceIte, Za, Try.results18, hN0, hN]
 replace h := Z3 c30 h
 refine Ya ?_
 try simp only [Zk, Zg]
 refine Zl [1, 2] [true] ?_
 simp only [push_cast, seval, ↓reduceIte]
 refine Zm ?_
 refine Zw [1, 2, 77] (Zc Zf [none, none, none, none] ?_)
 simp only [push_cast, seval, ↓reduceIte, Za, hN0, hN]
 repeat (with_reducible refine And.intro (by first | (intro h0; simp only [h0, and_self]; done) | (intro h0; simp only [h0, Bool.not_false, Bool.not_true, Bool.true_and, Bool.and_true, true_and, and_true, and_self, imp_self, implies_true, bne_iff_ne, ne_eq, beq_iff_eq]; done) | (intros; simp_all; done) | exact True.intro) ?_)
 refine Z0 (t := (cond (decide (1 < a0.Kind)) (decide (0 < (a0.Words.length : Int))) false)) rfl (fun c29 => ?_) (fun c29 => ?_)
 ·replace h := Z4 c29 h
  refine Zw [4] (Zc Zf [] ?_)
  simp only [push_cast, seval, ↓reduceIte, Za, hN0, hN]
  refine Yb ?_
  try simp only [Zk, Zg]
  have h := Option.some.inj h; subst h
  refine Zu (.inr rfl) hU [.val (.bool false)] (by omega) ?_
  simp only [push_cast, seval, ↓reduceIte, Za, Try.results18, hN0, hN]
 replace h := Z3 c29 h
 refine Ya ?_
 try simp only [Zk, Zg]
 refine Zl [1, 2] [true] ?_
 simp only [push_cast, seval, ↓reduceIte]
 refine Zm ?_
 refine Zw [1, 2, 5] (Zc Zf [] ?_)
 simp only [push_cast, seval, ↓reduceIte, Za, hN0, hN]
 refine Zl [1, 2, 5] [true] ?_
 simp only [push_cast, seval, ↓reduceIte]
 obtain ⟨z28, hz28, h⟩ := bC h
 refine Zfg (J := (Un (fun z28 => JR n (⟨132, [], [(4, .val (.bool false))]⟩ : Env) (Zt O n [none]) (n + 1)) (fun z28 => JX 0 n (⟨132, [], []⟩ : Env) (Zt O n [none]) (n + 1)))) (z := z28) ?_ fun hw => ?_
 ·refine J7 hz28 (fun s0_ => ⟨132, [], [(1, .val (.int .i64 a1)), (2, .ref n 0), (5, .val (.int .i64 s0_))]⟩) (fun s0_ => (Zt O n [some ⟨false, 25, 3, 1, (Zd a0)⟩])) (Un (fun z28 => JR n (⟨132, [], [(4, .val (.bool false))]⟩ : Env) (Zt O n [none]) (n + 1)) (fun z28 => JX 0 n (⟨132, [], []⟩ : Env) (Zt O n [none]) (n + 1))) ?_
  intro s0_ x0_ hs0_
  unfold X5 at hs0_
  try dsimp only
  refine Zm ?_
  refine Zw [1, 2, 5, 82] (Zc Zf [] ?_)
  simp only [push_cast, seval, ↓reduceIte, Za, hN0, hN]
  refine Z0 (t := (decide (s0_ < (a0.Kids.length : Int)))) rfl (fun c27 => ?_) (fun c27 => ?_)
  ·replace hs0_ := Z4 c27 hs0_
   refine Ya ?_
   try simp only [Zk, Zg]
   refine Zl [1, 2, 5] [true] ?_
   simp only [push_cast, seval, ↓reduceIte]
   refine Zm ?_
   refine Xq ?_
   refine Zm ?_
   obtain ⟨x2, hx2, ax2, bx2, cx2, hs0_⟩ := bE (f := Zb) Va (fun _ => rfl) (by decide) hs0_
   refine Zc Zf [] ?_
   simp only [push_cast, Nat.reduceAdd, Nat.reduceSub, Nat.reduceMul, Nat.reduceLeDiff, Nat.reduceLT, Nat.reduceEqDiff, ↓reduceIte, reduceCtorEq, Int.reduceBEq, Int.reduceBNe, Nat.reduceBEq, Int.reduceLE, Int.reduceLT, Int.reduceEq, Int.reduceNe, Int.reduceNeg, Nat.reduceDiv, Nat.reduceMod, Nat.reducePow, Za, ax2, bx2, cx2, hN0, hN]
   refine Zl [1, 2, 5, 6] [true, true] ?_
   simp only [push_cast, seval, ↓reduceIte]
   refine Zm ?_
   refine Zm ?_
   obtain ⟨y4, hy4, hs0_⟩ := bC hs0_
   refine Zc Zf [] ?_
   simp only [push_cast, seval, ↓reduceIte, Za, hN0, hN]
   refine (Ze4 hy4).then ?_
   simp only [push_cast, seval, ↓reduceIte, Za, hN0, hN]
   refine Zl [1, 2, 5, 6, 94] [true, true] ?_
   simp only [push_cast, seval, ↓reduceIte]
   refine Z0 (t := (!y4)) rfl (fun c26 => ?_) (fun c26 => ?_)
   ·replace hs0_ := Z4 c26 hs0_
    refine Zw [4] (Zc Zf [] ?_)
    simp only [push_cast, seval, ↓reduceIte, Za, hN0, hN]
    refine Yb ?_
    try simp only [Zk, Zg]
    have hs0_ := Option.some.inj hs0_; subst hs0_
    refine And.intro (fun h => by cases h) (And.intro rfl (Fit2.of (Zo hU rfl rfl ?_) (by omega)))
    simp only [push_cast, seval, ↓reduceIte, Za, hN0, hN]
   replace hs0_ := Z3 c26 hs0_
   refine Ya ?_
   try simp only [Zk, Zg]
   refine Zl [1, 2, 5, 6] [true, true] ?_
   simp only [push_cast, seval, ↓reduceIte]
   refine Zw [1, 2, 5, 6, 7] (Zc Zf [none, none, none] ?_)
   simp only [push_cast, seval, ↓reduceIte, Za, hN0, hN]
   repeat (with_reducible refine And.intro (by first | (intro h0; simp only [h0, and_self]; done) | (intro h0; simp only [h0, Bool.not_false, Bool.not_true, Bool.true_and, Bool.and_true, true_and, and_true, and_self, imp_self, implies_true, bne_iff_ne, ne_eq, beq_iff_eq]; done) | (intros; simp_all; done) | exact True.intro) ?_)
   obtain ⟨z9, hz9, hs0_⟩ := bC hs0_
   refine Ku (E' := ⟨132, [], [(1, .val (.int .i64 a1)), (2, .ref n 0), (5, .val (.int .i64 s0_)), (131, .val (.bool z9))]⟩) (O' := (Zt O n [some ⟨false, 25, 3, 1, (Zd a0)⟩, none])) (n0 := (n + 2)) ?_ ?_
   ·rcases Bool.eq_false_or_eq_true ((cond (decide (2 ≤ a0.Kind)) (decide (a0.Kind ≤ 7)) false) != (x2.Kind == 10)) with c18 | c18
    ·replace hz9 := Z4 c18 hz9
     refine Xg Zf (by kernel_rfl) [none, none, none, none, none, none, none, none, some false, some false, some false, some false, some false, some false, some false, some false, some false, some false, some false, some false] (by kernel_rfl) ?_
     simp only [push_cast, seval, ↓reduceIte, Za, c18, hN0, hN]
     repeat (with_reducible refine And.intro (by first | (intro h0; simp only [h0, and_self]; done) | (intro h0; simp only [h0, Bool.not_false, Bool.not_true, Bool.true_and, Bool.and_true, true_and, and_true, and_self, imp_self, implies_true, bne_iff_ne, ne_eq, beq_iff_eq]; done) | (intros; simp_all; done) | exact True.intro) ?_)
     have hz9 := Option.some.inj hz9; subst hz9
     refine And.intro rfl (Fit2.of (Zo hU rfl rfl ?_) (by omega))
     simp only [push_cast, seval, ↓reduceIte, Za, c18, hN0, hN]
    replace hz9 := Z3 c18 hz9
    rcases Bool.eq_false_or_eq_true (a0.Kind == 9) with c19 | c19
    ·replace hz9 := Z4 c19 hz9
     try rw [c19] at c18
     rcases Bool.eq_false_or_eq_true (x2.Kind != 1) with c20 | c20
     ·replace hz9 := Z4 c20 hz9
      try rw [c20] at c18
      try rw [c20] at c19
      refine Xg Zf (by kernel_rfl) [none, none, none, none, none, none, none, none, some false, some false, some false, some false, some false, some false, some false, some false, some false, some false, some false, some false] (by kernel_rfl) ?_
      simp only [push_cast, seval, ↓reduceIte, Za, c18, c19, c20, hN0, hN]
      repeat (with_reducible refine And.intro (by first | (intro h0; simp only [h0, and_self]; done) | (intro h0; simp only [h0, Bool.not_false, Bool.not_true, Bool.true_and, Bool.and_true, true_and, and_true, and_self, imp_self, implies_true, bne_iff_ne, ne_eq, beq_iff_eq]; done) | (intros; simp_all; done) | exact True.intro) ?_)
      have hz9 := Option.some.inj hz9; subst hz9
      refine And.intro rfl (Fit2.of (Zo hU rfl rfl ?_) (by omega))
      simp only [push_cast, seval, ↓reduceIte, Za, c18, c19, c20, hN0, hN]
     replace hz9 := Z3 c20 hz9
     try rw [c20] at c18
     try rw [c20] at c19
     rcases Bool.eq_false_or_eq_true (decide (2 ≤ a0.Kind)) with c21 | c21
     ·replace hz9 := Z4 c21 hz9
      try rw [c21] at c18
      try rw [c21] at c19
      try rw [c21] at c20
      rcases Bool.eq_false_or_eq_true (decide (a0.Kind ≤ 7)) with c22 | c22
      ·replace hz9 := Z4 c22 hz9
       try rw [c22] at c18
       try rw [c22] at c19
       try rw [c22] at c20
       try rw [c22] at c21
       obtain ⟨x14, hx14, ax14, bx14, cx14, hz9⟩ := bE (f := (eI .u64)) Gn (fun _ => rfl) (by decide) hz9
       obtain ⟨y15, hy15, hz9⟩ := bC hz9
       refine Xg Zf (by kernel_rfl) [none, none, none, none, none, none, none, none, some true, some true, some true, some true, some true, some true, some true, some true, some true, some true, some true, some true] (by kernel_rfl) ?_
       simp only [push_cast, Nat.reduceAdd, Nat.reduceSub, Nat.reduceMul, Nat.reduceLeDiff, Nat.reduceLT, Nat.reduceEqDiff, ↓reduceIte, reduceCtorEq, Int.reduceBEq, Int.reduceBNe, Nat.reduceBEq, Int.reduceLE, Int.reduceLT, Int.reduceEq, Int.reduceNe, Int.reduceNeg, Nat.reduceDiv, Nat.reduceMod, Nat.reducePow, Za, c18, c19, c20, c21, c22, ax14, bx14, cx14, hN0, hN]
       repeat (with_reducible refine And.intro (by first | (intro h0; simp only [h0, and_self]; done) | (intro h0; simp only [h0, Bool.not_false, Bool.not_true, Bool.true_and, Bool.and_true, true_and, and_true, and_self, imp_self, implies_true, bne_iff_ne, ne_eq, beq_iff_eq]; done) | (intros; simp_all; done) | exact True.intro) ?_)
       refine PCall.of (Zbt hy15) ?_
       simp only [push_cast, Nat.reduceAdd, Nat.reduceSub, Nat.reduceMul, Nat.reduceLeDiff, Nat.reduceLT, Nat.reduceEqDiff, ↓reduceIte, reduceCtorEq, Int.reduceBEq, Int.reduceBNe, Nat.reduceBEq, Int.reduceLE, Int.reduceLT, Int.reduceEq, Int.reduceNe, Int.reduceNeg, Nat.reduceDiv, Nat.reduceMod, Nat.reducePow, Za, c18, c19, c20, c21, c22, ax14, bx14, cx14, hN0, hN]
       repeat (with_reducible refine And.intro (by first | (intro h0; simp only [h0, and_self]; done) | (intro h0; simp only [h0, Bool.not_false, Bool.not_true, Bool.true_and, Bool.and_true, true_and, and_true, and_self, imp_self, implies_true, bne_iff_ne, ne_eq, beq_iff_eq]; done) | (intros; simp_all; done) | exact True.intro) ?_)
       have hz9 := Option.some.inj hz9; subst hz9
       refine And.intro rfl (Fit2.of (Zo hU rfl rfl ?_) (by omega))
       simp only [push_cast, Nat.reduceAdd, Nat.reduceSub, Nat.reduceMul, Nat.reduceLeDiff, Nat.reduceLT, Nat.reduceEqDiff, ↓reduceIte, reduceCtorEq, Int.reduceBEq, Int.reduceBNe, Nat.reduceBEq, Int.reduceLE, Int.reduceLT, Int.reduceEq, Int.reduceNe, Int.reduceNeg, Nat.reduceDiv, Nat.reduceMod, Nat.reducePow, Za, c18, c19, c20, c21, c22, ax14, bx14, cx14, hN0, hN]
      replace hz9 := Z3 c22 hz9
      try rw [c22] at c18
      try rw [c22] at c19
      try rw [c22] at c20
      try rw [c22] at c21
      refine Xg Zf (by kernel_rfl) [none, none, none, none, none, none, none, none, some true, some true, some false, some false, some false, some false, some false, some false, some false, some false, some false, some true] (by kernel_rfl) ?_
      simp only [push_cast, seval, ↓reduceIte, Za, c18, c19, c20, c21, c22, hN0, hN]
      repeat (with_reducible refine And.intro (by first | (intro h0; simp only [h0, and_self]; done) | (intro h0; simp only [h0, Bool.not_false, Bool.not_true, Bool.true_and, Bool.and_true, true_and, and_true, and_self, imp_self, implies_true, bne_iff_ne, ne_eq, beq_iff_eq]; done) | (intros; simp_all; done) | exact True.intro) ?_)
      have hz9 := Option.some.inj hz9; subst hz9
      refine And.intro rfl (Fit2.of (Zo hU rfl rfl ?_) (by omega))
      simp only [push_cast, seval, ↓reduceIte, Za, c18, c19, c20, c21, c22, hN0, hN]
     replace hz9 := Z3 c21 hz9
     try rw [c21] at c18
     try rw [c21] at c19
     try rw [c21] at c20
     refine Xg Zf (by kernel_rfl) [none, none, none, none, none, none, none, none, some true, some true, some false, some false, some false, some false, some false, some false, some false, some false, some false, some true] (by kernel_rfl) ?_
     simp only [push_cast, seval, ↓reduceIte, Za, c18, c19, c20, c21, hN0, hN]
     repeat (with_reducible refine And.intro (by first | (intro h0; simp only [h0, and_self]; done) | (intro h0; simp only [h0, Bool.not_false, Bool.not_true, Bool.true_and, Bool.and_true, true_and, and_true, and_self, imp_self, implies_true, bne_iff_ne, ne_eq, beq_iff_eq]; done) | (intros; simp_all; done) | exact True.intro) ?_)
     have hz9 := Option.some.inj hz9; subst hz9
     refine And.intro rfl (Fit2.of (Zo hU rfl rfl ?_) (by omega))
     simp only [push_cast, seval, ↓reduceIte, Za, c18, c19, c20, c21, hN0, hN]
    replace hz9 := Z3 c19 hz9
    try rw [c19] at c18
    rcases Bool.eq_false_or_eq_true (decide (2 ≤ a0.Kind)) with c23 | c23
    ·replace hz9 := Z4 c23 hz9
     try rw [c23] at c18
     try rw [c23] at c19
     rcases Bool.eq_false_or_eq_true (decide (a0.Kind ≤ 7)) with c24 | c24
     ·replace hz9 := Z4 c24 hz9
      try rw [c24] at c18
      try rw [c24] at c19
      try rw [c24] at c23
      obtain ⟨x16, hx16, ax16, bx16, cx16, hz9⟩ := bE (f := (eI .u64)) Gn (fun _ => rfl) (by decide) hz9
      obtain ⟨y17, hy17, hz9⟩ := bC hz9
      refine Xg Zf (by kernel_rfl) [none, none, none, none, none, none, none, none, some true, some true, some true, some true, some true, some true, some true, some true, some true, some true, some true, some true] (by kernel_rfl) ?_
      simp only [push_cast, Nat.reduceAdd, Nat.reduceSub, Nat.reduceMul, Nat.reduceLeDiff, Nat.reduceLT, Nat.reduceEqDiff, ↓reduceIte, reduceCtorEq, Int.reduceBEq, Int.reduceBNe, Nat.reduceBEq, Int.reduceLE, Int.reduceLT, Int.reduceEq, Int.reduceNe, Int.reduceNeg, Nat.reduceDiv, Nat.reduceMod, Nat.reducePow, Za, c18, c19, c23, c24, ax16, bx16, cx16, hN0, hN]
      repeat (with_reducible refine And.intro (by first | (intro h0; simp only [h0, and_self]; done) | (intro h0; simp only [h0, Bool.not_false, Bool.not_true, Bool.true_and, Bool.and_true, true_and, and_true, and_self, imp_self, implies_true, bne_iff_ne, ne_eq, beq_iff_eq]; done) | (intros; simp_all; done) | exact True.intro) ?_)
      refine PCall.of (Zbt hy17) ?_
      simp only [push_cast, Nat.reduceAdd, Nat.reduceSub, Nat.reduceMul, Nat.reduceLeDiff, Nat.reduceLT, Nat.reduceEqDiff, ↓reduceIte, reduceCtorEq, Int.reduceBEq, Int.reduceBNe, Nat.reduceBEq, Int.reduceLE, Int.reduceLT, Int.reduceEq, Int.reduceNe, Int.reduceNeg, Nat.reduceDiv, Nat.reduceMod, Nat.reducePow, Za, c18, c19, c23, c24, ax16, bx16, cx16, hN0, hN]
      repeat (with_reducible refine And.intro (by first | (intro h0; simp only [h0, and_self]; done) | (intro h0; simp only [h0, Bool.not_false, Bool.not_true, Bool.true_and, Bool.and_true, true_and, and_true, and_self, imp_self, implies_true, bne_iff_ne, ne_eq, beq_iff_eq]; done) | (intros; simp_all; done) | exact True.intro) ?_)
      have hz9 := Option.some.inj hz9; subst hz9
      refine And.intro rfl (Fit2.of (Zo hU rfl rfl ?_) (by omega))
      simp only [push_cast, Nat.reduceAdd, Nat.reduceSub, Nat.reduceMul, Nat.reduceLeDiff, Nat.reduceLT, Nat.reduceEqDiff, ↓reduceIte, reduceCtorEq, Int.reduceBEq, Int.reduceBNe, Nat.reduceBEq, Int.reduceLE, Int.reduceLT, Int.reduceEq, Int.reduceNe, Int.reduceNeg, Nat.reduceDiv, Nat.reduceMod, Nat.reducePow, Za, c18, c19, c23, c24, ax16, bx16, cx16, hN0, hN]
     replace hz9 := Z3 c24 hz9
     try rw [c24] at c18
     try rw [c24] at c19
     try rw [c24] at c23
     refine Xg Zf (by kernel_rfl) [none, none, none, none, none, none, none, none, some true, some true, some false, some false, some false, some false, some false, some false, some false, some false, some false, some true] (by kernel_rfl) ?_
     simp only [push_cast, seval, ↓reduceIte, Za, c18, c19, c23, c24, hN0, hN]
     repeat (with_reducible refine And.intro (by first | (intro h0; simp only [h0, and_self]; done) | (intro h0; simp only [h0, Bool.not_false, Bool.not_true, Bool.true_and, Bool.and_true, true_and, and_true, and_self, imp_self, implies_true, bne_iff_ne, ne_eq, beq_iff_eq]; done) | (intros; simp_all; done) | exact True.intro) ?_)
     have hz9 := Option.some.inj hz9; subst hz9
     refine And.intro rfl (Fit2.of (Zo hU rfl rfl ?_) (by omega))
     simp only [push_cast, seval, ↓reduceIte, Za, c18, c19, c23, c24, hN0, hN]
    replace hz9 := Z3 c23 hz9
    try rw [c23] at c18
    try rw [c23] at c19
    refine Xg Zf (by kernel_rfl) [none, none, none, none, none, none, none, none, some true, some true, some false, some false, some false, some false, some false, some false, some false, some false, some false, some true] (by kernel_rfl) ?_
    simp only [push_cast, seval, ↓reduceIte, Za, c18, c19, c23, hN0, hN]
    repeat (with_reducible refine And.intro (by first | (intro h0; simp only [h0, and_self]; done) | (intro h0; simp only [h0, Bool.not_false, Bool.not_true, Bool.true_and, Bool.and_true, true_and, and_true, and_self, imp_self, implies_true, bne_iff_ne, ne_eq, beq_iff_eq]; done) | (intros; simp_all; done) | exact True.intro) ?_)
    have hz9 := Option.some.inj hz9; subst hz9
    refine And.intro rfl (Fit2.of (Zo hU rfl rfl ?_) (by omega))
    simp only [push_cast, seval, ↓reduceIte, Za, c18, c19, c23, hN0, hN]
   refine Z0 (t := z9) rfl (fun c25 => ?_) (fun c25 => ?_)
   ·replace hs0_ := Z4 c25 hs0_
    refine Zw [4] (Zc Zf [] ?_)
    simp only [push_cast, seval, ↓reduceIte, Za, hN0, hN]
    refine Yb ?_
    try simp only [Zk, Zg]
    have hs0_ := Option.some.inj hs0_; subst hs0_
    refine And.intro (fun h => by cases h) (And.intro rfl (Fit2.of (Zo hU rfl rfl ?_) (by omega)))
    simp only [push_cast, seval, ↓reduceIte, Za, hN0, hN]
   replace hs0_ := Z3 c25 hs0_
   refine Ya ?_
   try simp only [Zk, Zg]
   refine Zl [1, 2, 5] [true, false] ?_
   simp only [push_cast, seval, ↓reduceIte]
   refine Zc Zf [] ?_
   simp only [push_cast, seval, ↓reduceIte, Za, hN0, hN]
   have hs0_ := Option.some.inj hs0_; subst hs0_
   refine And.intro rfl (Fit2.of (Zo hU rfl rfl ?_) (by omega))
   simp only [push_cast, seval, ↓reduceIte, Za, hN0, hN]
  replace hs0_ := Z3 c27 hs0_
  refine Vy ?_
  try simp only [Zk, Zg, ↓reduceIte, Nat.reduceEqDiff]
  have hs0_ := Option.some.inj hs0_; subst hs0_
  refine And.intro (fun h => by cases h) (And.intro rfl (Fit2.of (Zo hU rfl rfl ?_) (by omega)))
  simp only [push_cast, seval, ↓reduceIte, Za, hN0, hN]
 rcases z28 with z28 | z28
 ·dsimp only [Un] at hw h
  refine Zaf hw ?_
  try simp only [Zk, Zg, ↓reduceIte, Nat.reduceEqDiff]
  have h := Option.some.inj h; subst h
  refine Zu (.inr rfl) hU [.val (.bool false)] (by omega) ?_
  simp only [push_cast, seval, ↓reduceIte, Za, Try.results18, hN0, hN]
 dsimp only [Un] at hw h
 refine X4 hw ?_
 try simp only [Zk, Zg, ↓reduceIte, Nat.reduceEqDiff]
 refine Zl [] [false] ?_
 simp only [push_cast, seval, ↓reduceIte]
 refine Zw [4] (Zc Zf [] ?_)
 simp only [push_cast, seval, ↓reduceIte, Za, hN0, hN]
 refine Yb ?_
 try simp only [Zk, Zg]
 have h := Option.some.inj h; subst h
 refine Zu (.inr rfl) hU [.val (.bool true)] (by omega) ?_
 simp only [push_cast, seval, ↓reduceIte, Za, Try.results18, hN0, hN]
theorem Zeh : ∀ k, (∀ {a0 : S_api_Tree} {a1 : Int} {r : Bool} {O : Objs} {n : Nat}, (Xe k) a0 a1 = some r → GTo Try.prog 18 [.agg (Zd a0), .val (.int .i64 a1)] O n (.val (.bool r)) O n) := fun k => by
 induction k with
 | zero => exact @fun a0 a1 r O n h => (nomatch (show (none : Option _) = some _ from h))
 | succ k ih => exact @fun a0 a1 r O n h => Zfu (ih)  h
theorem Zhd {a0 : S_api_Tree} {a1 : Int} {r : Bool} {O : Objs} {n : Nat} (h : Uz a0 a1 = some r) : GTo Try.prog 18 [.agg (Zd a0), .val (.int .i64 a1)] O n (.val (.bool r)) O n := by
 obtain ⟨k, hk⟩ := Zao h
 exact (Zeh k)  hk
theorem Qg {a0 : S_api_Tree} {r : Bool} {O : Objs} {n : Nat} (h : Xw a0 = some r) : GTo Try.prog 53 [.agg (Zd a0)] O n (.val (.bool r)) O n := by
 unfold Xw at h
 refine Qp Zf Try.call53 Try.func53 rfl (Nat.le_of_ble_eq_true rfl) (Nat.le_refl _) fun hU => ?_
 have hN0 : O n = none := hU.fresh _ (Nat.le_refl _)
 have hN : ∀ k, O (n + k) = none := fun k => hU.fresh _ (Nat.le_add_right _ _)
 show W _ _ _ _ ⟨14, [], [(0, .agg (Zd a0))]⟩ (Zt O n []) _
 refine Zw [1] (Zc Zf [] ?_)
 simp only [push_cast, seval, ↓reduceIte, Za, hN0, hN]
 obtain ⟨z3, hz3, h⟩ := bC h
 refine Ku (E' := ⟨14, [], [(2, .val (.bool z3))]⟩) (O' := (Zt O n [none])) (n0 := (n + 1)) ?_ ?_
 ·obtain ⟨y6, hy6, hz3⟩ := bC hz3
  rcases Bool.eq_false_or_eq_true y6 with c8 | c8
  ·replace hz3 := Z4 c8 hz3
   obtain ⟨y7, hy7, hz3⟩ := bC hz3
   refine Zc Zf [some true, some true, none, none, none] ?_
   simp only [push_cast, seval, ↓reduceIte, Za, c8, hN0, hN]
   repeat (with_reducible refine And.intro (by first | (intro h0; simp only [h0, and_self]; done) | (intro h0; simp only [h0, Bool.not_false, Bool.not_true, Bool.true_and, Bool.and_true, true_and, and_true, and_self, imp_self, implies_true, bne_iff_ne, ne_eq, beq_iff_eq]; done) | (intros; simp_all; done) | exact True.intro) ?_)
   refine (Zcw hy6).then ?_
   simp only [push_cast, seval, ↓reduceIte, Za, c8, hN0, hN]
   repeat (with_reducible refine And.intro (by first | (intro h0; simp only [h0, and_self]; done) | (intro h0; simp only [h0, Bool.not_false, Bool.not_true, Bool.true_and, Bool.and_true, true_and, and_true, and_self, imp_self, implies_true, bne_iff_ne, ne_eq, beq_iff_eq]; done) | (intros; simp_all; done) | exact True.intro) ?_)
   refine (Zhd hy7).then ?_
   simp only [push_cast, seval, ↓reduceIte, Za, c8, hN0, hN]
   repeat (with_reducible refine And.intro (by first | (intro h0; simp only [h0, and_self]; done) | (intro h0; simp only [h0, Bool.not_false, Bool.not_true, Bool.true_and, Bool.and_true, true_and, and_true, and_self, imp_self, implies_true, bne_iff_ne, ne_eq, beq_iff_eq]; done) | (intros; simp_all; done) | exact True.intro) ?_)
   have hz3 := Option.some.inj hz3; subst hz3
   refine And.intro rfl (Fit2.of (Zo hU rfl rfl ?_) (by omega))
   simp only [push_cast, seval, ↓reduceIte, Za, c8, hN0, hN]
  replace hz3 := Z3 c8 hz3
  refine Zc Zf [some false, some false, some false, some false, some false] ?_
  simp only [push_cast, seval, ↓reduceIte, Za, c8, hN0, hN]
  refine (Zcw hy6).then ?_
  simp only [push_cast, seval, ↓reduceIte, Za, c8, hN0, hN]
  have hz3 := Option.some.inj hz3; subst hz3
  refine And.intro rfl (Fit2.of (Zo hU rfl rfl ?_) (by omega))
  simp only [push_cast, seval, ↓reduceIte, Za, c8, hN0, hN]
 refine Yb ?_
 try simp only [Zk, Zg]
 have h := Option.some.inj h; subst h
 refine Zu (.inr rfl) hU [.val (.bool z3)] (by omega) ?_
 simp only [push_cast, seval, ↓reduceIte, Za, Try.results53, hN0, hN]
theorem Ko {a0 : (List Int)} {r : (List Int)} {O : Objs} {n : Nat} (h : Qf a0 = some r) : GTo Try.prog 63 [.sl a0.length (fl (eI .u64) a0)] O n (.sl r.length (fl (eI .u64) r)) O n := by
 unfold Qf at h
 refine Qp Zf Try.call63 Try.func63 rfl (Nat.le_of_ble_eq_true rfl) (Nat.le_refl _) fun hU => ?_
 have hN0 : O n = none := hU.fresh _ (Nat.le_refl _)
 have hN : ∀ k, O (n + k) = none := fun k => hU.fresh _ (Nat.le_add_right _ _)
 show W _ _ _ _ ⟨22, [], [(0, .sl a0.length (fl (eI .u64) a0))]⟩ (Zt O n []) _
 refine Zw [0] (Zc Zf [] ?_)
 simp only [push_cast, seval, ↓reduceIte, Za, hN0, hN]
 refine Zw [0, 3] (Zc Zf [] ?_)
 simp only [push_cast, seval, ↓reduceIte, Za, hN0, hN]
 refine Zm ?_
 refine Zl [0, 3] [] ?_
 simp only [push_cast, seval, ↓reduceIte]
 obtain ⟨z7, hz7, h⟩ := bC h
 refine X4 (E' := ⟨22, [], [(0, .sl a0.length (fl (eI .u64) a0)), (3, .val (.int .i64 z7))]⟩) (O' := (Zt O n [])) (n0 := n) ?_ ?_
 ·refine J7 hz7 (fun s0_ => ⟨22, [], [(0, .sl a0.length (fl (eI .u64) a0)), (3, .val (.int .i64 s0_))]⟩) (fun s0_ => (Zt O n [])) (fun z7 => JX 0 n (⟨22, [], [(0, .sl a0.length (fl (eI .u64) a0)), (3, .val (.int .i64 z7))]⟩ : Env) (Zt O n []) n) ?_
  intro s0_ x0_ hs0_
  unfold Jj at hs0_
  try dsimp only
  refine Zm ?_
  obtain ⟨z2, hz2, hs0_⟩ := bC hs0_
  refine Ku (E' := ⟨22, [], [(0, .sl a0.length (fl (eI .u64) a0)), (3, .val (.int .i64 s0_)), (15, .val (.bool z2))]⟩) (O' := (Zt O n [])) (n0 := n) ?_ ?_
  ·rcases Bool.eq_false_or_eq_true (decide (0 < s0_)) with c5 | c5
   ·replace hz2 := Z4 c5 hz2
    obtain ⟨x4, hx4, ax4, bx4, cx4, hz2⟩ := bE (f := (eI .u64)) Gn (fun _ => rfl) (by decide) hz2
    refine Zc Zf [some true, some true, some true, some true, some true, some true] ?_
    simp only [push_cast, Nat.reduceAdd, Nat.reduceSub, Nat.reduceMul, Nat.reduceLeDiff, Nat.reduceLT, Nat.reduceEqDiff, ↓reduceIte, reduceCtorEq, Int.reduceBEq, Int.reduceBNe, Nat.reduceBEq, Int.reduceLE, Int.reduceLT, Int.reduceEq, Int.reduceNe, Int.reduceNeg, Nat.reduceDiv, Nat.reduceMod, Nat.reducePow, Za, c5, ax4, bx4, cx4, hN0, hN]
    have hz2 := Option.some.inj hz2; subst hz2
    refine And.intro rfl (Fit2.of (Zo hU rfl rfl ?_) (by omega))
    simp only [push_cast, Nat.reduceAdd, Nat.reduceSub, Nat.reduceMul, Nat.reduceLeDiff, Nat.reduceLT, Nat.reduceEqDiff, ↓reduceIte, reduceCtorEq, Int.reduceBEq, Int.reduceBNe, Nat.reduceBEq, Int.reduceLE, Int.reduceLT, Int.reduceEq, Int.reduceNe, Int.reduceNeg, Nat.reduceDiv, Nat.reduceMod, Nat.reducePow, Za, c5, ax4, bx4, cx4, hN0, hN]
   replace hz2 := Z3 c5 hz2
   refine Zc Zf [some false, some false, some false, some false, some false, some false] ?_
   simp only [push_cast, seval, ↓reduceIte, Za, c5, hN0, hN]
   have hz2 := Option.some.inj hz2; subst hz2
   refine And.intro rfl (Fit2.of (Zo hU rfl rfl ?_) (by omega))
   simp only [push_cast, seval, ↓reduceIte, Za, c5, hN0, hN]
  refine Z0 (t := z2) rfl (fun c6 => ?_) (fun c6 => ?_)
  ·replace hs0_ := Z4 c6 hs0_
   refine Ya ?_
   try simp only [Zk, Zg]
   refine Zl [0, 3] [] ?_
   simp only [push_cast, seval, ↓reduceIte]
   refine Xq ?_
   refine Zc Zf [] ?_
   simp only [push_cast, seval, ↓reduceIte, Za, hN0, hN]
   have hs0_ := Option.some.inj hs0_; subst hs0_
   refine And.intro rfl (Fit2.of (Zo hU rfl rfl ?_) (by omega))
   simp only [push_cast, seval, ↓reduceIte, Za, hN0, hN]
  replace hs0_ := Z3 c6 hs0_
  refine Vy ?_
  try simp only [Zk, Zg, ↓reduceIte, Nat.reduceEqDiff]
  have hs0_ := Option.some.inj hs0_; subst hs0_
  refine And.intro (fun h => by cases h) (And.intro rfl (Fit2.of (Zo hU rfl rfl ?_) (by omega)))
  simp only [push_cast, seval, ↓reduceIte, Za, hN0, hN]
 try simp only [Zk, Zg, ↓reduceIte, Nat.reduceEqDiff]
 refine Zl [0, 3] [] ?_
 simp only [push_cast, seval, ↓reduceIte]
 obtain ⟨l9, al9, bl9, cl9, gl9, h⟩ := bS3 (lo := none) (hi := (.i64, z7)) (f := (eI .u64)) rfl rfl Zer Gn (fun _ => rfl) h
 refine Zw [2] (Zc Zf [] ?_)
 simp only [push_cast, seval, ↓reduceIte, Za, al9, bl9, cl9, gl9, hN0, hN]
 refine Yb ?_
 try simp only [Zk, Zg]
 have h := Option.some.inj h; subst h
 refine Zu (.inr rfl) hU [.sl l9.length (fl (eI .u64) l9)] (by omega) ?_
 simp only [push_cast, seval, ↓reduceIte, Za, Try.results63, hN0, hN]
theorem Xh {a0 : (List Int)} {a1 : (List Int)} {r : Bool} {O : Objs} {n : Nat} (h : Yl a0 a1 = some r) : GTo Try.prog 65 [.sl a0.length (fl (eI .u64) a0), .sl a1.length (fl (eI .u64) a1)] O n (.val (.bool r)) O n := by
 unfold Yl at h
 refine Qp Zf Try.call65 Try.func65 rfl (Nat.le_of_ble_eq_true rfl) (Nat.le_refl _) fun hU => ?_
 have hN0 : O n = none := hU.fresh _ (Nat.le_refl _)
 have hN : ∀ k, O (n + k) = none := fun k => hU.fresh _ (Nat.le_add_right _ _)
 show W _ _ _ _ ⟨26, [], [(0, .sl a0.length (fl (eI .u64) a0)), (1, .sl a1.length (fl (eI .u64) a1))]⟩ (Zt O n []) _
 refine Zw [0, 1] (Zc Zf [] ?_)
 simp only [push_cast, seval, ↓reduceIte, Za, hN0, hN]
 refine Zm ?_
 refine Zw [0, 1, 10] (Zc Zf [] ?_)
 simp only [push_cast, seval, ↓reduceIte, Za, hN0, hN]
 refine Z0 (t := ((a0.length : Int) != (a1.length : Int))) rfl (fun c8 => ?_) (fun c8 => ?_)
 ·replace h := Z4 c8 h
  refine Zw [4] (Zc Zf [] ?_)
  simp only [push_cast, seval, ↓reduceIte, Za, hN0, hN]
  refine Yb ?_
  try simp only [Zk, Zg]
  have h := Option.some.inj h; subst h
  refine Zu (.inr rfl) hU [.val (.bool false)] (by omega) ?_
  simp only [push_cast, seval, ↓reduceIte, Za, Try.results65, hN0, hN]
 replace h := Z3 c8 h
 refine Ya ?_
 try simp only [Zk, Zg]
 refine Zl [0, 1] [] ?_
 simp only [push_cast, seval, ↓reduceIte]
 refine Zm ?_
 refine Zw [0, 1, 12, 13] (Zc Zf [] ?_)
 simp only [push_cast, seval, ↓reduceIte, Za, hN0, hN]
 refine Zl [0, 1, 12, 13] [] ?_
 simp only [push_cast, seval, ↓reduceIte]
 obtain ⟨z7, hz7, h⟩ := bC h
 refine Zfg (J := (Un (fun z7 => JR n (⟨26, [], [(4, .val (.bool false))]⟩ : Env) (Zt O n []) n) (fun z7 => JX 0 n (⟨26, [], []⟩ : Env) (Zt O n []) n))) (z := z7) ?_ fun hw => ?_
 ·refine J7 hz7 (fun s0_ => ⟨26, [], [(0, .sl a0.length (fl (eI .u64) a0)), (1, .sl a1.length (fl (eI .u64) a1)), (12, .val (.int .i64 (a0.length : Int))), (13, .val (.int .i64 s0_))]⟩) (fun s0_ => (Zt O n [])) (Un (fun z7 => JR n (⟨26, [], [(4, .val (.bool false))]⟩ : Env) (Zt O n []) n) (fun z7 => JX 0 n (⟨26, [], []⟩ : Env) (Zt O n []) n)) ?_
  intro s0_ x0_ hs0_
  unfold Yn at hs0_
  try dsimp only
  refine Zw [0, 1, 12, 13, 14] (Zc Zf [] ?_)
  simp only [push_cast, seval, ↓reduceIte, Za, hN0, hN]
  refine Zm ?_
  refine Z0 (t := (decide (s0_ < (a0.length : Int)))) rfl (fun c6 => ?_) (fun c6 => ?_)
  ·replace hs0_ := Z4 c6 hs0_
   refine Ya ?_
   try simp only [Zk, Zg]
   refine Zl [0, 1, 12, 13] [] ?_
   simp only [push_cast, seval, ↓reduceIte]
   refine Zm ?_
   refine Xq ?_
   refine Zw [0, 1, 5, 12, 13] (Zc Zf [] ?_)
   simp only [push_cast, seval, ↓reduceIte, Za, hN0, hN]
   obtain ⟨x3, hx3, ax3, bx3, cx3, hs0_⟩ := bE (f := (eI .u64)) Gn (fun _ => rfl) (by decide) hs0_
   obtain ⟨x4, hx4, ax4, bx4, cx4, hs0_⟩ := bE (f := (eI .u64)) Gn (fun _ => rfl) (by decide) hs0_
   refine Zw [0, 1, 12, 13, 24] (Xg Zf (by kernel_rfl) [] (by kernel_rfl) ?_)
   simp only [push_cast, Nat.reduceAdd, Nat.reduceSub, Nat.reduceMul, Nat.reduceLeDiff, Nat.reduceLT, Nat.reduceEqDiff, ↓reduceIte, reduceCtorEq, Int.reduceBEq, Int.reduceBNe, Nat.reduceBEq, Int.reduceLE, Int.reduceLT, Int.reduceEq, Int.reduceNe, Int.reduceNeg, Nat.reduceDiv, Nat.reduceMod, Nat.reducePow, Za, ax3, bx3, cx3, ax4, bx4, cx4, hN0, hN]
   refine Z0 (t := (x3 != x4)) rfl (fun c5 => ?_) (fun c5 => ?_)
   ·replace hs0_ := Z4 c5 hs0_
    refine Zw [4] (Zc Zf [] ?_)
    simp only [push_cast, seval, ↓reduceIte, Za, hN0, hN]
    refine Yb ?_
    try simp only [Zk, Zg]
    have hs0_ := Option.some.inj hs0_; subst hs0_
    refine And.intro (fun h => by cases h) (And.intro rfl (Fit2.of (Zo hU rfl rfl ?_) (by omega)))
    simp only [push_cast, seval, ↓reduceIte, Za, hN0, hN]
   replace hs0_ := Z3 c5 hs0_
   refine Ya ?_
   try simp only [Zk, Zg]
   refine Zl [0, 1, 12, 13] [] ?_
   simp only [push_cast, seval, ↓reduceIte]
   refine Zc Zf [] ?_
   simp only [push_cast, seval, ↓reduceIte, Za, hN0, hN]
   have hs0_ := Option.some.inj hs0_; subst hs0_
   refine And.intro rfl (Fit2.of (Zo hU rfl rfl ?_) (by omega))
   simp only [push_cast, seval, ↓reduceIte, Za, hN0, hN]
  replace hs0_ := Z3 c6 hs0_
  refine Vy ?_
  try simp only [Zk, Zg, ↓reduceIte, Nat.reduceEqDiff]
  have hs0_ := Option.some.inj hs0_; subst hs0_
  refine And.intro (fun h => by cases h) (And.intro rfl (Fit2.of (Zo hU rfl rfl ?_) (by omega)))
  simp only [push_cast, seval, ↓reduceIte, Za, hN0, hN]
 rcases z7 with z7 | z7
 ·dsimp only [Un] at hw h
  refine Zaf hw ?_
  try simp only [Zk, Zg, ↓reduceIte, Nat.reduceEqDiff]
  have h := Option.some.inj h; subst h
  refine Zu (.inr rfl) hU [.val (.bool false)] (by omega) ?_
  simp only [push_cast, seval, ↓reduceIte, Za, Try.results65, hN0, hN]
 dsimp only [Un] at hw h
 refine X4 hw ?_
 try simp only [Zk, Zg, ↓reduceIte, Nat.reduceEqDiff]
 refine Zl [] [] ?_
 simp only [push_cast, seval, ↓reduceIte]
 refine Zw [4] (Zc Zf [] ?_)
 simp only [push_cast, seval, ↓reduceIte, Za, hN0, hN]
 refine Yb ?_
 try simp only [Zk, Zg]
 have h := Option.some.inj h; subst h
 refine Zu (.inr rfl) hU [.val (.bool true)] (by omega) ?_
 simp only [push_cast, seval, ↓reduceIte, Za, Try.results65, hN0, hN]
theorem Gw {a0 : (List S_api_Tree)} {r : (List S_api_Tree)} {O : Objs} {n : Nat} (h : Jg a0 = some r) : GTo Try.prog 64 [.sl a0.length (fl Zb a0)] O n (.sl r.length (fl Zb r)) O n := by
 unfold Jg at h
 refine Qp Zf Try.call64 Try.func64 rfl (Nat.le_of_ble_eq_true rfl) (Nat.le_refl _) fun hU => ?_
 have hN0 : O n = none := hU.fresh _ (Nat.le_refl _)
 have hN : ∀ k, O (n + k) = none := fun k => hU.fresh _ (Nat.le_add_right _ _)
 show W _ _ _ _ ⟨23, [], [(0, .sl a0.length (fl Zb a0))]⟩ (Zt O n []) _
 refine Zw [0] (Zc Zf [] ?_)
 simp only [push_cast, seval, ↓reduceIte, Za, hN0, hN]
 refine Zw [0, 3] (Zc Zf [] ?_)
 simp only [push_cast, seval, ↓reduceIte, Za, hN0, hN]
 refine Zm ?_
 refine Zl [0, 3] [] ?_
 simp only [push_cast, seval, ↓reduceIte]
 obtain ⟨z10, hz10, h⟩ := bC h
 refine X4 (E' := ⟨23, [], [(0, .sl a0.length (fl Zb a0)), (3, .val (.int .i64 z10))]⟩) (O' := (Zt O n [])) (n0 := n) ?_ ?_
 ·refine J7 hz10 (fun s0_ => ⟨23, [], [(0, .sl a0.length (fl Zb a0)), (3, .val (.int .i64 s0_))]⟩) (fun s0_ => (Zt O n [])) (fun z10 => JX 0 n (⟨23, [], [(0, .sl a0.length (fl Zb a0)), (3, .val (.int .i64 z10))]⟩ : Env) (Zt O n []) n) ?_
  intro s0_ x0_ hs0_
  unfold J6 at hs0_
  try dsimp only
  refine Zm ?_
  obtain ⟨z3, hz3, hs0_⟩ := bC hs0_
  refine Ku (E' := ⟨23, [], [(0, .sl a0.length (fl Zb a0)), (3, .val (.int .i64 s0_)), (16, .val (.bool z3))]⟩) (O' := (Zt O n [])) (n0 := n) ?_ ?_
  ·rcases Bool.eq_false_or_eq_true (decide (0 < s0_)) with c8 | c8
   ·replace hz3 := Z4 c8 hz3
    obtain ⟨x6, hx6, ax6, bx6, cx6, hz3⟩ := bE (f := Zb) Va (fun _ => rfl) (by decide) hz3
    have g7 := Ztr (f := Zb) (sz := 3) Zvx (fun _ => rfl) (by decide) (by decide) hx6
    refine Zc Zf [some true, some true, some true, some true, some true, some true, some true] ?_
    simp only [push_cast, Nat.reduceAdd, Nat.reduceSub, Nat.reduceMul, Nat.reduceLeDiff, Nat.reduceLT, Nat.reduceEqDiff, ↓reduceIte, reduceCtorEq, Int.reduceBEq, Int.reduceBNe, Nat.reduceBEq, Int.reduceLE, Int.reduceLT, Int.reduceEq, Int.reduceNe, Int.reduceNeg, Nat.reduceDiv, Nat.reduceMod, Nat.reducePow, Za, c8, ax6, bx6, cx6, g7, hN0, hN]
    have hz3 := Option.some.inj hz3; subst hz3
    refine And.intro rfl (Fit2.of (Zo hU rfl rfl ?_) (by omega))
    simp only [push_cast, Nat.reduceAdd, Nat.reduceSub, Nat.reduceMul, Nat.reduceLeDiff, Nat.reduceLT, Nat.reduceEqDiff, ↓reduceIte, reduceCtorEq, Int.reduceBEq, Int.reduceBNe, Nat.reduceBEq, Int.reduceLE, Int.reduceLT, Int.reduceEq, Int.reduceNe, Int.reduceNeg, Nat.reduceDiv, Nat.reduceMod, Nat.reducePow, Za, c8, ax6, bx6, cx6, g7, hN0, hN]
   replace hz3 := Z3 c8 hz3
   refine Zc Zf [some false, some false, some false, some false, some false, some false, some false] ?_
   simp only [push_cast, seval, ↓reduceIte, Za, c8, hN0, hN]
   have hz3 := Option.some.inj hz3; subst hz3
   refine And.intro rfl (Fit2.of (Zo hU rfl rfl ?_) (by omega))
   simp only [push_cast, seval, ↓reduceIte, Za, c8, hN0, hN]
  refine Z0 (t := z3) rfl (fun c9 => ?_) (fun c9 => ?_)
  ·replace hs0_ := Z4 c9 hs0_
   refine Ya ?_
   try simp only [Zk, Zg]
   refine Zl [0, 3] [] ?_
   simp only [push_cast, seval, ↓reduceIte]
   refine Xq ?_
   refine Zc Zf [] ?_
   simp only [push_cast, seval, ↓reduceIte, Za, hN0, hN]
   have hs0_ := Option.some.inj hs0_; subst hs0_
   refine And.intro rfl (Fit2.of (Zo hU rfl rfl ?_) (by omega))
   simp only [push_cast, seval, ↓reduceIte, Za, hN0, hN]
  replace hs0_ := Z3 c9 hs0_
  refine Vy ?_
  try simp only [Zk, Zg, ↓reduceIte, Nat.reduceEqDiff]
  have hs0_ := Option.some.inj hs0_; subst hs0_
  refine And.intro (fun h => by cases h) (And.intro rfl (Fit2.of (Zo hU rfl rfl ?_) (by omega)))
  simp only [push_cast, seval, ↓reduceIte, Za, hN0, hN]
 try simp only [Zk, Zg, ↓reduceIte, Nat.reduceEqDiff]
 refine Zl [0, 3] [] ?_
 simp only [push_cast, seval, ↓reduceIte]
 obtain ⟨l12, al12, bl12, cl12, gl12, h⟩ := bS3 (lo := none) (hi := (.i64, z10)) (f := Zb) rfl rfl Uv Va (fun _ => rfl) h
 refine Zw [2] (Zc Zf [] ?_)
 simp only [push_cast, seval, ↓reduceIte, Za, al12, bl12, cl12, gl12, hN0, hN]
 refine Yb ?_
 try simp only [Zk, Zg]
 have h := Option.some.inj h; subst h
 refine Zu (.inr rfl) hU [.sl l12.length (fl Zb l12)] (by omega) ?_
 simp only [push_cast, seval, ↓reduceIte, Za, Try.results64, hN0, hN]
theorem Zmy {Ql : (S_api_Tree → S_api_Tree → Option Bool)} {Zn : ((List S_api_Tree) → (List S_api_Tree) → Option Bool)} (Zex : ∀ {a0 : S_api_Tree} {a1 : S_api_Tree} {r : Bool} {O : Objs} {n : Nat}, Ql a0 a1 = some r → GTo Try.prog 24 [.agg (Zd a0), .agg (Zd a1)] O n (.val (.bool r)) O n) (Yf : ∀ {a0 : (List S_api_Tree)} {a1 : (List S_api_Tree)} {r : Bool} {O : Objs} {n : Nat}, Zn a0 a1 = some r → GTo Try.prog 66 [.sl a0.length (fl Zb a0), .sl a1.length (fl Zb a1), .fn 24 0 []] O n (.val (.bool r)) O n) {a0 : S_api_Tree} {a1 : S_api_Tree} {r : Bool} {O : Objs} {n : Nat} (h : U7 Ql Zn a0 a1 = some r) : GTo Try.prog 24 [.agg (Zd a0), .agg (Zd a1)] O n (.val (.bool r)) O n := by
 unfold U7 at h
 refine Qp Zf Try.call24 Try.func24 rfl (Nat.le_of_ble_eq_true rfl) (Nat.le_refl _) fun hU => ?_
 have hN0 : O n = none := hU.fresh _ (Nat.le_refl _)
 have hN : ∀ k, O (n + k) = none := fun k => hU.fresh _ (Nat.le_add_right _ _)
 show W _ _ _ _ ⟨44, [], [(0, .agg (Zd a0)), (1, .agg (Zd a1))]⟩ (Zt O n []) _
 refine Zw [2, 3] (Zc Zf [] ?_)
 simp only [push_cast, seval, ↓reduceIte, Za, hN0, hN]
 refine Zm ?_
 refine Zw [2, 3, 9] (Zc Zf [] ?_)
 simp only [push_cast, seval, ↓reduceIte, Za, hN0, hN]
 refine Z0 (t := (a0.Kind != a1.Kind)) rfl (fun c31 => ?_) (fun c31 => ?_)
 ·replace h := Z4 c31 h
  refine Zw [4] (Zc Zf [] ?_)
  simp only [push_cast, seval, ↓reduceIte, Za, hN0, hN]
  refine Yb ?_
  try simp only [Zk, Zg]
  have h := Option.some.inj h; subst h
  refine Zu (.inr rfl) hU [.val (.bool false)] (by omega) ?_
  simp only [push_cast, seval, ↓reduceIte, Za, Try.results24, hN0, hN]
 replace h := Z3 c31 h
 refine Ya ?_
 try simp only [Zk, Zg]
 refine Zl [2, 3] [true, true] ?_
 simp only [push_cast, seval, ↓reduceIte]
 refine Zm ?_
 refine Zw [2, 3, 11] (Zc Zf [] ?_)
 simp only [push_cast, seval, ↓reduceIte, Za, hN0, hN]
 refine Xq ?_
 refine Zw [2, 3, 11, 12] (Zc Zf [] ?_)
 simp only [push_cast, seval, ↓reduceIte, Za, hN0, hN]
 refine Z0 (t := (a0.Kind == 0)) rfl (fun c30 => ?_) (fun c30 => ?_)
 ·replace h := Z4 c30 h
  refine Zw [4] (Zc Zf [] ?_)
  simp only [push_cast, seval, ↓reduceIte, Za, hN0, hN]
  refine Yb ?_
  try simp only [Zk, Zg]
  have h := Option.some.inj h; subst h
  refine Zu (.inr rfl) hU [.val (.bool true)] (by omega) ?_
  simp only [push_cast, seval, ↓reduceIte, Za, Try.results24, hN0, hN]
 replace h := Z3 c30 h
 refine Zw [2, 3, 14] (Zc Zf [] ?_)
 simp only [push_cast, seval, ↓reduceIte, Za, hN0, hN]
 refine Z0 (t := (a0.Kind == 1)) rfl (fun c29 => ?_) (fun c29 => ?_)
 ·replace h := Z4 c29 h
  obtain ⟨z7, hz7, h⟩ := bC h
  refine Ku (E' := ⟨44, [], [(4, .val (.bool z7))]⟩) (O' := (Zt O n [none, none])) (n0 := (n + 2)) ?_ ?_
  ·obtain ⟨y14, hy14, hz7⟩ := bC hz7
   obtain ⟨y15, hy15, hz7⟩ := bC hz7
   obtain ⟨y16, hy16, hz7⟩ := bC hz7
   rcases Bool.eq_false_or_eq_true y16 with c20 | c20
   ·replace hz7 := Z4 c20 hz7
    obtain ⟨y17, hy17, hz7⟩ := bC hz7
    obtain ⟨y18, hy18, hz7⟩ := bC hz7
    obtain ⟨y19, hy19, hz7⟩ := bC hz7
    refine Xg Zf (by kernel_rfl) [some true, some true, some true, some true, some true, some true, some true] (by kernel_rfl) ?_
    simp only [push_cast, seval, ↓reduceIte, Za, c20, hN0, hN]
    refine PCall.of (Ko hy14) ?_
    simp only [push_cast, seval, ↓reduceIte, Za, c20, hN0, hN]
    refine PCall.of (Ko hy15) ?_
    simp only [push_cast, seval, ↓reduceIte, Za, c20, hN0, hN]
    refine PCall.of (Xh hy16) ?_
    simp only [push_cast, seval, ↓reduceIte, Za, c20, hN0, hN]
    refine PCall.of (Gw hy17) ?_
    simp only [push_cast, seval, ↓reduceIte, Za, c20, hN0, hN]
    refine PCall.of (Gw hy18) ?_
    simp only [push_cast, seval, ↓reduceIte, Za, c20, hN0, hN]
    refine PCall.of (Yf hy19) ?_
    simp only [push_cast, seval, ↓reduceIte, Za, c20, hN0, hN]
    have hz7 := Option.some.inj hz7; subst hz7
    refine And.intro rfl (Fit2.of (Zo hU rfl rfl ?_) (by omega))
    simp only [push_cast, seval, ↓reduceIte, Za, c20, hN0, hN]
   replace hz7 := Z3 c20 hz7
   refine Xg Zf (by kernel_rfl) [some false, some false, some false, some false, some false, some false, some false] (by kernel_rfl) ?_
   simp only [push_cast, seval, ↓reduceIte, Za, c20, hN0, hN]
   refine PCall.of (Ko hy14) ?_
   simp only [push_cast, seval, ↓reduceIte, Za, c20, hN0, hN]
   refine PCall.of (Ko hy15) ?_
   simp only [push_cast, seval, ↓reduceIte, Za, c20, hN0, hN]
   refine PCall.of (Xh hy16) ?_
   simp only [push_cast, seval, ↓reduceIte, Za, c20, hN0, hN]
   have hz7 := Option.some.inj hz7; subst hz7
   refine And.intro rfl (Fit2.of (Zo hU rfl rfl ?_) (by omega))
   simp only [push_cast, seval, ↓reduceIte, Za, c20, hN0, hN]
  refine Yb ?_
  try simp only [Zk, Zg]
  have h := Option.some.inj h; subst h
  refine Zu (.inr rfl) hU [.val (.bool z7)] (by omega) ?_
  simp only [push_cast, seval, ↓reduceIte, Za, Try.results24, hN0, hN]
 replace h := Z3 c29 h
 refine Ya ?_
 try simp only [Zk, Zg]
 refine Zl [2, 3] [true, true] ?_
 simp only [push_cast, seval, ↓reduceIte]
 obtain ⟨z23, hz23, h⟩ := bC h
 refine Ku (E' := ⟨44, [], [(4, .val (.bool z23))]⟩) (O' := (Zt O n [none, none])) (n0 := (n + 2)) ?_ ?_
 ·obtain ⟨y26, hy26, hz23⟩ := bC hz23
  rcases Bool.eq_false_or_eq_true y26 with c28 | c28
  ·replace hz23 := Z4 c28 hz23
   obtain ⟨y27, hy27, hz23⟩ := bC hz23
   refine Zc Zf [some true, some true, some true, some true, some true] ?_
   simp only [push_cast, seval, ↓reduceIte, Za, c28, hN0, hN]
   refine (Xh hy26).then ?_
   simp only [push_cast, seval, ↓reduceIte, Za, c28, hN0, hN]
   refine (Yf hy27).then ?_
   simp only [push_cast, seval, ↓reduceIte, Za, c28, hN0, hN]
   have hz23 := Option.some.inj hz23; subst hz23
   refine And.intro rfl (Fit2.of (Zo hU rfl rfl ?_) (by omega))
   simp only [push_cast, seval, ↓reduceIte, Za, c28, hN0, hN]
  replace hz23 := Z3 c28 hz23
  refine Zc Zf [some false, some false, some false, some false, some false] ?_
  simp only [push_cast, seval, ↓reduceIte, Za, c28, hN0, hN]
  refine (Xh hy26).then ?_
  simp only [push_cast, seval, ↓reduceIte, Za, c28, hN0, hN]
  have hz23 := Option.some.inj hz23; subst hz23
  refine And.intro rfl (Fit2.of (Zo hU rfl rfl ?_) (by omega))
  simp only [push_cast, seval, ↓reduceIte, Za, c28, hN0, hN]
 refine Yb ?_
 try simp only [Zk, Zg]
 have h := Option.some.inj h; subst h
 refine Zu (.inr rfl) hU [.val (.bool z23)] (by omega) ?_
 simp only [push_cast, seval, ↓reduceIte, Za, Try.results24, hN0, hN]
theorem X3 {Ql : (S_api_Tree → S_api_Tree → Option Bool)} {Zn : ((List S_api_Tree) → (List S_api_Tree) → Option Bool)} (Zex : ∀ {a0 : S_api_Tree} {a1 : S_api_Tree} {r : Bool} {O : Objs} {n : Nat}, Ql a0 a1 = some r → GTo Try.prog 24 [.agg (Zd a0), .agg (Zd a1)] O n (.val (.bool r)) O n) (Yf : ∀ {a0 : (List S_api_Tree)} {a1 : (List S_api_Tree)} {r : Bool} {O : Objs} {n : Nat}, Zn a0 a1 = some r → GTo Try.prog 66 [.sl a0.length (fl Zb a0), .sl a1.length (fl Zb a1), .fn 24 0 []] O n (.val (.bool r)) O n) {a0 : (List S_api_Tree)} {a1 : (List S_api_Tree)} {r : Bool} {O : Objs} {n : Nat} (h : Zx Ql Zn a0 a1 = some r) : GTo Try.prog 66 [.sl a0.length (fl Zb a0), .sl a1.length (fl Zb a1), .fn 24 0 []] O n (.val (.bool r)) O n := by
 unfold Zx at h
 refine Qp Zf Try.call66 Try.func66 rfl (Nat.le_of_ble_eq_true rfl) (Nat.le_refl _) fun hU => ?_
 have hN0 : O n = none := hU.fresh _ (Nat.le_refl _)
 have hN : ∀ k, O (n + k) = none := fun k => hU.fresh _ (Nat.le_add_right _ _)
 show W _ _ _ _ ⟨32, [], [(0, .sl a0.length (fl Zb a0)), (1, .sl a1.length (fl Zb a1)), (2, .fn 24 0 [])]⟩ (Zt O n []) _
 refine Zw [0, 1, 2] (Zc Zf [] ?_)
 simp only [push_cast, seval, ↓reduceIte, Za, hN0, hN]
 refine Zm ?_
 refine Zw [0, 1, 2, 14] (Zc Zf [] ?_)
 simp only [push_cast, seval, ↓reduceIte, Za, hN0, hN]
 refine Z0 (t := ((a0.length : Int) != (a1.length : Int))) rfl (fun c10 => ?_) (fun c10 => ?_)
 ·replace h := Z4 c10 h
  refine Zw [6] (Zc Zf [] ?_)
  simp only [push_cast, seval, ↓reduceIte, Za, hN0, hN]
  refine Yb ?_
  try simp only [Zk, Zg]
  have h := Option.some.inj h; subst h
  refine Zu (.inr rfl) hU [.val (.bool false)] (by omega) ?_
  simp only [push_cast, seval, ↓reduceIte, Za, Try.results66, hN0, hN]
 replace h := Z3 c10 h
 refine Ya ?_
 try simp only [Zk, Zg]
 refine Zl [0, 1, 2] [] ?_
 simp only [push_cast, seval, ↓reduceIte]
 refine Zm ?_
 refine Zw [1, 2, 15, 16, 17] (Zc Zf [] ?_)
 simp only [push_cast, seval, ↓reduceIte, Za, hN0, hN]
 refine Zl [1, 2, 15, 16, 17] [] ?_
 simp only [push_cast, seval, ↓reduceIte]
 obtain ⟨z9, hz9, h⟩ := bC h
 refine Zfg (J := (Un (fun z9 => JR n (⟨32, [], [(6, .val (.bool false))]⟩ : Env) (Zt O n []) n) (fun z9 => JX 0 n (⟨32, [], []⟩ : Env) (Zt O n []) n))) (z := z9) ?_ fun hw => ?_
 ·refine J7 hz9 (fun s0_ => ⟨32, [], [(1, .sl a1.length (fl Zb a1)), (2, .fn 24 0 []), (15, .sl a0.length (fl Zb a0)), (16, .val (.int .i64 (a0.length : Int))), (17, .val (.int .i64 s0_))]⟩) (fun s0_ => (Zt O n [])) (Un (fun z9 => JR n (⟨32, [], [(6, .val (.bool false))]⟩ : Env) (Zt O n []) n) (fun z9 => JX 0 n (⟨32, [], []⟩ : Env) (Zt O n []) n)) ?_
  intro s0_ x0_ hs0_
  unfold Zv at hs0_
  try dsimp only
  refine Zw [1, 2, 15, 16, 17, 18] (Zc Zf [] ?_)
  simp only [push_cast, seval, ↓reduceIte, Za, hN0, hN]
  refine Zm ?_
  refine Z0 (t := (decide (s0_ < (a0.length : Int)))) rfl (fun c8 => ?_) (fun c8 => ?_)
  ·replace hs0_ := Z4 c8 hs0_
   refine Ya ?_
   try simp only [Zk, Zg]
   refine Zl [1, 2, 15, 16, 17] [] ?_
   simp only [push_cast, seval, ↓reduceIte]
   refine Zm ?_
   refine Xq ?_
   refine Zm ?_
   obtain ⟨x2, hx2, ax2, bx2, cx2, hs0_⟩ := bE (f := Zb) Va (fun _ => rfl) (by decide) hs0_
   refine Zc Zf [] ?_
   simp only [push_cast, Nat.reduceAdd, Nat.reduceSub, Nat.reduceMul, Nat.reduceLeDiff, Nat.reduceLT, Nat.reduceEqDiff, ↓reduceIte, reduceCtorEq, Int.reduceBEq, Int.reduceBNe, Nat.reduceBEq, Int.reduceLE, Int.reduceLT, Int.reduceEq, Int.reduceNe, Int.reduceNeg, Nat.reduceDiv, Nat.reduceMod, Nat.reducePow, Za, ax2, bx2, cx2, hN0, hN]
   refine Zl [1, 2, 7, 8, 15, 16, 17] [true] ?_
   simp only [push_cast, seval, ↓reduceIte]
   refine Zm ?_
   obtain ⟨x4, hx4, ax4, bx4, cx4, hs0_⟩ := bE (f := Zb) Va (fun _ => rfl) (by decide) hs0_
   refine Zc Zf [] ?_
   simp only [push_cast, Nat.reduceAdd, Nat.reduceSub, Nat.reduceMul, Nat.reduceLeDiff, Nat.reduceLT, Nat.reduceEqDiff, ↓reduceIte, reduceCtorEq, Int.reduceBEq, Int.reduceBNe, Nat.reduceBEq, Int.reduceLE, Int.reduceLT, Int.reduceEq, Int.reduceNe, Int.reduceNeg, Nat.reduceDiv, Nat.reduceMod, Nat.reducePow, Za, ax4, bx4, cx4, hN0, hN]
   refine Zl [1, 2, 8, 9, 15, 16, 17] [true, true] ?_
   simp only [push_cast, seval, ↓reduceIte]
   refine Zm ?_
   obtain ⟨y6, hy6, hs0_⟩ := bC hs0_
   refine Zc Zf [] ?_
   simp only [push_cast, seval, ↓reduceIte, Za, hN0, hN]
   refine (Zex hy6).then ?_
   simp only [push_cast, seval, ↓reduceIte, Za, hN0, hN]
   refine Zl [1, 2, 15, 16, 17, 30] [false, false] ?_
   simp only [push_cast, seval, ↓reduceIte]
   refine Z0 (t := (!y6)) rfl (fun c7 => ?_) (fun c7 => ?_)
   ·replace hs0_ := Z4 c7 hs0_
    refine Zw [6] (Zc Zf [] ?_)
    simp only [push_cast, seval, ↓reduceIte, Za, hN0, hN]
    refine Yb ?_
    try simp only [Zk, Zg]
    have hs0_ := Option.some.inj hs0_; subst hs0_
    refine And.intro (fun h => by cases h) (And.intro rfl (Fit2.of (Zo hU rfl rfl ?_) (by omega)))
    simp only [push_cast, seval, ↓reduceIte, Za, hN0, hN]
   replace hs0_ := Z3 c7 hs0_
   refine Ya ?_
   try simp only [Zk, Zg]
   refine Zl [1, 2, 15, 16, 17] [false, false] ?_
   simp only [push_cast, seval, ↓reduceIte]
   refine Zc Zf [] ?_
   simp only [push_cast, seval, ↓reduceIte, Za, hN0, hN]
   have hs0_ := Option.some.inj hs0_; subst hs0_
   refine And.intro rfl (Fit2.of (Zo hU rfl rfl ?_) (by omega))
   simp only [push_cast, seval, ↓reduceIte, Za, hN0, hN]
  replace hs0_ := Z3 c8 hs0_
  refine Vy ?_
  try simp only [Zk, Zg, ↓reduceIte, Nat.reduceEqDiff]
  have hs0_ := Option.some.inj hs0_; subst hs0_
  refine And.intro (fun h => by cases h) (And.intro rfl (Fit2.of (Zo hU rfl rfl ?_) (by omega)))
  simp only [push_cast, seval, ↓reduceIte, Za, hN0, hN]
 rcases z9 with z9 | z9
 ·dsimp only [Un] at hw h
  refine Zaf hw ?_
  try simp only [Zk, Zg, ↓reduceIte, Nat.reduceEqDiff]
  have h := Option.some.inj h; subst h
  refine Zu (.inr rfl) hU [.val (.bool false)] (by omega) ?_
  simp only [push_cast, seval, ↓reduceIte, Za, Try.results66, hN0, hN]
 dsimp only [Un] at hw h
 refine X4 hw ?_
 try simp only [Zk, Zg, ↓reduceIte, Nat.reduceEqDiff]
 refine Zl [] [] ?_
 simp only [push_cast, seval, ↓reduceIte]
 refine Zw [6] (Zc Zf [] ?_)
 simp only [push_cast, seval, ↓reduceIte, Za, hN0, hN]
 refine Yb ?_
 try simp only [Zk, Zg]
 have h := Option.some.inj h; subst h
 refine Zu (.inr rfl) hU [.val (.bool true)] (by omega) ?_
 simp only [push_cast, seval, ↓reduceIte, Za, Try.results66, hN0, hN]
theorem Zdp : ∀ k, (∀ {a0 : S_api_Tree} {a1 : S_api_Tree} {r : Bool} {O : Objs} {n : Nat}, (Yk k).1 a0 a1 = some r → GTo Try.prog 24 [.agg (Zd a0), .agg (Zd a1)] O n (.val (.bool r)) O n) ∧ (∀ {a0 : (List S_api_Tree)} {a1 : (List S_api_Tree)} {r : Bool} {O : Objs} {n : Nat}, (Yk k).2 a0 a1 = some r → GTo Try.prog 66 [.sl a0.length (fl Zb a0), .sl a1.length (fl Zb a1), .fn 24 0 []] O n (.val (.bool r)) O n) := fun k => by
 induction k with
 | zero => exact ⟨@fun a0 a1 r O n h => (nomatch (show (none : Option _) = some _ from h)), @fun a0 a1 r O n h => (nomatch (show (none : Option _) = some _ from h))⟩
 | succ k ih => exact ⟨@fun a0 a1 r O n h => Zmy (ih.1) (ih.2)  h, @fun a0 a1 r O n h => X3 (ih.1) (ih.2)  h⟩
theorem Zot {a0 : S_api_Tree} {a1 : S_api_Tree} {r : Bool} {O : Objs} {n : Nat} (h : Zej a0 a1 = some r) : GTo Try.prog 24 [.agg (Zd a0), .agg (Zd a1)] O n (.val (.bool r)) O n := by
 obtain ⟨k, hk⟩ := Zao h
 exact (Zdp k).1  hk
theorem X6 {a0 : (List S_api_Tree)} {a1 : (List S_api_Tree)} {r : Bool} {O : Objs} {n : Nat} (h : Yg a0 a1 = some r) : GTo Try.prog 66 [.sl a0.length (fl Zb a0), .sl a1.length (fl Zb a1), .fn 24 0 []] O n (.val (.bool r)) O n := by
 obtain ⟨k, hk⟩ := Zao h
 exact (Zdp k).2  hk
theorem Vg {a0 r : List Int} {O : Objs} {n : Nat} (h : Jf a0 = some r) : GTo Try.prog 126 [.sl a0.length (fl (eI .u64) a0)] O n (.row n r.length) (Zt O n [some ⟨true, 71, 1, r.length, fl (eI .u64) r⟩]) (n + 1) := by
 have h1 := Zpo h
 have h2 := Zpp h
 have h3 := Zlp h
 rw [List.nil_append] at h3
 subst h3
 simp only [List.length_nil, Nat.zero_add] at h1 h2
 clear h
 refine Qp Zf Try.call126 Try.func126 rfl (Nat.le_of_ble_eq_true rfl) (by omega) fun hU => ?_
 have hN0 : O n = none := hU.fresh _ (Nat.le_refl _)
 have hN : ∀ k, O (n + k) = none := fun k => hU.fresh _ (Nat.le_add_right _ _)
 show W _ _ _ _ ⟨8, [], [(0, .sl r.length (fl (eI .u64) r))]⟩ (Zt O n []) _
 refine Zw [0] (Zc Zf [] ?_)
 simp only [push_cast, seval, ↓reduceIte, Za, hN0, hN]
 refine Zvz 0 r.length (fl (eI .u64) r) rfl (Nat.le_of_ble_eq_true rfl) (Yd Jc _) fun A c hA => ?_
 refine Zw [0, 4] (Zc Zf [] ?_)
 simp only [push_cast, seval, ↓reduceIte, Za, hN0, hN]
 cases A with
 | none =>
  obtain rfl : r = [] := List.eq_nil_of_length_eq_zero (hA rfl)
  refine Z0 (t := true) rfl (fun _ => ?_) (fun hc => by cases hc)
  refine Zw [2] (Zc Zf [] ?_)
  simp only [push_cast, seval, ↓reduceIte, Za, hN0, hN]
  refine Yb ?_
  try simp only [Zk, Zg]
  refine Zq9 (k := 1) (L3 := [some ⟨true, 71, 1, 0, []⟩]) (E2 := ⟨8, [], [(2, .row n 0), (2, .val (.slice none 0 0))]⟩) (n3 := (n + 1)) (.inr rfl) hU rfl [.row n 0] ?_ ?_
  ·have ha := Zki (ba := n) (E := ⟨8, [], [(2, .val (.slice none 0 0))]⟩) (O := (Zt O n [])) (n := n) 2 71 1 rfl (by omega)
   simp only [Qd] at ha
   exact ha
  simp only [push_cast, seval, ↓reduceIte, Za, Try.results126, hN0, hN]
 | some A =>
  refine Z0 (t := false) rfl (fun hc => by cases hc) (fun _ => ?_)
  refine Ya ?_
  try simp only [Zk, Zg]
  refine And.intro rfl (And.intro (Nat.le_of_ble_eq_true rfl) ?_)
  refine Zm ?_
  refine Zc Zf [] ?_
  simp only [push_cast, seval, ↓reduceIte, Za, h1, h2, hN0, hN]
  refine Yb ?_
  try simp only [Zk, Zg]
  refine Zq8 (.inr rfl) hU rfl [.row n r.length] (by omega) ?_
  simp only [push_cast, seval, ↓reduceIte, Za, Try.results126, hN0, hN]
theorem Xs {a0 r : List S_api_Tree} {O : Objs} {n : Nat} (h : Xy a0 = some r) : GTo Try.prog 127 [.sl a0.length (fl Zb a0)] O n (.row n r.length) (Zt O n [some ⟨true, 25, 3, r.length, fl Zb r⟩]) (n + 1) := by
 have h1 := Zpo h
 have h2 := Zpp h
 have h3 := Zlp h
 rw [List.nil_append] at h3
 subst h3
 simp only [List.length_nil, Nat.zero_add] at h1 h2
 clear h
 refine Qp Zf Try.call127 Try.func127 rfl (Nat.le_of_ble_eq_true rfl) (by omega) fun hU => ?_
 have hN0 : O n = none := hU.fresh _ (Nat.le_refl _)
 have hN : ∀ k, O (n + k) = none := fun k => hU.fresh _ (Nat.le_add_right _ _)
 show W _ _ _ _ ⟨8, [], [(0, .sl r.length (fl Zb r))]⟩ (Zt O n []) _
 refine Zw [0] (Zc Zf [] ?_)
 simp only [push_cast, seval, ↓reduceIte, Za, hN0, hN]
 refine Zvz 0 r.length (fl Zb r) rfl (Nat.le_of_ble_eq_true rfl) (Yd Yj _) fun A c hA => ?_
 refine Zw [0, 4] (Zc Zf [] ?_)
 simp only [push_cast, seval, ↓reduceIte, Za, hN0, hN]
 cases A with
 | none =>
  obtain rfl : r = [] := List.eq_nil_of_length_eq_zero (hA rfl)
  refine Z0 (t := true) rfl (fun _ => ?_) (fun hc => by cases hc)
  refine Zw [2] (Zc Zf [] ?_)
  simp only [push_cast, seval, ↓reduceIte, Za, hN0, hN]
  refine Yb ?_
  try simp only [Zk, Zg]
  refine Zq9 (k := 1) (L3 := [some ⟨true, 25, 3, 0, []⟩]) (E2 := ⟨8, [], [(2, .row n 0), (2, .val (.slice none 0 0))]⟩) (n3 := (n + 1)) (.inr rfl) hU rfl [.row n 0] ?_ ?_
  ·have ha := Zki (ba := n) (E := ⟨8, [], [(2, .val (.slice none 0 0))]⟩) (O := (Zt O n [])) (n := n) 2 25 3 rfl (by omega)
   simp only [Qd] at ha
   exact ha
  simp only [push_cast, seval, ↓reduceIte, Za, Try.results127, hN0, hN]
 | some A =>
  refine Z0 (t := false) rfl (fun hc => by cases hc) (fun _ => ?_)
  refine Ya ?_
  try simp only [Zk, Zg]
  refine And.intro rfl (And.intro (Nat.le_of_ble_eq_true rfl) ?_)
  refine Zm ?_
  refine Zc Zf [] ?_
  simp only [push_cast, seval, ↓reduceIte, Za, h1, h2, hN0, hN]
  refine Yb ?_
  try simp only [Zk, Zg]
  refine Zq8 (.inr rfl) hU rfl [.row n r.length] (by omega) ?_
  simp only [push_cast, seval, ↓reduceIte, Za, Try.results127, hN0, hN]
theorem Zql {a0 : S_api_Tree} {a1 : Int} {r : Int} {O : Objs} {n : Nat} (h : Zas a0 a1 = some r) : GTo Try.prog 128 [.agg (Zd a0), .val (.int .i64 a1)] O n (.val (.int .u64 r)) O n := by
 unfold Zas at h
 refine Qp Zf Try.call128 Try.func128 rfl (Nat.le_of_ble_eq_true rfl) (Nat.le_refl _) fun hU => ?_
 have hN0 : O n = none := hU.fresh _ (Nat.le_refl _)
 have hN : ∀ k, O (n + k) = none := fun k => hU.fresh _ (Nat.le_add_right _ _)
 show W _ _ _ _ ⟨19, [], [(0, .agg (Zd a0)), (1, .val (.int .i64 a1))]⟩ (Zt O n []) _
 refine Zw [1, 2] (Zc Zf [] ?_)
 simp only [push_cast, seval, ↓reduceIte, Za, hN0, hN]
 refine Zm ?_
 refine Zw [1, 2, 13] (Zc Zf [none, none, none, none, none] ?_)
 simp only [push_cast, seval, ↓reduceIte, Za, hN0, hN]
 repeat (with_reducible refine And.intro (by first | (intro h0; simp only [h0, and_self]; done) | (intro h0; simp only [h0, Bool.not_false, Bool.not_true, Bool.true_and, Bool.and_true, true_and, and_true, and_self, imp_self, implies_true, bne_iff_ne, ne_eq, beq_iff_eq]; done) | (intros; simp_all; done) | exact True.intro) ?_)
 refine Z0 (t := (cond (decide (a1 < 0)) true (decide ((a0.Words.length : Int) ≤ a1)))) rfl (fun c3 => ?_) (fun c3 => ?_)
 ·replace h := Z4 c3 h
  refine Zw [4] (Zc Zf [] ?_)
  simp only [push_cast, seval, ↓reduceIte, Za, hN0, hN]
  refine Yb ?_
  try simp only [Zk, Zg]
  have h := Option.some.inj h; subst h
  refine Zu (.inr rfl) hU [.val (.int .u64 0)] (by omega) ?_
  simp only [push_cast, seval, ↓reduceIte, Za, Try.results128, hN0, hN]
 replace h := Z3 c3 h
 refine Ya ?_
 try simp only [Zk, Zg]
 refine Zl [1, 2] [true] ?_
 simp only [push_cast, seval, ↓reduceIte]
 obtain ⟨x2, hx2, ax2, bx2, cx2, h⟩ := bE (f := (eI .u64)) Gn (fun _ => rfl) (by decide) h
 refine Zw [4] (Zc Zf [] ?_)
 simp only [push_cast, Nat.reduceAdd, Nat.reduceSub, Nat.reduceMul, Nat.reduceLeDiff, Nat.reduceLT, Nat.reduceEqDiff, ↓reduceIte, reduceCtorEq, Int.reduceBEq, Int.reduceBNe, Nat.reduceBEq, Int.reduceLE, Int.reduceLT, Int.reduceEq, Int.reduceNe, Int.reduceNeg, Nat.reduceDiv, Nat.reduceMod, Nat.reducePow, Za, ax2, bx2, cx2, hN0, hN]
 refine Yb ?_
 try simp only [Zk, Zg]
 have h := Option.some.inj h; subst h
 refine Zu (.inr rfl) hU [.val (.int .u64 x2)] (by omega) ?_
 simp only [push_cast, seval, ↓reduceIte, Za, Try.results128, hN0, hN]
theorem Gv {a0 : Int} {r : Bool} {O : Objs} {n : Nat} (h : J9 a0 = some r) : GTo Try.prog 129 [.val (.int .i64 a0)] O n (.val (.bool r)) O n := by
 unfold J9 at h
 refine Qp Zf Try.call129 Try.func129 rfl (Nat.le_of_ble_eq_true rfl) (Nat.le_refl _) fun hU => ?_
 have hN0 : O n = none := hU.fresh _ (Nat.le_refl _)
 have hN : ∀ k, O (n + k) = none := fun k => hU.fresh _ (Nat.le_add_right _ _)
 show W _ _ _ _ ⟨9, [], [(0, .val (.int .i64 a0))]⟩ (Zt O n []) _
 refine Zw [0] (Zc Zf [] ?_)
 simp only [push_cast, seval, ↓reduceIte, Za, hN0, hN]
 refine Zw [2] (Zc Zf [none, none] ?_)
 simp only [push_cast, seval, ↓reduceIte, Za, hN0, hN]
 repeat (with_reducible refine And.intro (by first | (intro h0; simp only [h0, and_self]; done) | (intro h0; simp only [h0, Bool.not_false, Bool.not_true, Bool.true_and, Bool.and_true, true_and, and_true, and_self, imp_self, implies_true, bne_iff_ne, ne_eq, beq_iff_eq]; done) | (intros; simp_all; done) | exact True.intro) ?_)
 refine Yb ?_
 try simp only [Zk, Zg]
 have h := Option.some.inj h; subst h
 refine Zu (.inr rfl) hU [.val (.bool (cond (decide (a0 < 0)) true (decide (65534 < a0))))] (by omega) ?_
 simp only [push_cast, seval, ↓reduceIte, Za, Try.results129, hN0, hN]
theorem Zir {a0 : Int} {r : Int} {O : Objs} {n : Nat} (h : V7 a0 = some r) : GTo Try.prog 121 [.val (.int .u8 a0)] O n (.val (.int .u64 r)) O n := by
 unfold V7 at h
 refine Qp Zf Try.call121 Try.func121 rfl (Nat.le_of_ble_eq_true rfl) (Nat.le_refl _) fun hU => ?_
 have hN0 : O n = none := hU.fresh _ (Nat.le_refl _)
 have hN : ∀ k, O (n + k) = none := fun k => hU.fresh _ (Nat.le_add_right _ _)
 show W _ _ _ _ ⟨20, [], [(0, .val (.int .u8 a0))]⟩ (Zt O n []) _
 refine Zw [0] (Zc Zf [] ?_)
 simp only [push_cast, seval, ↓reduceIte, Za, hN0, hN]
 refine Zw [0, 3] (Zc Zf [] ?_)
 simp only [push_cast, seval, ↓reduceIte, Za, hN0, hN]
 refine Zm ?_
 refine Zw [0, 3, 5] (Zc Zf [] ?_)
 simp only [push_cast, seval, ↓reduceIte, Za, hN0, hN]
 refine Zl [0, 3, 5] [] ?_
 simp only [push_cast, seval, ↓reduceIte]
 obtain ⟨z7, hz7, h⟩ := bC h
 refine X4 (E' := ⟨20, [], [(3, .val (.int .u64 z7))]⟩) (O' := (Zt O n [])) (n0 := n) ?_ ?_
 ·refine J7 hz7 (fun s0_ => ⟨20, [], [(0, .val (.int .u8 a0)), (3, .val (.int .u64 s0_.1)), (5, .val (.int .i64 s0_.2))]⟩) (fun s0_ => (Zt O n [])) (fun z7 => JX 0 n (⟨20, [], [(3, .val (.int .u64 z7))]⟩ : Env) (Zt O n []) n) ?_
  intro s0_ x0_ hs0_
  unfold V8 at hs0_
  try dsimp only
  refine Zw [0, 3, 5, 6] (Zc Zf [] ?_)
  simp only [push_cast, seval, ↓reduceIte, Za, hN0, hN]
  refine Zm ?_
  refine Z0 (t := (decide (s0_.2 < 8))) rfl (fun c6 => ?_) (fun c6 => ?_)
  ·replace hs0_ := Z4 c6 hs0_
   refine Ya ?_
   try simp only [Zk, Zg]
   refine Zl [0, 3, 5] [] ?_
   simp only [push_cast, seval, ↓reduceIte]
   obtain ⟨z1, hz1, hs0_⟩ := bC hs0_
   refine Ku (E' := ⟨20, [], [(0, .val (.int .u8 a0)), (3, .val (.int .u64 z1)), (5, .val (.int .i64 s0_.2))]⟩) (O' := (Zt O n [])) (n0 := n) ?_ ?_
   ·refine Xq ?_
    refine Zw [0, 3, 4, 5] (Zc Zf [] ?_)
    simp only [push_cast, seval, ↓reduceIte, Za, hN0, hN]
    obtain ⟨pu3, hz1⟩ := bG hz1
    refine Zw [0, 3, 4, 5, 12] (Zc Zf [] ?_)
    simp only [push_cast, seval, ↓reduceIte, Za, pu3, hN0, hN]
    refine Z0 (t := ((IntKind.u8.wrap (Zcu .u8 (Int.fdiv a0 (2 ^ min (Int.toNat s0_.2) 8)) 1)) == 1)) rfl (fun c5 => ?_) (fun c5 => ?_)
    ·replace hz1 := Z4 c5 hz1
     obtain ⟨pu4, hz1⟩ := bG hz1
     refine Zc Zf [] ?_
     simp only [push_cast, seval, ↓reduceIte, Za, pu4, hN0, hN]
     have hz1 := Option.some.inj hz1; subst hz1
     refine And.intro rfl (Fit2.of (Zo hU rfl rfl ?_) (by omega))
     simp only [push_cast, seval, ↓reduceIte, Za, pu4, hN0, hN]
    replace hz1 := Z3 c5 hz1
    refine Ya ?_
    try simp only [Zk, Zg]
    have hz1 := Option.some.inj hz1; subst hz1
    refine And.intro rfl (Fit2.of (Zo hU rfl rfl ?_) (by omega))
    simp only [push_cast, seval, ↓reduceIte, Za, hN0, hN]
   refine Zc Zf [] ?_
   simp only [push_cast, seval, ↓reduceIte, Za, hN0, hN]
   have hs0_ := Option.some.inj hs0_; subst hs0_
   refine And.intro rfl (Fit2.of (Zo hU rfl rfl ?_) (by omega))
   simp only [push_cast, seval, ↓reduceIte, Za, hN0, hN]
  replace hs0_ := Z3 c6 hs0_
  refine Vy ?_
  try simp only [Zk, Zg, ↓reduceIte, Nat.reduceEqDiff]
  have hs0_ := Option.some.inj hs0_; subst hs0_
  refine And.intro (fun h => by cases h) (And.intro rfl (Fit2.of (Zo hU rfl rfl ?_) (by omega)))
  simp only [push_cast, seval, ↓reduceIte, Za, hN0, hN]
 try simp only [Zk, Zg, ↓reduceIte, Nat.reduceEqDiff]
 refine Zl [3] [] ?_
 simp only [push_cast, seval, ↓reduceIte]
 refine Zw [2] (Zc Zf [] ?_)
 simp only [push_cast, seval, ↓reduceIte, Za, hN0, hN]
 refine Yb ?_
 try simp only [Zk, Zg]
 have h := Option.some.inj h; subst h
 refine Zu (.inr rfl) hU [.val (.int .u64 z7)] (by omega) ?_
 simp only [push_cast, seval, ↓reduceIte, Za, Try.results121, hN0, hN]
theorem Zrr {a0 : Int} {a1 : Int} {a2 : Int} {r : Int} {O : Objs} {n : Nat} (h : Gt a0 a1 a2 = some r) : GTo Try.prog 131 [.val (.int .u64 a0), .val (.int .u64 a1), .val (.int .u8 a2)] O n (.val (.int .u64 r)) O n := by
 unfold Gt at h
 refine Qp Zf Try.call131 Try.func131 rfl (Nat.le_of_ble_eq_true rfl) (Nat.le_refl _) fun hU => ?_
 have hN0 : O n = none := hU.fresh _ (Nat.le_refl _)
 have hN : ∀ k, O (n + k) = none := fun k => hU.fresh _ (Nat.le_add_right _ _)
 show W _ _ _ _ ⟨17, [], [(0, .val (.int .u64 a0)), (1, .val (.int .u64 a1)), (2, .val (.int .u8 a2))]⟩ (Zt O n []) _
 refine Zw [0, 1, 2] (Zc Zf [] ?_)
 simp only [push_cast, seval, ↓reduceIte, Za, hN0, hN]
 refine Zm ?_
 obtain ⟨y2, hy2, h⟩ := bC h
 refine Zc Zf [] ?_
 simp only [push_cast, seval, ↓reduceIte, Za, hN0, hN]
 refine (Zir hy2).then ?_
 simp only [push_cast, seval, ↓reduceIte, Za, hN0, hN]
 refine Zl [0, 1, 7] [] ?_
 simp only [push_cast, seval, ↓reduceIte]
 refine Zw [6] (Zc Zf [] ?_)
 simp only [push_cast, seval, ↓reduceIte, Za, hN0, hN]
 refine Yb ?_
 try simp only [Zk, Zg]
 have h := Option.some.inj h; subst h
 refine Zu (.inr rfl) hU [.val (.int .u64 (IntKind.u64.wrap (Zmt .u64 (IntKind.u64.wrap (Zpa .u64 a0 y2)) (IntKind.u64.wrap (Zcu .u64 a1 y2)))))] (by omega) ?_
 simp only [push_cast, seval, ↓reduceIte, Za, Try.results131, hN0, hN]
theorem Zku {a0 : S_api_Tree} {a1 : Int} {a2 : Int} {r : S_api_Tree} {O : Objs} {n : Nat} {i0 j0_0 j0_1 : Nat} (hi0 : i0 < n) (Zan : j0_0 < n) (Zyu : j0_1 < n) (V2 : i0 ≠ j0_0) (Ztu : i0 ≠ j0_1) (Ztt : j0_0 ≠ j0_1) (ho0 : O i0 = some ⟨false, 25, 3, 1, [.val (.int .i64 a0.Kind), .row j0_1 a0.Words.length, .row j0_0 a0.Kids.length]⟩) (Gs : O j0_0 = some ⟨true, 25, 3, a0.Kids.length, fl Zb a0.Kids⟩) (Zzb : O j0_1 = some ⟨true, 71, 1, a0.Words.length, fl (eI .u64) a0.Words⟩) (h : Vo a0 a1 a2 = some r) : GTo Try.prog 130 [.ref i0 0, .val (.int .i64 a1), .val (.int .u64 a2)] O n (.tup []) (Zt (((O.upd j0_0 none).upd j0_1 none).upd i0 (some ⟨false, 25, 3, 1, [.val (.int .i64 r.Kind), .row (n + 1) r.Words.length, .row n r.Kids.length]⟩)) n [some ⟨true, 25, 3, r.Kids.length, fl Zb r.Kids⟩, some ⟨true, 71, 1, r.Words.length, fl (eI .u64) r.Words⟩]) (n + 2) := by
 unfold Vo at h
 refine Qp Zf Try.call130 Try.func130 rfl (Nat.le_of_ble_eq_true rfl) (by omega) fun hU => ?_
 have e0 := Zf7 (ba := n) (E := ⟨40, [], Zho 0 [.ref i0 0, .val (.int .i64 a1), .val (.int .u64 a2)]⟩) (O := (Zt O n [])) (n := n) (i := i0) (j := j0_0) (k := 2) (len := a0.Kids.length) (q := ⟨false, 25, 3, 1, [.val (.int .i64 a0.Kind), .row j0_1 a0.Words.length, .row j0_0 a0.Kids.length]⟩) (qj := ⟨true, 25, 3, a0.Kids.length, fl Zb a0.Kids⟩) (by rw [Xb _ hi0]; first | exact ho0 | exact Yi _ _ _) rfl (by rw [Xb _ Zan]; exact Gs) V2 (by omega)
 simp only [Jy _ _ Zan, Jy _ _ hi0, Ke, Qd, Uu, Zoe V2, List.set_cons_zero, List.set_cons_succ, List.cons_append, List.nil_append, List.length_cons, List.length_nil, Nat.zero_add, Nat.reduceAdd, Nat.add_assoc] at e0
 refine Zc0 e0 ?_
 have e1 := Zf7 (ba := n) (E := ⟨40, [], Zho 0 [.ref i0 0, .val (.int .i64 a1), .val (.int .u64 a2)]⟩) (O := (Zt ((O.upd j0_0 none).upd i0 (some ⟨false, 25, 3, 1, [.val (.int .i64 a0.Kind), .row j0_1 a0.Words.length, .row n a0.Kids.length]⟩)) n [some ⟨true, 25, 3, a0.Kids.length, fl Zb a0.Kids⟩])) (n := (n + 1)) (i := i0) (j := j0_1) (k := 1) (len := a0.Words.length) (q := ⟨false, 25, 3, 1, [.val (.int .i64 a0.Kind), .row j0_1 a0.Words.length, .row n a0.Kids.length]⟩) (qj := ⟨true, 71, 1, a0.Words.length, fl (eI .u64) a0.Words⟩) (by rw [Xb _ hi0]; first | exact ho0 | exact Yi _ _ _) rfl (by rw [Xb _ Zyu, Xa _ _ (Ne.symm Ztu), Xa _ _ (Ne.symm Ztt)]; exact Zzb) Ztu (by omega)
 simp only [Jy _ _ Zyu, Jy _ _ hi0, Ke, Qd, Uu, Zoe Ztu, List.set_cons_zero, List.set_cons_succ, List.cons_append, List.nil_append, List.length_cons, List.length_nil, Nat.zero_add, Nat.reduceAdd, Nat.add_assoc] at e1
 refine Zc0 e1 ?_
 have hU := (Und.drop (Und.drop hU j0_0) j0_1)
 have hk0 : ∀ k, i0 < n + k := fun k => by omega
 have hN0 : ∀ o, Objs.upd ((O.upd j0_0 none).upd j0_1 none) i0 o n = none := fun o => U5 hU hi0 _ (Nat.le_refl _)
 have hN : ∀ o k, Objs.upd ((O.upd j0_0 none).upd j0_1 none) i0 o (n + k) = none := fun o k => U5 hU hi0 _ (Nat.le_add_right _ _)
 show W _ _ _ _ ⟨40, [], [(0, .ref i0 0), (1, .val (.int .i64 a1)), (2, .val (.int .u64 a2))]⟩ (Zt (((O.upd j0_0 none).upd j0_1 none).upd i0 (some ⟨false, 25, 3, 1, [.val (.int .i64 a0.Kind), .row (n + 1) a0.Words.length, .row n a0.Kids.length]⟩)) n [some ⟨true, 25, 3, a0.Kids.length, fl Zb a0.Kids⟩, some ⟨true, 71, 1, a0.Words.length, fl (eI .u64) a0.Words⟩]) _
 refine Zm ?_
 refine Zl [0, 1, 2] [true, true] ?_
 simp only [push_cast, seval, ↓reduceIte]
 obtain ⟨z3, hz3, h⟩ := bC h
 refine X4 (E' := ⟨40, [], [(0, .ref i0 0), (1, .val (.int .i64 a1)), (2, .val (.int .u64 a2))]⟩) (O' := (Zt (((O.upd j0_0 none).upd j0_1 none).upd i0 (some ⟨false, 25, 3, 1, [.val (.int .i64 a0.Kind), .row (n + 1) z3.length, .row n a0.Kids.length]⟩)) n [some ⟨true, 25, 3, a0.Kids.length, fl Zb a0.Kids⟩, some ⟨true, 71, 1, z3.length, fl (eI .u64) z3⟩])) (n0 := (n + 2)) ?_ ?_
 ·refine J7 hz3 (fun s0_ => ⟨40, [], [(0, .ref i0 0), (1, .val (.int .i64 a1)), (2, .val (.int .u64 a2))]⟩) (fun s0_ => (Zt (((O.upd j0_0 none).upd j0_1 none).upd i0 (some ⟨false, 25, 3, 1, [.val (.int .i64 a0.Kind), .row (n + 1) s0_.length, .row n a0.Kids.length]⟩)) n [some ⟨true, 25, 3, a0.Kids.length, fl Zb a0.Kids⟩, some ⟨true, 71, 1, s0_.length, fl (eI .u64) s0_⟩])) (fun z3 => JX 0 n (⟨40, [], [(0, .ref i0 0), (1, .val (.int .i64 a1)), (2, .val (.int .u64 a2))]⟩ : Env) (Zt (((O.upd j0_0 none).upd j0_1 none).upd i0 (some ⟨false, 25, 3, 1, [.val (.int .i64 a0.Kind), .row (n + 1) z3.length, .row n a0.Kids.length]⟩)) n [some ⟨true, 25, 3, a0.Kids.length, fl Zb a0.Kids⟩, some ⟨true, 71, 1, z3.length, fl (eI .u64) z3⟩]) (n + 2)) ?_
  intro s0_ x0_ hs0_
  unfold J4 at hs0_
  try dsimp only
  refine Zm ?_
  refine Zw [0, 1, 2, 16] (Zc Zf [none, none] ?_)
  simp only [push_cast, seval, ↓reduceIte, Za, hi0, hk0, hN0, hN]
  repeat (with_reducible refine And.intro (by first | (intro h0; simp only [h0, and_self]; done) | (intro h0; simp only [h0, Bool.not_false, Bool.not_true, Bool.true_and, Bool.and_true, true_and, and_true, and_self, imp_self, implies_true, bne_iff_ne, ne_eq, beq_iff_eq]; done) | (intros; simp_all; done) | exact True.intro) ?_)
  refine Z0 (t := (cond (decide ((s0_.length : Int) ≤ a1)) (a2 != 0) false)) rfl (fun c2 => ?_) (fun c2 => ?_)
  ·replace hs0_ := Z4 c2 hs0_
   refine Ya ?_
   try simp only [Zk, Zg]
   refine Zl [0, 1, 2] [true, true] ?_
   simp only [push_cast, seval, ↓reduceIte]
   refine Xq ?_
   obtain ⟨l1, pl1, ql1, el1, hs0_⟩ := bA (k := 1) rfl hs0_
   refine Zc Zf [] ?_
   simp only [push_cast, seval, ↓reduceIte, Za, pl1, ql1, el1, hi0, hk0, hN0, hN]
   have hs0_ := Option.some.inj hs0_; subst hs0_
   refine And.intro rfl (Fit2.of (Y2 hU rfl rfl ?_) (by omega))
   simp only [push_cast, seval, ↓reduceIte, Za, pl1, ql1, el1, hi0, hk0, hN0, hN]
  replace hs0_ := Z3 c2 hs0_
  refine Vy ?_
  try simp only [Zk, Zg, ↓reduceIte, Nat.reduceEqDiff]
  have hs0_ := Option.some.inj hs0_; subst hs0_
  refine And.intro (fun h => by cases h) (And.intro rfl (Fit2.of (Y2 hU rfl rfl ?_) (by omega)))
  simp only [push_cast, seval, ↓reduceIte, Za, hi0, hk0, hN0, hN]
 try simp only [Zk, Zg, ↓reduceIte, Nat.reduceEqDiff]
 refine Zl [0, 1, 2] [true, true] ?_
 simp only [push_cast, seval, ↓reduceIte]
 refine Zw [0, 1, 2, 32] (Zc Zf [] ?_)
 simp only [push_cast, seval, ↓reduceIte, Za, hi0, hk0, hN0, hN]
 refine Z0 (t := (decide (a1 < (z3.length : Int)))) rfl (fun c6 => ?_) (fun c6 => ?_)
 ·replace h := Z4 c6 h
  obtain ⟨x4, hx4, ax4, bx4, cx4, h⟩ := bE (f := (eI .u64)) Gn (fun _ => rfl) (by decide) h
  have gu5 : Vl (fl (eI .u64) z3) [.val (.int .u64 a2)] (Int.toNat a1 * 1) = some (fl (eI .u64) (Gl z3 a1 a2)) := Zks (f := (eI .u64)) (ti := ⟨.bool, 1, 0, [], false⟩) (x := a2) (fun _ => rfl) (Zbl hx4)
  refine Zc Zf [] ?_
  simp only [push_cast, Nat.reduceAdd, Nat.reduceSub, Nat.reduceMul, Nat.reduceLeDiff, Nat.reduceLT, Nat.reduceEqDiff, ↓reduceIte, reduceCtorEq, Int.reduceBEq, Int.reduceBNe, Nat.reduceBEq, Int.reduceLE, Int.reduceLT, Int.reduceEq, Int.reduceNe, Int.reduceNeg, Nat.reduceDiv, Nat.reduceMod, Nat.reducePow, Za, ax4, bx4, cx4, gu5, hi0, hk0, hN0, hN]
  have h := Option.some.inj h; subst h
  refine K3 (k := 2) (i := i0) (q1 := ⟨false, 25, 3, 1, [.val (.int .i64 a0.Kind), .row (n + 1) (Gl z3 a1 a2).length, .row n a0.Kids.length]⟩) (L3 := [some ⟨true, 25, 3, a0.Kids.length, fl Zb a0.Kids⟩, some ⟨true, 71, 1, (Gl z3 a1 a2).length, fl (eI .u64) (Gl z3 a1 a2)⟩, none]) (E2 := (⟨40, [], []⟩ : Env)) (n3 := (n + 3)) (.inl rfl) hU rfl [] ?_ ?_
  ·refine Fit2.trans (E' := (⟨40, [], []⟩ : Env)) (O' := (Zt (((O.upd j0_0 none).upd j0_1 none).upd i0 (some ⟨false, 25, 3, 1, [.val (.int .i64 a0.Kind), .row (n + 1) (Gl z3 a1 a2).length, .row n a0.Kids.length]⟩)) n [some ⟨true, 25, 3, a0.Kids.length, fl Zb a0.Kids⟩, some ⟨true, 71, 1, (Gl z3 a1 a2).length, fl (eI .u64) (Gl z3 a1 a2)⟩])) (n' := (n + 2)) (Fit2.of (Y2 hU rfl rfl ?_) (by omega)) ?_
   ·simp only [push_cast, Nat.reduceAdd, Nat.reduceSub, Nat.reduceMul, Nat.reduceLeDiff, Nat.reduceLT, Nat.reduceEqDiff, ↓reduceIte, reduceCtorEq, Int.reduceBEq, Int.reduceBNe, Nat.reduceBEq, Int.reduceLE, Int.reduceLT, Int.reduceEq, Int.reduceNe, Int.reduceNeg, Nat.reduceDiv, Nat.reduceMod, Nat.reducePow, Za, ax4, bx4, cx4, gu5, hi0, hk0, hN0, hN]
   refine K8 (k := 2) (k' := 3) hU [0, 1] [0, 1, 0] rfl rfl rfl rfl ⟨rfl, rfl⟩ ?_
   simp only [push_cast, seval, ↓reduceIte, Za, hi0, hk0, hN0, hN]
  simp only [push_cast, seval, ↓reduceIte, Za, Try.results130, hi0, hk0, hN0, hN]
 replace h := Z3 c6 h
 refine Ya ?_
 try simp only [Zk, Zg]
 have h := Option.some.inj h; subst h
 refine K3 (k := 2) (i := i0) (q1 := ⟨false, 25, 3, 1, [.val (.int .i64 a0.Kind), .row (n + 1) z3.length, .row n a0.Kids.length]⟩) (L3 := [some ⟨true, 25, 3, a0.Kids.length, fl Zb a0.Kids⟩, some ⟨true, 71, 1, z3.length, fl (eI .u64) z3⟩, none]) (E2 := (⟨40, [], []⟩ : Env)) (n3 := (n + 3)) (.inl rfl) hU rfl [] ?_ ?_
 ·refine Fit2.trans (E' := (⟨40, [], []⟩ : Env)) (O' := (Zt (((O.upd j0_0 none).upd j0_1 none).upd i0 (some ⟨false, 25, 3, 1, [.val (.int .i64 a0.Kind), .row (n + 1) z3.length, .row n a0.Kids.length]⟩)) n [some ⟨true, 25, 3, a0.Kids.length, fl Zb a0.Kids⟩, some ⟨true, 71, 1, z3.length, fl (eI .u64) z3⟩])) (n' := (n + 2)) (Fit2.of (Y2 hU rfl rfl ?_) (by omega)) ?_
  ·simp only [push_cast, seval, ↓reduceIte, Za, hi0, hk0, hN0, hN]
  refine K8 (k := 2) (k' := 3) hU [0, 1] [0, 1, 0] rfl rfl rfl rfl ⟨rfl, rfl⟩ ?_
  simp only [push_cast, seval, ↓reduceIte, Za, hi0, hk0, hN0, hN]
 simp only [push_cast, seval, ↓reduceIte, Za, Try.results130, hi0, hk0, hN0, hN]
theorem Zlb {a0 : S_api_Tree} {a1 : Int} {r : S_api_Tree} {O : Objs} {n : Nat} (h : Zbr a0 a1 = some r) : GTo Try.prog 132 [.agg (Zd a0), .val (.int .i64 a1)] O n (.agg (Zd r)) O n := by
 unfold Zbr at h
 refine Qp Zf Try.call132 Try.func132 rfl (Nat.le_of_ble_eq_true rfl) (Nat.le_refl _) fun hU => ?_
 have hN0 : O n = none := hU.fresh _ (Nat.le_refl _)
 have hN : ∀ k, O (n + k) = none := fun k => hU.fresh _ (Nat.le_add_right _ _)
 show W _ _ _ _ ⟨20, [], [(0, .agg (Zd a0)), (1, .val (.int .i64 a1))]⟩ (Zt O n []) _
 refine Zw [1, 2, 4] (Zc Zf [] ?_)
 simp only [push_cast, seval, ↓reduceIte, Za, hN0, hN]
 refine Zm ?_
 refine Zw [1, 2, 4, 13] (Zc Zf [none, none, none, none, none] ?_)
 simp only [push_cast, seval, ↓reduceIte, Za, hN0, hN]
 repeat (with_reducible refine And.intro (by first | (intro h0; simp only [h0, and_self]; done) | (intro h0; simp only [h0, Bool.not_false, Bool.not_true, Bool.true_and, Bool.and_true, true_and, and_true, and_self, imp_self, implies_true, bne_iff_ne, ne_eq, beq_iff_eq]; done) | (intros; simp_all; done) | exact True.intro) ?_)
 refine Z0 (t := (cond (decide (a1 < 0)) true (decide ((a0.Kids.length : Int) ≤ a1)))) rfl (fun c3 => ?_) (fun c3 => ?_)
 ·replace h := Z4 c3 h
  refine Zm ?_
  refine Zc Zf [] ?_
  simp only [push_cast, seval, ↓reduceIte, Za, hN0, hN]
  refine Zl [4] [false, true] ?_
  simp only [push_cast, seval, ↓reduceIte]
  refine Yb ?_
  try simp only [Zk, Zg]
  have h := Option.some.inj h; subst h
  refine Zu (.inr rfl) hU [.agg [.val (.int .i64 0), .val (.slice none 0 0), .val (.slice none 0 0)]] (by omega) ?_
  simp only [push_cast, seval, ↓reduceIte, Za, Try.results132, hN0, hN]
 replace h := Z3 c3 h
 refine Ya ?_
 try simp only [Zk, Zg]
 refine Zl [1, 2, 4] [true, true] ?_
 simp only [push_cast, seval, ↓reduceIte]
 refine Zm ?_
 obtain ⟨x2, hx2, ax2, bx2, cx2, h⟩ := bE (f := Zb) Va (fun _ => rfl) (by decide) h
 refine Zc Zf [] ?_
 simp only [push_cast, Nat.reduceAdd, Nat.reduceSub, Nat.reduceMul, Nat.reduceLeDiff, Nat.reduceLT, Nat.reduceEqDiff, ↓reduceIte, reduceCtorEq, Int.reduceBEq, Int.reduceBNe, Nat.reduceBEq, Int.reduceLE, Int.reduceLT, Int.reduceEq, Int.reduceNe, Int.reduceNeg, Nat.reduceDiv, Nat.reduceMod, Nat.reducePow, Za, ax2, bx2, cx2, hN0, hN]
 refine Zl [4] [false, true] ?_
 simp only [push_cast, seval, ↓reduceIte]
 refine Yb ?_
 try simp only [Zk, Zg]
 have h := Option.some.inj h; subst h
 refine Zu (.inr rfl) hU [.agg (Zd x2)] (by omega) ?_
 simp only [push_cast, seval, ↓reduceIte, Za, Try.results132, hN0, hN]
theorem Zlk {a0 : S_api_Tree} {a1 : Int} {a2 : S_api_Tree} {r : S_api_Tree} {O : Objs} {n : Nat} {i0 j0_0 : Nat} (hi0 : i0 < n) (Zan : j0_0 < n) (V2 : i0 ≠ j0_0) (ho0 : O i0 = some ⟨false, 25, 3, 1, [.val (.int .i64 a0.Kind), .sl a0.Words.length (fl (eI .u64) a0.Words), .row j0_0 a0.Kids.length]⟩) (Gs : O j0_0 = some ⟨true, 25, 3, a0.Kids.length, fl Zb a0.Kids⟩) (h : V5 a0 a1 a2 = some r) : GTo Try.prog 133 [.ref i0 0, .val (.int .i64 a1), .agg (Zd a2)] O n (.tup []) (Zt ((O.upd j0_0 none).upd i0 (some ⟨false, 25, 3, 1, [.val (.int .i64 r.Kind), .sl r.Words.length (fl (eI .u64) r.Words), .row n r.Kids.length]⟩)) n [some ⟨true, 25, 3, r.Kids.length, fl Zb r.Kids⟩]) (n + 1) := by
 unfold V5 at h
 refine Qp Zf Try.call133 Try.func133 rfl (Nat.le_of_ble_eq_true rfl) (by omega) fun hU => ?_
 have e0 := Zf7 (ba := n) (E := ⟨43, [], Zho 0 [.ref i0 0, .val (.int .i64 a1), .agg [.val (.int .i64 a2.Kind), .sl a2.Words.length (fl (eI .u64) a2.Words), .sl a2.Kids.length (fl Zb a2.Kids)]]⟩) (O := (Zt O n [])) (n := n) (i := i0) (j := j0_0) (k := 2) (len := a0.Kids.length) (q := ⟨false, 25, 3, 1, [.val (.int .i64 a0.Kind), .sl a0.Words.length (fl (eI .u64) a0.Words), .row j0_0 a0.Kids.length]⟩) (qj := ⟨true, 25, 3, a0.Kids.length, fl Zb a0.Kids⟩) (by rw [Xb _ hi0]; first | exact ho0 | exact Yi _ _ _) rfl (by rw [Xb _ Zan]; exact Gs) V2 (by omega)
 simp only [Jy _ _ Zan, Jy _ _ hi0, Ke, Qd, Uu, Zoe V2, List.set_cons_zero, List.set_cons_succ, List.cons_append, List.nil_append, List.length_cons, List.length_nil, Nat.zero_add, Nat.reduceAdd, Nat.add_assoc] at e0
 refine Zc0 e0 ?_
 have hU := (Und.drop hU j0_0)
 have hk0 : ∀ k, i0 < n + k := fun k => by omega
 have hN0 : ∀ o, Objs.upd (O.upd j0_0 none) i0 o n = none := fun o => U5 hU hi0 _ (Nat.le_refl _)
 have hN : ∀ o k, Objs.upd (O.upd j0_0 none) i0 o (n + k) = none := fun o k => U5 hU hi0 _ (Nat.le_add_right _ _)
 show W _ _ _ _ ⟨43, [], [(0, .ref i0 0), (1, .val (.int .i64 a1)), (2, .agg (Zd a2))]⟩ (Zt ((O.upd j0_0 none).upd i0 (some ⟨false, 25, 3, 1, [.val (.int .i64 a0.Kind), .sl a0.Words.length (fl (eI .u64) a0.Words), .row n a0.Kids.length]⟩)) n [some ⟨true, 25, 3, a0.Kids.length, fl Zb a0.Kids⟩]) _
 refine Zw [0, 1, 5] (Zc Zf [] ?_)
 simp only [push_cast, seval, ↓reduceIte, Za, hi0, hk0, hN0, hN]
 refine Zm ?_
 refine Zl [0, 1, 5] [true, true] ?_
 simp only [push_cast, seval, ↓reduceIte]
 obtain ⟨z5, hz5, h⟩ := bC h
 refine X4 (E' := ⟨43, [], [(0, .ref i0 0), (1, .val (.int .i64 a1)), (5, .ref (n + 1) 0)]⟩) (O' := (Zt ((O.upd j0_0 none).upd i0 (some ⟨false, 25, 3, 1, [.val (.int .i64 a0.Kind), .sl a0.Words.length (fl (eI .u64) a0.Words), .row n z5.length]⟩)) n [some ⟨true, 25, 3, z5.length, fl Zb z5⟩, some ⟨false, 25, 3, 1, (Zd a2)⟩])) (n0 := (n + 2)) ?_ ?_
 ·refine J7 hz5 (fun s0_ => ⟨43, [], [(0, .ref i0 0), (1, .val (.int .i64 a1)), (5, .ref (n + 1) 0)]⟩) (fun s0_ => (Zt ((O.upd j0_0 none).upd i0 (some ⟨false, 25, 3, 1, [.val (.int .i64 a0.Kind), .sl a0.Words.length (fl (eI .u64) a0.Words), .row n s0_.length]⟩)) n [some ⟨true, 25, 3, s0_.length, fl Zb s0_⟩, some ⟨false, 25, 3, 1, (Zd a2)⟩])) (fun z5 => JX 0 n (⟨43, [], [(0, .ref i0 0), (1, .val (.int .i64 a1)), (5, .ref (n + 1) 0)]⟩ : Env) (Zt ((O.upd j0_0 none).upd i0 (some ⟨false, 25, 3, 1, [.val (.int .i64 a0.Kind), .sl a0.Words.length (fl (eI .u64) a0.Words), .row n z5.length]⟩)) n [some ⟨true, 25, 3, z5.length, fl Zb z5⟩, some ⟨false, 25, 3, 1, (Zd a2)⟩]) (n + 2)) ?_
  intro s0_ x0_ hs0_
  unfold Kk at hs0_
  try dsimp only
  refine Zm ?_
  refine Zw [0, 1, 5, 17] (Zc Zf [none, none, none] ?_)
  simp only [push_cast, seval, ↓reduceIte, Za, hi0, hk0, hN0, hN]
  repeat (with_reducible refine And.intro (by first | (intro h0; simp only [h0, and_self]; done) | (intro h0; simp only [h0, Bool.not_false, Bool.not_true, Bool.true_and, Bool.and_true, true_and, and_true, and_self, imp_self, implies_true, bne_iff_ne, ne_eq, beq_iff_eq]; done) | (intros; simp_all; done) | exact True.intro) ?_)
  refine Z0 (t := (cond (decide ((s0_.length : Int) ≤ a1)) (a2.Kind != 0) false)) rfl (fun c4 => ?_) (fun c4 => ?_)
  ·replace hs0_ := Z4 c4 hs0_
   refine Ya ?_
   try simp only [Zk, Zg]
   refine Zl [0, 1, 5] [true, true] ?_
   simp only [push_cast, seval, ↓reduceIte]
   refine Xq ?_
   obtain ⟨l1, pl1, ql1, el1, hs0_⟩ := bA (k := 1) rfl hs0_
   obtain ⟨x2, hx2, ax2, bx2, cx2, hs0_⟩ := bE (f := Zb) Va (fun _ => rfl) (by decide) hs0_
   have gu3 : Vl (fl Zb s0_ ++ [.val (.int .i64 0), .val (.slice none 0 0), .val (.slice none 0 0)]) [.val (.int .i64 0), .val (.slice none 0 0), .val (.slice none 0 0)] (List.length s0_ * 3) = some (fl Zb s0_ ++ [.val (.int .i64 0), .val (.slice none 0 0), .val (.slice none 0 0)]) := Zk7 (f := Zb) (sz := 3) (fun _ => rfl) rfl rfl
   refine Zh1 Zf (by kernel_rfl) [.low, .low, .low, .low, .low, .low, .pass, .bar, .shp, .fill true, .shp, .shp, .fill false] (fun i => i < (n + 2)) [0, 1, 2, 3, 4, 5, 6, 7, 8, 9, 10, 11, 12] [.low, .low, .low, .low, .low, .low, .pass, .bar, .shp, .fill true, .shp, .shp, .fill false] [] (by kernel_rfl) rfl ?_
   simp only [push_cast, Nat.reduceAdd, Nat.reduceSub, Nat.reduceMul, Nat.reduceLeDiff, Nat.reduceLT, Nat.reduceEqDiff, ↓reduceIte, reduceCtorEq, Int.reduceBEq, Int.reduceBNe, Nat.reduceBEq, Int.reduceLE, Int.reduceLT, Int.reduceEq, Int.reduceNe, Int.reduceNeg, Nat.reduceDiv, Nat.reduceMod, Nat.reducePow, Za, pl1, ql1, el1, ax2, bx2, cx2, gu3, hi0, hk0, hN0, hN]
   repeat (with_reducible refine And.intro (by first | omega | exact Y5 rfl | exact Yr | exact Zah rfl rfl) ?_)
   have hs0_ := Option.some.inj hs0_; subst hs0_
   refine And.intro rfl (Fit2.of (Y2 hU rfl rfl ?_) (by omega))
   simp only [push_cast, Nat.reduceAdd, Nat.reduceSub, Nat.reduceMul, Nat.reduceLeDiff, Nat.reduceLT, Nat.reduceEqDiff, ↓reduceIte, reduceCtorEq, Int.reduceBEq, Int.reduceBNe, Nat.reduceBEq, Int.reduceLE, Int.reduceLT, Int.reduceEq, Int.reduceNe, Int.reduceNeg, Nat.reduceDiv, Nat.reduceMod, Nat.reducePow, Za, pl1, ql1, el1, ax2, bx2, cx2, gu3, hi0, hk0, hN0, hN]
  replace hs0_ := Z3 c4 hs0_
  refine Vy ?_
  try simp only [Zk, Zg, ↓reduceIte, Nat.reduceEqDiff]
  have hs0_ := Option.some.inj hs0_; subst hs0_
  refine And.intro (fun h => by cases h) (And.intro rfl (Fit2.of (Y2 hU rfl rfl ?_) (by omega)))
  simp only [push_cast, seval, ↓reduceIte, Za, hi0, hk0, hN0, hN]
 try simp only [Zk, Zg, ↓reduceIte, Nat.reduceEqDiff]
 refine Zl [0, 1, 5] [true, true] ?_
 simp only [push_cast, seval, ↓reduceIte]
 refine Zw [0, 1, 5, 35] (Zc Zf [] ?_)
 simp only [push_cast, seval, ↓reduceIte, Za, hi0, hk0, hN0, hN]
 refine Z0 (t := (decide (a1 < (z5.length : Int)))) rfl (fun c8 => ?_) (fun c8 => ?_)
 ·replace h := Z4 c8 h
  obtain ⟨x6, hx6, ax6, bx6, cx6, h⟩ := bE (f := Zb) Va (fun _ => rfl) (by decide) h
  have gu7 : Vl (fl Zb z5) [.val (.int .i64 a2.Kind), .sl a2.Words.length (fl (eI .u64) a2.Words), .sl a2.Kids.length (fl Zb a2.Kids)] (Int.toNat a1 * 3) = some (fl Zb (Gl z5 a1 a2)) := (congrArg (fun c => Vl (fl Zb z5) c (Int.toNat a1 * 3)) (show [.val (.int .i64 a2.Kind), .sl a2.Words.length (fl (eI .u64) a2.Words), .sl a2.Kids.length (fl Zb a2.Kids)] = Zb a2 from by simp only [Zb, Yc, eI, eB, eS, eL])).trans (Zks (f := Zb) (ti := ⟨.bool, 3, 0, [], false⟩) (x := a2) (fun _ => rfl) (Zbl hx6))
  refine Zaa Zf (by kernel_rfl) [false, false, false, false, false, false, false, true] [] (by kernel_rfl) ?_
  simp only [push_cast, Nat.reduceAdd, Nat.reduceSub, Nat.reduceMul, Nat.reduceLeDiff, Nat.reduceLT, Nat.reduceEqDiff, ↓reduceIte, reduceCtorEq, Int.reduceBEq, Int.reduceBNe, Nat.reduceBEq, Int.reduceLE, Int.reduceLT, Int.reduceEq, Int.reduceNe, Int.reduceNeg, Nat.reduceDiv, Nat.reduceMod, Nat.reducePow, Za, ax6, bx6, cx6, gu7, hi0, hk0, hN0, hN]
  have h := Option.some.inj h; subst h
  refine K3 (k := 1) (i := i0) (q1 := ⟨false, 25, 3, 1, [.val (.int .i64 a0.Kind), .sl a0.Words.length (fl (eI .u64) a0.Words), .row n (Gl z5 a1 a2).length]⟩) (L3 := [some ⟨true, 25, 3, (Gl z5 a1 a2).length, fl Zb (Gl z5 a1 a2)⟩, none]) (E2 := (⟨43, [], []⟩ : Env)) (n3 := (n + 2)) (.inl rfl) hU rfl [] ?_ ?_
  ·refine Fit2.trans (E' := (⟨43, [], []⟩ : Env)) (O' := (Zt ((O.upd j0_0 none).upd i0 (some ⟨false, 25, 3, 1, [.val (.int .i64 a0.Kind), .sl a0.Words.length (fl (eI .u64) a0.Words), .row n (Gl z5 a1 a2).length]⟩)) n [some ⟨true, 25, 3, (Gl z5 a1 a2).length, fl Zb (Gl z5 a1 a2)⟩, none])) (n' := (n + 2)) (Fit2.of (Y2 hU rfl rfl ?_) (by omega)) ?_
   ·simp only [push_cast, Nat.reduceAdd, Nat.reduceSub, Nat.reduceMul, Nat.reduceLeDiff, Nat.reduceLT, Nat.reduceEqDiff, ↓reduceIte, reduceCtorEq, Int.reduceBEq, Int.reduceBNe, Nat.reduceBEq, Int.reduceLE, Int.reduceLT, Int.reduceEq, Int.reduceNe, Int.reduceNeg, Nat.reduceDiv, Nat.reduceMod, Nat.reducePow, Za, ax6, bx6, cx6, gu7, hi0, hk0, hN0, hN]
   refine K8 (k := 2) (k' := 2) hU [0, 1] [0, 0] rfl rfl rfl rfl ⟨rfl, rfl⟩ ?_
   simp only [push_cast, seval, ↓reduceIte, Za, hi0, hk0, hN0, hN]
  simp only [push_cast, seval, ↓reduceIte, Za, Try.results133, hi0, hk0, hN0, hN]
 replace h := Z3 c8 h
 refine Ya ?_
 try simp only [Zk, Zg]
 have h := Option.some.inj h; subst h
 refine K3 (k := 1) (i := i0) (q1 := ⟨false, 25, 3, 1, [.val (.int .i64 a0.Kind), .sl a0.Words.length (fl (eI .u64) a0.Words), .row n z5.length]⟩) (L3 := [some ⟨true, 25, 3, z5.length, fl Zb z5⟩, none]) (E2 := (⟨43, [], []⟩ : Env)) (n3 := (n + 2)) (.inl rfl) hU rfl [] ?_ ?_
 ·refine Fit2.trans (E' := (⟨43, [], []⟩ : Env)) (O' := (Zt ((O.upd j0_0 none).upd i0 (some ⟨false, 25, 3, 1, [.val (.int .i64 a0.Kind), .sl a0.Words.length (fl (eI .u64) a0.Words), .row n z5.length]⟩)) n [some ⟨true, 25, 3, z5.length, fl Zb z5⟩, none])) (n' := (n + 2)) (Fit2.of (Y2 hU rfl rfl ?_) (by omega)) ?_
  ·simp only [push_cast, seval, ↓reduceIte, Za, hi0, hk0, hN0, hN]
  refine K8 (k := 2) (k' := 2) hU [0, 1] [0, 0] rfl rfl rfl rfl ⟨rfl, rfl⟩ ?_
  simp only [push_cast, seval, ↓reduceIte, Za, hi0, hk0, hN0, hN]
 simp only [push_cast, seval, ↓reduceIte, Za, Try.results133, hi0, hk0, hN0, hN]
theorem Zqj {a0 : Int} {r : Bool} {O : Objs} {n : Nat} (h : Zar a0 = some r) : GTo Try.prog 19 [.val (.int .i64 a0)] O n (.val (.bool r)) O n := by
 unfold Zar at h
 refine Qp Zf Try.call19 Try.func19 rfl (Nat.le_of_ble_eq_true rfl) (Nat.le_refl _) fun hU => ?_
 have hN0 : O n = none := hU.fresh _ (Nat.le_refl _)
 have hN : ∀ k, O (n + k) = none := fun k => hU.fresh _ (Nat.le_add_right _ _)
 show W _ _ _ _ ⟨9, [], [(0, .val (.int .i64 a0))]⟩ (Zt O n []) _
 refine Zw [0] (Zc Zf [] ?_)
 simp only [push_cast, seval, ↓reduceIte, Za, hN0, hN]
 refine Zw [2] (Zc Zf [none, none] ?_)
 simp only [push_cast, seval, ↓reduceIte, Za, hN0, hN]
 repeat (with_reducible refine And.intro (by first | (intro h0; simp only [h0, and_self]; done) | (intro h0; simp only [h0, Bool.not_false, Bool.not_true, Bool.true_and, Bool.and_true, true_and, and_true, and_self, imp_self, implies_true, bne_iff_ne, ne_eq, beq_iff_eq]; done) | (intros; simp_all; done) | exact True.intro) ?_)
 refine Yb ?_
 try simp only [Zk, Zg]
 have h := Option.some.inj h; subst h
 refine Zu (.inr rfl) hU [.val (.bool (cond (decide (2 ≤ a0)) (decide (a0 ≤ 9)) false))] (by omega) ?_
 simp only [push_cast, seval, ↓reduceIte, Za, Try.results19, hN0, hN]
end Go.Proofs.Ytmpkfolcikhofaa
