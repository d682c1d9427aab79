/- Part VM1 of this seat's mirrors: functions of the seat's program, and the plain functions that they are; each theorem bears its own conditions. -/
import Derived.Test.YtbcgiaijjaocdaaVE
namespace Go.Proofs.Ytbcgiaijjaocdaa
open Go.RowKit
set_option linter.unusedVariables false
set_option linter.unusedSimpArgs false
set_option maxRecDepth 100000
set_option maxHeartbeats 1000000
attribute [local push_cast] Zg Zbx Ym Ze Uo Zsg Zsf Zs3 Zs2 Zn Zj Zon Zjr Zjq onW Xw Zc1 Zbz Zoo Zop Zhh evS wok Q0 Op.operands Call.operands gop onK onP atK List.all_cons List.all_nil Bool.and_true Bool.true_and Bool.and_self Value.oneCell' List.take_zero List.take_succ_cons List.take_nil List.drop_zero List.drop_succ_cons List.drop_nil List.append_nil Nat.add_zero Nat.zero_add Ui Yg ev Jc Zc0 Zwp Zqt Zqs Zwt Zhx Zdv Zhc Zc6 Zl4 Zf0 Up Zju Zjt Zb0 Zit Zb1 Zjp Zht Zsl bLo bHi bMx Zdw Zjo Zwr Zhs Zjf Zfr Zan Zrc Zwv Zir Zw0 Zdu Zz2 Jb Zhv gone Zpe Zkb Zka pop TK.isAgg G.one G.under G.unders List.getD_cons_zero List.getD_cons_succ List.set_cons_zero List.set_cons_succ List.map_cons List.map_nil List.toList_toArray Array.toList_append Option.toArray_none Option.toArray_some Array.toList_map Option.map_some Option.map_none Option.bind_some Option.bind_none List.getElem?_cons_zero List.getElem?_cons_succ List.getElem?_nil List.nil_append List.cons_append List.replicate_succ List.replicate_zero List.length_cons List.length_nil and_true true_and and_false false_and Bool.true_eq_false Bool.false_eq_true forall_const false_implies implies_true IntKind.bits if_true if_false ite_true ite_false eq_self true_implies false_or or_false or_true true_or not_true_eq_false not_false_eq_true decide_true decide_false decide_eq_true_eq decide_eq_false_iff_not beq_iff_eq bne_iff_ne ne_eq Bool.not_eq_true Bool.not_eq_false beq_eq_false_iff_ne bne_eq_false_iff_eq beq_self_eq_true bne_self_eq_false Option.some.injEq exists_eq_left' exists_eq_left ge_iff_le gt_iff_lt decide_not Bool.not_true Bool.not_false imp_self Zwx cond_true cond_false Z5h Z5g Bool.not_not Bool.and_false Bool.false_and Bool.or_true Bool.true_or Bool.or_false Bool.false_or K8 Zah Uj K9 Y0 Yl Option.join_some Nat.add_assoc Int.toNat_natCast eI eB eS eL Y2 Zis Zhu Zsk Zsi Zsj Z0b Z1z Ziw Zic Ztc Zta Ztb Zvn Zjl Zu4 Zli Zr6 Zge Zr8 List.length_append G.agg.injEq G.row.injEq G.ref.injEq G.val.injEq G.sl.injEq G.tup.injEq Value.int.injEq Value.bool.injEq Value.string.injEq List.cons.injEq exists_and_left exists_const List.flatten_cons List.flatten_nil Int.le_refl Nat.le_refl Xz Yf Yj Bool.not_eq_true' Bool.not_eq_false' Zut Zlo Zyd Zyh Zyc Zyg Z3x Z3t List.size_toArray Znb Zph G.ren G.rens Zqz Zga Ztg Zsa Zsb Zpu Zyi Ze3 G.fn.injEq Zqo Zqp Zus Z3u Zqn Zyf Z3w Z3v Zye Zw3 Z1n Option.join_none Z8 V5 undef Zjh Arr.len Arr.put_eq Ziv Zmf Zj7 Zib Zs9 Zs7 Zs8 onB Z0a Zrb Zpq Znq Znr Zns Znt Znu Znv Zl8 Zmi Zmg Zj9 Zid Zmh Zpd Zpc Zpb Zpa Z1y Z4m Zvm Zs4 Gd Zvi Zm6 Zmj Zj8 Zw6 Zps Zhr Zje Zek Zlg Znw Znx Zny Znz Zlp Zlq Zlr Zls Zlt Zlu Zlv Zep prT Zfm Z54 Zx4 Z0j Zx5 Z55 Zx6 Zv6 Zx7 Z56 Zx8 Z57 Zx9 Z58 Zya Z59 Zyb Z2p Ztq Z2q Ztr Z2r Zts Z2s Ztt Z2t Ztu Z2u Ztv Z2v Ztw Z2w Ztx Z2x Zty Z2y Ztz Z2z Zt0 Z20 Zln Zv5 Zcw Z21 Zt1 Vs Zt2 Z22 Zt3 Z23 Zt4 Z24 Zt5 Z25 Zt6 Zpv Zt7 Z26 Zt8 Z27 Zt9 Z28 Zua Zfg Zub Z29 Zuc Zru Zud Z3a Zue Z3b Zuf Zc5 Zug Z3c Zuh Zlm Zui Z3d Zuj Z3e Zuk Z3f Zul Z3g Zum Z3h Zun Z3i Zuo Zv7 Znp Z3j Zup Zxg Zpw Zxh Zpx Zxi Zpy Zxj Zpz Zxk Zp0 Zxl Zp1 Zxm Zp2 Zxn Zp3 Zxo Zp4 Zxp Zp5 Zxq Zp6 Zxr Zp7 Zxs Zp8 Zxt Zp9 Zxu Zqa Zxv Zqb Zxw Zqc Zxx Zqd Zxy Zqe Zxz Zqf Zx0 Zqg Zx1 Zqh Zx2 Zqi Zb Yn Zkl Zkk Zjy Zj5 Zkm Zin Zif Zie Zki Zdl Zdk Zc9 Zde Zdm Zcy Zcr Zcq Zdj Zh X4 Zf Zk Xl Xv Y1 Za7 Za5 Zao Zaw Zba Zac G0 Gy Za2 Zbm Zbl Zbi Zbj Zbn Za4 Za0 Zaz Zbk Zfk Zfj Zev Ze2 Zfl Zed Zeb Zea Zfh Zmv Zmu Zl6 Zmc Zmw Zkj Zkd Zkc Zmp Z9 Zaf Zae Gv Gx Zag Gg Gf Ge Zab Yc Za8 Za6 Zap Zax Zbb Zad Zaa Gz Za3
theorem Zg2 {Q7 : (S_api_Tree → Int → Int → Option Int)} (Zgm : ∀ {a0 : S_api_Tree} {a1 : Int} {a2 : Int} {r : Int} {O : Objs} {n : Nat}, Q7 a0 a1 a2 = some r → GTo Try.prog 56 [.agg (Ze a0), .val (.int .i64 a1), .val (.int .i64 a2)] O n (.val (.int .i64 r)) O n) {a0 : S_api_Tree} {a1 : Int} {a2 : Int} {r : Int} {O : Objs} {n : Nat} (h : Xo Q7 a0 a1 a2 = some r) : GTo Try.prog 56 [.agg (Ze a0), .val (.int .i64 a1), .val (.int .i64 a2)] O n (.val (.int .i64 r)) O n := by
 unfold Xo at h
 refine Xc Zd Try.call56 Try.func56 rfl (Nat.le_of_ble_eq_true rfl) (Nat.le_refl _) fun hU => ?_
 have hN0 : O n = none := hU.fresh _ (Nat.le_refl _)
 have hN : ∀ k, O (n + k) = none := fun k => hU.fresh _ (Nat.le_add_right _ _)
 show W _ _ _ _ ⟨41, [], [(0, .agg (Ze a0)), (1, .val (.int .i64 a1)), (2, .val (.int .i64 a2))]⟩ (Zu O n []) _
 refine Zs [1, 2, 3] (Zc Zd [] ?_)
 simp only [push_cast, seval, ↓reduceIte, Za, hN0, hN]
 refine Zs [1, 2, 3] (Zc Zd [] ?_)
 simp only [push_cast, seval, ↓reduceIte, Za, hN0, hN]
 refine Zo ?_
 refine Zs [1, 2, 3, 19] (Zc Zd [none, none] ?_)
 simp only [push_cast, seval, ↓reduceIte, Za, hN0, hN]
 repeat (with_reducible refine And.intro (by first | (intro h0; simp only [h0, and_self]; done) | (intro h0; simp only [h0, Bool.not_false, Bool.not_true, Bool.true_and, Bool.and_true, true_and, and_true, and_self, imp_self, implies_true, bne_iff_ne, ne_eq, beq_iff_eq]; done) | (intros; simp_all; done) | exact True.intro) ?_)
 refine Zt (t := (cond (a1 == 0) true (decide ((IntKind.i64.wrap ((IntKind.i64.wrap (a2 - 1)) - (a0.Words.length : Int))) < 0)))) rfl (fun c5 => ?_) (fun c5 => ?_)
 ·replace h := Zx c5 h
  refine Zs [6] (Zc Zd [] ?_)
  simp only [push_cast, seval, ↓reduceIte, Za, hN0, hN]
  refine Z5 ?_
  try simp only [Zn, Zj]
  have h := Option.some.inj h; subst h
  refine Zy (.inr rfl) hU [.val (.int .i64 (-1))] (by omega) ?_
  simp only [push_cast, seval, ↓reduceIte, Za, Try.results56, hN0, hN]
 replace h := Zw c5 h
 refine Z0 ?_
 try simp only [Zn, Zj]
 refine Zm [1, 2, 3] [true] ?_
 simp only [push_cast, seval, ↓reduceIte]
 refine Zo ?_
 refine Zs [1, 2, 3, 7] (Zc Zd [] ?_)
 simp only [push_cast, seval, ↓reduceIte, Za, hN0, hN]
 refine Zm [1, 2, 3, 7] [true] ?_
 simp only [push_cast, seval, ↓reduceIte]
 obtain ⟨z4, hz4, h⟩ := bC h
 refine Yv (E' := ⟨41, [], [(2, .val (.int .i64 z4))]⟩) (O' := (Zu O n [none])) (n0 := (n + 1)) ?_ ?_
 ·refine Y7 hz4 (fun s0_ => ⟨41, [], [(1, .val (.int .i64 a1)), (2, .val (.int .i64 s0_.1)), (3, .ref n 0), (7, .val (.int .i64 s0_.2))]⟩) (fun s0_ => (Zu O n [some ⟨false, 25, 3, 1, (Ze a0)⟩])) (fun z4 => JX 0 n (⟨41, [], [(2, .val (.int .i64 z4))]⟩ : Env) (Zu O n [none]) (n + 1)) ?_
  intro s0_ x0_ hs0_
  unfold Xj at hs0_
  try dsimp only
  refine Zo ?_
  refine Zs [1, 2, 3, 7, 28] (Zc Zd [none, none] ?_)
  simp only [push_cast, seval, ↓reduceIte, Za, hN0, hN]
  repeat (with_reducible refine And.intro (by first | (intro h0; simp only [h0, and_self]; done) | (intro h0; simp only [h0, Bool.not_false, Bool.not_true, Bool.true_and, Bool.and_true, true_and, and_true, and_self, imp_self, implies_true, bne_iff_ne, ne_eq, beq_iff_eq]; done) | (intros; simp_all; done) | exact True.intro) ?_)
  refine Zt (t := (cond (decide (s0_.2 < (a0.Kids.length : Int))) (decide (0 ≤ s0_.1)) false)) rfl (fun c3 => ?_) (fun c3 => ?_)
  ·replace hs0_ := Zx c3 hs0_
   refine Z0 ?_
   try simp only [Zn, Zj]
   refine Zm [1, 2, 3, 7] [true] ?_
   simp only [push_cast, seval, ↓reduceIte]
   refine Zo ?_
   refine Ys ?_
   obtain ⟨x1, hx1, ax1, bx1, cx1, hs0_⟩ := bE (f := Zb) Vs (fun _ => rfl) (by decide) hs0_
   obtain ⟨y2, hy2, hs0_⟩ := bC hs0_
   refine Zc Zd [] ?_
   simp only [push_cast, Nat.reduceAdd, Nat.reduceSub, Nat.reduceMul, Nat.reduceLeDiff, Nat.reduceLT, Nat.reduceEqDiff, ↓reduceIte, reduceCtorEq, Int.reduceBEq, Int.reduceBNe, Nat.reduceBEq, Int.reduceLE, Int.reduceLT, Int.reduceEq, Int.reduceNe, Int.reduceNeg, Nat.reduceDiv, Nat.reduceMod, Nat.reducePow, Za, ax1, bx1, cx1, hN0, hN]
   refine (Zgm hy2).then ?_
   simp only [push_cast, Nat.reduceAdd, Nat.reduceSub, Nat.reduceMul, Nat.reduceLeDiff, Nat.reduceLT, Nat.reduceEqDiff, ↓reduceIte, reduceCtorEq, Int.reduceBEq, Int.reduceBNe, Nat.reduceBEq, Int.reduceLE, Int.reduceLT, Int.reduceEq, Int.reduceNe, Int.reduceNeg, Nat.reduceDiv, Nat.reduceMod, Nat.reducePow, Za, ax1, bx1, cx1, hN0, hN]
   refine Zm [1, 2, 3, 7] [true] ?_
   simp only [push_cast, seval, ↓reduceIte]
   refine Zc Zd [] ?_
   simp only [push_cast, seval, ↓reduceIte, Za, hN0, hN]
   have hs0_ := Option.some.inj hs0_; subst hs0_
   refine And.intro rfl (Fit2.of (Zl hU rfl rfl ?_) (by omega))
   simp only [push_cast, seval, ↓reduceIte, Za, hN0, hN]
  replace hs0_ := Zw c3 hs0_
  refine Xs ?_
  try simp only [Zn, Zj, ↓reduceIte, Nat.reduceEqDiff]
  have hs0_ := Option.some.inj hs0_; subst hs0_
  refine And.intro (fun h => by cases h) (And.intro rfl (Fit2.of (Zl hU rfl rfl ?_) (by omega)))
  simp only [push_cast, seval, ↓reduceIte, Za, hN0, hN]
 try simp only [Zn, Zj, ↓reduceIte, Nat.reduceEqDiff]
 refine Zm [2] [false] ?_
 simp only [push_cast, seval, ↓reduceIte]
 refine Zs [6] (Zc Zd [] ?_)
 simp only [push_cast, seval, ↓reduceIte, Za, hN0, hN]
 refine Z5 ?_
 try simp only [Zn, Zj]
 have h := Option.some.inj h; subst h
 refine Zy (.inr rfl) hU [.val (.int .i64 z4)] (by omega) ?_
 simp only [push_cast, seval, ↓reduceIte, Za, Try.results56, hN0, hN]
theorem Zf1 : ∀ k, (∀ {a0 : S_api_Tree} {a1 : Int} {a2 : Int} {r : Int} {O : Objs} {n : Nat}, (Yo k) a0 a1 a2 = some r → GTo Try.prog 56 [.agg (Ze a0), .val (.int .i64 a1), .val (.int .i64 a2)] O n (.val (.int .i64 r)) O n) := fun k => by
 induction k with
 | zero => exact @fun a0 a1 a2 r O n h => (nomatch (show (none : Option _) = some _ from h))
 | succ k ih => exact @fun a0 a1 a2 r O n h => Zg2 (ih)  h
theorem Vt {a0 : S_api_Tree} {a1 : Int} {a2 : Int} {r : Int} {O : Objs} {n : Nat} (h : Xq a0 a1 a2 = some r) : GTo Try.prog 56 [.agg (Ze a0), .val (.int .i64 a1), .val (.int .i64 a2)] O n (.val (.int .i64 r)) O n := by
 obtain ⟨k, hk⟩ := Ur h
 exact (Zf1 k)  hk
theorem Zfw {a0 : S_api_Tree} {r : Bool} {O : Objs} {n : Nat} (h : Ut a0 = some r) : GTo Try.prog 21 [.agg (Ze a0)] O n (.val (.bool r)) O n := by
 unfold Ut at h
 refine Xc Zd Try.call21 Try.func21 rfl (Nat.le_of_ble_eq_true rfl) (Nat.le_refl _) fun hU => ?_
 have hN0 : O n = none := hU.fresh _ (Nat.le_refl _)
 have hN : ∀ k, O (n + k) = none := fun k => hU.fresh _ (Nat.le_add_right _ _)
 show W _ _ _ _ ⟨6, [], [(0, .agg (Ze a0))]⟩ (Zu O n []) _
 refine Zs [1] (Zc Zd [] ?_)
 simp only [push_cast, seval, ↓reduceIte, Za, hN0, hN]
 refine Zo ?_
 obtain ⟨y2, hy2, h⟩ := bC h
 refine Zc Zd [] ?_
 simp only [push_cast, seval, ↓reduceIte, Za, hN0, hN]
 refine (Vt hy2).then ?_
 simp only [push_cast, seval, ↓reduceIte, Za, hN0, hN]
 refine Zm [2] [false] ?_
 simp only [push_cast, seval, ↓reduceIte]
 refine Z5 ?_
 try simp only [Zn, Zj]
 have h := Option.some.inj h; subst h
 refine Zy (.inr rfl) hU [.val (.bool (decide (0 ≤ y2)))] (by omega) ?_
 simp only [push_cast, seval, ↓reduceIte, Za, Try.results21, hN0, hN]
theorem Zi7 {a0 : Int} {r : Int} {O : Objs} {n : Nat} (h : Zb3 a0 = some r) : GTo Try.prog 92 [.val (.int .i64 a0)] O n (.val (.int .i64 r)) O n := by
 unfold Zb3 at h
 refine Xc Zd Try.call92 Try.func92 rfl (Nat.le_of_ble_eq_true rfl) (Nat.le_refl _) fun hU => ?_
 have hN0 : O n = none := hU.fresh _ (Nat.le_refl _)
 have hN : ∀ k, O (n + k) = none := fun k => hU.fresh _ (Nat.le_add_right _ _)
 show W _ _ _ _ ⟨16, [], [(0, .val (.int .i64 a0))]⟩ (Zu O n []) _
 refine Zs [0] (Zc Zd [] ?_)
 simp only [push_cast, seval, ↓reduceIte, Za, hN0, hN]
 refine Zo ?_
 refine Zs [3] (Zc Zd [] ?_)
 simp only [push_cast, seval, ↓reduceIte, Za, hN0, hN]
 refine Ys ?_
 refine Zs [3, 4] (Zc Zd [] ?_)
 simp only [push_cast, seval, ↓reduceIte, Za, hN0, hN]
 refine Zt (t := (a0 == 0)) rfl (fun c6 => ?_) (fun c6 => ?_)
 ·replace h := Zx c6 h
  refine Zs [2] (Zc Zd [] ?_)
  simp only [push_cast, seval, ↓reduceIte, Za, hN0, hN]
  refine Z5 ?_
  try simp only [Zn, Zj]
  have h := Option.some.inj h; subst h
  refine Zy (.inr rfl) hU [.val (.int .i64 0)] (by omega) ?_
  simp only [push_cast, seval, ↓reduceIte, Za, Try.results92, hN0, hN]
 replace h := Zw c6 h
 refine Zs [3, 6] (Zc Zd [] ?_)
 simp only [push_cast, seval, ↓reduceIte, Za, hN0, hN]
 refine Zt (t := (a0 == 1)) rfl (fun c5 => ?_) (fun c5 => ?_)
 ·replace h := Zx c5 h
  refine Zs [2] (Zc Zd [] ?_)
  simp only [push_cast, seval, ↓reduceIte, Za, hN0, hN]
  refine Z5 ?_
  try simp only [Zn, Zj]
  have h := Option.some.inj h; subst h
  refine Zy (.inr rfl) hU [.val (.int .i64 1)] (by omega) ?_
  simp only [push_cast, seval, ↓reduceIte, Za, Try.results92, hN0, hN]
 replace h := Zw c5 h
 refine Zs [3, 8] (Zc Zd [] ?_)
 simp only [push_cast, seval, ↓reduceIte, Za, hN0, hN]
 refine Zt (t := (a0 == 2)) rfl (fun c4 => ?_) (fun c4 => ?_)
 ·replace h := Zx c4 h
  refine Zs [2] (Zc Zd [] ?_)
  simp only [push_cast, seval, ↓reduceIte, Za, hN0, hN]
  refine Z5 ?_
  try simp only [Zn, Zj]
  have h := Option.some.inj h; subst h
  refine Zy (.inr rfl) hU [.val (.int .i64 8)] (by omega) ?_
  simp only [push_cast, seval, ↓reduceIte, Za, Try.results92, hN0, hN]
 replace h := Zw c4 h
 refine Zs [3, 10] (Zc Zd [] ?_)
 simp only [push_cast, seval, ↓reduceIte, Za, hN0, hN]
 refine Zt (t := (a0 == 3)) rfl (fun c3 => ?_) (fun c3 => ?_)
 ·replace h := Zx c3 h
  refine Zs [2] (Zc Zd [] ?_)
  simp only [push_cast, seval, ↓reduceIte, Za, hN0, hN]
  refine Z5 ?_
  try simp only [Zn, Zj]
  have h := Option.some.inj h; subst h
  refine Zy (.inr rfl) hU [.val (.int .i64 16)] (by omega) ?_
  simp only [push_cast, seval, ↓reduceIte, Za, Try.results92, hN0, hN]
 replace h := Zw c3 h
 refine Zs [3, 12] (Zc Zd [] ?_)
 simp only [push_cast, seval, ↓reduceIte, Za, hN0, hN]
 refine Zt (t := (a0 == 4)) rfl (fun c2 => ?_) (fun c2 => ?_)
 ·replace h := Zx c2 h
  refine Zs [2] (Zc Zd [] ?_)
  simp only [push_cast, seval, ↓reduceIte, Za, hN0, hN]
  refine Z5 ?_
  try simp only [Zn, Zj]
  have h := Option.some.inj h; subst h
  refine Zy (.inr rfl) hU [.val (.int .i64 32)] (by omega) ?_
  simp only [push_cast, seval, ↓reduceIte, Za, Try.results92, hN0, hN]
 replace h := Zw c2 h
 refine Zs [14] (Zc Zd [] ?_)
 simp only [push_cast, seval, ↓reduceIte, Za, hN0, hN]
 refine Zt (t := (a0 == 5)) rfl (fun c1 => ?_) (fun c1 => ?_)
 ·replace h := Zx c1 h
  refine Zs [2] (Zc Zd [] ?_)
  simp only [push_cast, seval, ↓reduceIte, Za, hN0, hN]
  refine Z5 ?_
  try simp only [Zn, Zj]
  have h := Option.some.inj h; subst h
  refine Zy (.inr rfl) hU [.val (.int .i64 64)] (by omega) ?_
  simp only [push_cast, seval, ↓reduceIte, Za, Try.results92, hN0, hN]
 replace h := Zw c1 h
 refine Z0 ?_
 try simp only [Zn, Zj]
 refine Zm [] [] ?_
 simp only [push_cast, seval, ↓reduceIte]
 refine Zs [2] (Zc Zd [] ?_)
 simp only [push_cast, seval, ↓reduceIte, Za, hN0, hN]
 refine Z5 ?_
 try simp only [Zn, Zj]
 have h := Option.some.inj h; subst h
 refine Zy (.inr rfl) hU [.val (.int .i64 (-1))] (by omega) ?_
 simp only [push_cast, seval, ↓reduceIte, Za, Try.results92, hN0, hN]
theorem Zex {a0 : Int} {a1 : Int} {r : Bool} {O : Objs} {n : Nat} (h : Kq a0 a1 = some r) : GTo Try.prog 57 [.val (.int .i64 a0), .val (.int .u64 a1)] O n (.val (.bool r)) O n := by
 unfold Kq at h
 refine Xc Zd Try.call57 Try.func57 rfl (Nat.le_of_ble_eq_true rfl) (Nat.le_refl _) fun hU => ?_
 have hN0 : O n = none := hU.fresh _ (Nat.le_refl _)
 have hN : ∀ k, O (n + k) = none := fun k => hU.fresh _ (Nat.le_add_right _ _)
 show W _ _ _ _ ⟨20, [], [(0, .val (.int .i64 a0)), (1, .val (.int .u64 a1))]⟩ (Zu O n []) _
 refine Zs [0, 1] (Zc Zd [] ?_)
 simp only [push_cast, seval, ↓reduceIte, Za, hN0, hN]
 refine Zo ?_
 obtain ⟨y2, hy2, h⟩ := bC h
 refine Zc Zd [] ?_
 simp only [push_cast, seval, ↓reduceIte, Za, hN0, hN]
 refine (Zi7 hy2).then ?_
 simp only [push_cast, seval, ↓reduceIte, Za, hN0, hN]
 refine Zm [1, 5] [] ?_
 simp only [push_cast, seval, ↓reduceIte]
 refine Zo ?_
 refine Zs [1, 5, 10] (Zc Zd [] ?_)
 simp only [push_cast, seval, ↓reduceIte, Za, hN0, hN]
 refine Zt (t := (decide (y2 < 0))) rfl (fun c5 => ?_) (fun c5 => ?_)
 ·replace h := Zx c5 h
  refine Zs [4] (Zc Zd [] ?_)
  simp only [push_cast, seval, ↓reduceIte, Za, hN0, hN]
  refine Z5 ?_
  try simp only [Zn, Zj]
  have h := Option.some.inj h; subst h
  refine Zy (.inr rfl) hU [.val (.bool false)] (by omega) ?_
  simp only [push_cast, seval, ↓reduceIte, Za, Try.results57, hN0, hN]
 replace h := Zw c5 h
 refine Z0 ?_
 try simp only [Zn, Zj]
 refine Zm [1, 5] [] ?_
 simp only [push_cast, seval, ↓reduceIte]
 refine Zo ?_
 refine Zs [1, 5, 6] (Zc Zd [] ?_)
 simp only [push_cast, seval, ↓reduceIte, Za, hN0, hN]
 refine Zm [1, 5, 6] [] ?_
 simp only [push_cast, seval, ↓reduceIte]
 obtain ⟨z4, hz4, h⟩ := bC h
 refine Yv (E' := ⟨20, [], [(1, .val (.int .u64 z4))]⟩) (O' := (Zu O n [])) (n0 := n) ?_ ?_
 ·refine Y7 hz4 (fun s0_ => ⟨20, [], [(1, .val (.int .u64 s0_.1)), (5, .val (.int .i64 y2)), (6, .val (.int .i64 s0_.2))]⟩) (fun s0_ => (Zu O n [])) (fun z4 => JX 0 n (⟨20, [], [(1, .val (.int .u64 z4))]⟩ : Env) (Zu O n []) n) ?_
  intro s0_ x0_ hs0_
  unfold Xp at hs0_
  try dsimp only
  refine Zo ?_
  refine Zs [1, 5, 6, 13] (Zc Zd [] ?_)
  simp only [push_cast, seval, ↓reduceIte, Za, hN0, hN]
  refine Zt (t := (decide (s0_.2 < y2))) rfl (fun c3 => ?_) (fun c3 => ?_)
  ·replace hs0_ := Zx c3 hs0_
   refine Z0 ?_
   try simp only [Zn, Zj]
   refine Zm [1, 5, 6] [] ?_
   simp only [push_cast, seval, ↓reduceIte]
   refine Zo ?_
   refine Ys ?_
   refine Zc Zd [] ?_
   simp only [push_cast, seval, ↓reduceIte, Za, hN0, hN]
   refine Zm [1, 5, 6] [] ?_
   simp only [push_cast, seval, ↓reduceIte]
   refine Zc Zd [] ?_
   simp only [push_cast, seval, ↓reduceIte, Za, hN0, hN]
   have hs0_ := Option.some.inj hs0_; subst hs0_
   refine And.intro rfl (Fit2.of (Zl hU rfl rfl ?_) (by omega))
   simp only [push_cast, seval, ↓reduceIte, Za, hN0, hN]
  replace hs0_ := Zw c3 hs0_
  refine Xs ?_
  try simp only [Zn, Zj, ↓reduceIte, Nat.reduceEqDiff]
  have hs0_ := Option.some.inj hs0_; subst hs0_
  refine And.intro (fun h => by cases h) (And.intro rfl (Fit2.of (Zl hU rfl rfl ?_) (by omega)))
  simp only [push_cast, seval, ↓reduceIte, Za, hN0, hN]
 try simp only [Zn, Zj, ↓reduceIte, Nat.reduceEqDiff]
 refine Zm [1] [] ?_
 simp only [push_cast, seval, ↓reduceIte]
 refine Zs [4] (Zc Zd [] ?_)
 simp only [push_cast, seval, ↓reduceIte, Za, hN0, hN]
 refine Z5 ?_
 try simp only [Zn, Zj]
 have h := Option.some.inj h; subst h
 refine Zy (.inr rfl) hU [.val (.bool (z4 == 0))] (by omega) ?_
 simp only [push_cast, seval, ↓reduceIte, Za, Try.results57, hN0, hN]
theorem Zh7 {J9 : (S_api_Tree → Int → Option Bool)} (Zhn : ∀ {a0 : S_api_Tree} {a1 : Int} {r : Bool} {O : Objs} {n : Nat}, J9 a0 a1 = some r → GTo Try.prog 22 [.agg (Ze a0), .val (.int .i64 a1)] O n (.val (.bool r)) O n) {a0 : S_api_Tree} {a1 : Int} {r : Bool} {O : Objs} {n : Nat} (h : Vb J9 a0 a1 = some r) : GTo Try.prog 22 [.agg (Ze a0), .val (.int .i64 a1)] O n (.val (.bool r)) O n := by
 unfold Vb at h
 refine Xc Zd Try.call22 Try.func22 rfl (Nat.le_of_ble_eq_true rfl) (Nat.le_refl _) fun hU => ?_
 have hN0 : O n = none := hU.fresh _ (Nat.le_refl _)
 have hN : ∀ k, O (n + k) = none := fun k => hU.fresh _ (Nat.le_add_right _ _)
 show W _ _ _ _ ⟨132, [], [(0, .agg (Ze a0)), (1, .val (.int .i64 a1))]⟩ (Zu O n []) _
 refine Zs [1, 2] (Zc Zd [] ?_)
 simp only [push_cast, seval, ↓reduceIte, Za, hN0, hN]
 refine Zo ?_
 refine Zs [1, 2, 10] (Zc Zd [] ?_)
 simp only [push_cast, seval, ↓reduceIte, Za, hN0, hN]
 refine Zt (t := (a0.Kind == 0)) rfl (fun c32 => ?_) (fun c32 => ?_)
 ·replace h := Zx c32 h
  refine Zs [4] (Zc Zd [none, none, none, none] ?_)
  simp only [push_cast, seval, ↓reduceIte, Za, hN0, hN]
  repeat (with_reducible refine And.intro (by first | (intro h0; simp only [h0, and_self]; done) | (intro h0; simp only [h0, Bool.not_false, Bool.not_true, Bool.true_and, Bool.and_true, true_and, and_true, and_self, imp_self, implies_true, bne_iff_ne, ne_eq, beq_iff_eq]; done) | (intros; simp_all; done) | exact True.intro) ?_)
  refine Z5 ?_
  try simp only [Zn, Zj]
  have h := Option.some.inj h; subst h
  refine Zy (.inr rfl) hU [.val (.bool (cond ((a0.Words.length : Int) == 0) ((a0.Kids.length : Int) == 0) false))] (by omega) ?_
  simp only [push_cast, seval, ↓reduceIte, Za, Try.results22, hN0, hN]
 replace h := Zw c32 h
 refine Z0 ?_
 try simp only [Zn, Zj]
 refine Zm [1, 2] [true] ?_
 simp only [push_cast, seval, ↓reduceIte]
 refine Zo ?_
 refine Zs [1, 2, 23] (Zc Zd [] ?_)
 simp only [push_cast, seval, ↓reduceIte, Za, hN0, hN]
 refine Zt (t := (a0.Kind == 10)) rfl (fun c31 => ?_) (fun c31 => ?_)
 ·replace h := Zx c31 h
  refine Zs [4] (Zc Zd [none, none, none, none] ?_)
  simp only [push_cast, seval, ↓reduceIte, Za, hN0, hN]
  repeat (with_reducible refine And.intro (by first | (intro h0; simp only [h0, and_self]; done) | (intro h0; simp only [h0, Bool.not_false, Bool.not_true, Bool.true_and, Bool.and_true, true_and, and_true, and_self, imp_self, implies_true, bne_iff_ne, ne_eq, beq_iff_eq]; done) | (intros; simp_all; done) | exact True.intro) ?_)
  refine Z5 ?_
  try simp only [Zn, Zj]
  have h := Option.some.inj h; subst h
  refine Zy (.inr rfl) hU [.val (.bool (cond ((a0.Words.length : Int) == 1) ((a0.Kids.length : Int) == 0) false))] (by omega) ?_
  simp only [push_cast, seval, ↓reduceIte, Za, Try.results22, hN0, hN]
 replace h := Zw c31 h
 refine Z0 ?_
 try simp only [Zn, Zj]
 refine Zm [1, 2] [true] ?_
 simp only [push_cast, seval, ↓reduceIte]
 refine Zo ?_
 refine Zs [1, 2, 68] (Zc Zd [none, none, none, none, none, none, none, none, none, none, none, none, none, none, none, none, none, none, none, none, none, none] ?_)
 simp only [push_cast, seval, ↓reduceIte, Za, hN0, hN]
 repeat (with_reducible refine And.intro (by first | (intro h0; simp only [h0, and_self]; done) | (intro h0; simp only [h0, Bool.not_false, Bool.not_true, Bool.true_and, Bool.and_true, true_and, and_true, and_self, imp_self, implies_true, bne_iff_ne, ne_eq, beq_iff_eq]; done) | (intros; simp_all; done) | exact True.intro) ?_)
 refine Zt (t := (cond (cond (cond (cond (cond (decide (a0.Kind < 0)) true (decide (10 < a0.Kind))) true (a1 == 0)) true (decide (65536 ≤ (a0.Words.length : Int)))) true (cond (a0.Kind == 1) (decide (65536 ≤ (a0.Kids.length : Int))) false)) true (decide (1048576 ≤ (a0.Kids.length : Int))))) rfl (fun c30 => ?_) (fun c30 => ?_)
 ·replace h := Zx c30 h
  refine Zs [4] (Zc Zd [] ?_)
  simp only [push_cast, seval, ↓reduceIte, Za, hN0, hN]
  refine Z5 ?_
  try simp only [Zn, Zj]
  have h := Option.some.inj h; subst h
  refine Zy (.inr rfl) hU [.val (.bool false)] (by omega) ?_
  simp only [push_cast, seval, ↓reduceIte, Za, Try.results22, hN0, hN]
 replace h := Zw c30 h
 refine Z0 ?_
 try simp only [Zn, Zj]
 refine Zm [1, 2] [true] ?_
 simp only [push_cast, seval, ↓reduceIte]
 refine Zo ?_
 refine Zs [1, 2, 77] (Zc Zd [none, none, none, none] ?_)
 simp only [push_cast, seval, ↓reduceIte, Za, hN0, hN]
 repeat (with_reducible refine And.intro (by first | (intro h0; simp only [h0, and_self]; done) | (intro h0; simp only [h0, Bool.not_false, Bool.not_true, Bool.true_and, Bool.and_true, true_and, and_true, and_self, imp_self, implies_true, bne_iff_ne, ne_eq, beq_iff_eq]; done) | (intros; simp_all; done) | exact True.intro) ?_)
 refine Zt (t := (cond (decide (1 < a0.Kind)) (decide (0 < (a0.Words.length : Int))) false)) rfl (fun c29 => ?_) (fun c29 => ?_)
 ·replace h := Zx c29 h
  refine Zs [4] (Zc Zd [] ?_)
  simp only [push_cast, seval, ↓reduceIte, Za, hN0, hN]
  refine Z5 ?_
  try simp only [Zn, Zj]
  have h := Option.some.inj h; subst h
  refine Zy (.inr rfl) hU [.val (.bool false)] (by omega) ?_
  simp only [push_cast, seval, ↓reduceIte, Za, Try.results22, hN0, hN]
 replace h := Zw c29 h
 refine Z0 ?_
 try simp only [Zn, Zj]
 refine Zm [1, 2] [true] ?_
 simp only [push_cast, seval, ↓reduceIte]
 refine Zo ?_
 refine Zs [1, 2, 5] (Zc Zd [] ?_)
 simp only [push_cast, seval, ↓reduceIte, Za, hN0, hN]
 refine Zm [1, 2, 5] [true] ?_
 simp only [push_cast, seval, ↓reduceIte]
 obtain ⟨z28, hz28, h⟩ := bC h
 refine Zcd (J := (Q2 (fun z28 => JR n (⟨132, [], [(4, .val (.bool false))]⟩ : Env) (Zu O n [none]) (n + 1)) (fun z28 => JX 0 n (⟨132, [], []⟩ : Env) (Zu O n [none]) (n + 1)))) (z := z28) ?_ fun hw => ?_
 ·refine Y7 hz28 (fun s0_ => ⟨132, [], [(1, .val (.int .i64 a1)), (2, .ref n 0), (5, .val (.int .i64 s0_))]⟩) (fun s0_ => (Zu O n [some ⟨false, 25, 3, 1, (Ze a0)⟩])) (Q2 (fun z28 => JR n (⟨132, [], [(4, .val (.bool false))]⟩ : Env) (Zu O n [none]) (n + 1)) (fun z28 => JX 0 n (⟨132, [], []⟩ : Env) (Zu O n [none]) (n + 1))) ?_
  intro s0_ x0_ hs0_
  unfold Ju at hs0_
  try dsimp only
  refine Zo ?_
  refine Zs [1, 2, 5, 82] (Zc Zd [] ?_)
  simp only [push_cast, seval, ↓reduceIte, Za, hN0, hN]
  refine Zt (t := (decide (s0_ < (a0.Kids.length : Int)))) rfl (fun c27 => ?_) (fun c27 => ?_)
  ·replace hs0_ := Zx c27 hs0_
   refine Z0 ?_
   try simp only [Zn, Zj]
   refine Zm [1, 2, 5] [true] ?_
   simp only [push_cast, seval, ↓reduceIte]
   refine Zo ?_
   refine Ys ?_
   refine Zo ?_
   obtain ⟨x2, hx2, ax2, bx2, cx2, hs0_⟩ := bE (f := Zb) Vs (fun _ => rfl) (by decide) hs0_
   refine Zc Zd [] ?_
   simp only [push_cast, Nat.reduceAdd, Nat.reduceSub, Nat.reduceMul, Nat.reduceLeDiff, Nat.reduceLT, Nat.reduceEqDiff, ↓reduceIte, reduceCtorEq, Int.reduceBEq, Int.reduceBNe, Nat.reduceBEq, Int.reduceLE, Int.reduceLT, Int.reduceEq, Int.reduceNe, Int.reduceNeg, Nat.reduceDiv, Nat.reduceMod, Nat.reducePow, Za, ax2, bx2, cx2, hN0, hN]
   refine Zm [1, 2, 5, 6] [true, true] ?_
   simp only [push_cast, seval, ↓reduceIte]
   refine Zo ?_
   refine Zo ?_
   obtain ⟨y4, hy4, hs0_⟩ := bC hs0_
   refine Zc Zd [] ?_
   simp only [push_cast, seval, ↓reduceIte, Za, hN0, hN]
   refine (Zhn hy4).then ?_
   simp only [push_cast, seval, ↓reduceIte, Za, hN0, hN]
   refine Zm [1, 2, 5, 6, 94] [true, true] ?_
   simp only [push_cast, seval, ↓reduceIte]
   refine Zt (t := (!y4)) rfl (fun c26 => ?_) (fun c26 => ?_)
   ·replace hs0_ := Zx c26 hs0_
    refine Zs [4] (Zc Zd [] ?_)
    simp only [push_cast, seval, ↓reduceIte, Za, hN0, hN]
    refine Z5 ?_
    try simp only [Zn, Zj]
    have hs0_ := Option.some.inj hs0_; subst hs0_
    refine And.intro (fun h => by cases h) (And.intro rfl (Fit2.of (Zl hU rfl rfl ?_) (by omega)))
    simp only [push_cast, seval, ↓reduceIte, Za, hN0, hN]
   replace hs0_ := Zw c26 hs0_
   refine Z0 ?_
   try simp only [Zn, Zj]
   refine Zm [1, 2, 5, 6] [true, true] ?_
   simp only [push_cast, seval, ↓reduceIte]
   refine Zs [1, 2, 5, 6, 7] (Zc Zd [none, none, none] ?_)
   simp only [push_cast, seval, ↓reduceIte, Za, hN0, hN]
   repeat (with_reducible refine And.intro (by first | (intro h0; simp only [h0, and_self]; done) | (intro h0; simp only [h0, Bool.not_false, Bool.not_true, Bool.true_and, Bool.and_true, true_and, and_true, and_self, imp_self, implies_true, bne_iff_ne, ne_eq, beq_iff_eq]; done) | (intros; simp_all; done) | exact True.intro) ?_)
   obtain ⟨z9, hz9, hs0_⟩ := bC hs0_
   refine Y5 (E' := ⟨132, [], [(1, .val (.int .i64 a1)), (2, .ref n 0), (5, .val (.int .i64 s0_)), (131, .val (.bool z9))]⟩) (O' := (Zu O n [some ⟨false, 25, 3, 1, (Ze a0)⟩, none])) (n0 := (n + 2)) ?_ ?_
   ·rcases Bool.eq_false_or_eq_true ((cond (decide (2 ≤ a0.Kind)) (decide (a0.Kind ≤ 7)) false) != (x2.Kind == 10)) with c18 | c18
    ·replace hz9 := Zx c18 hz9
     refine Qz Zd (by kernel_rfl) [none, none, none, none, none, none, none, none, some false, some false, some false, some false, some false, some false, some false, some false, some false, some false, some false, some false] (by kernel_rfl) ?_
     simp only [push_cast, seval, ↓reduceIte, Za, c18, hN0, hN]
     repeat (with_reducible refine And.intro (by first | (intro h0; simp only [h0, and_self]; done) | (intro h0; simp only [h0, Bool.not_false, Bool.not_true, Bool.true_and, Bool.and_true, true_and, and_true, and_self, imp_self, implies_true, bne_iff_ne, ne_eq, beq_iff_eq]; done) | (intros; simp_all; done) | exact True.intro) ?_)
     have hz9 := Option.some.inj hz9; subst hz9
     refine And.intro rfl (Fit2.of (Zl hU rfl rfl ?_) (by omega))
     simp only [push_cast, seval, ↓reduceIte, Za, c18, hN0, hN]
    replace hz9 := Zw c18 hz9
    rcases Bool.eq_false_or_eq_true (a0.Kind == 9) with c19 | c19
    ·replace hz9 := Zx c19 hz9
     try rw [c19] at c18
     rcases Bool.eq_false_or_eq_true (x2.Kind != 1) with c20 | c20
     ·replace hz9 := Zx c20 hz9
      try rw [c20] at c18
      try rw [c20] at c19
      refine Qz Zd (by kernel_rfl) [none, none, none, none, none, none, none, none, some false, some false, some false, some false, some false, some false, some false, some false, some false, some false, some false, some false] (by kernel_rfl) ?_
      simp only [push_cast, seval, ↓reduceIte, Za, c18, c19, c20, hN0, hN]
      repeat (with_reducible refine And.intro (by first | (intro h0; simp only [h0, and_self]; done) | (intro h0; simp only [h0, Bool.not_false, Bool.not_true, Bool.true_and, Bool.and_true, true_and, and_true, and_self, imp_self, implies_true, bne_iff_ne, ne_eq, beq_iff_eq]; done) | (intros; simp_all; done) | exact True.intro) ?_)
      have hz9 := Option.some.inj hz9; subst hz9
      refine And.intro rfl (Fit2.of (Zl hU rfl rfl ?_) (by omega))
      simp only [push_cast, seval, ↓reduceIte, Za, c18, c19, c20, hN0, hN]
     replace hz9 := Zw c20 hz9
     try rw [c20] at c18
     try rw [c20] at c19
     rcases Bool.eq_false_or_eq_true (decide (2 ≤ a0.Kind)) with c21 | c21
     ·replace hz9 := Zx c21 hz9
      try rw [c21] at c18
      try rw [c21] at c19
      try rw [c21] at c20
      rcases Bool.eq_false_or_eq_true (decide (a0.Kind ≤ 7)) with c22 | c22
      ·replace hz9 := Zx c22 hz9
       try rw [c22] at c18
       try rw [c22] at c19
       try rw [c22] at c20
       try rw [c22] at c21
       obtain ⟨x14, hx14, ax14, bx14, cx14, hz9⟩ := bE (f := (eI .u64)) Zfg (fun _ => rfl) (by decide) hz9
       obtain ⟨y15, hy15, hz9⟩ := bC hz9
       refine Qz Zd (by kernel_rfl) [none, none, none, none, none, none, none, none, some true, some true, some true, some true, some true, some true, some true, some true, some true, some true, some true, some true] (by kernel_rfl) ?_
       simp only [push_cast, Nat.reduceAdd, Nat.reduceSub, Nat.reduceMul, Nat.reduceLeDiff, Nat.reduceLT, Nat.reduceEqDiff, ↓reduceIte, reduceCtorEq, Int.reduceBEq, Int.reduceBNe, Nat.reduceBEq, Int.reduceLE, Int.reduceLT, Int.reduceEq, Int.reduceNe, Int.reduceNeg, Nat.reduceDiv, Nat.reduceMod, Nat.reducePow, Za, c18, c19, c20, c21, c22, ax14, bx14, cx14, hN0, hN]
       repeat (with_reducible refine And.intro (by first | (intro h0; simp only [h0, and_self]; done) | (intro h0; simp only [h0, Bool.not_false, Bool.not_true, Bool.true_and, Bool.and_true, true_and, and_true, and_self, imp_self, implies_true, bne_iff_ne, ne_eq, beq_iff_eq]; done) | (intros; simp_all; done) | exact True.intro) ?_)
       refine PCall.of (Zex hy15) ?_
       simp only [push_cast, Nat.reduceAdd, Nat.reduceSub, Nat.reduceMul, Nat.reduceLeDiff, Nat.reduceLT, Nat.reduceEqDiff, ↓reduceIte, reduceCtorEq, Int.reduceBEq, Int.reduceBNe, Nat.reduceBEq, Int.reduceLE, Int.reduceLT, Int.reduceEq, Int.reduceNe, Int.reduceNeg, Nat.reduceDiv, Nat.reduceMod, Nat.reducePow, Za, c18, c19, c20, c21, c22, ax14, bx14, cx14, hN0, hN]
       repeat (with_reducible refine And.intro (by first | (intro h0; simp only [h0, and_self]; done) | (intro h0; simp only [h0, Bool.not_false, Bool.not_true, Bool.true_and, Bool.and_true, true_and, and_true, and_self, imp_self, implies_true, bne_iff_ne, ne_eq, beq_iff_eq]; done) | (intros; simp_all; done) | exact True.intro) ?_)
       have hz9 := Option.some.inj hz9; subst hz9
       refine And.intro rfl (Fit2.of (Zl hU rfl rfl ?_) (by omega))
       simp only [push_cast, Nat.reduceAdd, Nat.reduceSub, Nat.reduceMul, Nat.reduceLeDiff, Nat.reduceLT, Nat.reduceEqDiff, ↓reduceIte, reduceCtorEq, Int.reduceBEq, Int.reduceBNe, Nat.reduceBEq, Int.reduceLE, Int.reduceLT, Int.reduceEq, Int.reduceNe, Int.reduceNeg, Nat.reduceDiv, Nat.reduceMod, Nat.reducePow, Za, c18, c19, c20, c21, c22, ax14, bx14, cx14, hN0, hN]
      replace hz9 := Zw c22 hz9
      try rw [c22] at c18
      try rw [c22] at c19
      try rw [c22] at c20
      try rw [c22] at c21
      refine Qz Zd (by kernel_rfl) [none, none, none, none, none, none, none, none, some true, some true, some false, some false, some false, some false, some false, some false, some false, some false, some false, some true] (by kernel_rfl) ?_
      simp only [push_cast, seval, ↓reduceIte, Za, c18, c19, c20, c21, c22, hN0, hN]
      repeat (with_reducible refine And.intro (by first | (intro h0; simp only [h0, and_self]; done) | (intro h0; simp only [h0, Bool.not_false, Bool.not_true, Bool.true_and, Bool.and_true, true_and, and_true, and_self, imp_self, implies_true, bne_iff_ne, ne_eq, beq_iff_eq]; done) | (intros; simp_all; done) | exact True.intro) ?_)
      have hz9 := Option.some.inj hz9; subst hz9
      refine And.intro rfl (Fit2.of (Zl hU rfl rfl ?_) (by omega))
      simp only [push_cast, seval, ↓reduceIte, Za, c18, c19, c20, c21, c22, hN0, hN]
     replace hz9 := Zw c21 hz9
     try rw [c21] at c18
     try rw [c21] at c19
     try rw [c21] at c20
     refine Qz Zd (by kernel_rfl) [none, none, none, none, none, none, none, none, some true, some true, some false, some false, some false, some false, some false, some false, some false, some false, some false, some true] (by kernel_rfl) ?_
     simp only [push_cast, seval, ↓reduceIte, Za, c18, c19, c20, c21, hN0, hN]
     repeat (with_reducible refine And.intro (by first | (intro h0; simp only [h0, and_self]; done) | (intro h0; simp only [h0, Bool.not_false, Bool.not_true, Bool.true_and, Bool.and_true, true_and, and_true, and_self, imp_self, implies_true, bne_iff_ne, ne_eq, beq_iff_eq]; done) | (intros; simp_all; done) | exact True.intro) ?_)
     have hz9 := Option.some.inj hz9; subst hz9
     refine And.intro rfl (Fit2.of (Zl hU rfl rfl ?_) (by omega))
     simp only [push_cast, seval, ↓reduceIte, Za, c18, c19, c20, c21, hN0, hN]
    replace hz9 := Zw c19 hz9
    try rw [c19] at c18
    rcases Bool.eq_false_or_eq_true (decide (2 ≤ a0.Kind)) with c23 | c23
    ·replace hz9 := Zx c23 hz9
     try rw [c23] at c18
     try rw [c23] at c19
     rcases Bool.eq_false_or_eq_true (decide (a0.Kind ≤ 7)) with c24 | c24
     ·replace hz9 := Zx c24 hz9
      try rw [c24] at c18
      try rw [c24] at c19
      try rw [c24] at c23
      obtain ⟨x16, hx16, ax16, bx16, cx16, hz9⟩ := bE (f := (eI .u64)) Zfg (fun _ => rfl) (by decide) hz9
      obtain ⟨y17, hy17, hz9⟩ := bC hz9
      refine Qz Zd (by kernel_rfl) [none, none, none, none, none, none, none, none, some true, some true, some true, some true, some true, some true, some true, some true, some true, some true, some true, some true] (by kernel_rfl) ?_
      simp only [push_cast, Nat.reduceAdd, Nat.reduceSub, Nat.reduceMul, Nat.reduceLeDiff, Nat.reduceLT, Nat.reduceEqDiff, ↓reduceIte, reduceCtorEq, Int.reduceBEq, Int.reduceBNe, Nat.reduceBEq, Int.reduceLE, Int.reduceLT, Int.reduceEq, Int.reduceNe, Int.reduceNeg, Nat.reduceDiv, Nat.reduceMod, Nat.reducePow, Za, c18, c19, c23, c24, ax16, bx16, cx16, hN0, hN]
      repeat (with_reducible refine And.intro (by first | (intro h0; simp only [h0, and_self]; done) | (intro h0; simp only [h0, Bool.not_false, Bool.not_true, Bool.true_and, Bool.and_true, true_and, and_true, and_self, imp_self, implies_true, bne_iff_ne, ne_eq, beq_iff_eq]; done) | (intros; simp_all; done) | exact True.intro) ?_)
      refine PCall.of (Zex hy17) ?_
      simp only [push_cast, Nat.reduceAdd, Nat.reduceSub, Nat.reduceMul, Nat.reduceLeDiff, Nat.reduceLT, Nat.reduceEqDiff, ↓reduceIte, reduceCtorEq, Int.reduceBEq, Int.reduceBNe, Nat.reduceBEq, Int.reduceLE, Int.reduceLT, Int.reduceEq, Int.reduceNe, Int.reduceNeg, Nat.reduceDiv, Nat.reduceMod, Nat.reducePow, Za, c18, c19, c23, c24, ax16, bx16, cx16, hN0, hN]
      repeat (with_reducible refine And.intro (by first | (intro h0; simp only [h0, and_self]; done) | (intro h0; simp only [h0, Bool.not_false, Bool.not_true, Bool.true_and, Bool.and_true, true_and, and_true, and_self, imp_self, implies_true, bne_iff_ne, ne_eq, beq_iff_eq]; done) | (intros; simp_all; done) | exact True.intro) ?_)
      have hz9 := Option.some.inj hz9; subst hz9
      refine And.intro rfl (Fit2.of (Zl hU rfl rfl ?_) (by omega))
      simp only [push_cast, Nat.reduceAdd, Nat.reduceSub, Nat.reduceMul, Nat.reduceLeDiff, Nat.reduceLT, Nat.reduceEqDiff, ↓reduceIte, reduceCtorEq, Int.reduceBEq, Int.reduceBNe, Nat.reduceBEq, Int.reduceLE, Int.reduceLT, Int.reduceEq, Int.reduceNe, Int.reduceNeg, Nat.reduceDiv, Nat.reduceMod, Nat.reducePow, Za, c18, c19, c23, c24, ax16, bx16, cx16, hN0, hN]
     replace hz9 := Zw c24 hz9
     try rw [c24] at c18
     try rw [c24] at c19
     try rw [c24] at c23
     refine Qz Zd (by kernel_rfl) [none, none, none, none, none, none, none, none, some true, some true, some false, some false, some false, some false, some false, some false, some false, some false, some false, some true] (by kernel_rfl) ?_
     simp only [push_cast, seval, ↓reduceIte, Za, c18, c19, c23, c24, hN0, hN]
     repeat (with_reducible refine And.intro (by first | (intro h0; simp only [h0, and_self]; done) | (intro h0; simp only [h0, Bool.not_false, Bool.not_true, Bool.true_and, Bool.and_true, true_and, and_true, and_self, imp_self, implies_true, bne_iff_ne, ne_eq, beq_iff_eq]; done) | (intros; simp_all; done) | exact True.intro) ?_)
     have hz9 := Option.some.inj hz9; subst hz9
     refine And.intro rfl (Fit2.of (Zl hU rfl rfl ?_) (by omega))
     simp only [push_cast, seval, ↓reduceIte, Za, c18, c19, c23, c24, hN0, hN]
    replace hz9 := Zw c23 hz9
    try rw [c23] at c18
    try rw [c23] at c19
    refine Qz Zd (by kernel_rfl) [none, none, none, none, none, none, none, none, some true, some true, some false, some false, some false, some false, some false, some false, some false, some false, some false, some true] (by kernel_rfl) ?_
    simp only [push_cast, seval, ↓reduceIte, Za, c18, c19, c23, hN0, hN]
    repeat (with_reducible refine And.intro (by first | (intro h0; simp only [h0, and_self]; done) | (intro h0; simp only [h0, Bool.not_false, Bool.not_true, Bool.true_and, Bool.and_true, true_and, and_true, and_self, imp_self, implies_true, bne_iff_ne, ne_eq, beq_iff_eq]; done) | (intros; simp_all; done) | exact True.intro) ?_)
    have hz9 := Option.some.inj hz9; subst hz9
    refine And.intro rfl (Fit2.of (Zl hU rfl rfl ?_) (by omega))
    simp only [push_cast, seval, ↓reduceIte, Za, c18, c19, c23, hN0, hN]
   refine Zt (t := z9) rfl (fun c25 => ?_) (fun c25 => ?_)
   ·replace hs0_ := Zx c25 hs0_
    refine Zs [4] (Zc Zd [] ?_)
    simp only [push_cast, seval, ↓reduceIte, Za, hN0, hN]
    refine Z5 ?_
    try simp only [Zn, Zj]
    have hs0_ := Option.some.inj hs0_; subst hs0_
    refine And.intro (fun h => by cases h) (And.intro rfl (Fit2.of (Zl hU rfl rfl ?_) (by omega)))
    simp only [push_cast, seval, ↓reduceIte, Za, hN0, hN]
   replace hs0_ := Zw c25 hs0_
   refine Z0 ?_
   try simp only [Zn, Zj]
   refine Zm [1, 2, 5] [true, false] ?_
   simp only [push_cast, seval, ↓reduceIte]
   refine Zc Zd [] ?_
   simp only [push_cast, seval, ↓reduceIte, Za, hN0, hN]
   have hs0_ := Option.some.inj hs0_; subst hs0_
   refine And.intro rfl (Fit2.of (Zl hU rfl rfl ?_) (by omega))
   simp only [push_cast, seval, ↓reduceIte, Za, hN0, hN]
  replace hs0_ := Zw c27 hs0_
  refine Xs ?_
  try simp only [Zn, Zj, ↓reduceIte, Nat.reduceEqDiff]
  have hs0_ := Option.some.inj hs0_; subst hs0_
  refine And.intro (fun h => by cases h) (And.intro rfl (Fit2.of (Zl hU rfl rfl ?_) (by omega)))
  simp only [push_cast, seval, ↓reduceIte, Za, hN0, hN]
 rcases z28 with z28 | z28
 ·dsimp only [Q2] at hw h
  refine Vz hw ?_
  try simp only [Zn, Zj, ↓reduceIte, Nat.reduceEqDiff]
  have h := Option.some.inj h; subst h
  refine Zy (.inr rfl) hU [.val (.bool false)] (by omega) ?_
  simp only [push_cast, seval, ↓reduceIte, Za, Try.results22, hN0, hN]
 dsimp only [Q2] at hw h
 refine Yv hw ?_
 try simp only [Zn, Zj, ↓reduceIte, Nat.reduceEqDiff]
 refine Zm [] [false] ?_
 simp only [push_cast, seval, ↓reduceIte]
 refine Zs [4] (Zc Zd [] ?_)
 simp only [push_cast, seval, ↓reduceIte, Za, hN0, hN]
 refine Z5 ?_
 try simp only [Zn, Zj]
 have h := Option.some.inj h; subst h
 refine Zy (.inr rfl) hU [.val (.bool true)] (by omega) ?_
 simp only [push_cast, seval, ↓reduceIte, Za, Try.results22, hN0, hN]
theorem Zgv : ∀ k, (∀ {a0 : S_api_Tree} {a1 : Int} {r : Bool} {O : Objs} {n : Nat}, (Qi k) a0 a1 = some r → GTo Try.prog 22 [.agg (Ze a0), .val (.int .i64 a1)] O n (.val (.bool r)) O n) := fun k => by
 induction k with
 | zero => exact @fun a0 a1 r O n h => (nomatch (show (none : Option _) = some _ from h))
 | succ k ih => exact @fun a0 a1 r O n h => Zh7 (ih)  h
theorem K3 {a0 : S_api_Tree} {a1 : Int} {r : Bool} {O : Objs} {n : Nat} (h : J5 a0 a1 = some r) : GTo Try.prog 22 [.agg (Ze a0), .val (.int .i64 a1)] O n (.val (.bool r)) O n := by
 obtain ⟨k, hk⟩ := Ur h
 exact (Zgv k)  hk
theorem Ga {a0 : S_api_Tree} {r : Bool} {O : Objs} {n : Nat} (h : Qn a0 = some r) : GTo Try.prog 30 [.agg (Ze a0)] O n (.val (.bool r)) O n := by
 unfold Qn at h
 refine Xc Zd Try.call30 Try.func30 rfl (Nat.le_of_ble_eq_true rfl) (Nat.le_refl _) fun hU => ?_
 have hN0 : O n = none := hU.fresh _ (Nat.le_refl _)
 have hN : ∀ k, O (n + k) = none := fun k => hU.fresh _ (Nat.le_add_right _ _)
 show W _ _ _ _ ⟨14, [], [(0, .agg (Ze a0))]⟩ (Zu O n []) _
 refine Zs [1] (Zc Zd [] ?_)
 simp only [push_cast, seval, ↓reduceIte, Za, hN0, hN]
 obtain ⟨z3, hz3, h⟩ := bC h
 refine Y5 (E' := ⟨14, [], [(2, .val (.bool z3))]⟩) (O' := (Zu O n [none])) (n0 := (n + 1)) ?_ ?_
 ·obtain ⟨y6, hy6, hz3⟩ := bC hz3
  rcases Bool.eq_false_or_eq_true y6 with c8 | c8
  ·replace hz3 := Zx c8 hz3
   obtain ⟨y7, hy7, hz3⟩ := bC hz3
   refine Zc Zd [some true, some true, none, none, none] ?_
   simp only [push_cast, seval, ↓reduceIte, Za, c8, hN0, hN]
   repeat (with_reducible refine And.intro (by first | (intro h0; simp only [h0, and_self]; done) | (intro h0; simp only [h0, Bool.not_false, Bool.not_true, Bool.true_and, Bool.and_true, true_and, and_true, and_self, imp_self, implies_true, bne_iff_ne, ne_eq, beq_iff_eq]; done) | (intros; simp_all; done) | exact True.intro) ?_)
   refine (Zfw hy6).then ?_
   simp only [push_cast, seval, ↓reduceIte, Za, c8, hN0, hN]
   repeat (with_reducible refine And.intro (by first | (intro h0; simp only [h0, and_self]; done) | (intro h0; simp only [h0, Bool.not_false, Bool.not_true, Bool.true_and, Bool.and_true, true_and, and_true, and_self, imp_self, implies_true, bne_iff_ne, ne_eq, beq_iff_eq]; done) | (intros; simp_all; done) | exact True.intro) ?_)
   refine (K3 hy7).then ?_
   simp only [push_cast, seval, ↓reduceIte, Za, c8, hN0, hN]
   repeat (with_reducible refine And.intro (by first | (intro h0; simp only [h0, and_self]; done) | (intro h0; simp only [h0, Bool.not_false, Bool.not_true, Bool.true_and, Bool.and_true, true_and, and_true, and_self, imp_self, implies_true, bne_iff_ne, ne_eq, beq_iff_eq]; done) | (intros; simp_all; done) | exact True.intro) ?_)
   have hz3 := Option.some.inj hz3; subst hz3
   refine And.intro rfl (Fit2.of (Zl hU rfl rfl ?_) (by omega))
   simp only [push_cast, seval, ↓reduceIte, Za, c8, hN0, hN]
  replace hz3 := Zw c8 hz3
  refine Zc Zd [some false, some false, some false, some false, some false] ?_
  simp only [push_cast, seval, ↓reduceIte, Za, c8, hN0, hN]
  refine (Zfw hy6).then ?_
  simp only [push_cast, seval, ↓reduceIte, Za, c8, hN0, hN]
  have hz3 := Option.some.inj hz3; subst hz3
  refine And.intro rfl (Fit2.of (Zl hU rfl rfl ?_) (by omega))
  simp only [push_cast, seval, ↓reduceIte, Za, c8, hN0, hN]
 refine Z5 ?_
 try simp only [Zn, Zj]
 have h := Option.some.inj h; subst h
 refine Zy (.inr rfl) hU [.val (.bool z3)] (by omega) ?_
 simp only [push_cast, seval, ↓reduceIte, Za, Try.results30, hN0, hN]
theorem Zjc {X8 : (S_api_Edit → Int → Int → Option Int)} (Zd4 : ∀ {a0 : S_api_Edit} {a1 : Int} {a2 : Int} {r : Int} {O : Objs} {n : Nat}, X8 a0 a1 a2 = some r → GTo Try.prog 83 [.agg (Zg a0), .val (.int .i64 a1), .val (.int .i64 a2)] O n (.val (.int .i64 r)) O n) {a0 : S_api_Edit} {a1 : Int} {a2 : Int} {r : Int} {O : Objs} {n : Nat} (h : Qm X8 a0 a1 a2 = some r) : GTo Try.prog 83 [.agg (Zg a0), .val (.int .i64 a1), .val (.int .i64 a2)] O n (.val (.int .i64 r)) O n := by
 unfold Qm at h
 refine Xc Zd Try.call83 Try.func83 rfl (Nat.le_of_ble_eq_true rfl) (Nat.le_refl _) fun hU => ?_
 have hN0 : O n = none := hU.fresh _ (Nat.le_refl _)
 have hN : ∀ k, O (n + k) = none := fun k => hU.fresh _ (Nat.le_add_right _ _)
 show W _ _ _ _ ⟨107, [], [(0, .agg (Zg a0)), (1, .val (.int .i64 a1)), (2, .val (.int .i64 a2))]⟩ (Zu O n []) _
 refine Zs [1, 2, 3] (Zc Zd [] ?_)
 simp only [push_cast, seval, ↓reduceIte, Za, hN0, hN]
 refine Zs [1, 2, 3] (Zc Zd [] ?_)
 simp only [push_cast, seval, ↓reduceIte, Za, hN0, hN]
 refine Zo ?_
 refine Zs [1, 2, 3, 25] (Zc Zd [none, none] ?_)
 simp only [push_cast, seval, ↓reduceIte, Za, hN0, hN]
 repeat (with_reducible refine And.intro (by first | (intro h0; simp only [h0, and_self]; done) | (intro h0; simp only [h0, Bool.not_false, Bool.not_true, Bool.true_and, Bool.and_true, true_and, and_true, and_self, imp_self, implies_true, bne_iff_ne, ne_eq, beq_iff_eq]; done) | (intros; simp_all; done) | exact True.intro) ?_)
 refine Zt (t := (cond (a1 == 0) true (decide ((IntKind.i64.wrap ((IntKind.i64.wrap ((IntKind.i64.wrap (a2 - 1)) - (a0.Words.length : Int))) - (a0.Ops.length : Int))) < 0)))) rfl (fun c28 => ?_) (fun c28 => ?_)
 ·replace h := Zx c28 h
  refine Zs [6] (Zc Zd [] ?_)
  simp only [push_cast, seval, ↓reduceIte, Za, hN0, hN]
  refine Z5 ?_
  try simp only [Zn, Zj]
  have h := Option.some.inj h; subst h
  refine Zy (.inr rfl) hU [.val (.int .i64 (-1))] (by omega) ?_
  simp only [push_cast, seval, ↓reduceIte, Za, Try.results83, hN0, hN]
 replace h := Zw c28 h
 refine Z0 ?_
 try simp only [Zn, Zj]
 refine Zm [1, 2, 3] [true] ?_
 simp only [push_cast, seval, ↓reduceIte]
 refine Zo ?_
 obtain ⟨y2, hy2, h⟩ := bC h
 refine Zc Zd [] ?_
 simp only [push_cast, seval, ↓reduceIte, Za, hN0, hN]
 refine (Vt hy2).then ?_
 simp only [push_cast, seval, ↓reduceIte, Za, hN0, hN]
 refine Zm [1, 2, 3] [true] ?_
 simp only [push_cast, seval, ↓reduceIte]
 obtain ⟨z3, hz3, h⟩ := bC h
 refine Y5 (E' := ⟨107, [], [(1, .val (.int .i64 a1)), (2, .val (.int .i64 z3)), (3, .ref n 0)]⟩) (O' := (Zu O n [some ⟨false, 30, 11, 1, (Zg a0)⟩])) (n0 := (n + 1)) ?_ ?_
 ·refine Zs [1, 2, 3, 31] (Zc Zd [] ?_)
  simp only [push_cast, seval, ↓reduceIte, Za, hN0, hN]
  refine Zt (t := (decide (0 ≤ y2))) rfl (fun c5 => ?_) (fun c5 => ?_)
  ·replace hz3 := Zx c5 hz3
   obtain ⟨y4, hy4, hz3⟩ := bC hz3
   refine Zc Zd [] ?_
   simp only [push_cast, seval, ↓reduceIte, Za, hN0, hN]
   refine (Vt hy4).then ?_
   simp only [push_cast, seval, ↓reduceIte, Za, hN0, hN]
   have hz3 := Option.some.inj hz3; subst hz3
   refine And.intro rfl (Fit2.of (Zl hU rfl rfl ?_) (by omega))
   simp only [push_cast, seval, ↓reduceIte, Za, hN0, hN]
  replace hz3 := Zw c5 hz3
  refine Z0 ?_
  try simp only [Zn, Zj]
  have hz3 := Option.some.inj hz3; subst hz3
  refine And.intro rfl (Fit2.of (Zl hU rfl rfl ?_) (by omega))
  simp only [push_cast, seval, ↓reduceIte, Za, hN0, hN]
 refine Zo ?_
 refine Zs [1, 2, 3, 7] (Zc Zd [] ?_)
 simp only [push_cast, seval, ↓reduceIte, Za, hN0, hN]
 refine Zm [1, 2, 3, 7] [true] ?_
 simp only [push_cast, seval, ↓reduceIte]
 obtain ⟨z10, hz10, h⟩ := bC h
 refine Yv (E' := ⟨107, [], [(1, .val (.int .i64 a1)), (2, .val (.int .i64 z10)), (3, .ref n 0)]⟩) (O' := (Zu O n [some ⟨false, 30, 11, 1, (Zg a0)⟩])) (n0 := (n + 1)) ?_ ?_
 ·refine Y7 hz10 (fun s0_ => ⟨107, [], [(1, .val (.int .i64 a1)), (2, .val (.int .i64 s0_.1)), (3, .ref n 0), (7, .val (.int .i64 s0_.2))]⟩) (fun s0_ => (Zu O n [some ⟨false, 30, 11, 1, (Zg a0)⟩])) (fun z10 => JX 0 n (⟨107, [], [(1, .val (.int .i64 a1)), (2, .val (.int .i64 z10)), (3, .ref n 0)]⟩ : Env) (Zu O n [some ⟨false, 30, 11, 1, (Zg a0)⟩]) (n + 1)) ?_
  intro s0_ x0_ hs0_
  unfold Qb at hs0_
  try dsimp only
  refine Zo ?_
  refine Zs [1, 2, 3, 7, 44] (Zc Zd [none, none] ?_)
  simp only [push_cast, seval, ↓reduceIte, Za, hN0, hN]
  repeat (with_reducible refine And.intro (by first | (intro h0; simp only [h0, and_self]; done) | (intro h0; simp only [h0, Bool.not_false, Bool.not_true, Bool.true_and, Bool.and_true, true_and, and_true, and_self, imp_self, implies_true, bne_iff_ne, ne_eq, beq_iff_eq]; done) | (intros; simp_all; done) | exact True.intro) ?_)
  refine Zt (t := (cond (decide (s0_.2 < (a0.Kids.length : Int))) (decide (0 ≤ s0_.1)) false)) rfl (fun c9 => ?_) (fun c9 => ?_)
  ·replace hs0_ := Zx c9 hs0_
   refine Z0 ?_
   try simp only [Zn, Zj]
   refine Zm [1, 2, 3, 7] [true] ?_
   simp only [push_cast, seval, ↓reduceIte]
   refine Zo ?_
   refine Ys ?_
   obtain ⟨x6, hx6, ax6, bx6, cx6, hs0_⟩ := bE (f := Zk) Zlm (fun _ => rfl) (by decide) hs0_
   have g7 := Zc8 (f := Zk) (off := 1) (sz := 12) Zpv (fun _ => rfl) (by decide) (by decide) hx6
   obtain ⟨y8, hy8, hs0_⟩ := bC hs0_
   refine Zc Zd [] ?_
   simp only [push_cast, Nat.reduceAdd, Nat.reduceSub, Nat.reduceMul, Nat.reduceLeDiff, Nat.reduceLT, Nat.reduceEqDiff, ↓reduceIte, reduceCtorEq, Int.reduceBEq, Int.reduceBNe, Nat.reduceBEq, Int.reduceLE, Int.reduceLT, Int.reduceEq, Int.reduceNe, Int.reduceNeg, Nat.reduceDiv, Nat.reduceMod, Nat.reducePow, Za, ax6, bx6, cx6, g7, hN0, hN]
   refine (Zd4 hy8).then ?_
   simp only [push_cast, Nat.reduceAdd, Nat.reduceSub, Nat.reduceMul, Nat.reduceLeDiff, Nat.reduceLT, Nat.reduceEqDiff, ↓reduceIte, reduceCtorEq, Int.reduceBEq, Int.reduceBNe, Nat.reduceBEq, Int.reduceLE, Int.reduceLT, Int.reduceEq, Int.reduceNe, Int.reduceNeg, Nat.reduceDiv, Nat.reduceMod, Nat.reducePow, Za, ax6, bx6, cx6, g7, hN0, hN]
   refine Zm [1, 2, 3, 7] [true] ?_
   simp only [push_cast, seval, ↓reduceIte]
   refine Zc Zd [] ?_
   simp only [push_cast, seval, ↓reduceIte, Za, hN0, hN]
   have hs0_ := Option.some.inj hs0_; subst hs0_
   refine And.intro rfl (Fit2.of (Zl hU rfl rfl ?_) (by omega))
   simp only [push_cast, seval, ↓reduceIte, Za, hN0, hN]
  replace hs0_ := Zw c9 hs0_
  refine Xs ?_
  try simp only [Zn, Zj, ↓reduceIte, Nat.reduceEqDiff]
  have hs0_ := Option.some.inj hs0_; subst hs0_
  refine And.intro (fun h => by cases h) (And.intro rfl (Fit2.of (Zl hU rfl rfl ?_) (by omega)))
  simp only [push_cast, seval, ↓reduceIte, Za, hN0, hN]
 try simp only [Zn, Zj, ↓reduceIte, Nat.reduceEqDiff]
 refine Zm [1, 2, 3] [true] ?_
 simp only [push_cast, seval, ↓reduceIte]
 refine Zo ?_
 refine Zs [1, 2, 3, 8] (Zc Zd [] ?_)
 simp only [push_cast, seval, ↓reduceIte, Za, hN0, hN]
 refine Zm [1, 2, 3, 8] [true] ?_
 simp only [push_cast, seval, ↓reduceIte]
 obtain ⟨z27, hz27, h⟩ := bC h
 refine Yv (E' := ⟨107, [], [(2, .val (.int .i64 z27))]⟩) (O' := (Zu O n [none])) (n0 := (n + 1)) ?_ ?_
 ·refine Y7 hz27 (fun s1_ => ⟨107, [], [(1, .val (.int .i64 a1)), (2, .val (.int .i64 s1_.1)), (3, .ref n 0), (8, .val (.int .i64 s1_.2))]⟩) (fun s1_ => (Zu O n [some ⟨false, 30, 11, 1, (Zg a0)⟩])) (fun z27 => JX 2 n (⟨107, [], [(2, .val (.int .i64 z27))]⟩ : Env) (Zu O n [none]) (n + 1)) ?_
  intro s1_ x1_ hs1_
  unfold Qc at hs1_
  try dsimp only
  refine Zo ?_
  refine Zs [1, 2, 3, 8, 65] (Zc Zd [none, none] ?_)
  simp only [push_cast, seval, ↓reduceIte, Za, hN0, hN]
  repeat (with_reducible refine And.intro (by first | (intro h0; simp only [h0, and_self]; done) | (intro h0; simp only [h0, Bool.not_false, Bool.not_true, Bool.true_and, Bool.and_true, true_and, and_true, and_self, imp_self, implies_true, bne_iff_ne, ne_eq, beq_iff_eq]; done) | (intros; simp_all; done) | exact True.intro) ?_)
  refine Zt (t := (cond (decide (s1_.2 < (a0.Ops.length : Int))) (decide (0 ≤ s1_.1)) false)) rfl (fun c26 => ?_) (fun c26 => ?_)
  ·replace hs1_ := Zx c26 hs1_
   refine Z0 ?_
   try simp only [Zn, Zj]
   refine Zm [1, 2, 3, 8] [true] ?_
   simp only [push_cast, seval, ↓reduceIte]
   obtain ⟨z11, hz11, hs1_⟩ := bC hs1_
   refine Y5 (E' := ⟨107, [], [(1, .val (.int .i64 a1)), (2, .val (.int .i64 z11)), (3, .ref n 0), (8, .val (.int .i64 s1_.2))]⟩) (O' := (Zu O n [some ⟨false, 30, 11, 1, (Zg a0)⟩])) (n0 := (n + 1)) ?_ ?_
   ·refine Ys ?_
    refine Zo ?_
    refine Zs [1, 2, 3, 8, 9] (Zc Zd [] ?_)
    simp only [push_cast, seval, ↓reduceIte, Za, hN0, hN]
    refine Zm [1, 2, 3, 8, 9] [true] ?_
    simp only [push_cast, seval, ↓reduceIte]
    obtain ⟨z21, hz21, hz11⟩ := bC hz11
    refine Yv (E' := ⟨107, [], [(1, .val (.int .i64 a1)), (2, .val (.int .i64 z21)), (3, .ref n 0), (8, .val (.int .i64 s1_.2))]⟩) (O' := (Zu O n [some ⟨false, 30, 11, 1, (Zg a0)⟩])) (n0 := (n + 1)) ?_ ?_
    ·refine Y7 hz21 (fun s2_ => ⟨107, [], [(1, .val (.int .i64 a1)), (2, .val (.int .i64 s2_.1)), (3, .ref n 0), (8, .val (.int .i64 s1_.2)), (9, .val (.int .i64 s2_.2))]⟩) (fun s2_ => (Zu O n [some ⟨false, 30, 11, 1, (Zg a0)⟩])) (fun z21 => JX 4 n (⟨107, [], [(1, .val (.int .i64 a1)), (2, .val (.int .i64 z21)), (3, .ref n 0), (8, .val (.int .i64 s1_.2))]⟩ : Env) (Zu O n [some ⟨false, 30, 11, 1, (Zg a0)⟩]) (n + 1)) ?_
     intro s2_ x2_ hs2_
     unfold Kg at hs2_
     try dsimp only
     refine Zo ?_
     obtain ⟨x14, hx14, ax14, bx14, cx14, hs2_⟩ := bE (f := Zf) Zc5 (fun _ => rfl) (by decide) hs2_
     have g15 := Zc8 (f := Zf) (off := 2) (sz := 14) Zv5 (fun _ => rfl) (by decide) (by decide) hx14
     refine Zs [1, 2, 3, 8, 9, 80] (Zc Zd [none, none] ?_)
     simp only [push_cast, Nat.reduceAdd, Nat.reduceSub, Nat.reduceMul, Nat.reduceLeDiff, Nat.reduceLT, Nat.reduceEqDiff, ↓reduceIte, reduceCtorEq, Int.reduceBEq, Int.reduceBNe, Nat.reduceBEq, Int.reduceLE, Int.reduceLT, Int.reduceEq, Int.reduceNe, Int.reduceNeg, Nat.reduceDiv, Nat.reduceMod, Nat.reducePow, Za, ax14, bx14, cx14, g15, hN0, hN]
     repeat (with_reducible refine And.intro (by first | (intro h0; simp only [h0, and_self]; done) | (intro h0; simp only [h0, Bool.not_false, Bool.not_true, Bool.true_and, Bool.and_true, true_and, and_true, and_self, imp_self, implies_true, bne_iff_ne, ne_eq, beq_iff_eq]; done) | (intros; simp_all; done) | exact True.intro) ?_)
     refine Zt (t := (cond (decide (s2_.2 < (x14.L.length : Int))) (decide (0 ≤ s2_.1)) false)) rfl (fun c20 => ?_) (fun c20 => ?_)
     ·replace hs2_ := Zx c20 hs2_
      refine Z0 ?_
      try simp only [Zn, Zj]
      refine Zm [1, 2, 3, 8, 9] [true] ?_
      simp only [push_cast, seval, ↓reduceIte]
      refine Zo ?_
      refine Ys ?_
      obtain ⟨x16, hx16, ax16, bx16, cx16, hs2_⟩ := bE (f := Zf) Zc5 (fun _ => rfl) (by decide) hs2_
      have g17 := Zc8 (f := Zf) (off := 2) (sz := 14) Zv5 (fun _ => rfl) (by decide) (by decide) hx16
      obtain ⟨x18, hx18, ax18, bx18, cx18, hs2_⟩ := bE (f := Zb) Vs (fun _ => rfl) (by decide) hs2_
      obtain ⟨y19, hy19, hs2_⟩ := bC hs2_
      refine Zc Zd [] ?_
      simp only [push_cast, Nat.reduceAdd, Nat.reduceSub, Nat.reduceMul, Nat.reduceLeDiff, Nat.reduceLT, Nat.reduceEqDiff, ↓reduceIte, reduceCtorEq, Int.reduceBEq, Int.reduceBNe, Nat.reduceBEq, Int.reduceLE, Int.reduceLT, Int.reduceEq, Int.reduceNe, Int.reduceNeg, Nat.reduceDiv, Nat.reduceMod, Nat.reducePow, Za, ax16, bx16, cx16, g17, ax18, bx18, cx18, hN0, hN]
      refine (Vt hy19).then ?_
      simp only [push_cast, Nat.reduceAdd, Nat.reduceSub, Nat.reduceMul, Nat.reduceLeDiff, Nat.reduceLT, Nat.reduceEqDiff, ↓reduceIte, reduceCtorEq, Int.reduceBEq, Int.reduceBNe, Nat.reduceBEq, Int.reduceLE, Int.reduceLT, Int.reduceEq, Int.reduceNe, Int.reduceNeg, Nat.reduceDiv, Nat.reduceMod, Nat.reducePow, Za, ax16, bx16, cx16, g17, ax18, bx18, cx18, hN0, hN]
      refine Zm [1, 2, 3, 8, 9] [true] ?_
      simp only [push_cast, seval, ↓reduceIte]
      refine Zc Zd [] ?_
      simp only [push_cast, seval, ↓reduceIte, Za, hN0, hN]
      have hs2_ := Option.some.inj hs2_; subst hs2_
      refine And.intro rfl (Fit2.of (Zl hU rfl rfl ?_) (by omega))
      simp only [push_cast, seval, ↓reduceIte, Za, hN0, hN]
     replace hs2_ := Zw c20 hs2_
     refine Xs ?_
     try simp only [Zn, Zj, ↓reduceIte, Nat.reduceEqDiff]
     have hs2_ := Option.some.inj hs2_; subst hs2_
     refine And.intro (fun h => by cases h) (And.intro rfl (Fit2.of (Zl hU rfl rfl ?_) (by omega)))
     simp only [push_cast, seval, ↓reduceIte, Za, hN0, hN]
    try simp only [Zn, Zj, ↓reduceIte, Nat.reduceEqDiff]
    refine Zm [1, 2, 3, 8] [true] ?_
    simp only [push_cast, seval, ↓reduceIte]
    refine Zs [1, 2, 3, 8, 95] (Zc Zd [] ?_)
    simp only [push_cast, seval, ↓reduceIte, Za, hN0, hN]
    refine Zt (t := (decide (0 ≤ z21))) rfl (fun c25 => ?_) (fun c25 => ?_)
    ·replace hz11 := Zx c25 hz11
     obtain ⟨x22, hx22, ax22, bx22, cx22, hz11⟩ := bE (f := Zf) Zc5 (fun _ => rfl) (by decide) hz11
     have g23 := Zc8 (f := Zf) (off := 3) (sz := 14) Zpv (fun _ => rfl) (by decide) (by decide) hx22
     obtain ⟨y24, hy24, hz11⟩ := bC hz11
     refine Zc Zd [] ?_
     simp only [push_cast, Nat.reduceAdd, Nat.reduceSub, Nat.reduceMul, Nat.reduceLeDiff, Nat.reduceLT, Nat.reduceEqDiff, ↓reduceIte, reduceCtorEq, Int.reduceBEq, Int.reduceBNe, Nat.reduceBEq, Int.reduceLE, Int.reduceLT, Int.reduceEq, Int.reduceNe, Int.reduceNeg, Nat.reduceDiv, Nat.reduceMod, Nat.reducePow, Za, ax22, bx22, cx22, g23, hN0, hN]
     refine (Zd4 hy24).then ?_
     simp only [push_cast, Nat.reduceAdd, Nat.reduceSub, Nat.reduceMul, Nat.reduceLeDiff, Nat.reduceLT, Nat.reduceEqDiff, ↓reduceIte, reduceCtorEq, Int.reduceBEq, Int.reduceBNe, Nat.reduceBEq, Int.reduceLE, Int.reduceLT, Int.reduceEq, Int.reduceNe, Int.reduceNeg, Nat.reduceDiv, Nat.reduceMod, Nat.reducePow, Za, ax22, bx22, cx22, g23, hN0, hN]
     have hz11 := Option.some.inj hz11; subst hz11
     refine And.intro rfl (Fit2.of (Zl hU rfl rfl ?_) (by omega))
     simp only [push_cast, Nat.reduceAdd, Nat.reduceSub, Nat.reduceMul, Nat.reduceLeDiff, Nat.reduceLT, Nat.reduceEqDiff, ↓reduceIte, reduceCtorEq, Int.reduceBEq, Int.reduceBNe, Nat.reduceBEq, Int.reduceLE, Int.reduceLT, Int.reduceEq, Int.reduceNe, Int.reduceNeg, Nat.reduceDiv, Nat.reduceMod, Nat.reducePow, Za, ax22, bx22, cx22, g23, hN0, hN]
    replace hz11 := Zw c25 hz11
    refine Z0 ?_
    try simp only [Zn, Zj]
    have hz11 := Option.some.inj hz11; subst hz11
    refine And.intro rfl (Fit2.of (Zl hU rfl rfl ?_) (by omega))
    simp only [push_cast, seval, ↓reduceIte, Za, hN0, hN]
   refine Zc Zd [] ?_
   simp only [push_cast, seval, ↓reduceIte, Za, hN0, hN]
   have hs1_ := Option.some.inj hs1_; subst hs1_
   refine And.intro rfl (Fit2.of (Zl hU rfl rfl ?_) (by omega))
   simp only [push_cast, seval, ↓reduceIte, Za, hN0, hN]
  replace hs1_ := Zw c26 hs1_
  refine Xs ?_
  try simp only [Zn, Zj, ↓reduceIte, Nat.reduceEqDiff]
  have hs1_ := Option.some.inj hs1_; subst hs1_
  refine And.intro (fun h => by cases h) (And.intro rfl (Fit2.of (Zl hU rfl rfl ?_) (by omega)))
  simp only [push_cast, seval, ↓reduceIte, Za, hN0, hN]
 try simp only [Zn, Zj, ↓reduceIte, Nat.reduceEqDiff]
 refine Zm [2] [false] ?_
 simp only [push_cast, seval, ↓reduceIte]
 refine Zs [6] (Zc Zd [] ?_)
 simp only [push_cast, seval, ↓reduceIte, Za, hN0, hN]
 refine Z5 ?_
 try simp only [Zn, Zj]
 have h := Option.some.inj h; subst h
 refine Zy (.inr rfl) hU [.val (.int .i64 z27)] (by omega) ?_
 simp only [push_cast, seval, ↓reduceIte, Za, Try.results83, hN0, hN]
theorem Zhm : ∀ k, (∀ {a0 : S_api_Edit} {a1 : Int} {a2 : Int} {r : Int} {O : Objs} {n : Nat}, (Yh k) a0 a1 a2 = some r → GTo Try.prog 83 [.agg (Zg a0), .val (.int .i64 a1), .val (.int .i64 a2)] O n (.val (.int .i64 r)) O n) := fun k => by
 induction k with
 | zero => exact @fun a0 a1 a2 r O n h => (nomatch (show (none : Option _) = some _ from h))
 | succ k ih => exact @fun a0 a1 a2 r O n h => Zjc (ih)  h
theorem Zj4 {a0 : S_api_Edit} {a1 : Int} {a2 : Int} {r : Int} {O : Objs} {n : Nat} (h : Zcm a0 a1 a2 = some r) : GTo Try.prog 83 [.agg (Zg a0), .val (.int .i64 a1), .val (.int .i64 a2)] O n (.val (.int .i64 r)) O n := by
 obtain ⟨k, hk⟩ := Ur h
 exact (Zhm k)  hk
theorem Zco {a0 : S_api_Edit} {r : Bool} {O : Objs} {n : Nat} (h : Uu a0 = some r) : GTo Try.prog 49 [.agg (Zg a0)] O n (.val (.bool r)) O n := by
 unfold Uu at h
 refine Xc Zd Try.call49 Try.func49 rfl (Nat.le_of_ble_eq_true rfl) (Nat.le_refl _) fun hU => ?_
 have hN0 : O n = none := hU.fresh _ (Nat.le_refl _)
 have hN : ∀ k, O (n + k) = none := fun k => hU.fresh _ (Nat.le_add_right _ _)
 show W _ _ _ _ ⟨6, [], [(0, .agg (Zg a0))]⟩ (Zu O n []) _
 refine Zs [1] (Zc Zd [] ?_)
 simp only [push_cast, seval, ↓reduceIte, Za, hN0, hN]
 refine Zo ?_
 obtain ⟨y2, hy2, h⟩ := bC h
 refine Zc Zd [] ?_
 simp only [push_cast, seval, ↓reduceIte, Za, hN0, hN]
 refine (Zj4 hy2).then ?_
 simp only [push_cast, seval, ↓reduceIte, Za, hN0, hN]
 refine Zm [2] [false] ?_
 simp only [push_cast, seval, ↓reduceIte]
 refine Z5 ?_
 try simp only [Zn, Zj]
 have h := Option.some.inj h; subst h
 refine Zy (.inr rfl) hU [.val (.bool (decide (0 ≤ y2)))] (by omega) ?_
 simp only [push_cast, seval, ↓reduceIte, Za, Try.results49, hN0, hN]
theorem J7 {a0 : S_api_Tree} {r : Bool} {O : Objs} {n : Nat} (h : Qo a0 = some r) : GTo Try.prog 67 [.agg (Ze a0)] O n (.val (.bool r)) O n := by
 unfold Qo at h
 refine Xc Zd Try.call67 Try.func67 rfl (Nat.le_of_ble_eq_true rfl) (Nat.le_refl _) fun hU => ?_
 have hN0 : O n = none := hU.fresh _ (Nat.le_refl _)
 have hN : ∀ k, O (n + k) = none := fun k => hU.fresh _ (Nat.le_add_right _ _)
 show W _ _ _ _ ⟨16, [], [(0, .agg (Ze a0))]⟩ (Zu O n []) _
 refine Zs [1] (Zc Zd [] ?_)
 simp only [push_cast, seval, ↓reduceIte, Za, hN0, hN]
 refine Zs [2] (Zc Zd [none, none, none, none, none, none, none, none] ?_)
 simp only [push_cast, seval, ↓reduceIte, Za, hN0, hN]
 repeat (with_reducible refine And.intro (by first | (intro h0; simp only [h0, and_self]; done) | (intro h0; simp only [h0, Bool.not_false, Bool.not_true, Bool.true_and, Bool.and_true, true_and, and_true, and_self, imp_self, implies_true, bne_iff_ne, ne_eq, beq_iff_eq]; done) | (intros; simp_all; done) | exact True.intro) ?_)
 refine Z5 ?_
 try simp only [Zn, Zj]
 have h := Option.some.inj h; subst h
 refine Zy (.inr rfl) hU [.val (.bool (cond (a0.Kind == 0) ((IntKind.i64.wrap ((a0.Words.length : Int) + (a0.Kids.length : Int))) == 0) false))] (by omega) ?_
 simp only [push_cast, seval, ↓reduceIte, Za, Try.results67, hN0, hN]
theorem Zeg {a0 : Int} {r : (Arr Int 8)} {O : Objs} {n : Nat} (h : J4 a0 = some r) : GTo Try.prog 74 [.val (.int .u64 a0)] O n (.agg (fl (eI .u8) r.1)) O n := by
 unfold J4 at h
 refine Xc Zd Try.call74 Try.func74 rfl (Nat.le_of_ble_eq_true rfl) (Nat.le_refl _) fun hU => ?_
 have hN0 : O n = none := hU.fresh _ (Nat.le_refl _)
 have hN : ∀ k, O (n + k) = none := fun k => hU.fresh _ (Nat.le_add_right _ _)
 show W _ _ _ _ ⟨18, [], [(0, .val (.int .u64 a0))]⟩ (Zu O n []) _
 obtain ⟨y3, hy3, ey3, h⟩ := bY (f := (eI .u8)) (cs := [.val (.int .u8 0), .val (.int .u8 0), .val (.int .u8 0), .val (.int .u8 0), .val (.int .u8 0), .val (.int .u8 0), .val (.int .u8 0), .val (.int .u8 0)]) rfl h
 have g4 := congrArg (GObj.mk false 95 8 1) ey3
 refine Zs [0, 2] (Zc Zd [] ?_)
 simp only [push_cast, seval, ↓reduceIte, Za, g4, hN0, hN]
 refine Zo ?_
 obtain ⟨y9, hy9, ey9, h⟩ := bY (f := (eI .u8)) (cs := [.val (.int .u8 0), .val (.int .u8 0), .val (.int .u8 0), .val (.int .u8 0), .val (.int .u8 0), .val (.int .u8 0), .val (.int .u8 0), .val (.int .u8 0)]) rfl h
 have g10 := congrArg G.agg ey9
 have g11 := congrArg (GObj.mk false 95 8 1) ey9
 have g12 := Zgt (f := (eI .u8)) y9 y9 (fun _ => rfl)
 refine Zc Zd [] ?_
 simp only [push_cast, seval, ↓reduceIte, Za, g10, g11, g12, hN0, hN]
 refine Zm [0, 2, 3] [true, true] ?_
 simp only [push_cast, seval, ↓reduceIte]
 refine Zo ?_
 refine Zs [0, 2, 3, 4] (Zc Zd [] ?_)
 simp only [push_cast, seval, ↓reduceIte, Za, hN0, hN]
 refine Zm [0, 2, 3, 4] [true, true] ?_
 simp only [push_cast, seval, ↓reduceIte]
 obtain ⟨z18, hz18, h⟩ := bC h
 refine Yv (E' := ⟨18, [], [(2, .ref n 0), (3, .ref (n + 1) 0)]⟩) (O' := (Zu O n [some ⟨false, 95, 8, 1, fl (eI .u8) y3.1⟩, some ⟨false, 95, 8, 1, fl (eI .u8) z18.1⟩])) (n0 := (n + 2)) ?_ ?_
 ·refine Y7 hz18 (fun s0_ => ⟨18, [], [(0, .val (.int .u64 s0_.1)), (2, .ref n 0), (3, .ref (n + 1) 0), (4, .val (.int .i64 s0_.2.1))]⟩) (fun s0_ => (Zu O n [some ⟨false, 95, 8, 1, fl (eI .u8) y3.1⟩, some ⟨false, 95, 8, 1, fl (eI .u8) s0_.2.2.1⟩])) (fun z18 => JX 0 n (⟨18, [], [(2, .ref n 0), (3, .ref (n + 1) 0)]⟩ : Env) (Zu O n [some ⟨false, 95, 8, 1, fl (eI .u8) y3.1⟩, some ⟨false, 95, 8, 1, fl (eI .u8) z18.1⟩]) (n + 2)) ?_
  intro s0_ x0_ hs0_
  unfold Jx at hs0_
  try dsimp only
  refine Zo ?_
  refine Zs [0, 2, 3, 4, 7] (Zc Zd [] ?_)
  simp only [push_cast, seval, ↓reduceIte, Za, hN0, hN]
  refine Zt (t := (decide (s0_.2.1 < 8))) rfl (fun c17 => ?_) (fun c17 => ?_)
  ·replace hs0_ := Zx c17 hs0_
   refine Z0 ?_
   try simp only [Zn, Zj]
   refine Zm [0, 2, 3, 4] [true, true] ?_
   simp only [push_cast, seval, ↓reduceIte]
   refine Zo ?_
   refine Ys ?_
   refine Zo ?_
   obtain ⟨x15, hx15, ax15, bx15, cx15, hs0_⟩ := bEA (f := (eI .u8)) (b := 8) rfl Zv6 (fun _ => rfl) (by decide) hs0_
   have gu16 : Ji (fl (eI .u8) s0_.2.2.1) [.val (.int .u8 (IntKind.u8.wrap (Int.tmod s0_.1 256)))] (Int.toNat s0_.2.1 * 1) = some (fl (eI .u8) (Zb7 s0_.2.2.1 s0_.2.1 (IntKind.u8.wrap (Int.tmod s0_.1 256)))) := Zgh (f := (eI .u8)) (ti := ⟨.bool, 1, 0, [], false⟩) (x := (IntKind.u8.wrap (Int.tmod s0_.1 256))) (fun _ => rfl) (Zci hx15)
   refine Zc Zd [] ?_
   simp only [push_cast, Nat.reduceAdd, Nat.reduceSub, Nat.reduceMul, Nat.reduceLeDiff, Nat.reduceLT, Nat.reduceEqDiff, ↓reduceIte, reduceCtorEq, Int.reduceBEq, Int.reduceBNe, Nat.reduceBEq, Int.reduceLE, Int.reduceLT, Int.reduceEq, Int.reduceNe, Int.reduceNeg, Nat.reduceDiv, Nat.reduceMod, Nat.reducePow, Za, ax15, bx15, cx15, gu16, hN0, hN]
   refine Zm [0, 2, 3, 4] [true, true] ?_
   simp only [push_cast, seval, ↓reduceIte]
   refine Zc Zd [] ?_
   simp only [push_cast, seval, ↓reduceIte, Za, hN0, hN]
   refine Zm [0, 2, 3, 4] [true, true] ?_
   simp only [push_cast, seval, ↓reduceIte]
   refine Zc Zd [] ?_
   simp only [push_cast, seval, ↓reduceIte, Za, hN0, hN]
   have hs0_ := Option.some.inj hs0_; subst hs0_
   refine And.intro rfl (Fit2.of (Zl hU rfl rfl ?_) (by omega))
   simp only [push_cast, seval, ↓reduceIte, Za, hN0, hN]
  replace hs0_ := Zw c17 hs0_
  refine Xs ?_
  try simp only [Zn, Zj, ↓reduceIte, Nat.reduceEqDiff]
  have hs0_ := Option.some.inj hs0_; subst hs0_
  refine And.intro (fun h => by cases h) (And.intro rfl (Fit2.of (Zl hU rfl rfl ?_) (by omega)))
  simp only [push_cast, seval, ↓reduceIte, Za, hN0, hN]
 try simp only [Zn, Zj, ↓reduceIte, Nat.reduceEqDiff]
 refine Zm [2, 3] [true, true] ?_
 simp only [push_cast, seval, ↓reduceIte]
 refine Zo ?_
 have g21 := Zre (f := (eI .u8)) z18 Zv7 rfl (fun _ => rfl) rfl
 have g22 := Zgt (f := (eI .u8)) y3 z18 (fun _ => rfl)
 refine Zc Zd [] ?_
 simp only [push_cast, seval, ↓reduceIte, Za, g21, g22, hN0, hN]
 refine Zm [2] [true, false] ?_
 simp only [push_cast, seval, ↓reduceIte]
 refine Z5 ?_
 try simp only [Zn, Zj]
 have h := Option.some.inj h; subst h
 have gR0 := Zre (f := (eI .u8)) z18 Zv7 rfl (fun _ => rfl) rfl
 refine Zy (.inr rfl) hU [.agg (fl (eI .u8) z18.1)] (by omega) ?_
 simp only [push_cast, seval, ↓reduceIte, Za, Try.results74, hN0, hN, gR0]
theorem Zi6 {a0 : Int} {a1 : Int} {r : Bool} {O : Objs} {n : Nat} (h : Vn a0 a1 = some r) : GTo Try.prog 75 [.val (.int .u8 a0), .val (.int .i64 a1)] O n (.val (.bool r)) O n := by
 unfold Vn at h
 refine Xc Zd Try.call75 Try.func75 rfl (Nat.le_of_ble_eq_true rfl) (Nat.le_refl _) fun hU => ?_
 have hN0 : O n = none := hU.fresh _ (Nat.le_refl _)
 have hN : ∀ k, O (n + k) = none := fun k => hU.fresh _ (Nat.le_add_right _ _)
 show W _ _ _ _ ⟨16, [], [(0, .val (.int .u8 a0)), (1, .val (.int .i64 a1))]⟩ (Zu O n []) _
 refine Zs [0, 1] (Zc Zd [] ?_)
 simp only [push_cast, seval, ↓reduceIte, Za, hN0, hN]
 refine Zo ?_
 refine Zs [0, 1, 5] (Zc Zd [] ?_)
 simp only [push_cast, seval, ↓reduceIte, Za, hN0, hN]
 refine Zm [0, 1, 5] [] ?_
 simp only [push_cast, seval, ↓reduceIte]
 obtain ⟨z2, hz2, h⟩ := bC h
 refine Yv (E' := ⟨16, [], [(0, .val (.int .u8 z2))]⟩) (O' := (Zu O n [])) (n0 := n) ?_ ?_
 ·refine Y7 hz2 (fun s0_ => ⟨16, [], [(0, .val (.int .u8 s0_.1)), (1, .val (.int .i64 a1)), (5, .val (.int .i64 s0_.2))]⟩) (fun s0_ => (Zu O n [])) (fun z2 => JX 0 n (⟨16, [], [(0, .val (.int .u8 z2))]⟩ : Env) (Zu O n []) n) ?_
  intro s0_ x0_ hs0_
  unfold Qt at hs0_
  try dsimp only
  refine Zo ?_
  refine Zs [0, 1, 5, 8] (Zc Zd [] ?_)
  simp only [push_cast, seval, ↓reduceIte, Za, hN0, hN]
  refine Zt (t := (decide (s0_.2 < a1))) rfl (fun c1 => ?_) (fun c1 => ?_)
  ·replace hs0_ := Zx c1 hs0_
   refine Z0 ?_
   try simp only [Zn, Zj]
   refine Zm [0, 1, 5] [] ?_
   simp only [push_cast, seval, ↓reduceIte]
   refine Zo ?_
   refine Ys ?_
   refine Zc Zd [] ?_
   simp only [push_cast, seval, ↓reduceIte, Za, hN0, hN]
   refine Zm [0, 1, 5] [] ?_
   simp only [push_cast, seval, ↓reduceIte]
   refine Zc Zd [] ?_
   simp only [push_cast, seval, ↓reduceIte, Za, hN0, hN]
   have hs0_ := Option.some.inj hs0_; subst hs0_
   refine And.intro rfl (Fit2.of (Zl hU rfl rfl ?_) (by omega))
   simp only [push_cast, seval, ↓reduceIte, Za, hN0, hN]
  replace hs0_ := Zw c1 hs0_
  refine Xs ?_
  try simp only [Zn, Zj, ↓reduceIte, Nat.reduceEqDiff]
  have hs0_ := Option.some.inj hs0_; subst hs0_
  refine And.intro (fun h => by cases h) (And.intro rfl (Fit2.of (Zl hU rfl rfl ?_) (by omega)))
  simp only [push_cast, seval, ↓reduceIte, Za, hN0, hN]
 try simp only [Zn, Zj, ↓reduceIte, Nat.reduceEqDiff]
 refine Zm [0] [] ?_
 simp only [push_cast, seval, ↓reduceIte]
 refine Zs [4] (Zc Zd [] ?_)
 simp only [push_cast, seval, ↓reduceIte, Za, hN0, hN]
 refine Z5 ?_
 try simp only [Zn, Zj]
 have h := Option.some.inj h; subst h
 refine Zy (.inr rfl) hU [.val (.bool ((Int.tmod z2 2) == 1))] (by omega) ?_
 simp only [push_cast, seval, ↓reduceIte, Za, Try.results75, hN0, hN]
theorem Zma {a0 : (List Int)} {a1 : Int} {r : Int} {O : Objs} {n : Nat} (h : Zby a0 a1 = some r) : GTo Try.prog 76 [.sl a0.length (fl (eI .u8) a0), .val (.int .i64 a1)] O n (.val (.int .u64 r)) O n := by
 unfold Zby at h
 refine Xc Zd Try.call76 Try.func76 rfl (Nat.le_of_ble_eq_true rfl) (Nat.le_refl _) fun hU => ?_
 have hN0 : O n = none := hU.fresh _ (Nat.le_refl _)
 have hN : ∀ k, O (n + k) = none := fun k => hU.fresh _ (Nat.le_add_right _ _)
 show W _ _ _ _ ⟨22, [], [(0, .sl a0.length (fl (eI .u8) a0)), (1, .val (.int .i64 a1))]⟩ (Zu O n []) _
 refine Zs [0, 1] (Zc Zd [] ?_)
 simp only [push_cast, seval, ↓reduceIte, Za, hN0, hN]
 refine Zs [0, 1, 5] (Zc Zd [] ?_)
 simp only [push_cast, seval, ↓reduceIte, Za, hN0, hN]
 refine Zo ?_
 refine Zs [0, 1, 5, 6] (Zc Zd [] ?_)
 simp only [push_cast, seval, ↓reduceIte, Za, hN0, hN]
 refine Zm [0, 1, 5, 6] [] ?_
 simp only [push_cast, seval, ↓reduceIte]
 obtain ⟨z3, hz3, h⟩ := bC h
 refine Yv (E' := ⟨22, [], [(5, .val (.int .u64 z3))]⟩) (O' := (Zu O n [])) (n0 := n) ?_ ?_
 ·refine Y7 hz3 (fun s0_ => ⟨22, [], [(0, .sl a0.length (fl (eI .u8) a0)), (1, .val (.int .i64 a1)), (5, .val (.int .u64 s0_.1)), (6, .val (.int .i64 s0_.2))]⟩) (fun s0_ => (Zu O n [])) (fun z3 => JX 0 n (⟨22, [], [(5, .val (.int .u64 z3))]⟩ : Env) (Zu O n []) n) ?_
  intro s0_ x0_ hs0_
  unfold Vo at hs0_
  try dsimp only
  refine Zo ?_
  refine Zs [0, 1, 5, 6, 8] (Zc Zd [] ?_)
  simp only [push_cast, seval, ↓reduceIte, Za, hN0, hN]
  refine Zt (t := (decide (0 ≤ s0_.2))) rfl (fun c2 => ?_) (fun c2 => ?_)
  ·replace hs0_ := Zx c2 hs0_
   refine Z0 ?_
   try simp only [Zn, Zj]
   refine Zm [0, 1, 5, 6] [] ?_
   simp only [push_cast, seval, ↓reduceIte]
   refine Zo ?_
   refine Ys ?_
   obtain ⟨x1, hx1, ax1, bx1, cx1, hs0_⟩ := bE (f := (eI .u8)) Zv6 (fun _ => rfl) (by decide) hs0_
   refine Zc Zd [] ?_
   simp only [push_cast, Nat.reduceAdd, Nat.reduceSub, Nat.reduceMul, Nat.reduceLeDiff, Nat.reduceLT, Nat.reduceEqDiff, ↓reduceIte, reduceCtorEq, Int.reduceBEq, Int.reduceBNe, Nat.reduceBEq, Int.reduceLE, Int.reduceLT, Int.reduceEq, Int.reduceNe, Int.reduceNeg, Nat.reduceDiv, Nat.reduceMod, Nat.reducePow, Za, ax1, bx1, cx1, hN0, hN]
   refine Zm [0, 1, 5, 6] [] ?_
   simp only [push_cast, seval, ↓reduceIte]
   refine Zc Zd [] ?_
   simp only [push_cast, seval, ↓reduceIte, Za, hN0, hN]
   have hs0_ := Option.some.inj hs0_; subst hs0_
   refine And.intro rfl (Fit2.of (Zl hU rfl rfl ?_) (by omega))
   simp only [push_cast, seval, ↓reduceIte, Za, hN0, hN]
  replace hs0_ := Zw c2 hs0_
  refine Xs ?_
  try simp only [Zn, Zj, ↓reduceIte, Nat.reduceEqDiff]
  have hs0_ := Option.some.inj hs0_; subst hs0_
  refine And.intro (fun h => by cases h) (And.intro rfl (Fit2.of (Zl hU rfl rfl ?_) (by omega)))
  simp only [push_cast, seval, ↓reduceIte, Za, hN0, hN]
 try simp only [Zn, Zj, ↓reduceIte, Nat.reduceEqDiff]
 refine Zm [5] [] ?_
 simp only [push_cast, seval, ↓reduceIte]
 refine Zs [4] (Zc Zd [] ?_)
 simp only [push_cast, seval, ↓reduceIte, Za, hN0, hN]
 refine Z5 ?_
 try simp only [Zn, Zj]
 have h := Option.some.inj h; subst h
 refine Zy (.inr rfl) hU [.val (.int .u64 z3)] (by omega) ?_
 simp only [push_cast, seval, ↓reduceIte, Za, Try.results76, hN0, hN]
theorem Zk7 {a0 : Int} {a1 : Int} {a2 : Int} {r : Int} {O : Objs} {n : Nat} (h : Us a0 a1 a2 = some r) : GTo Try.prog 107 [.val (.int .u64 a0), .val (.int .u64 a1), .val (.int .u8 a2)] O n (.val (.int .u64 r)) O n := by
 unfold Us at h
 refine Xc Zd Try.call107 Try.func107 rfl (Nat.le_of_ble_eq_true rfl) (Nat.le_refl _) fun hU => ?_
 have hN0 : O n = none := hU.fresh _ (Nat.le_refl _)
 have hN : ∀ k, O (n + k) = none := fun k => hU.fresh _ (Nat.le_add_right _ _)
 show W _ _ _ _ ⟨28, [], [(0, .val (.int .u64 a0)), (1, .val (.int .u64 a1)), (2, .val (.int .u8 a2))]⟩ (Zu O n []) _
 refine Zs [0, 1, 2] (Zc Zd [] ?_)
 simp only [push_cast, seval, ↓reduceIte, Za, hN0, hN]
 refine Zo ?_
 obtain ⟨y8, hy8, h⟩ := bC h
 obtain ⟨y9, hy9, h⟩ := bC h
 obtain ⟨y10, hy10, ey10, h⟩ := bY (f := (eI .u8)) (cs := [.val (.int .u8 0), .val (.int .u8 0), .val (.int .u8 0), .val (.int .u8 0), .val (.int .u8 0), .val (.int .u8 0), .val (.int .u8 0), .val (.int .u8 0)]) rfl h
 have g11 := congrArg (GObj.mk false 95 8 1) ey10
 have g12 := congrArg (GObj.mk false 95 8 1) ey10
 have g13 := Zgt (f := (eI .u8)) y10 y8 (fun _ => rfl)
 have g14 := Zgt (f := (eI .u8)) y10 y9 (fun _ => rfl)
 refine Zc Zd [] ?_
 simp only [push_cast, seval, ↓reduceIte, Za, g11, g12, g13, g14, hN0, hN]
 refine (Zeg hy8).then ?_
 simp only [push_cast, seval, ↓reduceIte, Za, g11, g12, g13, g14, hN0, hN]
 refine (Zeg hy9).then ?_
 simp only [push_cast, seval, ↓reduceIte, Za, g11, g12, g13, g14, hN0, hN]
 refine Zm [2, 7, 8] [true, true] ?_
 simp only [push_cast, seval, ↓reduceIte]
 refine Zo ?_
 refine Zs [2, 7, 8, 9] (Zc Zd [] ?_)
 simp only [push_cast, seval, ↓reduceIte, Za, hN0, hN]
 refine Zm [2, 7, 8, 9] [true, true] ?_
 simp only [push_cast, seval, ↓reduceIte]
 obtain ⟨z23, hz23, h⟩ := bC h
 refine Yv (E' := ⟨28, [], [(7, .ref n 0)]⟩) (O' := (Zu O n [some ⟨false, 95, 8, 1, fl (eI .u8) z23.1⟩, none])) (n0 := (n + 2)) ?_ ?_
 ·refine Y7 hz23 (fun s0_ => ⟨28, [], [(2, .val (.int .u8 a2)), (7, .ref n 0), (8, .ref (n + 1) 0), (9, .val (.int .i64 s0_.1))]⟩) (fun s0_ => (Zu O n [some ⟨false, 95, 8, 1, fl (eI .u8) s0_.2.1⟩, some ⟨false, 95, 8, 1, fl (eI .u8) y9.1⟩])) (fun z23 => JX 0 n (⟨28, [], [(7, .ref n 0)]⟩ : Env) (Zu O n [some ⟨false, 95, 8, 1, fl (eI .u8) z23.1⟩, none]) (n + 2)) ?_
  intro s0_ x0_ hs0_
  unfold K1 at hs0_
  try dsimp only
  refine Zo ?_
  refine Zs [2, 7, 8, 9, 15] (Zc Zd [] ?_)
  simp only [push_cast, seval, ↓reduceIte, Za, hN0, hN]
  refine Zt (t := (decide (s0_.1 < 8))) rfl (fun c22 => ?_) (fun c22 => ?_)
  ·replace hs0_ := Zx c22 hs0_
   refine Z0 ?_
   try simp only [Zn, Zj]
   refine Zm [2, 7, 8, 9] [true, true] ?_
   simp only [push_cast, seval, ↓reduceIte]
   obtain ⟨z15, hz15, hs0_⟩ := bC hs0_
   refine Y5 (E' := ⟨28, [], [(2, .val (.int .u8 a2)), (7, .ref n 0), (8, .ref (n + 1) 0), (9, .val (.int .i64 s0_.1))]⟩) (O' := (Zu O n [some ⟨false, 95, 8, 1, fl (eI .u8) z15.1⟩, some ⟨false, 95, 8, 1, fl (eI .u8) y9.1⟩])) (n0 := (n + 2)) ?_ ?_
   ·refine Ys ?_
    refine Zo ?_
    obtain ⟨y17, hy17, hz15⟩ := bC hz15
    refine Zc Zd [] ?_
    simp only [push_cast, seval, ↓reduceIte, Za, hN0, hN]
    refine (Zi6 hy17).then ?_
    simp only [push_cast, seval, ↓reduceIte, Za, hN0, hN]
    refine Zm [2, 7, 8, 9, 20] [true, true] ?_
    simp only [push_cast, seval, ↓reduceIte]
    refine Zt (t := y17) rfl (fun c21 => ?_) (fun c21 => ?_)
    ·replace hz15 := Zx c21 hz15
     obtain ⟨x18, hx18, ax18, bx18, cx18, hz15⟩ := bEA (f := (eI .u8)) (b := 8) rfl Zv6 (fun _ => rfl) (by decide) hz15
     obtain ⟨x19, hx19, ax19, bx19, cx19, hz15⟩ := bEA (f := (eI .u8)) (b := 8) rfl Zv6 (fun _ => rfl) (by decide) hz15
     have gu20 : Ji (fl (eI .u8) s0_.2.1) [.val (.int .u8 x18)] (Int.toNat s0_.1 * 1) = some (fl (eI .u8) (Zb7 s0_.2.1 s0_.1 x18)) := Zgh (f := (eI .u8)) (ti := ⟨.bool, 1, 0, [], false⟩) (x := x18) (fun _ => rfl) (Zci hx19)
     refine Zc Zd [] ?_
     simp only [push_cast, Nat.reduceAdd, Nat.reduceSub, Nat.reduceMul, Nat.reduceLeDiff, Nat.reduceLT, Nat.reduceEqDiff, ↓reduceIte, reduceCtorEq, Int.reduceBEq, Int.reduceBNe, Nat.reduceBEq, Int.reduceLE, Int.reduceLT, Int.reduceEq, Int.reduceNe, Int.reduceNeg, Nat.reduceDiv, Nat.reduceMod, Nat.reducePow, Za, ax18, bx18, cx18, ax19, bx19, cx19, gu20, hN0, hN]
     have hz15 := Option.some.inj hz15; subst hz15
     refine And.intro rfl (Fit2.of (Zl hU rfl rfl ?_) (by omega))
     simp only [push_cast, Nat.reduceAdd, Nat.reduceSub, Nat.reduceMul, Nat.reduceLeDiff, Nat.reduceLT, Nat.reduceEqDiff, ↓reduceIte, reduceCtorEq, Int.reduceBEq, Int.reduceBNe, Nat.reduceBEq, Int.reduceLE, Int.reduceLT, Int.reduceEq, Int.reduceNe, Int.reduceNeg, Nat.reduceDiv, Nat.reduceMod, Nat.reducePow, Za, ax18, bx18, cx18, ax19, bx19, cx19, gu20, hN0, hN]
    replace hz15 := Zw c21 hz15
    refine Z0 ?_
    try simp only [Zn, Zj]
    have hz15 := Option.some.inj hz15; subst hz15
    refine And.intro rfl (Fit2.of (Zl hU rfl rfl ?_) (by omega))
    simp only [push_cast, seval, ↓reduceIte, Za, hN0, hN]
   refine Zc Zd [] ?_
   simp only [push_cast, seval, ↓reduceIte, Za, hN0, hN]
   have hs0_ := Option.some.inj hs0_; subst hs0_
   refine And.intro rfl (Fit2.of (Zl hU rfl rfl ?_) (by omega))
   simp only [push_cast, seval, ↓reduceIte, Za, hN0, hN]
  replace hs0_ := Zw c22 hs0_
  refine Xs ?_
  try simp only [Zn, Zj, ↓reduceIte, Nat.reduceEqDiff]
  have hs0_ := Option.some.inj hs0_; subst hs0_
  refine And.intro (fun h => by cases h) (And.intro rfl (Fit2.of (Zl hU rfl rfl ?_) (by omega)))
  simp only [push_cast, seval, ↓reduceIte, Za, hN0, hN]
 try simp only [Zn, Zj, ↓reduceIte, Nat.reduceEqDiff]
 refine Zm [7] [true, false] ?_
 simp only [push_cast, seval, ↓reduceIte]
 refine Zo ?_
 have g27 := Zwy (j := n) Znp Zv6 (by decide)
 have g28 := z23.2
 obtain ⟨y29, hy29, h⟩ := bC h
 refine Zc Zd [] ?_
 simp only [push_cast, seval, ↓reduceIte, Za, g27, g28, hN0, hN]
 refine GCalls.lend (Zma hy29) rfl ?_ ?_
 ·simp only [push_cast, seval, ↓reduceIte, Za, g27, g28, hN0, hN]
 simp only [push_cast, seval, ↓reduceIte, Za, g27, g28, hN0, hN]
 refine Zm [6] [false, false] ?_
 simp only [push_cast, seval, ↓reduceIte]
 refine Z5 ?_
 try simp only [Zn, Zj]
 have h := Option.some.inj h; subst h
 refine Zy (.inr rfl) hU [.val (.int .u64 y29)] (by omega) ?_
 simp only [push_cast, seval, ↓reduceIte, Za, Try.results107, hN0, hN]
theorem Zau {a0 : Int} {a1 : Int} {r : Bool} {O : Objs} {n : Nat} (h : Jn a0 a1 = some r) : GTo Try.prog 68 [.val (.int .u64 a0), .val (.int .u8 a1)] O n (.val (.bool r)) O n := by
 unfold Jn at h
 refine Xc Zd Try.call68 Try.func68 rfl (Nat.le_of_ble_eq_true rfl) (Nat.le_refl _) fun hU => ?_
 have hN0 : O n = none := hU.fresh _ (Nat.le_refl _)
 have hN : ∀ k, O (n + k) = none := fun k => hU.fresh _ (Nat.le_add_right _ _)
 show W _ _ _ _ ⟨9, [], [(0, .val (.int .u64 a0)), (1, .val (.int .u8 a1))]⟩ (Zu O n []) _
 refine Zs [0, 1] (Zc Zd [] ?_)
 simp only [push_cast, seval, ↓reduceIte, Za, hN0, hN]
 refine Zo ?_
 obtain ⟨y2, hy2, h⟩ := bC h
 refine Zc Zd [] ?_
 simp only [push_cast, seval, ↓reduceIte, Za, hN0, hN]
 refine (Zk7 hy2).then ?_
 simp only [push_cast, seval, ↓reduceIte, Za, hN0, hN]
 refine Zm [4] [] ?_
 simp only [push_cast, seval, ↓reduceIte]
 refine Z5 ?_
 try simp only [Zn, Zj]
 have h := Option.some.inj h; subst h
 refine Zy (.inr rfl) hU [.val (.bool (y2 == 0))] (by omega) ?_
 simp only [push_cast, seval, ↓reduceIte, Za, Try.results68, hN0, hN]
theorem Ze0 {a0 : S_api_Edit} {r : Bool} {O : Objs} {n : Nat} (h : Kr a0 = some r) : GTo Try.prog 108 [.agg (Zg a0)] O n (.val (.bool r)) O n := by
 unfold Kr at h
 refine Xc Zd Try.call108 Try.func108 rfl (Nat.le_of_ble_eq_true rfl) (Nat.le_refl _) fun hU => ?_
 have hN0 : O n = none := hU.fresh _ (Nat.le_refl _)
 have hN : ∀ k, O (n + k) = none := fun k => hU.fresh _ (Nat.le_add_right _ _)
 show W _ _ _ _ ⟨35, [], [(0, .agg (Zg a0))]⟩ (Zu O n []) _
 refine Zs [1] (Zc Zd [] ?_)
 simp only [push_cast, seval, ↓reduceIte, Za, hN0, hN]
 obtain ⟨z3, hz3, h⟩ := bC h
 refine Y5 (E' := ⟨35, [], [(2, .val (.bool z3))]⟩) (O' := (Zu O n [none])) (n0 := (n + 1)) ?_ ?_
 ·rcases Bool.eq_false_or_eq_true (a0.Kind == 0) with c8 | c8
  ·replace hz3 := Zx c8 hz3
   obtain ⟨y6, hy6, hz3⟩ := bC hz3
   rcases Bool.eq_false_or_eq_true y6 with c9 | c9
   ·replace hz3 := Zx c9 hz3
    try rw [c9] at c8
    obtain ⟨y7, hy7, hz3⟩ := bC hz3
    refine Zc Zd [some true, some true, some true, some true, some true, some true, none, none, none, none, none, none, none, none, none, none, none, none, none, none, none] ?_
    simp only [push_cast, seval, ↓reduceIte, Za, c8, c9, hN0, hN]
    repeat (with_reducible refine And.intro (by first | (intro h0; simp only [h0, and_self]; done) | (intro h0; simp only [h0, Bool.not_false, Bool.not_true, Bool.true_and, Bool.and_true, true_and, and_true, and_self, imp_self, implies_true, bne_iff_ne, ne_eq, beq_iff_eq]; done) | (intros; simp_all; done) | exact True.intro) ?_)
    refine (J7 hy6).then ?_
    simp only [push_cast, seval, ↓reduceIte, Za, c8, c9, hN0, hN]
    repeat (with_reducible refine And.intro (by first | (intro h0; simp only [h0, and_self]; done) | (intro h0; simp only [h0, Bool.not_false, Bool.not_true, Bool.true_and, Bool.and_true, true_and, and_true, and_self, imp_self, implies_true, bne_iff_ne, ne_eq, beq_iff_eq]; done) | (intros; simp_all; done) | exact True.intro) ?_)
    refine (J7 hy7).then ?_
    simp only [push_cast, seval, ↓reduceIte, Za, c8, c9, hN0, hN]
    repeat (with_reducible refine And.intro (by first | (intro h0; simp only [h0, and_self]; done) | (intro h0; simp only [h0, Bool.not_false, Bool.not_true, Bool.true_and, Bool.and_true, true_and, and_true, and_self, imp_self, implies_true, bne_iff_ne, ne_eq, beq_iff_eq]; done) | (intros; simp_all; done) | exact True.intro) ?_)
    have hz3 := Option.some.inj hz3; subst hz3
    refine And.intro rfl (Fit2.of (Zl hU rfl rfl ?_) (by omega))
    simp only [push_cast, seval, ↓reduceIte, Za, c8, c9, hN0, hN]
   replace hz3 := Zw c9 hz3
   try rw [c9] at c8
   refine Zc Zd [some true, some true, some true, some false, some false, some false, some false, some false, some false, some false, some false, some false, some false, some false, some false, some false, some false, some false, some false, some false, some false] ?_
   simp only [push_cast, seval, ↓reduceIte, Za, c8, c9, hN0, hN]
   refine (J7 hy6).then ?_
   simp only [push_cast, seval, ↓reduceIte, Za, c8, c9, hN0, hN]
   have hz3 := Option.some.inj hz3; subst hz3
   refine And.intro rfl (Fit2.of (Zl hU rfl rfl ?_) (by omega))
   simp only [push_cast, seval, ↓reduceIte, Za, c8, c9, hN0, hN]
  replace hz3 := Zw c8 hz3
  refine Zc Zd [some false, some false, some false, some false, some false, some false, some false, some false, some false, some false, some false, some false, some false, some false, some false, some false, some false, some false, some false, some false, some false] ?_
  simp only [push_cast, seval, ↓reduceIte, Za, c8, hN0, hN]
  have hz3 := Option.some.inj hz3; subst hz3
  refine And.intro rfl (Fit2.of (Zl hU rfl rfl ?_) (by omega))
  simp only [push_cast, seval, ↓reduceIte, Za, c8, hN0, hN]
 refine Z5 ?_
 try simp only [Zn, Zj]
 have h := Option.some.inj h; subst h
 refine Zy (.inr rfl) hU [.val (.bool z3)] (by omega) ?_
 simp only [push_cast, seval, ↓reduceIte, Za, Try.results108, hN0, hN]
theorem Zc2 {a0 : S_api_Edit} {r : (Int × Int)} {O : Objs} {n : Nat} (h : Q3 a0 = some r) : GTo Try.prog 70 [.agg (Zg a0)] O n (.tup [.val (.int .i64 r.1), .val (.int .i64 r.2)]) O n := by
 unfold Q3 at h
 refine Xc Zd Try.call70 Try.func70 rfl (Nat.le_of_ble_eq_true rfl) (Nat.le_refl _) fun hU => ?_
 have hN0 : O n = none := hU.fresh _ (Nat.le_refl _)
 have hN : ∀ k, O (n + k) = none := fun k => hU.fresh _ (Nat.le_add_right _ _)
 show W _ _ _ _ ⟨48, [], [(0, .agg (Zg a0))]⟩ (Zu O n []) _
 refine Zs [1] (Zc Zd [] ?_)
 simp only [push_cast, seval, ↓reduceIte, Za, hN0, hN]
 refine Zs [1, 4, 5] (Zc Zd [] ?_)
 simp only [push_cast, seval, ↓reduceIte, Za, hN0, hN]
 refine Zo ?_
 refine Zs [1, 4, 5, 6] (Zc Zd [] ?_)
 simp only [push_cast, seval, ↓reduceIte, Za, hN0, hN]
 refine Zm [1, 4, 5, 6] [true] ?_
 simp only [push_cast, seval, ↓reduceIte]
 obtain ⟨z14, hz14, h⟩ := bC h
 refine Yv (E' := ⟨48, [], [(4, .val (.int .i64 z14.1)), (5, .val (.int .i64 z14.2))]⟩) (O' := (Zu O n [none])) (n0 := (n + 1)) ?_ ?_
 ·refine Y7 hz14 (fun s0_ => ⟨48, [], [(1, .ref n 0), (4, .val (.int .i64 s0_.1)), (5, .val (.int .i64 s0_.2.1)), (6, .val (.int .i64 s0_.2.2))]⟩) (fun s0_ => (Zu O n [some ⟨false, 30, 11, 1, (Zg a0)⟩])) (fun z14 => JX 0 n (⟨48, [], [(4, .val (.int .i64 z14.1)), (5, .val (.int .i64 z14.2))]⟩ : Env) (Zu O n [none]) (n + 1)) ?_
  intro s0_ x0_ hs0_
  unfold Q4 at hs0_
  try dsimp only
  refine Zo ?_
  refine Zs [1, 4, 5, 6, 13] (Zc Zd [] ?_)
  simp only [push_cast, seval, ↓reduceIte, Za, hN0, hN]
  refine Zt (t := (decide (s0_.2.2 < (a0.Ops.length : Int)))) rfl (fun c13 => ?_) (fun c13 => ?_)
  ·replace hs0_ := Zx c13 hs0_
   refine Z0 ?_
   try simp only [Zn, Zj]
   refine Zm [1, 4, 5, 6] [true] ?_
   simp only [push_cast, seval, ↓reduceIte]
   obtain ⟨z1, hz1, hs0_⟩ := bC hs0_
   refine Y5 (E' := ⟨48, [], [(1, .ref n 0), (4, .val (.int .i64 z1.1)), (5, .val (.int .i64 z1.2)), (6, .val (.int .i64 s0_.2.2))]⟩) (O' := (Zu O n [some ⟨false, 30, 11, 1, (Zg a0)⟩, none])) (n0 := (n + 2)) ?_ ?_
   ·refine Ys ?_
    refine Zo ?_
    obtain ⟨x3, hx3, ax3, bx3, cx3, hz1⟩ := bE (f := Zf) Zc5 (fun _ => rfl) (by decide) hz1
    refine Zc Zd [] ?_
    simp only [push_cast, Nat.reduceAdd, Nat.reduceSub, Nat.reduceMul, Nat.reduceLeDiff, Nat.reduceLT, Nat.reduceEqDiff, ↓reduceIte, reduceCtorEq, Int.reduceBEq, Int.reduceBNe, Nat.reduceBEq, Int.reduceLE, Int.reduceLT, Int.reduceEq, Int.reduceNe, Int.reduceNeg, Nat.reduceDiv, Nat.reduceMod, Nat.reducePow, Za, ax3, bx3, cx3, hN0, hN]
    refine Zm [1, 4, 5, 6, 7] [true, true] ?_
    simp only [push_cast, seval, ↓reduceIte]
    refine Zs [1, 4, 5, 6, 7, 8] (Zc Zd [] ?_)
    simp only [push_cast, seval, ↓reduceIte, Za, hN0, hN]
    obtain ⟨z4, hz4, hz1⟩ := bC hz1
    refine Y5 (E' := ⟨48, [], [(1, .ref n 0), (4, .val (.int .i64 s0_.1)), (5, .val (.int .i64 s0_.2.1)), (6, .val (.int .i64 s0_.2.2)), (7, .ref (n + 1) 0), (8, .val (.int .i64 z4))]⟩) (O' := (Zu O n [some ⟨false, 30, 11, 1, (Zg a0)⟩, some ⟨false, 69, 14, 1, (Ym x3)⟩])) (n0 := (n + 2)) ?_ ?_
    ·refine Zs [1, 4, 5, 6, 7, 8, 29] (Zc Zd [] ?_)
     simp only [push_cast, seval, ↓reduceIte, Za, hN0, hN]
     refine Zt (t := (x3.Kind == 3)) rfl (fun c5 => ?_) (fun c5 => ?_)
     ·replace hz4 := Zx c5 hz4
      refine Zc Zd [] ?_
      simp only [push_cast, seval, ↓reduceIte, Za, hN0, hN]
      have hz4 := Option.some.inj hz4; subst hz4
      refine And.intro rfl (Fit2.of (Zl hU rfl rfl ?_) (by omega))
      simp only [push_cast, seval, ↓reduceIte, Za, hN0, hN]
     replace hz4 := Zw c5 hz4
     refine Z0 ?_
     try simp only [Zn, Zj]
     have hz4 := Option.some.inj hz4; subst hz4
     refine And.intro rfl (Fit2.of (Zl hU rfl rfl ?_) (by omega))
     simp only [push_cast, seval, ↓reduceIte, Za, hN0, hN]
    obtain ⟨z6, hz6, hz1⟩ := bC hz1
    refine Y5 (E' := ⟨48, [], [(1, .ref n 0), (4, .val (.int .i64 z6)), (5, .val (.int .i64 s0_.2.1)), (6, .val (.int .i64 s0_.2.2)), (7, .ref (n + 1) 0), (8, .val (.int .i64 z4))]⟩) (O' := (Zu O n [some ⟨false, 30, 11, 1, (Zg a0)⟩, some ⟨false, 69, 14, 1, (Ym x3)⟩])) (n0 := (n + 2)) ?_ ?_
    ·refine Zs [1, 4, 5, 6, 7, 8, 32] (Zc Zd [] ?_)
     simp only [push_cast, seval, ↓reduceIte, Za, hN0, hN]
     refine Zt (t := (x3.Kind != 2)) rfl (fun c7 => ?_) (fun c7 => ?_)
     ·replace hz6 := Zx c7 hz6
      refine Zc Zd [] ?_
      simp only [push_cast, seval, ↓reduceIte, Za, hN0, hN]
      have hz6 := Option.some.inj hz6; subst hz6
      refine And.intro rfl (Fit2.of (Zl hU rfl rfl ?_) (by omega))
      simp only [push_cast, seval, ↓reduceIte, Za, hN0, hN]
     replace hz6 := Zw c7 hz6
     refine Z0 ?_
     try simp only [Zn, Zj]
     have hz6 := Option.some.inj hz6; subst hz6
     refine And.intro rfl (Fit2.of (Zl hU rfl rfl ?_) (by omega))
     simp only [push_cast, seval, ↓reduceIte, Za, hN0, hN]
    obtain ⟨z8, hz8, hz1⟩ := bC hz1
    refine Y5 (E' := ⟨48, [], [(1, .ref n 0), (4, .val (.int .i64 z6)), (5, .val (.int .i64 z8)), (6, .val (.int .i64 s0_.2.2))]⟩) (O' := (Zu O n [some ⟨false, 30, 11, 1, (Zg a0)⟩, none])) (n0 := (n + 2)) ?_ ?_
    ·refine Zs [1, 4, 5, 6, 8, 38] (Zc Zd [] ?_)
     simp only [push_cast, seval, ↓reduceIte, Za, hN0, hN]
     refine Zt (t := (x3.Kind != 1)) rfl (fun c9 => ?_) (fun c9 => ?_)
     ·replace hz8 := Zx c9 hz8
      refine Zc Zd [] ?_
      simp only [push_cast, seval, ↓reduceIte, Za, hN0, hN]
      have hz8 := Option.some.inj hz8; subst hz8
      refine And.intro rfl (Fit2.of (Zl hU rfl rfl ?_) (by omega))
      simp only [push_cast, seval, ↓reduceIte, Za, hN0, hN]
     replace hz8 := Zw c9 hz8
     refine Z0 ?_
     try simp only [Zn, Zj]
     have hz8 := Option.some.inj hz8; subst hz8
     refine And.intro rfl (Fit2.of (Zl hU rfl rfl ?_) (by omega))
     simp only [push_cast, seval, ↓reduceIte, Za, hN0, hN]
    obtain ⟨z10, hz10, hz1⟩ := bC hz1
    refine Y5 (E' := ⟨48, [], [(1, .ref n 0), (4, .val (.int .i64 z10)), (5, .val (.int .i64 z8)), (6, .val (.int .i64 s0_.2.2))]⟩) (O' := (Zu O n [some ⟨false, 30, 11, 1, (Zg a0)⟩, none])) (n0 := (n + 2)) ?_ ?_
    ·refine Zs [1, 4, 5, 6, 43] (Zc Zd [] ?_)
     simp only [push_cast, seval, ↓reduceIte, Za, hN0, hN]
     refine Zt (t := (decide (1048576 < z6))) rfl (fun c11 => ?_) (fun c11 => ?_)
     ·replace hz10 := Zx c11 hz10
      refine Zc Zd [] ?_
      simp only [push_cast, seval, ↓reduceIte, Za, hN0, hN]
      have hz10 := Option.some.inj hz10; subst hz10
      refine And.intro rfl (Fit2.of (Zl hU rfl rfl ?_) (by omega))
      simp only [push_cast, seval, ↓reduceIte, Za, hN0, hN]
     replace hz10 := Zw c11 hz10
     refine Z0 ?_
     try simp only [Zn, Zj]
     have hz10 := Option.some.inj hz10; subst hz10
     refine And.intro rfl (Fit2.of (Zl hU rfl rfl ?_) (by omega))
     simp only [push_cast, seval, ↓reduceIte, Za, hN0, hN]
    refine Zs [1, 4, 5, 6, 45] (Zc Zd [] ?_)
    simp only [push_cast, seval, ↓reduceIte, Za, hN0, hN]
    refine Zt (t := (decide (1048576 < z8))) rfl (fun c12 => ?_) (fun c12 => ?_)
    ·replace hz1 := Zx c12 hz1
     refine Zc Zd [] ?_
     simp only [push_cast, seval, ↓reduceIte, Za, hN0, hN]
     have hz1 := Option.some.inj hz1; subst hz1
     refine And.intro rfl (Fit2.of (Zl hU rfl rfl ?_) (by omega))
     simp only [push_cast, seval, ↓reduceIte, Za, hN0, hN]
    replace hz1 := Zw c12 hz1
    refine Z0 ?_
    try simp only [Zn, Zj]
    have hz1 := Option.some.inj hz1; subst hz1
    refine And.intro rfl (Fit2.of (Zl hU rfl rfl ?_) (by omega))
    simp only [push_cast, seval, ↓reduceIte, Za, hN0, hN]
   refine Zc Zd [] ?_
   simp only [push_cast, seval, ↓reduceIte, Za, hN0, hN]
   have hs0_ := Option.some.inj hs0_; subst hs0_
   refine And.intro rfl (Fit2.of (Zl hU rfl rfl ?_) (by omega))
   simp only [push_cast, seval, ↓reduceIte, Za, hN0, hN]
  replace hs0_ := Zw c13 hs0_
  refine Xs ?_
  try simp only [Zn, Zj, ↓reduceIte, Nat.reduceEqDiff]
  have hs0_ := Option.some.inj hs0_; subst hs0_
  refine And.intro (fun h => by cases h) (And.intro rfl (Fit2.of (Zl hU rfl rfl ?_) (by omega)))
  simp only [push_cast, seval, ↓reduceIte, Za, hN0, hN]
 try simp only [Zn, Zj, ↓reduceIte, Nat.reduceEqDiff]
 refine Zm [4, 5] [false] ?_
 simp only [push_cast, seval, ↓reduceIte]
 refine Zs [2, 3] (Zc Zd [] ?_)
 simp only [push_cast, seval, ↓reduceIte, Za, hN0, hN]
 refine Z5 ?_
 try simp only [Zn, Zj]
 have h := Option.some.inj h; subst h
 refine Zy (.inr rfl) hU [.val (.int .i64 z14.1), .val (.int .i64 z14.2)] (by omega) ?_
 simp only [push_cast, seval, ↓reduceIte, Za, Try.results70, hN0, hN]
theorem Zh9 {Y8 : (S_api_Edit → Int → Option Bool)} {Qe : (Int → S_api_Op → Int → Option Bool)} (Gw : ∀ {a0 : S_api_Edit} {a1 : Int} {r : Bool} {O : Objs} {n : Nat}, Y8 a0 a1 = some r → GTo Try.prog 39 [.agg (Zg a0), .val (.int .i64 a1)] O n (.val (.bool r)) O n) (Ze1 : ∀ {a0 : Int} {a1 : S_api_Op} {a2 : Int} {r : Bool} {O : Objs} {n : Nat}, Qe a0 a1 a2 = some r → GTo Try.prog 69 [.val (.int .i64 a0), .agg (Ym a1), .val (.int .i64 a2)] O n (.val (.bool r)) O n) {a0 : S_api_Edit} {a1 : Int} {r : Bool} {O : Objs} {n : Nat} (h : Vd Y8 Qe a0 a1 = some r) : GTo Try.prog 39 [.agg (Zg a0), .val (.int .i64 a1)] O n (.val (.bool r)) O n := by
 unfold Vd at h
 refine Xc Zd Try.call39 Try.func39 rfl (Nat.le_of_ble_eq_true rfl) (Nat.le_refl _) fun hU => ?_
 have hN0 : O n = none := hU.fresh _ (Nat.le_refl _)
 have hN : ∀ k, O (n + k) = none := fun k => hU.fresh _ (Nat.le_add_right _ _)
 show W _ _ _ _ ⟨216, [], [(0, .agg (Zg a0)), (1, .val (.int .i64 a1))]⟩ (Zu O n []) _
 refine Zs [1, 2] (Zc Zd [] ?_)
 simp only [push_cast, seval, ↓reduceIte, Za, hN0, hN]
 refine Zo ?_
 refine Zs [1, 2, 24] (Zc Zd [none, none, none, none, none, none] ?_)
 simp only [push_cast, seval, ↓reduceIte, Za, hN0, hN]
 repeat (with_reducible refine And.intro (by first | (intro h0; simp only [h0, and_self]; done) | (intro h0; simp only [h0, Bool.not_false, Bool.not_true, Bool.true_and, Bool.and_true, true_and, and_true, and_self, imp_self, implies_true, bne_iff_ne, ne_eq, beq_iff_eq]; done) | (intros; simp_all; done) | exact True.intro) ?_)
 refine Zt (t := (cond (cond (a1 == 0) true (decide (a0.Kind < 0))) true (decide (3 < a0.Kind)))) rfl (fun c58 => ?_) (fun c58 => ?_)
 ·replace h := Zx c58 h
  refine Zs [4] (Zc Zd [] ?_)
  simp only [push_cast, seval, ↓reduceIte, Za, hN0, hN]
  refine Z5 ?_
  try simp only [Zn, Zj]
  have h := Option.some.inj h; subst h
  refine Zy (.inr rfl) hU [.val (.bool false)] (by omega) ?_
  simp only [push_cast, seval, ↓reduceIte, Za, Try.results39, hN0, hN]
 replace h := Zw c58 h
 refine Z0 ?_
 try simp only [Zn, Zj]
 refine Zm [1, 2] [true] ?_
 simp only [push_cast, seval, ↓reduceIte]
 refine Zo ?_
 obtain ⟨z3, hz3, h⟩ := bC h
 refine Y5 (E' := ⟨216, [], [(1, .val (.int .i64 a1)), (2, .ref n 0), (69, .val (.bool z3))]⟩) (O' := (Zu O n [some ⟨false, 30, 11, 1, (Zg a0)⟩])) (n0 := (n + 1)) ?_ ?_
 ·rcases Bool.eq_false_or_eq_true (a0.Kind != 1) with c8 | c8
  ·replace hz3 := Zx c8 hz3
   obtain ⟨y6, hy6, hz3⟩ := bC hz3
   rcases Bool.eq_false_or_eq_true y6 with c9 | c9
   ·replace hz3 := Zx c9 hz3
    try rw [c9] at c8
    obtain ⟨y7, hy7, hz3⟩ := bC hz3
    refine Zc Zd [some true, some true, some true, some true, some true, some true, some true, some true, some true, none, none, none, none, none, none, none, none, none, none, none, none, none, none, none, none, none, none, none, none, none, none, none, none, none, none, none] ?_
    simp only [push_cast, seval, ↓reduceIte, Za, c8, c9, hN0, hN]
    repeat (with_reducible refine And.intro (by first | (intro h0; simp only [h0, and_self]; done) | (intro h0; simp only [h0, Bool.not_false, Bool.not_true, Bool.true_and, Bool.and_true, true_and, and_true, and_self, imp_self, implies_true, bne_iff_ne, ne_eq, beq_iff_eq]; done) | (intros; simp_all; done) | exact True.intro) ?_)
    refine (J7 hy6).then ?_
    simp only [push_cast, seval, ↓reduceIte, Za, c8, c9, hN0, hN]
    repeat (with_reducible refine And.intro (by first | (intro h0; simp only [h0, and_self]; done) | (intro h0; simp only [h0, Bool.not_false, Bool.not_true, Bool.true_and, Bool.and_true, true_and, and_true, and_self, imp_self, implies_true, bne_iff_ne, ne_eq, beq_iff_eq]; done) | (intros; simp_all; done) | exact True.intro) ?_)
    refine (J7 hy7).then ?_
    simp only [push_cast, seval, ↓reduceIte, Za, c8, c9, hN0, hN]
    repeat (with_reducible refine And.intro (by first | (intro h0; simp only [h0, and_self]; done) | (intro h0; simp only [h0, Bool.not_false, Bool.not_true, Bool.true_and, Bool.and_true, true_and, and_true, and_self, imp_self, implies_true, bne_iff_ne, ne_eq, beq_iff_eq]; done) | (intros; simp_all; done) | exact True.intro) ?_)
    have hz3 := Option.some.inj hz3; subst hz3
    refine And.intro rfl (Fit2.of (Zl hU rfl rfl ?_) (by omega))
    simp only [push_cast, seval, ↓reduceIte, Za, c8, c9, hN0, hN]
   replace hz3 := Zw c9 hz3
   try rw [c9] at c8
   refine Zc Zd [some true, some true, some true, some true, some false, some false, some false, some true, some true, some false, some false, some false, some false, some false, some false, some false, some false, some false, some false, some false, some false, some false, some false, some false, some false, some false, some false, some false, some false, some false, some false, some false, some false, some false, some false, some false] ?_
   simp only [push_cast, seval, ↓reduceIte, Za, c8, c9, hN0, hN]
   refine (J7 hy6).then ?_
   simp only [push_cast, seval, ↓reduceIte, Za, c8, c9, hN0, hN]
   have hz3 := Option.some.inj hz3; subst hz3
   refine And.intro rfl (Fit2.of (Zl hU rfl rfl ?_) (by omega))
   simp only [push_cast, seval, ↓reduceIte, Za, c8, c9, hN0, hN]
  replace hz3 := Zw c8 hz3
  refine Zc Zd [some false, some false, some false, some false, some false, some false, some false, some false, some false, some true, some true, some true, some true, none, none, none, none, none, none, none, none, some true, none, none, none, none, none, none, none, none, none, none, none, none, none, none] ?_
  simp only [push_cast, seval, ↓reduceIte, Za, c8, hN0, hN]
  repeat (with_reducible refine And.intro (by first | (intro h0; simp only [h0, and_self]; done) | (intro h0; simp only [h0, Bool.not_false, Bool.not_true, Bool.true_and, Bool.and_true, true_and, and_true, and_self, imp_self, implies_true, bne_iff_ne, ne_eq, beq_iff_eq]; done) | (intros; simp_all; done) | exact True.intro) ?_)
  have hz3 := Option.some.inj hz3; subst hz3
  refine And.intro rfl (Fit2.of (Zl hU rfl rfl ?_) (by omega))
  simp only [push_cast, seval, ↓reduceIte, Za, c8, hN0, hN]
 refine Zt (t := z3) rfl (fun c57 => ?_) (fun c57 => ?_)
 ·replace h := Zx c57 h
  refine Zs [4] (Zc Zd [] ?_)
  simp only [push_cast, seval, ↓reduceIte, Za, hN0, hN]
  refine Z5 ?_
  try simp only [Zn, Zj]
  have h := Option.some.inj h; subst h
  refine Zy (.inr rfl) hU [.val (.bool false)] (by omega) ?_
  simp only [push_cast, seval, ↓reduceIte, Za, Try.results39, hN0, hN]
 replace h := Zw c57 h
 refine Z0 ?_
 try simp only [Zn, Zj]
 refine Zm [1, 2] [true] ?_
 simp only [push_cast, seval, ↓reduceIte]
 refine Zo ?_
 refine Zs [1, 2, 72] (Zc Zd [] ?_)
 simp only [push_cast, seval, ↓reduceIte, Za, hN0, hN]
 refine Zt (t := (a0.Kind == 1)) rfl (fun c56 => ?_) (fun c56 => ?_)
 ·replace h := Zx c56 h
  obtain ⟨z12, hz12, h⟩ := bC h
  refine Y5 (E' := ⟨216, [], [(4, .val (.bool z12))]⟩) (O' := (Zu O n [none])) (n0 := (n + 1)) ?_ ?_
  ·obtain ⟨y15, hy15, hz12⟩ := bC hz12
   rcases Bool.eq_false_or_eq_true y15 with c17 | c17
   ·replace hz12 := Zx c17 hz12
    obtain ⟨y16, hy16, hz12⟩ := bC hz12
    refine Zc Zd [some true, some true, some true, none, none, none, none, none, none, none, none] ?_
    simp only [push_cast, seval, ↓reduceIte, Za, c17, hN0, hN]
    repeat (with_reducible refine And.intro (by first | (intro h0; simp only [h0, and_self]; done) | (intro h0; simp only [h0, Bool.not_false, Bool.not_true, Bool.true_and, Bool.and_true, true_and, and_true, and_self, imp_self, implies_true, bne_iff_ne, ne_eq, beq_iff_eq]; done) | (intros; simp_all; done) | exact True.intro) ?_)
    refine (K3 hy15).then ?_
    simp only [push_cast, seval, ↓reduceIte, Za, c17, hN0, hN]
    repeat (with_reducible refine And.intro (by first | (intro h0; simp only [h0, and_self]; done) | (intro h0; simp only [h0, Bool.not_false, Bool.not_true, Bool.true_and, Bool.and_true, true_and, and_true, and_self, imp_self, implies_true, bne_iff_ne, ne_eq, beq_iff_eq]; done) | (intros; simp_all; done) | exact True.intro) ?_)
    refine (K3 hy16).then ?_
    simp only [push_cast, seval, ↓reduceIte, Za, c17, hN0, hN]
    repeat (with_reducible refine And.intro (by first | (intro h0; simp only [h0, and_self]; done) | (intro h0; simp only [h0, Bool.not_false, Bool.not_true, Bool.true_and, Bool.and_true, true_and, and_true, and_self, imp_self, implies_true, bne_iff_ne, ne_eq, beq_iff_eq]; done) | (intros; simp_all; done) | exact True.intro) ?_)
    have hz12 := Option.some.inj hz12; subst hz12
    refine And.intro rfl (Fit2.of (Zl hU rfl rfl ?_) (by omega))
    simp only [push_cast, seval, ↓reduceIte, Za, c17, hN0, hN]
   replace hz12 := Zw c17 hz12
   refine Zc Zd [some false, some false, some false, some false, some false, some false, some false, some false, some false, some false, some false] ?_
   simp only [push_cast, seval, ↓reduceIte, Za, c17, hN0, hN]
   refine (K3 hy15).then ?_
   simp only [push_cast, seval, ↓reduceIte, Za, c17, hN0, hN]
   have hz12 := Option.some.inj hz12; subst hz12
   refine And.intro rfl (Fit2.of (Zl hU rfl rfl ?_) (by omega))
   simp only [push_cast, seval, ↓reduceIte, Za, c17, hN0, hN]
  refine Z5 ?_
  try simp only [Zn, Zj]
  have h := Option.some.inj h; subst h
  refine Zy (.inr rfl) hU [.val (.bool z12)] (by omega) ?_
  simp only [push_cast, seval, ↓reduceIte, Za, Try.results39, hN0, hN]
 replace h := Zw c56 h
 refine Z0 ?_
 try simp only [Zn, Zj]
 refine Zm [1, 2] [true] ?_
 simp only [push_cast, seval, ↓reduceIte]
 refine Zs [1, 2, 5] (Zc Zd [] ?_)
 simp only [push_cast, seval, ↓reduceIte, Za, hN0, hN]
 refine Zo ?_
 refine Zs [1, 2, 5, 6] (Zc Zd [] ?_)
 simp only [push_cast, seval, ↓reduceIte, Za, hN0, hN]
 refine Zm [1, 2, 5, 6] [true] ?_
 simp only [push_cast, seval, ↓reduceIte]
 obtain ⟨z33, hz33, h⟩ := bC h
 refine Zcd (J := (Q2 (fun z33 => JR n (⟨216, [], [(4, .val (.bool false))]⟩ : Env) (Zu O n [none]) (n + 1)) (fun z33 => JX 0 n (⟨216, [], [(1, .val (.int .i64 a1)), (2, .ref n 0)]⟩ : Env) (Zu O n [some ⟨false, 30, 11, 1, (Zg a0)⟩]) (n + 1)))) (z := z33) ?_ fun hw => ?_
 ·refine Y7 hz33 (fun s0_ => ⟨216, [], [(1, .val (.int .i64 a1)), (2, .ref n 0), (5, .val (.int .i64 s0_.1)), (6, .val (.int .i64 s0_.2))]⟩) (fun s0_ => (Zu O n [some ⟨false, 30, 11, 1, (Zg a0)⟩])) (Q2 (fun z33 => JR n (⟨216, [], [(4, .val (.bool false))]⟩ : Env) (Zu O n [none]) (n + 1)) (fun z33 => JX 0 n (⟨216, [], [(1, .val (.int .i64 a1)), (2, .ref n 0)]⟩ : Env) (Zu O n [some ⟨false, 30, 11, 1, (Zg a0)⟩]) (n + 1))) ?_
  intro s0_ x0_ hs0_
  unfold Qr at hs0_
  try dsimp only
  refine Zo ?_
  refine Zs [1, 2, 5, 6, 97] (Zc Zd [] ?_)
  simp only [push_cast, seval, ↓reduceIte, Za, hN0, hN]
  refine Zt (t := (decide (s0_.2 < (a0.Words.length : Int)))) rfl (fun c32 => ?_) (fun c32 => ?_)
  ·replace hs0_ := Zx c32 hs0_
   refine Z0 ?_
   try simp only [Zn, Zj]
   refine Zm [1, 2, 5, 6] [true] ?_
   simp only [push_cast, seval, ↓reduceIte]
   refine Zo ?_
   refine Ys ?_
   refine Zo ?_
   obtain ⟨x19, hx19, ax19, bx19, cx19, hs0_⟩ := bE (f := Zh) Zru (fun _ => rfl) (by decide) hs0_
   refine Zc Zd [] ?_
   simp only [push_cast, Nat.reduceAdd, Nat.reduceSub, Nat.reduceMul, Nat.reduceLeDiff, Nat.reduceLT, Nat.reduceEqDiff, ↓reduceIte, reduceCtorEq, Int.reduceBEq, Int.reduceBNe, Nat.reduceBEq, Int.reduceLE, Int.reduceLT, Int.reduceEq, Int.reduceNe, Int.reduceNeg, Nat.reduceDiv, Nat.reduceMod, Nat.reducePow, Za, ax19, bx19, cx19, hN0, hN]
   refine Zm [1, 2, 5, 6, 7] [true, true] ?_
   simp only [push_cast, seval, ↓reduceIte]
   refine Zo ?_
   obtain ⟨z22, hz22, hs0_⟩ := bC hs0_
   refine Y5 (E' := ⟨216, [], [(1, .val (.int .i64 a1)), (2, .ref n 0), (6, .val (.int .i64 s0_.2)), (7, .ref (n + 1) 0), (134, .val (.bool z22))]⟩) (O' := (Zu O n [some ⟨false, 30, 11, 1, (Zg a0)⟩, some ⟨false, 58, 4, 1, (Uo x19)⟩])) (n0 := (n + 2)) ?_ ?_
   ·rcases Bool.eq_false_or_eq_true (decide (x19.At ≤ s0_.1)) with c27 | c27
    ·replace hz22 := Zx c27 hz22
     refine Zc Zd [none, none, none, none, none, none, some false, some false, some false, some false, some false, some false, some false, some false, some false, some false, some false, some false] ?_
     simp only [push_cast, seval, ↓reduceIte, Za, c27, hN0, hN]
     repeat (with_reducible refine And.intro (by first | (intro h0; simp only [h0, and_self]; done) | (intro h0; simp only [h0, Bool.not_false, Bool.not_true, Bool.true_and, Bool.and_true, true_and, and_true, and_self, imp_self, implies_true, bne_iff_ne, ne_eq, beq_iff_eq]; done) | (intros; simp_all; done) | exact True.intro) ?_)
     have hz22 := Option.some.inj hz22; subst hz22
     refine And.intro rfl (Fit2.of (Zl hU rfl rfl ?_) (by omega))
     simp only [push_cast, seval, ↓reduceIte, Za, c27, hN0, hN]
    replace hz22 := Zw c27 hz22
    rcases Bool.eq_false_or_eq_true (decide (65534 < x19.At)) with c28 | c28
    ·replace hz22 := Zx c28 hz22
     try rw [c28] at c27
     refine Zc Zd [none, none, none, none, none, none, some false, some false, some false, some false, some false, some false, some false, some false, some false, some false, some false, some false] ?_
     simp only [push_cast, seval, ↓reduceIte, Za, c27, c28, hN0, hN]
     repeat (with_reducible refine And.intro (by first | (intro h0; simp only [h0, and_self]; done) | (intro h0; simp only [h0, Bool.not_false, Bool.not_true, Bool.true_and, Bool.and_true, true_and, and_true, and_self, imp_self, implies_true, bne_iff_ne, ne_eq, beq_iff_eq]; done) | (intros; simp_all; done) | exact True.intro) ?_)
     have hz22 := Option.some.inj hz22; subst hz22
     refine And.intro rfl (Fit2.of (Zl hU rfl rfl ?_) (by omega))
     simp only [push_cast, seval, ↓reduceIte, Za, c27, c28, hN0, hN]
    replace hz22 := Zw c28 hz22
    try rw [c28] at c27
    rcases Bool.eq_false_or_eq_true (x19.Mask == 0) with c29 | c29
    ·replace hz22 := Zx c29 hz22
     try rw [c29] at c27
     try rw [c29] at c28
     refine Zc Zd [none, none, none, none, none, none, some false, some false, some false, some false, some false, some false, some false, some false, some false, some false, some false, some false] ?_
     simp only [push_cast, seval, ↓reduceIte, Za, c27, c28, c29, hN0, hN]
     repeat (with_reducible refine And.intro (by first | (intro h0; simp only [h0, and_self]; done) | (intro h0; simp only [h0, Bool.not_false, Bool.not_true, Bool.true_and, Bool.and_true, true_and, and_true, and_self, imp_self, implies_true, bne_iff_ne, ne_eq, beq_iff_eq]; done) | (intros; simp_all; done) | exact True.intro) ?_)
     have hz22 := Option.some.inj hz22; subst hz22
     refine And.intro rfl (Fit2.of (Zl hU rfl rfl ?_) (by omega))
     simp only [push_cast, seval, ↓reduceIte, Za, c27, c28, c29, hN0, hN]
    replace hz22 := Zw c29 hz22
    try rw [c29] at c27
    try rw [c29] at c28
    obtain ⟨y25, hy25, hz22⟩ := bC hz22
    rcases Bool.eq_false_or_eq_true y25 with c30 | c30
    ·replace hz22 := Zx c30 hz22
     try rw [c30] at c27
     try rw [c30] at c28
     try rw [c30] at c29
     obtain ⟨y26, hy26, hz22⟩ := bC hz22
     refine Zc Zd [none, none, none, none, none, none, some true, some true, some true, some true, some true, some true, some true, some true, some true, some true, some true, some true] ?_
     simp only [push_cast, seval, ↓reduceIte, Za, c27, c28, c29, c30, hN0, hN]
     repeat (with_reducible refine And.intro (by first | (intro h0; simp only [h0, and_self]; done) | (intro h0; simp only [h0, Bool.not_false, Bool.not_true, Bool.true_and, Bool.and_true, true_and, and_true, and_self, imp_self, implies_true, bne_iff_ne, ne_eq, beq_iff_eq]; done) | (intros; simp_all; done) | exact True.intro) ?_)
     refine (Zau hy25).then ?_
     simp only [push_cast, seval, ↓reduceIte, Za, c27, c28, c29, c30, hN0, hN]
     repeat (with_reducible refine And.intro (by first | (intro h0; simp only [h0, and_self]; done) | (intro h0; simp only [h0, Bool.not_false, Bool.not_true, Bool.true_and, Bool.and_true, true_and, and_true, and_self, imp_self, implies_true, bne_iff_ne, ne_eq, beq_iff_eq]; done) | (intros; simp_all; done) | exact True.intro) ?_)
     refine (Zau hy26).then ?_
     simp only [push_cast, seval, ↓reduceIte, Za, c27, c28, c29, c30, hN0, hN]
     repeat (with_reducible refine And.intro (by first | (intro h0; simp only [h0, and_self]; done) | (intro h0; simp only [h0, Bool.not_false, Bool.not_true, Bool.true_and, Bool.and_true, true_and, and_true, and_self, imp_self, implies_true, bne_iff_ne, ne_eq, beq_iff_eq]; done) | (intros; simp_all; done) | exact True.intro) ?_)
     have hz22 := Option.some.inj hz22; subst hz22
     refine And.intro rfl (Fit2.of (Zl hU rfl rfl ?_) (by omega))
     simp only [push_cast, seval, ↓reduceIte, Za, c27, c28, c29, c30, hN0, hN]
    replace hz22 := Zw c30 hz22
    try rw [c30] at c27
    try rw [c30] at c28
    try rw [c30] at c29
    refine Zc Zd [none, none, none, none, none, none, some true, some true, some true, some true, some true, some true, some false, some false, some false, some false, some false, some false] ?_
    simp only [push_cast, seval, ↓reduceIte, Za, c27, c28, c29, c30, hN0, hN]
    repeat (with_reducible refine And.intro (by first | (intro h0; simp only [h0, and_self]; done) | (intro h0; simp only [h0, Bool.not_false, Bool.not_true, Bool.true_and, Bool.and_true, true_and, and_true, and_self, imp_self, implies_true, bne_iff_ne, ne_eq, beq_iff_eq]; done) | (intros; simp_all; done) | exact True.intro) ?_)
    refine (Zau hy25).then ?_
    simp only [push_cast, seval, ↓reduceIte, Za, c27, c28, c29, c30, hN0, hN]
    repeat (with_reducible refine And.intro (by first | (intro h0; simp only [h0, and_self]; done) | (intro h0; simp only [h0, Bool.not_false, Bool.not_true, Bool.true_and, Bool.and_true, true_and, and_true, and_self, imp_self, implies_true, bne_iff_ne, ne_eq, beq_iff_eq]; done) | (intros; simp_all; done) | exact True.intro) ?_)
    have hz22 := Option.some.inj hz22; subst hz22
    refine And.intro rfl (Fit2.of (Zl hU rfl rfl ?_) (by omega))
    simp only [push_cast, seval, ↓reduceIte, Za, c27, c28, c29, c30, hN0, hN]
   refine Zt (t := z22) rfl (fun c31 => ?_) (fun c31 => ?_)
   ·replace hs0_ := Zx c31 hs0_
    refine Zs [4] (Zc Zd [] ?_)
    simp only [push_cast, seval, ↓reduceIte, Za, hN0, hN]
    refine Z5 ?_
    try simp only [Zn, Zj]
    have hs0_ := Option.some.inj hs0_; subst hs0_
    refine And.intro (fun h => by cases h) (And.intro rfl (Fit2.of (Zl hU rfl rfl ?_) (by omega)))
    simp only [push_cast, seval, ↓reduceIte, Za, hN0, hN]
   replace hs0_ := Zw c31 hs0_
   refine Z0 ?_
   try simp only [Zn, Zj]
   refine Zm [1, 2, 6, 7] [true, true] ?_
   simp only [push_cast, seval, ↓reduceIte]
   refine Zc Zd [] ?_
   simp only [push_cast, seval, ↓reduceIte, Za, hN0, hN]
   refine Zm [1, 2, 5, 6] [true, false] ?_
   simp only [push_cast, seval, ↓reduceIte]
   refine Zc Zd [] ?_
   simp only [push_cast, seval, ↓reduceIte, Za, hN0, hN]
   have hs0_ := Option.some.inj hs0_; subst hs0_
   refine And.intro rfl (Fit2.of (Zl hU rfl rfl ?_) (by omega))
   simp only [push_cast, seval, ↓reduceIte, Za, hN0, hN]
  replace hs0_ := Zw c32 hs0_
  refine Xs ?_
  try simp only [Zn, Zj, ↓reduceIte, Nat.reduceEqDiff]
  have hs0_ := Option.some.inj hs0_; subst hs0_
  refine And.intro (fun h => by cases h) (And.intro rfl (Fit2.of (Zl hU rfl rfl ?_) (by omega)))
  simp only [push_cast, seval, ↓reduceIte, Za, hN0, hN]
 rcases z33 with z33 | z33
 ·dsimp only [Q2] at hw h
  refine Vz hw ?_
  try simp only [Zn, Zj, ↓reduceIte, Nat.reduceEqDiff]
  have h := Option.some.inj h; subst h
  refine Zy (.inr rfl) hU [.val (.bool false)] (by omega) ?_
  simp only [push_cast, seval, ↓reduceIte, Za, Try.results39, hN0, hN]
 dsimp only [Q2] at hw h
 refine Yv hw ?_
 try simp only [Zn, Zj, ↓reduceIte, Nat.reduceEqDiff]
 refine Zm [1, 2] [true] ?_
 simp only [push_cast, seval, ↓reduceIte]
 refine Zs [1, 2, 5] (Zc Zd [] ?_)
 simp only [push_cast, seval, ↓reduceIte, Za, hN0, hN]
 refine Zo ?_
 refine Zs [1, 2, 5, 8] (Zc Zd [] ?_)
 simp only [push_cast, seval, ↓reduceIte, Za, hN0, hN]
 refine Zm [1, 2, 5, 8] [true] ?_
 simp only [push_cast, seval, ↓reduceIte]
 obtain ⟨z45, hz45, h⟩ := bC h
 refine Zcd (J := (Q2 (fun z45 => JR n (⟨216, [], [(4, .val (.bool false))]⟩ : Env) (Zu O n [none]) (n + 1)) (fun z45 => JX 2 n (⟨216, [], [(1, .val (.int .i64 a1)), (2, .ref n 0)]⟩ : Env) (Zu O n [some ⟨false, 30, 11, 1, (Zg a0)⟩]) (n + 1)))) (z := z45) ?_ fun hw => ?_
 ·refine Y7 hz45 (fun s1_ => ⟨216, [], [(1, .val (.int .i64 a1)), (2, .ref n 0), (5, .val (.int .i64 s1_.1)), (8, .val (.int .i64 s1_.2))]⟩) (fun s1_ => (Zu O n [some ⟨false, 30, 11, 1, (Zg a0)⟩])) (Q2 (fun z45 => JR n (⟨216, [], [(4, .val (.bool false))]⟩ : Env) (Zu O n [none]) (n + 1)) (fun z45 => JX 2 n (⟨216, [], [(1, .val (.int .i64 a1)), (2, .ref n 0)]⟩ : Env) (Zu O n [some ⟨false, 30, 11, 1, (Zg a0)⟩]) (n + 1))) ?_
  intro s1_ x1_ hs1_
  unfold Qs at hs1_
  try dsimp only
  refine Zo ?_
  refine Zs [1, 2, 5, 8, 141] (Zc Zd [] ?_)
  simp only [push_cast, seval, ↓reduceIte, Za, hN0, hN]
  refine Zt (t := (decide (s1_.2 < (a0.Kids.length : Int)))) rfl (fun c44 => ?_) (fun c44 => ?_)
  ·replace hs1_ := Zx c44 hs1_
   refine Z0 ?_
   try simp only [Zn, Zj]
   refine Zm [1, 2, 5, 8] [true] ?_
   simp only [push_cast, seval, ↓reduceIte]
   refine Zo ?_
   refine Ys ?_
   refine Zo ?_
   obtain ⟨x35, hx35, ax35, bx35, cx35, hs1_⟩ := bE (f := Zk) Zlm (fun _ => rfl) (by decide) hs1_
   refine Zc Zd [] ?_
   simp only [push_cast, Nat.reduceAdd, Nat.reduceSub, Nat.reduceMul, Nat.reduceLeDiff, Nat.reduceLT, Nat.reduceEqDiff, ↓reduceIte, reduceCtorEq, Int.reduceBEq, Int.reduceBNe, Nat.reduceBEq, Int.reduceLE, Int.reduceLT, Int.reduceEq, Int.reduceNe, Int.reduceNeg, Nat.reduceDiv, Nat.reduceMod, Nat.reducePow, Za, ax35, bx35, cx35, hN0, hN]
   refine Zm [1, 2, 5, 8, 9] [true, true] ?_
   simp only [push_cast, seval, ↓reduceIte]
   refine Zo ?_
   obtain ⟨z37, hz37, hs1_⟩ := bC hs1_
   refine Y5 (E' := ⟨216, [], [(1, .val (.int .i64 a1)), (2, .ref n 0), (8, .val (.int .i64 s1_.2)), (9, .ref (n + 1) 0), (171, .val (.bool z37))]⟩) (O' := (Zu O n [some ⟨false, 30, 11, 1, (Zg a0)⟩, some ⟨false, 71, 12, 1, (Zbx x35)⟩])) (n0 := (n + 2)) ?_ ?_
   ·rcases Bool.eq_false_or_eq_true (decide (x35.At ≤ s1_.1)) with c40 | c40
    ·replace hz37 := Zx c40 hz37
     refine Zc Zd [none, none, none, none, none, none, none, some false, some false, some false, some false, some false, some false] ?_
     simp only [push_cast, seval, ↓reduceIte, Za, c40, hN0, hN]
     repeat (with_reducible refine And.intro (by first | (intro h0; simp only [h0, and_self]; done) | (intro h0; simp only [h0, Bool.not_false, Bool.not_true, Bool.true_and, Bool.and_true, true_and, and_true, and_self, imp_self, implies_true, bne_iff_ne, ne_eq, beq_iff_eq]; done) | (intros; simp_all; done) | exact True.intro) ?_)
     have hz37 := Option.some.inj hz37; subst hz37
     refine And.intro rfl (Fit2.of (Zl hU rfl rfl ?_) (by omega))
     simp only [push_cast, seval, ↓reduceIte, Za, c40, hN0, hN]
    replace hz37 := Zw c40 hz37
    rcases Bool.eq_false_or_eq_true (decide (65534 < x35.At)) with c41 | c41
    ·replace hz37 := Zx c41 hz37
     try rw [c41] at c40
     refine Zc Zd [none, none, none, none, none, none, none, some false, some false, some false, some false, some false, some false] ?_
     simp only [push_cast, seval, ↓reduceIte, Za, c40, c41, hN0, hN]
     repeat (with_reducible refine And.intro (by first | (intro h0; simp only [h0, and_self]; done) | (intro h0; simp only [h0, Bool.not_false, Bool.not_true, Bool.true_and, Bool.and_true, true_and, and_true, and_self, imp_self, implies_true, bne_iff_ne, ne_eq, beq_iff_eq]; done) | (intros; simp_all; done) | exact True.intro) ?_)
     have hz37 := Option.some.inj hz37; subst hz37
     refine And.intro rfl (Fit2.of (Zl hU rfl rfl ?_) (by omega))
     simp only [push_cast, seval, ↓reduceIte, Za, c40, c41, hN0, hN]
    replace hz37 := Zw c41 hz37
    try rw [c41] at c40
    rcases Bool.eq_false_or_eq_true (x35.E.Kind == 0) with c42 | c42
    ·replace hz37 := Zx c42 hz37
     try rw [c42] at c40
     try rw [c42] at c41
     refine Zc Zd [none, none, none, none, none, none, none, some false, some false, some false, some false, some false, some false] ?_
     simp only [push_cast, seval, ↓reduceIte, Za, c40, c41, c42, hN0, hN]
     repeat (with_reducible refine And.intro (by first | (intro h0; simp only [h0, and_self]; done) | (intro h0; simp only [h0, Bool.not_false, Bool.not_true, Bool.true_and, Bool.and_true, true_and, and_true, and_self, imp_self, implies_true, bne_iff_ne, ne_eq, beq_iff_eq]; done) | (intros; simp_all; done) | exact True.intro) ?_)
     have hz37 := Option.some.inj hz37; subst hz37
     refine And.intro rfl (Fit2.of (Zl hU rfl rfl ?_) (by omega))
     simp only [push_cast, seval, ↓reduceIte, Za, c40, c41, c42, hN0, hN]
    replace hz37 := Zw c42 hz37
    try rw [c42] at c40
    try rw [c42] at c41
    obtain ⟨y39, hy39, hz37⟩ := bC hz37
    refine Zc Zd [none, none, none, none, none, none, none, some true, some true, some true, some true, some true, some true] ?_
    simp only [push_cast, seval, ↓reduceIte, Za, c40, c41, c42, hN0, hN]
    repeat (with_reducible refine And.intro (by first | (intro h0; simp only [h0, and_self]; done) | (intro h0; simp only [h0, Bool.not_false, Bool.not_true, Bool.true_and, Bool.and_true, true_and, and_true, and_self, imp_self, implies_true, bne_iff_ne, ne_eq, beq_iff_eq]; done) | (intros; simp_all; done) | exact True.intro) ?_)
    refine (Gw hy39).then ?_
    simp only [push_cast, seval, ↓reduceIte, Za, c40, c41, c42, hN0, hN]
    repeat (with_reducible refine And.intro (by first | (intro h0; simp only [h0, and_self]; done) | (intro h0; simp only [h0, Bool.not_false, Bool.not_true, Bool.true_and, Bool.and_true, true_and, and_true, and_self, imp_self, implies_true, bne_iff_ne, ne_eq, beq_iff_eq]; done) | (intros; simp_all; done) | exact True.intro) ?_)
    have hz37 := Option.some.inj hz37; subst hz37
    refine And.intro rfl (Fit2.of (Zl hU rfl rfl ?_) (by omega))
    simp only [push_cast, seval, ↓reduceIte, Za, c40, c41, c42, hN0, hN]
   refine Zt (t := z37) rfl (fun c43 => ?_) (fun c43 => ?_)
   ·replace hs1_ := Zx c43 hs1_
    refine Zs [4] (Zc Zd [] ?_)
    simp only [push_cast, seval, ↓reduceIte, Za, hN0, hN]
    refine Z5 ?_
    try simp only [Zn, Zj]
    have hs1_ := Option.some.inj hs1_; subst hs1_
    refine And.intro (fun h => by cases h) (And.intro rfl (Fit2.of (Zl hU rfl rfl ?_) (by omega)))
    simp only [push_cast, seval, ↓reduceIte, Za, hN0, hN]
   replace hs1_ := Zw c43 hs1_
   refine Z0 ?_
   try simp only [Zn, Zj]
   refine Zm [1, 2, 8, 9] [true, true] ?_
   simp only [push_cast, seval, ↓reduceIte]
   refine Zc Zd [] ?_
   simp only [push_cast, seval, ↓reduceIte, Za, hN0, hN]
   refine Zm [1, 2, 5, 8] [true, false] ?_
   simp only [push_cast, seval, ↓reduceIte]
   refine Zc Zd [] ?_
   simp only [push_cast, seval, ↓reduceIte, Za, hN0, hN]
   have hs1_ := Option.some.inj hs1_; subst hs1_
   refine And.intro rfl (Fit2.of (Zl hU rfl rfl ?_) (by omega))
   simp only [push_cast, seval, ↓reduceIte, Za, hN0, hN]
  replace hs1_ := Zw c44 hs1_
  refine Xs ?_
  try simp only [Zn, Zj, ↓reduceIte, Nat.reduceEqDiff]
  have hs1_ := Option.some.inj hs1_; subst hs1_
  refine And.intro (fun h => by cases h) (And.intro rfl (Fit2.of (Zl hU rfl rfl ?_) (by omega)))
  simp only [push_cast, seval, ↓reduceIte, Za, hN0, hN]
 rcases z45 with z45 | z45
 ·dsimp only [Q2] at hw h
  refine Vz hw ?_
  try simp only [Zn, Zj, ↓reduceIte, Nat.reduceEqDiff]
  have h := Option.some.inj h; subst h
  refine Zy (.inr rfl) hU [.val (.bool false)] (by omega) ?_
  simp only [push_cast, seval, ↓reduceIte, Za, Try.results39, hN0, hN]
 dsimp only [Q2] at hw h
 refine Yv hw ?_
 try simp only [Zn, Zj, ↓reduceIte, Nat.reduceEqDiff]
 refine Zm [1, 2] [true] ?_
 simp only [push_cast, seval, ↓reduceIte]
 refine Zo ?_
 refine Zs [1, 2, 186] (Zc Zd [none, none, none, none, none, none, none, none] ?_)
 simp only [push_cast, seval, ↓reduceIte, Za, hN0, hN]
 repeat (with_reducible refine And.intro (by first | (intro h0; simp only [h0, and_self]; done) | (intro h0; simp only [h0, Bool.not_false, Bool.not_true, Bool.true_and, Bool.and_true, true_and, and_true, and_self, imp_self, implies_true, bne_iff_ne, ne_eq, beq_iff_eq]; done) | (intros; simp_all; done) | exact True.intro) ?_)
 refine Zt (t := (cond (a0.Kind == 3) (cond (decide (a0.List_ < 2)) true (decide (9 < a0.List_))) false)) rfl (fun c55 => ?_) (fun c55 => ?_)
 ·replace h := Zx c55 h
  refine Zs [4] (Zc Zd [] ?_)
  simp only [push_cast, seval, ↓reduceIte, Za, hN0, hN]
  refine Z5 ?_
  try simp only [Zn, Zj]
  have h := Option.some.inj h; subst h
  refine Zy (.inr rfl) hU [.val (.bool false)] (by omega) ?_
  simp only [push_cast, seval, ↓reduceIte, Za, Try.results39, hN0, hN]
 replace h := Zw c55 h
 refine Z0 ?_
 try simp only [Zn, Zj]
 refine Zm [1, 2] [true] ?_
 simp only [push_cast, seval, ↓reduceIte]
 refine Zo ?_
 refine Zs [1, 2, 10] (Zc Zd [] ?_)
 simp only [push_cast, seval, ↓reduceIte, Za, hN0, hN]
 refine Zm [1, 2, 10] [true] ?_
 simp only [push_cast, seval, ↓reduceIte]
 obtain ⟨z52, hz52, h⟩ := bC h
 refine Zcd (J := (Q2 (fun z52 => JR n (⟨216, [], [(4, .val (.bool false))]⟩ : Env) (Zu O n [none]) (n + 1)) (fun z52 => JX 4 n (⟨216, [], [(2, .ref n 0)]⟩ : Env) (Zu O n [some ⟨false, 30, 11, 1, (Zg a0)⟩]) (n + 1)))) (z := z52) ?_ fun hw => ?_
 ·refine Y7 hz52 (fun s2_ => ⟨216, [], [(1, .val (.int .i64 a1)), (2, .ref n 0), (10, .val (.int .i64 s2_))]⟩) (fun s2_ => (Zu O n [some ⟨false, 30, 11, 1, (Zg a0)⟩])) (Q2 (fun z52 => JR n (⟨216, [], [(4, .val (.bool false))]⟩ : Env) (Zu O n [none]) (n + 1)) (fun z52 => JX 4 n (⟨216, [], [(2, .ref n 0)]⟩ : Env) (Zu O n [some ⟨false, 30, 11, 1, (Zg a0)⟩]) (n + 1))) ?_
  intro s2_ x2_ hs2_
  unfold X2 at hs2_
  try dsimp only
  refine Zo ?_
  refine Zs [1, 2, 10, 191] (Zc Zd [] ?_)
  simp only [push_cast, seval, ↓reduceIte, Za, hN0, hN]
  refine Zt (t := (decide (s2_ < (a0.Ops.length : Int)))) rfl (fun c51 => ?_) (fun c51 => ?_)
  ·replace hs2_ := Zx c51 hs2_
   refine Z0 ?_
   try simp only [Zn, Zj]
   refine Zm [1, 2, 10] [true] ?_
   simp only [push_cast, seval, ↓reduceIte]
   refine Zo ?_
   refine Ys ?_
   refine Zo ?_
   obtain ⟨x48, hx48, ax48, bx48, cx48, hs2_⟩ := bE (f := Zf) Zc5 (fun _ => rfl) (by decide) hs2_
   obtain ⟨y49, hy49, hs2_⟩ := bC hs2_
   refine Qz Zd (by kernel_rfl) [] (by kernel_rfl) ?_
   simp only [push_cast, Nat.reduceAdd, Nat.reduceSub, Nat.reduceMul, Nat.reduceLeDiff, Nat.reduceLT, Nat.reduceEqDiff, ↓reduceIte, reduceCtorEq, Int.reduceBEq, Int.reduceBNe, Nat.reduceBEq, Int.reduceLE, Int.reduceLT, Int.reduceEq, Int.reduceNe, Int.reduceNeg, Nat.reduceDiv, Nat.reduceMod, Nat.reducePow, Za, ax48, bx48, cx48, hN0, hN]
   refine PCall.of (Ze1 hy49) ?_
   simp only [push_cast, Nat.reduceAdd, Nat.reduceSub, Nat.reduceMul, Nat.reduceLeDiff, Nat.reduceLT, Nat.reduceEqDiff, ↓reduceIte, reduceCtorEq, Int.reduceBEq, Int.reduceBNe, Nat.reduceBEq, Int.reduceLE, Int.reduceLT, Int.reduceEq, Int.reduceNe, Int.reduceNeg, Nat.reduceDiv, Nat.reduceMod, Nat.reducePow, Za, ax48, bx48, cx48, hN0, hN]
   refine Zm [1, 2, 10, 204] [true] ?_
   simp only [push_cast, seval, ↓reduceIte]
   refine Zt (t := (!y49)) rfl (fun c50 => ?_) (fun c50 => ?_)
   ·replace hs2_ := Zx c50 hs2_
    refine Zs [4] (Zc Zd [] ?_)
    simp only [push_cast, seval, ↓reduceIte, Za, hN0, hN]
    refine Z5 ?_
    try simp only [Zn, Zj]
    have hs2_ := Option.some.inj hs2_; subst hs2_
    refine And.intro (fun h => by cases h) (And.intro rfl (Fit2.of (Zl hU rfl rfl ?_) (by omega)))
    simp only [push_cast, seval, ↓reduceIte, Za, hN0, hN]
   replace hs2_ := Zw c50 hs2_
   refine Z0 ?_
   try simp only [Zn, Zj]
   refine Zm [1, 2, 10] [true] ?_
   simp only [push_cast, seval, ↓reduceIte]
   refine Zc Zd [] ?_
   simp only [push_cast, seval, ↓reduceIte, Za, hN0, hN]
   have hs2_ := Option.some.inj hs2_; subst hs2_
   refine And.intro rfl (Fit2.of (Zl hU rfl rfl ?_) (by omega))
   simp only [push_cast, seval, ↓reduceIte, Za, hN0, hN]
  replace hs2_ := Zw c51 hs2_
  refine Xs ?_
  try simp only [Zn, Zj, ↓reduceIte, Nat.reduceEqDiff]
  have hs2_ := Option.some.inj hs2_; subst hs2_
  refine And.intro (fun h => by cases h) (And.intro rfl (Fit2.of (Zl hU rfl rfl ?_) (by omega)))
  simp only [push_cast, seval, ↓reduceIte, Za, hN0, hN]
 rcases z52 with z52 | z52
 ·dsimp only [Q2] at hw h
  refine Vz hw ?_
  try simp only [Zn, Zj, ↓reduceIte, Nat.reduceEqDiff]
  have h := Option.some.inj h; subst h
  refine Zy (.inr rfl) hU [.val (.bool false)] (by omega) ?_
  simp only [push_cast, seval, ↓reduceIte, Za, Try.results39, hN0, hN]
 dsimp only [Q2] at hw h
 refine Yv hw ?_
 try simp only [Zn, Zj, ↓reduceIte, Nat.reduceEqDiff]
 refine Zm [2] [true] ?_
 simp only [push_cast, seval, ↓reduceIte]
 refine Zo ?_
 obtain ⟨y54, hy54, h⟩ := bC h
 refine Zc Zd [] ?_
 simp only [push_cast, seval, ↓reduceIte, Za, hN0, hN]
 refine (Zc2 hy54).then ?_
 simp only [push_cast, seval, ↓reduceIte, Za, hN0, hN]
 refine Zm [11, 12] [false] ?_
 simp only [push_cast, seval, ↓reduceIte]
 refine Zs [4] (Zc Zd [none, none] ?_)
 simp only [push_cast, seval, ↓reduceIte, Za, hN0, hN]
 repeat (with_reducible refine And.intro (by first | (intro h0; simp only [h0, and_self]; done) | (intro h0; simp only [h0, Bool.not_false, Bool.not_true, Bool.true_and, Bool.and_true, true_and, and_true, and_self, imp_self, implies_true, bne_iff_ne, ne_eq, beq_iff_eq]; done) | (intros; simp_all; done) | exact True.intro) ?_)
 refine Z5 ?_
 try simp only [Zn, Zj]
 have h := Option.some.inj h; subst h
 refine Zy (.inr rfl) hU [.val (.bool (cond (decide (y54.1 < 1048576)) (decide (y54.2 < 1048576)) false))] (by omega) ?_
 simp only [push_cast, seval, ↓reduceIte, Za, Try.results39, hN0, hN]
theorem Zk9 {Y8 : (S_api_Edit → Int → Option Bool)} {Qe : (Int → S_api_Op → Int → Option Bool)} (Gw : ∀ {a0 : S_api_Edit} {a1 : Int} {r : Bool} {O : Objs} {n : Nat}, Y8 a0 a1 = some r → GTo Try.prog 39 [.agg (Zg a0), .val (.int .i64 a1)] O n (.val (.bool r)) O n) (Ze1 : ∀ {a0 : Int} {a1 : S_api_Op} {a2 : Int} {r : Bool} {O : Objs} {n : Nat}, Qe a0 a1 a2 = some r → GTo Try.prog 69 [.val (.int .i64 a0), .agg (Ym a1), .val (.int .i64 a2)] O n (.val (.bool r)) O n) {a0 : Int} {a1 : S_api_Op} {a2 : Int} {r : Bool} {O : Objs} {n : Nat} (h : Gh Y8 Qe a0 a1 a2 = some r) : GTo Try.prog 69 [.val (.int .i64 a0), .agg (Ym a1), .val (.int .i64 a2)] O n (.val (.bool r)) O n := by
 unfold Gh at h
 refine Xc Zd Try.call69 Try.func69 rfl (Nat.le_of_ble_eq_true rfl) (Nat.le_refl _) fun hU => ?_
 have hN0 : O n = none := hU.fresh _ (Nat.le_refl _)
 have hN : ∀ k, O (n + k) = none := fun k => hU.fresh _ (Nat.le_add_right _ _)
 show W _ _ _ _ ⟨121, [], [(0, .val (.int .i64 a0)), (1, .agg (Ym a1)), (2, .val (.int .i64 a2))]⟩ (Zu O n []) _
 refine Zs [0, 2, 4] (Zc Zd [] ?_)
 simp only [push_cast, seval, ↓reduceIte, Za, hN0, hN]
 refine Zo ?_
 refine Zs [0, 2, 4, 10] (Zc Zd [] ?_)
 simp only [push_cast, seval, ↓reduceIte, Za, hN0, hN]
 refine Zt (t := (a1.Kind == 0)) rfl (fun c30 => ?_) (fun c30 => ?_)
 ·replace h := Zx c30 h
  obtain ⟨z2, hz2, h⟩ := bC h
  refine Y5 (E' := ⟨121, [], [(6, .val (.bool z2))]⟩) (O' := (Zu O n [none])) (n0 := (n + 1)) ?_ ?_
  ·rcases Bool.eq_false_or_eq_true (decide (1 ≤ a1.N)) with c5 | c5
   ·replace hz2 := Zx c5 hz2
    rcases Bool.eq_false_or_eq_true (decide (a1.N ≤ 1048576)) with c6 | c6
    ·replace hz2 := Zx c6 hz2
     try rw [c6] at c5
     rcases Bool.eq_false_or_eq_true ((a1.L.length : Int) == 0) with c7 | c7
     ·replace hz2 := Zx c7 hz2
      try rw [c7] at c5
      try rw [c7] at c6
      obtain ⟨y4, hy4, hz2⟩ := bC hz2
      refine Zc Zd [none, none, none, none, none, none, none, some true, some true, some true] ?_
      simp only [push_cast, seval, ↓reduceIte, Za, c5, c6, c7, hN0, hN]
      repeat (with_reducible refine And.intro (by first | (intro h0; simp only [h0, and_self]; done) | (intro h0; simp only [h0, Bool.not_false, Bool.not_true, Bool.true_and, Bool.and_true, true_and, and_true, and_self, imp_self, implies_true, bne_iff_ne, ne_eq, beq_iff_eq]; done) | (intros; simp_all; done) | exact True.intro) ?_)
      refine (Ze0 hy4).then ?_
      simp only [push_cast, seval, ↓reduceIte, Za, c5, c6, c7, hN0, hN]
      repeat (with_reducible refine And.intro (by first | (intro h0; simp only [h0, and_self]; done) | (intro h0; simp only [h0, Bool.not_false, Bool.not_true, Bool.true_and, Bool.and_true, true_and, and_true, and_self, imp_self, implies_true, bne_iff_ne, ne_eq, beq_iff_eq]; done) | (intros; simp_all; done) | exact True.intro) ?_)
      have hz2 := Option.some.inj hz2; subst hz2
      refine And.intro rfl (Fit2.of (Zl hU rfl rfl ?_) (by omega))
      simp only [push_cast, seval, ↓reduceIte, Za, c5, c6, c7, hN0, hN]
     replace hz2 := Zw c7 hz2
     try rw [c7] at c5
     try rw [c7] at c6
     refine Zc Zd [none, none, none, none, none, none, none, some false, some false, some false] ?_
     simp only [push_cast, seval, ↓reduceIte, Za, c5, c6, c7, hN0, hN]
     repeat (with_reducible refine And.intro (by first | (intro h0; simp only [h0, and_self]; done) | (intro h0; simp only [h0, Bool.not_false, Bool.not_true, Bool.true_and, Bool.and_true, true_and, and_true, and_self, imp_self, implies_true, bne_iff_ne, ne_eq, beq_iff_eq]; done) | (intros; simp_all; done) | exact True.intro) ?_)
     have hz2 := Option.some.inj hz2; subst hz2
     refine And.intro rfl (Fit2.of (Zl hU rfl rfl ?_) (by omega))
     simp only [push_cast, seval, ↓reduceIte, Za, c5, c6, c7, hN0, hN]
    replace hz2 := Zw c6 hz2
    try rw [c6] at c5
    refine Zc Zd [none, none, none, none, none, none, none, some false, some false, some false] ?_
    simp only [push_cast, seval, ↓reduceIte, Za, c5, c6, hN0, hN]
    repeat (with_reducible refine And.intro (by first | (intro h0; simp only [h0, and_self]; done) | (intro h0; simp only [h0, Bool.not_false, Bool.not_true, Bool.true_and, Bool.and_true, true_and, and_true, and_self, imp_self, implies_true, bne_iff_ne, ne_eq, beq_iff_eq]; done) | (intros; simp_all; done) | exact True.intro) ?_)
    have hz2 := Option.some.inj hz2; subst hz2
    refine And.intro rfl (Fit2.of (Zl hU rfl rfl ?_) (by omega))
    simp only [push_cast, seval, ↓reduceIte, Za, c5, c6, hN0, hN]
   replace hz2 := Zw c5 hz2
   refine Zc Zd [none, none, none, none, none, none, none, some false, some false, some false] ?_
   simp only [push_cast, seval, ↓reduceIte, Za, c5, hN0, hN]
   repeat (with_reducible refine And.intro (by first | (intro h0; simp only [h0, and_self]; done) | (intro h0; simp only [h0, Bool.not_false, Bool.not_true, Bool.true_and, Bool.and_true, true_and, and_true, and_self, imp_self, implies_true, bne_iff_ne, ne_eq, beq_iff_eq]; done) | (intros; simp_all; done) | exact True.intro) ?_)
   have hz2 := Option.some.inj hz2; subst hz2
   refine And.intro rfl (Fit2.of (Zl hU rfl rfl ?_) (by omega))
   simp only [push_cast, seval, ↓reduceIte, Za, c5, hN0, hN]
  refine Z5 ?_
  try simp only [Zn, Zj]
  have h := Option.some.inj h; subst h
  refine Zy (.inr rfl) hU [.val (.bool z2)] (by omega) ?_
  simp only [push_cast, seval, ↓reduceIte, Za, Try.results69, hN0, hN]
 replace h := Zw c30 h
 refine Z0 ?_
 try simp only [Zn, Zj]
 refine Zm [0, 2, 4] [true] ?_
 simp only [push_cast, seval, ↓reduceIte]
 refine Zo ?_
 refine Zs [0, 2, 4, 42] (Zc Zd [none, none, none, none, none, none] ?_)
 simp only [push_cast, seval, ↓reduceIte, Za, hN0, hN]
 repeat (with_reducible refine And.intro (by first | (intro h0; simp only [h0, and_self]; done) | (intro h0; simp only [h0, Bool.not_false, Bool.not_true, Bool.true_and, Bool.and_true, true_and, and_true, and_self, imp_self, implies_true, bne_iff_ne, ne_eq, beq_iff_eq]; done) | (intros; simp_all; done) | exact True.intro) ?_)
 refine Zt (t := (cond (cond (a1.N != 0) true (decide (a1.Kind < 0))) true (decide (3 < a1.Kind)))) rfl (fun c29 => ?_) (fun c29 => ?_)
 ·replace h := Zx c29 h
  refine Zs [6] (Zc Zd [] ?_)
  simp only [push_cast, seval, ↓reduceIte, Za, hN0, hN]
  refine Z5 ?_
  try simp only [Zn, Zj]
  have h := Option.some.inj h; subst h
  refine Zy (.inr rfl) hU [.val (.bool false)] (by omega) ?_
  simp only [push_cast, seval, ↓reduceIte, Za, Try.results69, hN0, hN]
 replace h := Zw c29 h
 refine Z0 ?_
 try simp only [Zn, Zj]
 refine Zm [0, 2, 4] [true] ?_
 simp only [push_cast, seval, ↓reduceIte]
 refine Zo ?_
 refine Zs [0, 2, 4, 45] (Zc Zd [] ?_)
 simp only [push_cast, seval, ↓reduceIte, Za, hN0, hN]
 refine Zt (t := (decide (a1.Kind < 3))) rfl (fun c28 => ?_) (fun c28 => ?_)
 ·replace h := Zx c28 h
  refine Zo ?_
  refine Zs [0, 4, 7] (Zc Zd [] ?_)
  simp only [push_cast, seval, ↓reduceIte, Za, hN0, hN]
  refine Zm [0, 4, 7] [true] ?_
  simp only [push_cast, seval, ↓reduceIte]
  obtain ⟨z14, hz14, h⟩ := bC h
  refine Zcd (J := (Q2 (fun z14 => JR n (⟨121, [], [(6, .val (.bool false))]⟩ : Env) (Zu O n [none]) (n + 1)) (fun z14 => JX 0 n (⟨121, [], [(4, .ref n 0)]⟩ : Env) (Zu O n [some ⟨false, 69, 14, 1, (Ym a1)⟩]) (n + 1)))) (z := z14) ?_ fun hw => ?_
  ·refine Y7 hz14 (fun s0_ => ⟨121, [], [(0, .val (.int .i64 a0)), (4, .ref n 0), (7, .val (.int .i64 s0_))]⟩) (fun s0_ => (Zu O n [some ⟨false, 69, 14, 1, (Ym a1)⟩])) (Q2 (fun z14 => JR n (⟨121, [], [(6, .val (.bool false))]⟩ : Env) (Zu O n [none]) (n + 1)) (fun z14 => JX 0 n (⟨121, [], [(4, .ref n 0)]⟩ : Env) (Zu O n [some ⟨false, 69, 14, 1, (Ym a1)⟩]) (n + 1))) ?_
   intro s0_ x0_ hs0_
   unfold Ve at hs0_
   try dsimp only
   refine Zo ?_
   refine Zs [0, 4, 7, 50] (Zc Zd [] ?_)
   simp only [push_cast, seval, ↓reduceIte, Za, hN0, hN]
   refine Zt (t := (decide (s0_ < (a1.L.length : Int)))) rfl (fun c13 => ?_) (fun c13 => ?_)
   ·replace hs0_ := Zx c13 hs0_
    refine Z0 ?_
    try simp only [Zn, Zj]
    refine Zm [0, 4, 7] [true] ?_
    simp only [push_cast, seval, ↓reduceIte]
    refine Zo ?_
    refine Ys ?_
    refine Zo ?_
    obtain ⟨l10, al10, bl10, cl10, gl10, hs0_⟩ := bS (lo := (some (.i64, s0_))) (hi := (some (.i64, (IntKind.i64.wrap (s0_ + 1))))) (f := Zb) rfl rfl Zcw Vs (fun _ => rfl) hs0_
    obtain ⟨y11, hy11, hs0_⟩ := bC hs0_
    refine Zc Zd [] ?_
    simp only [push_cast, seval, ↓reduceIte, Za, al10, bl10, cl10, gl10, hN0, hN]
    refine GCalls.argsW ?_ ((K3 hy11).then ?_)
    ·simp only [push_cast, seval, ↓reduceIte, Za, al10, bl10, cl10, gl10, hN0, hN]
    simp only [push_cast, seval, ↓reduceIte, Za, al10, bl10, cl10, gl10, hN0, hN]
    refine Zm [0, 4, 7, 62] [true] ?_
    simp only [push_cast, seval, ↓reduceIte]
    refine Zt (t := (!y11)) rfl (fun c12 => ?_) (fun c12 => ?_)
    ·replace hs0_ := Zx c12 hs0_
     refine Zs [6] (Zc Zd [] ?_)
     simp only [push_cast, seval, ↓reduceIte, Za, hN0, hN]
     refine Z5 ?_
     try simp only [Zn, Zj]
     have hs0_ := Option.some.inj hs0_; subst hs0_
     refine And.intro (fun h => by cases h) (And.intro rfl (Fit2.of (Zl hU rfl rfl ?_) (by omega)))
     simp only [push_cast, seval, ↓reduceIte, Za, hN0, hN]
    replace hs0_ := Zw c12 hs0_
    refine Z0 ?_
    try simp only [Zn, Zj]
    refine Zm [0, 4, 7] [true] ?_
    simp only [push_cast, seval, ↓reduceIte]
    refine Zc Zd [] ?_
    simp only [push_cast, seval, ↓reduceIte, Za, hN0, hN]
    have hs0_ := Option.some.inj hs0_; subst hs0_
    refine And.intro rfl (Fit2.of (Zl hU rfl rfl ?_) (by omega))
    simp only [push_cast, seval, ↓reduceIte, Za, hN0, hN]
   replace hs0_ := Zw c13 hs0_
   refine Xs ?_
   try simp only [Zn, Zj, ↓reduceIte, Nat.reduceEqDiff]
   have hs0_ := Option.some.inj hs0_; subst hs0_
   refine And.intro (fun h => by cases h) (And.intro rfl (Fit2.of (Zl hU rfl rfl ?_) (by omega)))
   simp only [push_cast, seval, ↓reduceIte, Za, hN0, hN]
  rcases z14 with z14 | z14
  ·dsimp only [Q2] at hw h
   refine Vz hw ?_
   try simp only [Zn, Zj, ↓reduceIte, Nat.reduceEqDiff]
   have h := Option.some.inj h; subst h
   refine Zy (.inr rfl) hU [.val (.bool false)] (by omega) ?_
   simp only [push_cast, seval, ↓reduceIte, Za, Try.results69, hN0, hN]
  dsimp only [Q2] at hw h
  refine Yv hw ?_
  try simp only [Zn, Zj, ↓reduceIte, Nat.reduceEqDiff]
  refine Zm [4] [true] ?_
  simp only [push_cast, seval, ↓reduceIte]
  obtain ⟨z16, hz16, h⟩ := bC h
  refine Y5 (E' := ⟨121, [], [(6, .val (.bool z16))]⟩) (O' := (Zu O n [none])) (n0 := (n + 1)) ?_ ?_
  ·rcases Bool.eq_false_or_eq_true (decide (0 < (a1.L.length : Int))) with c19 | c19
   ·replace hz16 := Zx c19 hz16
    obtain ⟨y18, hy18, hz16⟩ := bC hz16
    refine Zc Zd [some true, some true, some true] ?_
    simp only [push_cast, seval, ↓reduceIte, Za, c19, hN0, hN]
    refine (Ze0 hy18).then ?_
    simp only [push_cast, seval, ↓reduceIte, Za, c19, hN0, hN]
    have hz16 := Option.some.inj hz16; subst hz16
    refine And.intro rfl (Fit2.of (Zl hU rfl rfl ?_) (by omega))
    simp only [push_cast, seval, ↓reduceIte, Za, c19, hN0, hN]
   replace hz16 := Zw c19 hz16
   refine Zc Zd [some false, some false, some false] ?_
   simp only [push_cast, seval, ↓reduceIte, Za, c19, hN0, hN]
   have hz16 := Option.some.inj hz16; subst hz16
   refine And.intro rfl (Fit2.of (Zl hU rfl rfl ?_) (by omega))
   simp only [push_cast, seval, ↓reduceIte, Za, c19, hN0, hN]
  refine Z5 ?_
  try simp only [Zn, Zj]
  have h := Option.some.inj h; subst h
  refine Zy (.inr rfl) hU [.val (.bool z16)] (by omega) ?_
  simp only [push_cast, seval, ↓reduceIte, Za, Try.results69, hN0, hN]
 replace h := Zw c28 h
 refine Z0 ?_
 try simp only [Zn, Zj]
 refine Zm [0, 2, 4] [true] ?_
 simp only [push_cast, seval, ↓reduceIte]
 refine Zo ?_
 obtain ⟨z21, hz21, h⟩ := bC h
 refine Y5 (E' := ⟨121, [], [(0, .val (.int .i64 a0)), (4, .ref n 0), (92, .val (.bool z21))]⟩) (O' := (Zu O n [some ⟨false, 69, 14, 1, (Ym a1)⟩])) (n0 := (n + 1)) ?_ ?_
 ·rcases Bool.eq_false_or_eq_true (decide (0 < (a1.L.length : Int))) with c24 | c24
  ·replace hz21 := Zx c24 hz21
   refine Zc Zd [none, none, none, none, none, none, some false, some false, some false, some false, some false] ?_
   simp only [push_cast, seval, ↓reduceIte, Za, c24, hN0, hN]
   repeat (with_reducible refine And.intro (by first | (intro h0; simp only [h0, and_self]; done) | (intro h0; simp only [h0, Bool.not_false, Bool.not_true, Bool.true_and, Bool.and_true, true_and, and_true, and_self, imp_self, implies_true, bne_iff_ne, ne_eq, beq_iff_eq]; done) | (intros; simp_all; done) | exact True.intro) ?_)
   have hz21 := Option.some.inj hz21; subst hz21
   refine And.intro rfl (Fit2.of (Zl hU rfl rfl ?_) (by omega))
   simp only [push_cast, seval, ↓reduceIte, Za, c24, hN0, hN]
  replace hz21 := Zw c24 hz21
  rcases Bool.eq_false_or_eq_true (a1.E.Kind == 0) with c25 | c25
  ·replace hz21 := Zx c25 hz21
   try rw [c25] at c24
   refine Zc Zd [none, none, none, none, none, none, some false, some false, some false, some false, some false] ?_
   simp only [push_cast, seval, ↓reduceIte, Za, c24, c25, hN0, hN]
   repeat (with_reducible refine And.intro (by first | (intro h0; simp only [h0, and_self]; done) | (intro h0; simp only [h0, Bool.not_false, Bool.not_true, Bool.true_and, Bool.and_true, true_and, and_true, and_self, imp_self, implies_true, bne_iff_ne, ne_eq, beq_iff_eq]; done) | (intros; simp_all; done) | exact True.intro) ?_)
   have hz21 := Option.some.inj hz21; subst hz21
   refine And.intro rfl (Fit2.of (Zl hU rfl rfl ?_) (by omega))
   simp only [push_cast, seval, ↓reduceIte, Za, c24, c25, hN0, hN]
  replace hz21 := Zw c25 hz21
  try rw [c25] at c24
  rcases Bool.eq_false_or_eq_true (decide (a0 ≤ 7)) with c26 | c26
  ·replace hz21 := Zx c26 hz21
   try rw [c26] at c24
   try rw [c26] at c25
   refine Zc Zd [none, none, none, none, none, none, some false, some false, some false, some false, some false] ?_
   simp only [push_cast, seval, ↓reduceIte, Za, c24, c25, c26, hN0, hN]
   repeat (with_reducible refine And.intro (by first | (intro h0; simp only [h0, and_self]; done) | (intro h0; simp only [h0, Bool.not_false, Bool.not_true, Bool.true_and, Bool.and_true, true_and, and_true, and_self, imp_self, implies_true, bne_iff_ne, ne_eq, beq_iff_eq]; done) | (intros; simp_all; done) | exact True.intro) ?_)
   have hz21 := Option.some.inj hz21; subst hz21
   refine And.intro rfl (Fit2.of (Zl hU rfl rfl ?_) (by omega))
   simp only [push_cast, seval, ↓reduceIte, Za, c24, c25, c26, hN0, hN]
  replace hz21 := Zw c26 hz21
  try rw [c26] at c24
  try rw [c26] at c25
  obtain ⟨y23, hy23, hz21⟩ := bC hz21
  refine Zc Zd [none, none, none, none, none, none, some true, some true, some true, some true, some true] ?_
  simp only [push_cast, seval, ↓reduceIte, Za, c24, c25, c26, hN0, hN]
  repeat (with_reducible refine And.intro (by first | (intro h0; simp only [h0, and_self]; done) | (intro h0; simp only [h0, Bool.not_false, Bool.not_true, Bool.true_and, Bool.and_true, true_and, and_true, and_self, imp_self, implies_true, bne_iff_ne, ne_eq, beq_iff_eq]; done) | (intros; simp_all; done) | exact True.intro) ?_)
  refine (Gw hy23).then ?_
  simp only [push_cast, seval, ↓reduceIte, Za, c24, c25, c26, hN0, hN]
  repeat (with_reducible refine And.intro (by first | (intro h0; simp only [h0, and_self]; done) | (intro h0; simp only [h0, Bool.not_false, Bool.not_true, Bool.true_and, Bool.and_true, true_and, and_true, and_self, imp_self, implies_true, bne_iff_ne, ne_eq, beq_iff_eq]; done) | (intros; simp_all; done) | exact True.intro) ?_)
  have hz21 := Option.some.inj hz21; subst hz21
  refine And.intro rfl (Fit2.of (Zl hU rfl rfl ?_) (by omega))
  simp only [push_cast, seval, ↓reduceIte, Za, c24, c25, c26, hN0, hN]
 refine Zt (t := z21) rfl (fun c27 => ?_) (fun c27 => ?_)
 ·replace h := Zx c27 h
  refine Zs [6] (Zc Zd [] ?_)
  simp only [push_cast, seval, ↓reduceIte, Za, hN0, hN]
  refine Z5 ?_
  try simp only [Zn, Zj]
  have h := Option.some.inj h; subst h
  refine Zy (.inr rfl) hU [.val (.bool false)] (by omega) ?_
  simp only [push_cast, seval, ↓reduceIte, Za, Try.results69, hN0, hN]
 replace h := Zw c27 h
 refine Z0 ?_
 try simp only [Zn, Zj]
 refine Zm [0, 4] [true] ?_
 simp only [push_cast, seval, ↓reduceIte]
 refine Zs [6] (Zc Zd [none, none, none, none, none, none, none, none, none, none, none, none, none, none, none, none, none, none, none, none, none, none] ?_)
 simp only [push_cast, seval, ↓reduceIte, Za, hN0, hN]
 repeat (with_reducible refine And.intro (by first | (intro h0; simp only [h0, and_self]; done) | (intro h0; simp only [h0, Bool.not_false, Bool.not_true, Bool.true_and, Bool.and_true, true_and, and_true, and_self, imp_self, implies_true, bne_iff_ne, ne_eq, beq_iff_eq]; done) | (intros; simp_all; done) | exact True.intro) ?_)
 refine Z5 ?_
 try simp only [Zn, Zj]
 have h := Option.some.inj h; subst h
 refine Zy (.inr rfl) hU [.val (.bool (cond (cond (a0 == 8) true (a1.E.Kind == 2)) true (cond (cond (a1.E.Kind == 1) (a1.E.Old.Kind == 1) false) (a1.E.New.Kind == 1) false)))] (by omega) ?_
 simp only [push_cast, seval, ↓reduceIte, Za, Try.results69, hN0, hN]
theorem Zgx : ∀ k, (∀ {a0 : S_api_Edit} {a1 : Int} {r : Bool} {O : Objs} {n : Nat}, (Yd k).1 a0 a1 = some r → GTo Try.prog 39 [.agg (Zg a0), .val (.int .i64 a1)] O n (.val (.bool r)) O n) ∧ (∀ {a0 : Int} {a1 : S_api_Op} {a2 : Int} {r : Bool} {O : Objs} {n : Nat}, (Yd k).2 a0 a1 a2 = some r → GTo Try.prog 69 [.val (.int .i64 a0), .agg (Ym a1), .val (.int .i64 a2)] O n (.val (.bool r)) O n) := fun k => by
 induction k with
 | zero => exact ⟨@fun a0 a1 r O n h => (nomatch (show (none : Option _) = some _ from h)), @fun a0 a1 a2 r O n h => (nomatch (show (none : Option _) = some _ from h))⟩
 | succ k ih => exact ⟨@fun a0 a1 r O n h => Zh9 (ih.1) (ih.2)  h, @fun a0 a1 a2 r O n h => Zk9 (ih.1) (ih.2)  h⟩
theorem Zeh {a0 : S_api_Edit} {a1 : Int} {r : Bool} {O : Objs} {n : Nat} (h : Zb5 a0 a1 = some r) : GTo Try.prog 39 [.agg (Zg a0), .val (.int .i64 a1)] O n (.val (.bool r)) O n := by
 obtain ⟨k, hk⟩ := Ur h
 exact (Zgx k).1  hk
theorem Zh8 {Xu : (S_api_Edit → Option Bool)} (Zc4 : ∀ {a0 : S_api_Edit} {r : Bool} {O : Objs} {n : Nat}, Xu a0 = some r → GTo Try.prog 50 [.agg (Zg a0)] O n (.val (.bool r)) O n) {a0 : S_api_Edit} {r : Bool} {O : Objs} {n : Nat} (h : Vc Xu a0 = some r) : GTo Try.prog 50 [.agg (Zg a0)] O n (.val (.bool r)) O n := by
 unfold Vc at h
 refine Xc Zd Try.call50 Try.func50 rfl (Nat.le_of_ble_eq_true rfl) (Nat.le_refl _) fun hU => ?_
 have hN0 : O n = none := hU.fresh _ (Nat.le_refl _)
 have hN : ∀ k, O (n + k) = none := fun k => hU.fresh _ (Nat.le_add_right _ _)
 show W _ _ _ _ ⟨48, [], [(0, .agg (Zg a0))]⟩ (Zu O n []) _
 refine Zs [1] (Zc Zd [] ?_)
 simp only [push_cast, seval, ↓reduceIte, Za, hN0, hN]
 refine Zo ?_
 obtain ⟨y2, hy2, h⟩ := bC h
 refine Zc Zd [] ?_
 simp only [push_cast, seval, ↓reduceIte, Za, hN0, hN]
 refine (Zc2 hy2).then ?_
 simp only [push_cast, seval, ↓reduceIte, Za, hN0, hN]
 refine Zm [1, 3, 4] [true] ?_
 simp only [push_cast, seval, ↓reduceIte]
 refine Zo ?_
 refine Zs [1, 17] (Zc Zd [none, none] ?_)
 simp only [push_cast, seval, ↓reduceIte, Za, hN0, hN]
 repeat (with_reducible refine And.intro (by first | (intro h0; simp only [h0, and_self]; done) | (intro h0; simp only [h0, Bool.not_false, Bool.not_true, Bool.true_and, Bool.and_true, true_and, and_true, and_self, imp_self, implies_true, bne_iff_ne, ne_eq, beq_iff_eq]; done) | (intros; simp_all; done) | exact True.intro) ?_)
 refine Zt (t := (cond (decide (2000 < y2.1)) true (decide (2000 < y2.2)))) rfl (fun c21 => ?_) (fun c21 => ?_)
 ·replace h := Zx c21 h
  refine Zs [2] (Zc Zd [] ?_)
  simp only [push_cast, seval, ↓reduceIte, Za, hN0, hN]
  refine Z5 ?_
  try simp only [Zn, Zj]
  have h := Option.some.inj h; subst h
  refine Zy (.inr rfl) hU [.val (.bool false)] (by omega) ?_
  simp only [push_cast, seval, ↓reduceIte, Za, Try.results50, hN0, hN]
 replace h := Zw c21 h
 refine Z0 ?_
 try simp only [Zn, Zj]
 refine Zm [1] [true] ?_
 simp only [push_cast, seval, ↓reduceIte]
 refine Zo ?_
 refine Zs [1, 5] (Zc Zd [] ?_)
 simp only [push_cast, seval, ↓reduceIte, Za, hN0, hN]
 refine Zm [1, 5] [true] ?_
 simp only [push_cast, seval, ↓reduceIte]
 obtain ⟨z11, hz11, h⟩ := bC h
 refine Zcd (J := (Q2 (fun z11 => JR n (⟨48, [], [(2, .val (.bool false))]⟩ : Env) (Zu O n [none]) (n + 1)) (fun z11 => JX 0 n (⟨48, [], [(1, .ref n 0)]⟩ : Env) (Zu O n [some ⟨false, 30, 11, 1, (Zg a0)⟩]) (n + 1)))) (z := z11) ?_ fun hw => ?_
 ·refine Y7 hz11 (fun s0_ => ⟨48, [], [(1, .ref n 0), (5, .val (.int .i64 s0_))]⟩) (fun s0_ => (Zu O n [some ⟨false, 30, 11, 1, (Zg a0)⟩])) (Q2 (fun z11 => JR n (⟨48, [], [(2, .val (.bool false))]⟩ : Env) (Zu O n [none]) (n + 1)) (fun z11 => JX 0 n (⟨48, [], [(1, .ref n 0)]⟩ : Env) (Zu O n [some ⟨false, 30, 11, 1, (Zg a0)⟩]) (n + 1))) ?_
  intro s0_ x0_ hs0_
  unfold Jv at hs0_
  try dsimp only
  refine Zo ?_
  refine Zs [1, 5, 22] (Zc Zd [] ?_)
  simp only [push_cast, seval, ↓reduceIte, Za, hN0, hN]
  refine Zt (t := (decide (s0_ < (a0.Kids.length : Int)))) rfl (fun c10 => ?_) (fun c10 => ?_)
  ·replace hs0_ := Zx c10 hs0_
   refine Z0 ?_
   try simp only [Zn, Zj]
   refine Zm [1, 5] [true] ?_
   simp only [push_cast, seval, ↓reduceIte]
   refine Zo ?_
   refine Ys ?_
   refine Zo ?_
   obtain ⟨x6, hx6, ax6, bx6, cx6, hs0_⟩ := bE (f := Zk) Zlm (fun _ => rfl) (by decide) hs0_
   have g7 := Zc8 (f := Zk) (off := 1) (sz := 12) Zpv (fun _ => rfl) (by decide) (by decide) hx6
   obtain ⟨y8, hy8, hs0_⟩ := bC hs0_
   refine Zc Zd [] ?_
   simp only [push_cast, Nat.reduceAdd, Nat.reduceSub, Nat.reduceMul, Nat.reduceLeDiff, Nat.reduceLT, Nat.reduceEqDiff, ↓reduceIte, reduceCtorEq, Int.reduceBEq, Int.reduceBNe, Nat.reduceBEq, Int.reduceLE, Int.reduceLT, Int.reduceEq, Int.reduceNe, Int.reduceNeg, Nat.reduceDiv, Nat.reduceMod, Nat.reducePow, Za, ax6, bx6, cx6, g7, hN0, hN]
   refine (Zc4 hy8).then ?_
   simp only [push_cast, Nat.reduceAdd, Nat.reduceSub, Nat.reduceMul, Nat.reduceLeDiff, Nat.reduceLT, Nat.reduceEqDiff, ↓reduceIte, reduceCtorEq, Int.reduceBEq, Int.reduceBNe, Nat.reduceBEq, Int.reduceLE, Int.reduceLT, Int.reduceEq, Int.reduceNe, Int.reduceNeg, Nat.reduceDiv, Nat.reduceMod, Nat.reducePow, Za, ax6, bx6, cx6, g7, hN0, hN]
   refine Zm [1, 5, 32] [true] ?_
   simp only [push_cast, seval, ↓reduceIte]
   refine Zt (t := (!y8)) rfl (fun c9 => ?_) (fun c9 => ?_)
   ·replace hs0_ := Zx c9 hs0_
    refine Zs [2] (Zc Zd [] ?_)
    simp only [push_cast, seval, ↓reduceIte, Za, hN0, hN]
    refine Z5 ?_
    try simp only [Zn, Zj]
    have hs0_ := Option.some.inj hs0_; subst hs0_
    refine And.intro (fun h => by cases h) (And.intro rfl (Fit2.of (Zl hU rfl rfl ?_) (by omega)))
    simp only [push_cast, seval, ↓reduceIte, Za, hN0, hN]
   replace hs0_ := Zw c9 hs0_
   refine Z0 ?_
   try simp only [Zn, Zj]
   refine Zm [1, 5] [true] ?_
   simp only [push_cast, seval, ↓reduceIte]
   refine Zc Zd [] ?_
   simp only [push_cast, seval, ↓reduceIte, Za, hN0, hN]
   have hs0_ := Option.some.inj hs0_; subst hs0_
   refine And.intro rfl (Fit2.of (Zl hU rfl rfl ?_) (by omega))
   simp only [push_cast, seval, ↓reduceIte, Za, hN0, hN]
  replace hs0_ := Zw c10 hs0_
  refine Xs ?_
  try simp only [Zn, Zj, ↓reduceIte, Nat.reduceEqDiff]
  have hs0_ := Option.some.inj hs0_; subst hs0_
  refine And.intro (fun h => by cases h) (And.intro rfl (Fit2.of (Zl hU rfl rfl ?_) (by omega)))
  simp only [push_cast, seval, ↓reduceIte, Za, hN0, hN]
 rcases z11 with z11 | z11
 ·dsimp only [Q2] at hw h
  refine Vz hw ?_
  try simp only [Zn, Zj, ↓reduceIte, Nat.reduceEqDiff]
  have h := Option.some.inj h; subst h
  refine Zy (.inr rfl) hU [.val (.bool false)] (by omega) ?_
  simp only [push_cast, seval, ↓reduceIte, Za, Try.results50, hN0, hN]
 dsimp only [Q2] at hw h
 refine Yv hw ?_
 try simp only [Zn, Zj, ↓reduceIte, Nat.reduceEqDiff]
 refine Zm [1] [true] ?_
 simp only [push_cast, seval, ↓reduceIte]
 refine Zo ?_
 refine Zs [1, 6] (Zc Zd [] ?_)
 simp only [push_cast, seval, ↓reduceIte, Za, hN0, hN]
 refine Zm [1, 6] [true] ?_
 simp only [push_cast, seval, ↓reduceIte]
 obtain ⟨z20, hz20, h⟩ := bC h
 refine Zcd (J := (Q2 (fun z20 => JR n (⟨48, [], [(2, .val (.bool false))]⟩ : Env) (Zu O n [none]) (n + 1)) (fun z20 => JX 2 n (⟨48, [], []⟩ : Env) (Zu O n [none]) (n + 1)))) (z := z20) ?_ fun hw => ?_
 ·refine Y7 hz20 (fun s1_ => ⟨48, [], [(1, .ref n 0), (6, .val (.int .i64 s1_))]⟩) (fun s1_ => (Zu O n [some ⟨false, 30, 11, 1, (Zg a0)⟩])) (Q2 (fun z20 => JR n (⟨48, [], [(2, .val (.bool false))]⟩ : Env) (Zu O n [none]) (n + 1)) (fun z20 => JX 2 n (⟨48, [], []⟩ : Env) (Zu O n [none]) (n + 1))) ?_
  intro s1_ x1_ hs1_
  unfold Jw at hs1_
  try dsimp only
  refine Zo ?_
  refine Zs [1, 6, 37] (Zc Zd [] ?_)
  simp only [push_cast, seval, ↓reduceIte, Za, hN0, hN]
  refine Zt (t := (decide (s1_ < (a0.Ops.length : Int)))) rfl (fun c19 => ?_) (fun c19 => ?_)
  ·replace hs1_ := Zx c19 hs1_
   refine Z0 ?_
   try simp only [Zn, Zj]
   refine Zm [1, 6] [true] ?_
   simp only [push_cast, seval, ↓reduceIte]
   refine Zo ?_
   refine Ys ?_
   refine Zo ?_
   obtain ⟨x15, hx15, ax15, bx15, cx15, hs1_⟩ := bE (f := Zf) Zc5 (fun _ => rfl) (by decide) hs1_
   have g16 := Zc8 (f := Zf) (off := 3) (sz := 14) Zpv (fun _ => rfl) (by decide) (by decide) hx15
   obtain ⟨y17, hy17, hs1_⟩ := bC hs1_
   refine Zc Zd [] ?_
   simp only [push_cast, Nat.reduceAdd, Nat.reduceSub, Nat.reduceMul, Nat.reduceLeDiff, Nat.reduceLT, Nat.reduceEqDiff, ↓reduceIte, reduceCtorEq, Int.reduceBEq, Int.reduceBNe, Nat.reduceBEq, Int.reduceLE, Int.reduceLT, Int.reduceEq, Int.reduceNe, Int.reduceNeg, Nat.reduceDiv, Nat.reduceMod, Nat.reducePow, Za, ax15, bx15, cx15, g16, hN0, hN]
   refine (Zc4 hy17).then ?_
   simp only [push_cast, Nat.reduceAdd, Nat.reduceSub, Nat.reduceMul, Nat.reduceLeDiff, Nat.reduceLT, Nat.reduceEqDiff, ↓reduceIte, reduceCtorEq, Int.reduceBEq, Int.reduceBNe, Nat.reduceBEq, Int.reduceLE, Int.reduceLT, Int.reduceEq, Int.reduceNe, Int.reduceNeg, Nat.reduceDiv, Nat.reduceMod, Nat.reducePow, Za, ax15, bx15, cx15, g16, hN0, hN]
   refine Zm [1, 6, 47] [true] ?_
   simp only [push_cast, seval, ↓reduceIte]
   refine Zt (t := (!y17)) rfl (fun c18 => ?_) (fun c18 => ?_)
   ·replace hs1_ := Zx c18 hs1_
    refine Zs [2] (Zc Zd [] ?_)
    simp only [push_cast, seval, ↓reduceIte, Za, hN0, hN]
    refine Z5 ?_
    try simp only [Zn, Zj]
    have hs1_ := Option.some.inj hs1_; subst hs1_
    refine And.intro (fun h => by cases h) (And.intro rfl (Fit2.of (Zl hU rfl rfl ?_) (by omega)))
    simp only [push_cast, seval, ↓reduceIte, Za, hN0, hN]
   replace hs1_ := Zw c18 hs1_
   refine Z0 ?_
   try simp only [Zn, Zj]
   refine Zm [1, 6] [true] ?_
   simp only [push_cast, seval, ↓reduceIte]
   refine Zc Zd [] ?_
   simp only [push_cast, seval, ↓reduceIte, Za, hN0, hN]
   have hs1_ := Option.some.inj hs1_; subst hs1_
   refine And.intro rfl (Fit2.of (Zl hU rfl rfl ?_) (by omega))
   simp only [push_cast, seval, ↓reduceIte, Za, hN0, hN]
  replace hs1_ := Zw c19 hs1_
  refine Xs ?_
  try simp only [Zn, Zj, ↓reduceIte, Nat.reduceEqDiff]
  have hs1_ := Option.some.inj hs1_; subst hs1_
  refine And.intro (fun h => by cases h) (And.intro rfl (Fit2.of (Zl hU rfl rfl ?_) (by omega)))
  simp only [push_cast, seval, ↓reduceIte, Za, hN0, hN]
 rcases z20 with z20 | z20
 ·dsimp only [Q2] at hw h
  refine Vz hw ?_
  try simp only [Zn, Zj, ↓reduceIte, Nat.reduceEqDiff]
  have h := Option.some.inj h; subst h
  refine Zy (.inr rfl) hU [.val (.bool false)] (by omega) ?_
  simp only [push_cast, seval, ↓reduceIte, Za, Try.results50, hN0, hN]
 dsimp only [Q2] at hw h
 refine Yv hw ?_
 try simp only [Zn, Zj, ↓reduceIte, Nat.reduceEqDiff]
 refine Zm [] [false] ?_
 simp only [push_cast, seval, ↓reduceIte]
 refine Zs [2] (Zc Zd [] ?_)
 simp only [push_cast, seval, ↓reduceIte, Za, hN0, hN]
 refine Z5 ?_
 try simp only [Zn, Zj]
 have h := Option.some.inj h; subst h
 refine Zy (.inr rfl) hU [.val (.bool true)] (by omega) ?_
 simp only [push_cast, seval, ↓reduceIte, Za, Try.results50, hN0, hN]
theorem Zgw : ∀ k, (∀ {a0 : S_api_Edit} {r : Bool} {O : Objs} {n : Nat}, (Qj k) a0 = some r → GTo Try.prog 50 [.agg (Zg a0)] O n (.val (.bool r)) O n) := fun k => by
 induction k with
 | zero => exact @fun a0 r O n h => (nomatch (show (none : Option _) = some _ from h))
 | succ k ih => exact @fun a0 r O n h => Zh8 (ih)  h
theorem Zi8 {a0 : S_api_Edit} {r : Bool} {O : Objs} {n : Nat} (h : Zb4 a0 = some r) : GTo Try.prog 50 [.agg (Zg a0)] O n (.val (.bool r)) O n := by
 obtain ⟨k, hk⟩ := Ur h
 exact (Zgw k)  hk
theorem Zj3 {a0 : S_api_Edit} {r : Bool} {O : Objs} {n : Nat} (h : Ub a0 = some r) : GTo Try.prog 15 [.agg (Zg a0)] O n (.val (.bool r)) O n := by
 unfold Ub at h
 refine Xc Zd Try.call15 Try.func15 rfl (Nat.le_of_ble_eq_true rfl) (Nat.le_refl _) fun hU => ?_
 have hN0 : O n = none := hU.fresh _ (Nat.le_refl _)
 have hN : ∀ k, O (n + k) = none := fun k => hU.fresh _ (Nat.le_add_right _ _)
 show W _ _ _ _ ⟨13, [], [(0, .agg (Zg a0))]⟩ (Zu O n []) _
 refine Zs [1] (Zc Zd [] ?_)
 simp only [push_cast, seval, ↓reduceIte, Za, hN0, hN]
 obtain ⟨z4, hz4, h⟩ := bC h
 refine Y5 (E' := ⟨13, [], [(2, .val (.bool z4))]⟩) (O' := (Zu O n [none])) (n0 := (n + 1)) ?_ ?_
 ·obtain ⟨y8, hy8, hz4⟩ := bC hz4
  rcases Bool.eq_false_or_eq_true y8 with c11 | c11
  ·replace hz4 := Zx c11 hz4
   obtain ⟨y9, hy9, hz4⟩ := bC hz4
   rcases Bool.eq_false_or_eq_true y9 with c12 | c12
   ·replace hz4 := Zx c12 hz4
    try rw [c12] at c11
    obtain ⟨y10, hy10, hz4⟩ := bC hz4
    refine Zc Zd [some true, some true, some true, some true] ?_
    simp only [push_cast, seval, ↓reduceIte, Za, c11, c12, hN0, hN]
    refine (Zco hy8).then ?_
    simp only [push_cast, seval, ↓reduceIte, Za, c11, c12, hN0, hN]
    refine (Zeh hy9).then ?_
    simp only [push_cast, seval, ↓reduceIte, Za, c11, c12, hN0, hN]
    refine (Zi8 hy10).then ?_
    simp only [push_cast, seval, ↓reduceIte, Za, c11, c12, hN0, hN]
    have hz4 := Option.some.inj hz4; subst hz4
    refine And.intro rfl (Fit2.of (Zl hU rfl rfl ?_) (by omega))
    simp only [push_cast, seval, ↓reduceIte, Za, c11, c12, hN0, hN]
   replace hz4 := Zw c12 hz4
   try rw [c12] at c11
   refine Zc Zd [some true, some true, some false, some false] ?_
   simp only [push_cast, seval, ↓reduceIte, Za, c11, c12, hN0, hN]
   refine (Zco hy8).then ?_
   simp only [push_cast, seval, ↓reduceIte, Za, c11, c12, hN0, hN]
   refine (Zeh hy9).then ?_
   simp only [push_cast, seval, ↓reduceIte, Za, c11, c12, hN0, hN]
   have hz4 := Option.some.inj hz4; subst hz4
   refine And.intro rfl (Fit2.of (Zl hU rfl rfl ?_) (by omega))
   simp only [push_cast, seval, ↓reduceIte, Za, c11, c12, hN0, hN]
  replace hz4 := Zw c11 hz4
  refine Zc Zd [some false, some false, some false, some false] ?_
  simp only [push_cast, seval, ↓reduceIte, Za, c11, hN0, hN]
  refine (Zco hy8).then ?_
  simp only [push_cast, seval, ↓reduceIte, Za, c11, hN0, hN]
  have hz4 := Option.some.inj hz4; subst hz4
  refine And.intro rfl (Fit2.of (Zl hU rfl rfl ?_) (by omega))
  simp only [push_cast, seval, ↓reduceIte, Za, c11, hN0, hN]
 refine Z5 ?_
 try simp only [Zn, Zj]
 have h := Option.some.inj h; subst h
 refine Zy (.inr rfl) hU [.val (.bool z4)] (by omega) ?_
 simp only [push_cast, seval, ↓reduceIte, Za, Try.results15, hN0, hN]
theorem Zla {Xx : (S_api_Edit → Option S_api_Edit)} {Xm : (S_api_Op → Option S_api_Op)} (Gb : ∀ {a0 : S_api_Edit} {r : S_api_Edit} {O : Objs} {n : Nat}, Xx a0 = some r → GTo Try.prog 61 [.agg (Zg a0)] O n (.agg (Zg r)) O n) (Zav : ∀ {a0 : S_api_Op} {r : S_api_Op} {O : Objs} {n : Nat}, Xm a0 = some r → GTo Try.prog 102 [.agg (Ym a0)] O n (.agg (Ym r)) O n) {a0 : S_api_Edit} {r : S_api_Edit} {O : Objs} {n : Nat} (h : Gi Xx Xm a0 = some r) : GTo Try.prog 61 [.agg (Zg a0)] O n (.agg (Zg r)) O n := by
 unfold Gi at h
 refine Xc Zd Try.call61 Try.func61 rfl (Nat.le_of_ble_eq_true rfl) (Nat.le_refl _) fun hU => ?_
 have hN0 : O n = none := hU.fresh _ (Nat.le_refl _)
 have hN : ∀ k, O (n + k) = none := fun k => hU.fresh _ (Nat.le_add_right _ _)
 show W _ _ _ _ ⟨76, [], [(0, .agg (Zg a0))]⟩ (Zu O n []) _
 refine Zs [1, 2] (Zc Zd [] ?_)
 simp only [push_cast, seval, ↓reduceIte, Za, hN0, hN]
 refine Zo ?_
 refine Zc Zd [] ?_
 simp only [push_cast, seval, ↓reduceIte, Za, hN0, hN]
 refine Zm [1, 2, 3] [true, true, true] ?_
 simp only [push_cast, seval, ↓reduceIte]
 refine Zo ?_
 refine Zs [1, 2, 3, 20, 21, 22] (Zc Zd [] ?_)
 simp only [push_cast, seval, ↓reduceIte, Za, hN0, hN]
 refine Zm [1, 2, 3, 20, 21, 22] [true, true, true] ?_
 simp only [push_cast, seval, ↓reduceIte]
 refine Ja (E' := (⟨76, [], [(1, .ref n 0), (2, .ref (n + 1) 0), (3, .ref (n + 2) 0), (20, .sl a0.Words.length (fl Zh a0.Words)), (21, .val (.int .i64 (a0.Words.length : Int))), (22, .val (.int .i64 0))]⟩ : Env)) (O' := (Zu O n [some ⟨false, 30, 11, 1, (Zg a0)⟩, some ⟨false, 30, 11, 1, [.val (.int .i64 0), .val (.int .i64 0), .val (.slice none 0 0), .val (.slice none 0 0), .val (.int .i64 0), .val (.slice none 0 0), .val (.slice none 0 0), .val (.slice none 0 0), .val (.slice none 0 0), .val (.int .i64 0), .val (.slice none 0 0)]⟩, some ⟨false, 30, 11, 1, [.val (.int .i64 a0.Kind), .val (.int .i64 a0.New.Kind), .sl a0.New.Words.length (fl (eI .u64) a0.New.Words), .sl a0.New.Kids.length (fl Zb a0.New.Kids), .val (.int .i64 a0.Old.Kind), .sl a0.Old.Words.length (fl (eI .u64) a0.Old.Words), .sl a0.Old.Kids.length (fl Zb a0.Old.Kids), .row (n + 3) ([] : List Zq).length, .val (.slice none 0 0), .val (.int .i64 a0.List_), .val (.slice none 0 0)]⟩, some ⟨true, 58, 4, ([] : List Zq).length, fl Zh ([] : List Zq)⟩, none])) (n' := (n + 5)) ?_ ?_
 ·refine Fit2.trans (E' := (⟨76, [], [(1, .ref n 0), (2, .ref (n + 1) 0), (3, .ref (n + 2) 0), (20, .sl a0.Words.length (fl Zh a0.Words)), (21, .val (.int .i64 (a0.Words.length : Int))), (22, .val (.int .i64 0))]⟩ : Env)) (O' := (Zu O n [some ⟨false, 30, 11, 1, (Zg a0)⟩, some ⟨false, 30, 11, 1, [.val (.int .i64 0), .val (.int .i64 0), .val (.slice none 0 0), .val (.slice none 0 0), .val (.int .i64 0), .val (.slice none 0 0), .val (.slice none 0 0), .val (.slice none 0 0), .val (.slice none 0 0), .val (.int .i64 0), .val (.slice none 0 0)]⟩, some ⟨false, 30, 11, 1, [.val (.int .i64 a0.Kind), .val (.int .i64 a0.New.Kind), .sl a0.New.Words.length (fl (eI .u64) a0.New.Words), .sl a0.New.Kids.length (fl Zb a0.New.Kids), .val (.int .i64 a0.Old.Kind), .sl a0.Old.Words.length (fl (eI .u64) a0.Old.Words), .sl a0.Old.Kids.length (fl Zb a0.Old.Kids), .val (.slice none 0 0), .val (.slice none 0 0), .val (.int .i64 a0.List_), .val (.slice none 0 0)]⟩])) (n' := (n + 3)) (Fit2.of (Zl hU rfl rfl ?_) (by omega)) ?_
  ·simp only [push_cast, seval, ↓reduceIte, Za, hN0, hN]
  refine Fit2.trans (E' := (⟨76, [], [(1, .ref n 0), (2, .ref (n + 1) 0), (3, .ref (n + 2) 0), (20, .sl a0.Words.length (fl Zh a0.Words)), (21, .val (.int .i64 (a0.Words.length : Int))), (22, .val (.int .i64 0))]⟩ : Env)) (O' := (Zu O n [some ⟨false, 30, 11, 1, (Zg a0)⟩, some ⟨false, 30, 11, 1, [.val (.int .i64 0), .val (.int .i64 0), .val (.slice none 0 0), .val (.slice none 0 0), .val (.int .i64 0), .val (.slice none 0 0), .val (.slice none 0 0), .val (.slice none 0 0), .val (.slice none 0 0), .val (.int .i64 0), .val (.slice none 0 0)]⟩, some ⟨false, 30, 11, 1, [.val (.int .i64 a0.Kind), .val (.int .i64 a0.New.Kind), .sl a0.New.Words.length (fl (eI .u64) a0.New.Words), .sl a0.New.Kids.length (fl Zb a0.New.Kids), .val (.int .i64 a0.Old.Kind), .sl a0.Old.Words.length (fl (eI .u64) a0.Old.Words), .sl a0.Old.Kids.length (fl Zb a0.Old.Kids), .row (n + 3) 0, .val (.slice none 0 0), .val (.int .i64 a0.List_), .val (.slice none 0 0)]⟩, some ⟨true, 58, 4, 0, []⟩])) (n' := (n + 4)) ?_ ?_
  ·have ha := Va (ba := n) (E := (⟨76, [], [(1, .ref n 0), (2, .ref (n + 1) 0), (3, .ref (n + 2) 0), (20, .sl a0.Words.length (fl Zh a0.Words)), (21, .val (.int .i64 (a0.Words.length : Int))), (22, .val (.int .i64 0))]⟩ : Env)) (O := (Zu O n [some ⟨false, 30, 11, 1, [.val (.int .i64 a0.Kind), .val (.int .i64 a0.Old.Kind), .sl a0.Old.Words.length (fl (eI .u64) a0.Old.Words), .sl a0.Old.Kids.length (fl Zb a0.Old.Kids), .val (.int .i64 a0.New.Kind), .sl a0.New.Words.length (fl (eI .u64) a0.New.Words), .sl a0.New.Kids.length (fl Zb a0.New.Kids), .sl a0.Words.length (fl Zh a0.Words), .sl a0.Kids.length (fl Zk a0.Kids), .val (.int .i64 a0.List_), .sl a0.Ops.length (fl Zf a0.Ops)]⟩, some ⟨false, 30, 11, 1, [.val (.int .i64 0), .val (.int .i64 0), .val (.slice none 0 0), .val (.slice none 0 0), .val (.int .i64 0), .val (.slice none 0 0), .val (.slice none 0 0), .val (.slice none 0 0), .val (.slice none 0 0), .val (.int .i64 0), .val (.slice none 0 0)]⟩, some ⟨false, 30, 11, 1, [.val (.int .i64 a0.Kind), .val (.int .i64 a0.New.Kind), .sl a0.New.Words.length (fl (eI .u64) a0.New.Words), .sl a0.New.Kids.length (fl Zb a0.New.Kids), .val (.int .i64 a0.Old.Kind), .sl a0.Old.Words.length (fl (eI .u64) a0.Old.Words), .sl a0.Old.Kids.length (fl Zb a0.Old.Kids), .val (.slice none 0 0), .val (.slice none 0 0), .val (.int .i64 a0.List_), .val (.slice none 0 0)]⟩])) (n := (n + 3)) (p := (n + 2)) (k := 7) (q := ⟨false, 30, 11, 1, [.val (.int .i64 a0.Kind), .val (.int .i64 a0.New.Kind), .sl a0.New.Words.length (fl (eI .u64) a0.New.Words), .sl a0.New.Kids.length (fl Zb a0.New.Kids), .val (.int .i64 a0.Old.Kind), .sl a0.Old.Words.length (fl (eI .u64) a0.Old.Words), .sl a0.Old.Kids.length (fl Zb a0.Old.Kids), .val (.slice none 0 0), .val (.slice none 0 0), .val (.int .i64 a0.List_), .val (.slice none 0 0)]⟩) 58 4 (by simp only [K8, Zah, List.getElem?_cons_zero, List.getElem?_cons_succ, Option.join_some, Z8]) rfl (by omega)
   simp only [Y0, Yl, Uj, K9, List.set_cons_zero, List.set_cons_succ, List.cons_append, List.nil_append, List.length_cons, List.length_nil, Nat.zero_add, Nat.reduceAdd, Nat.reduceLT, Nat.add_assoc] at ha
   exact ha
  refine Fit2.trans (E' := (⟨76, [], [(1, .ref n 0), (2, .ref (n + 1) 0), (3, .ref (n + 2) 0), (20, .sl a0.Words.length (fl Zh a0.Words)), (21, .val (.int .i64 (a0.Words.length : Int))), (22, .val (.int .i64 0))]⟩ : Env)) (O' := (Zu O n [some ⟨false, 30, 11, 1, (Zg a0)⟩, some ⟨false, 30, 11, 1, [.val (.int .i64 0), .val (.int .i64 0), .val (.slice none 0 0), .val (.slice none 0 0), .val (.int .i64 0), .val (.slice none 0 0), .val (.slice none 0 0), .val (.slice none 0 0), .val (.slice none 0 0), .val (.int .i64 0), .val (.slice none 0 0)]⟩, some ⟨false, 30, 11, 1, [.val (.int .i64 a0.Kind), .val (.int .i64 a0.New.Kind), .sl a0.New.Words.length (fl (eI .u64) a0.New.Words), .sl a0.New.Kids.length (fl Zb a0.New.Kids), .val (.int .i64 a0.Old.Kind), .sl a0.Old.Words.length (fl (eI .u64) a0.Old.Words), .sl a0.Old.Kids.length (fl Zb a0.Old.Kids), .row (n + 3) ([] : List Zq).length, .val (.slice none 0 0), .val (.int .i64 a0.List_), .val (.slice none 0 0)]⟩, some ⟨true, 58, 4, ([] : List Zq).length, fl Zh ([] : List Zq)⟩])) (n' := (n + 4)) (Fit2.of (Zl hU rfl rfl ?_) (by omega)) ?_
  ·simp only [push_cast, seval, ↓reduceIte, Za, hN0, hN]
  refine Jt (k := 4) (k' := 5) hU [0, 1, 2, 3] [0, 1, 2, 3, 0] rfl rfl rfl rfl ⟨rfl, rfl⟩ ?_
  simp only [push_cast, seval, ↓reduceIte, Za, hN0, hN]
 obtain ⟨z5, hz5, h⟩ := bC h
 refine Yv (E' := ⟨76, [], [(1, .ref n 0), (2, .ref (n + 1) 0), (3, .ref (n + 2) 0)]⟩) (O' := (Zu O n [some ⟨false, 30, 11, 1, (Zg a0)⟩, some ⟨false, 30, 11, 1, [.val (.int .i64 0), .val (.int .i64 0), .val (.slice none 0 0), .val (.slice none 0 0), .val (.int .i64 0), .val (.slice none 0 0), .val (.slice none 0 0), .val (.slice none 0 0), .val (.slice none 0 0), .val (.int .i64 0), .val (.slice none 0 0)]⟩, some ⟨false, 30, 11, 1, [.val (.int .i64 a0.Kind), .val (.int .i64 a0.New.Kind), .sl a0.New.Words.length (fl (eI .u64) a0.New.Words), .sl a0.New.Kids.length (fl Zb a0.New.Kids), .val (.int .i64 a0.Old.Kind), .sl a0.Old.Words.length (fl (eI .u64) a0.Old.Words), .sl a0.Old.Kids.length (fl Zb a0.Old.Kids), .row (n + 3) z5.length, .val (.slice none 0 0), .val (.int .i64 a0.List_), .val (.slice none 0 0)]⟩, some ⟨true, 58, 4, z5.length, fl Zh z5⟩, none])) (n0 := (n + 5)) ?_ ?_
 ·refine Y7 hz5 (fun s0_ => ⟨76, [], [(1, .ref n 0), (2, .ref (n + 1) 0), (3, .ref (n + 2) 0), (20, .sl a0.Words.length (fl Zh a0.Words)), (21, .val (.int .i64 (a0.Words.length : Int))), (22, .val (.int .i64 s0_.1))]⟩) (fun s0_ => (Zu O n [some ⟨false, 30, 11, 1, (Zg a0)⟩, some ⟨false, 30, 11, 1, [.val (.int .i64 0), .val (.int .i64 0), .val (.slice none 0 0), .val (.slice none 0 0), .val (.int .i64 0), .val (.slice none 0 0), .val (.slice none 0 0), .val (.slice none 0 0), .val (.slice none 0 0), .val (.int .i64 0), .val (.slice none 0 0)]⟩, some ⟨false, 30, 11, 1, [.val (.int .i64 a0.Kind), .val (.int .i64 a0.New.Kind), .sl a0.New.Words.length (fl (eI .u64) a0.New.Words), .sl a0.New.Kids.length (fl Zb a0.New.Kids), .val (.int .i64 a0.Old.Kind), .sl a0.Old.Words.length (fl (eI .u64) a0.Old.Words), .sl a0.Old.Kids.length (fl Zb a0.Old.Kids), .row (n + 3) s0_.2.length, .val (.slice none 0 0), .val (.int .i64 a0.List_), .val (.slice none 0 0)]⟩, some ⟨true, 58, 4, s0_.2.length, fl Zh s0_.2⟩, none])) (fun z5 => JX 0 n (⟨76, [], [(1, .ref n 0), (2, .ref (n + 1) 0), (3, .ref (n + 2) 0)]⟩ : Env) (Zu O n [some ⟨false, 30, 11, 1, (Zg a0)⟩, some ⟨false, 30, 11, 1, [.val (.int .i64 0), .val (.int .i64 0), .val (.slice none 0 0), .val (.slice none 0 0), .val (.int .i64 0), .val (.slice none 0 0), .val (.slice none 0 0), .val (.slice none 0 0), .val (.slice none 0 0), .val (.int .i64 0), .val (.slice none 0 0)]⟩, some ⟨false, 30, 11, 1, [.val (.int .i64 a0.Kind), .val (.int .i64 a0.New.Kind), .sl a0.New.Words.length (fl (eI .u64) a0.New.Words), .sl a0.New.Kids.length (fl Zb a0.New.Kids), .val (.int .i64 a0.Old.Kind), .sl a0.Old.Words.length (fl (eI .u64) a0.Old.Words), .sl a0.Old.Kids.length (fl Zb a0.Old.Kids), .row (n + 3) z5.length, .val (.slice none 0 0), .val (.int .i64 a0.List_), .val (.slice none 0 0)]⟩, some ⟨true, 58, 4, z5.length, fl Zh z5⟩, none]) (n + 5)) ?_
  intro s0_ x0_ hs0_
  unfold Vf at hs0_
  try dsimp only
  refine Zs [1, 2, 3, 20, 21, 22, 23] (Zc Zd [] ?_)
  simp only [push_cast, seval, ↓reduceIte, Za, hN0, hN]
  refine Zo ?_
  refine Zt (t := (decide (s0_.1 < (a0.Words.length : Int)))) rfl (fun c4 => ?_) (fun c4 => ?_)
  ·replace hs0_ := Zx c4 hs0_
   refine Z0 ?_
   try simp only [Zn, Zj]
   refine Zm [1, 2, 3, 20, 21, 22] [true, true, true, true, false] ?_
   simp only [push_cast, seval, ↓reduceIte]
   refine Zo ?_
   refine Ys ?_
   refine Zo ?_
   obtain ⟨x2, hx2, ax2, bx2, cx2, hs0_⟩ := bE (f := Zh) Zru (fun _ => rfl) (by decide) hs0_
   refine Zc Zd [] ?_
   simp only [push_cast, Nat.reduceAdd, Nat.reduceSub, Nat.reduceMul, Nat.reduceLeDiff, Nat.reduceLT, Nat.reduceEqDiff, ↓reduceIte, reduceCtorEq, Int.reduceBEq, Int.reduceBNe, Nat.reduceBEq, Int.reduceLE, Int.reduceLT, Int.reduceEq, Int.reduceNe, Int.reduceNeg, Nat.reduceDiv, Nat.reduceMod, Nat.reducePow, Za, ax2, bx2, cx2, hN0, hN]
   refine Zm [1, 2, 3, 5, 20, 21, 22] [true, true, true, true, false, true] ?_
   simp only [push_cast, seval, ↓reduceIte]
   obtain ⟨l3, pl3, ql3, el3, hs0_⟩ := bA (k := 1) rfl hs0_
   refine Zc Zd [] ?_
   simp only [push_cast, seval, ↓reduceIte, Za, pl3, ql3, el3, hN0, hN]
   refine Zdp ⟨76, [], [(1, .ref n 0), (2, .ref (n + 1) 0), (3, .ref (n + 2) 0), (20, .sl a0.Words.length (fl Zh a0.Words)), (21, .val (.int .i64 (a0.Words.length : Int))), (22, .val (.int .i64 s0_.1))]⟩ (Zu O n [some ⟨false, 30, 11, 1, (Zg a0)⟩, some ⟨false, 30, 11, 1, [.val (.int .i64 0), .val (.int .i64 0), .val (.slice none 0 0), .val (.slice none 0 0), .val (.int .i64 0), .val (.slice none 0 0), .val (.slice none 0 0), .val (.slice none 0 0), .val (.slice none 0 0), .val (.int .i64 0), .val (.slice none 0 0)]⟩, some ⟨false, 30, 11, 1, [.val (.int .i64 a0.Kind), .val (.int .i64 a0.New.Kind), .sl a0.New.Words.length (fl (eI .u64) a0.New.Words), .sl a0.New.Kids.length (fl Zb a0.New.Kids), .val (.int .i64 a0.Old.Kind), .sl a0.Old.Words.length (fl (eI .u64) a0.Old.Words), .sl a0.Old.Kids.length (fl Zb a0.Old.Kids), .row (n + 3) l3.length, .val (.slice none 0 0), .val (.int .i64 a0.List_), .val (.slice none 0 0)]⟩, some ⟨true, 58, 4, l3.length, fl Zh l3⟩, none, none, none]) (Zl hU rfl rfl ?_) ?_
   ·simp only [push_cast, seval, ↓reduceIte, Za, pl3, ql3, el3, hN0, hN]
   refine Zc Zd [] ?_
   simp only [push_cast, seval, ↓reduceIte, Za, hN0, hN]
   have hs0_ := Option.some.inj hs0_; subst hs0_
   refine And.intro rfl (Fit2.of (Zl hU rfl rfl ?_) (by omega))
   simp only [push_cast, seval, ↓reduceIte, Za, hN0, hN]
  replace hs0_ := Zw c4 hs0_
  refine Xs ?_
  try simp only [Zn, Zj, ↓reduceIte, Nat.reduceEqDiff]
  have hs0_ := Option.some.inj hs0_; subst hs0_
  refine And.intro (fun h => by cases h) (And.intro rfl (Fit2.of (Zl hU rfl rfl ?_) (by omega)))
  simp only [push_cast, seval, ↓reduceIte, Za, hN0, hN]
 try simp only [Zn, Zj, ↓reduceIte, Nat.reduceEqDiff]
 refine Zm [1, 2, 3] [true, true, true, true, false] ?_
 simp only [push_cast, seval, ↓reduceIte]
 refine Zo ?_
 refine Zs [1, 2, 3, 42, 43, 44] (Zc Zd [] ?_)
 simp only [push_cast, seval, ↓reduceIte, Za, hN0, hN]
 refine Zm [1, 2, 3, 42, 43, 44] [true, true, true, true, false] ?_
 simp only [push_cast, seval, ↓reduceIte]
 refine Ja (E' := (⟨76, [], [(1, .ref n 0), (2, .ref (n + 1) 0), (3, .ref (n + 2) 0), (42, .sl a0.Kids.length (fl Zk a0.Kids)), (43, .val (.int .i64 (a0.Kids.length : Int))), (44, .val (.int .i64 0))]⟩ : Env)) (O' := (Zu O n [some ⟨false, 30, 11, 1, (Zg a0)⟩, some ⟨false, 30, 11, 1, [.val (.int .i64 0), .val (.int .i64 0), .val (.slice none 0 0), .val (.slice none 0 0), .val (.int .i64 0), .val (.slice none 0 0), .val (.slice none 0 0), .val (.slice none 0 0), .val (.slice none 0 0), .val (.int .i64 0), .val (.slice none 0 0)]⟩, some ⟨false, 30, 11, 1, [.val (.int .i64 a0.Kind), .val (.int .i64 a0.New.Kind), .sl a0.New.Words.length (fl (eI .u64) a0.New.Words), .sl a0.New.Kids.length (fl Zb a0.New.Kids), .val (.int .i64 a0.Old.Kind), .sl a0.Old.Words.length (fl (eI .u64) a0.Old.Words), .sl a0.Old.Kids.length (fl Zb a0.Old.Kids), .row (n + 3) z5.length, .row (n + 5) ([] : List S_api_KidEdit).length, .val (.int .i64 a0.List_), .val (.slice none 0 0)]⟩, some ⟨true, 58, 4, z5.length, fl Zh z5⟩, none, some ⟨true, 71, 12, ([] : List S_api_KidEdit).length, fl Zk ([] : List S_api_KidEdit)⟩, none])) (n' := (n + 7)) ?_ ?_
 ·refine Fit2.trans (E' := (⟨76, [], [(1, .ref n 0), (2, .ref (n + 1) 0), (3, .ref (n + 2) 0), (42, .sl a0.Kids.length (fl Zk a0.Kids)), (43, .val (.int .i64 (a0.Kids.length : Int))), (44, .val (.int .i64 0))]⟩ : Env)) (O' := (Zu O n [some ⟨false, 30, 11, 1, (Zg a0)⟩, some ⟨false, 30, 11, 1, [.val (.int .i64 0), .val (.int .i64 0), .val (.slice none 0 0), .val (.slice none 0 0), .val (.int .i64 0), .val (.slice none 0 0), .val (.slice none 0 0), .val (.slice none 0 0), .val (.slice none 0 0), .val (.int .i64 0), .val (.slice none 0 0)]⟩, some ⟨false, 30, 11, 1, [.val (.int .i64 a0.Kind), .val (.int .i64 a0.New.Kind), .sl a0.New.Words.length (fl (eI .u64) a0.New.Words), .sl a0.New.Kids.length (fl Zb a0.New.Kids), .val (.int .i64 a0.Old.Kind), .sl a0.Old.Words.length (fl (eI .u64) a0.Old.Words), .sl a0.Old.Kids.length (fl Zb a0.Old.Kids), .row (n + 3) z5.length, .val (.slice none 0 0), .val (.int .i64 a0.List_), .val (.slice none 0 0)]⟩, some ⟨true, 58, 4, z5.length, fl Zh z5⟩, none])) (n' := (n + 5)) (Fit2.of (Zl hU rfl rfl ?_) (by omega)) ?_
  ·simp only [push_cast, seval, ↓reduceIte, Za, hN0, hN]
  refine Fit2.trans (E' := (⟨76, [], [(1, .ref n 0), (2, .ref (n + 1) 0), (3, .ref (n + 2) 0), (42, .sl a0.Kids.length (fl Zk a0.Kids)), (43, .val (.int .i64 (a0.Kids.length : Int))), (44, .val (.int .i64 0))]⟩ : Env)) (O' := (Zu O n [some ⟨false, 30, 11, 1, (Zg a0)⟩, some ⟨false, 30, 11, 1, [.val (.int .i64 0), .val (.int .i64 0), .val (.slice none 0 0), .val (.slice none 0 0), .val (.int .i64 0), .val (.slice none 0 0), .val (.slice none 0 0), .val (.slice none 0 0), .val (.slice none 0 0), .val (.int .i64 0), .val (.slice none 0 0)]⟩, some ⟨false, 30, 11, 1, [.val (.int .i64 a0.Kind), .val (.int .i64 a0.New.Kind), .sl a0.New.Words.length (fl (eI .u64) a0.New.Words), .sl a0.New.Kids.length (fl Zb a0.New.Kids), .val (.int .i64 a0.Old.Kind), .sl a0.Old.Words.length (fl (eI .u64) a0.Old.Words), .sl a0.Old.Kids.length (fl Zb a0.Old.Kids), .row (n + 3) z5.length, .row (n + 5) 0, .val (.int .i64 a0.List_), .val (.slice none 0 0)]⟩, some ⟨true, 58, 4, z5.length, fl Zh z5⟩, none, some ⟨true, 71, 12, 0, []⟩])) (n' := (n + 6)) ?_ ?_
  ·have ha := Va (ba := n) (E := (⟨76, [], [(1, .ref n 0), (2, .ref (n + 1) 0), (3, .ref (n + 2) 0), (42, .sl a0.Kids.length (fl Zk a0.Kids)), (43, .val (.int .i64 (a0.Kids.length : Int))), (44, .val (.int .i64 0))]⟩ : Env)) (O := (Zu O n [some ⟨false, 30, 11, 1, [.val (.int .i64 a0.Kind), .val (.int .i64 a0.Old.Kind), .sl a0.Old.Words.length (fl (eI .u64) a0.Old.Words), .sl a0.Old.Kids.length (fl Zb a0.Old.Kids), .val (.int .i64 a0.New.Kind), .sl a0.New.Words.length (fl (eI .u64) a0.New.Words), .sl a0.New.Kids.length (fl Zb a0.New.Kids), .sl a0.Words.length (fl Zh a0.Words), .sl a0.Kids.length (fl Zk a0.Kids), .val (.int .i64 a0.List_), .sl a0.Ops.length (fl Zf a0.Ops)]⟩, some ⟨false, 30, 11, 1, [.val (.int .i64 0), .val (.int .i64 0), .val (.slice none 0 0), .val (.slice none 0 0), .val (.int .i64 0), .val (.slice none 0 0), .val (.slice none 0 0), .val (.slice none 0 0), .val (.slice none 0 0), .val (.int .i64 0), .val (.slice none 0 0)]⟩, some ⟨false, 30, 11, 1, [.val (.int .i64 a0.Kind), .val (.int .i64 a0.New.Kind), .sl a0.New.Words.length (fl (eI .u64) a0.New.Words), .sl a0.New.Kids.length (fl Zb a0.New.Kids), .val (.int .i64 a0.Old.Kind), .sl a0.Old.Words.length (fl (eI .u64) a0.Old.Words), .sl a0.Old.Kids.length (fl Zb a0.Old.Kids), .row (n + 3) z5.length, .val (.slice none 0 0), .val (.int .i64 a0.List_), .val (.slice none 0 0)]⟩, some ⟨true, 58, 4, z5.length, fl Zh z5⟩, none])) (n := (n + 5)) (p := (n + 2)) (k := 8) (q := ⟨false, 30, 11, 1, [.val (.int .i64 a0.Kind), .val (.int .i64 a0.New.Kind), .sl a0.New.Words.length (fl (eI .u64) a0.New.Words), .sl a0.New.Kids.length (fl Zb a0.New.Kids), .val (.int .i64 a0.Old.Kind), .sl a0.Old.Words.length (fl (eI .u64) a0.Old.Words), .sl a0.Old.Kids.length (fl Zb a0.Old.Kids), .row (n + 3) z5.length, .val (.slice none 0 0), .val (.int .i64 a0.List_), .val (.slice none 0 0)]⟩) 71 12 (by simp only [K8, Zah, List.getElem?_cons_zero, List.getElem?_cons_succ, Option.join_some, Z8]) rfl (by omega)
   simp only [Y0, Yl, Uj, K9, List.set_cons_zero, List.set_cons_succ, List.cons_append, List.nil_append, List.length_cons, List.length_nil, Nat.zero_add, Nat.reduceAdd, Nat.reduceLT, Nat.add_assoc] at ha
   exact ha
  refine Fit2.trans (E' := (⟨76, [], [(1, .ref n 0), (2, .ref (n + 1) 0), (3, .ref (n + 2) 0), (42, .sl a0.Kids.length (fl Zk a0.Kids)), (43, .val (.int .i64 (a0.Kids.length : Int))), (44, .val (.int .i64 0))]⟩ : Env)) (O' := (Zu O n [some ⟨false, 30, 11, 1, (Zg a0)⟩, some ⟨false, 30, 11, 1, [.val (.int .i64 0), .val (.int .i64 0), .val (.slice none 0 0), .val (.slice none 0 0), .val (.int .i64 0), .val (.slice none 0 0), .val (.slice none 0 0), .val (.slice none 0 0), .val (.slice none 0 0), .val (.int .i64 0), .val (.slice none 0 0)]⟩, some ⟨false, 30, 11, 1, [.val (.int .i64 a0.Kind), .val (.int .i64 a0.New.Kind), .sl a0.New.Words.length (fl (eI .u64) a0.New.Words), .sl a0.New.Kids.length (fl Zb a0.New.Kids), .val (.int .i64 a0.Old.Kind), .sl a0.Old.Words.length (fl (eI .u64) a0.Old.Words), .sl a0.Old.Kids.length (fl Zb a0.Old.Kids), .row (n + 3) z5.length, .row (n + 5) ([] : List S_api_KidEdit).length, .val (.int .i64 a0.List_), .val (.slice none 0 0)]⟩, some ⟨true, 58, 4, z5.length, fl Zh z5⟩, none, some ⟨true, 71, 12, ([] : List S_api_KidEdit).length, fl Zk ([] : List S_api_KidEdit)⟩])) (n' := (n + 6)) (Fit2.of (Zl hU rfl rfl ?_) (by omega)) ?_
  ·simp only [push_cast, seval, ↓reduceIte, Za, hN0, hN]
  refine Jt (k := 6) (k' := 7) hU [0, 1, 2, 3, 6, 5] [0, 1, 2, 3, 0, 5, 0] rfl rfl rfl rfl ⟨rfl, rfl⟩ ?_
  simp only [push_cast, seval, ↓reduceIte, Za, hN0, hN]
 obtain ⟨z11, hz11, h⟩ := bC h
 refine Yv (E' := ⟨76, [], [(1, .ref n 0), (2, .ref (n + 1) 0), (3, .ref (n + 2) 0)]⟩) (O' := (Zu O n [some ⟨false, 30, 11, 1, (Zg a0)⟩, some ⟨false, 30, 11, 1, [.val (.int .i64 0), .val (.int .i64 0), .val (.slice none 0 0), .val (.slice none 0 0), .val (.int .i64 0), .val (.slice none 0 0), .val (.slice none 0 0), .val (.slice none 0 0), .val (.slice none 0 0), .val (.int .i64 0), .val (.slice none 0 0)]⟩, some ⟨false, 30, 11, 1, [.val (.int .i64 a0.Kind), .val (.int .i64 a0.New.Kind), .sl a0.New.Words.length (fl (eI .u64) a0.New.Words), .sl a0.New.Kids.length (fl Zb a0.New.Kids), .val (.int .i64 a0.Old.Kind), .sl a0.Old.Words.length (fl (eI .u64) a0.Old.Words), .sl a0.Old.Kids.length (fl Zb a0.Old.Kids), .row (n + 3) z5.length, .row (n + 5) z11.length, .val (.int .i64 a0.List_), .val (.slice none 0 0)]⟩, some ⟨true, 58, 4, z5.length, fl Zh z5⟩, none, some ⟨true, 71, 12, z11.length, fl Zk z11⟩, none])) (n0 := (n + 7)) ?_ ?_
 ·refine Y7 hz11 (fun s1_ => ⟨76, [], [(1, .ref n 0), (2, .ref (n + 1) 0), (3, .ref (n + 2) 0), (42, .sl a0.Kids.length (fl Zk a0.Kids)), (43, .val (.int .i64 (a0.Kids.length : Int))), (44, .val (.int .i64 s1_.1))]⟩) (fun s1_ => (Zu O n [some ⟨false, 30, 11, 1, (Zg a0)⟩, some ⟨false, 30, 11, 1, [.val (.int .i64 0), .val (.int .i64 0), .val (.slice none 0 0), .val (.slice none 0 0), .val (.int .i64 0), .val (.slice none 0 0), .val (.slice none 0 0), .val (.slice none 0 0), .val (.slice none 0 0), .val (.int .i64 0), .val (.slice none 0 0)]⟩, some ⟨false, 30, 11, 1, [.val (.int .i64 a0.Kind), .val (.int .i64 a0.New.Kind), .sl a0.New.Words.length (fl (eI .u64) a0.New.Words), .sl a0.New.Kids.length (fl Zb a0.New.Kids), .val (.int .i64 a0.Old.Kind), .sl a0.Old.Words.length (fl (eI .u64) a0.Old.Words), .sl a0.Old.Kids.length (fl Zb a0.Old.Kids), .row (n + 3) z5.length, .row (n + 5) s1_.2.length, .val (.int .i64 a0.List_), .val (.slice none 0 0)]⟩, some ⟨true, 58, 4, z5.length, fl Zh z5⟩, none, some ⟨true, 71, 12, s1_.2.length, fl Zk s1_.2⟩, none])) (fun z11 => JX 2 n (⟨76, [], [(1, .ref n 0), (2, .ref (n + 1) 0), (3, .ref (n + 2) 0)]⟩ : Env) (Zu O n [some ⟨false, 30, 11, 1, (Zg a0)⟩, some ⟨false, 30, 11, 1, [.val (.int .i64 0), .val (.int .i64 0), .val (.slice none 0 0), .val (.slice none 0 0), .val (.int .i64 0), .val (.slice none 0 0), .val (.slice none 0 0), .val (.slice none 0 0), .val (.slice none 0 0), .val (.int .i64 0), .val (.slice none 0 0)]⟩, some ⟨false, 30, 11, 1, [.val (.int .i64 a0.Kind), .val (.int .i64 a0.New.Kind), .sl a0.New.Words.length (fl (eI .u64) a0.New.Words), .sl a0.New.Kids.length (fl Zb a0.New.Kids), .val (.int .i64 a0.Old.Kind), .sl a0.Old.Words.length (fl (eI .u64) a0.Old.Words), .sl a0.Old.Kids.length (fl Zb a0.Old.Kids), .row (n + 3) z5.length, .row (n + 5) z11.length, .val (.int .i64 a0.List_), .val (.slice none 0 0)]⟩, some ⟨true, 58, 4, z5.length, fl Zh z5⟩, none, some ⟨true, 71, 12, z11.length, fl Zk z11⟩, none]) (n + 7)) ?_
  intro s1_ x1_ hs1_
  unfold Vg at hs1_
  try dsimp only
  refine Zs [1, 2, 3, 42, 43, 44, 45] (Zc Zd [] ?_)
  simp only [push_cast, seval, ↓reduceIte, Za, hN0, hN]
  refine Zo ?_
  refine Zt (t := (decide (s1_.1 < (a0.Kids.length : Int)))) rfl (fun c10 => ?_) (fun c10 => ?_)
  ·replace hs1_ := Zx c10 hs1_
   refine Z0 ?_
   try simp only [Zn, Zj]
   refine Zm [1, 2, 3, 42, 43, 44] [true, true, true, true, false, true, false] ?_
   simp only [push_cast, seval, ↓reduceIte]
   refine Zo ?_
   refine Ys ?_
   refine Zo ?_
   obtain ⟨x7, hx7, ax7, bx7, cx7, hs1_⟩ := bE (f := Zk) Zlm (fun _ => rfl) (by decide) hs1_
   refine Zc Zd [] ?_
   simp only [push_cast, Nat.reduceAdd, Nat.reduceSub, Nat.reduceMul, Nat.reduceLeDiff, Nat.reduceLT, Nat.reduceEqDiff, ↓reduceIte, reduceCtorEq, Int.reduceBEq, Int.reduceBNe, Nat.reduceBEq, Int.reduceLE, Int.reduceLT, Int.reduceEq, Int.reduceNe, Int.reduceNeg, Nat.reduceDiv, Nat.reduceMod, Nat.reducePow, Za, ax7, bx7, cx7, hN0, hN]
   refine Zm [1, 2, 3, 7, 42, 43, 44] [true, true, true, true, false, true, false, true] ?_
   simp only [push_cast, seval, ↓reduceIte]
   obtain ⟨y8, hy8, hs1_⟩ := bC hs1_
   obtain ⟨l9, pl9, ql9, el9, hs1_⟩ := bA (k := 1) rfl hs1_
   refine Zai Zd (by kernel_rfl) [.low, .low, .plain, .plain, .plain, .plain, .plain, .plain, .pass, .bar, .plain, .bar] (fun i => i < (n + 8)) [0, 1, 2, 3, 4, 5, 6, 7, 8, 9, 10, 11] [.low, .low, .plain, .plain, .plain, .plain, .plain, .plain, .pass, .bar, .plain, .bar] [] (by kernel_rfl) rfl ?_
   simp only [push_cast, seval, ↓reduceIte, Za, pl9, ql9, el9, hN0, hN]
   repeat (with_reducible refine And.intro (by first | omega | exact Yt rfl | exact Yi | exact Qg rfl rfl) ?_)
   first | refine PCallA.of (fun _ _ => Gb hy8) ?_ | refine PCall.of (Gb hy8) ?_
   simp only [push_cast, seval, ↓reduceIte, Za, pl9, ql9, el9, hN0, hN]
   repeat (with_reducible refine And.intro (by first | omega | exact Yt rfl | exact Yi | exact Qg rfl rfl) ?_)
   refine Zdp ⟨76, [], [(1, .ref n 0), (2, .ref (n + 1) 0), (3, .ref (n + 2) 0), (42, .sl a0.Kids.length (fl Zk a0.Kids)), (43, .val (.int .i64 (a0.Kids.length : Int))), (44, .val (.int .i64 s1_.1))]⟩ (Zu O n [some ⟨false, 30, 11, 1, (Zg a0)⟩, some ⟨false, 30, 11, 1, [.val (.int .i64 0), .val (.int .i64 0), .val (.slice none 0 0), .val (.slice none 0 0), .val (.int .i64 0), .val (.slice none 0 0), .val (.slice none 0 0), .val (.slice none 0 0), .val (.slice none 0 0), .val (.int .i64 0), .val (.slice none 0 0)]⟩, some ⟨false, 30, 11, 1, [.val (.int .i64 a0.Kind), .val (.int .i64 a0.New.Kind), .sl a0.New.Words.length (fl (eI .u64) a0.New.Words), .sl a0.New.Kids.length (fl Zb a0.New.Kids), .val (.int .i64 a0.Old.Kind), .sl a0.Old.Words.length (fl (eI .u64) a0.Old.Words), .sl a0.Old.Kids.length (fl Zb a0.Old.Kids), .row (n + 3) z5.length, .row (n + 5) l9.length, .val (.int .i64 a0.List_), .val (.slice none 0 0)]⟩, some ⟨true, 58, 4, z5.length, fl Zh z5⟩, none, some ⟨true, 71, 12, l9.length, fl Zk l9⟩, none, none, none]) (Zl hU rfl rfl ?_) ?_
   ·simp only [push_cast, seval, ↓reduceIte, Za, pl9, ql9, el9, hN0, hN]
   refine Zc Zd [] ?_
   simp only [push_cast, seval, ↓reduceIte, Za, hN0, hN]
   have hs1_ := Option.some.inj hs1_; subst hs1_
   refine And.intro rfl (Fit2.of (Zl hU rfl rfl ?_) (by omega))
   simp only [push_cast, seval, ↓reduceIte, Za, hN0, hN]
  replace hs1_ := Zw c10 hs1_
  refine Xs ?_
  try simp only [Zn, Zj, ↓reduceIte, Nat.reduceEqDiff]
  have hs1_ := Option.some.inj hs1_; subst hs1_
  refine And.intro (fun h => by cases h) (And.intro rfl (Fit2.of (Zl hU rfl rfl ?_) (by omega)))
  simp only [push_cast, seval, ↓reduceIte, Za, hN0, hN]
 try simp only [Zn, Zj, ↓reduceIte, Nat.reduceEqDiff]
 refine Zm [1, 2, 3] [true, true, true, true, false, true, false] ?_
 simp only [push_cast, seval, ↓reduceIte]
 refine Zo ?_
 refine Zs [2, 3, 61, 62, 63] (Zc Zd [] ?_)
 simp only [push_cast, seval, ↓reduceIte, Za, hN0, hN]
 refine Zm [2, 3, 61, 62, 63] [false, true, true, true, false, true, false] ?_
 simp only [push_cast, seval, ↓reduceIte]
 refine Ja (E' := (⟨76, [], [(2, .ref (n + 1) 0), (3, .ref (n + 2) 0), (61, .sl a0.Ops.length (fl Zf a0.Ops)), (62, .val (.int .i64 (a0.Ops.length : Int))), (63, .val (.int .i64 0))]⟩ : Env)) (O' := (Zu O n [none, some ⟨false, 30, 11, 1, [.val (.int .i64 0), .val (.int .i64 0), .val (.slice none 0 0), .val (.slice none 0 0), .val (.int .i64 0), .val (.slice none 0 0), .val (.slice none 0 0), .val (.slice none 0 0), .val (.slice none 0 0), .val (.int .i64 0), .val (.slice none 0 0)]⟩, some ⟨false, 30, 11, 1, [.val (.int .i64 a0.Kind), .val (.int .i64 a0.New.Kind), .sl a0.New.Words.length (fl (eI .u64) a0.New.Words), .sl a0.New.Kids.length (fl Zb a0.New.Kids), .val (.int .i64 a0.Old.Kind), .sl a0.Old.Words.length (fl (eI .u64) a0.Old.Words), .sl a0.Old.Kids.length (fl Zb a0.Old.Kids), .row (n + 3) z5.length, .row (n + 5) z11.length, .val (.int .i64 a0.List_), .row (n + 7) ([] : List S_api_Op).length]⟩, some ⟨true, 58, 4, z5.length, fl Zh z5⟩, none, some ⟨true, 71, 12, z11.length, fl Zk z11⟩, none, some ⟨true, 69, 14, ([] : List S_api_Op).length, fl Zf ([] : List S_api_Op)⟩, none])) (n' := (n + 9)) ?_ ?_
 ·refine Fit2.trans (E' := (⟨76, [], [(2, .ref (n + 1) 0), (3, .ref (n + 2) 0), (61, .sl a0.Ops.length (fl Zf a0.Ops)), (62, .val (.int .i64 (a0.Ops.length : Int))), (63, .val (.int .i64 0))]⟩ : Env)) (O' := (Zu O n [none, some ⟨false, 30, 11, 1, [.val (.int .i64 0), .val (.int .i64 0), .val (.slice none 0 0), .val (.slice none 0 0), .val (.int .i64 0), .val (.slice none 0 0), .val (.slice none 0 0), .val (.slice none 0 0), .val (.slice none 0 0), .val (.int .i64 0), .val (.slice none 0 0)]⟩, some ⟨false, 30, 11, 1, [.val (.int .i64 a0.Kind), .val (.int .i64 a0.New.Kind), .sl a0.New.Words.length (fl (eI .u64) a0.New.Words), .sl a0.New.Kids.length (fl Zb a0.New.Kids), .val (.int .i64 a0.Old.Kind), .sl a0.Old.Words.length (fl (eI .u64) a0.Old.Words), .sl a0.Old.Kids.length (fl Zb a0.Old.Kids), .row (n + 3) z5.length, .row (n + 5) z11.length, .val (.int .i64 a0.List_), .val (.slice none 0 0)]⟩, some ⟨true, 58, 4, z5.length, fl Zh z5⟩, none, some ⟨true, 71, 12, z11.length, fl Zk z11⟩, none])) (n' := (n + 7)) (Fit2.of (Zl hU rfl rfl ?_) (by omega)) ?_
  ·simp only [push_cast, seval, ↓reduceIte, Za, hN0, hN]
  refine Fit2.trans (E' := (⟨76, [], [(2, .ref (n + 1) 0), (3, .ref (n + 2) 0), (61, .sl a0.Ops.length (fl Zf a0.Ops)), (62, .val (.int .i64 (a0.Ops.length : Int))), (63, .val (.int .i64 0))]⟩ : Env)) (O' := (Zu O n [none, some ⟨false, 30, 11, 1, [.val (.int .i64 0), .val (.int .i64 0), .val (.slice none 0 0), .val (.slice none 0 0), .val (.int .i64 0), .val (.slice none 0 0), .val (.slice none 0 0), .val (.slice none 0 0), .val (.slice none 0 0), .val (.int .i64 0), .val (.slice none 0 0)]⟩, some ⟨false, 30, 11, 1, [.val (.int .i64 a0.Kind), .val (.int .i64 a0.New.Kind), .sl a0.New.Words.length (fl (eI .u64) a0.New.Words), .sl a0.New.Kids.length (fl Zb a0.New.Kids), .val (.int .i64 a0.Old.Kind), .sl a0.Old.Words.length (fl (eI .u64) a0.Old.Words), .sl a0.Old.Kids.length (fl Zb a0.Old.Kids), .row (n + 3) z5.length, .row (n + 5) z11.length, .val (.int .i64 a0.List_), .row (n + 7) 0]⟩, some ⟨true, 58, 4, z5.length, fl Zh z5⟩, none, some ⟨true, 71, 12, z11.length, fl Zk z11⟩, none, some ⟨true, 69, 14, 0, []⟩])) (n' := (n + 8)) ?_ ?_
  ·have ha := Va (ba := n) (E := (⟨76, [], [(2, .ref (n + 1) 0), (3, .ref (n + 2) 0), (61, .sl a0.Ops.length (fl Zf a0.Ops)), (62, .val (.int .i64 (a0.Ops.length : Int))), (63, .val (.int .i64 0))]⟩ : Env)) (O := (Zu O n [none, some ⟨false, 30, 11, 1, [.val (.int .i64 0), .val (.int .i64 0), .val (.slice none 0 0), .val (.slice none 0 0), .val (.int .i64 0), .val (.slice none 0 0), .val (.slice none 0 0), .val (.slice none 0 0), .val (.slice none 0 0), .val (.int .i64 0), .val (.slice none 0 0)]⟩, some ⟨false, 30, 11, 1, [.val (.int .i64 a0.Kind), .val (.int .i64 a0.New.Kind), .sl a0.New.Words.length (fl (eI .u64) a0.New.Words), .sl a0.New.Kids.length (fl Zb a0.New.Kids), .val (.int .i64 a0.Old.Kind), .sl a0.Old.Words.length (fl (eI .u64) a0.Old.Words), .sl a0.Old.Kids.length (fl Zb a0.Old.Kids), .row (n + 3) z5.length, .row (n + 5) z11.length, .val (.int .i64 a0.List_), .val (.slice none 0 0)]⟩, some ⟨true, 58, 4, z5.length, fl Zh z5⟩, none, some ⟨true, 71, 12, z11.length, fl Zk z11⟩, none])) (n := (n + 7)) (p := (n + 2)) (k := 10) (q := ⟨false, 30, 11, 1, [.val (.int .i64 a0.Kind), .val (.int .i64 a0.New.Kind), .sl a0.New.Words.length (fl (eI .u64) a0.New.Words), .sl a0.New.Kids.length (fl Zb a0.New.Kids), .val (.int .i64 a0.Old.Kind), .sl a0.Old.Words.length (fl (eI .u64) a0.Old.Words), .sl a0.Old.Kids.length (fl Zb a0.Old.Kids), .row (n + 3) z5.length, .row (n + 5) z11.length, .val (.int .i64 a0.List_), .val (.slice none 0 0)]⟩) 69 14 (by simp only [K8, Zah, List.getElem?_cons_zero, List.getElem?_cons_succ, Option.join_some, Z8]) rfl (by omega)
   simp only [Y0, Yl, Uj, K9, List.set_cons_zero, List.set_cons_succ, List.cons_append, List.nil_append, List.length_cons, List.length_nil, Nat.zero_add, Nat.reduceAdd, Nat.reduceLT, Nat.add_assoc] at ha
   exact ha
  refine Fit2.trans (E' := (⟨76, [], [(2, .ref (n + 1) 0), (3, .ref (n + 2) 0), (61, .sl a0.Ops.length (fl Zf a0.Ops)), (62, .val (.int .i64 (a0.Ops.length : Int))), (63, .val (.int .i64 0))]⟩ : Env)) (O' := (Zu O n [none, some ⟨false, 30, 11, 1, [.val (.int .i64 0), .val (.int .i64 0), .val (.slice none 0 0), .val (.slice none 0 0), .val (.int .i64 0), .val (.slice none 0 0), .val (.slice none 0 0), .val (.slice none 0 0), .val (.slice none 0 0), .val (.int .i64 0), .val (.slice none 0 0)]⟩, some ⟨false, 30, 11, 1, [.val (.int .i64 a0.Kind), .val (.int .i64 a0.New.Kind), .sl a0.New.Words.length (fl (eI .u64) a0.New.Words), .sl a0.New.Kids.length (fl Zb a0.New.Kids), .val (.int .i64 a0.Old.Kind), .sl a0.Old.Words.length (fl (eI .u64) a0.Old.Words), .sl a0.Old.Kids.length (fl Zb a0.Old.Kids), .row (n + 3) z5.length, .row (n + 5) z11.length, .val (.int .i64 a0.List_), .row (n + 7) ([] : List S_api_Op).length]⟩, some ⟨true, 58, 4, z5.length, fl Zh z5⟩, none, some ⟨true, 71, 12, z11.length, fl Zk z11⟩, none, some ⟨true, 69, 14, ([] : List S_api_Op).length, fl Zf ([] : List S_api_Op)⟩])) (n' := (n + 8)) (Fit2.of (Zl hU rfl rfl ?_) (by omega)) ?_
  ·simp only [push_cast, seval, ↓reduceIte, Za, hN0, hN]
  refine Jt (k := 8) (k' := 9) hU [8, 1, 2, 3, 8, 5, 8, 7] [0, 1, 2, 3, 0, 5, 0, 7, 0] rfl rfl rfl rfl ⟨rfl, rfl⟩ ?_
  simp only [push_cast, seval, ↓reduceIte, Za, hN0, hN]
 obtain ⟨z17, hz17, h⟩ := bC h
 refine Yv (E' := ⟨76, [], [(2, .ref (n + 1) 0), (3, .ref (n + 2) 0)]⟩) (O' := (Zu O n [none, some ⟨false, 30, 11, 1, [.val (.int .i64 0), .val (.int .i64 0), .val (.slice none 0 0), .val (.slice none 0 0), .val (.int .i64 0), .val (.slice none 0 0), .val (.slice none 0 0), .val (.slice none 0 0), .val (.slice none 0 0), .val (.int .i64 0), .val (.slice none 0 0)]⟩, some ⟨false, 30, 11, 1, [.val (.int .i64 a0.Kind), .val (.int .i64 a0.New.Kind), .sl a0.New.Words.length (fl (eI .u64) a0.New.Words), .sl a0.New.Kids.length (fl Zb a0.New.Kids), .val (.int .i64 a0.Old.Kind), .sl a0.Old.Words.length (fl (eI .u64) a0.Old.Words), .sl a0.Old.Kids.length (fl Zb a0.Old.Kids), .row (n + 3) z5.length, .row (n + 5) z11.length, .val (.int .i64 a0.List_), .row (n + 7) z17.length]⟩, some ⟨true, 58, 4, z5.length, fl Zh z5⟩, none, some ⟨true, 71, 12, z11.length, fl Zk z11⟩, none, some ⟨true, 69, 14, z17.length, fl Zf z17⟩, none])) (n0 := (n + 9)) ?_ ?_
 ·refine Y7 hz17 (fun s2_ => ⟨76, [], [(2, .ref (n + 1) 0), (3, .ref (n + 2) 0), (61, .sl a0.Ops.length (fl Zf a0.Ops)), (62, .val (.int .i64 (a0.Ops.length : Int))), (63, .val (.int .i64 s2_.1))]⟩) (fun s2_ => (Zu O n [none, some ⟨false, 30, 11, 1, [.val (.int .i64 0), .val (.int .i64 0), .val (.slice none 0 0), .val (.slice none 0 0), .val (.int .i64 0), .val (.slice none 0 0), .val (.slice none 0 0), .val (.slice none 0 0), .val (.slice none 0 0), .val (.int .i64 0), .val (.slice none 0 0)]⟩, some ⟨false, 30, 11, 1, [.val (.int .i64 a0.Kind), .val (.int .i64 a0.New.Kind), .sl a0.New.Words.length (fl (eI .u64) a0.New.Words), .sl a0.New.Kids.length (fl Zb a0.New.Kids), .val (.int .i64 a0.Old.Kind), .sl a0.Old.Words.length (fl (eI .u64) a0.Old.Words), .sl a0.Old.Kids.length (fl Zb a0.Old.Kids), .row (n + 3) z5.length, .row (n + 5) z11.length, .val (.int .i64 a0.List_), .row (n + 7) s2_.2.length]⟩, some ⟨true, 58, 4, z5.length, fl Zh z5⟩, none, some ⟨true, 71, 12, z11.length, fl Zk z11⟩, none, some ⟨true, 69, 14, s2_.2.length, fl Zf s2_.2⟩, none])) (fun z17 => JX 4 n (⟨76, [], [(2, .ref (n + 1) 0), (3, .ref (n + 2) 0)]⟩ : Env) (Zu O n [none, some ⟨false, 30, 11, 1, [.val (.int .i64 0), .val (.int .i64 0), .val (.slice none 0 0), .val (.slice none 0 0), .val (.int .i64 0), .val (.slice none 0 0), .val (.slice none 0 0), .val (.slice none 0 0), .val (.slice none 0 0), .val (.int .i64 0), .val (.slice none 0 0)]⟩, some ⟨false, 30, 11, 1, [.val (.int .i64 a0.Kind), .val (.int .i64 a0.New.Kind), .sl a0.New.Words.length (fl (eI .u64) a0.New.Words), .sl a0.New.Kids.length (fl Zb a0.New.Kids), .val (.int .i64 a0.Old.Kind), .sl a0.Old.Words.length (fl (eI .u64) a0.Old.Words), .sl a0.Old.Kids.length (fl Zb a0.Old.Kids), .row (n + 3) z5.length, .row (n + 5) z11.length, .val (.int .i64 a0.List_), .row (n + 7) z17.length]⟩, some ⟨true, 58, 4, z5.length, fl Zh z5⟩, none, some ⟨true, 71, 12, z11.length, fl Zk z11⟩, none, some ⟨true, 69, 14, z17.length, fl Zf z17⟩, none]) (n + 9)) ?_
  intro s2_ x2_ hs2_
  unfold Vh at hs2_
  try dsimp only
  refine Zs [2, 3, 61, 62, 63, 64] (Zc Zd [] ?_)
  simp only [push_cast, seval, ↓reduceIte, Za, hN0, hN]
  refine Zo ?_
  refine Zt (t := (decide (s2_.1 < (a0.Ops.length : Int)))) rfl (fun c16 => ?_) (fun c16 => ?_)
  ·replace hs2_ := Zx c16 hs2_
   refine Z0 ?_
   try simp only [Zn, Zj]
   refine Zm [2, 3, 61, 62, 63] [false, true, true, true, false, true, false, true, false] ?_
   simp only [push_cast, seval, ↓reduceIte]
   refine Zo ?_
   refine Ys ?_
   refine Zo ?_
   obtain ⟨x13, hx13, ax13, bx13, cx13, hs2_⟩ := bE (f := Zf) Zc5 (fun _ => rfl) (by decide) hs2_
   refine Zc Zd [] ?_
   simp only [push_cast, Nat.reduceAdd, Nat.reduceSub, Nat.reduceMul, Nat.reduceLeDiff, Nat.reduceLT, Nat.reduceEqDiff, ↓reduceIte, reduceCtorEq, Int.reduceBEq, Int.reduceBNe, Nat.reduceBEq, Int.reduceLE, Int.reduceLT, Int.reduceEq, Int.reduceNe, Int.reduceNeg, Nat.reduceDiv, Nat.reduceMod, Nat.reducePow, Za, ax13, bx13, cx13, hN0, hN]
   refine Zm [2, 3, 9, 61, 62, 63] [false, true, true, true, false, true, false, true, false, true] ?_
   simp only [push_cast, seval, ↓reduceIte]
   obtain ⟨y14, hy14, hs2_⟩ := bC hs2_
   obtain ⟨l15, pl15, ql15, el15, hs2_⟩ := bA (k := 1) rfl hs2_
   refine Zai Zd (by kernel_rfl) [.low, .low, .plain, .plain, .pass, .bar, .plain, .bar] (fun i => i < (n + 10)) [0, 1, 2, 3, 4, 5, 6, 7] [.low, .low, .plain, .plain, .pass, .bar, .plain, .bar] [] (by kernel_rfl) rfl ?_
   simp only [push_cast, seval, ↓reduceIte, Za, pl15, ql15, el15, hN0, hN]
   repeat (with_reducible refine And.intro (by first | omega | exact Yt rfl | exact Yi | exact Qg rfl rfl) ?_)
   first | refine PCallA.of (fun _ _ => Zav hy14) ?_ | refine PCall.of (Zav hy14) ?_
   simp only [push_cast, seval, ↓reduceIte, Za, pl15, ql15, el15, hN0, hN]
   repeat (with_reducible refine And.intro (by first | omega | exact Yt rfl | exact Yi | exact Qg rfl rfl) ?_)
   refine Zdp ⟨76, [], [(2, .ref (n + 1) 0), (3, .ref (n + 2) 0), (61, .sl a0.Ops.length (fl Zf a0.Ops)), (62, .val (.int .i64 (a0.Ops.length : Int))), (63, .val (.int .i64 s2_.1))]⟩ (Zu O n [none, some ⟨false, 30, 11, 1, [.val (.int .i64 0), .val (.int .i64 0), .val (.slice none 0 0), .val (.slice none 0 0), .val (.int .i64 0), .val (.slice none 0 0), .val (.slice none 0 0), .val (.slice none 0 0), .val (.slice none 0 0), .val (.int .i64 0), .val (.slice none 0 0)]⟩, some ⟨false, 30, 11, 1, [.val (.int .i64 a0.Kind), .val (.int .i64 a0.New.Kind), .sl a0.New.Words.length (fl (eI .u64) a0.New.Words), .sl a0.New.Kids.length (fl Zb a0.New.Kids), .val (.int .i64 a0.Old.Kind), .sl a0.Old.Words.length (fl (eI .u64) a0.Old.Words), .sl a0.Old.Kids.length (fl Zb a0.Old.Kids), .row (n + 3) z5.length, .row (n + 5) z11.length, .val (.int .i64 a0.List_), .row (n + 7) l15.length]⟩, some ⟨true, 58, 4, z5.length, fl Zh z5⟩, none, some ⟨true, 71, 12, z11.length, fl Zk z11⟩, none, some ⟨true, 69, 14, l15.length, fl Zf l15⟩, none, none, none]) (Zl hU rfl rfl ?_) ?_
   ·simp only [push_cast, seval, ↓reduceIte, Za, pl15, ql15, el15, hN0, hN]
   refine Zc Zd [] ?_
   simp only [push_cast, seval, ↓reduceIte, Za, hN0, hN]
   have hs2_ := Option.some.inj hs2_; subst hs2_
   refine And.intro rfl (Fit2.of (Zl hU rfl rfl ?_) (by omega))
   simp only [push_cast, seval, ↓reduceIte, Za, hN0, hN]
  replace hs2_ := Zw c16 hs2_
  refine Xs ?_
  try simp only [Zn, Zj, ↓reduceIte, Nat.reduceEqDiff]
  have hs2_ := Option.some.inj hs2_; subst hs2_
  refine And.intro (fun h => by cases h) (And.intro rfl (Fit2.of (Zl hU rfl rfl ?_) (by omega)))
  simp only [push_cast, seval, ↓reduceIte, Za, hN0, hN]
 try simp only [Zn, Zj, ↓reduceIte, Nat.reduceEqDiff]
 refine Zm [2, 3] [false, true, true, true, false, true, false, true, false] ?_
 simp only [push_cast, seval, ↓reduceIte]
 refine Zo ?_
 refine Zc Zd [] ?_
 simp only [push_cast, seval, ↓reduceIte, Za, hN0, hN]
 refine Zm [2] [false, true, false, true, false, true, false, true, false] ?_
 simp only [push_cast, seval, ↓reduceIte]
 refine Z5 ?_
 try simp only [Zn, Zj]
 have h := Option.some.inj h; subst h
 refine Zy (.inr rfl) hU [.agg [.val (.int .i64 a0.Kind), .val (.int .i64 a0.New.Kind), .sl a0.New.Words.length (fl (eI .u64) a0.New.Words), .sl a0.New.Kids.length (fl Zb a0.New.Kids), .val (.int .i64 a0.Old.Kind), .sl a0.Old.Words.length (fl (eI .u64) a0.Old.Words), .sl a0.Old.Kids.length (fl Zb a0.Old.Kids), .row (n + 3) z5.length, .row (n + 5) z11.length, .val (.int .i64 a0.List_), .row (n + 7) z17.length]] (by omega) ?_
 simp only [push_cast, seval, ↓reduceIte, Za, Try.results61, hN0, hN]
theorem Zjd {Xx : (S_api_Edit → Option S_api_Edit)} {Xm : (S_api_Op → Option S_api_Op)} (Gb : ∀ {a0 : S_api_Edit} {r : S_api_Edit} {O : Objs} {n : Nat}, Xx a0 = some r → GTo Try.prog 61 [.agg (Zg a0)] O n (.agg (Zg r)) O n) (Zav : ∀ {a0 : S_api_Op} {r : S_api_Op} {O : Objs} {n : Nat}, Xm a0 = some r → GTo Try.prog 102 [.agg (Ym a0)] O n (.agg (Ym r)) O n) {a0 : S_api_Op} {r : S_api_Op} {O : Objs} {n : Nat} (h : V3 Xx Xm a0 = some r) : GTo Try.prog 102 [.agg (Ym a0)] O n (.agg (Ym r)) O n := by
 unfold V3 at h
 refine Xc Zd Try.call102 Try.func102 rfl (Nat.le_of_ble_eq_true rfl) (Nat.le_refl _) fun hU => ?_
 have hN0 : O n = none := hU.fresh _ (Nat.le_refl _)
 have hN : ∀ k, O (n + k) = none := fun k => hU.fresh _ (Nat.le_add_right _ _)
 show W _ _ _ _ ⟨18, [], [(0, .agg (Ym a0))]⟩ (Zu O n []) _
 refine Zs [1, 2] (Zc Zd [] ?_)
 simp only [push_cast, seval, ↓reduceIte, Za, hN0, hN]
 obtain ⟨z1, hz1, h⟩ := bC h
 refine Y5 (E' := ⟨18, [], [(1, .ref n 0), (2, .ref (n + 1) 0)]⟩) (O' := (Zu O n [some ⟨false, 69, 14, 1, [.val (.int .i64 z1.1), .val (.int .i64 a0.N), .sl a0.L.length (fl Zb a0.L), .val (.int .i64 z1.2.1), .val (.int .i64 z1.2.2.1), .sl z1.2.2.2.1.length (fl (eI .u64) z1.2.2.2.1), .sl z1.2.2.2.2.1.length (fl Zb z1.2.2.2.2.1), .val (.int .i64 z1.2.2.2.2.2.1), .sl z1.2.2.2.2.2.2.1.length (fl (eI .u64) z1.2.2.2.2.2.2.1), .sl z1.2.2.2.2.2.2.2.1.length (fl Zb z1.2.2.2.2.2.2.2.1), .sl z1.2.2.2.2.2.2.2.2.1.length (fl Zh z1.2.2.2.2.2.2.2.2.1), .sl z1.2.2.2.2.2.2.2.2.2.1.length (fl Zk z1.2.2.2.2.2.2.2.2.2.1), .val (.int .i64 z1.2.2.2.2.2.2.2.2.2.2.1), .sl z1.2.2.2.2.2.2.2.2.2.2.2.length (fl Zf z1.2.2.2.2.2.2.2.2.2.2.2)]⟩, some ⟨false, 69, 14, 1, [.val (.int .i64 0), .val (.int .i64 0), .val (.slice none 0 0), .val (.int .i64 0), .val (.int .i64 0), .val (.slice none 0 0), .val (.slice none 0 0), .val (.int .i64 0), .val (.slice none 0 0), .val (.slice none 0 0), .val (.slice none 0 0), .val (.slice none 0 0), .val (.int .i64 0), .val (.slice none 0 0)]⟩])) (n0 := (n + 2)) ?_ ?_
 ·refine Zs [1, 2, 4] (Zc Zd [] ?_)
  simp only [push_cast, seval, ↓reduceIte, Za, hN0, hN]
  refine Ys ?_
  refine Zs [1, 2, 4, 5] (Zc Zd [] ?_)
  simp only [push_cast, seval, ↓reduceIte, Za, hN0, hN]
  refine Zt (t := (a0.Kind == 1)) rfl (fun c5 => ?_) (fun c5 => ?_)
  ·replace hz1 := Zx c5 hz1
   refine Zc Zd [] ?_
   simp only [push_cast, seval, ↓reduceIte, Za, hN0, hN]
   have hz1 := Option.some.inj hz1; subst hz1
   refine And.intro rfl (Fit2.of (Zl hU rfl rfl ?_) (by omega))
   simp only [push_cast, seval, ↓reduceIte, Za, hN0, hN]
  replace hz1 := Zw c5 hz1
  refine Zs [1, 2, 4, 8] (Zc Zd [] ?_)
  simp only [push_cast, seval, ↓reduceIte, Za, hN0, hN]
  refine Zt (t := (a0.Kind == 2)) rfl (fun c4 => ?_) (fun c4 => ?_)
  ·replace hz1 := Zx c4 hz1
   refine Zc Zd [] ?_
   simp only [push_cast, seval, ↓reduceIte, Za, hN0, hN]
   have hz1 := Option.some.inj hz1; subst hz1
   refine And.intro rfl (Fit2.of (Zl hU rfl rfl ?_) (by omega))
   simp only [push_cast, seval, ↓reduceIte, Za, hN0, hN]
  replace hz1 := Zw c4 hz1
  refine Zs [1, 2, 11] (Zc Zd [] ?_)
  simp only [push_cast, seval, ↓reduceIte, Za, hN0, hN]
  refine Zt (t := (a0.Kind == 3)) rfl (fun c3 => ?_) (fun c3 => ?_)
  ·replace hz1 := Zx c3 hz1
   obtain ⟨y2, hy2, hz1⟩ := bC hz1
   refine Zc Zd [] ?_
   simp only [push_cast, seval, ↓reduceIte, Za, hN0, hN]
   refine (Gb hy2).then ?_
   simp only [push_cast, seval, ↓reduceIte, Za, hN0, hN]
   have hz1 := Option.some.inj hz1; subst hz1
   refine And.intro rfl (Fit2.of (Zl hU rfl rfl ?_) (by omega))
   simp only [push_cast, seval, ↓reduceIte, Za, hN0, hN]
  replace hz1 := Zw c3 hz1
  refine Z0 ?_
  try simp only [Zn, Zj]
  have hz1 := Option.some.inj hz1; subst hz1
  refine And.intro rfl (Fit2.of (Zl hU rfl rfl ?_) (by omega))
  simp only [push_cast, seval, ↓reduceIte, Za, hN0, hN]
 refine Zo ?_
 refine Zc Zd [] ?_
 simp only [push_cast, seval, ↓reduceIte, Za, hN0, hN]
 refine Zm [2] [false, true] ?_
 simp only [push_cast, seval, ↓reduceIte]
 refine Z5 ?_
 try simp only [Zn, Zj]
 have h := Option.some.inj h; subst h
 refine Zy (.inr rfl) hU [.agg [.val (.int .i64 z1.1), .val (.int .i64 a0.N), .sl a0.L.length (fl Zb a0.L), .val (.int .i64 z1.2.1), .val (.int .i64 z1.2.2.1), .sl z1.2.2.2.1.length (fl (eI .u64) z1.2.2.2.1), .sl z1.2.2.2.2.1.length (fl Zb z1.2.2.2.2.1), .val (.int .i64 z1.2.2.2.2.2.1), .sl z1.2.2.2.2.2.2.1.length (fl (eI .u64) z1.2.2.2.2.2.2.1), .sl z1.2.2.2.2.2.2.2.1.length (fl Zb z1.2.2.2.2.2.2.2.1), .sl z1.2.2.2.2.2.2.2.2.1.length (fl Zh z1.2.2.2.2.2.2.2.2.1), .sl z1.2.2.2.2.2.2.2.2.2.1.length (fl Zk z1.2.2.2.2.2.2.2.2.2.1), .val (.int .i64 z1.2.2.2.2.2.2.2.2.2.2.1), .sl z1.2.2.2.2.2.2.2.2.2.2.2.length (fl Zf z1.2.2.2.2.2.2.2.2.2.2.2)]] (by omega) ?_
 simp only [push_cast, seval, ↓reduceIte, Za, Try.results102, hN0, hN]
theorem Zi3 : ∀ k, (∀ {a0 : S_api_Edit} {r : S_api_Edit} {O : Objs} {n : Nat}, (Yy k).1 a0 = some r → GTo Try.prog 61 [.agg (Zg a0)] O n (.agg (Zg r)) O n) ∧ (∀ {a0 : S_api_Op} {r : S_api_Op} {O : Objs} {n : Nat}, (Yy k).2 a0 = some r → GTo Try.prog 102 [.agg (Ym a0)] O n (.agg (Ym r)) O n) := fun k => by
 induction k with
 | zero => exact ⟨@fun a0 r O n h => (nomatch (show (none : Option _) = some _ from h)), @fun a0 r O n h => (nomatch (show (none : Option _) = some _ from h))⟩
 | succ k ih => exact ⟨@fun a0 r O n h => Zla (ih.1) (ih.2)  h, @fun a0 r O n h => Zjd (ih.1) (ih.2)  h⟩
theorem Zmb {a0 : S_api_Edit} {r : S_api_Edit} {O : Objs} {n : Nat} (h : Zd9 a0 = some r) : GTo Try.prog 61 [.agg (Zg a0)] O n (.agg (Zg r)) O n := by
 obtain ⟨k, hk⟩ := Ur h
 exact (Zi3 k).1  hk
end Go.Proofs.Ytbcgiaijjaocdaa
