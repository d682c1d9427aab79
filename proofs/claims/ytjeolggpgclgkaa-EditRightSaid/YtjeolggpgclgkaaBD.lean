/- Part BD of this seat's mirrors: functions of the seat's program, and the plain functions that they are; each theorem bears its own conditions. -/
import Derived.Test.YtjeolggpgclgkaaH20
namespace Go.Proofs.Ytjeolggpgclgkaa
open Go.RowKit
set_option linter.unusedVariables false
set_option linter.unusedSimpArgs false
set_option maxRecDepth 100000
set_option maxHeartbeats 1000000
structure S_api_Tree where
  Kind : Int
  Words : (List Int)
  Kids : (List S_api_Tree)

noncomputable def b_centoref07_Shallow_L0 (r_centoref07_Shallow : (S_api_Tree → Int → Int → Option Int)) (a0 : S_api_Tree) (a1 : Int) (s0_ : (Int × Int)) : Option ((Int × Int) ⊕ Int) :=
  cond (cond (decide (s0_.2 < (a0.Kids.length : Int))) (decide (0 ≤ s0_.1)) false) ((getI a0.Kids s0_.2).bind fun x1 => (r_centoref07_Shallow x1 (IntKind.i64.wrap (a1 - 1)) s0_.1).bind fun y2 => some (.inl (y2, (IntKind.i64.wrap (s0_.2 + 1))))) (some (.inr s0_.1))

noncomputable def b_centoref07_Shallow (r_centoref07_Shallow : (S_api_Tree → Int → Int → Option Int)) (a0 : S_api_Tree) (a1 : Int) (a2 : Int) : Option Int :=
  cond (cond (a1 == 0) true (decide ((IntKind.i64.wrap ((IntKind.i64.wrap (a2 - 1)) - (a0.Words.length : Int))) < 0))) (some (-1)) ((runLoop (b_centoref07_Shallow_L0 r_centoref07_Shallow a0 a1) ((IntKind.i64.wrap ((IntKind.i64.wrap (a2 - 1)) - (a0.Words.length : Int))), 0)).bind fun (z4 : Int) => some z4)

noncomputable def lv_centoref07_Shallow : Nat → (S_api_Tree → Int → Int → Option Int)
  | 0 => (fun _ _ _ => none)
  | k + 1 => b_centoref07_Shallow ((lv_centoref07_Shallow k))

noncomputable def m_centoref07_Shallow (a0 : S_api_Tree) (a1 : Int) (a2 : Int) : Option Int := lim fun k => (lv_centoref07_Shallow k) a0 a1 a2

structure S_api_WordEdit where
  At : Int
  Mask : Int
  Old : Int
  New : Int

mutual
structure S_api_Edit where
  Kind : Int
  Old : S_api_Tree
  New : S_api_Tree
  Words : (List S_api_WordEdit)
  Kids : (List S_api_KidEdit)
  List_ : Int
  Ops : (List S_api_Op)
structure S_api_KidEdit where
  At : Int
  E : S_api_Edit
structure S_api_Op where
  Kind : Int
  N : Int
  L : (List S_api_Tree)
  E : S_api_Edit
end

noncomputable def b_centoref20_left_L0 (r_centoref20_left : (S_api_Edit → Int → Int → Option Int)) (a0 : S_api_Edit) (a1 : Int) (s0_ : (Int × Int)) : Option ((Int × Int) ⊕ Int) :=
  cond (cond (decide (s0_.2 < (a0.Kids.length : Int))) (decide (0 ≤ s0_.1)) false) ((getI a0.Kids s0_.2).bind fun x6 => (r_centoref20_left x6.E (IntKind.i64.wrap (a1 - 1)) s0_.1).bind fun y8 => some (.inl (y8, (IntKind.i64.wrap (s0_.2 + 1))))) (some (.inr s0_.1))

noncomputable def b_centoref20_left_L2 (a0 : S_api_Edit) (s1_ : (Int × Int)) (s2_ : (Int × Int)) : Option ((Int × Int) ⊕ Int) :=
  (getI a0.Ops s1_.2).bind fun x14 => cond (cond (decide (s2_.2 < (x14.L.length : Int))) (decide (0 ≤ s2_.1)) false) ((getI a0.Ops s1_.2).bind fun x16 => (getI x16.L s2_.2).bind fun x18 => (m_centoref07_Shallow x18 80 s2_.1).bind fun y19 => some (.inl (y19, (IntKind.i64.wrap (s2_.2 + 1))))) (some (.inr s2_.1))

noncomputable def b_centoref20_left_L1 (r_centoref20_left : (S_api_Edit → Int → Int → Option Int)) (a0 : S_api_Edit) (a1 : Int) (s1_ : (Int × Int)) : Option ((Int × Int) ⊕ Int) :=
  cond (cond (decide (s1_.2 < (a0.Ops.length : Int))) (decide (0 ≤ s1_.1)) false) (((runLoop (b_centoref20_left_L2 a0 s1_) (s1_.1, 0)).bind fun (z21 : Int) => cond (decide (0 ≤ z21)) ((getI a0.Ops s1_.2).bind fun x22 => (r_centoref20_left x22.E (IntKind.i64.wrap (a1 - 1)) z21).bind fun y24 => some y24) (some z21)).bind fun (z11 : Int) => some (.inl (z11, (IntKind.i64.wrap (s1_.2 + 1))))) (some (.inr s1_.1))

noncomputable def b_centoref20_left (r_centoref20_left : (S_api_Edit → Int → Int → Option Int)) (a0 : S_api_Edit) (a1 : Int) (a2 : Int) : Option Int :=
  cond (cond (a1 == 0) true (decide ((IntKind.i64.wrap ((IntKind.i64.wrap ((IntKind.i64.wrap (a2 - 1)) - (a0.Words.length : Int))) - (a0.Ops.length : Int))) < 0))) (some (-1)) ((m_centoref07_Shallow a0.Old 80 (IntKind.i64.wrap ((IntKind.i64.wrap ((IntKind.i64.wrap (a2 - 1)) - (a0.Words.length : Int))) - (a0.Ops.length : Int)))).bind fun y2 => (cond (decide (0 ≤ y2)) ((m_centoref07_Shallow a0.New 80 y2).bind fun y4 => some y4) (some y2)).bind fun (z3 : Int) => (runLoop (b_centoref20_left_L0 r_centoref20_left a0 a1) (z3, 0)).bind fun (z10 : Int) => (runLoop (b_centoref20_left_L1 r_centoref20_left a0 a1) (z10, 0)).bind fun (z27 : Int) => some z27)

noncomputable def lv_centoref20_left : Nat → (S_api_Edit → Int → Int → Option Int)
  | 0 => (fun _ _ _ => none)
  | k + 1 => b_centoref20_left ((lv_centoref20_left k))

noncomputable def m_centoref20_left (a0 : S_api_Edit) (a1 : Int) (a2 : Int) : Option Int := lim fun k => (lv_centoref20_left k) a0 a1 a2

noncomputable def m_centoref20_Few (a0 : S_api_Edit) : Option Bool :=
  (m_centoref20_left a0 80 3000).bind fun y2 => some (decide (0 ≤ y2))

noncomputable def m_centolaw20_awake_1 (a0 : Int) : Option S_api_Tree :=
  some (⟨10, ([a0] : List Int), ([] : (List S_api_Tree))⟩ : S_api_Tree)

noncomputable def m_edit_through (a0 : S_api_Op) : Option Int :=
  cond (a0.Kind == 0) (some (if 1048576 < (if a0.N < 0 then 0 else a0.N) then 1048576 else (if a0.N < 0 then 0 else a0.N))) ((cond (a0.Kind == 1) (some (a0.Kind == 1)) (some (a0.Kind == 2))).bind fun (z1 : Bool) => cond z1 (some (a0.L.length : Int)) (cond (a0.Kind == 3) (some 1) (some 0)))

noncomputable def m_edit_Lengths_L0 (a0 : S_api_Edit) (s0_ : (Int × Int × Int)) : Option ((Int × Int × Int) ⊕ (Int × Int)) :=
  cond (decide (s0_.2.2 < (a0.Ops.length : Int))) (((getI a0.Ops s0_.2.2).bind fun x3 => (cond (x3.Kind != 2) ((m_edit_through x3).bind fun y5 => some (if 1048576 < (IntKind.i64.wrap (s0_.1 + y5)) then 1048576 else (IntKind.i64.wrap (s0_.1 + y5)))) (some s0_.1)).bind fun (z4 : Int) => cond (x3.Kind != 1) ((m_edit_through x3).bind fun y7 => some (z4, (if 1048576 < (IntKind.i64.wrap (s0_.2.1 + y7)) then 1048576 else (IntKind.i64.wrap (s0_.2.1 + y7))))) (some (z4, s0_.2.1))).bind fun (z1 : (Int × Int)) => some (.inl (z1.1, z1.2, (IntKind.i64.wrap (s0_.2.2 + 1))))) (some (.inr (s0_.1, s0_.2.1)))

noncomputable def m_edit_Lengths (a0 : S_api_Edit) : Option (Int × Int) :=
  (runLoop (m_edit_Lengths_L0 a0) (0, 0, 0)).bind fun (z10 : (Int × Int)) => some (z10.1, z10.2)

noncomputable def m_edit_something (a0 : S_api_Tree) : Option Bool :=
  some (cond (a0.Kind != 0) true (decide (0 < (IntKind.i64.wrap ((a0.Words.length : Int) + (a0.Kids.length : Int))))))

noncomputable def m_edit_right_1 (a0 : Bool) (a1 : Bool) (a2 : Bool) (a3 : S_api_Edit) : Option Bool :=
  (cond a0 ((m_edit_something a3.Old).bind fun y4 => cond y4 (some false) ((m_edit_something a3.New).bind fun y5 => some (cond (cond (!(cond a0 (cond y4 true y5) false)) (!(cond a1 (decide (0 < (IntKind.i64.wrap ((a3.Words.length : Int) + (a3.Kids.length : Int))))) false)) false) (!(cond a2 (cond (a3.List_ != 0) true (decide (0 < (a3.Ops.length : Int)))) false)) false))) (some (cond (!(cond a1 (decide (0 < (IntKind.i64.wrap ((a3.Words.length : Int) + (a3.Kids.length : Int))))) false)) (!(cond a2 (cond (a3.List_ != 0) true (decide (0 < (a3.Ops.length : Int)))) false)) false))).bind fun (z3 : Bool) => some z3

noncomputable def m_tree_List (a0 : Int) : Option Bool :=
  some (cond (decide (2 ≤ a0)) (decide (a0 ≤ 9)) false)

noncomputable def m_tree_allStructs_L0 (a0 : (List S_api_Tree)) (s0_ : Int) : Option (Int ⊕ (Unit ⊕ Unit)) :=
  cond (decide (s0_ < (a0.length : Int))) ((getI a0 s0_).bind fun x2 => cond (x2.Kind != 1) (some (.inr (.inl ()))) (some (.inl (IntKind.i64.wrap (s0_ + 1))))) (some (.inr (.inr ())))

noncomputable def m_tree_allStructs (a0 : (List S_api_Tree)) : Option Bool :=
  (runLoop (m_tree_allStructs_L0 a0) 0).bind fun (z5 : (Unit ⊕ Unit)) => match z5 with | .inl z5 => some false | .inr z5 => some true

noncomputable def m_word_Width (a0 : Int) : Option (Int × Bool) :=
  ((some (⟨[0, 1, 8, 16, 32, 64], rfl⟩ : (Arr Int 6)))).bind fun y6 => ((some (⟨[0, 0, 0, 0, 0, 0], rfl⟩ : (Arr Int 6)))).bind fun y8 => cond (cond (decide (a0 < 0)) true (decide (6 ≤ a0))) (some (0, false)) ((getI y6.1 a0).bind fun x12 => some (x12, true))

noncomputable def m_word_Fits (a0 : Int) (a1 : Int) : Option Bool :=
  (m_word_Width a0).bind fun y2 => (cond y2.2 ((guardI (0 ≤ y2.1)).bind fun u5 => some (cond y2.2 ((Int.fdiv a1 (2 ^ min (Int.toNat y2.1) 64)) == 0) false)) (some false)).bind fun (z4 : Bool) => some z4

noncomputable def b_tree_Right (r_tree_Right : (S_api_Tree → Option Bool)) (r_tree_right : (S_api_Tree → Int → Option Bool)) (r_tree_allRight : ((List S_api_Tree) → Int → Option Bool)) (r_tree_allAtoms : ((List S_api_Tree) → Int → Option Bool)) (a0 : S_api_Tree) : Option Bool :=
  cond (a0.Kind == 10) (some (cond ((a0.Words.length : Int) == 1) ((a0.Kids.length : Int) == 0) false)) ((r_tree_right a0 64).bind fun y2 => some y2)

noncomputable def b_tree_right (r_tree_Right : (S_api_Tree → Option Bool)) (r_tree_right : (S_api_Tree → Int → Option Bool)) (r_tree_allRight : ((List S_api_Tree) → Int → Option Bool)) (r_tree_allAtoms : ((List S_api_Tree) → Int → Option Bool)) (a0 : S_api_Tree) (a1 : Int) : Option Bool :=
  cond (a0.Kind == 0) (some (cond ((a0.Words.length : Int) == 0) ((a0.Kids.length : Int) == 0) false)) (cond (a1 == 0) (some false) (cond (a0.Kind == 1) ((cond (decide ((a0.Words.length : Int) < 65536)) (cond (decide ((a0.Kids.length : Int) < 65536)) ((r_tree_allRight a0.Kids (IntKind.i64.wrap (a1 - 1))).bind fun y3 => some (cond (cond (decide ((a0.Words.length : Int) < 65536)) (decide ((a0.Kids.length : Int) < 65536)) false) y3 false)) (some false)) (some false)).bind fun (z2 : Bool) => some z2) ((m_tree_List a0.Kind).bind fun y7 => cond (cond (cond (!y7) true (decide (0 < (a0.Words.length : Int)))) true (decide (1048576 ≤ (a0.Kids.length : Int)))) (some false) (cond (a0.Kind == 8) ((r_tree_allRight a0.Kids (IntKind.i64.wrap (a1 - 1))).bind fun y9 => some y9) (cond (a0.Kind == 9) (((m_tree_allStructs a0.Kids).bind fun y13 => cond y13 ((r_tree_allRight a0.Kids (IntKind.i64.wrap (a1 - 1))).bind fun y14 => some (cond y13 y14 false)) (some false)).bind fun (z12 : Bool) => some z12) ((r_tree_allAtoms a0.Kids (IntKind.i64.wrap (a0.Kind - 2))).bind fun y17 => some y17))))))

noncomputable def b_tree_allRight_L0 (r_tree_right : (S_api_Tree → Int → Option Bool)) (a0 : (List S_api_Tree)) (a1 : Int) (s0_ : Int) : Option (Int ⊕ (Unit ⊕ Unit)) :=
  cond (decide (s0_ < (a0.length : Int))) ((getI a0 s0_).bind fun x2 => (r_tree_right x2 a1).bind fun y4 => cond (!y4) (some (.inr (.inl ()))) (some (.inl (IntKind.i64.wrap (s0_ + 1))))) (some (.inr (.inr ())))

noncomputable def b_tree_allRight (r_tree_Right : (S_api_Tree → Option Bool)) (r_tree_right : (S_api_Tree → Int → Option Bool)) (r_tree_allRight : ((List S_api_Tree) → Int → Option Bool)) (r_tree_allAtoms : ((List S_api_Tree) → Int → Option Bool)) (a0 : (List S_api_Tree)) (a1 : Int) : Option Bool :=
  (runLoop (b_tree_allRight_L0 r_tree_right a0 a1) 0).bind fun (z7 : (Unit ⊕ Unit)) => match z7 with | .inl z7 => some false | .inr z7 => some true

noncomputable def b_tree_allAtoms_L0 (r_tree_Right : (S_api_Tree → Option Bool)) (a0 : (List S_api_Tree)) (a1 : Int) (s0_ : Int) : Option (Int ⊕ (Unit ⊕ Unit)) :=
  cond (decide (s0_ < (a0.length : Int))) ((getI a0 s0_).bind fun x2 => (cond (x2.Kind != 10) (some true) ((r_tree_Right x2).bind fun y7 => cond y7 ((getI x2.Words 0).bind fun x8 => (m_word_Fits a1 x8).bind fun y9 => some (cond (cond (x2.Kind != 10) true (!y7)) true (!y9))) (some true))).bind fun (z6 : Bool) => cond z6 (some (.inr (.inl ()))) (some (.inl (IntKind.i64.wrap (s0_ + 1))))) (some (.inr (.inr ())))

noncomputable def b_tree_allAtoms (r_tree_Right : (S_api_Tree → Option Bool)) (r_tree_right : (S_api_Tree → Int → Option Bool)) (r_tree_allRight : ((List S_api_Tree) → Int → Option Bool)) (r_tree_allAtoms : ((List S_api_Tree) → Int → Option Bool)) (a0 : (List S_api_Tree)) (a1 : Int) : Option Bool :=
  (runLoop (b_tree_allAtoms_L0 r_tree_Right a0 a1) 0).bind fun (z14 : (Unit ⊕ Unit)) => match z14 with | .inl z14 => some false | .inr z14 => some true

noncomputable def lv_tree_Right : Nat → ((S_api_Tree → Option Bool) × (S_api_Tree → Int → Option Bool) × ((List S_api_Tree) → Int → Option Bool) × ((List S_api_Tree) → Int → Option Bool))
  | 0 => ((fun _ => none), (fun _ _ => none), (fun _ _ => none), (fun _ _ => none))
  | k + 1 => (b_tree_Right ((lv_tree_Right k).1) ((lv_tree_Right k).2.1) ((lv_tree_Right k).2.2.1) ((lv_tree_Right k).2.2.2), b_tree_right ((lv_tree_Right k).1) ((lv_tree_Right k).2.1) ((lv_tree_Right k).2.2.1) ((lv_tree_Right k).2.2.2), b_tree_allRight ((lv_tree_Right k).1) ((lv_tree_Right k).2.1) ((lv_tree_Right k).2.2.1) ((lv_tree_Right k).2.2.2), b_tree_allAtoms ((lv_tree_Right k).1) ((lv_tree_Right k).2.1) ((lv_tree_Right k).2.2.1) ((lv_tree_Right k).2.2.2))

noncomputable def m_tree_Right (a0 : S_api_Tree) : Option Bool := lim fun k => (lv_tree_Right k).1 a0

noncomputable def m_tree_right (a0 : S_api_Tree) (a1 : Int) : Option Bool := lim fun k => (lv_tree_Right k).2.1 a0 a1

noncomputable def m_tree_allRight (a0 : (List S_api_Tree)) (a1 : Int) : Option Bool := lim fun k => (lv_tree_Right k).2.2.1 a0 a1

noncomputable def m_tree_allAtoms (a0 : (List S_api_Tree)) (a1 : Int) : Option Bool := lim fun k => (lv_tree_Right k).2.2.2 a0 a1

noncomputable def m_edit_whole (a0 : S_api_Tree) : Option Bool :=
  (cond (a0.Kind != 10) ((m_tree_Right a0).bind fun y3 => some (cond (a0.Kind != 10) y3 false)) (some false)).bind fun (z2 : Bool) => some z2

noncomputable def m_word_Wide_L0 (a0 : Int) (s0_ : (Int × Int)) : Option ((Int × Int) ⊕ Int) :=
  cond (decide (s0_.2 < 8)) (((guardI (0 ≤ s0_.2)).bind fun u3 => cond ((IntKind.u8.wrap (landI .u8 (Int.fdiv a0 (2 ^ min (Int.toNat s0_.2) 8)) 1)) == 1) ((guardI (0 ≤ (IntKind.i64.wrap (8 * s0_.2)))).bind fun u4 => some (IntKind.u64.wrap (lorI .u64 s0_.1 (IntKind.u64.wrap (255 * 2 ^ min (Int.toNat (IntKind.i64.wrap (8 * s0_.2))) 64))))) (some s0_.1)).bind fun (z1 : Int) => some (.inl (z1, (IntKind.i64.wrap (s0_.2 + 1))))) (some (.inr s0_.1))

noncomputable def m_word_Wide (a0 : Int) : Option Int :=
  (runLoop (m_word_Wide_L0 a0) (0, 0)).bind fun (z7 : Int) => some z7

noncomputable def m_edit_rightWords_L0 (a0 : (List S_api_WordEdit)) (s0_ : (Int × Int)) : Option ((Int × Int) ⊕ (Unit ⊕ Unit)) :=
  cond (decide (s0_.2 < (a0.length : Int))) ((getI a0 s0_.2).bind fun x2 => (m_word_Wide x2.Mask).bind fun y4 => cond (cond (cond (cond (cond (decide (x2.At ≤ s0_.1)) true (decide (65534 < x2.At))) true (x2.Mask == 0)) true ((IntKind.u64.wrap (landI .u64 x2.Old (IntKind.u64.wrap (lxorI .u64 (if IntKind.signed .u64 = true then -1 else IntKind.max .u64) y4)))) != 0)) true ((IntKind.u64.wrap (landI .u64 x2.New (IntKind.u64.wrap (lxorI .u64 (if IntKind.signed .u64 = true then -1 else IntKind.max .u64) y4)))) != 0)) (some (.inr (.inl ()))) (some (.inl (x2.At, (IntKind.i64.wrap (s0_.2 + 1)))))) (some (.inr (.inr ())))

noncomputable def m_edit_rightWords (a0 : (List S_api_WordEdit)) : Option Bool :=
  (runLoop (m_edit_rightWords_L0 a0) ((-1), 0)).bind fun (z7 : (Unit ⊕ Unit)) => match z7 with | .inl z7 => some false | .inr z7 => some true

noncomputable def m_edit_descends (a0 : Int) (a1 : S_api_Edit) : Option Bool :=
  cond (a0 == 8) (some (a1.Kind != 0)) (cond (a0 == 9) (some (cond (a1.Kind == 2) true (cond (cond (a1.Kind == 1) (a1.Old.Kind == 1) false) (a1.New.Kind == 1) false))) (some false))

noncomputable def b_edit_Right (r_edit_Right : (S_api_Edit → Option Bool)) (r_edit_right : (S_api_Edit → Int → Option Bool)) (r_edit_rightKids : ((List S_api_KidEdit) → Int → Option Bool)) (r_edit_rightOps : (S_api_Edit → Int → Option Bool)) (r_edit_rightOp : (Int → S_api_Op → Int → Option Bool)) (r_edit_rightOp_1 : (Bool → Bool → Bool → S_api_Op → Option Bool)) (a0 : S_api_Edit) : Option Bool :=
  (r_edit_right a0 64).bind fun y2 => some y2

noncomputable def b_edit_right (r_edit_Right : (S_api_Edit → Option Bool)) (r_edit_right : (S_api_Edit → Int → Option Bool)) (r_edit_rightKids : ((List S_api_KidEdit) → Int → Option Bool)) (r_edit_rightOps : (S_api_Edit → Int → Option Bool)) (r_edit_rightOp : (Int → S_api_Op → Int → Option Bool)) (r_edit_rightOp_1 : (Bool → Bool → Bool → S_api_Op → Option Bool)) (a0 : S_api_Edit) (a1 : Int) : Option Bool :=
  cond (a1 == 0) (some false) (cond (a0.Kind == 0) ((m_edit_right_1 true true true a0).bind fun y2 => some y2) (cond (a0.Kind == 1) (((m_edit_right_1 false true true a0).bind fun y7 => cond y7 ((m_edit_whole a0.Old).bind fun y8 => cond y8 ((m_edit_whole a0.New).bind fun y9 => some (cond (cond y7 y8 false) y9 false)) (some false)) (some false)).bind fun (z6 : Bool) => some z6) (cond (a0.Kind == 2) (((m_edit_right_1 true false true a0).bind fun y16 => cond y16 ((m_edit_rightWords a0.Words).bind fun y17 => cond y17 ((r_edit_rightKids a0.Kids (IntKind.i64.wrap (a1 - 1))).bind fun y18 => some (cond (cond y16 y17 false) y18 false)) (some false)) (some false)).bind fun (z15 : Bool) => some z15) (cond (a0.Kind == 3) (((m_edit_right_1 true true false a0).bind fun y24 => cond y24 ((r_edit_rightOps a0 (IntKind.i64.wrap (a1 - 1))).bind fun y25 => some (cond y24 y25 false)) (some false)).bind fun (z23 : Bool) => some z23) (some false)))))

noncomputable def b_edit_rightKids_L0 (r_edit_right : (S_api_Edit → Int → Option Bool)) (a0 : (List S_api_KidEdit)) (a1 : Int) (s0_ : (Int × Int)) : Option ((Int × Int) ⊕ (Unit ⊕ Unit)) :=
  cond (decide (s0_.2 < (a0.length : Int))) ((getI a0 s0_.2).bind fun x2 => (cond (decide (x2.At ≤ s0_.1)) (some true) (cond (decide (65534 < x2.At)) (some true) (cond (x2.E.Kind == 0) (some true) ((r_edit_right x2.E a1).bind fun y5 => some (cond (cond (cond (decide (x2.At ≤ s0_.1)) true (decide (65534 < x2.At))) true (x2.E.Kind == 0)) true (!y5)))))).bind fun (z4 : Bool) => cond z4 (some (.inr (.inl ()))) (some (.inl (x2.At, (IntKind.i64.wrap (s0_.2 + 1)))))) (some (.inr (.inr ())))

noncomputable def b_edit_rightKids (r_edit_Right : (S_api_Edit → Option Bool)) (r_edit_right : (S_api_Edit → Int → Option Bool)) (r_edit_rightKids : ((List S_api_KidEdit) → Int → Option Bool)) (r_edit_rightOps : (S_api_Edit → Int → Option Bool)) (r_edit_rightOp : (Int → S_api_Op → Int → Option Bool)) (r_edit_rightOp_1 : (Bool → Bool → Bool → S_api_Op → Option Bool)) (a0 : (List S_api_KidEdit)) (a1 : Int) : Option Bool :=
  (runLoop (b_edit_rightKids_L0 r_edit_right a0 a1) ((-1), 0)).bind fun (z11 : (Unit ⊕ Unit)) => match z11 with | .inl z11 => some false | .inr z11 => some true

noncomputable def b_edit_rightOps_L0 (r_edit_rightOp : (Int → S_api_Op → Int → Option Bool)) (a0 : S_api_Edit) (a1 : Int) (s0_ : Int) : Option (Int ⊕ (Unit ⊕ Unit)) :=
  cond (decide (s0_ < (a0.Ops.length : Int))) ((getI a0.Ops s0_).bind fun x4 => (r_edit_rightOp a0.List_ x4 a1).bind fun y6 => cond (!y6) (some (.inr (.inl ()))) (some (.inl (IntKind.i64.wrap (s0_ + 1))))) (some (.inr (.inr ())))

noncomputable def b_edit_rightOps (r_edit_Right : (S_api_Edit → Option Bool)) (r_edit_right : (S_api_Edit → Int → Option Bool)) (r_edit_rightKids : ((List S_api_KidEdit) → Int → Option Bool)) (r_edit_rightOps : (S_api_Edit → Int → Option Bool)) (r_edit_rightOp : (Int → S_api_Op → Int → Option Bool)) (r_edit_rightOp_1 : (Bool → Bool → Bool → S_api_Op → Option Bool)) (a0 : S_api_Edit) (a1 : Int) : Option Bool :=
  (m_tree_List a0.List_).bind fun y2 => cond (!y2) (some false) ((runLoop (b_edit_rightOps_L0 r_edit_rightOp a0 a1) 0).bind fun (z9 : (Unit ⊕ Unit)) => match z9 with | .inl z9 => some false | .inr z9 => (m_edit_Lengths a0).bind fun y11 => some (cond (decide (y11.1 < 1048576)) (decide (y11.2 < 1048576)) false))

noncomputable def b_edit_rightOp (r_edit_Right : (S_api_Edit → Option Bool)) (r_edit_right : (S_api_Edit → Int → Option Bool)) (r_edit_rightKids : ((List S_api_KidEdit) → Int → Option Bool)) (r_edit_rightOps : (S_api_Edit → Int → Option Bool)) (r_edit_rightOp : (Int → S_api_Op → Int → Option Bool)) (r_edit_rightOp_1 : (Bool → Bool → Bool → S_api_Op → Option Bool)) (a0 : Int) (a1 : S_api_Op) (a2 : Int) : Option Bool :=
  (cond (a1.Kind == 0) ((r_edit_rightOp_1 false true true a1).bind fun y3 => some (.inr (.inl (cond (cond y3 (decide (1 ≤ a1.N)) false) (decide (a1.N ≤ 1048576)) false)))) (cond (a1.Kind == 1) (some (.inl ())) (cond (a1.Kind == 2) (some (.inl ())) (cond (a1.Kind == 3) (some (.inr (.inr (.inl ())))) (some (.inr (.inr (.inr ())))))))).bind fun (z1 : (Unit ⊕ (Bool ⊕ (Unit ⊕ Unit)))) => match z1 with | .inl z1 => ((r_edit_rightOp_1 true false true a1).bind fun y11 => cond y11 (cond (decide (0 < (a1.L.length : Int))) ((m_tree_Right (⟨a0, ([] : (List Int)), a1.L⟩ : S_api_Tree)).bind fun y12 => some (cond (cond y11 (decide (0 < (a1.L.length : Int))) false) y12 false)) (some false)) (some false)).bind fun (z10 : Bool) => some z10 | .inr z1 => match z1 with | .inl z1 => some z1 | .inr z1 => match z1 with | .inl z1 => ((r_edit_rightOp_1 true true false a1).bind fun y19 => cond y19 ((m_edit_descends a0 a1.E).bind fun y20 => cond y20 ((r_edit_right a1.E a2).bind fun y21 => some (cond (cond y19 y20 false) y21 false)) (some false)) (some false)).bind fun (z18 : Bool) => some z18 | .inr z1 => some false

noncomputable def b_edit_rightOp_1 (r_edit_Right : (S_api_Edit → Option Bool)) (r_edit_right : (S_api_Edit → Int → Option Bool)) (r_edit_rightKids : ((List S_api_KidEdit) → Int → Option Bool)) (r_edit_rightOps : (S_api_Edit → Int → Option Bool)) (r_edit_rightOp : (Int → S_api_Op → Int → Option Bool)) (r_edit_rightOp_1 : (Bool → Bool → Bool → S_api_Op → Option Bool)) (a0 : Bool) (a1 : Bool) (a2 : Bool) (a3 : S_api_Op) : Option Bool :=
  (cond a0 (cond (a3.N != 0) (some false) (cond a1 (cond (decide (0 < (a3.L.length : Int))) (some false) (cond a2 (cond (a3.E.Kind != 0) (some (cond (cond (!(cond a0 (a3.N != 0) false)) (!(cond a1 (decide (0 < (a3.L.length : Int))) false)) false) (!(cond a2 true false)) false)) ((r_edit_Right a3.E).bind fun y6 => some (cond (cond (!(cond a0 (a3.N != 0) false)) (!(cond a1 (decide (0 < (a3.L.length : Int))) false)) false) (!(cond a2 (cond (a3.E.Kind != 0) true (!y6)) false)) false))) (some (cond (cond (!(cond a0 (a3.N != 0) false)) (!(cond a1 (decide (0 < (a3.L.length : Int))) false)) false) true false)))) (cond a2 (cond (a3.E.Kind != 0) (some (cond (cond (!(cond a0 (a3.N != 0) false)) (!(cond a1 (decide (0 < (a3.L.length : Int))) false)) false) (!(cond a2 true false)) false)) ((r_edit_Right a3.E).bind fun y7 => some (cond (cond (!(cond a0 (a3.N != 0) false)) (!(cond a1 (decide (0 < (a3.L.length : Int))) false)) false) (!(cond a2 (cond (a3.E.Kind != 0) true (!y7)) false)) false))) (some (cond (cond (!(cond a0 (a3.N != 0) false)) (!(cond a1 (decide (0 < (a3.L.length : Int))) false)) false) true false))))) (cond a1 (cond (decide (0 < (a3.L.length : Int))) (some false) (cond a2 (cond (a3.E.Kind != 0) (some (cond (cond (!(cond a0 (a3.N != 0) false)) (!(cond a1 (decide (0 < (a3.L.length : Int))) false)) false) (!(cond a2 true false)) false)) ((r_edit_Right a3.E).bind fun y8 => some (cond (cond (!(cond a0 (a3.N != 0) false)) (!(cond a1 (decide (0 < (a3.L.length : Int))) false)) false) (!(cond a2 (cond (a3.E.Kind != 0) true (!y8)) false)) false))) (some (cond (cond (!(cond a0 (a3.N != 0) false)) (!(cond a1 (decide (0 < (a3.L.length : Int))) false)) false) true false)))) (cond a2 (cond (a3.E.Kind != 0) (some (cond (cond (!(cond a0 (a3.N != 0) false)) (!(cond a1 (decide (0 < (a3.L.length : Int))) false)) false) (!(cond a2 true false)) false)) ((r_edit_Right a3.E).bind fun y9 => some (cond (cond (!(cond a0 (a3.N != 0) false)) (!(cond a1 (decide (0 < (a3.L.length : Int))) false)) false) (!(cond a2 (cond (a3.E.Kind != 0) true (!y9)) false)) false))) (some (cond (cond (!(cond a0 (a3.N != 0) false)) (!(cond a1 (decide (0 < (a3.L.length : Int))) false)) false) true false))))).bind fun (z5 : Bool) => some z5

noncomputable def lv_edit_Right : Nat → ((S_api_Edit → Option Bool) × (S_api_Edit → Int → Option Bool) × ((List S_api_KidEdit) → Int → Option Bool) × (S_api_Edit → Int → Option Bool) × (Int → S_api_Op → Int → Option Bool) × (Bool → Bool → Bool → S_api_Op → Option Bool))
  | 0 => ((fun _ => none), (fun _ _ => none), (fun _ _ => none), (fun _ _ => none), (fun _ _ _ => none), (fun _ _ _ _ => none))
  | k + 1 => (b_edit_Right ((lv_edit_Right k).1) ((lv_edit_Right k).2.1) ((lv_edit_Right k).2.2.1) ((lv_edit_Right k).2.2.2.1) ((lv_edit_Right k).2.2.2.2.1) ((lv_edit_Right k).2.2.2.2.2), b_edit_right ((lv_edit_Right k).1) ((lv_edit_Right k).2.1) ((lv_edit_Right k).2.2.1) ((lv_edit_Right k).2.2.2.1) ((lv_edit_Right k).2.2.2.2.1) ((lv_edit_Right k).2.2.2.2.2), b_edit_rightKids ((lv_edit_Right k).1) ((lv_edit_Right k).2.1) ((lv_edit_Right k).2.2.1) ((lv_edit_Right k).2.2.2.1) ((lv_edit_Right k).2.2.2.2.1) ((lv_edit_Right k).2.2.2.2.2), b_edit_rightOps ((lv_edit_Right k).1) ((lv_edit_Right k).2.1) ((lv_edit_Right k).2.2.1) ((lv_edit_Right k).2.2.2.1) ((lv_edit_Right k).2.2.2.2.1) ((lv_edit_Right k).2.2.2.2.2), b_edit_rightOp ((lv_edit_Right k).1) ((lv_edit_Right k).2.1) ((lv_edit_Right k).2.2.1) ((lv_edit_Right k).2.2.2.1) ((lv_edit_Right k).2.2.2.2.1) ((lv_edit_Right k).2.2.2.2.2), b_edit_rightOp_1 ((lv_edit_Right k).1) ((lv_edit_Right k).2.1) ((lv_edit_Right k).2.2.1) ((lv_edit_Right k).2.2.2.1) ((lv_edit_Right k).2.2.2.2.1) ((lv_edit_Right k).2.2.2.2.2))

noncomputable def m_edit_Right (a0 : S_api_Edit) : Option Bool := lim fun k => (lv_edit_Right k).1 a0

noncomputable def m_edit_right (a0 : S_api_Edit) (a1 : Int) : Option Bool := lim fun k => (lv_edit_Right k).2.1 a0 a1

noncomputable def m_edit_rightKids (a0 : (List S_api_KidEdit)) (a1 : Int) : Option Bool := lim fun k => (lv_edit_Right k).2.2.1 a0 a1

noncomputable def m_edit_rightOps (a0 : S_api_Edit) (a1 : Int) : Option Bool := lim fun k => (lv_edit_Right k).2.2.2.1 a0 a1

noncomputable def m_edit_rightOp (a0 : Int) (a1 : S_api_Op) (a2 : Int) : Option Bool := lim fun k => (lv_edit_Right k).2.2.2.2.1 a0 a1 a2

noncomputable def m_edit_rightOp_1 (a0 : Bool) (a1 : Bool) (a2 : Bool) (a3 : S_api_Op) : Option Bool := lim fun k => (lv_edit_Right k).2.2.2.2.2 a0 a1 a2 a3

noncomputable def m_centolaw20_awake  : Option Bool :=
  (m_centolaw20_awake_1 5).bind fun y4 => (m_centolaw20_awake_1 6).bind fun y5 => (m_centolaw20_awake_1 7).bind fun y6 => (m_edit_Lengths (⟨3, (⟨0, ([] : (List Int)), ([] : (List S_api_Tree))⟩ : S_api_Tree), (⟨0, ([] : (List Int)), ([] : (List S_api_Tree))⟩ : S_api_Tree), ([] : (List S_api_WordEdit)), ([] : (List S_api_KidEdit)), 4, ([(⟨0, 2, ([] : (List S_api_Tree)), (⟨0, (⟨0, ([] : (List Int)), ([] : (List S_api_Tree))⟩ : S_api_Tree), (⟨0, ([] : (List Int)), ([] : (List S_api_Tree))⟩ : S_api_Tree), ([] : (List S_api_WordEdit)), ([] : (List S_api_KidEdit)), 0, ([] : (List S_api_Op))⟩ : S_api_Edit)⟩ : S_api_Op), (⟨1, 0, ([y4] : List S_api_Tree), (⟨0, (⟨0, ([] : (List Int)), ([] : (List S_api_Tree))⟩ : S_api_Tree), (⟨0, ([] : (List Int)), ([] : (List S_api_Tree))⟩ : S_api_Tree), ([] : (List S_api_WordEdit)), ([] : (List S_api_KidEdit)), 0, ([] : (List S_api_Op))⟩ : S_api_Edit)⟩ : S_api_Op), (⟨2, 0, ([y5, y6] : List S_api_Tree), (⟨0, (⟨0, ([] : (List Int)), ([] : (List S_api_Tree))⟩ : S_api_Tree), (⟨0, ([] : (List Int)), ([] : (List S_api_Tree))⟩ : S_api_Tree), ([] : (List S_api_WordEdit)), ([] : (List S_api_KidEdit)), 0, ([] : (List S_api_Op))⟩ : S_api_Edit)⟩ : S_api_Op)] : List S_api_Op)⟩ : S_api_Edit)).bind fun y8 => (m_edit_Right (⟨3, (⟨0, ([] : (List Int)), ([] : (List S_api_Tree))⟩ : S_api_Tree), (⟨0, ([] : (List Int)), ([] : (List S_api_Tree))⟩ : S_api_Tree), ([] : (List S_api_WordEdit)), ([] : (List S_api_KidEdit)), 4, ([(⟨0, 2, ([] : (List S_api_Tree)), (⟨0, (⟨0, ([] : (List Int)), ([] : (List S_api_Tree))⟩ : S_api_Tree), (⟨0, ([] : (List Int)), ([] : (List S_api_Tree))⟩ : S_api_Tree), ([] : (List S_api_WordEdit)), ([] : (List S_api_KidEdit)), 0, ([] : (List S_api_Op))⟩ : S_api_Edit)⟩ : S_api_Op), (⟨1, 0, ([y4] : List S_api_Tree), (⟨0, (⟨0, ([] : (List Int)), ([] : (List S_api_Tree))⟩ : S_api_Tree), (⟨0, ([] : (List Int)), ([] : (List S_api_Tree))⟩ : S_api_Tree), ([] : (List S_api_WordEdit)), ([] : (List S_api_KidEdit)), 0, ([] : (List S_api_Op))⟩ : S_api_Edit)⟩ : S_api_Op), (⟨2, 0, ([y5, y6] : List S_api_Tree), (⟨0, (⟨0, ([] : (List Int)), ([] : (List S_api_Tree))⟩ : S_api_Tree), (⟨0, ([] : (List Int)), ([] : (List S_api_Tree))⟩ : S_api_Tree), ([] : (List S_api_WordEdit)), ([] : (List S_api_KidEdit)), 0, ([] : (List S_api_Op))⟩ : S_api_Edit)⟩ : S_api_Op)] : List S_api_Op)⟩ : S_api_Edit)).bind fun y10 => some (cond (cond y10 (y8.1 == 3) false) (y8.2 == 4) false)

noncomputable def m_centoref20_Lengths_L0 (a0 : S_api_Edit) (s0_ : (Int × Int × Int)) : Option ((Int × Int × Int) ⊕ (Int × Int)) :=
  cond (decide (s0_.2.2 < (a0.Ops.length : Int))) (((getI a0.Ops s0_.2.2).bind fun x3 => (cond (x3.Kind == 3) (some 1) (some (IntKind.i64.wrap (x3.N + (x3.L.length : Int))))).bind fun (z4 : Int) => (cond (x3.Kind != 2) (some (IntKind.i64.wrap (s0_.1 + z4))) (some s0_.1)).bind fun (z6 : Int) => (cond (x3.Kind != 1) (some (IntKind.i64.wrap (s0_.2.1 + z4))) (some s0_.2.1)).bind fun (z8 : Int) => (cond (decide (1048576 < z6)) (some 1048576) (some z6)).bind fun (z10 : Int) => cond (decide (1048576 < z8)) (some (z10, 1048576)) (some (z10, z8))).bind fun (z1 : (Int × Int)) => some (.inl (z1.1, z1.2, (IntKind.i64.wrap (s0_.2.2 + 1))))) (some (.inr (s0_.1, s0_.2.1)))

noncomputable def m_centoref20_Lengths (a0 : S_api_Edit) : Option (Int × Int) :=
  (runLoop (m_centoref20_Lengths_L0 a0) (0, 0, 0)).bind fun (z14 : (Int × Int)) => some (z14.1, z14.2)

noncomputable def m_centoref20_none (a0 : S_api_Tree) : Option Bool :=
  some (cond (a0.Kind == 0) ((IntKind.i64.wrap ((a0.Words.length : Int) + (a0.Kids.length : Int))) == 0) false)

noncomputable def m_centoref01_Width (a0 : Int) : Option Int :=
  cond (a0 == 0) (some 0) (cond (a0 == 1) (some 1) (cond (a0 == 2) (some 8) (cond (a0 == 3) (some 16) (cond (a0 == 4) (some 32) (cond (a0 == 5) (some 64) (some (-1)))))))

noncomputable def m_centoref01_Fits_L0 (y2 : Int) (s0_ : (Int × Int)) : Option ((Int × Int) ⊕ Int) :=
  cond (decide (s0_.2 < y2)) (some (.inl ((IntKind.u64.wrap (Int.tdiv s0_.1 2)), (IntKind.i64.wrap (s0_.2 + 1))))) (some (.inr s0_.1))

noncomputable def m_centoref01_Fits (a0 : Int) (a1 : Int) : Option Bool :=
  (m_centoref01_Width a0).bind fun y2 => cond (decide (y2 < 0)) (some false) ((runLoop (m_centoref01_Fits_L0 y2) (a1, 0)).bind fun (z4 : Int) => some (z4 == 0))

noncomputable def b_centoref07_Right_L0 (r_centoref07_Right : (S_api_Tree → Int → Option Bool)) (a0 : S_api_Tree) (a1 : Int) (s0_ : Int) : Option (Int ⊕ (Unit ⊕ Unit)) :=
  cond (decide (s0_ < (a0.Kids.length : Int))) ((getI a0.Kids s0_).bind fun x2 => (r_centoref07_Right x2 (IntKind.i64.wrap (a1 - 1))).bind fun y4 => cond (!y4) (some (.inr (.inl ()))) ((cond ((cond (decide (2 ≤ a0.Kind)) (decide (a0.Kind ≤ 7)) false) != (x2.Kind == 10)) (some true) (cond (a0.Kind == 9) (cond (x2.Kind != 1) (some true) (cond (decide (2 ≤ a0.Kind)) (cond (decide (a0.Kind ≤ 7)) ((getI x2.Words 0).bind fun x10 => (m_centoref01_Fits (IntKind.i64.wrap (a0.Kind - 2)) x10).bind fun y11 => some (cond (cond ((cond (decide (2 ≤ a0.Kind)) (decide (a0.Kind ≤ 7)) false) != (x2.Kind == 10)) true (cond (a0.Kind == 9) (x2.Kind != 1) false)) true (cond (cond (decide (2 ≤ a0.Kind)) (decide (a0.Kind ≤ 7)) false) (!y11) false))) (some (cond (cond ((cond (decide (2 ≤ a0.Kind)) (decide (a0.Kind ≤ 7)) false) != (x2.Kind == 10)) true (cond (a0.Kind == 9) (x2.Kind != 1) false)) true false))) (some (cond (cond ((cond (decide (2 ≤ a0.Kind)) (decide (a0.Kind ≤ 7)) false) != (x2.Kind == 10)) true (cond (a0.Kind == 9) (x2.Kind != 1) false)) true false)))) (cond (decide (2 ≤ a0.Kind)) (cond (decide (a0.Kind ≤ 7)) ((getI x2.Words 0).bind fun x12 => (m_centoref01_Fits (IntKind.i64.wrap (a0.Kind - 2)) x12).bind fun y13 => some (cond (cond ((cond (decide (2 ≤ a0.Kind)) (decide (a0.Kind ≤ 7)) false) != (x2.Kind == 10)) true (cond (a0.Kind == 9) (x2.Kind != 1) false)) true (cond (cond (decide (2 ≤ a0.Kind)) (decide (a0.Kind ≤ 7)) false) (!y13) false))) (some (cond (cond ((cond (decide (2 ≤ a0.Kind)) (decide (a0.Kind ≤ 7)) false) != (x2.Kind == 10)) true (cond (a0.Kind == 9) (x2.Kind != 1) false)) true false))) (some (cond (cond ((cond (decide (2 ≤ a0.Kind)) (decide (a0.Kind ≤ 7)) false) != (x2.Kind == 10)) true (cond (a0.Kind == 9) (x2.Kind != 1) false)) true false))))).bind fun (z9 : Bool) => cond z9 (some (.inr (.inl ()))) (some (.inl (IntKind.i64.wrap (s0_ + 1)))))) (some (.inr (.inr ())))

noncomputable def b_centoref07_Right (r_centoref07_Right : (S_api_Tree → Int → Option Bool)) (a0 : S_api_Tree) (a1 : Int) : Option Bool :=
  cond (a0.Kind == 0) (some (cond ((a0.Words.length : Int) == 0) ((a0.Kids.length : Int) == 0) false)) (cond (a0.Kind == 10) (some (cond ((a0.Words.length : Int) == 1) ((a0.Kids.length : Int) == 0) false)) (cond (cond (cond (cond (cond (cond (decide (a0.Kind < 0)) true (decide (10 < a0.Kind))) true (a1 == 0)) true (decide (65536 ≤ (a0.Words.length : Int)))) true (cond (a0.Kind == 1) (decide (65536 ≤ (a0.Kids.length : Int))) false)) true (decide (1048576 ≤ (a0.Kids.length : Int)))) (some false) (cond (cond (decide (1 < a0.Kind)) (decide (0 < (a0.Words.length : Int))) false) (some false) ((runLoop (b_centoref07_Right_L0 r_centoref07_Right a0 a1) 0).bind fun (z24 : (Unit ⊕ Unit)) => match z24 with | .inl z24 => some false | .inr z24 => some true))))

noncomputable def lv_centoref07_Right : Nat → (S_api_Tree → Int → Option Bool)
  | 0 => (fun _ _ => none)
  | k + 1 => b_centoref07_Right ((lv_centoref07_Right k))

noncomputable def m_centoref07_Right (a0 : S_api_Tree) (a1 : Int) : Option Bool := lim fun k => (lv_centoref07_Right k) a0 a1

noncomputable def m_centoref01_Bytes_L0 (s0_ : (Int × Int × (Arr Int 8))) : Option ((Int × Int × (Arr Int 8)) ⊕ (Arr Int 8)) :=
  cond (decide (s0_.2.1 < 8)) ((getI s0_.2.2.1 s0_.2.1).bind fun x15 => some (.inl ((IntKind.u64.wrap (Int.tdiv s0_.1 256)), (IntKind.i64.wrap (s0_.2.1 + 1)), (Arr.put s0_.2.2 s0_.2.1 (IntKind.u8.wrap (Int.tmod s0_.1 256)))))) (some (.inr s0_.2.2))

noncomputable def m_centoref01_Bytes (a0 : Int) : Option (Arr Int 8) :=
  ((some (⟨[0, 0, 0, 0, 0, 0, 0, 0], rfl⟩ : (Arr Int 8)))).bind fun y3 => ((some (⟨[0, 0, 0, 0, 0, 0, 0, 0], rfl⟩ : (Arr Int 8)))).bind fun y9 => (runLoop (m_centoref01_Bytes_L0) (a0, 0, y9)).bind fun (z18 : (Arr Int 8)) => some z18

noncomputable def m_centoref01_Named_L0 (a1 : Int) (s0_ : (Int × Int)) : Option ((Int × Int) ⊕ Int) :=
  cond (decide (s0_.2 < a1)) (some (.inl ((IntKind.u8.wrap (Int.tdiv s0_.1 2)), (IntKind.i64.wrap (s0_.2 + 1))))) (some (.inr s0_.1))

noncomputable def m_centoref01_Named (a0 : Int) (a1 : Int) : Option Bool :=
  (runLoop (m_centoref01_Named_L0 a1) (a0, 0)).bind fun (z2 : Int) => some ((Int.tmod z2 2) == 1)

noncomputable def m_centoref01_Of_L0 (a0 : (List Int)) (a1 : Int) (s0_ : (Int × Int)) : Option ((Int × Int) ⊕ Int) :=
  cond (decide (0 ≤ s0_.2)) ((getI a0 (IntKind.i64.wrap (a1 + s0_.2))).bind fun x1 => some (.inl ((IntKind.u64.wrap ((IntKind.u64.wrap (s0_.1 * 256)) + (IntKind.u64.wrap x1))), (IntKind.i64.wrap (s0_.2 - 1))))) (some (.inr s0_.1))

noncomputable def m_centoref01_Of (a0 : (List Int)) (a1 : Int) : Option Int :=
  (runLoop (m_centoref01_Of_L0 a0 a1) (0, 7)).bind fun (z3 : Int) => some z3

noncomputable def m_centoref01_Mix_L0 (a2 : Int) (y9 : (Arr Int 8)) (s0_ : (Int × (Arr Int 8))) : Option ((Int × (Arr Int 8)) ⊕ (Arr Int 8)) :=
  cond (decide (s0_.1 < 8)) (((m_centoref01_Named a2 s0_.1).bind fun y17 => cond y17 ((getI y9.1 s0_.1).bind fun x18 => (getI s0_.2.1 s0_.1).bind fun x19 => some (Arr.put s0_.2 s0_.1 x18)) (some s0_.2)).bind fun (z15 : (Arr Int 8)) => some (.inl ((IntKind.i64.wrap (s0_.1 + 1)), z15))) (some (.inr s0_.2))

noncomputable def m_centoref01_Mix (a0 : Int) (a1 : Int) (a2 : Int) : Option Int :=
  (m_centoref01_Bytes a0).bind fun y8 => (m_centoref01_Bytes a1).bind fun y9 => ((some (⟨[0, 0, 0, 0, 0, 0, 0, 0], rfl⟩ : (Arr Int 8)))).bind fun y10 => (runLoop (m_centoref01_Mix_L0 a2 y9) (0, y8)).bind fun (z23 : (Arr Int 8)) => (m_centoref01_Of z23.1 0).bind fun y29 => some y29

noncomputable def m_centoref20_within (a0 : Int) (a1 : Int) : Option Bool :=
  (m_centoref01_Mix a0 0 a1).bind fun y2 => some (y2 == 0)

noncomputable def m_centoref20_same (a0 : S_api_Edit) : Option Bool :=
  (cond (a0.Kind == 0) ((m_centoref20_none a0.Old).bind fun y4 => cond y4 ((m_centoref20_none a0.New).bind fun y5 => some (cond (cond (cond (cond (a0.Kind == 0) y4 false) y5 false) ((IntKind.i64.wrap ((IntKind.i64.wrap ((a0.Words.length : Int) + (a0.Kids.length : Int))) + (a0.Ops.length : Int))) == 0) false) (a0.List_ == 0) false)) (some false)) (some false)).bind fun (z3 : Bool) => some z3

noncomputable def b_centoref20_Right_L0 (a0 : S_api_Edit) (s0_ : (Int × Int)) : Option ((Int × Int) ⊕ (Unit ⊕ Unit)) :=
  cond (decide (s0_.2 < (a0.Words.length : Int))) ((getI a0.Words s0_.2).bind fun x15 => (cond (decide (x15.At ≤ s0_.1)) (some true) (cond (decide (65534 < x15.At)) (some true) (cond (x15.Mask == 0) (some true) ((m_centoref20_within x15.Old x15.Mask).bind fun y19 => cond y19 ((m_centoref20_within x15.New x15.Mask).bind fun y20 => some (cond (cond (cond (cond (decide (x15.At ≤ s0_.1)) true (decide (65534 < x15.At))) true (x15.Mask == 0)) true (!y19)) true (!y20))) (some true))))).bind fun (z18 : Bool) => cond z18 (some (.inr (.inl ()))) (some (.inl (x15.At, (IntKind.i64.wrap (s0_.2 + 1)))))) (some (.inr (.inr ())))

noncomputable def b_centoref20_Right_L1 (r_centoref20_Right : (S_api_Edit → Int → Option Bool)) (a0 : S_api_Edit) (a1 : Int) (s1_ : (Int × Int)) : Option ((Int × Int) ⊕ (Unit ⊕ Unit)) :=
  cond (decide (s1_.2 < (a0.Kids.length : Int))) ((getI a0.Kids s1_.2).bind fun x29 => (cond (decide (x29.At ≤ s1_.1)) (some true) (cond (decide (65534 < x29.At)) (some true) (cond (x29.E.Kind == 0) (some true) ((r_centoref20_Right x29.E (IntKind.i64.wrap (a1 - 1))).bind fun y32 => some (cond (cond (cond (decide (x29.At ≤ s1_.1)) true (decide (65534 < x29.At))) true (x29.E.Kind == 0)) true (!y32)))))).bind fun (z31 : Bool) => cond z31 (some (.inr (.inl ()))) (some (.inl (x29.At, (IntKind.i64.wrap (s1_.2 + 1)))))) (some (.inr (.inr ())))

noncomputable def b_centoref20_Right_L2 (r_centoref20_op : (Int → S_api_Op → Int → Option Bool)) (a0 : S_api_Edit) (a1 : Int) (s2_ : Int) : Option (Int ⊕ (Unit ⊕ Unit)) :=
  cond (decide (s2_ < (a0.Ops.length : Int))) ((getI a0.Ops s2_).bind fun x41 => (r_centoref20_op a0.List_ x41 (IntKind.i64.wrap (a1 - 1))).bind fun y42 => cond (!y42) (some (.inr (.inl ()))) (some (.inl (IntKind.i64.wrap (s2_ + 1))))) (some (.inr (.inr ())))

noncomputable def b_centoref20_Right (r_centoref20_Right : (S_api_Edit → Int → Option Bool)) (r_centoref20_op : (Int → S_api_Op → Int → Option Bool)) (a0 : S_api_Edit) (a1 : Int) : Option Bool :=
  cond (cond (cond (a1 == 0) true (decide (a0.Kind < 0))) true (decide (3 < a0.Kind))) (some false) ((cond (a0.Kind != 1) ((m_centoref20_none a0.Old).bind fun y4 => cond y4 ((m_centoref20_none a0.New).bind fun y5 => some (cond (cond (cond (a0.Kind != 1) (!(cond y4 y5 false)) false) true (cond (a0.Kind != 2) (decide (0 < (IntKind.i64.wrap ((a0.Words.length : Int) + (a0.Kids.length : Int))))) false)) true (cond (a0.Kind != 3) (cond (a0.List_ != 0) true (decide (0 < (a0.Ops.length : Int)))) false))) (some true)) (some (cond (cond (a0.Kind != 2) (decide (0 < (IntKind.i64.wrap ((a0.Words.length : Int) + (a0.Kids.length : Int))))) false) true (cond (a0.Kind != 3) (cond (a0.List_ != 0) true (decide (0 < (a0.Ops.length : Int)))) false)))).bind fun (z3 : Bool) => cond z3 (some false) (cond (a0.Kind == 1) (((m_centoref07_Right a0.Old 64).bind fun y11 => cond y11 ((m_centoref07_Right a0.New 64).bind fun y12 => some (cond (cond (cond y11 y12 false) (a0.Old.Kind != 10) false) (a0.New.Kind != 10) false)) (some false)).bind fun (z10 : Bool) => some z10) ((runLoop (b_centoref20_Right_L0 a0) ((-1), 0)).bind fun (z27 : (Unit ⊕ Unit)) => match z27 with | .inl z27 => some false | .inr z27 => (runLoop (b_centoref20_Right_L1 r_centoref20_Right a0 a1) ((-1), 0)).bind fun (z38 : (Unit ⊕ Unit)) => match z38 with | .inl z38 => some false | .inr z38 => cond (cond (a0.Kind == 3) (cond (decide (a0.List_ < 2)) true (decide (9 < a0.List_))) false) (some false) ((runLoop (b_centoref20_Right_L2 r_centoref20_op a0 a1) 0).bind fun (z45 : (Unit ⊕ Unit)) => match z45 with | .inl z45 => some false | .inr z45 => (m_centoref20_Lengths a0).bind fun y47 => some (cond (decide (y47.1 < 1048576)) (decide (y47.2 < 1048576)) false)))))

noncomputable def b_centoref20_op_L0 (a0 : Int) (a1 : S_api_Op) (s0_ : Int) : Option (Int ⊕ (Unit ⊕ Unit)) :=
  cond (decide (s0_ < (a1.L.length : Int))) ((subI a1.L s0_ (IntKind.i64.wrap (s0_ + 1))).bind fun l9 => (m_centoref07_Right (⟨a0, ([] : (List Int)), l9⟩ : S_api_Tree) 64).bind fun y10 => cond (!y10) (some (.inr (.inl ()))) (some (.inl (IntKind.i64.wrap (s0_ + 1))))) (some (.inr (.inr ())))

noncomputable def b_centoref20_op (r_centoref20_Right : (S_api_Edit → Int → Option Bool)) (r_centoref20_op : (Int → S_api_Op → Int → Option Bool)) (a0 : Int) (a1 : S_api_Op) (a2 : Int) : Option Bool :=
  cond (a1.Kind == 0) ((cond (decide (1 ≤ a1.N)) (cond (decide (a1.N ≤ 1048576)) (cond ((a1.L.length : Int) == 0) ((m_centoref20_same a1.E).bind fun y3 => some (cond (cond (cond (decide (1 ≤ a1.N)) (decide (a1.N ≤ 1048576)) false) ((a1.L.length : Int) == 0) false) y3 false)) (some false)) (some false)) (some false)).bind fun (z2 : Bool) => some z2) (cond (cond (cond (a1.N != 0) true (decide (a1.Kind < 0))) true (decide (3 < a1.Kind))) (some false) (cond (decide (a1.Kind < 3)) ((runLoop (b_centoref20_op_L0 a0 a1) 0).bind fun (z13 : (Unit ⊕ Unit)) => match z13 with | .inl z13 => some false | .inr z13 => (cond (decide (0 < (a1.L.length : Int))) ((m_centoref20_same a1.E).bind fun y16 => some (cond (decide (0 < (a1.L.length : Int))) y16 false)) (some false)).bind fun (z15 : Bool) => some z15) ((cond (decide (0 < (a1.L.length : Int))) (some true) (cond (a1.E.Kind == 0) (some true) (cond (decide (a0 ≤ 7)) (some true) ((r_centoref20_Right a1.E a2).bind fun y20 => some (cond (cond (cond (decide (0 < (a1.L.length : Int))) true (a1.E.Kind == 0)) true (decide (a0 ≤ 7))) true (!y20)))))).bind fun (z19 : Bool) => cond z19 (some false) (some (cond (cond (a0 == 8) true (a1.E.Kind == 2)) true (cond (cond (a1.E.Kind == 1) (a1.E.Old.Kind == 1) false) (a1.E.New.Kind == 1) false))))))

noncomputable def lv_centoref20_Right : Nat → ((S_api_Edit → Int → Option Bool) × (Int → S_api_Op → Int → Option Bool))
  | 0 => ((fun _ _ => none), (fun _ _ _ => none))
  | k + 1 => (b_centoref20_Right ((lv_centoref20_Right k).1) ((lv_centoref20_Right k).2), b_centoref20_op ((lv_centoref20_Right k).1) ((lv_centoref20_Right k).2))

noncomputable def m_centoref20_Right (a0 : S_api_Edit) (a1 : Int) : Option Bool := lim fun k => (lv_centoref20_Right k).1 a0 a1

noncomputable def m_centoref20_op (a0 : Int) (a1 : S_api_Op) (a2 : Int) : Option Bool := lim fun k => (lv_centoref20_Right k).2 a0 a1 a2

noncomputable def b_edit_Count_L0 (r_edit_Count : (S_api_Edit → Option Int)) (a0 : S_api_Edit) (s0_ : (Int × Int)) : Option ((Int × Int) ⊕ Int) :=
  cond (decide (s0_.2 < (a0.Kids.length : Int))) ((getI a0.Kids s0_.2).bind fun x2 => (r_edit_Count x2.E).bind fun y3 => some (.inl ((IntKind.i64.wrap (s0_.1 + y3)), (IntKind.i64.wrap (s0_.2 + 1))))) (some (.inr s0_.1))

noncomputable def b_edit_Count_L1 (r_edit_Count : (S_api_Edit → Option Int)) (a0 : S_api_Edit) (s1_ : (Int × Int)) : Option ((Int × Int) ⊕ Int) :=
  cond (decide (s1_.2 < (a0.Ops.length : Int))) (((getI a0.Ops s1_.2).bind fun x8 => cond (x8.Kind == 3) ((r_edit_Count x8.E).bind fun y9 => some (IntKind.i64.wrap (s1_.1 + y9))) (some s1_.1)).bind fun (z6 : Int) => some (.inl (z6, (IntKind.i64.wrap (s1_.2 + 1))))) (some (.inr s1_.1))

noncomputable def b_edit_Count (r_edit_Count : (S_api_Edit → Option Int)) (a0 : S_api_Edit) : Option Int :=
  (runLoop (b_edit_Count_L0 r_edit_Count a0) ((IntKind.i64.wrap ((IntKind.i64.wrap (1 + (a0.Words.length : Int))) + (a0.Ops.length : Int))), 0)).bind fun (z5 : Int) => (runLoop (b_edit_Count_L1 r_edit_Count a0) (z5, 0)).bind fun (z12 : Int) => some z12

noncomputable def lv_edit_Count : Nat → (S_api_Edit → Option Int)
  | 0 => (fun _ => none)
  | k + 1 => b_edit_Count ((lv_edit_Count k))

noncomputable def m_edit_Count (a0 : S_api_Edit) : Option Int := lim fun k => (lv_edit_Count k) a0

noncomputable def b_centoref20_Count_L0 (r_centoref20_Count : (S_api_Edit → Option Int)) (a0 : S_api_Edit) (s0_ : (Int × Int)) : Option ((Int × Int) ⊕ Int) :=
  cond (decide (s0_.2 < (a0.Kids.length : Int))) ((getI a0.Kids s0_.2).bind fun x1 => (r_centoref20_Count x1.E).bind fun y3 => some (.inl ((IntKind.i64.wrap (s0_.1 + y3)), (IntKind.i64.wrap (s0_.2 + 1))))) (some (.inr s0_.1))

noncomputable def b_centoref20_Count_L1 (r_centoref20_Count : (S_api_Edit → Option Int)) (a0 : S_api_Edit) (s1_ : (Int × Int)) : Option ((Int × Int) ⊕ Int) :=
  cond (decide (s1_.2 < (a0.Ops.length : Int))) (((getI a0.Ops s1_.2).bind fun x9 => cond (x9.Kind == 3) ((getI a0.Ops s1_.2).bind fun x11 => (r_centoref20_Count x11.E).bind fun y13 => some (IntKind.i64.wrap (s1_.1 + y13))) (some s1_.1)).bind fun (z6 : Int) => some (.inl (z6, (IntKind.i64.wrap (s1_.2 + 1))))) (some (.inr s1_.1))

noncomputable def b_centoref20_Count (r_centoref20_Count : (S_api_Edit → Option Int)) (a0 : S_api_Edit) : Option Int :=
  (runLoop (b_centoref20_Count_L0 r_centoref20_Count a0) ((IntKind.i64.wrap ((IntKind.i64.wrap (1 + (a0.Words.length : Int))) + (a0.Ops.length : Int))), 0)).bind fun (z5 : Int) => (runLoop (b_centoref20_Count_L1 r_centoref20_Count a0) (z5, 0)).bind fun (z16 : Int) => some z16

noncomputable def lv_centoref20_Count : Nat → (S_api_Edit → Option Int)
  | 0 => (fun _ => none)
  | k + 1 => b_centoref20_Count ((lv_centoref20_Count k))

noncomputable def m_centoref20_Count (a0 : S_api_Edit) : Option Int := lim fun k => (lv_centoref20_Count k) a0

noncomputable def m_centolaw20_EditRight (a0 : S_api_Edit) : Option Bool :=
  (m_centoref20_Few a0).bind fun y2 => cond (!y2) ((m_centolaw20_awake).bind fun y4 => some y4) ((m_edit_Lengths a0).bind fun y6 => (m_centoref20_Lengths a0).bind fun y8 => ((m_edit_Right a0).bind fun y14 => (m_centoref20_Right a0 64).bind fun y15 => cond (y14 != y15) (some true) ((m_edit_Count a0).bind fun y16 => (m_centoref20_Count a0).bind fun y17 => some (cond (y14 != y15) true (y16 != y17)))).bind fun (z13 : Bool) => cond z13 (some false) (((m_centoref20_Right a0 64).bind fun y23 => cond y23 (cond (y6.1 == y8.1) (cond (y6.2 == y8.2) ((m_centolaw20_awake).bind fun y24 => some (cond (cond (!y23) true (cond (y6.1 == y8.1) (y6.2 == y8.2) false)) y24 false)) (some false)) (some false)) ((m_centolaw20_awake).bind fun y25 => some (cond (cond (!y23) true (cond (y6.1 == y8.1) (y6.2 == y8.2) false)) y25 false))).bind fun (z22 : Bool) => some z22))

noncomputable def m_centolaw20_EditParts_L0 (a0 : S_api_Edit) (s0_ : Int) : Option (Int ⊕ (Unit ⊕ Unit)) :=
  cond (decide (s0_ < (a0.Kids.length : Int))) (((getI a0.Kids s0_).bind fun x15 => (m_edit_Right x15.E).bind fun y17 => cond y17 (some (cond (!y17) true (x15.E.Kind == 0))) (some true)).bind fun (z14 : Bool) => cond z14 (some (.inr (.inl ()))) (some (.inl (IntKind.i64.wrap (s0_ + 1))))) (some (.inr (.inr ())))

noncomputable def m_centolaw20_EditParts_L1 (a0 : S_api_Edit) (s1_ : Int) : Option (Int ⊕ (Unit ⊕ Unit)) :=
  cond (decide (s1_ < (a0.Ops.length : Int))) (((getI a0.Ops s1_).bind fun x32 => (m_edit_Right x32.E).bind fun y34 => cond y34 (some (cond (!y34) true ((x32.Kind == 3) == (x32.E.Kind == 0)))) (some true)).bind fun (z31 : Bool) => cond z31 (some (.inr (.inl ()))) (some (.inl (IntKind.i64.wrap (s1_ + 1))))) (some (.inr (.inr ())))

noncomputable def m_centolaw20_EditParts (a0 : S_api_Edit) : Option Bool :=
  ((m_centoref20_Few a0).bind fun y4 => cond y4 ((m_edit_Right a0).bind fun y5 => some (cond (!y4) true (!y5))) (some true)).bind fun (z3 : Bool) => cond z3 ((m_centolaw20_awake).bind fun y8 => some y8) ((runLoop (m_centolaw20_EditParts_L0 a0) 0).bind fun (z23 : (Unit ⊕ Unit)) => match z23 with | .inl z23 => some false | .inr z23 => (runLoop (m_centolaw20_EditParts_L1 a0) 0).bind fun (z42 : (Unit ⊕ Unit)) => match z42 with | .inl z42 => some false | .inr z42 => ((m_edit_Count a0).bind fun y46 => cond (decide (1 ≤ y46)) ((m_centolaw20_awake).bind fun y47 => some (cond (decide (1 ≤ y46)) y47 false)) (some false)).bind fun (z45 : Bool) => some z45)

end Go.Proofs.Ytjeolggpgclgkaa
