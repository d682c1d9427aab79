/- Part CD of this seat's mirrors: functions of the seat's program, and the plain functions that they are; each theorem bears its own conditions. -/
import Derived.Test.YtjeolggpgclgkaaH21
namespace Go.Proofs.Ytjeolggpgclgkaa
open Go.RowKit
set_option linter.unusedVariables false
set_option linter.unusedSimpArgs false
set_option maxRecDepth 100000
set_option maxHeartbeats 1000000
structure S_api_Tree where
  Kind : Int
  Words : (List Int)
  Kids : (List S_api_Tree)

noncomputable def b_centoref07_Shallow_L0 (r_centoref07_Shallow : (S_api_Tree → Int → Int → Option Int)) (a0 : S_api_Tree) (a1 : Int) (s0_ : (Int × Int)) : Option ((Int × Int) ⊕ Int) :=
  cond (cond (decide (s0_.2 < (a0.Kids.length : Int))) (decide (0 ≤ s0_.1)) false) ((getI a0.Kids s0_.2).bind fun x1 => (r_centoref07_Shallow x1 (IntKind.i64.wrap (a1 - 1)) s0_.1).bind fun y2 => some (.inl (y2, (IntKind.i64.wrap (s0_.2 + 1))))) (some (.inr s0_.1))

noncomputable def b_centoref07_Shallow (r_centoref07_Shallow : (S_api_Tree → Int → Int → Option Int)) (a0 : S_api_Tree) (a1 : Int) (a2 : Int) : Option Int :=
  cond (cond (a1 == 0) true (decide ((IntKind.i64.wrap ((IntKind.i64.wrap (a2 - 1)) - (a0.Words.length : Int))) < 0))) (some (-1)) ((runLoop (b_centoref07_Shallow_L0 r_centoref07_Shallow a0 a1) ((IntKind.i64.wrap ((IntKind.i64.wrap (a2 - 1)) - (a0.Words.length : Int))), 0)).bind fun (z4 : Int) => some z4)

noncomputable def lv_centoref07_Shallow : Nat → (S_api_Tree → Int → Int → Option Int)
  | 0 => (fun _ _ _ => none)
  | k + 1 => b_centoref07_Shallow ((lv_centoref07_Shallow k))

noncomputable def m_centoref07_Shallow (a0 : S_api_Tree) (a1 : Int) (a2 : Int) : Option Int := lim fun k => (lv_centoref07_Shallow k) a0 a1 a2

structure S_api_WordEdit where
  At : Int
  Mask : Int
  Old : Int
  New : Int

mutual
structure S_api_Edit where
  Kind : Int
  Old : S_api_Tree
  New : S_api_Tree
  Words : (List S_api_WordEdit)
  Kids : (List S_api_KidEdit)
  List_ : Int
  Ops : (List S_api_Op)
structure S_api_KidEdit where
  At : Int
  E : S_api_Edit
structure S_api_Op where
  Kind : Int
  N : Int
  L : (List S_api_Tree)
  E : S_api_Edit
end

noncomputable def b_centoref20_left_L0 (r_centoref20_left : (S_api_Edit → Int → Int → Option Int)) (a0 : S_api_Edit) (a1 : Int) (s0_ : (Int × Int)) : Option ((Int × Int) ⊕ Int) :=
  cond (cond (decide (s0_.2 < (a0.Kids.length : Int))) (decide (0 ≤ s0_.1)) false) ((getI a0.Kids s0_.2).bind fun x6 => (r_centoref20_left x6.E (IntKind.i64.wrap (a1 - 1)) s0_.1).bind fun y8 => some (.inl (y8, (IntKind.i64.wrap (s0_.2 + 1))))) (some (.inr s0_.1))

noncomputable def b_centoref20_left_L2 (a0 : S_api_Edit) (s1_ : (Int × Int)) (s2_ : (Int × Int)) : Option ((Int × Int) ⊕ Int) :=
  (getI a0.Ops s1_.2).bind fun x14 => cond (cond (decide (s2_.2 < (x14.L.length : Int))) (decide (0 ≤ s2_.1)) false) ((getI a0.Ops s1_.2).bind fun x16 => (getI x16.L s2_.2).bind fun x18 => (m_centoref07_Shallow x18 80 s2_.1).bind fun y19 => some (.inl (y19, (IntKind.i64.wrap (s2_.2 + 1))))) (some (.inr s2_.1))

noncomputable def b_centoref20_left_L1 (r_centoref20_left : (S_api_Edit → Int → Int → Option Int)) (a0 : S_api_Edit) (a1 : Int) (s1_ : (Int × Int)) : Option ((Int × Int) ⊕ Int) :=
  cond (cond (decide (s1_.2 < (a0.Ops.length : Int))) (decide (0 ≤ s1_.1)) false) (((runLoop (b_centoref20_left_L2 a0 s1_) (s1_.1, 0)).bind fun (z21 : Int) => cond (decide (0 ≤ z21)) ((getI a0.Ops s1_.2).bind fun x22 => (r_centoref20_left x22.E (IntKind.i64.wrap (a1 - 1)) z21).bind fun y24 => some y24) (some z21)).bind fun (z11 : Int) => some (.inl (z11, (IntKind.i64.wrap (s1_.2 + 1))))) (some (.inr s1_.1))

noncomputable def b_centoref20_left (r_centoref20_left : (S_api_Edit → Int → Int → Option Int)) (a0 : S_api_Edit) (a1 : Int) (a2 : Int) : Option Int :=
  cond (cond (a1 == 0) true (decide ((IntKind.i64.wrap ((IntKind.i64.wrap ((IntKind.i64.wrap (a2 - 1)) - (a0.Words.length : Int))) - (a0.Ops.length : Int))) < 0))) (some (-1)) ((m_centoref07_Shallow a0.Old 80 (IntKind.i64.wrap ((IntKind.i64.wrap ((IntKind.i64.wrap (a2 - 1)) - (a0.Words.length : Int))) - (a0.Ops.length : Int)))).bind fun y2 => (cond (decide (0 ≤ y2)) ((m_centoref07_Shallow a0.New 80 y2).bind fun y4 => some y4) (some y2)).bind fun (z3 : Int) => (runLoop (b_centoref20_left_L0 r_centoref20_left a0 a1) (z3, 0)).bind fun (z10 : Int) => (runLoop (b_centoref20_left_L1 r_centoref20_left a0 a1) (z10, 0)).bind fun (z27 : Int) => some z27)

noncomputable def lv_centoref20_left : Nat → (S_api_Edit → Int → Int → Option Int)
  | 0 => (fun _ _ _ => none)
  | k + 1 => b_centoref20_left ((lv_centoref20_left k))

noncomputable def m_centoref20_left (a0 : S_api_Edit) (a1 : Int) (a2 : Int) : Option Int := lim fun k => (lv_centoref20_left k) a0 a1 a2

noncomputable def m_centoref20_Few (a0 : S_api_Edit) : Option Bool :=
  (m_centoref20_left a0 80 3000).bind fun y2 => some (decide (0 ≤ y2))

noncomputable def m_centolaw20_awake_1 (a0 : Int) : Option S_api_Tree :=
  some (⟨10, ([a0] : List Int), ([] : (List S_api_Tree))⟩ : S_api_Tree)

noncomputable def m_edit_through (a0 : S_api_Op) : Option Int :=
  cond (a0.Kind == 0) (some (if 1048576 < (if a0.N < 0 then 0 else a0.N) then 1048576 else (if a0.N < 0 then 0 else a0.N))) ((cond (a0.Kind == 1) (some (a0.Kind == 1)) (some (a0.Kind == 2))).bind fun (z1 : Bool) => cond z1 (some (a0.L.length : Int)) (cond (a0.Kind == 3) (some 1) (some 0)))

noncomputable def m_edit_Lengths_L0 (a0 : S_api_Edit) (s0_ : (Int × Int × Int)) : Option ((Int × Int × Int) ⊕ (Int × Int)) :=
  cond (decide (s0_.2.2 < (a0.Ops.length : Int))) (((getI a0.Ops s0_.2.2).bind fun x3 => (cond (x3.Kind != 2) ((m_edit_through x3).bind fun y5 => some (if 1048576 < (IntKind.i64.wrap (s0_.1 + y5)) then 1048576 else (IntKind.i64.wrap (s0_.1 + y5)))) (some s0_.1)).bind fun (z4 : Int) => cond (x3.Kind != 1) ((m_edit_through x3).bind fun y7 => some (z4, (if 1048576 < (IntKind.i64.wrap (s0_.2.1 + y7)) then 1048576 else (IntKind.i64.wrap (s0_.2.1 + y7))))) (some (z4, s0_.2.1))).bind fun (z1 : (Int × Int)) => some (.inl (z1.1, z1.2, (IntKind.i64.wrap (s0_.2.2 + 1))))) (some (.inr (s0_.1, s0_.2.1)))

noncomputable def m_edit_Lengths (a0 : S_api_Edit) : Option (Int × Int) :=
  (runLoop (m_edit_Lengths_L0 a0) (0, 0, 0)).bind fun (z10 : (Int × Int)) => some (z10.1, z10.2)

noncomputable def m_edit_something (a0 : S_api_Tree) : Option Bool :=
  some (cond (a0.Kind != 0) true (decide (0 < (IntKind.i64.wrap ((a0.Words.length : Int) + (a0.Kids.length : Int))))))

noncomputable def m_edit_right_1 (a0 : Bool) (a1 : Bool) (a2 : Bool) (a3 : S_api_Edit) : Option Bool :=
  (cond a0 ((m_edit_something a3.Old).bind fun y4 => cond y4 (some false) ((m_edit_something a3.New).bind fun y5 => some (cond (cond (!(cond a0 (cond y4 true y5) false)) (!(cond a1 (decide (0 < (IntKind.i64.wrap ((a3.Words.length : Int) + (a3.Kids.length : Int))))) false)) false) (!(cond a2 (cond (a3.List_ != 0) true (decide (0 < (a3.Ops.length : Int)))) false)) false))) (some (cond (!(cond a1 (decide (0 < (IntKind.i64.wrap ((a3.Words.length : Int) + (a3.Kids.length : Int))))) false)) (!(cond a2 (cond (a3.List_ != 0) true (decide (0 < (a3.Ops.length : Int)))) false)) false))).bind fun (z3 : Bool) => some z3

noncomputable def m_tree_List (a0 : Int) : Option Bool :=
  some (cond (decide (2 ≤ a0)) (decide (a0 ≤ 9)) false)

noncomputable def m_tree_allStructs_L0 (a0 : (List S_api_Tree)) (s0_ : Int) : Option (Int ⊕ (Unit ⊕ Unit)) :=
  cond (decide (s0_ < (a0.length : Int))) ((getI a0 s0_).bind fun x2 => cond (x2.Kind != 1) (some (.inr (.inl ()))) (some (.inl (IntKind.i64.wrap (s0_ + 1))))) (some (.inr (.inr ())))

noncomputable def m_tree_allStructs (a0 : (List S_api_Tree)) : Option Bool :=
  (runLoop (m_tree_allStructs_L0 a0) 0).bind fun (z5 : (Unit ⊕ Unit)) => match z5 with | .inl z5 => some false | .inr z5 => some true

noncomputable def m_word_Width (a0 : Int) : Option (Int × Bool) :=
  ((some (⟨[0, 1, 8, 16, 32, 64], rfl⟩ : (Arr Int 6)))).bind fun y6 => ((some (⟨[0, 0, 0, 0, 0, 0], rfl⟩ : (Arr Int 6)))).bind fun y8 => cond (cond (decide (a0 < 0)) true (decide (6 ≤ a0))) (some (0, false)) ((getI y6.1 a0).bind fun x12 => some (x12, true))

noncomputable def m_word_Fits (a0 : Int) (a1 : Int) : Option Bool :=
  (m_word_Width a0).bind fun y2 => (cond y2.2 ((guardI (0 ≤ y2.1)).bind fun u5 => some (cond y2.2 ((Int.fdiv a1 (2 ^ min (Int.toNat y2.1) 64)) == 0) false)) (some false)).bind fun (z4 : Bool) => some z4

noncomputable def b_tree_Right (r_tree_Right : (S_api_Tree → Option Bool)) (r_tree_right : (S_api_Tree → Int → Option Bool)) (r_tree_allRight : ((List S_api_Tree) → Int → Option Bool)) (r_tree_allAtoms : ((List S_api_Tree) → Int → Option Bool)) (a0 : S_api_Tree) : Option Bool :=
  cond (a0.Kind == 10) (some (cond ((a0.Words.length : Int) == 1) ((a0.Kids.length : Int) == 0) false)) ((r_tree_right a0 64).bind fun y2 => some y2)

noncomputable def b_tree_right (r_tree_Right : (S_api_Tree → Option Bool)) (r_tree_right : (S_api_Tree → Int → Option Bool)) (r_tree_allRight : ((List S_api_Tree) → Int → Option Bool)) (r_tree_allAtoms : ((List S_api_Tree) → Int → Option Bool)) (a0 : S_api_Tree) (a1 : Int) : Option Bool :=
  cond (a0.Kind == 0) (some (cond ((a0.Words.length : Int) == 0) ((a0.Kids.length : Int) == 0) false)) (cond (a1 == 0) (some false) (cond (a0.Kind == 1) ((cond (decide ((a0.Words.length : Int) < 65536)) (cond (decide ((a0.Kids.length : Int) < 65536)) ((r_tree_allRight a0.Kids (IntKind.i64.wrap (a1 - 1))).bind fun y3 => some (cond (cond (decide ((a0.Words.length : Int) < 65536)) (decide ((a0.Kids.length : Int) < 65536)) false) y3 false)) (some false)) (some false)).bind fun (z2 : Bool) => some z2) ((m_tree_List a0.Kind).bind fun y7 => cond (cond (cond (!y7) true (decide (0 < (a0.Words.length : Int)))) true (decide (1048576 ≤ (a0.Kids.length : Int)))) (some false) (cond (a0.Kind == 8) ((r_tree_allRight a0.Kids (IntKind.i64.wrap (a1 - 1))).bind fun y9 => some y9) (cond (a0.Kind == 9) (((m_tree_allStructs a0.Kids).bind fun y13 => cond y13 ((r_tree_allRight a0.Kids (IntKind.i64.wrap (a1 - 1))).bind fun y14 => some (cond y13 y14 false)) (some false)).bind fun (z12 : Bool) => some z12) ((r_tree_allAtoms a0.Kids (IntKind.i64.wrap (a0.Kind - 2))).bind fun y17 => some y17))))))

noncomputable def b_tree_allRight_L0 (r_tree_right : (S_api_Tree → Int → Option Bool)) (a0 : (List S_api_Tree)) (a1 : Int) (s0_ : Int) : Option (Int ⊕ (Unit ⊕ Unit)) :=
  cond (decide (s0_ < (a0.length : Int))) ((getI a0 s0_).bind fun x2 => (r_tree_right x2 a1).bind fun y4 => cond (!y4) (some (.inr (.inl ()))) (some (.inl (IntKind.i64.wrap (s0_ + 1))))) (some (.inr (.inr ())))

noncomputable def b_tree_allRight (r_tree_Right : (S_api_Tree → Option Bool)) (r_tree_right : (S_api_Tree → Int → Option Bool)) (r_tree_allRight : ((List S_api_Tree) → Int → Option Bool)) (r_tree_allAtoms : ((List S_api_Tree) → Int → Option Bool)) (a0 : (List S_api_Tree)) (a1 : Int) : Option Bool :=
  (runLoop (b_tree_allRight_L0 r_tree_right a0 a1) 0).bind fun (z7 : (Unit ⊕ Unit)) => match z7 with | .inl z7 => some false | .inr z7 => some true

noncomputable def b_tree_allAtoms_L0 (r_tree_Right : (S_api_Tree → Option Bool)) (a0 : (List S_api_Tree)) (a1 : Int) (s0_ : Int) : Option (Int ⊕ (Unit ⊕ Unit)) :=
  cond (decide (s0_ < (a0.length : Int))) ((getI a0 s0_).bind fun x2 => (cond (x2.Kind != 10) (some true) ((r_tree_Right x2).bind fun y7 => cond y7 ((getI x2.Words 0).bind fun x8 => (m_word_Fits a1 x8).bind fun y9 => some (cond (cond (x2.Kind != 10) true (!y7)) true (!y9))) (some true))).bind fun (z6 : Bool) => cond z6 (some (.inr (.inl ()))) (some (.inl (IntKind.i64.wrap (s0_ + 1))))) (some (.inr (.inr ())))

noncomputable def b_tree_allAtoms (r_tree_Right : (S_api_Tree → Option Bool)) (r_tree_right : (S_api_Tree → Int → Option Bool)) (r_tree_allRight : ((List S_api_Tree) → Int → Option Bool)) (r_tree_allAtoms : ((List S_api_Tree) → Int → Option Bool)) (a0 : (List S_api_Tree)) (a1 : Int) : Option Bool :=
  (runLoop (b_tree_allAtoms_L0 r_tree_Right a0 a1) 0).bind fun (z14 : (Unit ⊕ Unit)) => match z14 with | .inl z14 => some false | .inr z14 => some true

noncomputable def lv_tree_Right : Nat → ((S_api_Tree → Option Bool) × (S_api_Tree → Int → Option Bool) × ((List S_api_Tree) → Int → Option Bool) × ((List S_api_Tree) → Int → Option Bool))
  | 0 => ((fun _ => none), (fun _ _ => none), (fun _ _ => none), (fun _ _ => none))
  | k + 1 => (b_tree_Right ((lv_tree_Right k).1) ((lv_tree_Right k).2.1) ((lv_tree_Right k).2.2.1) ((lv_tree_Right k).2.2.2), b_tree_right ((lv_tree_Right k).1) ((lv_tree_Right k).2.1) ((lv_tree_Right k).2.2.1) ((lv_tree_Right k).2.2.2), b_tree_allRight ((lv_tree_Right k).1) ((lv_tree_Right k).2.1) ((lv_tree_Right k).2.2.1) ((lv_tree_Right k).2.2.2), b_tree_allAtoms ((lv_tree_Right k).1) ((lv_tree_Right k).2.1) ((lv_tree_Right k).2.2.1) ((lv_tree_Right k).2.2.2))

noncomputable def m_tree_Right (a0 : S_api_Tree) : Option Bool := lim fun k => (lv_tree_Right k).1 a0

noncomputable def m_tree_right (a0 : S_api_Tree) (a1 : Int) : Option Bool := lim fun k => (lv_tree_Right k).2.1 a0 a1

noncomputable def m_tree_allRight (a0 : (List S_api_Tree)) (a1 : Int) : Option Bool := lim fun k => (lv_tree_Right k).2.2.1 a0 a1

noncomputable def m_tree_allAtoms (a0 : (List S_api_Tree)) (a1 : Int) : Option Bool := lim fun k => (lv_tree_Right k).2.2.2 a0 a1

noncomputable def m_edit_whole (a0 : S_api_Tree) : Option Bool :=
  (cond (a0.Kind != 10) ((m_tree_Right a0).bind fun y3 => some (cond (a0.Kind != 10) y3 false)) (some false)).bind fun (z2 : Bool) => some z2

noncomputable def m_word_Wide_L0 (a0 : Int) (s0_ : (Int × Int)) : Option ((Int × Int) ⊕ Int) :=
  cond (decide (s0_.2 < 8)) (((guardI (0 ≤ s0_.2)).bind fun u3 => cond ((IntKind.u8.wrap (landI .u8 (Int.fdiv a0 (2 ^ min (Int.toNat s0_.2) 8)) 1)) == 1) ((guardI (0 ≤ (IntKind.i64.wrap (8 * s0_.2)))).bind fun u4 => some (IntKind.u64.wrap (lorI .u64 s0_.1 (IntKind.u64.wrap (255 * 2 ^ min (Int.toNat (IntKind.i64.wrap (8 * s0_.2))) 64))))) (some s0_.1)).bind fun (z1 : Int) => some (.inl (z1, (IntKind.i64.wrap (s0_.2 + 1))))) (some (.inr s0_.1))

noncomputable def m_word_Wide (a0 : Int) : Option Int :=
  (runLoop (m_word_Wide_L0 a0) (0, 0)).bind fun (z7 : Int) => some z7

noncomputable def m_edit_rightWords_L0 (a0 : (List S_api_WordEdit)) (s0_ : (Int × Int)) : Option ((Int × Int) ⊕ (Unit ⊕ Unit)) :=
  cond (decide (s0_.2 < (a0.length : Int))) ((getI a0 s0_.2).bind fun x2 => (m_word_Wide x2.Mask).bind fun y4 => cond (cond (cond (cond (cond (decide (x2.At ≤ s0_.1)) true (decide (65534 < x2.At))) true (x2.Mask == 0)) true ((IntKind.u64.wrap (landI .u64 x2.Old (IntKind.u64.wrap (lxorI .u64 (if IntKind.signed .u64 = true then -1 else IntKind.max .u64) y4)))) != 0)) true ((IntKind.u64.wrap (landI .u64 x2.New (IntKind.u64.wrap (lxorI .u64 (if IntKind.signed .u64 = true then -1 else IntKind.max .u64) y4)))) != 0)) (some (.inr (.inl ()))) (some (.inl (x2.At, (IntKind.i64.wrap (s0_.2 + 1)))))) (some (.inr (.inr ())))

noncomputable def m_edit_rightWords (a0 : (List S_api_WordEdit)) : Option Bool :=
  (runLoop (m_edit_rightWords_L0 a0) ((-1), 0)).bind fun (z7 : (Unit ⊕ Unit)) => match z7 with | .inl z7 => some false | .inr z7 => some true

noncomputable def m_edit_descends (a0 : Int) (a1 : S_api_Edit) : Option Bool :=
  cond (a0 == 8) (some (a1.Kind != 0)) (cond (a0 == 9) (some (cond (a1.Kind == 2) true (cond (cond (a1.Kind == 1) (a1.Old.Kind == 1) false) (a1.New.Kind == 1) false))) (some false))

noncomputable def b_edit_Right (r_edit_Right : (S_api_Edit → Option Bool)) (r_edit_right : (S_api_Edit → Int → Option Bool)) (r_edit_rightKids : ((List S_api_KidEdit) → Int → Option Bool)) (r_edit_rightOps : (S_api_Edit → Int → Option Bool)) (r_edit_rightOp : (Int → S_api_Op → Int → Option Bool)) (r_edit_rightOp_1 : (Bool → Bool → Bool → S_api_Op → Option Bool)) (a0 : S_api_Edit) : Option Bool :=
  (r_edit_right a0 64).bind fun y2 => some y2

noncomputable def b_edit_right (r_edit_Right : (S_api_Edit → Option Bool)) (r_edit_right : (S_api_Edit → Int → Option Bool)) (r_edit_rightKids : ((List S_api_KidEdit) → Int → Option Bool)) (r_edit_rightOps : (S_api_Edit → Int → Option Bool)) (r_edit_rightOp : (Int → S_api_Op → Int → Option Bool)) (r_edit_rightOp_1 : (Bool → Bool → Bool → S_api_Op → Option Bool)) (a0 : S_api_Edit) (a1 : Int) : Option Bool :=
  cond (a1 == 0) (some false) (cond (a0.Kind == 0) ((m_edit_right_1 true true true a0).bind fun y2 => some y2) (cond (a0.Kind == 1) (((m_edit_right_1 false true true a0).bind fun y7 => cond y7 ((m_edit_whole a0.Old).bind fun y8 => cond y8 ((m_edit_whole a0.New).bind fun y9 => some (cond (cond y7 y8 false) y9 false)) (some false)) (some false)).bind fun (z6 : Bool) => some z6) (cond (a0.Kind == 2) (((m_edit_right_1 true false true a0).bind fun y16 => cond y16 ((m_edit_rightWords a0.Words).bind fun y17 => cond y17 ((r_edit_rightKids a0.Kids (IntKind.i64.wrap (a1 - 1))).bind fun y18 => some (cond (cond y16 y17 false) y18 false)) (some false)) (some false)).bind fun (z15 : Bool) => some z15) (cond (a0.Kind == 3) (((m_edit_right_1 true true false a0).bind fun y24 => cond y24 ((r_edit_rightOps a0 (IntKind.i64.wrap (a1 - 1))).bind fun y25 => some (cond y24 y25 false)) (some false)).bind fun (z23 : Bool) => some z23) (some false)))))

noncomputable def b_edit_rightKids_L0 (r_edit_right : (S_api_Edit → Int → Option Bool)) (a0 : (List S_api_KidEdit)) (a1 : Int) (s0_ : (Int × Int)) : Option ((Int × Int) ⊕ (Unit ⊕ Unit)) :=
  cond (decide (s0_.2 < (a0.length : Int))) ((getI a0 s0_.2).bind fun x2 => (cond (decide (x2.At ≤ s0_.1)) (some true) (cond (decide (65534 < x2.At)) (some true) (cond (x2.E.Kind == 0) (some true) ((r_edit_right x2.E a1).bind fun y5 => some (cond (cond (cond (decide (x2.At ≤ s0_.1)) true (decide (65534 < x2.At))) true (x2.E.Kind == 0)) true (!y5)))))).bind fun (z4 : Bool) => cond z4 (some (.inr (.inl ()))) (some (.inl (x2.At, (IntKind.i64.wrap (s0_.2 + 1)))))) (some (.inr (.inr ())))

noncomputable def b_edit_rightKids (r_edit_Right : (S_api_Edit → Option Bool)) (r_edit_right : (S_api_Edit → Int → Option Bool)) (r_edit_rightKids : ((List S_api_KidEdit) → Int → Option Bool)) (r_edit_rightOps : (S_api_Edit → Int → Option Bool)) (r_edit_rightOp : (Int → S_api_Op → Int → Option Bool)) (r_edit_rightOp_1 : (Bool → Bool → Bool → S_api_Op → Option Bool)) (a0 : (List S_api_KidEdit)) (a1 : Int) : Option Bool :=
  (runLoop (b_edit_rightKids_L0 r_edit_right a0 a1) ((-1), 0)).bind fun (z11 : (Unit ⊕ Unit)) => match z11 with | .inl z11 => some false | .inr z11 => some true

noncomputable def b_edit_rightOps_L0 (r_edit_rightOp : (Int → S_api_Op → Int → Option Bool)) (a0 : S_api_Edit) (a1 : Int) (s0_ : Int) : Option (Int ⊕ (Unit ⊕ Unit)) :=
  cond (decide (s0_ < (a0.Ops.length : Int))) ((getI a0.Ops s0_).bind fun x4 => (r_edit_rightOp a0.List_ x4 a1).bind fun y6 => cond (!y6) (some (.inr (.inl ()))) (some (.inl (IntKind.i64.wrap (s0_ + 1))))) (some (.inr (.inr ())))

noncomputable def b_edit_rightOps (r_edit_Right : (S_api_Edit → Option Bool)) (r_edit_right : (S_api_Edit → Int → Option Bool)) (r_edit_rightKids : ((List S_api_KidEdit) → Int → Option Bool)) (r_edit_rightOps : (S_api_Edit → Int → Option Bool)) (r_edit_rightOp : (Int → S_api_Op → Int → Option Bool)) (r_edit_rightOp_1 : (Bool → Bool → Bool → S_api_Op → Option Bool)) (a0 : S_api_Edit) (a1 : Int) : Option Bool :=
  (m_tree_List a0.List_).bind fun y2 => cond (!y2) (some false) ((runLoop (b_edit_rightOps_L0 r_edit_rightOp a0 a1) 0).bind fun (z9 : (Unit ⊕ Unit)) => match z9 with | .inl z9 => some false | .inr z9 => (m_edit_Lengths a0).bind fun y11 => some (cond (decide (y11.1 < 1048576)) (decide (y11.2 < 1048576)) false))

noncomputable def b_edit_rightOp (r_edit_Right : (S_api_Edit → Option Bool)) (r_edit_right : (S_api_Edit → Int → Option Bool)) (r_edit_rightKids : ((List S_api_KidEdit) → Int → Option Bool)) (r_edit_rightOps : (S_api_Edit → Int → Option Bool)) (r_edit_rightOp : (Int → S_api_Op → Int → Option Bool)) (r_edit_rightOp_1 : (Bool → Bool → Bool → S_api_Op → Option Bool)) (a0 : Int) (a1 : S_api_Op) (a2 : Int) : Option Bool :=
  (cond (a1.Kind == 0) ((r_edit_rightOp_1 false true true a1).bind fun y3 => some (.inr (.inl (cond (cond y3 (decide (1 ≤ a1.N)) false) (decide (a1.N ≤ 1048576)) false)))) (cond (a1.Kind == 1) (some (.inl ())) (cond (a1.Kind == 2) (some (.inl ())) (cond (a1.Kind == 3) (some (.inr (.inr (.inl ())))) (some (.inr (.inr (.inr ())))))))).bind fun (z1 : (Unit ⊕ (Bool ⊕ (Unit ⊕ Unit)))) => match z1 with | .inl z1 => ((r_edit_rightOp_1 true false true a1).bind fun y11 => cond y11 (cond (decide (0 < (a1.L.length : Int))) ((m_tree_Right (⟨a0, ([] : (List Int)), a1.L⟩ : S_api_Tree)).bind fun y12 => some (cond (cond y11 (decide (0 < (a1.L.length : Int))) false) y12 false)) (some false)) (some false)).bind fun (z10 : Bool) => some z10 | .inr z1 => match z1 with | .inl z1 => some z1 | .inr z1 => match z1 with | .inl z1 => ((r_edit_rightOp_1 true true false a1).bind fun y19 => cond y19 ((m_edit_descends a0 a1.E).bind fun y20 => cond y20 ((r_edit_right a1.E a2).bind fun y21 => some (cond (cond y19 y20 false) y21 false)) (some false)) (some false)).bind fun (z18 : Bool) => some z18 | .inr z1 => some false

noncomputable def b_edit_rightOp_1 (r_edit_Right : (S_api_Edit → Option Bool)) (r_edit_right : (S_api_Edit → Int → Option Bool)) (r_edit_rightKids : ((List S_api_KidEdit) → Int → Option Bool)) (r_edit_rightOps : (S_api_Edit → Int → Option Bool)) (r_edit_rightOp : (Int → S_api_Op → Int → Option Bool)) (r_edit_rightOp_1 : (Bool → Bool → Bool → S_api_Op → Option Bool)) (a0 : Bool) (a1 : Bool) (a2 : Bool) (a3 : S_api_Op) : Option Bool :=
  (cond a0 (cond (a3.N != 0) (some false) (cond a1 (cond (decide (0 < (a3.L.length : Int))) (some false) (cond a2 (cond (a3.E.Kind != 0) (some (cond (cond (!(cond a0 (a3.N != 0) false)) (!(cond a1 (decide (0 < (a3.L.length : Int))) false)) false) (!(cond a2 true false)) false)) ((r_edit_Right a3.E).bind fun y6 => some (cond (cond (!(cond a0 (a3.N != 0) false)) (!(cond a1 (decide (0 < (a3.L.length : Int))) false)) false) (!(cond a2 (cond (a3.E.Kind != 0) true (!y6)) false)) false))) (some (cond (cond (!(cond a0 (a3.N != 0) false)) (!(cond a1 (decide (0 < (a3.L.length : Int))) false)) false) true false)))) (cond a2 (cond (a3.E.Kind != 0) (some (cond (cond (!(cond a0 (a3.N != 0) false)) (!(cond a1 (decide (0 < (a3.L.length : Int))) false)) false) (!(cond a2 true false)) false)) ((r_edit_Right a3.E).bind fun y7 => some (cond (cond (!(cond a0 (a3.N != 0) false)) (!(cond a1 (decide (0 < (a3.L.length : Int))) false)) false) (!(cond a2 (cond (a3.E.Kind != 0) true (!y7)) false)) false))) (some (cond (cond (!(cond a0 (a3.N != 0) false)) (!(cond a1 (decide (0 < (a3.L.length : Int))) false)) false) true false))))) (cond a1 (cond (decide (0 < (a3.L.length : Int))) (some false) (cond a2 (cond (a3.E.Kind != 0) (some (cond (cond (!(cond a0 (a3.N != 0) false)) (!(cond a1 (decide (0 < (a3.L.length : Int))) false)) false) (!(cond a2 true false)) false)) ((r_edit_Right a3.E).bind fun y8 => some (cond (cond (!(cond a0 (a3.N != 0) false)) (!(cond a1 (decide (0 < (a3.L.length : Int))) false)) false) (!(cond a2 (cond (a3.E.Kind != 0) true (!y8)) false)) false))) (some (cond (cond (!(cond a0 (a3.N != 0) false)) (!(cond a1 (decide (0 < (a3.L.length : Int))) false)) false) true false)))) (cond a2 (cond (a3.E.Kind != 0) (some (cond (cond (!(cond a0 (a3.N != 0) false)) (!(cond a1 (decide (0 < (a3.L.length : Int))) false)) false) (!(cond a2 true false)) false)) ((r_edit_Right a3.E).bind fun y9 => some (cond (cond (!(cond a0 (a3.N != 0) false)) (!(cond a1 (decide (0 < (a3.L.length : Int))) false)) false) (!(cond a2 (cond (a3.E.Kind != 0) true (!y9)) false)) false))) (some (cond (cond (!(cond a0 (a3.N != 0) false)) (!(cond a1 (decide (0 < (a3.L.length : Int))) false)) false) true false))))).bind fun (z5 : Bool) => some z5

noncomputable def lv_edit_Right : Nat → ((S_api_Edit → Option Bool) × (S_api_Edit → Int → Option Bool) × ((List S_api_KidEdit) → Int → Option Bool) × (S_api_Edit → Int → Option Bool) × (Int → S_api_Op → Int → Option Bool) × (Bool → Bool → Bool → S_api_Op → Option Bool))
  | 0 => ((fun _ => none), (fun _ _ => none), (fun _ _ => none), (fun _ _ => none), (fun _ _ _ => none), (fun _ _ _ _ => none))
  | k + 1 => (b_edit_Right ((lv_edit_Right k).1) ((lv_edit_Right k).2.1) ((lv_edit_Right k).2.2.1) ((lv_edit_Right k).2.2.2.1) ((lv_edit_Right k).2.2.2.2.1) ((lv_edit_Right k).2.2.2.2.2), b_edit_right ((lv_edit_Right k).1) ((lv_edit_Right k).2.1) ((lv_edit_Right k).2.2.1) ((lv_edit_Right k).2.2.2.1) ((lv_edit_Right k).2.2.2.2.1) ((lv_edit_Right k).2.2.2.2.2), b_edit_rightKids ((lv_edit_Right k).1) ((lv_edit_Right k).2.1) ((lv_edit_Right k).2.2.1) ((lv_edit_Right k).2.2.2.1) ((lv_edit_Right k).2.2.2.2.1) ((lv_edit_Right k).2.2.2.2.2), b_edit_rightOps ((lv_edit_Right k).1) ((lv_edit_Right k).2.1) ((lv_edit_Right k).2.2.1) ((lv_edit_Right k).2.2.2.1) ((lv_edit_Right k).2.2.2.2.1) ((lv_edit_Right k).2.2.2.2.2), b_edit_rightOp ((lv_edit_Right k).1) ((lv_edit_Right k).2.1) ((lv_edit_Right k).2.2.1) ((lv_edit_Right k).2.2.2.1) ((lv_edit_Right k).2.2.2.2.1) ((lv_edit_Right k).2.2.2.2.2), b_edit_rightOp_1 ((lv_edit_Right k).1) ((lv_edit_Right k).2.1) ((lv_edit_Right k).2.2.1) ((lv_edit_Right k).2.2.2.1) ((lv_edit_Right k).2.2.2.2.1) ((lv_edit_Right k).2.2.2.2.2))

noncomputable def m_edit_Right (a0 : S_api_Edit) : Option Bool := lim fun k => (lv_edit_Right k).1 a0

noncomputable def m_edit_right (a0 : S_api_Edit) (a1 : Int) : Option Bool := lim fun k => (lv_edit_Right k).2.1 a0 a1

noncomputable def m_edit_rightKids (a0 : (List S_api_KidEdit)) (a1 : Int) : Option Bool := lim fun k => (lv_edit_Right k).2.2.1 a0 a1

noncomputable def m_edit_rightOps (a0 : S_api_Edit) (a1 : Int) : Option Bool := lim fun k => (lv_edit_Right k).2.2.2.1 a0 a1

noncomputable def m_edit_rightOp (a0 : Int) (a1 : S_api_Op) (a2 : Int) : Option Bool := lim fun k => (lv_edit_Right k).2.2.2.2.1 a0 a1 a2

noncomputable def m_edit_rightOp_1 (a0 : Bool) (a1 : Bool) (a2 : Bool) (a3 : S_api_Op) : Option Bool := lim fun k => (lv_edit_Right k).2.2.2.2.2 a0 a1 a2 a3

noncomputable def m_centolaw20_awake  : Option Bool :=
  (m_centolaw20_awake_1 5).bind fun y4 => (m_centolaw20_awake_1 6).bind fun y5 => (m_centolaw20_awake_1 7).bind fun y6 => (m_edit_Lengths (⟨3, (⟨0, ([] : (List Int)), ([] : (List S_api_Tree))⟩ : S_api_Tree), (⟨0, ([] : (List Int)), ([] : (List S_api_Tree))⟩ : S_api_Tree), ([] : (List S_api_WordEdit)), ([] : (List S_api_KidEdit)), 4, ([(⟨0, 2, ([] : (List S_api_Tree)), (⟨0, (⟨0, ([] : (List Int)), ([] : (List S_api_Tree))⟩ : S_api_Tree), (⟨0, ([] : (List Int)), ([] : (List S_api_Tree))⟩ : S_api_Tree), ([] : (List S_api_WordEdit)), ([] : (List S_api_KidEdit)), 0, ([] : (List S_api_Op))⟩ : S_api_Edit)⟩ : S_api_Op), (⟨1, 0, ([y4] : List S_api_Tree), (⟨0, (⟨0, ([] : (List Int)), ([] : (List S_api_Tree))⟩ : S_api_Tree), (⟨0, ([] : (List Int)), ([] : (List S_api_Tree))⟩ : S_api_Tree), ([] : (List S_api_WordEdit)), ([] : (List S_api_KidEdit)), 0, ([] : (List S_api_Op))⟩ : S_api_Edit)⟩ : S_api_Op), (⟨2, 0, ([y5, y6] : List S_api_Tree), (⟨0, (⟨0, ([] : (List Int)), ([] : (List S_api_Tree))⟩ : S_api_Tree), (⟨0, ([] : (List Int)), ([] : (List S_api_Tree))⟩ : S_api_Tree), ([] : (List S_api_WordEdit)), ([] : (List S_api_KidEdit)), 0, ([] : (List S_api_Op))⟩ : S_api_Edit)⟩ : S_api_Op)] : List S_api_Op)⟩ : S_api_Edit)).bind fun y8 => (m_edit_Right (⟨3, (⟨0, ([] : (List Int)), ([] : (List S_api_Tree))⟩ : S_api_Tree), (⟨0, ([] : (List Int)), ([] : (List S_api_Tree))⟩ : S_api_Tree), ([] : (List S_api_WordEdit)), ([] : (List S_api_KidEdit)), 4, ([(⟨0, 2, ([] : (List S_api_Tree)), (⟨0, (⟨0, ([] : (List Int)), ([] : (List S_api_Tree))⟩ : S_api_Tree), (⟨0, ([] : (List Int)), ([] : (List S_api_Tree))⟩ : S_api_Tree), ([] : (List S_api_WordEdit)), ([] : (List S_api_KidEdit)), 0, ([] : (List S_api_Op))⟩ : S_api_Edit)⟩ : S_api_Op), (⟨1, 0, ([y4] : List S_api_Tree), (⟨0, (⟨0, ([] : (List Int)), ([] : (List S_api_Tree))⟩ : S_api_Tree), (⟨0, ([] : (List Int)), ([] : (List S_api_Tree))⟩ : S_api_Tree), ([] : (List S_api_WordEdit)), ([] : (List S_api_KidEdit)), 0, ([] : (List S_api_Op))⟩ : S_api_Edit)⟩ : S_api_Op), (⟨2, 0, ([y5, y6] : List S_api_Tree), (⟨0, (⟨0, ([] : (List Int)), ([] : (List S_api_Tree))⟩ : S_api_Tree), (⟨0, ([] : (List Int)), ([] : (List S_api_Tree))⟩ : S_api_Tree), ([] : (List S_api_WordEdit)), ([] : (List S_api_KidEdit)), 0, ([] : (List S_api_Op))⟩ : S_api_Edit)⟩ : S_api_Op)] : List S_api_Op)⟩ : S_api_Edit)).bind fun y10 => some (cond (cond y10 (y8.1 == 3) false) (y8.2 == 4) false)

noncomputable def m_tree_trimWords_L0 (a0 : (List Int)) (s0_ : Int) : Option (Int ⊕ Int) :=
  (cond (decide (0 < s0_)) ((getI a0 (IntKind.i64.wrap (s0_ - 1))).bind fun x3 => some (cond (decide (0 < s0_)) (x3 == 0) false)) (some false)).bind fun (z2 : Bool) => cond z2 (some (.inl (IntKind.i64.wrap (s0_ - 1)))) (some (.inr s0_))

noncomputable def m_tree_trimWords (a0 : (List Int)) : Option (List Int) :=
  (runLoop (m_tree_trimWords_L0 a0) (a0.length : Int)).bind fun (z6 : Int) => (subI a0 0 z6).bind fun l8 => some l8

noncomputable def m_slices_Equal_uint64_uint64_L0 (a0 : (List Int)) (a1 : (List Int)) (s0_ : Int) : Option (Int ⊕ (Unit ⊕ Unit)) :=
  cond (decide (s0_ < (a0.length : Int))) ((getI a0 s0_).bind fun x3 => (getI a1 s0_).bind fun x4 => cond (x3 != x4) (some (.inr (.inl ()))) (some (.inl (IntKind.i64.wrap (s0_ + 1))))) (some (.inr (.inr ())))

noncomputable def m_slices_Equal_uint64_uint64 (a0 : (List Int)) (a1 : (List Int)) : Option Bool :=
  cond ((a0.length : Int) != (a1.length : Int)) (some false) ((runLoop (m_slices_Equal_uint64_uint64_L0 a0 a1) 0).bind fun (z7 : (Unit ⊕ Unit)) => match z7 with | .inl z7 => some false | .inr z7 => some true)

noncomputable def m_tree_trimKids_L0 (a0 : (List S_api_Tree)) (s0_ : Int) : Option (Int ⊕ Int) :=
  (cond (decide (0 < s0_)) ((getI a0 (IntKind.i64.wrap (s0_ - 1))).bind fun x4 => some (cond (decide (0 < s0_)) (x4.Kind == 0) false)) (some false)).bind fun (z3 : Bool) => cond z3 (some (.inl (IntKind.i64.wrap (s0_ - 1)))) (some (.inr s0_))

noncomputable def m_tree_trimKids (a0 : (List S_api_Tree)) : Option (List S_api_Tree) :=
  (runLoop (m_tree_trimKids_L0 a0) (a0.length : Int)).bind fun (z8 : Int) => (subI a0 0 z8).bind fun l10 => some l10

noncomputable def b_tree_Equal (r_tree_Equal : (S_api_Tree → S_api_Tree → Option Bool)) (r_slices_EqualFunc_api_Tree_api_Tree_api_Tree_api_Tree_f24 : ((List S_api_Tree) → (List S_api_Tree) → Option Bool)) (a0 : S_api_Tree) (a1 : S_api_Tree) : Option Bool :=
  cond (a0.Kind != a1.Kind) (some false) (cond (a0.Kind == 0) (some true) (cond (a0.Kind == 1) (((m_tree_trimWords a0.Words).bind fun y8 => (m_tree_trimWords a1.Words).bind fun y9 => (m_slices_Equal_uint64_uint64 y8 y9).bind fun y10 => cond y10 ((m_tree_trimKids a0.Kids).bind fun y11 => (m_tree_trimKids a1.Kids).bind fun y12 => (r_slices_EqualFunc_api_Tree_api_Tree_api_Tree_api_Tree_f24 y11 y12).bind fun y13 => some (cond y10 y13 false)) (some false)).bind fun (z7 : Bool) => some z7) (((m_slices_Equal_uint64_uint64 a0.Words a1.Words).bind fun y18 => cond y18 ((r_slices_EqualFunc_api_Tree_api_Tree_api_Tree_api_Tree_f24 a0.Kids a1.Kids).bind fun y19 => some (cond y18 y19 false)) (some false)).bind fun (z17 : Bool) => some z17)))

noncomputable def b_slices_EqualFunc_api_Tree_api_Tree_api_Tree_api_Tree_f24_L0 (r_tree_Equal : (S_api_Tree → S_api_Tree → Option Bool)) (a0 : (List S_api_Tree)) (a1 : (List S_api_Tree)) (s0_ : Int) : Option (Int ⊕ (Unit ⊕ Unit)) :=
  cond (decide (s0_ < (a0.length : Int))) ((getI a0 s0_).bind fun x2 => (getI a1 s0_).bind fun x4 => (r_tree_Equal x2 x4).bind fun y6 => cond (!y6) (some (.inr (.inl ()))) (some (.inl (IntKind.i64.wrap (s0_ + 1))))) (some (.inr (.inr ())))

noncomputable def b_slices_EqualFunc_api_Tree_api_Tree_api_Tree_api_Tree_f24 (r_tree_Equal : (S_api_Tree → S_api_Tree → Option Bool)) (r_slices_EqualFunc_api_Tree_api_Tree_api_Tree_api_Tree_f24 : ((List S_api_Tree) → (List S_api_Tree) → Option Bool)) (a0 : (List S_api_Tree)) (a1 : (List S_api_Tree)) : Option Bool :=
  cond ((a0.length : Int) != (a1.length : Int)) (some false) ((runLoop (b_slices_EqualFunc_api_Tree_api_Tree_api_Tree_api_Tree_f24_L0 r_tree_Equal a0 a1) 0).bind fun (z9 : (Unit ⊕ Unit)) => match z9 with | .inl z9 => some false | .inr z9 => some true)

noncomputable def lv_tree_Equal : Nat → ((S_api_Tree → S_api_Tree → Option Bool) × ((List S_api_Tree) → (List S_api_Tree) → Option Bool))
  | 0 => ((fun _ _ => none), (fun _ _ => none))
  | k + 1 => (b_tree_Equal ((lv_tree_Equal k).1) ((lv_tree_Equal k).2), b_slices_EqualFunc_api_Tree_api_Tree_api_Tree_api_Tree_f24 ((lv_tree_Equal k).1) ((lv_tree_Equal k).2))

noncomputable def m_tree_Equal (a0 : S_api_Tree) (a1 : S_api_Tree) : Option Bool := lim fun k => (lv_tree_Equal k).1 a0 a1

noncomputable def m_slices_EqualFunc_api_Tree_api_Tree_api_Tree_api_Tree_f24 (a0 : (List S_api_Tree)) (a1 : (List S_api_Tree)) : Option Bool := lim fun k => (lv_tree_Equal k).2 a0 a1

noncomputable def m_slices_Equal_api_WordEdit_api_WordEdit_L0 (a0 : (List S_api_WordEdit)) (a1 : (List S_api_WordEdit)) (s0_ : Int) : Option (Int ⊕ (Unit ⊕ Unit)) :=
  cond (decide (s0_ < (a0.length : Int))) ((getI a0 s0_).bind fun x3 => (getI a1 s0_).bind fun x4 => cond (!((x3.At == x4.At) && ((x3.Mask == x4.Mask) && ((x3.Old == x4.Old) && (x3.New == x4.New))))) (some (.inr (.inl ()))) (some (.inl (IntKind.i64.wrap (s0_ + 1))))) (some (.inr (.inr ())))

noncomputable def m_slices_Equal_api_WordEdit_api_WordEdit (a0 : (List S_api_WordEdit)) (a1 : (List S_api_WordEdit)) : Option Bool :=
  cond ((a0.length : Int) != (a1.length : Int)) (some false) ((runLoop (m_slices_Equal_api_WordEdit_api_WordEdit_L0 a0 a1) 0).bind fun (z7 : (Unit ⊕ Unit)) => match z7 with | .inl z7 => some false | .inr z7 => some true)

noncomputable def b_edit_Equal (r_edit_Equal : (S_api_Edit → S_api_Edit → Option Bool)) (r_slices_EqualFunc_api_KidEdit_api_KidEdit_api_KidEdit_api_KidEdit_f80 : ((List S_api_KidEdit) → (List S_api_KidEdit) → Option Bool)) (r_edit_equalKids : (S_api_KidEdit → S_api_KidEdit → Option Bool)) (r_slices_EqualFunc_api_Op_api_Op_api_Op_api_Op_f82 : ((List S_api_Op) → (List S_api_Op) → Option Bool)) (r_edit_equalOps : (S_api_Op → S_api_Op → Option Bool)) (a0 : S_api_Edit) (a1 : S_api_Edit) : Option Bool :=
  (cond (a0.Kind == a1.Kind) (cond (a0.List_ == a1.List_) ((m_tree_Equal a0.Old a1.Old).bind fun y7 => cond y7 ((m_tree_Equal a0.New a1.New).bind fun y8 => cond y8 ((m_slices_Equal_api_WordEdit_api_WordEdit a0.Words a1.Words).bind fun y9 => cond y9 ((r_slices_EqualFunc_api_KidEdit_api_KidEdit_api_KidEdit_api_KidEdit_f80 a0.Kids a1.Kids).bind fun y10 => cond y10 ((r_slices_EqualFunc_api_Op_api_Op_api_Op_api_Op_f82 a0.Ops a1.Ops).bind fun y11 => some (cond (cond (cond (cond (cond (cond (a0.Kind == a1.Kind) (a0.List_ == a1.List_) false) y7 false) y8 false) y9 false) y10 false) y11 false)) (some false)) (some false)) (some false)) (some false)) (some false)) (some false)).bind fun (z6 : Bool) => some z6

noncomputable def b_slices_EqualFunc_api_KidEdit_api_KidEdit_api_KidEdit_api_KidEdit_f80_L0 (r_edit_equalKids : (S_api_KidEdit → S_api_KidEdit → Option Bool)) (a0 : (List S_api_KidEdit)) (a1 : (List S_api_KidEdit)) (s0_ : Int) : Option (Int ⊕ (Unit ⊕ Unit)) :=
  cond (decide (s0_ < (a0.length : Int))) ((getI a0 s0_).bind fun x2 => (getI a1 s0_).bind fun x4 => (r_edit_equalKids x2 x4).bind fun y6 => cond (!y6) (some (.inr (.inl ()))) (some (.inl (IntKind.i64.wrap (s0_ + 1))))) (some (.inr (.inr ())))

noncomputable def b_slices_EqualFunc_api_KidEdit_api_KidEdit_api_KidEdit_api_KidEdit_f80 (r_edit_Equal : (S_api_Edit → S_api_Edit → Option Bool)) (r_slices_EqualFunc_api_KidEdit_api_KidEdit_api_KidEdit_api_KidEdit_f80 : ((List S_api_KidEdit) → (List S_api_KidEdit) → Option Bool)) (r_edit_equalKids : (S_api_KidEdit → S_api_KidEdit → Option Bool)) (r_slices_EqualFunc_api_Op_api_Op_api_Op_api_Op_f82 : ((List S_api_Op) → (List S_api_Op) → Option Bool)) (r_edit_equalOps : (S_api_Op → S_api_Op → Option Bool)) (a0 : (List S_api_KidEdit)) (a1 : (List S_api_KidEdit)) : Option Bool :=
  cond ((a0.length : Int) != (a1.length : Int)) (some false) ((runLoop (b_slices_EqualFunc_api_KidEdit_api_KidEdit_api_KidEdit_api_KidEdit_f80_L0 r_edit_equalKids a0 a1) 0).bind fun (z9 : (Unit ⊕ Unit)) => match z9 with | .inl z9 => some false | .inr z9 => some true)

noncomputable def b_edit_equalKids (r_edit_Equal : (S_api_Edit → S_api_Edit → Option Bool)) (r_slices_EqualFunc_api_KidEdit_api_KidEdit_api_KidEdit_api_KidEdit_f80 : ((List S_api_KidEdit) → (List S_api_KidEdit) → Option Bool)) (r_edit_equalKids : (S_api_KidEdit → S_api_KidEdit → Option Bool)) (r_slices_EqualFunc_api_Op_api_Op_api_Op_api_Op_f82 : ((List S_api_Op) → (List S_api_Op) → Option Bool)) (r_edit_equalOps : (S_api_Op → S_api_Op → Option Bool)) (a0 : S_api_KidEdit) (a1 : S_api_KidEdit) : Option Bool :=
  (cond (a0.At == a1.At) ((r_edit_Equal a0.E a1.E).bind fun y3 => some (cond (a0.At == a1.At) y3 false)) (some false)).bind fun (z2 : Bool) => some z2

noncomputable def b_slices_EqualFunc_api_Op_api_Op_api_Op_api_Op_f82_L0 (r_edit_equalOps : (S_api_Op → S_api_Op → Option Bool)) (a0 : (List S_api_Op)) (a1 : (List S_api_Op)) (s0_ : Int) : Option (Int ⊕ (Unit ⊕ Unit)) :=
  cond (decide (s0_ < (a0.length : Int))) ((getI a0 s0_).bind fun x2 => (getI a1 s0_).bind fun x4 => (r_edit_equalOps x2 x4).bind fun y6 => cond (!y6) (some (.inr (.inl ()))) (some (.inl (IntKind.i64.wrap (s0_ + 1))))) (some (.inr (.inr ())))

noncomputable def b_slices_EqualFunc_api_Op_api_Op_api_Op_api_Op_f82 (r_edit_Equal : (S_api_Edit → S_api_Edit → Option Bool)) (r_slices_EqualFunc_api_KidEdit_api_KidEdit_api_KidEdit_api_KidEdit_f80 : ((List S_api_KidEdit) → (List S_api_KidEdit) → Option Bool)) (r_edit_equalKids : (S_api_KidEdit → S_api_KidEdit → Option Bool)) (r_slices_EqualFunc_api_Op_api_Op_api_Op_api_Op_f82 : ((List S_api_Op) → (List S_api_Op) → Option Bool)) (r_edit_equalOps : (S_api_Op → S_api_Op → Option Bool)) (a0 : (List S_api_Op)) (a1 : (List S_api_Op)) : Option Bool :=
  cond ((a0.length : Int) != (a1.length : Int)) (some false) ((runLoop (b_slices_EqualFunc_api_Op_api_Op_api_Op_api_Op_f82_L0 r_edit_equalOps a0 a1) 0).bind fun (z9 : (Unit ⊕ Unit)) => match z9 with | .inl z9 => some false | .inr z9 => some true)

noncomputable def b_edit_equalOps (r_edit_Equal : (S_api_Edit → S_api_Edit → Option Bool)) (r_slices_EqualFunc_api_KidEdit_api_KidEdit_api_KidEdit_api_KidEdit_f80 : ((List S_api_KidEdit) → (List S_api_KidEdit) → Option Bool)) (r_edit_equalKids : (S_api_KidEdit → S_api_KidEdit → Option Bool)) (r_slices_EqualFunc_api_Op_api_Op_api_Op_api_Op_f82 : ((List S_api_Op) → (List S_api_Op) → Option Bool)) (r_edit_equalOps : (S_api_Op → S_api_Op → Option Bool)) (a0 : S_api_Op) (a1 : S_api_Op) : Option Bool :=
  (cond (a0.Kind == a1.Kind) (cond (a0.N == a1.N) ((m_slices_EqualFunc_api_Tree_api_Tree_api_Tree_api_Tree_f24 a0.L a1.L).bind fun y4 => cond y4 ((r_edit_Equal a0.E a1.E).bind fun y5 => some (cond (cond (cond (a0.Kind == a1.Kind) (a0.N == a1.N) false) y4 false) y5 false)) (some false)) (some false)) (some false)).bind fun (z3 : Bool) => some z3

noncomputable def lv_edit_Equal : Nat → ((S_api_Edit → S_api_Edit → Option Bool) × ((List S_api_KidEdit) → (List S_api_KidEdit) → Option Bool) × (S_api_KidEdit → S_api_KidEdit → Option Bool) × ((List S_api_Op) → (List S_api_Op) → Option Bool) × (S_api_Op → S_api_Op → Option Bool))
  | 0 => ((fun _ _ => none), (fun _ _ => none), (fun _ _ => none), (fun _ _ => none), (fun _ _ => none))
  | k + 1 => (b_edit_Equal ((lv_edit_Equal k).1) ((lv_edit_Equal k).2.1) ((lv_edit_Equal k).2.2.1) ((lv_edit_Equal k).2.2.2.1) ((lv_edit_Equal k).2.2.2.2), b_slices_EqualFunc_api_KidEdit_api_KidEdit_api_KidEdit_api_KidEdit_f80 ((lv_edit_Equal k).1) ((lv_edit_Equal k).2.1) ((lv_edit_Equal k).2.2.1) ((lv_edit_Equal k).2.2.2.1) ((lv_edit_Equal k).2.2.2.2), b_edit_equalKids ((lv_edit_Equal k).1) ((lv_edit_Equal k).2.1) ((lv_edit_Equal k).2.2.1) ((lv_edit_Equal k).2.2.2.1) ((lv_edit_Equal k).2.2.2.2), b_slices_EqualFunc_api_Op_api_Op_api_Op_api_Op_f82 ((lv_edit_Equal k).1) ((lv_edit_Equal k).2.1) ((lv_edit_Equal k).2.2.1) ((lv_edit_Equal k).2.2.2.1) ((lv_edit_Equal k).2.2.2.2), b_edit_equalOps ((lv_edit_Equal k).1) ((lv_edit_Equal k).2.1) ((lv_edit_Equal k).2.2.1) ((lv_edit_Equal k).2.2.2.1) ((lv_edit_Equal k).2.2.2.2))

noncomputable def m_edit_Equal (a0 : S_api_Edit) (a1 : S_api_Edit) : Option Bool := lim fun k => (lv_edit_Equal k).1 a0 a1

noncomputable def m_slices_EqualFunc_api_KidEdit_api_KidEdit_api_KidEdit_api_KidEdit_f80 (a0 : (List S_api_KidEdit)) (a1 : (List S_api_KidEdit)) : Option Bool := lim fun k => (lv_edit_Equal k).2.1 a0 a1

noncomputable def m_edit_equalKids (a0 : S_api_KidEdit) (a1 : S_api_KidEdit) : Option Bool := lim fun k => (lv_edit_Equal k).2.2.1 a0 a1

noncomputable def m_slices_EqualFunc_api_Op_api_Op_api_Op_api_Op_f82 (a0 : (List S_api_Op)) (a1 : (List S_api_Op)) : Option Bool := lim fun k => (lv_edit_Equal k).2.2.2.1 a0 a1

noncomputable def m_edit_equalOps (a0 : S_api_Op) (a1 : S_api_Op) : Option Bool := lim fun k => (lv_edit_Equal k).2.2.2.2 a0 a1

noncomputable def m_centoref07_Trim_L0 (a0 : (List Int)) (s0_ : Int) : Option (Int ⊕ Int) :=
  (cond (decide (0 < s0_)) ((getI a0 (IntKind.i64.wrap (s0_ - 1))).bind fun x3 => some (cond (decide (0 < s0_)) (x3 == 0) false)) (some false)).bind fun (z2 : Bool) => cond z2 (some (.inl (IntKind.i64.wrap (s0_ - 1)))) (some (.inr s0_))

noncomputable def m_centoref07_Trim (a0 : (List Int)) : Option (List Int) :=
  (runLoop (m_centoref07_Trim_L0 a0) (a0.length : Int)).bind fun (z6 : Int) => (subI a0 0 z6).bind fun l9 => (appI 8 ([] : List Int) l9).bind fun l10 => some l10

noncomputable def b_centoref07_Norm_L0 (r_centoref07_Norm : (S_api_Tree → Option S_api_Tree)) (a0 : S_api_Tree) (s0_ : (Int × Int × (List S_api_Tree))) : Option ((Int × Int × (List S_api_Tree)) ⊕ (Int × (List S_api_Tree))) :=
  cond (decide (s0_.2.1 < (a0.Kids.length : Int))) (((getI a0.Kids s0_.2.1).bind fun x4 => (r_centoref07_Norm x4).bind fun y5 => (appI 56 s0_.2.2 ([y5] : List S_api_Tree)).bind fun l7 => cond (y5.Kind != 0) (some ((IntKind.i64.wrap (s0_.2.1 + 1)), l7)) (some (s0_.1, l7))).bind fun (z1 : (Int × (List S_api_Tree))) => some (.inl (z1.1, (IntKind.i64.wrap (s0_.2.1 + 1)), z1.2))) (some (.inr (s0_.1, s0_.2.2)))

noncomputable def b_centoref07_Norm (r_centoref07_Norm : (S_api_Tree → Option S_api_Tree)) (a0 : S_api_Tree) : Option S_api_Tree :=
  cond (a0.Kind == 0) (some (⟨0, ([] : (List Int)), ([] : (List S_api_Tree))⟩ : S_api_Tree)) ((runLoop (b_centoref07_Norm_L0 r_centoref07_Norm a0) (0, 0, ([] : List S_api_Tree))).bind fun (z10 : (Int × (List S_api_Tree))) => cond (a0.Kind == 1) ((m_centoref07_Trim a0.Words).bind fun y14 => (subI z10.2 0 z10.1).bind fun l15 => some (⟨1, y14, l15⟩ : S_api_Tree)) ((appI 8 ([] : List Int) a0.Words).bind fun l17 => some (⟨a0.Kind, l17, z10.2⟩ : S_api_Tree)))

noncomputable def lv_centoref07_Norm : Nat → (S_api_Tree → Option S_api_Tree)
  | 0 => (fun _ => none)
  | k + 1 => b_centoref07_Norm ((lv_centoref07_Norm k))

noncomputable def m_centoref07_Norm (a0 : S_api_Tree) : Option S_api_Tree := lim fun k => (lv_centoref07_Norm k) a0

noncomputable def m_centoref01_Same_L0 (a0 : (List Int)) (a1 : (List Int)) (s0_ : Int) : Option (Int ⊕ (Unit ⊕ Unit)) :=
  cond (decide (s0_ < (a0.length : Int))) ((getI a0 s0_).bind fun x3 => (getI a1 s0_).bind fun x4 => cond (x3 != x4) (some (.inr (.inl ()))) (some (.inl (IntKind.i64.wrap (s0_ + 1))))) (some (.inr (.inr ())))

noncomputable def m_centoref01_Same (a0 : (List Int)) (a1 : (List Int)) : Option Bool :=
  cond ((a0.length : Int) != (a1.length : Int)) (some false) ((runLoop (m_centoref01_Same_L0 a0 a1) 0).bind fun (z7 : (Unit ⊕ Unit)) => match z7 with | .inl z7 => some false | .inr z7 => some true)

noncomputable def b_centoref07_Same_L0 (r_centoref07_Same : (S_api_Tree → S_api_Tree → Option Bool)) (a0 : S_api_Tree) (a1 : S_api_Tree) (s0_ : Int) : Option (Int ⊕ (Unit ⊕ Unit)) :=
  cond (decide (s0_ < (a0.Kids.length : Int))) ((getI a0.Kids s0_).bind fun x8 => (getI a1.Kids s0_).bind fun x9 => (r_centoref07_Same x8 x9).bind fun y10 => cond (!y10) (some (.inr (.inl ()))) (some (.inl (IntKind.i64.wrap (s0_ + 1))))) (some (.inr (.inr ())))

noncomputable def b_centoref07_Same (r_centoref07_Same : (S_api_Tree → S_api_Tree → Option Bool)) (a0 : S_api_Tree) (a1 : S_api_Tree) : Option Bool :=
  (cond (a0.Kind != a1.Kind) (some true) ((m_centoref01_Same a0.Words a1.Words).bind fun y3 => some (cond (cond (a0.Kind != a1.Kind) true (!y3)) true ((a0.Kids.length : Int) != (a1.Kids.length : Int))))).bind fun (z2 : Bool) => cond z2 (some false) ((runLoop (b_centoref07_Same_L0 r_centoref07_Same a0 a1) 0).bind fun (z13 : (Unit ⊕ Unit)) => match z13 with | .inl z13 => some false | .inr z13 => some true)

noncomputable def lv_centoref07_Same : Nat → (S_api_Tree → S_api_Tree → Option Bool)
  | 0 => (fun _ _ => none)
  | k + 1 => b_centoref07_Same ((lv_centoref07_Same k))

noncomputable def m_centoref07_Same (a0 : S_api_Tree) (a1 : S_api_Tree) : Option Bool := lim fun k => (lv_centoref07_Same k) a0 a1

noncomputable def m_centoref07_Equal (a0 : S_api_Tree) (a1 : S_api_Tree) : Option Bool :=
  (m_centoref07_Norm a0).bind fun y4 => (m_centoref07_Norm a1).bind fun y5 => (m_centoref07_Same y4 y5).bind fun y6 => some y6

noncomputable def m_centoref20_sameTrees_L0 (a0 : (List S_api_Tree)) (a1 : (List S_api_Tree)) (s0_ : Int) : Option (Int ⊕ (Unit ⊕ Unit)) :=
  cond (decide (s0_ < (a0.length : Int))) ((getI a0 s0_).bind fun x4 => (getI a1 s0_).bind fun x5 => (m_centoref07_Equal x4 x5).bind fun y6 => cond (!y6) (some (.inr (.inl ()))) (some (.inl (IntKind.i64.wrap (s0_ + 1))))) (some (.inr (.inr ())))

noncomputable def m_centoref20_sameTrees (a0 : (List S_api_Tree)) (a1 : (List S_api_Tree)) : Option Bool :=
  cond ((a0.length : Int) != (a1.length : Int)) (some false) ((runLoop (m_centoref20_sameTrees_L0 a0 a1) 0).bind fun (z9 : (Unit ⊕ Unit)) => match z9 with | .inl z9 => some false | .inr z9 => some true)

noncomputable def b_centoref20_Equal_L0 (a0 : S_api_Edit) (a1 : S_api_Edit) (s0_ : Int) : Option (Int ⊕ (Unit ⊕ Unit)) :=
  cond (decide (s0_ < (a0.Words.length : Int))) ((getI a0.Words s0_).bind fun x11 => (getI a1.Words s0_).bind fun x12 => cond (!((x11.At == x12.At) && ((x11.Mask == x12.Mask) && ((x11.Old == x12.Old) && (x11.New == x12.New))))) (some (.inr (.inl ()))) (some (.inl (IntKind.i64.wrap (s0_ + 1))))) (some (.inr (.inr ())))

noncomputable def b_centoref20_Equal_L1 (r_centoref20_Equal : (S_api_Edit → S_api_Edit → Option Bool)) (a0 : S_api_Edit) (a1 : S_api_Edit) (s1_ : Int) : Option (Int ⊕ (Unit ⊕ Unit)) :=
  cond (decide (s1_ < (a0.Kids.length : Int))) (((getI a0.Kids s1_).bind fun x26 => (getI a1.Kids s1_).bind fun x28 => cond (x26.At != x28.At) (some true) ((r_centoref20_Equal x26.E x28.E).bind fun y34 => some (cond (x26.At != x28.At) true (!y34)))).bind fun (z25 : Bool) => cond z25 (some (.inr (.inl ()))) (some (.inl (IntKind.i64.wrap (s1_ + 1))))) (some (.inr (.inr ())))

noncomputable def b_centoref20_Equal_L2 (r_centoref20_Equal : (S_api_Edit → S_api_Edit → Option Bool)) (a0 : S_api_Edit) (a1 : S_api_Edit) (s2_ : Int) : Option (Int ⊕ (Unit ⊕ Unit)) :=
  cond (decide (s2_ < (a0.Ops.length : Int))) ((getI a0.Ops s2_).bind fun x39 => (getI a1.Ops s2_).bind fun x40 => (cond (x39.Kind != x40.Kind) (some true) (cond (x39.N != x40.N) (some true) ((m_centoref20_sameTrees x39.L x40.L).bind fun y44 => cond y44 ((r_centoref20_Equal x39.E x40.E).bind fun y45 => some (cond (cond (cond (x39.Kind != x40.Kind) true (x39.N != x40.N)) true (!y44)) true (!y45))) (some true)))).bind fun (z43 : Bool) => cond z43 (some (.inr (.inl ()))) (some (.inl (IntKind.i64.wrap (s2_ + 1))))) (some (.inr (.inr ())))

noncomputable def b_centoref20_Equal (r_centoref20_Equal : (S_api_Edit → S_api_Edit → Option Bool)) (a0 : S_api_Edit) (a1 : S_api_Edit) : Option Bool :=
  (cond (a0.Kind != a1.Kind) (some true) (cond (a0.List_ != a1.List_) (some true) ((m_centoref07_Equal a0.Old a1.Old).bind fun y4 => cond y4 ((m_centoref07_Equal a0.New a1.New).bind fun y5 => some (cond (cond (cond (cond (cond (cond (a0.Kind != a1.Kind) true (a0.List_ != a1.List_)) true (!y4)) true (!y5)) true ((a0.Words.length : Int) != (a1.Words.length : Int))) true ((a0.Kids.length : Int) != (a1.Kids.length : Int))) true ((a0.Ops.length : Int) != (a1.Ops.length : Int)))) (some true)))).bind fun (z3 : Bool) => cond z3 (some false) ((runLoop (b_centoref20_Equal_L0 a0 a1) 0).bind fun (z15 : (Unit ⊕ Unit)) => match z15 with | .inl z15 => some false | .inr z15 => (runLoop (b_centoref20_Equal_L1 r_centoref20_Equal a0 a1) 0).bind fun (z38 : (Unit ⊕ Unit)) => match z38 with | .inl z38 => some false | .inr z38 => (runLoop (b_centoref20_Equal_L2 r_centoref20_Equal a0 a1) 0).bind fun (z51 : (Unit ⊕ Unit)) => match z51 with | .inl z51 => some false | .inr z51 => some true)

noncomputable def lv_centoref20_Equal : Nat → (S_api_Edit → S_api_Edit → Option Bool)
  | 0 => (fun _ _ => none)
  | k + 1 => b_centoref20_Equal ((lv_centoref20_Equal k))

noncomputable def m_centoref20_Equal (a0 : S_api_Edit) (a1 : S_api_Edit) : Option Bool := lim fun k => (lv_centoref20_Equal k) a0 a1

noncomputable def m_centolaw20_EditEqual (a0 : S_api_Edit) (a1 : S_api_Edit) : Option Bool :=
  ((m_centoref20_Few a0).bind fun y4 => cond y4 ((m_centoref20_Few a1).bind fun y5 => some (cond (!y4) true (!y5))) (some true)).bind fun (z3 : Bool) => cond z3 ((m_centolaw20_awake).bind fun y8 => some y8) (((m_edit_Equal a0 a1).bind fun y16 => (m_centoref20_Equal a0 a1).bind fun y17 => cond (y16 == y17) ((m_edit_Equal a1 a0).bind fun y18 => (m_centoref20_Equal a0 a1).bind fun y19 => cond (y18 == y19) ((m_edit_Equal a0 a0).bind fun y20 => cond y20 ((m_centolaw20_awake).bind fun y21 => some (cond (cond (cond (y16 == y17) (y18 == y19) false) y20 false) y21 false)) (some false)) (some false)) (some false)).bind fun (z15 : Bool) => some z15)

end Go.Proofs.Ytjeolggpgclgkaa
