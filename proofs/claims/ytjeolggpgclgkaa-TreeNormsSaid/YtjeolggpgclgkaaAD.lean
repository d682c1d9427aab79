/- Part AD of this seat's mirrors: functions of the seat's program, and the plain functions that they are; each theorem bears its own conditions. -/
import Derived.Test.YtjeolggpgclgkaaH17
namespace Go.Proofs.Ytjeolggpgclgkaa
open Go.RowKit
set_option linter.unusedVariables false
set_option linter.unusedSimpArgs false
set_option maxRecDepth 100000
structure S_api_Tree where
  Kind : Int
  Words : (List Int)
  Kids : (List S_api_Tree)

noncomputable def b_centoref07_Shallow_L0 (r_centoref07_Shallow : (S_api_Tree → Int → Int → Option Int)) (a0 : S_api_Tree) (a1 : Int) (s0_ : (Int × Int)) : Option ((Int × Int) ⊕ Int) :=
  cond (cond (decide (s0_.2 < (a0.Kids.length : Int))) (decide (0 ≤ s0_.1)) false) ((getI a0.Kids s0_.2).bind fun x1 => (r_centoref07_Shallow x1 (IntKind.i64.wrap (a1 - 1)) s0_.1).bind fun y2 => some (.inl (y2, (IntKind.i64.wrap (s0_.2 + 1))))) (some (.inr s0_.1))

noncomputable def b_centoref07_Shallow (r_centoref07_Shallow : (S_api_Tree → Int → Int → Option Int)) (a0 : S_api_Tree) (a1 : Int) (a2 : Int) : Option Int :=
  cond (cond (a1 == 0) true (decide ((IntKind.i64.wrap ((IntKind.i64.wrap (a2 - 1)) - (a0.Words.length : Int))) < 0))) (some (-1)) ((runLoop (b_centoref07_Shallow_L0 r_centoref07_Shallow a0 a1) ((IntKind.i64.wrap ((IntKind.i64.wrap (a2 - 1)) - (a0.Words.length : Int))), 0)).bind fun (z4 : Int) => some z4)

noncomputable def lv_centoref07_Shallow : Nat → (S_api_Tree → Int → Int → Option Int)
  | 0 => fun _ _ _ => none
  | k + 1 => b_centoref07_Shallow ((lv_centoref07_Shallow k))

noncomputable def m_centoref07_Shallow (a0 : S_api_Tree) (a1 : Int) (a2 : Int) : Option Int := lim fun k => (lv_centoref07_Shallow k) a0 a1 a2

noncomputable def m_centoref07_Few (a0 : S_api_Tree) : Option Bool :=
  (m_centoref07_Shallow a0 80 3000).bind fun y2 => some (decide (0 ≤ y2))

noncomputable def m_tree_trimWords_L0 (a0 : (List Int)) (s0_ : Int) : Option (Int ⊕ Int) :=
  (cond (decide (0 < s0_)) ((getI a0 (IntKind.i64.wrap (s0_ - 1))).bind fun x3 => some (cond (decide (0 < s0_)) (x3 == 0) false)) (some false)).bind fun (z2 : Bool) => cond z2 (some (.inl (IntKind.i64.wrap (s0_ - 1)))) (some (.inr s0_))

noncomputable def m_tree_trimWords (a0 : (List Int)) : Option (List Int) :=
  (runLoop (m_tree_trimWords_L0 a0) (a0.length : Int)).bind fun (z6 : Int) => (subI a0 0 z6).bind fun l8 => some l8

noncomputable def m_tree_trimKids_L0 (a0 : (List S_api_Tree)) (s0_ : Int) : Option (Int ⊕ Int) :=
  (cond (decide (0 < s0_)) ((getI a0 (IntKind.i64.wrap (s0_ - 1))).bind fun x4 => some (cond (decide (0 < s0_)) (x4.Kind == 0) false)) (some false)).bind fun (z3 : Bool) => cond z3 (some (.inl (IntKind.i64.wrap (s0_ - 1)))) (some (.inr s0_))

noncomputable def m_tree_trimKids (a0 : (List S_api_Tree)) : Option (List S_api_Tree) :=
  (runLoop (m_tree_trimKids_L0 a0) (a0.length : Int)).bind fun (z8 : Int) => (subI a0 0 z8).bind fun l10 => some l10

noncomputable def b_tree_Norm_L0 (r_tree_Norm : (S_api_Tree → Option S_api_Tree)) (z1 : ((List Int) × (List S_api_Tree))) (s0_ : (Int × (List S_api_Tree))) : Option ((Int × (List S_api_Tree)) ⊕ (List S_api_Tree)) :=
  cond (decide (s0_.1 < (z1.2.length : Int))) ((getI z1.2 s0_.1).bind fun x7 => (r_tree_Norm x7).bind fun y8 => (getI s0_.2 s0_.1).bind fun x9 => some (.inl ((IntKind.i64.wrap (s0_.1 + 1)), (setI s0_.2 s0_.1 y8)))) (some (.inr s0_.2))

noncomputable def b_tree_Norm_L1 (r_tree_Norm : (S_api_Tree → Option S_api_Tree)) (z1 : ((List Int) × (List S_api_Tree))) (s1_ : Unit) : Option (Unit ⊕ Unit) :=
  cond (decide (0 < (z1.2.length : Int))) ((getI z1.2 0).bind fun x14 => (r_tree_Norm x14).bind fun y15 => none) (some (.inr ()))

noncomputable def b_tree_Norm (r_tree_Norm : (S_api_Tree → Option S_api_Tree)) (a0 : S_api_Tree) : Option S_api_Tree :=
  cond (a0.Kind == 0) (some (⟨0, ([] : (List Int)), ([] : (List S_api_Tree))⟩ : S_api_Tree)) ((cond (a0.Kind == 1) ((m_tree_trimWords a0.Words).bind fun y2 => (m_tree_trimKids a0.Kids).bind fun y3 => some (y2, y3)) (some (a0.Words, a0.Kids))).bind fun (z1 : ((List Int) × (List S_api_Tree))) => cond (decide (0 < (z1.2.length : Int))) ((makeI 56 (z1.2.length : Int) (⟨(0 : Int), ([] : (List Int)), ([] : (List S_api_Tree))⟩ : S_api_Tree)).bind fun l5 => (runLoop (b_tree_Norm_L0 r_tree_Norm z1) (0, l5)).bind fun (z12 : (List S_api_Tree)) => some (⟨a0.Kind, z1.1, z12⟩ : S_api_Tree)) ((runLoop (b_tree_Norm_L1 r_tree_Norm z1) ()).bind fun (z17 : Unit) => some (⟨a0.Kind, z1.1, ([] : (List S_api_Tree))⟩ : S_api_Tree)))

noncomputable def lv_tree_Norm : Nat → (S_api_Tree → Option S_api_Tree)
  | 0 => fun _ => none
  | k + 1 => b_tree_Norm ((lv_tree_Norm k))

noncomputable def m_tree_Norm (a0 : S_api_Tree) : Option S_api_Tree := lim fun k => (lv_tree_Norm k) a0

noncomputable def m_centoref01_Same_L0 (a0 : (List Int)) (a1 : (List Int)) (s0_ : Int) : Option (Int ⊕ (Unit ⊕ Unit)) :=
  cond (decide (s0_ < (a0.length : Int))) ((getI a0 s0_).bind fun x3 => (getI a1 s0_).bind fun x4 => cond (x3 != x4) (some (.inr (.inl ()))) (some (.inl (IntKind.i64.wrap (s0_ + 1))))) (some (.inr (.inr ())))

noncomputable def m_centoref01_Same (a0 : (List Int)) (a1 : (List Int)) : Option Bool :=
  cond ((a0.length : Int) != (a1.length : Int)) (some false) ((runLoop (m_centoref01_Same_L0 a0 a1) 0).bind fun (z7 : (Unit ⊕ Unit)) => match z7 with | .inl z7 => some false | .inr z7 => some true)

noncomputable def b_tree_Weight_L0 (r_tree_Weight : (S_api_Tree → Option Int)) (a0 : S_api_Tree) (s0_ : (Int × Int)) : Option ((Int × Int) ⊕ Int) :=
  cond (decide (s0_.2 < (a0.Kids.length : Int))) ((getI a0.Kids s0_.2).bind fun x7 => (r_tree_Weight x7).bind fun y8 => some (.inl ((IntKind.i64.wrap (s0_.1 + y8)), (IntKind.i64.wrap (s0_.2 + 1))))) (some (.inr s0_.1))

noncomputable def b_tree_Weight (r_tree_Weight : (S_api_Tree → Option Int)) (a0 : S_api_Tree) : Option Int :=
  (cond (a0.Kind == 0) (some (.inr 0)) (cond (a0.Kind == 10) (some (.inr 1)) (cond (a0.Kind == 1) (some (.inl (IntKind.i64.wrap (1 + (IntKind.i64.wrap ((a0.Words.length : Int) + (a0.Kids.length : Int))))))) (cond (a0.Kind == 8) (some (.inl (IntKind.i64.wrap (1 + (a0.Kids.length : Int))))) (some (.inl 1)))))).bind fun (z1 : (Int ⊕ Int)) => match z1 with | .inl z1 => (runLoop (b_tree_Weight_L0 r_tree_Weight a0) (z1, 0)).bind fun (z10 : Int) => some z10 | .inr z1 => some z1

noncomputable def lv_tree_Weight : Nat → (S_api_Tree → Option Int)
  | 0 => fun _ => none
  | k + 1 => b_tree_Weight ((lv_tree_Weight k))

noncomputable def m_tree_Weight (a0 : S_api_Tree) : Option Int := lim fun k => (lv_tree_Weight k) a0

noncomputable def m_slices_Equal_uint64_uint64_L0 (a0 : (List Int)) (a1 : (List Int)) (s0_ : Int) : Option (Int ⊕ (Unit ⊕ Unit)) :=
  cond (decide (s0_ < (a0.length : Int))) ((getI a0 s0_).bind fun x3 => (getI a1 s0_).bind fun x4 => cond (x3 != x4) (some (.inr (.inl ()))) (some (.inl (IntKind.i64.wrap (s0_ + 1))))) (some (.inr (.inr ())))

noncomputable def m_slices_Equal_uint64_uint64 (a0 : (List Int)) (a1 : (List Int)) : Option Bool :=
  cond ((a0.length : Int) != (a1.length : Int)) (some false) ((runLoop (m_slices_Equal_uint64_uint64_L0 a0 a1) 0).bind fun (z7 : (Unit ⊕ Unit)) => match z7 with | .inl z7 => some false | .inr z7 => some true)

noncomputable def b_tree_Equal (r_tree_Equal : (S_api_Tree → S_api_Tree → Option Bool)) (r_slices_EqualFunc_api_Tree_api_Tree_api_Tree_api_Tree_f24 : ((List S_api_Tree) → (List S_api_Tree) → Option Bool)) (a0 : S_api_Tree) (a1 : S_api_Tree) : Option Bool :=
  cond (a0.Kind != a1.Kind) (some false) (cond (a0.Kind == 0) (some true) (cond (a0.Kind == 1) (((m_tree_trimWords a0.Words).bind fun y8 => (m_tree_trimWords a1.Words).bind fun y9 => (m_slices_Equal_uint64_uint64 y8 y9).bind fun y10 => cond y10 ((m_tree_trimKids a0.Kids).bind fun y11 => (m_tree_trimKids a1.Kids).bind fun y12 => (r_slices_EqualFunc_api_Tree_api_Tree_api_Tree_api_Tree_f24 y11 y12).bind fun y13 => some (cond y10 y13 false)) (some false)).bind fun (z7 : Bool) => some z7) (((m_slices_Equal_uint64_uint64 a0.Words a1.Words).bind fun y18 => cond y18 ((r_slices_EqualFunc_api_Tree_api_Tree_api_Tree_api_Tree_f24 a0.Kids a1.Kids).bind fun y19 => some (cond y18 y19 false)) (some false)).bind fun (z17 : Bool) => some z17)))

noncomputable def b_slices_EqualFunc_api_Tree_api_Tree_api_Tree_api_Tree_f24_L0 (r_tree_Equal : (S_api_Tree → S_api_Tree → Option Bool)) (a0 : (List S_api_Tree)) (a1 : (List S_api_Tree)) (s0_ : Int) : Option (Int ⊕ (Unit ⊕ Unit)) :=
  cond (decide (s0_ < (a0.length : Int))) ((getI a0 s0_).bind fun x2 => (getI a1 s0_).bind fun x4 => (r_tree_Equal x2 x4).bind fun y6 => cond (!y6) (some (.inr (.inl ()))) (some (.inl (IntKind.i64.wrap (s0_ + 1))))) (some (.inr (.inr ())))

noncomputable def b_slices_EqualFunc_api_Tree_api_Tree_api_Tree_api_Tree_f24 (r_tree_Equal : (S_api_Tree → S_api_Tree → Option Bool)) (r_slices_EqualFunc_api_Tree_api_Tree_api_Tree_api_Tree_f24 : ((List S_api_Tree) → (List S_api_Tree) → Option Bool)) (a0 : (List S_api_Tree)) (a1 : (List S_api_Tree)) : Option Bool :=
  cond ((a0.length : Int) != (a1.length : Int)) (some false) ((runLoop (b_slices_EqualFunc_api_Tree_api_Tree_api_Tree_api_Tree_f24_L0 r_tree_Equal a0 a1) 0).bind fun (z9 : (Unit ⊕ Unit)) => match z9 with | .inl z9 => some false | .inr z9 => some true)

noncomputable def lv_tree_Equal : Nat → ((S_api_Tree → S_api_Tree → Option Bool) × ((List S_api_Tree) → (List S_api_Tree) → Option Bool))
  | 0 => (fun _ _ => none, fun _ _ => none)
  | k + 1 => (b_tree_Equal ((lv_tree_Equal k).1) ((lv_tree_Equal k).2), b_slices_EqualFunc_api_Tree_api_Tree_api_Tree_api_Tree_f24 ((lv_tree_Equal k).1) ((lv_tree_Equal k).2))

noncomputable def m_tree_Equal (a0 : S_api_Tree) (a1 : S_api_Tree) : Option Bool := lim fun k => (lv_tree_Equal k).1 a0 a1

noncomputable def m_slices_EqualFunc_api_Tree_api_Tree_api_Tree_api_Tree_f24 (a0 : (List S_api_Tree)) (a1 : (List S_api_Tree)) : Option Bool := lim fun k => (lv_tree_Equal k).2 a0 a1

noncomputable def m_centolaw07_awake  : Option Bool :=
  (m_tree_Norm (⟨1, ([5, 0] : List Int), ([(⟨0, ([] : (List Int)), ([] : (List S_api_Tree))⟩ : S_api_Tree)] : List S_api_Tree)⟩ : S_api_Tree)).bind fun y2 => ((m_centoref01_Same y2.Words ([5] : List Int)).bind fun y8 => cond y8 (cond ((y2.Kids.length : Int) == 0) ((m_tree_Weight (⟨1, ([5, 0] : List Int), ([(⟨0, ([] : (List Int)), ([] : (List S_api_Tree))⟩ : S_api_Tree)] : List S_api_Tree)⟩ : S_api_Tree)).bind fun y9 => cond (y9 == 4) ((m_tree_Weight y2).bind fun y10 => cond (y10 == 2) ((m_tree_Equal (⟨1, ([5, 0] : List Int), ([(⟨0, ([] : (List Int)), ([] : (List S_api_Tree))⟩ : S_api_Tree)] : List S_api_Tree)⟩ : S_api_Tree) y2).bind fun y11 => some (cond (cond (cond (cond y8 ((y2.Kids.length : Int) == 0) false) (y9 == 4) false) (y10 == 2) false) y11 false)) (some false)) (some false)) (some false)) (some false)).bind fun (z7 : Bool) => some z7

noncomputable def m_tree_List (a0 : Int) : Option Bool :=
  some (cond (decide (2 ≤ a0)) (decide (a0 ≤ 9)) false)

noncomputable def m_tree_allStructs_L0 (a0 : (List S_api_Tree)) (s0_ : Int) : Option (Int ⊕ (Unit ⊕ Unit)) :=
  cond (decide (s0_ < (a0.length : Int))) ((getI a0 s0_).bind fun x2 => cond (x2.Kind != 1) (some (.inr (.inl ()))) (some (.inl (IntKind.i64.wrap (s0_ + 1))))) (some (.inr (.inr ())))

noncomputable def m_tree_allStructs (a0 : (List S_api_Tree)) : Option Bool :=
  (runLoop (m_tree_allStructs_L0 a0) 0).bind fun (z5 : (Unit ⊕ Unit)) => match z5 with | .inl z5 => some false | .inr z5 => some true

noncomputable def m_word_Width (a0 : Int) : Option (Int × Bool) :=
  ((some (⟨[0, 1, 8, 16, 32, 64], rfl⟩ : (Arr Int 6)))).bind fun y6 => ((some (⟨[0, 0, 0, 0, 0, 0], rfl⟩ : (Arr Int 6)))).bind fun y8 => cond (cond (decide (a0 < 0)) true (decide (6 ≤ a0))) (some (0, false)) ((getI y6.1 a0).bind fun x12 => some (x12, true))

noncomputable def m_word_Fits (a0 : Int) (a1 : Int) : Option Bool :=
  (m_word_Width a0).bind fun y2 => (cond y2.2 ((guardI (0 ≤ y2.1)).bind fun u5 => some (cond y2.2 ((Int.fdiv a1 (2 ^ min (Int.toNat y2.1) 64)) == 0) false)) (some false)).bind fun (z4 : Bool) => some z4

noncomputable def b_tree_Right (r_tree_Right : (S_api_Tree → Option Bool)) (r_tree_right : (S_api_Tree → Int → Option Bool)) (r_tree_allRight : ((List S_api_Tree) → Int → Option Bool)) (r_tree_allAtoms : ((List S_api_Tree) → Int → Option Bool)) (a0 : S_api_Tree) : Option Bool :=
  cond (a0.Kind == 10) (some (cond ((a0.Words.length : Int) == 1) ((a0.Kids.length : Int) == 0) false)) ((r_tree_right a0 64).bind fun y2 => some y2)

noncomputable def b_tree_right (r_tree_Right : (S_api_Tree → Option Bool)) (r_tree_right : (S_api_Tree → Int → Option Bool)) (r_tree_allRight : ((List S_api_Tree) → Int → Option Bool)) (r_tree_allAtoms : ((List S_api_Tree) → Int → Option Bool)) (a0 : S_api_Tree) (a1 : Int) : Option Bool :=
  cond (a0.Kind == 0) (some (cond ((a0.Words.length : Int) == 0) ((a0.Kids.length : Int) == 0) false)) (cond (a1 == 0) (some false) (cond (a0.Kind == 1) ((cond (decide ((a0.Words.length : Int) < 65536)) (cond (decide ((a0.Kids.length : Int) < 65536)) ((r_tree_allRight a0.Kids (IntKind.i64.wrap (a1 - 1))).bind fun y3 => some (cond (cond (decide ((a0.Words.length : Int) < 65536)) (decide ((a0.Kids.length : Int) < 65536)) false) y3 false)) (some false)) (some false)).bind fun (z2 : Bool) => some z2) ((m_tree_List a0.Kind).bind fun y7 => cond (cond (cond (!y7) true (decide (0 < (a0.Words.length : Int)))) true (decide (1048576 ≤ (a0.Kids.length : Int)))) (some false) (cond (a0.Kind == 8) ((r_tree_allRight a0.Kids (IntKind.i64.wrap (a1 - 1))).bind fun y9 => some y9) (cond (a0.Kind == 9) (((m_tree_allStructs a0.Kids).bind fun y13 => cond y13 ((r_tree_allRight a0.Kids (IntKind.i64.wrap (a1 - 1))).bind fun y14 => some (cond y13 y14 false)) (some false)).bind fun (z12 : Bool) => some z12) ((r_tree_allAtoms a0.Kids (IntKind.i64.wrap (a0.Kind - 2))).bind fun y17 => some y17))))))

noncomputable def b_tree_allRight_L0 (r_tree_right : (S_api_Tree → Int → Option Bool)) (a0 : (List S_api_Tree)) (a1 : Int) (s0_ : Int) : Option (Int ⊕ (Unit ⊕ Unit)) :=
  cond (decide (s0_ < (a0.length : Int))) ((getI a0 s0_).bind fun x2 => (r_tree_right x2 a1).bind fun y4 => cond (!y4) (some (.inr (.inl ()))) (some (.inl (IntKind.i64.wrap (s0_ + 1))))) (some (.inr (.inr ())))

noncomputable def b_tree_allRight (r_tree_Right : (S_api_Tree → Option Bool)) (r_tree_right : (S_api_Tree → Int → Option Bool)) (r_tree_allRight : ((List S_api_Tree) → Int → Option Bool)) (r_tree_allAtoms : ((List S_api_Tree) → Int → Option Bool)) (a0 : (List S_api_Tree)) (a1 : Int) : Option Bool :=
  (runLoop (b_tree_allRight_L0 r_tree_right a0 a1) 0).bind fun (z7 : (Unit ⊕ Unit)) => match z7 with | .inl z7 => some false | .inr z7 => some true

noncomputable def b_tree_allAtoms_L0 (r_tree_Right : (S_api_Tree → Option Bool)) (a0 : (List S_api_Tree)) (a1 : Int) (s0_ : Int) : Option (Int ⊕ (Unit ⊕ Unit)) :=
  cond (decide (s0_ < (a0.length : Int))) ((getI a0 s0_).bind fun x2 => (cond (x2.Kind != 10) (some true) ((r_tree_Right x2).bind fun y7 => cond y7 ((getI x2.Words 0).bind fun x8 => (m_word_Fits a1 x8).bind fun y9 => some (cond (cond (x2.Kind != 10) true (!y7)) true (!y9))) (some true))).bind fun (z6 : Bool) => cond z6 (some (.inr (.inl ()))) (some (.inl (IntKind.i64.wrap (s0_ + 1))))) (some (.inr (.inr ())))

noncomputable def b_tree_allAtoms (r_tree_Right : (S_api_Tree → Option Bool)) (r_tree_right : (S_api_Tree → Int → Option Bool)) (r_tree_allRight : ((List S_api_Tree) → Int → Option Bool)) (r_tree_allAtoms : ((List S_api_Tree) → Int → Option Bool)) (a0 : (List S_api_Tree)) (a1 : Int) : Option Bool :=
  (runLoop (b_tree_allAtoms_L0 r_tree_Right a0 a1) 0).bind fun (z14 : (Unit ⊕ Unit)) => match z14 with | .inl z14 => some false | .inr z14 => some true

noncomputable def lv_tree_Right : Nat → ((S_api_Tree → Option Bool) × (S_api_Tree → Int → Option Bool) × ((List S_api_Tree) → Int → Option Bool) × ((List S_api_Tree) → Int → Option Bool))
  | 0 => (fun _ => none, fun _ _ => none, fun _ _ => none, fun _ _ => none)
  | k + 1 => (b_tree_Right ((lv_tree_Right k).1) ((lv_tree_Right k).2.1) ((lv_tree_Right k).2.2.1) ((lv_tree_Right k).2.2.2), b_tree_right ((lv_tree_Right k).1) ((lv_tree_Right k).2.1) ((lv_tree_Right k).2.2.1) ((lv_tree_Right k).2.2.2), b_tree_allRight ((lv_tree_Right k).1) ((lv_tree_Right k).2.1) ((lv_tree_Right k).2.2.1) ((lv_tree_Right k).2.2.2), b_tree_allAtoms ((lv_tree_Right k).1) ((lv_tree_Right k).2.1) ((lv_tree_Right k).2.2.1) ((lv_tree_Right k).2.2.2))

noncomputable def m_tree_Right (a0 : S_api_Tree) : Option Bool := lim fun k => (lv_tree_Right k).1 a0

noncomputable def m_tree_right (a0 : S_api_Tree) (a1 : Int) : Option Bool := lim fun k => (lv_tree_Right k).2.1 a0 a1

noncomputable def m_tree_allRight (a0 : (List S_api_Tree)) (a1 : Int) : Option Bool := lim fun k => (lv_tree_Right k).2.2.1 a0 a1

noncomputable def m_tree_allAtoms (a0 : (List S_api_Tree)) (a1 : Int) : Option Bool := lim fun k => (lv_tree_Right k).2.2.2 a0 a1

noncomputable def m_centoref01_Width (a0 : Int) : Option Int :=
  cond (a0 == 0) (some 0) (cond (a0 == 1) (some 1) (cond (a0 == 2) (some 8) (cond (a0 == 3) (some 16) (cond (a0 == 4) (some 32) (cond (a0 == 5) (some 64) (some (-1)))))))

noncomputable def m_centoref01_Fits_L0 (y2 : Int) (s0_ : (Int × Int)) : Option ((Int × Int) ⊕ Int) :=
  cond (decide (s0_.2 < y2)) (some (.inl ((IntKind.u64.wrap (Int.tdiv s0_.1 2)), (IntKind.i64.wrap (s0_.2 + 1))))) (some (.inr s0_.1))

noncomputable def m_centoref01_Fits (a0 : Int) (a1 : Int) : Option Bool :=
  (m_centoref01_Width a0).bind fun y2 => cond (decide (y2 < 0)) (some false) ((runLoop (m_centoref01_Fits_L0 y2) (a1, 0)).bind fun (z4 : Int) => some (z4 == 0))

noncomputable def b_centoref07_Right_L0 (r_centoref07_Right : (S_api_Tree → Int → Option Bool)) (a0 : S_api_Tree) (a1 : Int) (s0_ : Int) : Option (Int ⊕ (Unit ⊕ Unit)) :=
  cond (decide (s0_ < (a0.Kids.length : Int))) ((getI a0.Kids s0_).bind fun x2 => (r_centoref07_Right x2 (IntKind.i64.wrap (a1 - 1))).bind fun y4 => cond (!y4) (some (.inr (.inl ()))) ((cond ((cond (decide (2 ≤ a0.Kind)) (decide (a0.Kind ≤ 7)) false) != (x2.Kind == 10)) (some true) (cond (a0.Kind == 9) (cond (x2.Kind != 1) (some true) (cond (decide (2 ≤ a0.Kind)) (cond (decide (a0.Kind ≤ 7)) ((getI x2.Words 0).bind fun x10 => (m_centoref01_Fits (IntKind.i64.wrap (a0.Kind - 2)) x10).bind fun y11 => some (cond (cond ((cond (decide (2 ≤ a0.Kind)) (decide (a0.Kind ≤ 7)) false) != (x2.Kind == 10)) true (cond (a0.Kind == 9) (x2.Kind != 1) false)) true (cond (cond (decide (2 ≤ a0.Kind)) (decide (a0.Kind ≤ 7)) false) (!y11) false))) (some (cond (cond ((cond (decide (2 ≤ a0.Kind)) (decide (a0.Kind ≤ 7)) false) != (x2.Kind == 10)) true (cond (a0.Kind == 9) (x2.Kind != 1) false)) true false))) (some (cond (cond ((cond (decide (2 ≤ a0.Kind)) (decide (a0.Kind ≤ 7)) false) != (x2.Kind == 10)) true (cond (a0.Kind == 9) (x2.Kind != 1) false)) true false)))) (cond (decide (2 ≤ a0.Kind)) (cond (decide (a0.Kind ≤ 7)) ((getI x2.Words 0).bind fun x12 => (m_centoref01_Fits (IntKind.i64.wrap (a0.Kind - 2)) x12).bind fun y13 => some (cond (cond ((cond (decide (2 ≤ a0.Kind)) (decide (a0.Kind ≤ 7)) false) != (x2.Kind == 10)) true (cond (a0.Kind == 9) (x2.Kind != 1) false)) true (cond (cond (decide (2 ≤ a0.Kind)) (decide (a0.Kind ≤ 7)) false) (!y13) false))) (some (cond (cond ((cond (decide (2 ≤ a0.Kind)) (decide (a0.Kind ≤ 7)) false) != (x2.Kind == 10)) true (cond (a0.Kind == 9) (x2.Kind != 1) false)) true false))) (some (cond (cond ((cond (decide (2 ≤ a0.Kind)) (decide (a0.Kind ≤ 7)) false) != (x2.Kind == 10)) true (cond (a0.Kind == 9) (x2.Kind != 1) false)) true false))))).bind fun (z9 : Bool) => cond z9 (some (.inr (.inl ()))) (some (.inl (IntKind.i64.wrap (s0_ + 1)))))) (some (.inr (.inr ())))

noncomputable def b_centoref07_Right (r_centoref07_Right : (S_api_Tree → Int → Option Bool)) (a0 : S_api_Tree) (a1 : Int) : Option Bool :=
  cond (a0.Kind == 0) (some (cond ((a0.Words.length : Int) == 0) ((a0.Kids.length : Int) == 0) false)) (cond (a0.Kind == 10) (some (cond ((a0.Words.length : Int) == 1) ((a0.Kids.length : Int) == 0) false)) (cond (cond (cond (cond (cond (cond (decide (a0.Kind < 0)) true (decide (10 < a0.Kind))) true (a1 == 0)) true (decide (65536 ≤ (a0.Words.length : Int)))) true (cond (a0.Kind == 1) (decide (65536 ≤ (a0.Kids.length : Int))) false)) true (decide (1048576 ≤ (a0.Kids.length : Int)))) (some false) (cond (cond (decide (1 < a0.Kind)) (decide (0 < (a0.Words.length : Int))) false) (some false) ((runLoop (b_centoref07_Right_L0 r_centoref07_Right a0 a1) 0).bind fun (z24 : (Unit ⊕ Unit)) => match z24 with | .inl z24 => some false | .inr z24 => some true))))

noncomputable def lv_centoref07_Right : Nat → (S_api_Tree → Int → Option Bool)
  | 0 => fun _ _ => none
  | k + 1 => b_centoref07_Right ((lv_centoref07_Right k))

noncomputable def m_centoref07_Right (a0 : S_api_Tree) (a1 : Int) : Option Bool := lim fun k => (lv_centoref07_Right k) a0 a1

noncomputable def m_tree_Data (a0 : Int) : Option Bool :=
  some (cond (decide (2 ≤ a0)) (decide (a0 ≤ 7)) false)

noncomputable def m_centolaw07_TreeRight (a0 : S_api_Tree) (a1 : Int) : Option Bool :=
  (m_centoref07_Few a0).bind fun y2 => cond (!y2) ((m_centolaw07_awake).bind fun y4 => some y4) (((m_tree_Right a0).bind fun y11 => (m_centoref07_Right a0 64).bind fun y12 => cond (y11 == y12) ((m_tree_List a1).bind fun y13 => cond (y13 == (cond (decide (2 ≤ a1)) (decide (a1 ≤ 9)) false)) ((m_tree_Data a1).bind fun y14 => cond (y14 == (cond (decide (2 ≤ a1)) (decide (a1 ≤ 7)) false)) ((m_centolaw07_awake).bind fun y15 => some (cond (cond (cond (y11 == y12) (y13 == (cond (decide (2 ≤ a1)) (decide (a1 ≤ 9)) false)) false) (y14 == (cond (decide (2 ≤ a1)) (decide (a1 ≤ 7)) false)) false) y15 false)) (some false)) (some false)) (some false)).bind fun (z10 : Bool) => some z10)

noncomputable def m_centoref07_Trim_L0 (a0 : (List Int)) (s0_ : Int) : Option (Int ⊕ Int) :=
  (cond (decide (0 < s0_)) ((getI a0 (IntKind.i64.wrap (s0_ - 1))).bind fun x3 => some (cond (decide (0 < s0_)) (x3 == 0) false)) (some false)).bind fun (z2 : Bool) => cond z2 (some (.inl (IntKind.i64.wrap (s0_ - 1)))) (some (.inr s0_))

noncomputable def m_centoref07_Trim (a0 : (List Int)) : Option (List Int) :=
  (runLoop (m_centoref07_Trim_L0 a0) (a0.length : Int)).bind fun (z6 : Int) => (subI a0 0 z6).bind fun l9 => (appI 8 ([] : List Int) l9).bind fun l10 => some l10

noncomputable def b_centoref07_Norm_L0 (r_centoref07_Norm : (S_api_Tree → Option S_api_Tree)) (a0 : S_api_Tree) (s0_ : (Int × Int × (List S_api_Tree))) : Option ((Int × Int × (List S_api_Tree)) ⊕ (Int × (List S_api_Tree))) :=
  cond (decide (s0_.2.1 < (a0.Kids.length : Int))) (((getI a0.Kids s0_.2.1).bind fun x4 => (r_centoref07_Norm x4).bind fun y5 => (appI 56 s0_.2.2 ([y5] : List S_api_Tree)).bind fun l7 => cond (y5.Kind != 0) (some ((IntKind.i64.wrap (s0_.2.1 + 1)), l7)) (some (s0_.1, l7))).bind fun (z1 : (Int × (List S_api_Tree))) => some (.inl (z1.1, (IntKind.i64.wrap (s0_.2.1 + 1)), z1.2))) (some (.inr (s0_.1, s0_.2.2)))

noncomputable def b_centoref07_Norm (r_centoref07_Norm : (S_api_Tree → Option S_api_Tree)) (a0 : S_api_Tree) : Option S_api_Tree :=
  cond (a0.Kind == 0) (some (⟨0, ([] : (List Int)), ([] : (List S_api_Tree))⟩ : S_api_Tree)) ((runLoop (b_centoref07_Norm_L0 r_centoref07_Norm a0) (0, 0, ([] : List S_api_Tree))).bind fun (z10 : (Int × (List S_api_Tree))) => cond (a0.Kind == 1) ((m_centoref07_Trim a0.Words).bind fun y14 => (subI z10.2 0 z10.1).bind fun l15 => some (⟨1, y14, l15⟩ : S_api_Tree)) ((appI 8 ([] : List Int) a0.Words).bind fun l17 => some (⟨a0.Kind, l17, z10.2⟩ : S_api_Tree)))

noncomputable def lv_centoref07_Norm : Nat → (S_api_Tree → Option S_api_Tree)
  | 0 => fun _ => none
  | k + 1 => b_centoref07_Norm ((lv_centoref07_Norm k))

noncomputable def m_centoref07_Norm (a0 : S_api_Tree) : Option S_api_Tree := lim fun k => (lv_centoref07_Norm k) a0

noncomputable def b_centoref07_Same_L0 (r_centoref07_Same : (S_api_Tree → S_api_Tree → Option Bool)) (a0 : S_api_Tree) (a1 : S_api_Tree) (s0_ : Int) : Option (Int ⊕ (Unit ⊕ Unit)) :=
  cond (decide (s0_ < (a0.Kids.length : Int))) ((getI a0.Kids s0_).bind fun x8 => (getI a1.Kids s0_).bind fun x9 => (r_centoref07_Same x8 x9).bind fun y10 => cond (!y10) (some (.inr (.inl ()))) (some (.inl (IntKind.i64.wrap (s0_ + 1))))) (some (.inr (.inr ())))

noncomputable def b_centoref07_Same (r_centoref07_Same : (S_api_Tree → S_api_Tree → Option Bool)) (a0 : S_api_Tree) (a1 : S_api_Tree) : Option Bool :=
  (cond (a0.Kind != a1.Kind) (some true) ((m_centoref01_Same a0.Words a1.Words).bind fun y3 => some (cond (cond (a0.Kind != a1.Kind) true (!y3)) true ((a0.Kids.length : Int) != (a1.Kids.length : Int))))).bind fun (z2 : Bool) => cond z2 (some false) ((runLoop (b_centoref07_Same_L0 r_centoref07_Same a0 a1) 0).bind fun (z13 : (Unit ⊕ Unit)) => match z13 with | .inl z13 => some false | .inr z13 => some true)

noncomputable def lv_centoref07_Same : Nat → (S_api_Tree → S_api_Tree → Option Bool)
  | 0 => fun _ _ => none
  | k + 1 => b_centoref07_Same ((lv_centoref07_Same k))

noncomputable def m_centoref07_Same (a0 : S_api_Tree) (a1 : S_api_Tree) : Option Bool := lim fun k => (lv_centoref07_Same k) a0 a1

noncomputable def m_centolaw07_TreeNorms (a0 : S_api_Tree) : Option Bool :=
  (m_centoref07_Few a0).bind fun y2 => cond (!y2) ((m_centolaw07_awake).bind fun y4 => some y4) ((m_centoref07_Norm a0).bind fun y6 => (m_tree_Norm a0).bind fun y8 => ((m_centoref07_Same y8 y6).bind fun y17 => cond y17 ((m_tree_Norm y8).bind fun y18 => (m_centoref07_Same y18 y8).bind fun y19 => cond y19 ((m_tree_Equal y8 a0).bind fun y20 => cond y20 ((m_tree_Weight y8).bind fun y21 => (m_tree_Weight a0).bind fun y22 => cond (decide (y21 ≤ y22)) ((m_centolaw07_awake).bind fun y23 => some (cond (cond (cond (cond y17 y19 false) y20 false) (decide (y21 ≤ y22)) false) y23 false)) (some false)) (some false)) (some false)) (some false)).bind fun (z16 : Bool) => some z16)

noncomputable def m_centoref07_Equal (a0 : S_api_Tree) (a1 : S_api_Tree) : Option Bool :=
  (m_centoref07_Norm a0).bind fun y4 => (m_centoref07_Norm a1).bind fun y5 => (m_centoref07_Same y4 y5).bind fun y6 => some y6

noncomputable def m_centolaw07_TreeEqual (a0 : S_api_Tree) (a1 : S_api_Tree) : Option Bool :=
  ((m_centoref07_Few a0).bind fun y4 => cond y4 ((m_centoref07_Few a1).bind fun y5 => some (cond (!y4) true (!y5))) (some true)).bind fun (z3 : Bool) => cond z3 ((m_centolaw07_awake).bind fun y8 => some y8) (((m_tree_Equal a0 a1).bind fun y16 => (m_centoref07_Equal a0 a1).bind fun y17 => cond (y16 == y17) ((m_tree_Equal a1 a0).bind fun y18 => (m_centoref07_Equal a0 a1).bind fun y19 => cond (y18 == y19) ((m_tree_Equal a0 a0).bind fun y20 => cond y20 ((m_centolaw07_awake).bind fun y21 => some (cond (cond (cond (y16 == y17) (y18 == y19) false) y20 false) y21 false)) (some false)) (some false)) (some false)).bind fun (z15 : Bool) => some z15)

end Go.Proofs.Ytjeolggpgclgkaa
