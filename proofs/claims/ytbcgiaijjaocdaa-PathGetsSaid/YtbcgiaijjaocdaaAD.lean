/- Part AD of this seat's mirrors: functions of the seat's program, and the plain functions that they are; each theorem bears its own conditions. -/
import Derived.Test.YtbcgiaijjaocdaaH23
namespace Go.Proofs.Ytbcgiaijjaocdaa
open Go.RowKit
set_option linter.unusedVariables false
set_option linter.unusedSimpArgs false
set_option maxRecDepth 100000
set_option maxHeartbeats 1000000
structure S_api_Tree where
  Kind : Int
  Words : (List Int)
  Kids : (List S_api_Tree)

noncomputable def b_centoref07_Shallow_L0 (r_centoref07_Shallow : (S_api_Tree → Int → Int → Option Int)) (a0 : S_api_Tree) (a1 : Int) (s0_ : (Int × Int)) : Option ((Int × Int) ⊕ Int) :=
  cond (cond (decide (s0_.2 < (a0.Kids.length : Int))) (decide (0 ≤ s0_.1)) false) ((getI a0.Kids s0_.2).bind fun x1 => (r_centoref07_Shallow x1 (IntKind.i64.wrap (a1 - 1)) s0_.1).bind fun y2 => some (.inl (y2, (IntKind.i64.wrap (s0_.2 + 1))))) (some (.inr s0_.1))

noncomputable def b_centoref07_Shallow (r_centoref07_Shallow : (S_api_Tree → Int → Int → Option Int)) (a0 : S_api_Tree) (a1 : Int) (a2 : Int) : Option Int :=
  cond (cond (a1 == 0) true (decide ((IntKind.i64.wrap ((IntKind.i64.wrap (a2 - 1)) - (a0.Words.length : Int))) < 0))) (some (-1)) ((runLoop (b_centoref07_Shallow_L0 r_centoref07_Shallow a0 a1) ((IntKind.i64.wrap ((IntKind.i64.wrap (a2 - 1)) - (a0.Words.length : Int))), 0)).bind fun (z4 : Int) => some z4)

noncomputable def lv_centoref07_Shallow : Nat → (S_api_Tree → Int → Int → Option Int)
  | 0 => (fun _ _ _ => none)
  | k + 1 => b_centoref07_Shallow ((lv_centoref07_Shallow k))

noncomputable def m_centoref07_Shallow (a0 : S_api_Tree) (a1 : Int) (a2 : Int) : Option Int := lim fun k => (lv_centoref07_Shallow k) a0 a1 a2

noncomputable def m_centoref07_Few (a0 : S_api_Tree) : Option Bool :=
  (m_centoref07_Shallow a0 80 3000).bind fun y2 => some (decide (0 ≤ y2))

noncomputable def m_centoref01_Width (a0 : Int) : Option Int :=
  cond (a0 == 0) (some 0) (cond (a0 == 1) (some 1) (cond (a0 == 2) (some 8) (cond (a0 == 3) (some 16) (cond (a0 == 4) (some 32) (cond (a0 == 5) (some 64) (some (-1)))))))

noncomputable def m_centoref01_Fits_L0 (y2 : Int) (s0_ : (Int × Int)) : Option ((Int × Int) ⊕ Int) :=
  cond (decide (s0_.2 < y2)) (some (.inl ((IntKind.u64.wrap (Int.tdiv s0_.1 2)), (IntKind.i64.wrap (s0_.2 + 1))))) (some (.inr s0_.1))

noncomputable def m_centoref01_Fits (a0 : Int) (a1 : Int) : Option Bool :=
  (m_centoref01_Width a0).bind fun y2 => cond (decide (y2 < 0)) (some false) ((runLoop (m_centoref01_Fits_L0 y2) (a1, 0)).bind fun (z4 : Int) => some (z4 == 0))

noncomputable def b_centoref07_Right_L0 (r_centoref07_Right : (S_api_Tree → Int → Option Bool)) (a0 : S_api_Tree) (a1 : Int) (s0_ : Int) : Option (Int ⊕ (Unit ⊕ Unit)) :=
  cond (decide (s0_ < (a0.Kids.length : Int))) ((getI a0.Kids s0_).bind fun x2 => (r_centoref07_Right x2 (IntKind.i64.wrap (a1 - 1))).bind fun y4 => cond (!y4) (some (.inr (.inl ()))) ((cond ((cond (decide (2 ≤ a0.Kind)) (decide (a0.Kind ≤ 7)) false) != (x2.Kind == 10)) (some true) (cond (a0.Kind == 9) (cond (x2.Kind != 1) (some true) (cond (decide (2 ≤ a0.Kind)) (cond (decide (a0.Kind ≤ 7)) ((getI x2.Words 0).bind fun x10 => (m_centoref01_Fits (IntKind.i64.wrap (a0.Kind - 2)) x10).bind fun y11 => some (cond (cond ((cond (decide (2 ≤ a0.Kind)) (decide (a0.Kind ≤ 7)) false) != (x2.Kind == 10)) true (cond (a0.Kind == 9) (x2.Kind != 1) false)) true (cond (cond (decide (2 ≤ a0.Kind)) (decide (a0.Kind ≤ 7)) false) (!y11) false))) (some (cond (cond ((cond (decide (2 ≤ a0.Kind)) (decide (a0.Kind ≤ 7)) false) != (x2.Kind == 10)) true (cond (a0.Kind == 9) (x2.Kind != 1) false)) true false))) (some (cond (cond ((cond (decide (2 ≤ a0.Kind)) (decide (a0.Kind ≤ 7)) false) != (x2.Kind == 10)) true (cond (a0.Kind == 9) (x2.Kind != 1) false)) true false)))) (cond (decide (2 ≤ a0.Kind)) (cond (decide (a0.Kind ≤ 7)) ((getI x2.Words 0).bind fun x12 => (m_centoref01_Fits (IntKind.i64.wrap (a0.Kind - 2)) x12).bind fun y13 => some (cond (cond ((cond (decide (2 ≤ a0.Kind)) (decide (a0.Kind ≤ 7)) false) != (x2.Kind == 10)) true (cond (a0.Kind == 9) (x2.Kind != 1) false)) true (cond (cond (decide (2 ≤ a0.Kind)) (decide (a0.Kind ≤ 7)) false) (!y13) false))) (some (cond (cond ((cond (decide (2 ≤ a0.Kind)) (decide (a0.Kind ≤ 7)) false) != (x2.Kind == 10)) true (cond (a0.Kind == 9) (x2.Kind != 1) false)) true false))) (some (cond (cond ((cond (decide (2 ≤ a0.Kind)) (decide (a0.Kind ≤ 7)) false) != (x2.Kind == 10)) true (cond (a0.Kind == 9) (x2.Kind != 1) false)) true false))))).bind fun (z9 : Bool) => cond z9 (some (.inr (.inl ()))) (some (.inl (IntKind.i64.wrap (s0_ + 1)))))) (some (.inr (.inr ())))

noncomputable def b_centoref07_Right (r_centoref07_Right : (S_api_Tree → Int → Option Bool)) (a0 : S_api_Tree) (a1 : Int) : Option Bool :=
  cond (a0.Kind == 0) (some (cond ((a0.Words.length : Int) == 0) ((a0.Kids.length : Int) == 0) false)) (cond (a0.Kind == 10) (some (cond ((a0.Words.length : Int) == 1) ((a0.Kids.length : Int) == 0) false)) (cond (cond (cond (cond (cond (cond (decide (a0.Kind < 0)) true (decide (10 < a0.Kind))) true (a1 == 0)) true (decide (65536 ≤ (a0.Words.length : Int)))) true (cond (a0.Kind == 1) (decide (65536 ≤ (a0.Kids.length : Int))) false)) true (decide (1048576 ≤ (a0.Kids.length : Int)))) (some false) (cond (cond (decide (1 < a0.Kind)) (decide (0 < (a0.Words.length : Int))) false) (some false) ((runLoop (b_centoref07_Right_L0 r_centoref07_Right a0 a1) 0).bind fun (z24 : (Unit ⊕ Unit)) => match z24 with | .inl z24 => some false | .inr z24 => some true))))

noncomputable def lv_centoref07_Right : Nat → (S_api_Tree → Int → Option Bool)
  | 0 => (fun _ _ => none)
  | k + 1 => b_centoref07_Right ((lv_centoref07_Right k))

noncomputable def m_centoref07_Right (a0 : S_api_Tree) (a1 : Int) : Option Bool := lim fun k => (lv_centoref07_Right k) a0 a1

noncomputable def m_centolaw31_awake_1 (a0 : Int) : Option S_api_Tree :=
  some (⟨10, ([a0] : List Int), ([] : (List S_api_Tree))⟩ : S_api_Tree)

noncomputable def m_tree_List (a0 : Int) : Option Bool :=
  some (cond (decide (2 ≤ a0)) (decide (a0 ≤ 9)) false)

noncomputable def m_tree_Kid (a0 : S_api_Tree) (a1 : Int) : Option S_api_Tree :=
  cond (cond (decide (a1 < 0)) true (decide ((a0.Kids.length : Int) ≤ a1))) (some (⟨0, ([] : (List Int)), ([] : (List S_api_Tree))⟩ : S_api_Tree)) ((getI a0.Kids a1).bind fun x2 => some x2)

noncomputable def m_tree_Word (a0 : S_api_Tree) (a1 : Int) : Option Int :=
  cond (cond (decide (a1 < 0)) true (decide ((a0.Words.length : Int) ≤ a1))) (some 0) ((getI a0.Words a1).bind fun x2 => some x2)

structure S_api_Step where
  Kind : Int
  At : Int

noncomputable def m_path_step (a0 : S_api_Tree) (a1 : S_api_Step) : Option (S_api_Tree × Bool) :=
  (m_tree_List a0.Kind).bind fun y2 => cond (cond (a1.Kind == 0) (cond (cond (a0.Kind == 1) (decide (0 ≤ a1.At)) false) (decide (a1.At ≤ 65534)) false) false) ((m_tree_Kid a0 a1.At).bind fun y4 => some (y4, true)) (cond (cond (cond (a1.Kind == 0) (cond (cond y2 (decide (0 ≤ a1.At)) false) (decide (a1.At ≤ (a0.Kids.length : Int))) false) false) (decide (a1.At < (a0.Kids.length : Int))) false) ((getI a0.Kids a1.At).bind fun x6 => some (x6, true)) (cond (cond (a1.Kind == 1) (cond (cond (a0.Kind == 1) (decide (0 ≤ a1.At)) false) (decide (a1.At ≤ 65534)) false) false) ((m_tree_Word a0 a1.At).bind fun y8 => some ((⟨1, ([y8] : List Int), ([] : (List S_api_Tree))⟩ : S_api_Tree), true)) (cond (cond (a1.Kind == 2) (cond (cond y2 (decide (0 ≤ a1.At)) false) (decide (a1.At ≤ (a0.Kids.length : Int))) false) false) (some ((⟨a0.Kind, ([] : (List Int)), ([] : (List S_api_Tree))⟩ : S_api_Tree), true)) (some ((⟨0, ([] : (List Int)), ([] : (List S_api_Tree))⟩ : S_api_Tree), false)))))

noncomputable def m_tree_trimWords_L0 (a0 : (List Int)) (s0_ : Int) : Option (Int ⊕ Int) :=
  (cond (decide (0 < s0_)) ((getI a0 (IntKind.i64.wrap (s0_ - 1))).bind fun x3 => some (cond (decide (0 < s0_)) (x3 == 0) false)) (some false)).bind fun (z2 : Bool) => cond z2 (some (.inl (IntKind.i64.wrap (s0_ - 1)))) (some (.inr s0_))

noncomputable def m_tree_trimWords (a0 : (List Int)) : Option (List Int) :=
  (runLoop (m_tree_trimWords_L0 a0) (a0.length : Int)).bind fun (z6 : Int) => (subI a0 0 z6).bind fun l8 => some l8

noncomputable def m_tree_trimKids_L0 (a0 : (List S_api_Tree)) (s0_ : Int) : Option (Int ⊕ Int) :=
  (cond (decide (0 < s0_)) ((getI a0 (IntKind.i64.wrap (s0_ - 1))).bind fun x4 => some (cond (decide (0 < s0_)) (x4.Kind == 0) false)) (some false)).bind fun (z3 : Bool) => cond z3 (some (.inl (IntKind.i64.wrap (s0_ - 1)))) (some (.inr s0_))

noncomputable def m_tree_trimKids (a0 : (List S_api_Tree)) : Option (List S_api_Tree) :=
  (runLoop (m_tree_trimKids_L0 a0) (a0.length : Int)).bind fun (z8 : Int) => (subI a0 0 z8).bind fun l10 => some l10

noncomputable def b_tree_Norm_L0 (r_tree_Norm : (S_api_Tree → Option S_api_Tree)) (z1 : ((List Int) × (List S_api_Tree))) (s0_ : (Int × (List S_api_Tree))) : Option ((Int × (List S_api_Tree)) ⊕ (List S_api_Tree)) :=
  cond (decide (s0_.1 < (z1.2.length : Int))) ((getI z1.2 s0_.1).bind fun x9 => (r_tree_Norm x9).bind fun y10 => (getI s0_.2 s0_.1).bind fun x11 => some (.inl ((IntKind.i64.wrap (s0_.1 + 1)), (setI s0_.2 s0_.1 y10)))) (some (.inr s0_.2))

noncomputable def b_tree_Norm (r_tree_Norm : (S_api_Tree → Option S_api_Tree)) (a0 : S_api_Tree) : Option S_api_Tree :=
  cond (a0.Kind == 0) (some (⟨0, ([] : (List Int)), ([] : (List S_api_Tree))⟩ : S_api_Tree)) ((cond (a0.Kind == 1) ((m_tree_trimWords a0.Words).bind fun y2 => (m_tree_trimKids a0.Kids).bind fun y3 => some (y2, y3)) (some (a0.Words, a0.Kids))).bind fun (z1 : ((List Int) × (List S_api_Tree))) => (cond (decide (0 < (z1.2.length : Int))) ((makeI 56 (z1.2.length : Int) (⟨(0 : Int), ([] : (List Int)), ([] : (List S_api_Tree))⟩ : S_api_Tree)).bind fun l6 => some l6) (some ([] : List S_api_Tree))).bind fun (z5 : (List S_api_Tree)) => (runLoop (b_tree_Norm_L0 r_tree_Norm z1) (0, z5)).bind fun (z14 : (List S_api_Tree)) => some (⟨a0.Kind, z1.1, z14⟩ : S_api_Tree))

noncomputable def lv_tree_Norm : Nat → (S_api_Tree → Option S_api_Tree)
  | 0 => (fun _ => none)
  | k + 1 => b_tree_Norm ((lv_tree_Norm k))

noncomputable def m_tree_Norm (a0 : S_api_Tree) : Option S_api_Tree := lim fun k => (lv_tree_Norm k) a0

noncomputable def m_path_Get_L0 (a1 : (List S_api_Step)) (s0_ : (Int × Int × (List Int) × (List S_api_Tree))) : Option ((Int × Int × (List Int) × (List S_api_Tree)) ⊕ (Unit ⊕ (Int × (List Int) × (List S_api_Tree)))) :=
  cond (decide (s0_.1 < (a1.length : Int))) ((getI a1 s0_.1).bind fun x2 => (m_path_step (⟨s0_.2.1, s0_.2.2.1, s0_.2.2.2⟩ : S_api_Tree) x2).bind fun y4 => cond (cond (!y4.2) true (cond (x2.Kind != 0) (decide (s0_.1 < (IntKind.i64.wrap ((a1.length : Int) - 1)))) false)) (some (.inr (.inl ()))) (some (.inl ((IntKind.i64.wrap (s0_.1 + 1)), y4.1.Kind, y4.1.Words, y4.1.Kids)))) (some (.inr (.inr (s0_.2.1, s0_.2.2.1, s0_.2.2.2))))

noncomputable def m_path_Get (a0 : S_api_Tree) (a1 : (List S_api_Step)) : Option (S_api_Tree × Bool) :=
  (runLoop (m_path_Get_L0 a1) (0, a0.Kind, a0.Words, a0.Kids)).bind fun (z7 : (Unit ⊕ (Int × (List Int) × (List S_api_Tree)))) => match z7 with | .inl z7 => some ((⟨0, ([] : (List Int)), ([] : (List S_api_Tree))⟩ : S_api_Tree), false) | .inr z7 => (m_tree_Norm (⟨z7.1, z7.2.1, z7.2.2⟩ : S_api_Tree)).bind fun y9 => some (y9, true)

noncomputable def m_centoref01_Same_L0 (a0 : (List Int)) (a1 : (List Int)) (s0_ : Int) : Option (Int ⊕ (Unit ⊕ Unit)) :=
  cond (decide (s0_ < (a0.length : Int))) ((getI a0 s0_).bind fun x3 => (getI a1 s0_).bind fun x4 => cond (x3 != x4) (some (.inr (.inl ()))) (some (.inl (IntKind.i64.wrap (s0_ + 1))))) (some (.inr (.inr ())))

noncomputable def m_centoref01_Same (a0 : (List Int)) (a1 : (List Int)) : Option Bool :=
  cond ((a0.length : Int) != (a1.length : Int)) (some false) ((runLoop (m_centoref01_Same_L0 a0 a1) 0).bind fun (z7 : (Unit ⊕ Unit)) => match z7 with | .inl z7 => some false | .inr z7 => some true)

noncomputable def b_centoref07_Same_L0 (r_centoref07_Same : (S_api_Tree → S_api_Tree → Option Bool)) (a0 : S_api_Tree) (a1 : S_api_Tree) (s0_ : Int) : Option (Int ⊕ (Unit ⊕ Unit)) :=
  cond (decide (s0_ < (a0.Kids.length : Int))) ((getI a0.Kids s0_).bind fun x8 => (getI a1.Kids s0_).bind fun x9 => (r_centoref07_Same x8 x9).bind fun y10 => cond (!y10) (some (.inr (.inl ()))) (some (.inl (IntKind.i64.wrap (s0_ + 1))))) (some (.inr (.inr ())))

noncomputable def b_centoref07_Same (r_centoref07_Same : (S_api_Tree → S_api_Tree → Option Bool)) (a0 : S_api_Tree) (a1 : S_api_Tree) : Option Bool :=
  (cond (a0.Kind != a1.Kind) (some true) ((m_centoref01_Same a0.Words a1.Words).bind fun y3 => some (cond (cond (a0.Kind != a1.Kind) true (!y3)) true ((a0.Kids.length : Int) != (a1.Kids.length : Int))))).bind fun (z2 : Bool) => cond z2 (some false) ((runLoop (b_centoref07_Same_L0 r_centoref07_Same a0 a1) 0).bind fun (z13 : (Unit ⊕ Unit)) => match z13 with | .inl z13 => some false | .inr z13 => some true)

noncomputable def lv_centoref07_Same : Nat → (S_api_Tree → S_api_Tree → Option Bool)
  | 0 => (fun _ _ => none)
  | k + 1 => b_centoref07_Same ((lv_centoref07_Same k))

noncomputable def m_centoref07_Same (a0 : S_api_Tree) (a1 : S_api_Tree) : Option Bool := lim fun k => (lv_centoref07_Same k) a0 a1

noncomputable def m_centolaw31_awake  : Option Bool :=
  (m_centolaw31_awake_1 5).bind fun y3 => (m_centolaw31_awake_1 6).bind fun y4 => (m_path_Get (⟨1, ([1] : List Int), ([(⟨4, ([] : (List Int)), ([y3, y4] : List S_api_Tree)⟩ : S_api_Tree)] : List S_api_Tree)⟩ : S_api_Tree) ([(⟨0, 0⟩ : S_api_Step), (⟨0, 1⟩ : S_api_Step)] : List S_api_Step)).bind fun y6 => (m_path_Get (⟨1, ([1] : List Int), ([(⟨4, ([] : (List Int)), ([y3, y4] : List S_api_Tree)⟩ : S_api_Tree)] : List S_api_Tree)⟩ : S_api_Tree) ([(⟨1, 0⟩ : S_api_Step)] : List S_api_Step)).bind fun y8 => (m_path_Get (⟨1, ([1] : List Int), ([(⟨4, ([] : (List Int)), ([y3, y4] : List S_api_Tree)⟩ : S_api_Tree)] : List S_api_Tree)⟩ : S_api_Tree) ([(⟨0, 0⟩ : S_api_Step), (⟨2, 2⟩ : S_api_Step)] : List S_api_Step)).bind fun y10 => (cond y6.2 (cond y8.2 (cond y10.2 ((m_centolaw31_awake_1 6).bind fun y15 => (m_centoref07_Same y6.1 y15).bind fun y16 => cond y16 (cond (y8.1.Kind == 1) ((getI y8.1.Words 0).bind fun x17 => some (cond (cond (cond (cond (cond (cond (cond y6.2 y8.2 false) y10.2 false) y16 false) (y8.1.Kind == 1) false) (x17 == 1) false) (y10.1.Kind == 4) false) ((y10.1.Kids.length : Int) == 0) false)) (some false)) (some false)) (some false)) (some false)) (some false)).bind fun (z14 : Bool) => some z14

noncomputable def m_centoref07_Trim_L0 (a0 : (List Int)) (s0_ : Int) : Option (Int ⊕ Int) :=
  (cond (decide (0 < s0_)) ((getI a0 (IntKind.i64.wrap (s0_ - 1))).bind fun x3 => some (cond (decide (0 < s0_)) (x3 == 0) false)) (some false)).bind fun (z2 : Bool) => cond z2 (some (.inl (IntKind.i64.wrap (s0_ - 1)))) (some (.inr s0_))

noncomputable def m_centoref07_Trim (a0 : (List Int)) : Option (List Int) :=
  (runLoop (m_centoref07_Trim_L0 a0) (a0.length : Int)).bind fun (z6 : Int) => (subI a0 0 z6).bind fun l9 => (appI 8 ([] : List Int) l9).bind fun l10 => some l10

noncomputable def b_centoref07_Norm_L0 (r_centoref07_Norm : (S_api_Tree → Option S_api_Tree)) (a0 : S_api_Tree) (s0_ : (Int × Int × (List S_api_Tree))) : Option ((Int × Int × (List S_api_Tree)) ⊕ (Int × (List S_api_Tree))) :=
  cond (decide (s0_.2.1 < (a0.Kids.length : Int))) (((getI a0.Kids s0_.2.1).bind fun x4 => (r_centoref07_Norm x4).bind fun y5 => (appI 56 s0_.2.2 ([y5] : List S_api_Tree)).bind fun l7 => cond (y5.Kind != 0) (some ((IntKind.i64.wrap (s0_.2.1 + 1)), l7)) (some (s0_.1, l7))).bind fun (z1 : (Int × (List S_api_Tree))) => some (.inl (z1.1, (IntKind.i64.wrap (s0_.2.1 + 1)), z1.2))) (some (.inr (s0_.1, s0_.2.2)))

noncomputable def b_centoref07_Norm (r_centoref07_Norm : (S_api_Tree → Option S_api_Tree)) (a0 : S_api_Tree) : Option S_api_Tree :=
  cond (a0.Kind == 0) (some (⟨0, ([] : (List Int)), ([] : (List S_api_Tree))⟩ : S_api_Tree)) ((runLoop (b_centoref07_Norm_L0 r_centoref07_Norm a0) (0, 0, ([] : List S_api_Tree))).bind fun (z10 : (Int × (List S_api_Tree))) => cond (a0.Kind == 1) ((m_centoref07_Trim a0.Words).bind fun y14 => (subI z10.2 0 z10.1).bind fun l15 => some (⟨1, y14, l15⟩ : S_api_Tree)) ((appI 8 ([] : List Int) a0.Words).bind fun l17 => some (⟨a0.Kind, l17, z10.2⟩ : S_api_Tree)))

noncomputable def lv_centoref07_Norm : Nat → (S_api_Tree → Option S_api_Tree)
  | 0 => (fun _ => none)
  | k + 1 => b_centoref07_Norm ((lv_centoref07_Norm k))

noncomputable def m_centoref07_Norm (a0 : S_api_Tree) : Option S_api_Tree := lim fun k => (lv_centoref07_Norm k) a0

noncomputable def b_centoref31_Get (r_centoref31_Get : (S_api_Tree → (List S_api_Step) → Option (S_api_Tree × Bool))) (a0 : S_api_Tree) (a1 : (List S_api_Step)) : Option (S_api_Tree × Bool) :=
  cond ((a1.length : Int) == 0) ((m_centoref07_Norm a0).bind fun y2 => some (y2, true)) ((getI a1 0).bind fun x4 => cond (cond (decide (x4.At < 0)) true (cond (a0.Kind == 1) (decide (65535 ≤ x4.At)) false)) (some ((⟨0, ([] : (List Int)), ([] : (List S_api_Tree))⟩ : S_api_Tree), false)) ((cond (x4.Kind == 0) (cond (decide (x4.At < (a0.Kids.length : Int))) ((getI a0.Kids x4.At).bind fun x9 => (subI a1 1 (a1.length : Int)).bind fun l10 => (r_centoref31_Get x9 l10).bind fun y11 => some (.inr (y11.2, y11.1.Kind, y11.1.Words, y11.1.Kids))) (cond (a0.Kind == 1) ((subI a1 1 (a1.length : Int)).bind fun l14 => (r_centoref31_Get (⟨0, ([] : (List Int)), ([] : (List S_api_Tree))⟩ : S_api_Tree) l14).bind fun y15 => some (.inr (y15.2, y15.1.Kind, y15.1.Words, y15.1.Kids))) (some (.inl ())))) (cond (x4.Kind == 1) (cond (cond ((a1.length : Int) == 1) (a0.Kind == 1) false) (((cond (decide (x4.At < (a0.Words.length : Int))) ((getI a0.Words x4.At).bind fun x21 => some (cond (decide (x4.At < (a0.Words.length : Int))) (x21 != 0) false)) (some false)).bind fun (z20 : Bool) => cond z20 ((getI a0.Words x4.At).bind fun x23 => some ([x23] : List Int)) (some ([] : List Int))).bind fun (z18 : (List Int)) => some (.inr (true, 1, z18, ([] : (List S_api_Tree))))) (some (.inl ()))) (cond (x4.Kind == 2) (cond (cond (cond ((a1.length : Int) == 1) (cond (decide (2 ≤ a0.Kind)) (decide (a0.Kind ≤ 9)) false) false) (decide (x4.At ≤ (a0.Kids.length : Int))) false) (some (.inr (true, a0.Kind, ([] : (List Int)), ([] : (List S_api_Tree))))) (some (.inl ()))) (some (.inl ()))))).bind fun (z5 : (Unit ⊕ (Bool × Int × (List Int) × (List S_api_Tree)))) => match z5 with | .inl z5 => some ((⟨0, ([] : (List Int)), ([] : (List S_api_Tree))⟩ : S_api_Tree), false) | .inr z5 => some ((⟨z5.2.1, z5.2.2.1, z5.2.2.2⟩ : S_api_Tree), z5.1)))

noncomputable def lv_centoref31_Get : Nat → (S_api_Tree → (List S_api_Step) → Option (S_api_Tree × Bool))
  | 0 => (fun _ _ => none)
  | k + 1 => b_centoref31_Get ((lv_centoref31_Get k))

noncomputable def m_centoref31_Get (a0 : S_api_Tree) (a1 : (List S_api_Step)) : Option (S_api_Tree × Bool) := lim fun k => (lv_centoref31_Get k) a0 a1

noncomputable def m_centolaw31_PathGets (a0 : S_api_Tree) (a1 : (List S_api_Step)) : Option Bool :=
  ((m_centoref07_Few a0).bind fun y4 => cond y4 ((m_centoref07_Right a0 64).bind fun y5 => some (cond (!y4) true (!y5))) (some true)).bind fun (z3 : Bool) => cond z3 ((m_centolaw31_awake).bind fun y8 => some y8) ((m_path_Get a0 a1).bind fun y10 => (m_centoref31_Get a0 a1).bind fun y12 => (cond (y10.2 == y12.2) ((m_centoref07_Same y10.1 y12.1).bind fun y16 => cond y16 ((m_centolaw31_awake).bind fun y17 => some (cond (cond (y10.2 == y12.2) y16 false) y17 false)) (some false)) (some false)).bind fun (z15 : Bool) => some z15)

noncomputable def m_cmp_isNaN_int (a0 : Int) : Option Bool :=
  some (a0 != a0)

noncomputable def m_cmp_Compare_int (a0 : Int) (a1 : Int) : Option Int :=
  (m_cmp_isNaN_int a0).bind fun y2 => (m_cmp_isNaN_int a1).bind fun y4 => cond y2 (cond y4 (some 0) (some (-1))) (cond y4 (some 1) (cond (decide (a0 < a1)) (some (-1)) (cond (decide (a1 < a0)) (some 1) (some 0))))

noncomputable def m_cmp_Or_int_L0 (a0 : (List Int)) (s0_ : Int) : Option (Int ⊕ (Int ⊕ Unit)) :=
  cond (decide (s0_ < (a0.length : Int))) ((getI a0 s0_).bind fun x2 => cond (x2 != 0) (some (.inr (.inl x2))) (some (.inl (IntKind.i64.wrap (s0_ + 1))))) (some (.inr (.inr ())))

noncomputable def m_cmp_Or_int (a0 : (List Int)) : Option Int :=
  (runLoop (m_cmp_Or_int_L0 a0) 0).bind fun (z5 : (Int ⊕ Unit)) => match z5 with | .inl z5 => some z5 | .inr z5 => some 0

noncomputable def m_path_Compare_1 (a0 : S_api_Step) (a1 : S_api_Step) : Option Int :=
  cond ((a0.Kind == a1.Kind) && (a0.At == a1.At)) (some 0) ((m_cmp_Compare_int a0.Kind a1.Kind).bind fun y4 => (m_cmp_Compare_int a0.At a1.At).bind fun y5 => (m_cmp_Or_int ([y4, y5] : List Int)).bind fun y6 => some y6)

noncomputable def m_slices_CompareFunc_api_Step_api_Step_api_Step_api_Step_f80_L0 (a0 : (List S_api_Step)) (a1 : (List S_api_Step)) (s0_ : Int) : Option (Int ⊕ (Int ⊕ Unit)) :=
  cond (decide (s0_ < (a0.length : Int))) ((getI a0 s0_).bind fun x2 => cond (decide ((a1.length : Int) ≤ s0_)) (some (.inr (.inl 1))) ((getI a1 s0_).bind fun x4 => (m_path_Compare_1 x2 x4).bind fun y6 => cond (y6 != 0) (some (.inr (.inl y6))) (some (.inl (IntKind.i64.wrap (s0_ + 1)))))) (some (.inr (.inr ())))

noncomputable def m_slices_CompareFunc_api_Step_api_Step_api_Step_api_Step_f80 (a0 : (List S_api_Step)) (a1 : (List S_api_Step)) : Option Int :=
  (runLoop (m_slices_CompareFunc_api_Step_api_Step_api_Step_api_Step_f80_L0 a0 a1) 0).bind fun (z10 : (Int ⊕ Unit)) => match z10 with | .inl z10 => some z10 | .inr z10 => cond (decide ((a0.length : Int) < (a1.length : Int))) (some (-1)) (some 0)

noncomputable def m_path_Compare (a0 : (List S_api_Step)) (a1 : (List S_api_Step)) : Option Int :=
  (m_slices_CompareFunc_api_Step_api_Step_api_Step_api_Step_f80 a0 a1).bind fun y2 => some y2

noncomputable def m_centoref31_Compare_L0 (a0 : (List S_api_Step)) (a1 : (List S_api_Step)) (s0_ : Int) : Option (Int ⊕ (Int ⊕ Unit)) :=
  cond (cond (decide (s0_ < (a0.length : Int))) (decide (s0_ < (a1.length : Int))) false) ((getI a0 s0_).bind fun x5 => (getI a1 s0_).bind fun x7 => cond (x5.Kind != x7.Kind) ((getI a0 s0_).bind fun x13 => (getI a1 s0_).bind fun x15 => cond (decide (x13.Kind < x15.Kind)) (some (.inr (.inl (-1)))) (some (.inr (.inl 1)))) ((getI a0 s0_).bind fun x22 => (getI a1 s0_).bind fun x24 => cond (x22.At != x24.At) ((getI a0 s0_).bind fun x30 => (getI a1 s0_).bind fun x32 => cond (decide (x30.At < x32.At)) (some (.inr (.inl (-1)))) (some (.inr (.inl 1)))) (some (.inl (IntKind.i64.wrap (s0_ + 1)))))) (some (.inr (.inr ())))

noncomputable def m_centoref31_Compare (a0 : (List S_api_Step)) (a1 : (List S_api_Step)) : Option Int :=
  (runLoop (m_centoref31_Compare_L0 a0 a1) 0).bind fun (z38 : (Int ⊕ Unit)) => match z38 with | .inl z38 => some z38 | .inr z38 => cond ((a0.length : Int) == (a1.length : Int)) (some 0) (cond (decide ((a0.length : Int) < (a1.length : Int))) (some (-1)) (some 1))

noncomputable def m_centoref31_Same_L0 (a0 : (List S_api_Step)) (a1 : (List S_api_Step)) (s0_ : Int) : Option (Int ⊕ (Unit ⊕ Unit)) :=
  cond (decide (s0_ < (a0.length : Int))) ((getI a0 s0_).bind fun x3 => (getI a1 s0_).bind fun x4 => cond (!((x3.Kind == x4.Kind) && (x3.At == x4.At))) (some (.inr (.inl ()))) (some (.inl (IntKind.i64.wrap (s0_ + 1))))) (some (.inr (.inr ())))

noncomputable def m_centoref31_Same (a0 : (List S_api_Step)) (a1 : (List S_api_Step)) : Option Bool :=
  cond ((a0.length : Int) != (a1.length : Int)) (some false) ((runLoop (m_centoref31_Same_L0 a0 a1) 0).bind fun (z7 : (Unit ⊕ Unit)) => match z7 with | .inl z7 => some false | .inr z7 => some true)

noncomputable def m_centolaw31_PathCompares (a0 : (List S_api_Step)) (a1 : (List S_api_Step)) : Option Bool :=
  (m_path_Compare a0 a1).bind fun y2 => ((m_centoref31_Compare a0 a1).bind fun y8 => cond (y2 == y8) ((m_path_Compare a1 a0).bind fun y9 => cond (y9 == (IntKind.i64.wrap (0 - y2))) ((m_centoref31_Same a0 a1).bind fun y10 => cond ((y2 == 0) == y10) ((m_centolaw31_awake).bind fun y11 => some (cond (cond (cond (y2 == y8) (y9 == (IntKind.i64.wrap (0 - y2))) false) ((y2 == 0) == y10) false) y11 false)) (some false)) (some false)) (some false)).bind fun (z7 : Bool) => some z7

end Go.Proofs.Ytbcgiaijjaocdaa
