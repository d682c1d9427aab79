/- Part WD of this seat's mirrors: functions of the seat's program, and the plain functions that they are; each theorem bears its own conditions. -/
import Derived.Test.YtbcgiaijjaocdaaH24
namespace Go.Proofs.Ytbcgiaijjaocdaa
open Go.RowKit
set_option linter.unusedVariables false
set_option linter.unusedSimpArgs false
set_option maxRecDepth 100000
set_option maxHeartbeats 1000000
structure S_api_Tree where
  Kind : Int
  Words : (List Int)
  Kids : (List S_api_Tree)
noncomputable def b_centoref07_Shallow_L0 (r_centoref07_Shallow : (S_api_Tree → Int → Int → Option Int)) (a0 : S_api_Tree) (a1 : Int) (s0_ : (Int × Int)) : Option ((Int × Int) ⊕ Int) :=
  cond (cond (decide (s0_.2 < (a0.Kids.length : Int))) (decide (0 ≤ s0_.1)) false) ((getI a0.Kids s0_.2).bind fun x1 => (r_centoref07_Shallow x1 (IntKind.i64.wrap (a1 - 1)) s0_.1).bind fun y2 => some (.inl (y2, (IntKind.i64.wrap (s0_.2 + 1))))) (some (.inr s0_.1))
noncomputable def b_centoref07_Shallow (r_centoref07_Shallow : (S_api_Tree → Int → Int → Option Int)) (a0 : S_api_Tree) (a1 : Int) (a2 : Int) : Option Int :=
  cond (cond (a1 == 0) true (decide ((IntKind.i64.wrap ((IntKind.i64.wrap (a2 - 1)) - (a0.Words.length : Int))) < 0))) (some (-1)) ((runLoop (b_centoref07_Shallow_L0 r_centoref07_Shallow a0 a1) ((IntKind.i64.wrap ((IntKind.i64.wrap (a2 - 1)) - (a0.Words.length : Int))), 0)).bind fun (z4 : Int) => some z4)
noncomputable def lv_centoref07_Shallow : Nat → (S_api_Tree → Int → Int → Option Int)
  | 0 => (fun _ _ _ => none)
  | k + 1 => b_centoref07_Shallow ((lv_centoref07_Shallow k))
noncomputable def m_centoref07_Shallow (a0 : S_api_Tree) (a1 : Int) (a2 : Int) : Option Int := lim fun k => (lv_centoref07_Shallow k) a0 a1 a2
structure S_api_WordEdit where
  At : Int
  Mask : Int
  Old : Int
  New : Int
mutual
structure S_api_Edit where
  Kind : Int
  Old : S_api_Tree
  New : S_api_Tree
  Words : (List S_api_WordEdit)
  Kids : (List S_api_KidEdit)
  List_ : Int
  Ops : (List S_api_Op)
structure S_api_Op where
  Kind : Int
  N : Int
  L : (List S_api_Tree)
  E : S_api_Edit
structure S_api_KidEdit where
  At : Int
  E : S_api_Edit
end
noncomputable def b_centoref20_left_L0 (r_centoref20_left : (S_api_Edit → Int → Int → Option Int)) (a0 : S_api_Edit) (a1 : Int) (s0_ : (Int × Int)) : Option ((Int × Int) ⊕ Int) :=
  cond (cond (decide (s0_.2 < (a0.Kids.length : Int))) (decide (0 ≤ s0_.1)) false) ((getI a0.Kids s0_.2).bind fun x6 => (r_centoref20_left x6.E (IntKind.i64.wrap (a1 - 1)) s0_.1).bind fun y8 => some (.inl (y8, (IntKind.i64.wrap (s0_.2 + 1))))) (some (.inr s0_.1))
noncomputable def b_centoref20_left_L2 (a0 : S_api_Edit) (s1_ : (Int × Int)) (s2_ : (Int × Int)) : Option ((Int × Int) ⊕ Int) :=
  (getI a0.Ops s1_.2).bind fun x14 => cond (cond (decide (s2_.2 < (x14.L.length : Int))) (decide (0 ≤ s2_.1)) false) ((getI a0.Ops s1_.2).bind fun x16 => (getI x16.L s2_.2).bind fun x18 => (m_centoref07_Shallow x18 80 s2_.1).bind fun y19 => some (.inl (y19, (IntKind.i64.wrap (s2_.2 + 1))))) (some (.inr s2_.1))
noncomputable def b_centoref20_left_L1 (r_centoref20_left : (S_api_Edit → Int → Int → Option Int)) (a0 : S_api_Edit) (a1 : Int) (s1_ : (Int × Int)) : Option ((Int × Int) ⊕ Int) :=
  cond (cond (decide (s1_.2 < (a0.Ops.length : Int))) (decide (0 ≤ s1_.1)) false) (((runLoop (b_centoref20_left_L2 a0 s1_) (s1_.1, 0)).bind fun (z21 : Int) => cond (decide (0 ≤ z21)) ((getI a0.Ops s1_.2).bind fun x22 => (r_centoref20_left x22.E (IntKind.i64.wrap (a1 - 1)) z21).bind fun y24 => some y24) (some z21)).bind fun (z11 : Int) => some (.inl (z11, (IntKind.i64.wrap (s1_.2 + 1))))) (some (.inr s1_.1))
noncomputable def b_centoref20_left (r_centoref20_left : (S_api_Edit → Int → Int → Option Int)) (a0 : S_api_Edit) (a1 : Int) (a2 : Int) : Option Int :=
  cond (cond (a1 == 0) true (decide ((IntKind.i64.wrap ((IntKind.i64.wrap ((IntKind.i64.wrap (a2 - 1)) - (a0.Words.length : Int))) - (a0.Ops.length : Int))) < 0))) (some (-1)) ((m_centoref07_Shallow a0.Old 80 (IntKind.i64.wrap ((IntKind.i64.wrap ((IntKind.i64.wrap (a2 - 1)) - (a0.Words.length : Int))) - (a0.Ops.length : Int)))).bind fun y2 => (cond (decide (0 ≤ y2)) ((m_centoref07_Shallow a0.New 80 y2).bind fun y4 => some y4) (some y2)).bind fun (z3 : Int) => (runLoop (b_centoref20_left_L0 r_centoref20_left a0 a1) (z3, 0)).bind fun (z10 : Int) => (runLoop (b_centoref20_left_L1 r_centoref20_left a0 a1) (z10, 0)).bind fun (z27 : Int) => some z27)
noncomputable def lv_centoref20_left : Nat → (S_api_Edit → Int → Int → Option Int)
  | 0 => (fun _ _ _ => none)
  | k + 1 => b_centoref20_left ((lv_centoref20_left k))
noncomputable def m_centoref20_left (a0 : S_api_Edit) (a1 : Int) (a2 : Int) : Option Int := lim fun k => (lv_centoref20_left k) a0 a1 a2
noncomputable def m_centoref20_Few (a0 : S_api_Edit) : Option Bool :=
  (m_centoref20_left a0 80 3000).bind fun y2 => some (decide (0 ≤ y2))
noncomputable def m_centoref20_none (a0 : S_api_Tree) : Option Bool :=
  some (cond (a0.Kind == 0) ((IntKind.i64.wrap ((a0.Words.length : Int) + (a0.Kids.length : Int))) == 0) false)
noncomputable def m_centoref01_Width (a0 : Int) : Option Int :=
  cond (a0 == 0) (some 0) (cond (a0 == 1) (some 1) (cond (a0 == 2) (some 8) (cond (a0 == 3) (some 16) (cond (a0 == 4) (some 32) (cond (a0 == 5) (some 64) (some (-1)))))))
noncomputable def m_centoref01_Fits_L0 (y2 : Int) (s0_ : (Int × Int)) : Option ((Int × Int) ⊕ Int) :=
  cond (decide (s0_.2 < y2)) (some (.inl ((IntKind.u64.wrap (Int.tdiv s0_.1 2)), (IntKind.i64.wrap (s0_.2 + 1))))) (some (.inr s0_.1))
noncomputable def m_centoref01_Fits (a0 : Int) (a1 : Int) : Option Bool :=
  (m_centoref01_Width a0).bind fun y2 => cond (decide (y2 < 0)) (some false) ((runLoop (m_centoref01_Fits_L0 y2) (a1, 0)).bind fun (z4 : Int) => some (z4 == 0))
noncomputable def b_centoref07_Right_L0 (r_centoref07_Right : (S_api_Tree → Int → Option Bool)) (a0 : S_api_Tree) (a1 : Int) (s0_ : Int) : Option (Int ⊕ (Unit ⊕ Unit)) :=
  cond (decide (s0_ < (a0.Kids.length : Int))) ((getI a0.Kids s0_).bind fun x2 => (r_centoref07_Right x2 (IntKind.i64.wrap (a1 - 1))).bind fun y4 => cond (!y4) (some (.inr (.inl ()))) ((cond ((cond (decide (2 ≤ a0.Kind)) (decide (a0.Kind ≤ 7)) false) != (x2.Kind == 10)) (some true) (cond (a0.Kind == 9) (cond (x2.Kind != 1) (some true) (cond (decide (2 ≤ a0.Kind)) (cond (decide (a0.Kind ≤ 7)) ((getI x2.Words 0).bind fun x14 => (m_centoref01_Fits (IntKind.i64.wrap (a0.Kind - 2)) x14).bind fun y15 => some (cond (cond ((cond (decide (2 ≤ a0.Kind)) (decide (a0.Kind ≤ 7)) false) != (x2.Kind == 10)) true (cond (a0.Kind == 9) (x2.Kind != 1) false)) true (cond (cond (decide (2 ≤ a0.Kind)) (decide (a0.Kind ≤ 7)) false) (!y15) false))) (some (cond (cond ((cond (decide (2 ≤ a0.Kind)) (decide (a0.Kind ≤ 7)) false) != (x2.Kind == 10)) true (cond (a0.Kind == 9) (x2.Kind != 1) false)) true false))) (some (cond (cond ((cond (decide (2 ≤ a0.Kind)) (decide (a0.Kind ≤ 7)) false) != (x2.Kind == 10)) true (cond (a0.Kind == 9) (x2.Kind != 1) false)) true false)))) (cond (decide (2 ≤ a0.Kind)) (cond (decide (a0.Kind ≤ 7)) ((getI x2.Words 0).bind fun x16 => (m_centoref01_Fits (IntKind.i64.wrap (a0.Kind - 2)) x16).bind fun y17 => some (cond (cond ((cond (decide (2 ≤ a0.Kind)) (decide (a0.Kind ≤ 7)) false) != (x2.Kind == 10)) true (cond (a0.Kind == 9) (x2.Kind != 1) false)) true (cond (cond (decide (2 ≤ a0.Kind)) (decide (a0.Kind ≤ 7)) false) (!y17) false))) (some (cond (cond ((cond (decide (2 ≤ a0.Kind)) (decide (a0.Kind ≤ 7)) false) != (x2.Kind == 10)) true (cond (a0.Kind == 9) (x2.Kind != 1) false)) true false))) (some (cond (cond ((cond (decide (2 ≤ a0.Kind)) (decide (a0.Kind ≤ 7)) false) != (x2.Kind == 10)) true (cond (a0.Kind == 9) (x2.Kind != 1) false)) true false))))).bind fun (z9 : Bool) => cond z9 (some (.inr (.inl ()))) (some (.inl (IntKind.i64.wrap (s0_ + 1)))))) (some (.inr (.inr ())))
noncomputable def b_centoref07_Right (r_centoref07_Right : (S_api_Tree → Int → Option Bool)) (a0 : S_api_Tree) (a1 : Int) : Option Bool :=
  cond (a0.Kind == 0) (some (cond ((a0.Words.length : Int) == 0) ((a0.Kids.length : Int) == 0) false)) (cond (a0.Kind == 10) (some (cond ((a0.Words.length : Int) == 1) ((a0.Kids.length : Int) == 0) false)) (cond (cond (cond (cond (cond (cond (decide (a0.Kind < 0)) true (decide (10 < a0.Kind))) true (a1 == 0)) true (decide (65536 ≤ (a0.Words.length : Int)))) true (cond (a0.Kind == 1) (decide (65536 ≤ (a0.Kids.length : Int))) false)) true (decide (1048576 ≤ (a0.Kids.length : Int)))) (some false) (cond (cond (decide (1 < a0.Kind)) (decide (0 < (a0.Words.length : Int))) false) (some false) ((runLoop (b_centoref07_Right_L0 r_centoref07_Right a0 a1) 0).bind fun (z28 : (Unit ⊕ Unit)) => match z28 with | .inl z28 => some false | .inr z28 => some true))))
noncomputable def lv_centoref07_Right : Nat → (S_api_Tree → Int → Option Bool)
  | 0 => (fun _ _ => none)
  | k + 1 => b_centoref07_Right ((lv_centoref07_Right k))
noncomputable def m_centoref07_Right (a0 : S_api_Tree) (a1 : Int) : Option Bool := lim fun k => (lv_centoref07_Right k) a0 a1
noncomputable def m_centoref01_Bytes_L0 (s0_ : (Int × Int × (Arr Int 8))) : Option ((Int × Int × (Arr Int 8)) ⊕ (Arr Int 8)) :=
  cond (decide (s0_.2.1 < 8)) ((getI s0_.2.2.1 s0_.2.1).bind fun x15 => some (.inl ((IntKind.u64.wrap (Int.tdiv s0_.1 256)), (IntKind.i64.wrap (s0_.2.1 + 1)), (Arr.put s0_.2.2 s0_.2.1 (IntKind.u8.wrap (Int.tmod s0_.1 256)))))) (some (.inr s0_.2.2))
noncomputable def m_centoref01_Bytes (a0 : Int) : Option (Arr Int 8) :=
  ((some (⟨[0, 0, 0, 0, 0, 0, 0, 0], rfl⟩ : (Arr Int 8)))).bind fun y3 => ((some (⟨[0, 0, 0, 0, 0, 0, 0, 0], rfl⟩ : (Arr Int 8)))).bind fun y9 => (runLoop (m_centoref01_Bytes_L0) (a0, 0, y9)).bind fun (z18 : (Arr Int 8)) => some z18
noncomputable def m_centoref01_Named_L0 (a1 : Int) (s0_ : (Int × Int)) : Option ((Int × Int) ⊕ Int) :=
  cond (decide (s0_.2 < a1)) (some (.inl ((IntKind.u8.wrap (Int.tdiv s0_.1 2)), (IntKind.i64.wrap (s0_.2 + 1))))) (some (.inr s0_.1))
noncomputable def m_centoref01_Named (a0 : Int) (a1 : Int) : Option Bool :=
  (runLoop (m_centoref01_Named_L0 a1) (a0, 0)).bind fun (z2 : Int) => some ((Int.tmod z2 2) == 1)
noncomputable def m_centoref01_Of_L0 (a0 : (List Int)) (a1 : Int) (s0_ : (Int × Int)) : Option ((Int × Int) ⊕ Int) :=
  cond (decide (0 ≤ s0_.2)) ((getI a0 (IntKind.i64.wrap (a1 + s0_.2))).bind fun x1 => some (.inl ((IntKind.u64.wrap ((IntKind.u64.wrap (s0_.1 * 256)) + (IntKind.u64.wrap x1))), (IntKind.i64.wrap (s0_.2 - 1))))) (some (.inr s0_.1))
noncomputable def m_centoref01_Of (a0 : (List Int)) (a1 : Int) : Option Int :=
  (runLoop (m_centoref01_Of_L0 a0 a1) (0, 7)).bind fun (z3 : Int) => some z3
noncomputable def m_centoref01_Mix_L0 (a2 : Int) (y9 : (Arr Int 8)) (s0_ : (Int × (Arr Int 8))) : Option ((Int × (Arr Int 8)) ⊕ (Arr Int 8)) :=
  cond (decide (s0_.1 < 8)) (((m_centoref01_Named a2 s0_.1).bind fun y17 => cond y17 ((getI y9.1 s0_.1).bind fun x18 => (getI s0_.2.1 s0_.1).bind fun x19 => some (Arr.put s0_.2 s0_.1 x18)) (some s0_.2)).bind fun (z15 : (Arr Int 8)) => some (.inl ((IntKind.i64.wrap (s0_.1 + 1)), z15))) (some (.inr s0_.2))
noncomputable def m_centoref01_Mix (a0 : Int) (a1 : Int) (a2 : Int) : Option Int :=
  (m_centoref01_Bytes a0).bind fun y8 => (m_centoref01_Bytes a1).bind fun y9 => ((some (⟨[0, 0, 0, 0, 0, 0, 0, 0], rfl⟩ : (Arr Int 8)))).bind fun y10 => (runLoop (m_centoref01_Mix_L0 a2 y9) (0, y8)).bind fun (z23 : (Arr Int 8)) => (m_centoref01_Of z23.1 0).bind fun y29 => some y29
noncomputable def m_centoref20_within (a0 : Int) (a1 : Int) : Option Bool :=
  (m_centoref01_Mix a0 0 a1).bind fun y2 => some (y2 == 0)
noncomputable def m_centoref20_same (a0 : S_api_Edit) : Option Bool :=
  (cond (a0.Kind == 0) ((m_centoref20_none a0.Old).bind fun y6 => cond y6 ((m_centoref20_none a0.New).bind fun y7 => some (cond (cond (cond (cond (a0.Kind == 0) y6 false) y7 false) ((IntKind.i64.wrap ((IntKind.i64.wrap ((a0.Words.length : Int) + (a0.Kids.length : Int))) + (a0.Ops.length : Int))) == 0) false) (a0.List_ == 0) false)) (some false)) (some false)).bind fun (z3 : Bool) => some z3
noncomputable def m_centoref20_Lengths_L0 (a0 : S_api_Edit) (s0_ : (Int × Int × Int)) : Option ((Int × Int × Int) ⊕ (Int × Int)) :=
  cond (decide (s0_.2.2 < (a0.Ops.length : Int))) (((getI a0.Ops s0_.2.2).bind fun x3 => (cond (x3.Kind == 3) (some 1) (some (IntKind.i64.wrap (x3.N + (x3.L.length : Int))))).bind fun (z4 : Int) => (cond (x3.Kind != 2) (some (IntKind.i64.wrap (s0_.1 + z4))) (some s0_.1)).bind fun (z6 : Int) => (cond (x3.Kind != 1) (some (IntKind.i64.wrap (s0_.2.1 + z4))) (some s0_.2.1)).bind fun (z8 : Int) => (cond (decide (1048576 < z6)) (some 1048576) (some z6)).bind fun (z10 : Int) => cond (decide (1048576 < z8)) (some (z10, 1048576)) (some (z10, z8))).bind fun (z1 : (Int × Int)) => some (.inl (z1.1, z1.2, (IntKind.i64.wrap (s0_.2.2 + 1))))) (some (.inr (s0_.1, s0_.2.1)))
noncomputable def m_centoref20_Lengths (a0 : S_api_Edit) : Option (Int × Int) :=
  (runLoop (m_centoref20_Lengths_L0 a0) (0, 0, 0)).bind fun (z14 : (Int × Int)) => some (z14.1, z14.2)
noncomputable def b_centoref20_Right_L0 (a0 : S_api_Edit) (s0_ : (Int × Int)) : Option ((Int × Int) ⊕ (Unit ⊕ Unit)) :=
  cond (decide (s0_.2 < (a0.Words.length : Int))) ((getI a0.Words s0_.2).bind fun x19 => (cond (decide (x19.At ≤ s0_.1)) (some true) (cond (decide (65534 < x19.At)) (some true) (cond (x19.Mask == 0) (some true) ((m_centoref20_within x19.Old x19.Mask).bind fun y25 => cond y25 ((m_centoref20_within x19.New x19.Mask).bind fun y26 => some (cond (cond (cond (cond (decide (x19.At ≤ s0_.1)) true (decide (65534 < x19.At))) true (x19.Mask == 0)) true (!y25)) true (!y26))) (some true))))).bind fun (z22 : Bool) => cond z22 (some (.inr (.inl ()))) (some (.inl (x19.At, (IntKind.i64.wrap (s0_.2 + 1)))))) (some (.inr (.inr ())))
noncomputable def b_centoref20_Right_L1 (r_centoref20_Right : (S_api_Edit → Int → Option Bool)) (a0 : S_api_Edit) (a1 : Int) (s1_ : (Int × Int)) : Option ((Int × Int) ⊕ (Unit ⊕ Unit)) :=
  cond (decide (s1_.2 < (a0.Kids.length : Int))) ((getI a0.Kids s1_.2).bind fun x35 => (cond (decide (x35.At ≤ s1_.1)) (some true) (cond (decide (65534 < x35.At)) (some true) (cond (x35.E.Kind == 0) (some true) ((r_centoref20_Right x35.E (IntKind.i64.wrap (a1 - 1))).bind fun y39 => some (cond (cond (cond (decide (x35.At ≤ s1_.1)) true (decide (65534 < x35.At))) true (x35.E.Kind == 0)) true (!y39)))))).bind fun (z37 : Bool) => cond z37 (some (.inr (.inl ()))) (some (.inl (x35.At, (IntKind.i64.wrap (s1_.2 + 1)))))) (some (.inr (.inr ())))
noncomputable def b_centoref20_Right_L2 (r_centoref20_op : (Int → S_api_Op → Int → Option Bool)) (a0 : S_api_Edit) (a1 : Int) (s2_ : Int) : Option (Int ⊕ (Unit ⊕ Unit)) :=
  cond (decide (s2_ < (a0.Ops.length : Int))) ((getI a0.Ops s2_).bind fun x48 => (r_centoref20_op a0.List_ x48 (IntKind.i64.wrap (a1 - 1))).bind fun y49 => cond (!y49) (some (.inr (.inl ()))) (some (.inl (IntKind.i64.wrap (s2_ + 1))))) (some (.inr (.inr ())))
noncomputable def b_centoref20_Right (r_centoref20_Right : (S_api_Edit → Int → Option Bool)) (r_centoref20_op : (Int → S_api_Op → Int → Option Bool)) (a0 : S_api_Edit) (a1 : Int) : Option Bool :=
  cond (cond (cond (a1 == 0) true (decide (a0.Kind < 0))) true (decide (3 < a0.Kind))) (some false) ((cond (a0.Kind != 1) ((m_centoref20_none a0.Old).bind fun y6 => cond y6 ((m_centoref20_none a0.New).bind fun y7 => some (cond (cond (cond (a0.Kind != 1) (!(cond y6 y7 false)) false) true (cond (a0.Kind != 2) (decide (0 < (IntKind.i64.wrap ((a0.Words.length : Int) + (a0.Kids.length : Int))))) false)) true (cond (a0.Kind != 3) (cond (a0.List_ != 0) true (decide (0 < (a0.Ops.length : Int)))) false))) (some true)) (some (cond (cond (a0.Kind != 2) (decide (0 < (IntKind.i64.wrap ((a0.Words.length : Int) + (a0.Kids.length : Int))))) false) true (cond (a0.Kind != 3) (cond (a0.List_ != 0) true (decide (0 < (a0.Ops.length : Int)))) false)))).bind fun (z3 : Bool) => cond z3 (some false) (cond (a0.Kind == 1) (((m_centoref07_Right a0.Old 64).bind fun y15 => cond y15 ((m_centoref07_Right a0.New 64).bind fun y16 => some (cond (cond (cond y15 y16 false) (a0.Old.Kind != 10) false) (a0.New.Kind != 10) false)) (some false)).bind fun (z12 : Bool) => some z12) ((runLoop (b_centoref20_Right_L0 a0) ((-1), 0)).bind fun (z33 : (Unit ⊕ Unit)) => match z33 with | .inl z33 => some false | .inr z33 => (runLoop (b_centoref20_Right_L1 r_centoref20_Right a0 a1) ((-1), 0)).bind fun (z45 : (Unit ⊕ Unit)) => match z45 with | .inl z45 => some false | .inr z45 => cond (cond (a0.Kind == 3) (cond (decide (a0.List_ < 2)) true (decide (9 < a0.List_))) false) (some false) ((runLoop (b_centoref20_Right_L2 r_centoref20_op a0 a1) 0).bind fun (z52 : (Unit ⊕ Unit)) => match z52 with | .inl z52 => some false | .inr z52 => (m_centoref20_Lengths a0).bind fun y54 => some (cond (decide (y54.1 < 1048576)) (decide (y54.2 < 1048576)) false)))))
noncomputable def b_centoref20_op_L0 (a0 : Int) (a1 : S_api_Op) (s0_ : Int) : Option (Int ⊕ (Unit ⊕ Unit)) :=
  cond (decide (s0_ < (a1.L.length : Int))) ((subI a1.L s0_ (IntKind.i64.wrap (s0_ + 1))).bind fun l10 => (m_centoref07_Right (⟨a0, [], l10⟩ : S_api_Tree) 64).bind fun y11 => cond (!y11) (some (.inr (.inl ()))) (some (.inl (IntKind.i64.wrap (s0_ + 1))))) (some (.inr (.inr ())))
noncomputable def b_centoref20_op (r_centoref20_Right : (S_api_Edit → Int → Option Bool)) (r_centoref20_op : (Int → S_api_Op → Int → Option Bool)) (a0 : Int) (a1 : S_api_Op) (a2 : Int) : Option Bool :=
  cond (a1.Kind == 0) ((cond (decide (1 ≤ a1.N)) (cond (decide (a1.N ≤ 1048576)) (cond ((a1.L.length : Int) == 0) ((m_centoref20_same a1.E).bind fun y4 => some (cond (cond (cond (decide (1 ≤ a1.N)) (decide (a1.N ≤ 1048576)) false) ((a1.L.length : Int) == 0) false) y4 false)) (some false)) (some false)) (some false)).bind fun (z2 : Bool) => some z2) (cond (cond (cond (a1.N != 0) true (decide (a1.Kind < 0))) true (decide (3 < a1.Kind))) (some false) (cond (decide (a1.Kind < 3)) ((runLoop (b_centoref20_op_L0 a0 a1) 0).bind fun (z14 : (Unit ⊕ Unit)) => match z14 with | .inl z14 => some false | .inr z14 => (cond (decide (0 < (a1.L.length : Int))) ((m_centoref20_same a1.E).bind fun y18 => some (cond (decide (0 < (a1.L.length : Int))) y18 false)) (some false)).bind fun (z16 : Bool) => some z16) ((cond (decide (0 < (a1.L.length : Int))) (some true) (cond (a1.E.Kind == 0) (some true) (cond (decide (a0 ≤ 7)) (some true) ((r_centoref20_Right a1.E a2).bind fun y23 => some (cond (cond (cond (decide (0 < (a1.L.length : Int))) true (a1.E.Kind == 0)) true (decide (a0 ≤ 7))) true (!y23)))))).bind fun (z21 : Bool) => cond z21 (some false) (some (cond (cond (a0 == 8) true (a1.E.Kind == 2)) true (cond (cond (a1.E.Kind == 1) (a1.E.Old.Kind == 1) false) (a1.E.New.Kind == 1) false))))))
noncomputable def lv_centoref20_Right : Nat → ((S_api_Edit → Int → Option Bool) × (Int → S_api_Op → Int → Option Bool))
  | 0 => ((fun _ _ => none), (fun _ _ _ => none))
  | k + 1 => (b_centoref20_Right ((lv_centoref20_Right k).1) ((lv_centoref20_Right k).2), b_centoref20_op ((lv_centoref20_Right k).1) ((lv_centoref20_Right k).2))
noncomputable def m_centoref20_Right (a0 : S_api_Edit) (a1 : Int) : Option Bool := lim fun k => (lv_centoref20_Right k).1 a0 a1
noncomputable def b_centoref20_Light_L0 (r_centoref20_Light : (S_api_Edit → Option Bool)) (a0 : S_api_Edit) (s0_ : Int) : Option (Int ⊕ (Unit ⊕ Unit)) :=
  cond (decide (s0_ < (a0.Kids.length : Int))) ((getI a0.Kids s0_).bind fun x6 => (r_centoref20_Light x6.E).bind fun y8 => cond (!y8) (some (.inr (.inl ()))) (some (.inl (IntKind.i64.wrap (s0_ + 1))))) (some (.inr (.inr ())))
noncomputable def b_centoref20_Light_L1 (r_centoref20_Light : (S_api_Edit → Option Bool)) (a0 : S_api_Edit) (s1_ : Int) : Option (Int ⊕ (Unit ⊕ Unit)) :=
  cond (decide (s1_ < (a0.Ops.length : Int))) ((getI a0.Ops s1_).bind fun x15 => (r_centoref20_Light x15.E).bind fun y17 => cond (!y17) (some (.inr (.inl ()))) (some (.inl (IntKind.i64.wrap (s1_ + 1))))) (some (.inr (.inr ())))
noncomputable def b_centoref20_Light (r_centoref20_Light : (S_api_Edit → Option Bool)) (a0 : S_api_Edit) : Option Bool :=
  (m_centoref20_Lengths a0).bind fun y2 => cond (cond (decide (2000 < y2.1)) true (decide (2000 < y2.2))) (some false) ((runLoop (b_centoref20_Light_L0 r_centoref20_Light a0) 0).bind fun (z11 : (Unit ⊕ Unit)) => match z11 with | .inl z11 => some false | .inr z11 => (runLoop (b_centoref20_Light_L1 r_centoref20_Light a0) 0).bind fun (z20 : (Unit ⊕ Unit)) => match z20 with | .inl z20 => some false | .inr z20 => some true)
noncomputable def lv_centoref20_Light : Nat → (S_api_Edit → Option Bool)
  | 0 => (fun _ => none)
  | k + 1 => b_centoref20_Light ((lv_centoref20_Light k))
noncomputable def m_centoref20_Light (a0 : S_api_Edit) : Option Bool := lim fun k => (lv_centoref20_Light k) a0
noncomputable def m_centoref20_Good (a0 : S_api_Edit) : Option Bool :=
  ((m_centoref20_Few a0).bind fun y8 => cond y8 ((m_centoref20_Right a0 64).bind fun y9 => cond y9 ((m_centoref20_Light a0).bind fun y10 => some (cond (cond y8 y9 false) y10 false)) (some false)) (some false)).bind fun (z4 : Bool) => some z4
noncomputable def m_centolaw24_steps (a0 : (List S_api_Op)) : Option Bool :=
  ((m_centoref20_Good (⟨3, ⟨0, [], []⟩, ⟨0, [], []⟩, [], [], 8, a0⟩ : S_api_Edit)).bind fun y6 => cond y6 (some true) ((m_centoref20_Good (⟨3, ⟨0, [], []⟩, ⟨0, [], []⟩, [], [], 4, a0⟩ : S_api_Edit)).bind fun y7 => some (cond y6 true y7))).bind fun (z3 : Bool) => some z3
noncomputable def m_align_kids (a0 : S_api_Op) : Option Int :=
  cond (a0.Kind == 0) (some a0.N) ((cond (a0.Kind == 1) (some (a0.Kind == 1)) (some (a0.Kind == 2))).bind fun (z1 : Bool) => cond z1 (some (a0.L.length : Int)) (some 1))
structure S_align_cursor where
  left : (List S_api_Op)
  gone : Int
noncomputable def m_align_cursor_next_L0 (s0_ : ((List S_api_Op) × Int)) : Option (((List S_api_Op) × Int) ⊕ ((Int × Int × (List S_api_Op) × Int) ⊕ ((List S_api_Op) × Int))) :=
  cond (decide (0 < (s0_.1.length : Int))) ((getI s0_.1 0).bind fun x3 => (m_align_kids x3).bind fun y4 => cond (decide (0 < (IntKind.i64.wrap (y4 - s0_.2)))) ((getI s0_.1 0).bind fun x7 => some (.inr (.inl (x7.Kind, (IntKind.i64.wrap (y4 - s0_.2)), s0_.1, s0_.2)))) ((subI s0_.1 1 (s0_.1.length : Int)).bind fun l9 => some (.inl (l9, 0)))) (some (.inr (.inr (s0_.1, s0_.2))))
noncomputable def m_align_cursor_next (a0 : S_align_cursor) : Option (Int × Int × S_align_cursor) :=
  (runLoop (m_align_cursor_next_L0) (a0.left, a0.gone)).bind fun (z12 : ((Int × Int × (List S_api_Op) × Int) ⊕ ((List S_api_Op) × Int))) => match z12 with | .inl z12 => some (z12.1, z12.2.1, (⟨z12.2.2.1, z12.2.2.2⟩ : S_align_cursor)) | .inr z12 => some (0, 0, (⟨z12.1, z12.2⟩ : S_align_cursor))
noncomputable def m_align_cursor_take (a0 : S_align_cursor) (a1 : Int) : Option (S_api_Op × S_align_cursor) :=
  (getI a0.left 0).bind fun x2 => (cond (x2.Kind == 0) (some (a1, x2.L)) ((cond (x2.Kind == 1) (some (x2.Kind == 1)) (some (x2.Kind == 2))).bind fun (z4 : Bool) => cond z4 ((subI x2.L a0.gone (IntKind.i64.wrap (a0.gone + a1))).bind fun l6 => some (x2.N, l6)) (some (x2.N, x2.L)))).bind fun (z3 : (Int × (List S_api_Tree))) => some ((⟨x2.Kind, z3.1, z3.2, x2.E⟩ : S_api_Op), (⟨a0.left, (IntKind.i64.wrap (a0.gone + a1))⟩ : S_align_cursor))
structure S_align_Piece where
  Of : Int
  P : S_api_Op
  Q : S_api_Op
noncomputable def m_align_pieces_L0 (a2 : Int) (a3 : Int) (s0_ : ((List S_api_Op) × Int × (List S_api_Op) × Int × (List S_align_Piece))) : Option (((List S_api_Op) × Int × (List S_api_Op) × Int × (List S_align_Piece)) ⊕ ((List S_align_Piece) × Bool)) :=
  (m_align_cursor_next (⟨s0_.1, s0_.2.1⟩ : S_align_cursor)).bind fun y2 => (m_align_cursor_next (⟨s0_.2.2.1, s0_.2.2.2.1⟩ : S_align_cursor)).bind fun y4 => cond (cond (decide (0 < y2.2.1)) (y2.1 == a2) false) ((m_align_cursor_take y2.2.2 y2.2.1).bind fun y5 => (appI 488 s0_.2.2.2.2 ([(⟨1, y5.1, ⟨0, 0, [], ⟨0, ⟨0, [], []⟩, ⟨0, [], []⟩, [], [], 0, []⟩⟩⟩ : S_align_Piece)] : List S_align_Piece)).bind fun l6 => some (.inl (y5.2.left, y5.2.gone, y4.2.2.left, y4.2.2.gone, l6))) (cond (cond (decide (0 < y4.2.1)) (y4.1 == a3) false) ((m_align_cursor_take y4.2.2 y4.2.1).bind fun y7 => (appI 488 s0_.2.2.2.2 ([(⟨2, ⟨0, 0, [], ⟨0, ⟨0, [], []⟩, ⟨0, [], []⟩, [], [], 0, []⟩⟩, y7.1⟩ : S_align_Piece)] : List S_align_Piece)).bind fun l8 => some (.inl (y2.2.2.left, y2.2.2.gone, y7.2.left, y7.2.gone, l8))) (cond (cond (y2.2.1 == 0) (y4.2.1 == 0) false) (some (.inr (s0_.2.2.2.2, true))) (cond (cond (y2.2.1 == 0) true (y4.2.1 == 0)) (some (.inr (([] : (List S_align_Piece)), false))) ((m_align_cursor_take y2.2.2 (if y4.2.1 < y2.2.1 then y4.2.1 else y2.2.1)).bind fun y9 => (m_align_cursor_take y4.2.2 (if y4.2.1 < y2.2.1 then y4.2.1 else y2.2.1)).bind fun y10 => (appI 488 s0_.2.2.2.2 ([(⟨0, y9.1, y10.1⟩ : S_align_Piece)] : List S_align_Piece)).bind fun l11 => some (.inl (y9.2.left, y9.2.gone, y10.2.left, y10.2.gone, l11))))))
noncomputable def m_align_pieces (a0 : (List S_api_Op)) (a1 : (List S_api_Op)) (a2 : Int) (a3 : Int) : Option ((List S_align_Piece) × Bool) :=
  (runLoop (m_align_pieces_L0 a2 a3) (a0, 0, a1, 0, ([] : List S_align_Piece))).bind fun (z16 : ((List S_align_Piece) × Bool)) => some (z16.1, z16.2)
noncomputable def m_align_Through (a0 : (List S_api_Op)) (a1 : (List S_api_Op)) : Option ((List S_align_Piece) × Bool) :=
  (m_align_pieces a0 a1 2 2).bind fun y2 => some (y2.1, y2.2)
noncomputable def m_centolaw24_awake  : Option Bool :=
  (m_align_Through ([(⟨0, 3, [], ⟨0, ⟨0, [], []⟩, ⟨0, [], []⟩, [], [], 0, []⟩⟩ : S_api_Op)] : List S_api_Op) ([(⟨0, 1, [], ⟨0, ⟨0, [], []⟩, ⟨0, [], []⟩, [], [], 0, []⟩⟩ : S_api_Op), (⟨2, 0, ([(⟨10, ([1] : List Int), []⟩ : S_api_Tree)] : List S_api_Tree), ⟨0, ⟨0, [], []⟩, ⟨0, [], []⟩, [], [], 0, []⟩⟩ : S_api_Op), (⟨0, 2, [], ⟨0, ⟨0, [], []⟩, ⟨0, [], []⟩, [], [], 0, []⟩⟩ : S_api_Op)] : List S_api_Op)).bind fun y2 => (cond y2.2 (cond ((y2.1.length : Int) == 3) ((getI y2.1 0).bind fun x28 => cond (x28.Of == 0) (cond (x28.P.N == 1) ((getI y2.1 1).bind fun x32 => cond (x32.Of == 2) (cond ((x32.Q.L.length : Int) == 1) ((getI y2.1 2).bind fun x36 => cond (x36.Q.N == 2) (some (cond (cond (cond (cond (cond (cond (cond y2.2 ((y2.1.length : Int) == 3) false) (x28.Of == 0) false) (x28.P.N == 1) false) (x32.Of == 2) false) ((x32.Q.L.length : Int) == 1) false) (x36.Q.N == 2) false) (x36.P.N == 2) false)) (some false)) (some false)) (some false)) (some false)) (some false)) (some false)) (some false)).bind fun (z15 : Bool) => some z15
structure S_centoref24_Unit where
  Step : Int
  Kind : Int
  T : S_api_Tree
  E : S_api_Edit
  Alone : Bool
noncomputable def m_centoref24_Units_L1 (s0_ : (Int × (List S_centoref24_Unit))) (x3 : S_api_Op) (s1_ : (Int × (List S_centoref24_Unit))) : Option ((Int × (List S_centoref24_Unit)) ⊕ (List S_centoref24_Unit)) :=
  cond (cond (decide (s1_.1 < x3.N)) (x3.Kind == 0) false) ((appI 280 s1_.2 ([(⟨s0_.1, 0, ⟨0, [], []⟩, ⟨0, ⟨0, [], []⟩, ⟨0, [], []⟩, [], [], 0, []⟩, false⟩ : S_centoref24_Unit)] : List S_centoref24_Unit)).bind fun l4 => some (.inl ((IntKind.i64.wrap (s1_.1 + 1)), l4))) (some (.inr s1_.2))
noncomputable def m_centoref24_Units_L2 (a1 : Int) (s0_ : (Int × (List S_centoref24_Unit))) (x3 : S_api_Op) (s2_ : (Int × (List S_centoref24_Unit))) : Option ((Int × (List S_centoref24_Unit)) ⊕ (List S_centoref24_Unit)) :=
  cond (decide (s2_.1 < (x3.L.length : Int))) ((getI x3.L s2_.1).bind fun x7 => (appI 280 s2_.2 ([(⟨s0_.1, x3.Kind, x7, ⟨0, ⟨0, [], []⟩, ⟨0, [], []⟩, [], [], 0, []⟩, (x3.Kind == a1)⟩ : S_centoref24_Unit)] : List S_centoref24_Unit)).bind fun l8 => some (.inl ((IntKind.i64.wrap (s2_.1 + 1)), l8))) (some (.inr s2_.2))
noncomputable def m_centoref24_Units_L0 (a0 : (List S_api_Op)) (a1 : Int) (s0_ : (Int × (List S_centoref24_Unit))) : Option ((Int × (List S_centoref24_Unit)) ⊕ (List S_centoref24_Unit)) :=
  cond (decide (s0_.1 < (a0.length : Int))) (((getI a0 s0_.1).bind fun x3 => (runLoop (m_centoref24_Units_L1 s0_ x3) (0, s0_.2)).bind fun (z6 : (List S_centoref24_Unit)) => (runLoop (m_centoref24_Units_L2 a1 s0_ x3) (0, z6)).bind fun (z10 : (List S_centoref24_Unit)) => cond (x3.Kind == 3) ((appI 280 z10 ([(⟨s0_.1, 3, ⟨0, [], []⟩, x3.E, false⟩ : S_centoref24_Unit)] : List S_centoref24_Unit)).bind fun l11 => some l11) (some z10)).bind fun (z1 : (List S_centoref24_Unit)) => some (.inl ((IntKind.i64.wrap (s0_.1 + 1)), z1))) (some (.inr s0_.2))
noncomputable def m_centoref24_Units (a0 : (List S_api_Op)) (a1 : Int) : Option (List S_centoref24_Unit) :=
  (runLoop (m_centoref24_Units_L0 a0 a1) (0, ([] : List S_centoref24_Unit))).bind fun (z14 : (List S_centoref24_Unit)) => some z14
structure S_centoref24_Pair where
  Of : Int
  P : S_centoref24_Unit
  Q : S_centoref24_Unit
noncomputable def m_centoref24_Pairs_L0 (a0 : (List S_centoref24_Unit)) (a1 : (List S_centoref24_Unit)) (s0_ : (Int × Int × (List S_centoref24_Pair))) : Option ((Int × Int × (List S_centoref24_Pair)) ⊕ (Unit ⊕ (List S_centoref24_Pair))) :=
  cond (cond (decide (s0_.1 < (a0.length : Int))) true (decide (s0_.2.1 < (a1.length : Int)))) ((cond (decide (s0_.1 < (a0.length : Int))) ((getI a0 s0_.1).bind fun x6 => some (cond (decide (s0_.1 < (a0.length : Int))) x6.Alone false)) (some false)).bind fun (z3 : Bool) => cond z3 ((getI a0 s0_.1).bind fun x11 => (appI 568 s0_.2.2 ([(⟨1, x11, ⟨0, 0, ⟨0, [], []⟩, ⟨0, ⟨0, [], []⟩, ⟨0, [], []⟩, [], [], 0, []⟩, false⟩⟩ : S_centoref24_Pair)] : List S_centoref24_Pair)).bind fun l12 => some (.inl ((IntKind.i64.wrap (s0_.1 + 1)), s0_.2.1, l12))) ((cond (decide (s0_.2.1 < (a1.length : Int))) ((getI a1 s0_.2.1).bind fun x18 => some (cond (decide (s0_.2.1 < (a1.length : Int))) x18.Alone false)) (some false)).bind fun (z15 : Bool) => cond z15 ((getI a1 s0_.2.1).bind fun x23 => (appI 568 s0_.2.2 ([(⟨2, ⟨0, 0, ⟨0, [], []⟩, ⟨0, ⟨0, [], []⟩, ⟨0, [], []⟩, [], [], 0, []⟩, false⟩, x23⟩ : S_centoref24_Pair)] : List S_centoref24_Pair)).bind fun l24 => some (.inl (s0_.1, (IntKind.i64.wrap (s0_.2.1 + 1)), l24))) (cond (cond (decide ((a0.length : Int) ≤ s0_.1)) true (decide ((a1.length : Int) ≤ s0_.2.1))) (some (.inr (.inl ()))) ((getI a0 s0_.1).bind fun x28 => (getI a1 s0_.2.1).bind fun x29 => (appI 568 s0_.2.2 ([(⟨0, x28, x29⟩ : S_centoref24_Pair)] : List S_centoref24_Pair)).bind fun l30 => some (.inl ((IntKind.i64.wrap (s0_.1 + 1)), (IntKind.i64.wrap (s0_.2.1 + 1)), l30)))))) (some (.inr (.inr s0_.2.2)))
noncomputable def m_centoref24_Pairs (a0 : (List S_centoref24_Unit)) (a1 : (List S_centoref24_Unit)) : Option ((List S_centoref24_Pair) × Bool) :=
  (runLoop (m_centoref24_Pairs_L0 a0 a1) (0, 0, ([] : List S_centoref24_Pair))).bind fun (z35 : (Unit ⊕ (List S_centoref24_Pair))) => match z35 with | .inl z35 => some (([] : (List S_centoref24_Pair)), false) | .inr z35 => some (z35, true)
noncomputable def m_centolaw24_kids (a0 : S_api_Op) : Option Int :=
  cond (a0.Kind == 3) (some 1) (some (IntKind.i64.wrap (a0.N + (a0.L.length : Int))))
noncomputable def m_centolaw24_units (a0 : S_api_Op) (a1 : Int) : Option (List S_centoref24_Unit) :=
  (m_centoref24_Units ([a0] : List S_api_Op) a1).bind fun y2 => some y2
noncomputable def m_centoref24_Op (a0 : S_centoref24_Unit) : Option S_api_Op :=
  cond (a0.Kind == 0) (some (⟨0, 1, [], ⟨0, ⟨0, [], []⟩, ⟨0, [], []⟩, [], [], 0, []⟩⟩ : S_api_Op)) (cond (a0.Kind == 3) (some (⟨3, 0, [], a0.E⟩ : S_api_Op)) (some (⟨a0.Kind, 0, ([a0.T] : List S_api_Tree), ⟨0, ⟨0, [], []⟩, ⟨0, [], []⟩, [], [], 0, []⟩⟩ : S_api_Op)))
noncomputable def m_centoref01_Same_L0 (a0 : (List Int)) (a1 : (List Int)) (s0_ : Int) : Option (Int ⊕ (Unit ⊕ Unit)) :=
  cond (decide (s0_ < (a0.length : Int))) ((getI a0 s0_).bind fun x3 => (getI a1 s0_).bind fun x4 => cond (x3 != x4) (some (.inr (.inl ()))) (some (.inl (IntKind.i64.wrap (s0_ + 1))))) (some (.inr (.inr ())))
noncomputable def m_centoref01_Same (a0 : (List Int)) (a1 : (List Int)) : Option Bool :=
  cond ((a0.length : Int) != (a1.length : Int)) (some false) ((runLoop (m_centoref01_Same_L0 a0 a1) 0).bind fun (z7 : (Unit ⊕ Unit)) => match z7 with | .inl z7 => some false | .inr z7 => some true)
noncomputable def b_centoref07_Same_L0 (r_centoref07_Same : (S_api_Tree → S_api_Tree → Option Bool)) (a0 : S_api_Tree) (a1 : S_api_Tree) (s0_ : Int) : Option (Int ⊕ (Unit ⊕ Unit)) :=
  cond (decide (s0_ < (a0.Kids.length : Int))) ((getI a0.Kids s0_).bind fun x9 => (getI a1.Kids s0_).bind fun x10 => (r_centoref07_Same x9 x10).bind fun y11 => cond (!y11) (some (.inr (.inl ()))) (some (.inl (IntKind.i64.wrap (s0_ + 1))))) (some (.inr (.inr ())))
noncomputable def b_centoref07_Same (r_centoref07_Same : (S_api_Tree → S_api_Tree → Option Bool)) (a0 : S_api_Tree) (a1 : S_api_Tree) : Option Bool :=
  (cond (a0.Kind != a1.Kind) (some true) ((m_centoref01_Same a0.Words a1.Words).bind fun y4 => some (cond (cond (a0.Kind != a1.Kind) true (!y4)) true ((a0.Kids.length : Int) != (a1.Kids.length : Int))))).bind fun (z2 : Bool) => cond z2 (some false) ((runLoop (b_centoref07_Same_L0 r_centoref07_Same a0 a1) 0).bind fun (z14 : (Unit ⊕ Unit)) => match z14 with | .inl z14 => some false | .inr z14 => some true)
noncomputable def lv_centoref07_Same : Nat → (S_api_Tree → S_api_Tree → Option Bool)
  | 0 => (fun _ _ => none)
  | k + 1 => b_centoref07_Same ((lv_centoref07_Same k))
noncomputable def m_centoref07_Same (a0 : S_api_Tree) (a1 : S_api_Tree) : Option Bool := lim fun k => (lv_centoref07_Same k) a0 a1
noncomputable def m_centoref22_sameTrees_L0 (a0 : (List S_api_Tree)) (a1 : (List S_api_Tree)) (s0_ : Int) : Option (Int ⊕ (Unit ⊕ Unit)) :=
  cond (decide (s0_ < (a0.length : Int))) ((getI a0 s0_).bind fun x4 => (getI a1 s0_).bind fun x5 => (m_centoref07_Same x4 x5).bind fun y6 => cond (!y6) (some (.inr (.inl ()))) (some (.inl (IntKind.i64.wrap (s0_ + 1))))) (some (.inr (.inr ())))
noncomputable def m_centoref22_sameTrees (a0 : (List S_api_Tree)) (a1 : (List S_api_Tree)) : Option Bool :=
  cond ((a0.length : Int) != (a1.length : Int)) (some false) ((runLoop (m_centoref22_sameTrees_L0 a0 a1) 0).bind fun (z9 : (Unit ⊕ Unit)) => match z9 with | .inl z9 => some false | .inr z9 => some true)
noncomputable def b_centoref22_Same_L0 (a0 : S_api_Edit) (a1 : S_api_Edit) (s0_ : Int) : Option (Int ⊕ (Unit ⊕ Unit)) :=
  cond (decide (s0_ < (a0.Words.length : Int))) ((getI a0.Words s0_).bind fun x13 => (getI a1.Words s0_).bind fun x14 => cond (!((x13.At == x14.At) && ((x13.Mask == x14.Mask) && ((x13.Old == x14.Old) && (x13.New == x14.New))))) (some (.inr (.inl ()))) (some (.inl (IntKind.i64.wrap (s0_ + 1))))) (some (.inr (.inr ())))
noncomputable def b_centoref22_Same_L1 (r_centoref22_Same : (S_api_Edit → S_api_Edit → Option Bool)) (a0 : S_api_Edit) (a1 : S_api_Edit) (s1_ : Int) : Option (Int ⊕ (Unit ⊕ Unit)) :=
  cond (decide (s1_ < (a0.Kids.length : Int))) (((getI a0.Kids s1_).bind fun x37 => (getI a1.Kids s1_).bind fun x39 => cond (x37.At != x39.At) (some true) ((r_centoref22_Same x37.E x39.E).bind fun y45 => some (cond (x37.At != x39.At) true (!y45)))).bind fun (z27 : Bool) => cond z27 (some (.inr (.inl ()))) (some (.inl (IntKind.i64.wrap (s1_ + 1))))) (some (.inr (.inr ())))
noncomputable def b_centoref22_Same_L2 (r_centoref22_Same : (S_api_Edit → S_api_Edit → Option Bool)) (a0 : S_api_Edit) (a1 : S_api_Edit) (s2_ : Int) : Option (Int ⊕ (Unit ⊕ Unit)) :=
  cond (decide (s2_ < (a0.Ops.length : Int))) ((getI a0.Ops s2_).bind fun x50 => (getI a1.Ops s2_).bind fun x51 => (cond (x50.Kind != x51.Kind) (some true) (cond (x50.N != x51.N) (some true) ((m_centoref22_sameTrees x50.L x51.L).bind fun y57 => cond y57 ((r_centoref22_Same x50.E x51.E).bind fun y58 => some (cond (cond (cond (x50.Kind != x51.Kind) true (x50.N != x51.N)) true (!y57)) true (!y58))) (some true)))).bind fun (z54 : Bool) => cond z54 (some (.inr (.inl ()))) (some (.inl (IntKind.i64.wrap (s2_ + 1))))) (some (.inr (.inr ())))
noncomputable def b_centoref22_Same (r_centoref22_Same : (S_api_Edit → S_api_Edit → Option Bool)) (a0 : S_api_Edit) (a1 : S_api_Edit) : Option Bool :=
  (cond (a0.Kind != a1.Kind) (some true) (cond (a0.List_ != a1.List_) (some true) ((m_centoref07_Same a0.Old a1.Old).bind fun y6 => cond y6 ((m_centoref07_Same a0.New a1.New).bind fun y7 => some (cond (cond (cond (cond (cond (cond (a0.Kind != a1.Kind) true (a0.List_ != a1.List_)) true (!y6)) true (!y7)) true ((a0.Words.length : Int) != (a1.Words.length : Int))) true ((a0.Kids.length : Int) != (a1.Kids.length : Int))) true ((a0.Ops.length : Int) != (a1.Ops.length : Int)))) (some true)))).bind fun (z3 : Bool) => cond z3 (some false) ((runLoop (b_centoref22_Same_L0 a0 a1) 0).bind fun (z17 : (Unit ⊕ Unit)) => match z17 with | .inl z17 => some false | .inr z17 => (runLoop (b_centoref22_Same_L1 r_centoref22_Same a0 a1) 0).bind fun (z49 : (Unit ⊕ Unit)) => match z49 with | .inl z49 => some false | .inr z49 => (runLoop (b_centoref22_Same_L2 r_centoref22_Same a0 a1) 0).bind fun (z64 : (Unit ⊕ Unit)) => match z64 with | .inl z64 => some false | .inr z64 => some true)
noncomputable def lv_centoref22_Same : Nat → (S_api_Edit → S_api_Edit → Option Bool)
  | 0 => (fun _ _ => none)
  | k + 1 => b_centoref22_Same ((lv_centoref22_Same k))
noncomputable def m_centoref22_Same (a0 : S_api_Edit) (a1 : S_api_Edit) : Option Bool := lim fun k => (lv_centoref22_Same k) a0 a1
noncomputable def m_centolaw24_same_L0 (a2 : (List S_centoref24_Pair)) (a3 : Int) (a4 : Bool) (y2 : (List S_centoref24_Unit)) (s0_ : Int) : Option (Int ⊕ (Unit ⊕ Unit)) :=
  cond (decide (s0_ < (y2.length : Int))) ((getI a2 (IntKind.i64.wrap (a3 + s0_))).bind fun x5 => (cond a4 ((getI a2 (IntKind.i64.wrap (a3 + s0_))).bind fun x8 => some (x8.Q.Step, x8.Q.Kind, x8.Q.T.Kind, x8.Q.T.Words, x8.Q.T.Kids, x8.Q.E.Kind, x8.Q.E.Old.Kind, x8.Q.E.Old.Words, x8.Q.E.Old.Kids, x8.Q.E.New.Kind, x8.Q.E.New.Words, x8.Q.E.New.Kids, x8.Q.E.Words, x8.Q.E.Kids, x8.Q.E.List_, x8.Q.E.Ops, x8.Q.Alone)) (some (x5.P.Step, x5.P.Kind, x5.P.T.Kind, x5.P.T.Words, x5.P.T.Kids, x5.P.E.Kind, x5.P.E.Old.Kind, x5.P.E.Old.Words, x5.P.E.Old.Kids, x5.P.E.New.Kind, x5.P.E.New.Words, x5.P.E.New.Kids, x5.P.E.Words, x5.P.E.Kids, x5.P.E.List_, x5.P.E.Ops, x5.P.Alone))).bind fun (z7 : (Int × Int × Int × (List Int) × (List S_api_Tree) × Int × Int × (List Int) × (List S_api_Tree) × Int × (List Int) × (List S_api_Tree) × (List S_api_WordEdit) × (List S_api_KidEdit) × Int × (List S_api_Op) × Bool)) => (getI y2 s0_).bind fun x11 => (m_centoref24_Op x11).bind fun y12 => (m_centoref24_Op (⟨z7.1, z7.2.1, ⟨z7.2.2.1, z7.2.2.2.1, z7.2.2.2.2.1⟩, ⟨z7.2.2.2.2.2.1, ⟨z7.2.2.2.2.2.2.1, z7.2.2.2.2.2.2.2.1, z7.2.2.2.2.2.2.2.2.1⟩, ⟨z7.2.2.2.2.2.2.2.2.2.1, z7.2.2.2.2.2.2.2.2.2.2.1, z7.2.2.2.2.2.2.2.2.2.2.2.1⟩, z7.2.2.2.2.2.2.2.2.2.2.2.2.1, z7.2.2.2.2.2.2.2.2.2.2.2.2.2.1, z7.2.2.2.2.2.2.2.2.2.2.2.2.2.2.1, z7.2.2.2.2.2.2.2.2.2.2.2.2.2.2.2.1⟩, z7.2.2.2.2.2.2.2.2.2.2.2.2.2.2.2.2⟩ : S_centoref24_Unit)).bind fun y13 => (m_centoref22_Same (⟨3, ⟨0, [], []⟩, ⟨0, [], []⟩, [], [], 8, ([y12] : List S_api_Op)⟩ : S_api_Edit) (⟨3, ⟨0, [], []⟩, ⟨0, [], []⟩, [], [], 8, ([y13] : List S_api_Op)⟩ : S_api_Edit)).bind fun y15 => cond (!y15) (some (.inr (.inl ()))) (some (.inl (IntKind.i64.wrap (s0_ + 1))))) (some (.inr (.inr ())))
noncomputable def m_centolaw24_same (a0 : S_api_Op) (a1 : Int) (a2 : (List S_centoref24_Pair)) (a3 : Int) (a4 : Bool) : Option Bool :=
  (m_centolaw24_units a0 a1).bind fun y2 => (runLoop (m_centolaw24_same_L0 a2 a3 a4 y2) 0).bind fun (z18 : (Unit ⊕ Unit)) => match z18 with | .inl z18 => some false | .inr z18 => some true
noncomputable def m_centolaw24_alike_L1 (a2 : (List S_centoref24_Pair)) (s0_ : (Int × Int)) (x2 : S_align_Piece) (z5 : Int) (s1_ : Int) : Option (Int ⊕ (Unit ⊕ Unit)) :=
  cond (decide (s1_ < z5)) ((getI a2 (IntKind.i64.wrap (s0_.1 + s1_))).bind fun x17 => cond (x17.Of != x2.Of) (some (.inr (.inl ()))) (some (.inl (IntKind.i64.wrap (s1_ + 1))))) (some (.inr (.inr ())))
noncomputable def m_centolaw24_alike_L0 (a0 : (List S_align_Piece)) (a1 : Int) (a2 : (List S_centoref24_Pair)) (s0_ : (Int × Int)) : Option ((Int × Int) ⊕ (Unit ⊕ Int)) :=
  cond (decide (s0_.2 < (a0.length : Int))) ((getI a0 s0_.2).bind fun x2 => (m_centolaw24_kids x2.P).bind fun y4 => (cond (x2.Of == 2) ((m_centolaw24_kids x2.Q).bind fun y6 => some y6) (some y4)).bind fun (z5 : Int) => (cond (decide (z5 < 1)) (some true) (cond (decide ((IntKind.i64.wrap ((a2.length : Int) - s0_.1)) < z5)) (some true) (cond (x2.Of == 0) ((m_centolaw24_kids x2.Q).bind fun y11 => some (cond (cond (decide (z5 < 1)) true (decide ((IntKind.i64.wrap ((a2.length : Int) - s0_.1)) < z5))) true (cond (x2.Of == 0) (y11 != z5) false))) (some (cond (cond (decide (z5 < 1)) true (decide ((IntKind.i64.wrap ((a2.length : Int) - s0_.1)) < z5))) true false))))).bind fun (z9 : Bool) => cond z9 (some (.inr (.inl ()))) ((runLoop (m_centolaw24_alike_L1 a2 s0_ x2 z5) 0).bind fun (z21 : (Unit ⊕ Unit)) => match z21 with | .inl z21 => some (.inr (.inl ())) | .inr z21 => (cond (x2.Of != 2) ((m_centolaw24_same x2.P a1 a2 s0_.1 false).bind fun y29 => cond y29 (cond (x2.Of != 1) ((m_centolaw24_same x2.Q 2 a2 s0_.1 true).bind fun y30 => some (cond (cond (x2.Of != 2) (!y29) false) true (cond (x2.Of != 1) (!y30) false))) (some (cond (cond (x2.Of != 2) (!y29) false) true false))) (some true)) (cond (x2.Of != 1) ((m_centolaw24_same x2.Q 2 a2 s0_.1 true).bind fun y31 => some (cond (x2.Of != 1) (!y31) false)) (some false))).bind fun (z25 : Bool) => cond z25 (some (.inr (.inl ()))) (some (.inl ((IntKind.i64.wrap (s0_.1 + z5)), (IntKind.i64.wrap (s0_.2 + 1))))))) (some (.inr (.inr s0_.1)))
noncomputable def m_centolaw24_alike (a0 : (List S_align_Piece)) (a1 : Int) (a2 : (List S_centoref24_Pair)) : Option Bool :=
  (runLoop (m_centolaw24_alike_L0 a0 a1 a2) (0, 0)).bind fun (z39 : (Unit ⊕ Int)) => match z39 with | .inl z39 => some false | .inr z39 => some (z39 == (a2.length : Int))
noncomputable def m_align_Behind (a0 : (List S_api_Op)) (a1 : (List S_api_Op)) : Option ((List S_align_Piece) × Bool) :=
  (m_align_pieces a0 a1 1 2).bind fun y2 => some (y2.1, y2.2)
noncomputable def m_centolaw24_AlignBehind (a0 : (List S_api_Op)) (a1 : (List S_api_Op)) : Option Bool :=
  ((m_centolaw24_steps a0).bind fun y6 => cond y6 ((m_centolaw24_steps a1).bind fun y7 => some (cond (!y6) true (!y7))) (some true)).bind fun (z3 : Bool) => cond z3 ((m_centolaw24_awake).bind fun y10 => some y10) ((m_align_Behind a0 a1).bind fun y12 => (m_centoref24_Units a0 1).bind fun y16 => (m_centoref24_Units a1 2).bind fun y17 => (m_centoref24_Pairs y16 y17).bind fun y18 => (cond (y12.2 == y18.2) (cond y12.2 ((m_centolaw24_alike y12.1 1 y18.1).bind fun y28 => cond y28 ((m_centolaw24_awake).bind fun y29 => some (cond (cond (cond (y12.2 == y18.2) (cond y12.2 true ((y12.1.length : Int) == 0)) false) y28 false) y29 false)) (some false)) (cond ((y12.1.length : Int) == 0) ((m_centolaw24_alike y12.1 1 y18.1).bind fun y30 => cond y30 ((m_centolaw24_awake).bind fun y31 => some (cond (cond (cond (y12.2 == y18.2) (cond y12.2 true ((y12.1.length : Int) == 0)) false) y30 false) y31 false)) (some false)) (some false))) (some false)).bind fun (z23 : Bool) => some z23)
end Go.Proofs.Ytbcgiaijjaocdaa
