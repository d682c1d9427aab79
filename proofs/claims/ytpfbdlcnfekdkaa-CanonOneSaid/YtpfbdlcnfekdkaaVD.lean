/- Part VD of this seat's mirrors: functions of the seat's program, and the plain functions that they are; each theorem bears its own conditions. -/
import Derived.Test.YtpfbdlcnfekdkaaH26
namespace Go.Proofs.Ytpfbdlcnfekdkaa
open Go.RowKit
set_option linter.unusedVariables false
set_option linter.unusedSimpArgs false
set_option maxRecDepth 100000
set_option maxHeartbeats 4000000
structure S_api_Tree where
  Kind : Int
  Words : (List Int)
  Kids : (List S_api_Tree)

noncomputable def b_centoref07_Shallow_L0 (r_centoref07_Shallow : (S_api_Tree → Int → Int → Option Int)) (a0 : S_api_Tree) (a1 : Int) (s0_ : (Int × Int)) : Option ((Int × Int) ⊕ Int) :=
  cond (cond (decide (s0_.2 < (a0.Kids.length : Int))) (decide (0 ≤ s0_.1)) false) ((getI a0.Kids s0_.2).bind fun x1 => (r_centoref07_Shallow x1 (IntKind.i64.wrap (a1 - 1)) s0_.1).bind fun y2 => some (.inl (y2, (IntKind.i64.wrap (s0_.2 + 1))))) (some (.inr s0_.1))

noncomputable def b_centoref07_Shallow (r_centoref07_Shallow : (S_api_Tree → Int → Int → Option Int)) (a0 : S_api_Tree) (a1 : Int) (a2 : Int) : Option Int :=
  cond (cond (a1 == 0) true (decide ((IntKind.i64.wrap ((IntKind.i64.wrap (a2 - 1)) - (a0.Words.length : Int))) < 0))) (some (-1)) ((runLoop (b_centoref07_Shallow_L0 r_centoref07_Shallow a0 a1) ((IntKind.i64.wrap ((IntKind.i64.wrap (a2 - 1)) - (a0.Words.length : Int))), 0)).bind fun (z4 : Int) => some z4)

noncomputable def lv_centoref07_Shallow : Nat → (S_api_Tree → Int → Int → Option Int)
  | 0 => (fun _ _ _ => none)
  | k + 1 => b_centoref07_Shallow ((lv_centoref07_Shallow k))

noncomputable def m_centoref07_Shallow (a0 : S_api_Tree) (a1 : Int) (a2 : Int) : Option Int := lim fun k => (lv_centoref07_Shallow k) a0 a1 a2

noncomputable def m_centoref07_Few (a0 : S_api_Tree) : Option Bool :=
  (m_centoref07_Shallow a0 80 3000).bind fun y2 => some (decide (0 ≤ y2))

noncomputable def m_tree_List (a0 : Int) : Option Bool :=
  some (cond (decide (2 ≤ a0)) (decide (a0 ≤ 9)) false)

noncomputable def m_tree_allStructs_L0 (a0 : (List S_api_Tree)) (s0_ : Int) : Option (Int ⊕ (Unit ⊕ Unit)) :=
  cond (decide (s0_ < (a0.length : Int))) ((getI a0 s0_).bind fun x2 => cond (x2.Kind != 1) (some (.inr (.inl ()))) (some (.inl (IntKind.i64.wrap (s0_ + 1))))) (some (.inr (.inr ())))

noncomputable def m_tree_allStructs (a0 : (List S_api_Tree)) : Option Bool :=
  (runLoop (m_tree_allStructs_L0 a0) 0).bind fun (z5 : (Unit ⊕ Unit)) => match z5 with | .inl z5 => some false | .inr z5 => some true

noncomputable def m_word_Width (a0 : Int) : Option (Int × Bool) :=
  ((some (⟨[0, 1, 8, 16, 32, 64], rfl⟩ : (Arr Int 6)))).bind fun y6 => ((some (⟨[0, 0, 0, 0, 0, 0], rfl⟩ : (Arr Int 6)))).bind fun y8 => cond (cond (decide (a0 < 0)) true (decide (6 ≤ a0))) (some (0, false)) ((getI y6.1 a0).bind fun x12 => some (x12, true))

noncomputable def m_word_Fits (a0 : Int) (a1 : Int) : Option Bool :=
  (m_word_Width a0).bind fun y2 => (cond y2.2 ((guardI (0 ≤ y2.1)).bind fun u6 => some (cond y2.2 ((Int.fdiv a1 (2 ^ min (Int.toNat y2.1) 64)) == 0) false)) (some false)).bind fun (z4 : Bool) => some z4

noncomputable def b_tree_Right (r_tree_Right : (S_api_Tree → Option Bool)) (r_tree_right : (S_api_Tree → Int → Option Bool)) (r_tree_allRight : ((List S_api_Tree) → Int → Option Bool)) (r_tree_allAtoms : ((List S_api_Tree) → Int → Option Bool)) (a0 : S_api_Tree) : Option Bool :=
  cond (a0.Kind == 10) (some (cond ((a0.Words.length : Int) == 1) ((a0.Kids.length : Int) == 0) false)) ((r_tree_right a0 64).bind fun y2 => some y2)

noncomputable def b_tree_right (r_tree_Right : (S_api_Tree → Option Bool)) (r_tree_right : (S_api_Tree → Int → Option Bool)) (r_tree_allRight : ((List S_api_Tree) → Int → Option Bool)) (r_tree_allAtoms : ((List S_api_Tree) → Int → Option Bool)) (a0 : S_api_Tree) (a1 : Int) : Option Bool :=
  cond (a0.Kind == 0) (some (cond ((a0.Words.length : Int) == 0) ((a0.Kids.length : Int) == 0) false)) (cond (a1 == 0) (some false) (cond (a0.Kind == 1) ((cond (decide ((a0.Words.length : Int) < 65536)) (cond (decide ((a0.Kids.length : Int) < 65536)) ((r_tree_allRight a0.Kids (IntKind.i64.wrap (a1 - 1))).bind fun y4 => some (cond (cond (decide ((a0.Words.length : Int) < 65536)) (decide ((a0.Kids.length : Int) < 65536)) false) y4 false)) (some false)) (some false)).bind fun (z2 : Bool) => some z2) ((m_tree_List a0.Kind).bind fun y8 => cond (cond (cond (!y8) true (decide (0 < (a0.Words.length : Int)))) true (decide (1048576 ≤ (a0.Kids.length : Int)))) (some false) (cond (a0.Kind == 8) ((r_tree_allRight a0.Kids (IntKind.i64.wrap (a1 - 1))).bind fun y10 => some y10) (cond (a0.Kind == 9) (((m_tree_allStructs a0.Kids).bind fun y16 => cond y16 ((r_tree_allRight a0.Kids (IntKind.i64.wrap (a1 - 1))).bind fun y17 => some (cond y16 y17 false)) (some false)).bind fun (z13 : Bool) => some z13) ((r_tree_allAtoms a0.Kids (IntKind.i64.wrap (a0.Kind - 2))).bind fun y20 => some y20))))))

noncomputable def b_tree_allRight_L0 (r_tree_right : (S_api_Tree → Int → Option Bool)) (a0 : (List S_api_Tree)) (a1 : Int) (s0_ : Int) : Option (Int ⊕ (Unit ⊕ Unit)) :=
  cond (decide (s0_ < (a0.length : Int))) ((getI a0 s0_).bind fun x2 => (r_tree_right x2 a1).bind fun y4 => cond (!y4) (some (.inr (.inl ()))) (some (.inl (IntKind.i64.wrap (s0_ + 1))))) (some (.inr (.inr ())))

noncomputable def b_tree_allRight (r_tree_Right : (S_api_Tree → Option Bool)) (r_tree_right : (S_api_Tree → Int → Option Bool)) (r_tree_allRight : ((List S_api_Tree) → Int → Option Bool)) (r_tree_allAtoms : ((List S_api_Tree) → Int → Option Bool)) (a0 : (List S_api_Tree)) (a1 : Int) : Option Bool :=
  (runLoop (b_tree_allRight_L0 r_tree_right a0 a1) 0).bind fun (z7 : (Unit ⊕ Unit)) => match z7 with | .inl z7 => some false | .inr z7 => some true

noncomputable def b_tree_allAtoms_L0 (r_tree_Right : (S_api_Tree → Option Bool)) (a0 : (List S_api_Tree)) (a1 : Int) (s0_ : Int) : Option (Int ⊕ (Unit ⊕ Unit)) :=
  cond (decide (s0_ < (a0.length : Int))) ((getI a0 s0_).bind fun x2 => (cond (x2.Kind != 10) (some true) ((r_tree_Right x2).bind fun y10 => cond y10 ((getI x2.Words 0).bind fun x11 => (m_word_Fits a1 x11).bind fun y12 => some (cond (cond (x2.Kind != 10) true (!y10)) true (!y12))) (some true))).bind fun (z6 : Bool) => cond z6 (some (.inr (.inl ()))) (some (.inl (IntKind.i64.wrap (s0_ + 1))))) (some (.inr (.inr ())))

noncomputable def b_tree_allAtoms (r_tree_Right : (S_api_Tree → Option Bool)) (r_tree_right : (S_api_Tree → Int → Option Bool)) (r_tree_allRight : ((List S_api_Tree) → Int → Option Bool)) (r_tree_allAtoms : ((List S_api_Tree) → Int → Option Bool)) (a0 : (List S_api_Tree)) (a1 : Int) : Option Bool :=
  (runLoop (b_tree_allAtoms_L0 r_tree_Right a0 a1) 0).bind fun (z17 : (Unit ⊕ Unit)) => match z17 with | .inl z17 => some false | .inr z17 => some true

noncomputable def lv_tree_Right : Nat → ((S_api_Tree → Option Bool) × (S_api_Tree → Int → Option Bool) × ((List S_api_Tree) → Int → Option Bool) × ((List S_api_Tree) → Int → Option Bool))
  | 0 => ((fun _ => none), (fun _ _ => none), (fun _ _ => none), (fun _ _ => none))
  | k + 1 => (b_tree_Right ((lv_tree_Right k).1) ((lv_tree_Right k).2.1) ((lv_tree_Right k).2.2.1) ((lv_tree_Right k).2.2.2), b_tree_right ((lv_tree_Right k).1) ((lv_tree_Right k).2.1) ((lv_tree_Right k).2.2.1) ((lv_tree_Right k).2.2.2), b_tree_allRight ((lv_tree_Right k).1) ((lv_tree_Right k).2.1) ((lv_tree_Right k).2.2.1) ((lv_tree_Right k).2.2.2), b_tree_allAtoms ((lv_tree_Right k).1) ((lv_tree_Right k).2.1) ((lv_tree_Right k).2.2.1) ((lv_tree_Right k).2.2.2))

noncomputable def m_tree_Right (a0 : S_api_Tree) : Option Bool := lim fun k => (lv_tree_Right k).1 a0

noncomputable def m_tree_right (a0 : S_api_Tree) (a1 : Int) : Option Bool := lim fun k => (lv_tree_Right k).2.1 a0 a1

noncomputable def m_tree_allRight (a0 : (List S_api_Tree)) (a1 : Int) : Option Bool := lim fun k => (lv_tree_Right k).2.2.1 a0 a1

noncomputable def m_tree_allAtoms (a0 : (List S_api_Tree)) (a1 : Int) : Option Bool := lim fun k => (lv_tree_Right k).2.2.2 a0 a1

noncomputable def m_tree_trimWords_L0 (a0 : (List Int)) (s0_ : Int) : Option (Int ⊕ Int) :=
  (cond (decide (0 < s0_)) ((getI a0 (IntKind.i64.wrap (s0_ - 1))).bind fun x4 => some (cond (decide (0 < s0_)) (x4 == 0) false)) (some false)).bind fun (z2 : Bool) => cond z2 (some (.inl (IntKind.i64.wrap (s0_ - 1)))) (some (.inr s0_))

noncomputable def m_tree_trimWords (a0 : (List Int)) : Option (List Int) :=
  (runLoop (m_tree_trimWords_L0 a0) (a0.length : Int)).bind fun (z7 : Int) => (subI a0 0 z7).bind fun l9 => some l9

noncomputable def m_tree_trimKids_L0 (a0 : (List S_api_Tree)) (s0_ : Int) : Option (Int ⊕ Int) :=
  (cond (decide (0 < s0_)) ((getI a0 (IntKind.i64.wrap (s0_ - 1))).bind fun x6 => some (cond (decide (0 < s0_)) (x6.Kind == 0) false)) (some false)).bind fun (z3 : Bool) => cond z3 (some (.inl (IntKind.i64.wrap (s0_ - 1)))) (some (.inr s0_))

noncomputable def m_tree_trimKids (a0 : (List S_api_Tree)) : Option (List S_api_Tree) :=
  (runLoop (m_tree_trimKids_L0 a0) (a0.length : Int)).bind fun (z10 : Int) => (subI a0 0 z10).bind fun l12 => some l12

noncomputable def b_tree_Norm_L0 (r_tree_Norm : (S_api_Tree → Option S_api_Tree)) (z1 : ((List Int) × (List S_api_Tree))) (s0_ : (Int × (List S_api_Tree))) : Option ((Int × (List S_api_Tree)) ⊕ (List S_api_Tree)) :=
  cond (decide (s0_.1 < (z1.2.length : Int))) ((getI z1.2 s0_.1).bind fun x9 => (r_tree_Norm x9).bind fun y10 => (getI s0_.2 s0_.1).bind fun x11 => some (.inl ((IntKind.i64.wrap (s0_.1 + 1)), (setI s0_.2 s0_.1 y10)))) (some (.inr s0_.2))

noncomputable def b_tree_Norm (r_tree_Norm : (S_api_Tree → Option S_api_Tree)) (a0 : S_api_Tree) : Option S_api_Tree :=
  cond (a0.Kind == 0) (some (⟨0, [], []⟩ : S_api_Tree)) ((cond (a0.Kind == 1) ((m_tree_trimWords a0.Words).bind fun y2 => (m_tree_trimKids a0.Kids).bind fun y3 => some (y2, y3)) (some (a0.Words, a0.Kids))).bind fun (z1 : ((List Int) × (List S_api_Tree))) => (cond (decide (0 < (z1.2.length : Int))) ((makeI 56 (z1.2.length : Int) (⟨(0 : Int), [], []⟩ : S_api_Tree)).bind fun l6 => some l6) (some ([] : List S_api_Tree))).bind fun (z5 : (List S_api_Tree)) => (runLoop (b_tree_Norm_L0 r_tree_Norm z1) (0, z5)).bind fun (z14 : (List S_api_Tree)) => some (⟨a0.Kind, z1.1, z14⟩ : S_api_Tree))

noncomputable def lv_tree_Norm : Nat → (S_api_Tree → Option S_api_Tree)
  | 0 => (fun _ => none)
  | k + 1 => b_tree_Norm ((lv_tree_Norm k))

noncomputable def m_tree_Norm (a0 : S_api_Tree) : Option S_api_Tree := lim fun k => (lv_tree_Norm k) a0

noncomputable def m_tree_Data (a0 : Int) : Option Bool :=
  some (cond (decide (2 ≤ a0)) (decide (a0 ≤ 7)) false)

noncomputable def m_word_Room (a0 : Int) (a1 : Int) : Option Int :=
  (m_word_Width a0).bind fun y2 => cond (cond (cond (!y2.2) true (decide (a1 < 0))) true (decide (1099511627776 < a1))) (some 0) (some (IntKind.i64.wrap (Int.tdiv (IntKind.i64.wrap ((IntKind.i64.wrap (a1 * y2.1)) + 63)) 64)))

noncomputable def m_tree_Frame_L0 (a0 : S_api_Tree) (s0_ : (Int × Int × Int)) : Option ((Int × Int × Int) ⊕ (Int × Int)) :=
  cond (decide (s0_.2.2 < (a0.Kids.length : Int))) ((getI a0.Kids s0_.2.2).bind fun x2 => some (.inl ((if s0_.1 < (x2.Words.length : Int) then (x2.Words.length : Int) else s0_.1), (if s0_.2.1 < (x2.Kids.length : Int) then (x2.Kids.length : Int) else s0_.2.1), (IntKind.i64.wrap (s0_.2.2 + 1))))) (some (.inr (s0_.1, s0_.2.1)))

noncomputable def m_tree_Frame (a0 : S_api_Tree) : Option (Int × Int) :=
  (runLoop (m_tree_Frame_L0 a0) (0, 0, 0)).bind fun (z4 : (Int × Int)) => some (z4.1, z4.2)

noncomputable def b_tree_size_L0 (r_tree_sizes : ((List S_api_Tree) → Option Int)) (a0 : S_api_Tree) (s0_ : (Int × Int)) : Option ((Int × Int) ⊕ Int) :=
  cond (decide (s0_.2 < (a0.Kids.length : Int))) ((getI a0.Kids s0_.2).bind fun x12 => (r_tree_sizes x12.Kids).bind fun y13 => some (.inl ((IntKind.i64.wrap (s0_.1 + y13)), (IntKind.i64.wrap (s0_.2 + 1))))) (some (.inr s0_.1))

noncomputable def b_tree_size (r_tree_size : (S_api_Tree → Option Int)) (r_tree_sizes : ((List S_api_Tree) → Option Int)) (a0 : S_api_Tree) : Option Int :=
  cond (a0.Kind == 1) ((r_tree_sizes a0.Kids).bind fun y2 => some (IntKind.i64.wrap ((IntKind.i64.wrap ((a0.Words.length : Int) + (a0.Kids.length : Int))) + y2))) ((m_tree_Data a0.Kind).bind fun y4 => cond y4 ((m_word_Room (IntKind.i64.wrap (a0.Kind - 2)) (a0.Kids.length : Int)).bind fun y6 => some y6) (cond (a0.Kind == 8) ((r_tree_sizes a0.Kids).bind fun y8 => some (IntKind.i64.wrap ((a0.Kids.length : Int) + y8))) (cond (a0.Kind == 9) ((m_tree_Frame a0).bind fun y10 => (runLoop (b_tree_size_L0 r_tree_sizes a0) ((IntKind.i64.wrap (1 + (IntKind.i64.wrap ((a0.Kids.length : Int) * (IntKind.i64.wrap (y10.1 + y10.2)))))), 0)).bind fun (z15 : Int) => some z15) (some 0))))

noncomputable def b_tree_sizes_L0 (r_tree_size : (S_api_Tree → Option Int)) (a0 : (List S_api_Tree)) (s0_ : (Int × Int)) : Option ((Int × Int) ⊕ Int) :=
  cond (decide (s0_.2 < (a0.length : Int))) ((getI a0 s0_.2).bind fun x2 => (r_tree_size x2).bind fun y3 => some (.inl ((IntKind.i64.wrap (s0_.1 + y3)), (IntKind.i64.wrap (s0_.2 + 1))))) (some (.inr s0_.1))

noncomputable def b_tree_sizes (r_tree_size : (S_api_Tree → Option Int)) (r_tree_sizes : ((List S_api_Tree) → Option Int)) (a0 : (List S_api_Tree)) : Option Int :=
  (runLoop (b_tree_sizes_L0 r_tree_size a0) (0, 0)).bind fun (z5 : Int) => some z5

noncomputable def lv_tree_size : Nat → ((S_api_Tree → Option Int) × ((List S_api_Tree) → Option Int))
  | 0 => ((fun _ => none), (fun _ => none))
  | k + 1 => (b_tree_size ((lv_tree_size k).1) ((lv_tree_size k).2), b_tree_sizes ((lv_tree_size k).1) ((lv_tree_size k).2))

noncomputable def m_tree_size (a0 : S_api_Tree) : Option Int := lim fun k => (lv_tree_size k).1 a0

noncomputable def m_tree_sizes (a0 : (List S_api_Tree)) : Option Int := lim fun k => (lv_tree_size k).2 a0

noncomputable def m_tree_Size (a0 : S_api_Tree) : Option Int :=
  (m_tree_Norm a0).bind fun y3 => (m_tree_size y3).bind fun y4 => some y4

structure S_ptr_Ptr where
  Kind : Int
  Off : Int
  Data : Int
  Ptrs : Int
  Code : Int
  Count : Int
  Segment : Int
  Double : Bool

noncomputable def m_canon_shape (a0 : S_api_Tree) : Option S_ptr_Ptr :=
  cond (a0.Kind == 1) (some (⟨1, 0, (a0.Words.length : Int), (a0.Kids.length : Int), 0, 0, 0, false⟩ : S_ptr_Ptr)) (cond (a0.Kind == 9) ((m_tree_Frame a0).bind fun y2 => some (⟨2, 0, 0, 0, 7, (IntKind.i64.wrap ((a0.Kids.length : Int) * (IntKind.i64.wrap (y2.1 + y2.2)))), 0, false⟩ : S_ptr_Ptr)) (some (⟨2, 0, 0, 0, (IntKind.i64.wrap (a0.Kind - 2)), (a0.Kids.length : Int), 0, false⟩ : S_ptr_Ptr)))

noncomputable def m_ptr_width (a0 : Int) : Option Int :=
  ((some (⟨[0, 1, 8, 16, 32, 64, 64], rfl⟩ : (Arr Int 7)))).bind fun y6 => ((some (⟨[0, 0, 0, 0, 0, 0, 0], rfl⟩ : (Arr Int 7)))).bind fun y8 => (getI y6.1 a0).bind fun x12 => some x12

noncomputable def m_ptr_Ptr_Words (a0 : S_ptr_Ptr) : Option (Int × Bool) :=
  cond (a0.Kind == 1) (some ((IntKind.i64.wrap (a0.Data + a0.Ptrs)), true)) (cond (cond (a0.Kind == 2) (a0.Code == 7) false) (some ((IntKind.i64.wrap (a0.Count + 1)), true)) (cond (cond (cond (cond (cond (a0.Kind == 2) (decide (0 ≤ a0.Code)) false) (decide (a0.Code < 7)) false) (decide (0 ≤ a0.Count)) false) (decide (a0.Count ≤ 536870911)) false) ((m_ptr_width a0.Code).bind fun y2 => some ((IntKind.i64.wrap (Int.tdiv (IntKind.i64.wrap ((IntKind.i64.wrap (a0.Count * y2)) + 63)) 64)), true)) (some (0, false))))

noncomputable def m_ptr_lay (a0 : S_ptr_Ptr) : Option Int :=
  cond (a0.Kind == 1) (some (IntKind.u64.wrap (lorI .u64 (IntKind.u64.wrap (lorI .u64 (IntKind.u64.wrap (IntKind.u32.wrap ((IntKind.u32.wrap a0.Off) * 2 ^ min (Int.toNat 2) 32))) (IntKind.u64.wrap ((IntKind.u64.wrap a0.Data) * 2 ^ min (Int.toNat 32) 64)))) (IntKind.u64.wrap ((IntKind.u64.wrap a0.Ptrs) * 2 ^ min (Int.toNat 48) 64))))) (cond (a0.Kind == 2) (some (IntKind.u64.wrap (lorI .u64 (IntKind.u64.wrap (lorI .u64 (IntKind.u64.wrap (lorI .u64 1 (IntKind.u64.wrap (IntKind.u32.wrap ((IntKind.u32.wrap a0.Off) * 2 ^ min (Int.toNat 2) 32))))) (IntKind.u64.wrap ((IntKind.u64.wrap a0.Code) * 2 ^ min (Int.toNat 32) 64)))) (IntKind.u64.wrap ((IntKind.u64.wrap a0.Count) * 2 ^ min (Int.toNat 35) 64))))) (cond (a0.Kind == 3) ((cond a0.Double (some (IntKind.u64.wrap (lorI .u64 (IntKind.u64.wrap (lorI .u64 (IntKind.u64.wrap (lorI .u64 2 (IntKind.u64.wrap ((IntKind.u64.wrap a0.Off) * 2 ^ min (Int.toNat 3) 64)))) (IntKind.u64.wrap ((IntKind.u64.wrap a0.Segment) * 2 ^ min (Int.toNat 32) 64)))) 4))) (some (IntKind.u64.wrap (lorI .u64 (IntKind.u64.wrap (lorI .u64 2 (IntKind.u64.wrap ((IntKind.u64.wrap a0.Off) * 2 ^ min (Int.toNat 3) 64)))) (IntKind.u64.wrap ((IntKind.u64.wrap a0.Segment) * 2 ^ min (Int.toNat 32) 64)))))).bind fun (z1 : Int) => some z1) (some 0)))

noncomputable def m_ptr_offset (a0 : Int) : Option Int :=
  some (IntKind.i64.wrap (Int.fdiv (IntKind.i32.wrap (IntKind.u32.wrap a0)) (2 ^ min (Int.toNat 2) 32)))

noncomputable def m_ptr_field (a0 : Int) (a1 : Int) (a2 : Int) : Option Int :=
  (guardI (0 ≤ a1)).bind fun u3 => (guardI (0 ≤ a2)).bind fun u4 => some (IntKind.i64.wrap (IntKind.u64.wrap (landI .u64 (Int.fdiv a0 (2 ^ min (Int.toNat a1) 64)) (IntKind.u64.wrap ((IntKind.u64.wrap (1 * 2 ^ min (Int.toNat a2) 64)) - 1)))))

noncomputable def m_ptr_Decode (a0 : Int) : Option S_ptr_Ptr :=
  cond (a0 == 0) (some (⟨0, 0, 0, 0, 0, 0, 0, false⟩ : S_ptr_Ptr)) (cond ((IntKind.u64.wrap (landI .u64 a0 3)) == 0) ((m_ptr_offset a0).bind fun y4 => (m_ptr_field a0 32 16).bind fun y5 => (m_ptr_field a0 48 16).bind fun y6 => some (⟨1, y4, y5, y6, 0, 0, 0, false⟩ : S_ptr_Ptr)) (cond ((IntKind.u64.wrap (landI .u64 a0 3)) == 1) ((m_ptr_offset a0).bind fun y10 => (m_ptr_field a0 32 3).bind fun y11 => (m_ptr_field a0 35 29).bind fun y12 => some (⟨2, y10, 0, 0, y11, y12, 0, false⟩ : S_ptr_Ptr)) (cond ((IntKind.u64.wrap (landI .u64 a0 3)) == 2) ((m_ptr_field a0 3 29).bind fun y15 => (m_ptr_field a0 32 32).bind fun y16 => some (⟨3, y15, 0, 0, 0, 0, y16, ((IntKind.u64.wrap (landI .u64 (Int.fdiv a0 (2 ^ min (Int.toNat 2) 64)) 1)) == 1)⟩ : S_ptr_Ptr)) (some (⟨4, 0, 0, 0, 0, 0, 0, false⟩ : S_ptr_Ptr)))))

noncomputable def m_ptr_Encode (a0 : S_ptr_Ptr) : Option (Int × Bool) :=
  (m_ptr_lay a0).bind fun y2 => (cond (a0.Kind != 4) ((m_ptr_Decode y2).bind fun y6 => some (cond (a0.Kind != 4) ((y6.Kind == a0.Kind) && ((y6.Off == a0.Off) && ((y6.Data == a0.Data) && ((y6.Ptrs == a0.Ptrs) && ((y6.Code == a0.Code) && ((y6.Count == a0.Count) && ((y6.Segment == a0.Segment) && (y6.Double == a0.Double)))))))) false)) (some false)).bind fun (z4 : Bool) => some (y2, z4)

noncomputable def m_tree_Word (a0 : S_api_Tree) (a1 : Int) : Option Int :=
  cond (cond (decide (a1 < 0)) true (decide ((a0.Words.length : Int) ≤ a1))) (some 0) ((getI a0.Words a1).bind fun x2 => some x2)

noncomputable def m_word_Put_L0 (a0 : Int) (a1 : (List Int)) (s0_ : (Bool × Int)) : Option ((Bool × Int) ⊕ Bool) :=
  cond (decide (s0_.2 < (a1.length : Int))) ((getI a1 s0_.2).bind fun x4 => cond s0_.1 ((m_word_Fits a0 x4).bind fun y5 => some (.inl ((cond s0_.1 y5 false), (IntKind.i64.wrap (s0_.2 + 1))))) (some (.inl (false, (IntKind.i64.wrap (s0_.2 + 1)))))) (some (.inr s0_.1))

noncomputable def m_word_Put_L1 (a1 : (List Int)) (y2 : (Int × Bool)) (s1_ : (Int × (List Int))) : Option ((Int × (List Int)) ⊕ (List Int)) :=
  cond (decide (s1_.1 < (a1.length : Int))) ((getI a1 s1_.1).bind fun x16 => (guardI ((IntKind.i64.wrap (Int.tdiv 64 y2.1)) ≠ 0)).bind fun u17 => (getI s1_.2 (IntKind.i64.wrap (Int.tdiv s1_.1 (IntKind.i64.wrap (Int.tdiv 64 y2.1))))).bind fun x18 => (guardI ((IntKind.i64.wrap (Int.tdiv 64 y2.1)) ≠ 0)).bind fun u19 => (guardI (0 ≤ (IntKind.i64.wrap ((Int.tmod s1_.1 (IntKind.i64.wrap (Int.tdiv 64 y2.1))) * y2.1)))).bind fun u20 => some (.inl ((IntKind.i64.wrap (s1_.1 + 1)), (setI s1_.2 (IntKind.i64.wrap (Int.tdiv s1_.1 (IntKind.i64.wrap (Int.tdiv 64 y2.1)))) (IntKind.u64.wrap (lorI .u64 x18 (IntKind.u64.wrap (x16 * 2 ^ min (Int.toNat (IntKind.i64.wrap ((Int.tmod s1_.1 (IntKind.i64.wrap (Int.tdiv 64 y2.1))) * y2.1))) 64)))))))) (some (.inr s1_.2))

noncomputable def m_word_Put (a0 : Int) (a1 : (List Int)) : Option ((List Int) × Bool) :=
  (m_word_Width a0).bind fun y2 => (runLoop (m_word_Put_L0 a0 a1) (y2.2, 0)).bind fun (z8 : Bool) => cond (!z8) (some (([] : (List Int)), false)) ((m_word_Room a0 (a1.length : Int)).bind fun y11 => (makeI 8 y11 (0 : Int)).bind fun l12 => cond (y2.1 == 0) (some (l12, true)) ((guardI (y2.1 ≠ 0)).bind fun u14 => (runLoop (m_word_Put_L1 a1 y2) (0, l12)).bind fun (z24 : (List Int)) => some (z24, true)))

noncomputable def m_canon_numbers_L0 (a0 : S_api_Tree) (s0_ : (Int × (List Int))) : Option ((Int × (List Int)) ⊕ (List Int)) :=
  cond (decide (s0_.1 < (a0.Kids.length : Int))) ((getI a0.Kids s0_.1).bind fun x2 => (m_tree_Word x2 0).bind fun y3 => (appI 8 s0_.2 ([y3] : List Int)).bind fun l4 => some (.inl ((IntKind.i64.wrap (s0_.1 + 1)), l4))) (some (.inr s0_.2))

noncomputable def m_canon_numbers (a0 : S_api_Tree) : Option (List Int) :=
  (runLoop (m_canon_numbers_L0 a0) (0, ([] : List Int))).bind fun (z6 : (List Int)) => (m_word_Put (IntKind.i64.wrap (a0.Kind - 2)) z6).bind fun y8 => some y8.1

structure S_canon_layer where
  words : (List Int)
  next : Int

noncomputable def b_canon_layer_point (r_canon_layer_point : (S_canon_layer → Int → S_api_Tree → Option S_canon_layer)) (r_canon_layer_content : (S_canon_layer → Int → S_api_Tree → Option S_canon_layer)) (r_canon_layer_pointAll : (S_canon_layer → Int → (List S_api_Tree) → Option S_canon_layer)) (r_canon_layer_structs : (S_canon_layer → Int → S_api_Tree → Option S_canon_layer)) (a0 : S_canon_layer) (a1 : Int) (a2 : S_api_Tree) : Option S_canon_layer :=
  cond (a2.Kind == 0) (some (⟨a0.words, a0.next⟩ : S_canon_layer)) ((m_canon_shape a2).bind fun y2 => (m_ptr_Ptr_Words y2).bind fun y4 => (cond (cond (y2.Kind == 1) (y4.1 == 0) false) (some (-1)) (some (IntKind.i64.wrap ((IntKind.i64.wrap (a0.next - a1)) - 1)))).bind fun (z5 : Int) => (m_ptr_Encode (⟨y2.Kind, z5, y2.Data, y2.Ptrs, y2.Code, y2.Count, y2.Segment, y2.Double⟩ : S_ptr_Ptr)).bind fun y10 => (getI a0.words a1).bind fun x11 => (r_canon_layer_content (⟨(setI a0.words a1 y10.1), (IntKind.i64.wrap (a0.next + y4.1))⟩ : S_canon_layer) a0.next a2).bind fun y13 => some (⟨y13.words, y13.next⟩ : S_canon_layer))

noncomputable def b_canon_layer_content (r_canon_layer_point : (S_canon_layer → Int → S_api_Tree → Option S_canon_layer)) (r_canon_layer_content : (S_canon_layer → Int → S_api_Tree → Option S_canon_layer)) (r_canon_layer_pointAll : (S_canon_layer → Int → (List S_api_Tree) → Option S_canon_layer)) (r_canon_layer_structs : (S_canon_layer → Int → S_api_Tree → Option S_canon_layer)) (a0 : S_canon_layer) (a1 : Int) (a2 : S_api_Tree) : Option S_canon_layer :=
  cond (a2.Kind == 1) ((guardI (0 < List.length a0.words ∧ 0 ≤ a1 ∧ a1 ≤ (List.length a0.words : Int))).bind fun u1 => (r_canon_layer_pointAll (⟨(cpyAt a0.words a1 a2.Words), a0.next⟩ : S_canon_layer) (IntKind.i64.wrap (a1 + ((min (List.length a2.Words) (Int.toNat ((List.length a0.words : Int) - a1)) : Nat) : Int))) a2.Kids).bind fun y3 => some (⟨y3.words, y3.next⟩ : S_canon_layer)) (cond (a2.Kind == 8) ((r_canon_layer_pointAll (⟨a0.words, a0.next⟩ : S_canon_layer) a1 a2.Kids).bind fun y4 => some (⟨y4.words, y4.next⟩ : S_canon_layer)) (cond (a2.Kind == 9) ((r_canon_layer_structs (⟨a0.words, a0.next⟩ : S_canon_layer) a1 a2).bind fun y5 => some (⟨y5.words, y5.next⟩ : S_canon_layer)) ((guardI (0 < List.length a0.words ∧ 0 ≤ a1 ∧ a1 ≤ (List.length a0.words : Int))).bind fun u6 => (m_canon_numbers a2).bind fun y7 => some (⟨(cpyAt a0.words a1 y7), a0.next⟩ : S_canon_layer))))

noncomputable def b_canon_layer_pointAll_L0 (r_canon_layer_point : (S_canon_layer → Int → S_api_Tree → Option S_canon_layer)) (a1 : Int) (a2 : (List S_api_Tree)) (s0_ : (Int × (List Int) × Int)) : Option ((Int × (List Int) × Int) ⊕ ((List Int) × Int)) :=
  cond (decide (s0_.1 < (a2.length : Int))) ((getI a2 s0_.1).bind fun x2 => (r_canon_layer_point (⟨s0_.2.1, s0_.2.2⟩ : S_canon_layer) (IntKind.i64.wrap (a1 + s0_.1)) x2).bind fun y3 => some (.inl ((IntKind.i64.wrap (s0_.1 + 1)), y3.words, y3.next))) (some (.inr (s0_.2.1, s0_.2.2)))

noncomputable def b_canon_layer_pointAll (r_canon_layer_point : (S_canon_layer → Int → S_api_Tree → Option S_canon_layer)) (r_canon_layer_content : (S_canon_layer → Int → S_api_Tree → Option S_canon_layer)) (r_canon_layer_pointAll : (S_canon_layer → Int → (List S_api_Tree) → Option S_canon_layer)) (r_canon_layer_structs : (S_canon_layer → Int → S_api_Tree → Option S_canon_layer)) (a0 : S_canon_layer) (a1 : Int) (a2 : (List S_api_Tree)) : Option S_canon_layer :=
  (runLoop (b_canon_layer_pointAll_L0 r_canon_layer_point a1 a2) (0, a0.words, a0.next)).bind fun (z5 : ((List Int) × Int)) => some (⟨z5.1, z5.2⟩ : S_canon_layer)

noncomputable def b_canon_layer_structs_L0 (a1 : Int) (a2 : S_api_Tree) (y2 : (Int × Int)) (s0_ : (Int × (List Int))) : Option ((Int × (List Int)) ⊕ (List Int)) :=
  cond (decide (s0_.1 < (a2.Kids.length : Int))) ((getI a2.Kids s0_.1).bind fun x9 => (guardI (0 < List.length s0_.2 ∧ 0 ≤ (IntKind.i64.wrap ((IntKind.i64.wrap (a1 + 1)) + (IntKind.i64.wrap (s0_.1 * (IntKind.i64.wrap (y2.1 + y2.2)))))) ∧ (IntKind.i64.wrap ((IntKind.i64.wrap (a1 + 1)) + (IntKind.i64.wrap (s0_.1 * (IntKind.i64.wrap (y2.1 + y2.2)))))) ≤ (List.length s0_.2 : Int))).bind fun u10 => some (.inl ((IntKind.i64.wrap (s0_.1 + 1)), (cpyAt s0_.2 (IntKind.i64.wrap ((IntKind.i64.wrap (a1 + 1)) + (IntKind.i64.wrap (s0_.1 * (IntKind.i64.wrap (y2.1 + y2.2)))))) x9.Words)))) (some (.inr s0_.2))

noncomputable def b_canon_layer_structs_L1 (r_canon_layer_pointAll : (S_canon_layer → Int → (List S_api_Tree) → Option S_canon_layer)) (a1 : Int) (a2 : S_api_Tree) (y2 : (Int × Int)) (s1_ : (Int × (List Int) × Int)) : Option ((Int × (List Int) × Int) ⊕ ((List Int) × Int)) :=
  cond (decide (s1_.1 < (a2.Kids.length : Int))) ((getI a2.Kids s1_.1).bind fun x15 => (r_canon_layer_pointAll (⟨s1_.2.1, s1_.2.2⟩ : S_canon_layer) (IntKind.i64.wrap ((IntKind.i64.wrap ((IntKind.i64.wrap (a1 + 1)) + (IntKind.i64.wrap (s1_.1 * (IntKind.i64.wrap (y2.1 + y2.2)))))) + y2.1)) x15.Kids).bind fun y16 => some (.inl ((IntKind.i64.wrap (s1_.1 + 1)), y16.words, y16.next))) (some (.inr (s1_.2.1, s1_.2.2)))

noncomputable def b_canon_layer_structs (r_canon_layer_point : (S_canon_layer → Int → S_api_Tree → Option S_canon_layer)) (r_canon_layer_content : (S_canon_layer → Int → S_api_Tree → Option S_canon_layer)) (r_canon_layer_pointAll : (S_canon_layer → Int → (List S_api_Tree) → Option S_canon_layer)) (r_canon_layer_structs : (S_canon_layer → Int → S_api_Tree → Option S_canon_layer)) (a0 : S_canon_layer) (a1 : Int) (a2 : S_api_Tree) : Option S_canon_layer :=
  (m_tree_Frame a2).bind fun y2 => (cond (decide (0 < (a2.Kids.length : Int))) ((m_ptr_Encode (⟨1, (a2.Kids.length : Int), y2.1, y2.2, 0, 0, 0, false⟩ : S_ptr_Ptr)).bind fun y4 => (getI a0.words a1).bind fun x5 => some (setI a0.words a1 y4.1)) (some a0.words)).bind fun (z3 : (List Int)) => (runLoop (b_canon_layer_structs_L0 a1 a2 y2) (0, z3)).bind fun (z13 : (List Int)) => (runLoop (b_canon_layer_structs_L1 r_canon_layer_pointAll a1 a2 y2) (0, z13, a0.next)).bind fun (z18 : ((List Int) × Int)) => some (⟨z18.1, z18.2⟩ : S_canon_layer)

noncomputable def lv_canon_layer_point : Nat → ((S_canon_layer → Int → S_api_Tree → Option S_canon_layer) × (S_canon_layer → Int → S_api_Tree → Option S_canon_layer) × (S_canon_layer → Int → (List S_api_Tree) → Option S_canon_layer) × (S_canon_layer → Int → S_api_Tree → Option S_canon_layer))
  | 0 => ((fun _ _ _ => none), (fun _ _ _ => none), (fun _ _ _ => none), (fun _ _ _ => none))
  | k + 1 => (b_canon_layer_point ((lv_canon_layer_point k).1) ((lv_canon_layer_point k).2.1) ((lv_canon_layer_point k).2.2.1) ((lv_canon_layer_point k).2.2.2), b_canon_layer_content ((lv_canon_layer_point k).1) ((lv_canon_layer_point k).2.1) ((lv_canon_layer_point k).2.2.1) ((lv_canon_layer_point k).2.2.2), b_canon_layer_pointAll ((lv_canon_layer_point k).1) ((lv_canon_layer_point k).2.1) ((lv_canon_layer_point k).2.2.1) ((lv_canon_layer_point k).2.2.2), b_canon_layer_structs ((lv_canon_layer_point k).1) ((lv_canon_layer_point k).2.1) ((lv_canon_layer_point k).2.2.1) ((lv_canon_layer_point k).2.2.2))

noncomputable def m_canon_layer_point (a0 : S_canon_layer) (a1 : Int) (a2 : S_api_Tree) : Option S_canon_layer := lim fun k => (lv_canon_layer_point k).1 a0 a1 a2

noncomputable def m_canon_layer_content (a0 : S_canon_layer) (a1 : Int) (a2 : S_api_Tree) : Option S_canon_layer := lim fun k => (lv_canon_layer_point k).2.1 a0 a1 a2

noncomputable def m_canon_layer_pointAll (a0 : S_canon_layer) (a1 : Int) (a2 : (List S_api_Tree)) : Option S_canon_layer := lim fun k => (lv_canon_layer_point k).2.2.1 a0 a1 a2

noncomputable def m_canon_layer_structs (a0 : S_canon_layer) (a1 : Int) (a2 : S_api_Tree) : Option S_canon_layer := lim fun k => (lv_canon_layer_point k).2.2.2 a0 a1 a2

noncomputable def m_canon_Encode (a0 : S_api_Tree) (a1 : Int) : Option ((List Int) × Bool) :=
  (cond (a0.Kind == 10) (some true) ((m_tree_Right a0).bind fun y4 => some (cond (a0.Kind == 10) true (!y4)))).bind fun (z2 : Bool) => cond z2 (some (([] : (List Int)), false)) ((m_tree_Norm a0).bind fun y7 => (m_tree_Size y7).bind fun y9 => cond (cond (decide (a1 < (IntKind.i64.wrap (1 + y9)))) true (decide (131072 < (IntKind.i64.wrap (1 + y9))))) (some (([] : (List Int)), false)) ((makeI 8 (IntKind.i64.wrap (1 + y9)) (0 : Int)).bind fun l11 => (m_canon_layer_point (⟨l11, 1⟩ : S_canon_layer) 0 y7).bind fun y13 => some (y13.words, true)))

noncomputable def m_centoref01_Same_L0 (a0 : (List Int)) (a1 : (List Int)) (s0_ : Int) : Option (Int ⊕ (Unit ⊕ Unit)) :=
  cond (decide (s0_ < (a0.length : Int))) ((getI a0 s0_).bind fun x3 => (getI a1 s0_).bind fun x4 => cond (x3 != x4) (some (.inr (.inl ()))) (some (.inl (IntKind.i64.wrap (s0_ + 1))))) (some (.inr (.inr ())))

noncomputable def m_centoref01_Same (a0 : (List Int)) (a1 : (List Int)) : Option Bool :=
  cond ((a0.length : Int) != (a1.length : Int)) (some false) ((runLoop (m_centoref01_Same_L0 a0 a1) 0).bind fun (z7 : (Unit ⊕ Unit)) => match z7 with | .inl z7 => some false | .inr z7 => some true)

noncomputable def m_centolaw12_awake  : Option Bool :=
  (m_canon_Encode (⟨1, ([5] : List Int), ([(⟨8, [], ([(⟨0, [], []⟩ : S_api_Tree)] : List S_api_Tree)⟩ : S_api_Tree)] : List S_api_Tree)⟩ : S_api_Tree) 9).bind fun y2 => (cond y2.2 ((m_centoref01_Same y2.1 ([281479271677952, 5, 60129542145, 0] : List Int)).bind fun y6 => some (cond y2.2 y6 false)) (some false)).bind fun (z4 : Bool) => some z4

noncomputable def m_centoref01_Width (a0 : Int) : Option Int :=
  cond (a0 == 0) (some 0) (cond (a0 == 1) (some 1) (cond (a0 == 2) (some 8) (cond (a0 == 3) (some 16) (cond (a0 == 4) (some 32) (cond (a0 == 5) (some 64) (some (-1)))))))

noncomputable def m_centoref01_Fits_L0 (y2 : Int) (s0_ : (Int × Int)) : Option ((Int × Int) ⊕ Int) :=
  cond (decide (s0_.2 < y2)) (some (.inl ((IntKind.u64.wrap (Int.tdiv s0_.1 2)), (IntKind.i64.wrap (s0_.2 + 1))))) (some (.inr s0_.1))

noncomputable def m_centoref01_Fits (a0 : Int) (a1 : Int) : Option Bool :=
  (m_centoref01_Width a0).bind fun y2 => cond (decide (y2 < 0)) (some false) ((runLoop (m_centoref01_Fits_L0 y2) (a1, 0)).bind fun (z4 : Int) => some (z4 == 0))

noncomputable def b_centoref07_Right_L0 (r_centoref07_Right : (S_api_Tree → Int → Option Bool)) (a0 : S_api_Tree) (a1 : Int) (s0_ : Int) : Option (Int ⊕ (Unit ⊕ Unit)) :=
  cond (decide (s0_ < (a0.Kids.length : Int))) ((getI a0.Kids s0_).bind fun x2 => (r_centoref07_Right x2 (IntKind.i64.wrap (a1 - 1))).bind fun y4 => cond (!y4) (some (.inr (.inl ()))) ((cond ((cond (decide (2 ≤ a0.Kind)) (decide (a0.Kind ≤ 7)) false) != (x2.Kind == 10)) (some true) (cond (a0.Kind == 9) (cond (x2.Kind != 1) (some true) (cond (decide (2 ≤ a0.Kind)) (cond (decide (a0.Kind ≤ 7)) ((getI x2.Words 0).bind fun x14 => (m_centoref01_Fits (IntKind.i64.wrap (a0.Kind - 2)) x14).bind fun y15 => some (cond (cond ((cond (decide (2 ≤ a0.Kind)) (decide (a0.Kind ≤ 7)) false) != (x2.Kind == 10)) true (cond (a0.Kind == 9) (x2.Kind != 1) false)) true (cond (cond (decide (2 ≤ a0.Kind)) (decide (a0.Kind ≤ 7)) false) (!y15) false))) (some (cond (cond ((cond (decide (2 ≤ a0.Kind)) (decide (a0.Kind ≤ 7)) false) != (x2.Kind == 10)) true (cond (a0.Kind == 9) (x2.Kind != 1) false)) true false))) (some (cond (cond ((cond (decide (2 ≤ a0.Kind)) (decide (a0.Kind ≤ 7)) false) != (x2.Kind == 10)) true (cond (a0.Kind == 9) (x2.Kind != 1) false)) true false)))) (cond (decide (2 ≤ a0.Kind)) (cond (decide (a0.Kind ≤ 7)) ((getI x2.Words 0).bind fun x16 => (m_centoref01_Fits (IntKind.i64.wrap (a0.Kind - 2)) x16).bind fun y17 => some (cond (cond ((cond (decide (2 ≤ a0.Kind)) (decide (a0.Kind ≤ 7)) false) != (x2.Kind == 10)) true (cond (a0.Kind == 9) (x2.Kind != 1) false)) true (cond (cond (decide (2 ≤ a0.Kind)) (decide (a0.Kind ≤ 7)) false) (!y17) false))) (some (cond (cond ((cond (decide (2 ≤ a0.Kind)) (decide (a0.Kind ≤ 7)) false) != (x2.Kind == 10)) true (cond (a0.Kind == 9) (x2.Kind != 1) false)) true false))) (some (cond (cond ((cond (decide (2 ≤ a0.Kind)) (decide (a0.Kind ≤ 7)) false) != (x2.Kind == 10)) true (cond (a0.Kind == 9) (x2.Kind != 1) false)) true false))))).bind fun (z9 : Bool) => cond z9 (some (.inr (.inl ()))) (some (.inl (IntKind.i64.wrap (s0_ + 1)))))) (some (.inr (.inr ())))

noncomputable def b_centoref07_Right (r_centoref07_Right : (S_api_Tree → Int → Option Bool)) (a0 : S_api_Tree) (a1 : Int) : Option Bool :=
  cond (a0.Kind == 0) (some (cond ((a0.Words.length : Int) == 0) ((a0.Kids.length : Int) == 0) false)) (cond (a0.Kind == 10) (some (cond ((a0.Words.length : Int) == 1) ((a0.Kids.length : Int) == 0) false)) (cond (cond (cond (cond (cond (cond (decide (a0.Kind < 0)) true (decide (10 < a0.Kind))) true (a1 == 0)) true (decide (65536 ≤ (a0.Words.length : Int)))) true (cond (a0.Kind == 1) (decide (65536 ≤ (a0.Kids.length : Int))) false)) true (decide (1048576 ≤ (a0.Kids.length : Int)))) (some false) (cond (cond (decide (1 < a0.Kind)) (decide (0 < (a0.Words.length : Int))) false) (some false) ((runLoop (b_centoref07_Right_L0 r_centoref07_Right a0 a1) 0).bind fun (z28 : (Unit ⊕ Unit)) => match z28 with | .inl z28 => some false | .inr z28 => some true))))

noncomputable def lv_centoref07_Right : Nat → (S_api_Tree → Int → Option Bool)
  | 0 => (fun _ _ => none)
  | k + 1 => b_centoref07_Right ((lv_centoref07_Right k))

noncomputable def m_centoref07_Right (a0 : S_api_Tree) (a1 : Int) : Option Bool := lim fun k => (lv_centoref07_Right k) a0 a1

noncomputable def m_centoref07_Trim_L0 (a0 : (List Int)) (s0_ : Int) : Option (Int ⊕ Int) :=
  (cond (decide (0 < s0_)) ((getI a0 (IntKind.i64.wrap (s0_ - 1))).bind fun x4 => some (cond (decide (0 < s0_)) (x4 == 0) false)) (some false)).bind fun (z2 : Bool) => cond z2 (some (.inl (IntKind.i64.wrap (s0_ - 1)))) (some (.inr s0_))

noncomputable def m_centoref07_Trim (a0 : (List Int)) : Option (List Int) :=
  (runLoop (m_centoref07_Trim_L0 a0) (a0.length : Int)).bind fun (z7 : Int) => (subI a0 0 z7).bind fun l10 => (appI 8 ([] : List Int) l10).bind fun l11 => some l11

noncomputable def b_centoref07_Norm_L0 (r_centoref07_Norm : (S_api_Tree → Option S_api_Tree)) (a0 : S_api_Tree) (s0_ : (Int × Int × (List S_api_Tree))) : Option ((Int × Int × (List S_api_Tree)) ⊕ (Int × (List S_api_Tree))) :=
  cond (decide (s0_.2.1 < (a0.Kids.length : Int))) (((getI a0.Kids s0_.2.1).bind fun x4 => (r_centoref07_Norm x4).bind fun y5 => (appI 56 s0_.2.2 ([y5] : List S_api_Tree)).bind fun l7 => cond (y5.Kind != 0) (some ((IntKind.i64.wrap (s0_.2.1 + 1)), l7)) (some (s0_.1, l7))).bind fun (z1 : (Int × (List S_api_Tree))) => some (.inl (z1.1, (IntKind.i64.wrap (s0_.2.1 + 1)), z1.2))) (some (.inr (s0_.1, s0_.2.2)))

noncomputable def b_centoref07_Norm (r_centoref07_Norm : (S_api_Tree → Option S_api_Tree)) (a0 : S_api_Tree) : Option S_api_Tree :=
  cond (a0.Kind == 0) (some (⟨0, [], []⟩ : S_api_Tree)) ((runLoop (b_centoref07_Norm_L0 r_centoref07_Norm a0) (0, 0, ([] : List S_api_Tree))).bind fun (z10 : (Int × (List S_api_Tree))) => cond (a0.Kind == 1) ((m_centoref07_Trim a0.Words).bind fun y14 => (subI z10.2 0 z10.1).bind fun l15 => some (⟨1, y14, l15⟩ : S_api_Tree)) ((appI 8 ([] : List Int) a0.Words).bind fun l17 => some (⟨a0.Kind, l17, z10.2⟩ : S_api_Tree)))

noncomputable def lv_centoref07_Norm : Nat → (S_api_Tree → Option S_api_Tree)
  | 0 => (fun _ => none)
  | k + 1 => b_centoref07_Norm ((lv_centoref07_Norm k))

noncomputable def m_centoref07_Norm (a0 : S_api_Tree) : Option S_api_Tree := lim fun k => (lv_centoref07_Norm k) a0

noncomputable def m_centoref01_Room (a0 : Int) (a1 : Int) : Option Int :=
  (m_centoref01_Width a0).bind fun y2 => cond (cond (cond (decide (y2 < 1)) true (decide (a1 < 0))) true (decide (1099511627776 < a1))) (some 0) ((m_centoref01_Width a0).bind fun y5 => (guardI (y5 ≠ 0)).bind fun u6 => (guardI ((IntKind.i64.wrap (Int.tdiv 64 y5)) ≠ 0)).bind fun u8 => cond (decide (0 < (Int.tmod a1 (IntKind.i64.wrap (Int.tdiv 64 y5))))) ((guardI ((IntKind.i64.wrap (Int.tdiv 64 y5)) ≠ 0)).bind fun u10 => some (IntKind.i64.wrap ((IntKind.i64.wrap (Int.tdiv a1 (IntKind.i64.wrap (Int.tdiv 64 y5)))) + 1))) ((guardI ((IntKind.i64.wrap (Int.tdiv 64 y5)) ≠ 0)).bind fun u12 => some (IntKind.i64.wrap (Int.tdiv a1 (IntKind.i64.wrap (Int.tdiv 64 y5))))))

noncomputable def m_centoref07_Frame_L0 (a0 : S_api_Tree) (s0_ : (Int × Int × Int)) : Option ((Int × Int × Int) ⊕ (Int × Int)) :=
  cond (decide (s0_.2.2 < (a0.Kids.length : Int))) ((((getI a0.Kids s0_.2.2).bind fun x5 => cond (decide (s0_.1 < (x5.Words.length : Int))) ((getI a0.Kids s0_.2.2).bind fun x7 => some (x7.Words.length : Int)) (some s0_.1)).bind fun (z2 : Int) => (getI a0.Kids s0_.2.2).bind fun x12 => cond (decide (s0_.2.1 < (x12.Kids.length : Int))) ((getI a0.Kids s0_.2.2).bind fun x14 => some (z2, (x14.Kids.length : Int))) (some (z2, s0_.2.1))).bind fun (z1 : (Int × Int)) => some (.inl (z1.1, z1.2, (IntKind.i64.wrap (s0_.2.2 + 1))))) (some (.inr (s0_.1, s0_.2.1)))

noncomputable def m_centoref07_Frame (a0 : S_api_Tree) : Option (Int × Int) :=
  (runLoop (m_centoref07_Frame_L0 a0) (0, 0, 0)).bind fun (z18 : (Int × Int)) => some (z18.1, z18.2)

noncomputable def b_centoref07_Size_L1 (r_centoref07_Size : (S_api_Tree → Option Int)) (a0 : S_api_Tree) (s0_ : (Int × Int)) (s1_ : (Int × Int)) : Option ((Int × Int) ⊕ Int) :=
  (getI a0.Kids s0_.2).bind fun x14 => cond (decide (s1_.2 < (x14.Kids.length : Int))) ((getI a0.Kids s0_.2).bind fun x16 => (getI x16.Kids s1_.2).bind fun x18 => (r_centoref07_Size x18).bind fun y19 => some (.inl ((IntKind.i64.wrap (s1_.1 + y19)), (IntKind.i64.wrap (s1_.2 + 1))))) (some (.inr s1_.1))

noncomputable def b_centoref07_Size_L0 (r_centoref07_Size : (S_api_Tree → Option Int)) (a0 : S_api_Tree) (s0_ : (Int × Int)) : Option ((Int × Int) ⊕ Int) :=
  cond (decide (s0_.2 < (a0.Kids.length : Int))) ((runLoop (b_centoref07_Size_L1 r_centoref07_Size a0 s0_) (s0_.1, 0)).bind fun (z21 : Int) => some (.inl (z21, (IntKind.i64.wrap (s0_.2 + 1))))) (some (.inr s0_.1))

noncomputable def b_centoref07_Size_L2 (r_centoref07_Size : (S_api_Tree → Option Int)) (a0 : S_api_Tree) (s2_ : (Int × Int)) : Option ((Int × Int) ⊕ Int) :=
  cond (decide (s2_.2 < (a0.Kids.length : Int))) ((getI a0.Kids s2_.2).bind fun x28 => (r_centoref07_Size x28).bind fun y29 => some (.inl ((IntKind.i64.wrap (s2_.1 + y29)), (IntKind.i64.wrap (s2_.2 + 1))))) (some (.inr s2_.1))

noncomputable def b_centoref07_Size (r_centoref07_Size : (S_api_Tree → Option Int)) (a0 : S_api_Tree) : Option Int :=
  (cond (a0.Kind == 1) (some (.inl (IntKind.i64.wrap ((a0.Words.length : Int) + (a0.Kids.length : Int))))) (cond (a0.Kind == 8) (some (.inl (a0.Kids.length : Int))) ((cond (a0.Kind == 2) (some (a0.Kind == 2)) (cond (a0.Kind == 3) (some (a0.Kind == 3)) (cond (a0.Kind == 4) (some (a0.Kind == 4)) (cond (a0.Kind == 5) (some (a0.Kind == 5)) (cond (a0.Kind == 6) (some (a0.Kind == 6)) (some (a0.Kind == 7))))))).bind fun (z2 : Bool) => cond z2 ((m_centoref01_Room (IntKind.i64.wrap (a0.Kind - 2)) (a0.Kids.length : Int)).bind fun y9 => some (.inr y9)) (cond (a0.Kind == 9) ((m_centoref07_Frame a0).bind fun y11 => (runLoop (b_centoref07_Size_L0 r_centoref07_Size a0) ((IntKind.i64.wrap (1 + (IntKind.i64.wrap ((a0.Kids.length : Int) * (IntKind.i64.wrap (y11.1 + y11.2)))))), 0)).bind fun (z23 : Int) => some (.inr z23)) (some (.inl 0)))))).bind fun (z1 : (Int ⊕ Int)) => match z1 with | .inl z1 => (runLoop (b_centoref07_Size_L2 r_centoref07_Size a0) (z1, 0)).bind fun (z31 : Int) => some z31 | .inr z1 => some z1

noncomputable def lv_centoref07_Size : Nat → (S_api_Tree → Option Int)
  | 0 => (fun _ => none)
  | k + 1 => b_centoref07_Size ((lv_centoref07_Size k))

noncomputable def m_centoref07_Size (a0 : S_api_Tree) : Option Int := lim fun k => (lv_centoref07_Size k) a0

noncomputable def m_centoref12_pointer (a0 : Int) (a1 : Int) (a2 : Int) (a3 : Int) : Option Int :=
  (cond (decide ((IntKind.i64.wrap ((IntKind.i64.wrap (a1 - a0)) - 1)) < 0)) (some (IntKind.i64.wrap ((IntKind.i64.wrap ((IntKind.i64.wrap (a1 - a0)) - 1)) + 1073741824))) (some (IntKind.i64.wrap ((IntKind.i64.wrap (a1 - a0)) - 1)))).bind fun (z1 : Int) => some (IntKind.u64.wrap ((IntKind.u64.wrap (IntKind.i64.wrap ((IntKind.i64.wrap (4 * z1)) + a2))) + (IntKind.u64.wrap (a3 * 4294967296))))

noncomputable def m_centoref12_add_L0 (a1 : Int) (s0_ : (Int × (List Int))) : Option ((Int × (List Int)) ⊕ (List Int)) :=
  cond (decide (s0_.1 < a1)) ((appI 8 s0_.2 ([0] : List Int)).bind fun l1 => some (.inl ((IntKind.i64.wrap (s0_.1 + 1)), l1))) (some (.inr s0_.2))

noncomputable def m_centoref12_add (a0 : (List Int)) (a1 : Int) : Option (List Int) :=
  (runLoop (m_centoref12_add_L0 a1) (0, a0)).bind fun (z3 : (List Int)) => some z3

noncomputable def m_centoref12_atoms_L0 (a0 : S_api_Tree) (s0_ : (Int × (List Int))) : Option ((Int × (List Int)) ⊕ (List Int)) :=
  cond (decide (s0_.1 < (a0.Kids.length : Int))) ((getI a0.Kids s0_.1).bind fun x1 => (getI x1.Words 0).bind fun x3 => (appI 8 s0_.2 ([x3] : List Int)).bind fun l4 => some (.inl ((IntKind.i64.wrap (s0_.1 + 1)), l4))) (some (.inr s0_.2))

noncomputable def m_centoref12_atoms (a0 : S_api_Tree) : Option (List Int) :=
  (runLoop (m_centoref12_atoms_L0 a0) (0, ([] : List Int))).bind fun (z6 : (List Int)) => some z6

noncomputable def m_centoref01_Put_L1 (y2 : Int) (s0_ : (Int × (List Int))) (s1_ : (Int × Int)) : Option ((Int × Int) ⊕ Int) :=
  cond (decide (s1_.2 < (Int.tmod (IntKind.i64.wrap (s0_.1 * y2)) 64))) (some (.inl ((IntKind.u64.wrap (s1_.1 * 2)), (IntKind.i64.wrap (s1_.2 + 1))))) (some (.inr s1_.1))

noncomputable def m_centoref01_Put_L0 (a0 : Int) (a1 : (List Int)) (y2 : Int) (s0_ : (Int × (List Int))) : Option ((Int × (List Int)) ⊕ (Unit ⊕ (List Int))) :=
  cond (decide (s0_.1 < (a1.length : Int))) (((getI a1 s0_.1).bind fun x9 => (m_centoref01_Fits a0 x9).bind fun y11 => cond (!y11) (some (.inr ())) ((runLoop (m_centoref01_Put_L1 y2 s0_) (x9, 0)).bind fun (z13 : Int) => cond (decide (0 < y2)) ((getI s0_.2 (IntKind.i64.wrap (Int.tdiv (IntKind.i64.wrap (s0_.1 * y2)) 64))).bind fun x14 => some (.inl (setI s0_.2 (IntKind.i64.wrap (Int.tdiv (IntKind.i64.wrap (s0_.1 * y2)) 64)) (IntKind.u64.wrap (x14 + z13))))) (some (.inl s0_.2)))).bind fun (z7 : ((List Int) ⊕ Unit)) => match z7 with | .inl z7 => some (.inl ((IntKind.i64.wrap (s0_.1 + 1)), z7)) | .inr z7 => some (.inr (.inl ()))) (some (.inr (.inr s0_.2)))

noncomputable def m_centoref01_Put (a0 : Int) (a1 : (List Int)) : Option ((List Int) × Bool) :=
  (m_centoref01_Width a0).bind fun y2 => cond (decide (y2 < 0)) (some (([] : (List Int)), false)) ((m_centoref01_Room a0 (a1.length : Int)).bind fun y5 => (makeI 8 y5 (0 : Int)).bind fun l6 => (runLoop (m_centoref01_Put_L0 a0 a1 y2) (0, l6)).bind fun (z20 : (Unit ⊕ (List Int))) => match z20 with | .inl z20 => some (([] : (List Int)), false) | .inr z20 => some (z20, true))

noncomputable def b_centoref12_Lay_L0 (r_centoref12_Lay : ((List Int) → Int → S_api_Tree → Option (List Int))) (a2 : S_api_Tree) (z1 : Int) (s0_ : (Int × (List Int))) : Option ((Int × (List Int)) ⊕ (List Int)) :=
  cond (decide (s0_.1 < (a2.Kids.length : Int))) ((getI a2.Kids s0_.1).bind fun x13 => (r_centoref12_Lay s0_.2 (IntKind.i64.wrap ((IntKind.i64.wrap (z1 + (a2.Words.length : Int))) + s0_.1)) x13).bind fun y14 => some (.inl ((IntKind.i64.wrap (s0_.1 + 1)), y14))) (some (.inr s0_.2))

noncomputable def b_centoref12_Lay_L1 (r_centoref12_Lay : ((List Int) → Int → S_api_Tree → Option (List Int))) (a0 : (List Int)) (a2 : S_api_Tree) (s1_ : (Int × (List Int))) : Option ((Int × (List Int)) ⊕ (List Int)) :=
  cond (decide (s1_.1 < (a2.Kids.length : Int))) ((getI a2.Kids s1_.1).bind fun x25 => (r_centoref12_Lay s1_.2 (IntKind.i64.wrap ((a0.length : Int) + s1_.1)) x25).bind fun y26 => some (.inl ((IntKind.i64.wrap (s1_.1 + 1)), y26))) (some (.inr s1_.2))

noncomputable def b_centoref12_Lay_L2 (a2 : S_api_Tree) (y30 : (Int × Int)) (s2_ : (Int × (List Int))) : Option ((Int × (List Int)) ⊕ (List Int)) :=
  cond (decide (s2_.1 < (a2.Kids.length : Int))) ((getI a2.Kids s2_.1).bind fun x42 => (appI 8 s2_.2 x42.Words).bind fun l44 => (getI a2.Kids s2_.1).bind fun x45 => (m_centoref12_add l44 (IntKind.i64.wrap ((IntKind.i64.wrap (y30.1 + y30.2)) - (x45.Words.length : Int)))).bind fun y47 => some (.inl ((IntKind.i64.wrap (s2_.1 + 1)), y47))) (some (.inr s2_.2))

noncomputable def b_centoref12_Lay_L4 (r_centoref12_Lay : ((List Int) → Int → S_api_Tree → Option (List Int))) (a0 : (List Int)) (a2 : S_api_Tree) (y30 : (Int × Int)) (s3_ : (Int × (List Int))) (s4_ : (Int × (List Int))) : Option ((Int × (List Int)) ⊕ (List Int)) :=
  (getI a2.Kids s3_.1).bind fun x52 => cond (decide (s4_.1 < (x52.Kids.length : Int))) ((getI a2.Kids s3_.1).bind fun x54 => (getI x54.Kids s4_.1).bind fun x56 => (r_centoref12_Lay s4_.2 (IntKind.i64.wrap ((IntKind.i64.wrap ((IntKind.i64.wrap ((IntKind.i64.wrap ((a0.length : Int) + 1)) + (IntKind.i64.wrap (s3_.1 * (IntKind.i64.wrap (y30.1 + y30.2)))))) + y30.1)) + s4_.1)) x56).bind fun y57 => some (.inl ((IntKind.i64.wrap (s4_.1 + 1)), y57))) (some (.inr s4_.2))

noncomputable def b_centoref12_Lay_L3 (r_centoref12_Lay : ((List Int) → Int → S_api_Tree → Option (List Int))) (a0 : (List Int)) (a2 : S_api_Tree) (y30 : (Int × Int)) (s3_ : (Int × (List Int))) : Option ((Int × (List Int)) ⊕ (List Int)) :=
  cond (decide (s3_.1 < (a2.Kids.length : Int))) ((runLoop (b_centoref12_Lay_L4 r_centoref12_Lay a0 a2 y30 s3_) (0, s3_.2)).bind fun (z59 : (List Int)) => some (.inl ((IntKind.i64.wrap (s3_.1 + 1)), z59))) (some (.inr s3_.2))

noncomputable def b_centoref12_Lay (r_centoref12_Lay : ((List Int) → Int → S_api_Tree → Option (List Int))) (a0 : (List Int)) (a1 : Int) (a2 : S_api_Tree) : Option (List Int) :=
  cond (a2.Kind == 0) (some a0) (cond (a2.Kind == 1) ((cond ((IntKind.i64.wrap ((a2.Words.length : Int) + (a2.Kids.length : Int))) == 0) (some a1) (some (a0.length : Int))).bind fun (z1 : Int) => (m_centoref12_pointer a1 z1 0 (IntKind.u64.wrap ((IntKind.u64.wrap (a2.Words.length : Int)) + (IntKind.u64.wrap (65536 * (IntKind.u64.wrap (a2.Kids.length : Int))))))).bind fun y6 => (getI a0 a1).bind fun x7 => (appI 8 (setI a0 a1 y6) a2.Words).bind fun l10 => (m_centoref12_add l10 (a2.Kids.length : Int)).bind fun y12 => (runLoop (b_centoref12_Lay_L0 r_centoref12_Lay a2 z1) (0, y12)).bind fun (z16 : (List Int)) => some z16) (cond (a2.Kind == 8) ((m_centoref12_pointer a1 (a0.length : Int) 1 (IntKind.u64.wrap (6 + (IntKind.u64.wrap (8 * (IntKind.u64.wrap (a2.Kids.length : Int))))))).bind fun y20 => (getI a0 a1).bind fun x21 => (m_centoref12_add (setI a0 a1 y20) (a2.Kids.length : Int)).bind fun y24 => (runLoop (b_centoref12_Lay_L1 r_centoref12_Lay a0 a2) (0, y24)).bind fun (z28 : (List Int)) => some z28) (cond (a2.Kind == 9) ((m_centoref07_Frame a2).bind fun y30 => (m_centoref12_pointer a1 (a0.length : Int) 1 (IntKind.u64.wrap (7 + (IntKind.u64.wrap (8 * (IntKind.u64.wrap (IntKind.i64.wrap ((a2.Kids.length : Int) * (IntKind.i64.wrap (y30.1 + y30.2)))))))))).bind fun y34 => (getI a0 a1).bind fun x35 => (appI 8 (setI a0 a1 y34) ([(IntKind.u64.wrap ((IntKind.u64.wrap (IntKind.i64.wrap (4 * (a2.Kids.length : Int)))) + (IntKind.u64.wrap (4294967296 * (IntKind.u64.wrap ((IntKind.u64.wrap y30.1) + (IntKind.u64.wrap (65536 * (IntKind.u64.wrap y30.2)))))))))] : List Int)).bind fun l38 => (runLoop (b_centoref12_Lay_L2 a2 y30) (0, l38)).bind fun (z49 : (List Int)) => (runLoop (b_centoref12_Lay_L3 r_centoref12_Lay a0 a2 y30) (0, z49)).bind fun (z61 : (List Int)) => some z61) ((m_centoref12_atoms a2).bind fun y64 => (m_centoref01_Put (IntKind.i64.wrap (a2.Kind - 2)) y64).bind fun y65 => (m_centoref12_pointer a1 (a0.length : Int) 1 (IntKind.u64.wrap ((IntKind.u64.wrap (IntKind.i64.wrap (a2.Kind - 2))) + (IntKind.u64.wrap (8 * (IntKind.u64.wrap (a2.Kids.length : Int))))))).bind fun y69 => (getI a0 a1).bind fun x70 => (appI 8 (setI a0 a1 y69) y65.1).bind fun l73 => some l73))))

noncomputable def lv_centoref12_Lay : Nat → ((List Int) → Int → S_api_Tree → Option (List Int))
  | 0 => (fun _ _ _ => none)
  | k + 1 => b_centoref12_Lay ((lv_centoref12_Lay k))

noncomputable def m_centoref12_Lay (a0 : (List Int)) (a1 : Int) (a2 : S_api_Tree) : Option (List Int) := lim fun k => (lv_centoref12_Lay k) a0 a1 a2

noncomputable def m_centoref12_Encode (a0 : S_api_Tree) (a1 : Int) : Option ((List Int) × Bool) :=
  (m_centoref07_Right a0 64).bind fun y2 => cond (cond (!y2) true (a0.Kind == 10)) (some (([] : (List Int)), false)) ((m_centoref07_Norm a0).bind fun y4 => ((m_centoref07_Size y4).bind fun y10 => cond (decide (a1 ≤ y10)) (some true) ((m_centoref07_Size y4).bind fun y11 => some (cond (decide (a1 ≤ y10)) true (decide (131072 ≤ y11))))).bind fun (z7 : Bool) => cond z7 (some (([] : (List Int)), false)) ((m_centoref12_Lay ([0] : List Int) 0 y4).bind fun y14 => some (y14, true)))

noncomputable def m_centolaw12_CanonEncodes (a0 : S_api_Tree) (a1 : Int) : Option Bool :=
  (m_centoref07_Few a0).bind fun y2 => cond (!y2) ((m_centolaw12_awake).bind fun y4 => some y4) ((m_canon_Encode a0 a1).bind fun y6 => (m_centoref12_Encode a0 a1).bind fun y8 => ((m_centoref01_Same y6.1 y8.1).bind fun y14 => cond y14 (cond (y6.2 == y8.2) ((m_centolaw12_awake).bind fun y15 => some (cond (cond y14 (y6.2 == y8.2) false) y15 false)) (some false)) (some false)).bind fun (z11 : Bool) => some z11)

noncomputable def b_centoref07_Same_L0 (r_centoref07_Same : (S_api_Tree → S_api_Tree → Option Bool)) (a0 : S_api_Tree) (a1 : S_api_Tree) (s0_ : Int) : Option (Int ⊕ (Unit ⊕ Unit)) :=
  cond (decide (s0_ < (a0.Kids.length : Int))) ((getI a0.Kids s0_).bind fun x9 => (getI a1.Kids s0_).bind fun x10 => (r_centoref07_Same x9 x10).bind fun y11 => cond (!y11) (some (.inr (.inl ()))) (some (.inl (IntKind.i64.wrap (s0_ + 1))))) (some (.inr (.inr ())))

noncomputable def b_centoref07_Same (r_centoref07_Same : (S_api_Tree → S_api_Tree → Option Bool)) (a0 : S_api_Tree) (a1 : S_api_Tree) : Option Bool :=
  (cond (a0.Kind != a1.Kind) (some true) ((m_centoref01_Same a0.Words a1.Words).bind fun y4 => some (cond (cond (a0.Kind != a1.Kind) true (!y4)) true ((a0.Kids.length : Int) != (a1.Kids.length : Int))))).bind fun (z2 : Bool) => cond z2 (some false) ((runLoop (b_centoref07_Same_L0 r_centoref07_Same a0 a1) 0).bind fun (z14 : (Unit ⊕ Unit)) => match z14 with | .inl z14 => some false | .inr z14 => some true)

noncomputable def lv_centoref07_Same : Nat → (S_api_Tree → S_api_Tree → Option Bool)
  | 0 => (fun _ _ => none)
  | k + 1 => b_centoref07_Same ((lv_centoref07_Same k))

noncomputable def m_centoref07_Same (a0 : S_api_Tree) (a1 : S_api_Tree) : Option Bool := lim fun k => (lv_centoref07_Same k) a0 a1

noncomputable def m_centoref07_Equal (a0 : S_api_Tree) (a1 : S_api_Tree) : Option Bool :=
  (m_centoref07_Norm a0).bind fun y4 => (m_centoref07_Norm a1).bind fun y5 => (m_centoref07_Same y4 y5).bind fun y6 => some y6

noncomputable def m_centolaw12_CanonOne (a0 : S_api_Tree) (a1 : S_api_Tree) : Option Bool :=
  ((m_centoref07_Few a0).bind fun y6 => cond y6 ((m_centoref07_Few a1).bind fun y7 => some (cond (!y6) true (!y7))) (some true)).bind fun (z3 : Bool) => cond z3 ((m_centolaw12_awake).bind fun y10 => some y10) ((m_canon_Encode a0 131072).bind fun y12 => (m_canon_Encode a1 131072).bind fun y14 => cond (cond (!y12.2) true (!y14.2)) ((m_centolaw12_awake).bind fun y16 => some y16) (((m_centoref01_Same y12.1 y14.1).bind fun y24 => (m_centoref07_Equal a0 a1).bind fun y25 => cond (y24 == y25) ((m_centolaw12_awake).bind fun y26 => some (cond (y24 == y25) y26 false)) (some false)).bind fun (z20 : Bool) => some z20))

end Go.Proofs.Ytpfbdlcnfekdkaa
