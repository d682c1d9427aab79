/- Part VD of this seat's mirrors: functions of the seat's program, and the plain functions that they are; each theorem bears its own conditions. -/
import Derived.Test.YtmlhokaflhlhbaaH25
namespace Go.Proofs.Ytmlhokaflhlhbaa
open Go.RowKit
set_option linter.unusedVariables false
set_option linter.unusedSimpArgs false
set_option maxRecDepth 100000
set_option maxHeartbeats 4000000
noncomputable def m_slices_Clone_uint64_uint64 (a0 : List Int) : Option (List Int) :=
  appI 8 ([] : List Int) a0
noncomputable def m_arena_clone_L0 (a0 : (List (List Int))) (s0_ : (Int × (List (List Int)))) : Option ((Int × (List (List Int))) ⊕ (List (List Int))) :=
  cond (decide (s0_.1 < (a0.length : Int))) ((getI a0 s0_.1).bind fun x4 => (m_slices_Clone_uint64_uint64 x4).bind fun y5 => (getI s0_.2 s0_.1).bind fun x6 => some (.inl ((IntKind.i64.wrap (s0_.1 + 1)), (setI s0_.2 s0_.1 y5)))) (some (.inr s0_.2))
noncomputable def m_arena_clone (a0 : (List (List Int))) : Option (List (List Int)) :=
  (makeI 24 (a0.length : Int) ([] : (List Int))).bind fun l2 => (runLoop (m_arena_clone_L0 a0) (0, l2)).bind fun (z9 : (List (List Int))) => some z9
structure S_arena_Arena where
  segments : (List (List Int))
  size : Int
  left : Int
noncomputable def m_arena_Of (a0 : (List (List Int))) : Option (Option S_arena_Arena) :=
  (m_arena_clone a0).bind fun y2 => some (some (⟨y2, 0, 0⟩ : S_arena_Arena))
noncomputable def m_arena_Arena_Len (a0 : (Option S_arena_Arena)) : Option Int :=
  cond (Option.isNone a0) (some 0) ((a0).bind fun x4 => some (x4.segments.length : Int))
noncomputable def m_arena_Arena_there (a0 : (Option S_arena_Arena)) (a1 : Int) : Option Bool :=
  (cond (decide (0 ≤ a1)) ((m_arena_Arena_Len a0).bind fun y4 => some (cond (decide (0 ≤ a1)) (decide (a1 < y4)) false)) (some false)).bind fun (z2 : Bool) => some z2
noncomputable def m_arena_Arena_Size (a0 : (Option S_arena_Arena)) (a1 : Int) : Option Int :=
  (m_arena_Arena_there a0 a1).bind fun y2 => cond (!y2) (some 0) ((a0).bind fun x5 => (getI x5.segments a1).bind fun x6 => some (x6.length : Int))
noncomputable def m_arena_Arena_Has (a0 : (Option S_arena_Arena)) (a1 : Int) (a2 : Int) (a3 : Int) : Option Bool :=
  ((m_arena_Arena_there a0 a1).bind fun y8 => cond y8 (cond (decide (0 ≤ a2)) (cond (decide (0 ≤ a3)) ((m_arena_Arena_Size a0 a1).bind fun y9 => cond (decide (a3 ≤ y9)) ((m_arena_Arena_Size a0 a1).bind fun y10 => some (cond (cond (cond (cond y8 (decide (0 ≤ a2)) false) (decide (0 ≤ a3)) false) (decide (a3 ≤ y9)) false) (decide (a2 ≤ (IntKind.i64.wrap (y10 - a3)))) false)) (some false)) (some false)) (some false)) (some false)).bind fun (z4 : Bool) => some z4
noncomputable def m_arena_Arena_Get (a0 : (Option S_arena_Arena)) (a1 : Int) (a2 : Int) : Option (Int × Bool) :=
  (m_arena_Arena_Has a0 a1 a2 1).bind fun y2 => cond (!y2) (some (0, false)) ((a0).bind fun x6 => (getI x6.segments a1).bind fun x7 => (getI x7 a2).bind fun x8 => some (x8, true))
noncomputable def m_ptr_offset (a0 : Int) : Option Int :=
  some (IntKind.i64.wrap (Int.fdiv (IntKind.i32.wrap (IntKind.u32.wrap a0)) (2 ^ min (Int.toNat 2) 32)))
noncomputable def m_ptr_field (a0 : Int) (a1 : Int) (a2 : Int) : Option Int :=
  (guardI (0 ≤ a1)).bind fun u3 => (guardI (0 ≤ a2)).bind fun u4 => some (IntKind.i64.wrap (IntKind.u64.wrap (landI .u64 (Int.fdiv a0 (2 ^ min (Int.toNat a1) 64)) (IntKind.u64.wrap ((IntKind.u64.wrap (1 * 2 ^ min (Int.toNat a2) 64)) - 1)))))
structure S_ptr_Ptr where
  Kind : Int
  Off : Int
  Data : Int
  Ptrs : Int
  Code : Int
  Count : Int
  Segment : Int
  Double : Bool
noncomputable def m_ptr_Decode (a0 : Int) : Option S_ptr_Ptr :=
  cond (a0 == 0) (some (⟨0, 0, 0, 0, 0, 0, 0, false⟩ : S_ptr_Ptr)) (cond ((IntKind.u64.wrap (landI .u64 a0 3)) == 0) ((m_ptr_offset a0).bind fun y4 => (m_ptr_field a0 32 16).bind fun y5 => (m_ptr_field a0 48 16).bind fun y6 => some (⟨1, y4, y5, y6, 0, 0, 0, false⟩ : S_ptr_Ptr)) (cond ((IntKind.u64.wrap (landI .u64 a0 3)) == 1) ((m_ptr_offset a0).bind fun y10 => (m_ptr_field a0 32 3).bind fun y11 => (m_ptr_field a0 35 29).bind fun y12 => some (⟨2, y10, 0, 0, y11, y12, 0, false⟩ : S_ptr_Ptr)) (cond ((IntKind.u64.wrap (landI .u64 a0 3)) == 2) ((m_ptr_field a0 3 29).bind fun y15 => (m_ptr_field a0 32 32).bind fun y16 => some (⟨3, y15, 0, 0, 0, 0, y16, ((IntKind.u64.wrap (landI .u64 (Int.fdiv a0 (2 ^ min (Int.toNat 2) 64)) 1)) == 1)⟩ : S_ptr_Ptr)) (some (⟨4, 0, 0, 0, 0, 0, 0, false⟩ : S_ptr_Ptr)))))
noncomputable def m_arena_Arena_Part (a0 : (Option S_arena_Arena)) (a1 : Int) (a2 : Int) (a3 : Int) : Option ((List Int) × Bool) :=
  (m_arena_Arena_Has a0 a1 a2 a3).bind fun y2 => cond (!y2) (some (([] : (List Int)), false)) ((a0).bind fun x7 => (getI x7.segments a1).bind fun x8 => (subI x8 a2 (IntKind.i64.wrap (a2 + a3))).bind fun l9 => (m_slices_Clone_uint64_uint64 l9).bind fun y10 => some (y10, true))
noncomputable def m_ptr_width (a0 : Int) : Option Int :=
  ((some (⟨[0, 1, 8, 16, 32, 64, 64], rfl⟩ : (Arr Int 7)))).bind fun y6 => ((some (⟨[0, 0, 0, 0, 0, 0, 0], rfl⟩ : (Arr Int 7)))).bind fun y8 => (getI y6.1 a0).bind fun x12 => some x12
noncomputable def m_ptr_Ptr_Words (a0 : S_ptr_Ptr) : Option (Int × Bool) :=
  cond (a0.Kind == 1) (some ((IntKind.i64.wrap (a0.Data + a0.Ptrs)), true)) (cond (cond (a0.Kind == 2) (a0.Code == 7) false) (some ((IntKind.i64.wrap (a0.Count + 1)), true)) (cond (cond (cond (cond (cond (a0.Kind == 2) (decide (0 ≤ a0.Code)) false) (decide (a0.Code < 7)) false) (decide (0 ≤ a0.Count)) false) (decide (a0.Count ≤ 536870911)) false) ((m_ptr_width a0.Code).bind fun y2 => some ((IntKind.i64.wrap (Int.tdiv (IntKind.i64.wrap ((IntKind.i64.wrap (a0.Count * y2)) + 63)) 64)), true)) (some (0, false))))
structure S_far_Loc where
  P : S_ptr_Ptr
  Segment : Int
  At : Int
noncomputable def m_far_target (a0 : (Option S_arena_Arena)) (a1 : S_ptr_Ptr) (a2 : Int) (a3 : Int) : Option (S_far_Loc × Int) :=
  cond (a1.Kind == 4) (some ((⟨⟨0, 0, 0, 0, 0, 0, 0, false⟩, 0, 0⟩ : S_far_Loc), 9)) ((m_ptr_Ptr_Words a1).bind fun y2 => cond (!y2.2) (some ((⟨⟨0, 0, 0, 0, 0, 0, 0, false⟩, 0, 0⟩ : S_far_Loc), 8)) ((m_arena_Arena_Has a0 a2 a3 y2.1).bind fun y4 => cond (!y4) (some ((⟨⟨0, 0, 0, 0, 0, 0, 0, false⟩, 0, 0⟩ : S_far_Loc), 7)) (some ((⟨⟨a1.Kind, 0, a1.Data, a1.Ptrs, a1.Code, a1.Count, a1.Segment, a1.Double⟩, a2, a3⟩ : S_far_Loc), 0))))
noncomputable def m_far_double (a0 : (Option S_arena_Arena)) (a1 : Int) (a2 : Int) : Option (S_far_Loc × Int) :=
  (m_arena_Arena_Part a0 a1 a2 2).bind fun y2 => cond (!y2.2) (some ((⟨⟨0, 0, 0, 0, 0, 0, 0, false⟩, 0, 0⟩ : S_far_Loc), 7)) ((getI y2.1 0).bind fun x3 => (m_ptr_Decode x3).bind fun y4 => (getI y2.1 1).bind fun x5 => (m_ptr_Decode x5).bind fun y6 => cond (cond (y4.Kind != 3) true y4.Double) (some ((⟨⟨0, 0, 0, 0, 0, 0, 0, false⟩, 0, 0⟩ : S_far_Loc), 8)) (cond (cond (y6.Kind != 4) (y6.Off != 0) false) (some ((⟨⟨0, 0, 0, 0, 0, 0, 0, false⟩, 0, 0⟩ : S_far_Loc), 8)) ((m_far_target a0 y6 y4.Segment y4.Off).bind fun y8 => some (y8.1, y8.2))))
noncomputable def m_far_single (a0 : (Option S_arena_Arena)) (a1 : Int) (a2 : Int) : Option (S_far_Loc × Int) :=
  (m_arena_Arena_Get a0 a1 a2).bind fun y2 => cond (!y2.2) (some ((⟨⟨0, 0, 0, 0, 0, 0, 0, false⟩, 0, 0⟩ : S_far_Loc), 7)) ((m_ptr_Decode y2.1).bind fun y4 => (m_far_target a0 y4 a1 (IntKind.i64.wrap ((IntKind.i64.wrap (a2 + 1)) + y4.Off))).bind fun y6 => some (y6.1, y6.2))
noncomputable def m_far_Follow (a0 : (Option S_arena_Arena)) (a1 : Int) (a2 : Int) : Option (S_far_Loc × Int) :=
  (m_arena_Arena_Get a0 a1 a2).bind fun y2 => cond (!y2.2) (some ((⟨⟨0, 0, 0, 0, 0, 0, 0, false⟩, 0, 0⟩ : S_far_Loc), 7)) ((m_ptr_Decode y2.1).bind fun y4 => cond (y4.Kind == 0) (some ((⟨⟨0, 0, 0, 0, 0, 0, 0, false⟩, 0, 0⟩ : S_far_Loc), 0)) (cond (cond (y4.Kind == 3) y4.Double false) ((m_far_double a0 y4.Segment y4.Off).bind fun y6 => some (y6.1, y6.2)) (cond (y4.Kind == 3) ((m_far_single a0 y4.Segment y4.Off).bind fun y8 => some (y8.1, y8.2)) ((m_far_target a0 y4 a1 (IntKind.i64.wrap ((IntKind.i64.wrap (a2 + 1)) + y4.Off))).bind fun y10 => some (y10.1, y10.2)))))
structure S_reader_Ref where
  a : (Option S_arena_Arena)
  kind : Int
  segment : Int
  at_ : Int
  words : Int
  ptrs : Int
  count : Int
  code : Int
  index : Int
noncomputable def m_reader_composite (a0 : S_reader_Ref) : Option (S_reader_Ref × Int) :=
  (m_arena_Arena_Get a0.a a0.segment a0.at_).bind fun y2 => (m_ptr_Decode y2.1).bind fun y4 => cond (cond (cond (cond (y4.Kind != 0) (y4.Kind != 1) false) true (decide (y4.Off < 0))) true (decide (a0.count < (IntKind.i64.wrap (y4.Off * (IntKind.i64.wrap (y4.Data + y4.Ptrs))))))) (some ((⟨(none : (Option S_arena_Arena)), 0, 0, 0, 0, 0, 0, 0, 0⟩ : S_reader_Ref), 8)) (some ((⟨a0.a, a0.kind, a0.segment, a0.at_, y4.Data, y4.Ptrs, y4.Off, a0.code, a0.index⟩ : S_reader_Ref), 0))
noncomputable def m_reader_At (a0 : (Option S_arena_Arena)) (a1 : Int) (a2 : Int) : Option (S_reader_Ref × Int) :=
  (m_far_Follow a0 a1 a2).bind fun y2 => cond (cond (y2.2 != 0) true (y2.1.P.Kind == 0)) (some ((⟨(none : (Option S_arena_Arena)), 0, 0, 0, 0, 0, 0, 0, 0⟩ : S_reader_Ref), y2.2)) (cond (y2.1.P.Kind == 1) (some ((⟨a0, 1, y2.1.Segment, y2.1.At, y2.1.P.Data, y2.1.P.Ptrs, 0, 0, 0⟩ : S_reader_Ref), 0)) (cond (y2.1.P.Code == 7) ((m_reader_composite (⟨a0, (IntKind.i64.wrap (y2.1.P.Code + 2)), y2.1.Segment, y2.1.At, 0, 0, y2.1.P.Count, 0, 0⟩ : S_reader_Ref)).bind fun y4 => some (y4.1, y4.2)) (some ((⟨a0, (IntKind.i64.wrap (y2.1.P.Code + 2)), y2.1.Segment, y2.1.At, 0, 0, y2.1.P.Count, 0, 0⟩ : S_reader_Ref), 0))))
noncomputable def m_reader_Root (a0 : (Option S_arena_Arena)) : Option (S_reader_Ref × Int) :=
  (m_reader_At a0 0 0).bind fun y2 => some (y2.1, y2.2)
noncomputable def m_reader_Ref_Kind (a0 : S_reader_Ref) : Option Int :=
  some a0.kind
noncomputable def m_reader_Ref_Kids (a0 : S_reader_Ref) : Option Int :=
  cond (a0.kind == 1) (some a0.ptrs) (some a0.count)
noncomputable def m_reader_Ref_Kid (a0 : S_reader_Ref) (a1 : Int) : Option (S_reader_Ref × Int) :=
  (cond (decide (a1 < 0)) (some true) ((m_reader_Ref_Kids a0).bind fun y4 => some (cond (decide (a1 < 0)) true (decide (y4 ≤ a1))))).bind fun (z2 : Bool) => cond z2 (some ((⟨(none : (Option S_arena_Arena)), 0, 0, 0, 0, 0, 0, 0, 0⟩ : S_reader_Ref), 0)) (cond (a0.kind == 1) ((m_reader_At a0.a a0.segment (IntKind.i64.wrap ((IntKind.i64.wrap (a0.at_ + a0.words)) + a1))).bind fun y7 => some (y7.1, y7.2)) (cond (a0.kind == 8) ((m_reader_At a0.a a0.segment (IntKind.i64.wrap (a0.at_ + a1))).bind fun y9 => some (y9.1, y9.2)) (cond (a0.kind == 9) (some ((⟨a0.a, 1, a0.segment, (IntKind.i64.wrap ((IntKind.i64.wrap (a0.at_ + 1)) + (IntKind.i64.wrap (a1 * (IntKind.i64.wrap (a0.words + a0.ptrs)))))), a0.words, a0.ptrs, 0, 0, 0⟩ : S_reader_Ref), 0)) (some ((⟨a0.a, 10, a0.segment, a0.at_, 0, 0, 0, (IntKind.i64.wrap (a0.kind - 2)), a1⟩ : S_reader_Ref), 0)))))
noncomputable def m_reader_Ref_Words (a0 : S_reader_Ref) : Option Int :=
  cond (a0.kind == 1) (some a0.words) (cond (a0.kind == 10) (some 1) (some 0))
noncomputable def m_word_Width (a0 : Int) : Option (Int × Bool) :=
  ((some (⟨[0, 1, 8, 16, 32, 64], rfl⟩ : (Arr Int 6)))).bind fun y6 => ((some (⟨[0, 0, 0, 0, 0, 0], rfl⟩ : (Arr Int 6)))).bind fun y8 => cond (cond (decide (a0 < 0)) true (decide (6 ≤ a0))) (some (0, false)) ((getI y6.1 a0).bind fun x12 => some (x12, true))
noncomputable def m_word_Get (a0 : (List Int)) (a1 : Int) (a2 : Int) : Option Int :=
  (m_word_Width a1).bind fun y2 => cond (cond (y2.1 == 0) true (decide (a2 < 0))) (some 0) ((guardI (y2.1 ≠ 0)).bind fun u4 => (guardI ((IntKind.i64.wrap (Int.tdiv 64 y2.1)) ≠ 0)).bind fun u6 => cond (decide ((a0.length : Int) ≤ (IntKind.i64.wrap (Int.tdiv a2 (IntKind.i64.wrap (Int.tdiv 64 y2.1)))))) (some 0) ((guardI ((IntKind.i64.wrap (Int.tdiv 64 y2.1)) ≠ 0)).bind fun u12 => (getI a0 (IntKind.i64.wrap (Int.tdiv a2 (IntKind.i64.wrap (Int.tdiv 64 y2.1))))).bind fun x13 => (guardI ((IntKind.i64.wrap (Int.tdiv 64 y2.1)) ≠ 0)).bind fun u14 => (guardI (0 ≤ (IntKind.i64.wrap ((Int.tmod a2 (IntKind.i64.wrap (Int.tdiv 64 y2.1))) * y2.1)))).bind fun u15 => (guardI (0 ≤ y2.1)).bind fun u16 => some (IntKind.u64.wrap (landI .u64 (Int.fdiv x13 (2 ^ min (Int.toNat (IntKind.i64.wrap ((Int.tmod a2 (IntKind.i64.wrap (Int.tdiv 64 y2.1))) * y2.1))) 64)) (IntKind.u64.wrap ((IntKind.u64.wrap (1 * 2 ^ min (Int.toNat y2.1) 64)) - 1))))))
noncomputable def m_reader_Ref_number (a0 : S_reader_Ref) : Option Int :=
  (m_word_Width a0.code).bind fun y2 => cond (y2.1 == 0) (some 0) ((guardI (y2.1 ≠ 0)).bind fun u4 => (guardI ((IntKind.i64.wrap (Int.tdiv 64 y2.1)) ≠ 0)).bind fun u7 => (m_arena_Arena_Get a0.a a0.segment (IntKind.i64.wrap (a0.at_ + (IntKind.i64.wrap (Int.tdiv a0.index (IntKind.i64.wrap (Int.tdiv 64 y2.1))))))).bind fun y8 => (guardI ((IntKind.i64.wrap (Int.tdiv 64 y2.1)) ≠ 0)).bind fun u11 => (m_word_Get ([y8.1] : List Int) a0.code (Int.tmod a0.index (IntKind.i64.wrap (Int.tdiv 64 y2.1)))).bind fun y12 => some y12)
noncomputable def m_reader_Ref_Word (a0 : S_reader_Ref) (a1 : Int) : Option Int :=
  (cond (decide (a1 < 0)) (some true) ((m_reader_Ref_Words a0).bind fun y4 => some (cond (decide (a1 < 0)) true (decide (y4 ≤ a1))))).bind fun (z2 : Bool) => cond z2 (some 0) (cond (a0.kind == 10) ((m_reader_Ref_number a0).bind fun y7 => some y7) ((m_arena_Arena_Get a0.a a0.segment (IntKind.i64.wrap (a0.at_ + a1))).bind fun y9 => some y9.1))
noncomputable def m_arena_Arena_Segments (a0 : (Option S_arena_Arena)) : Option (List (List Int)) :=
  cond (Option.isNone a0) (some ([] : (List (List Int)))) ((a0).bind fun x5 => (m_arena_clone x5.segments).bind fun y6 => some y6)
noncomputable def m_centoref01_Same_L0 (a0 : (List Int)) (a1 : (List Int)) (s0_ : Int) : Option (Int ⊕ (Unit ⊕ Unit)) :=
  cond (decide (s0_ < (a0.length : Int))) ((getI a0 s0_).bind fun x3 => (getI a1 s0_).bind fun x4 => cond (x3 != x4) (some (.inr (.inl ()))) (some (.inl (IntKind.i64.wrap (s0_ + 1))))) (some (.inr (.inr ())))
noncomputable def m_centoref01_Same (a0 : (List Int)) (a1 : (List Int)) : Option Bool :=
  cond ((a0.length : Int) != (a1.length : Int)) (some false) ((runLoop (m_centoref01_Same_L0 a0 a1) 0).bind fun (z7 : (Unit ⊕ Unit)) => match z7 with | .inl z7 => some false | .inr z7 => some true)
noncomputable def m_centoref03_Same_L0 (a0 : (List (List Int))) (a1 : (List (List Int))) (s0_ : Int) : Option (Int ⊕ (Unit ⊕ Unit)) :=
  cond (decide (s0_ < (a0.length : Int))) ((getI a0 s0_).bind fun x4 => (getI a1 s0_).bind fun x5 => (m_centoref01_Same x4 x5).bind fun y6 => cond (!y6) (some (.inr (.inl ()))) (some (.inl (IntKind.i64.wrap (s0_ + 1))))) (some (.inr (.inr ())))
noncomputable def m_centoref03_Same (a0 : (List (List Int))) (a1 : (List (List Int))) : Option Bool :=
  cond ((a0.length : Int) != (a1.length : Int)) (some false) ((runLoop (m_centoref03_Same_L0 a0 a1) 0).bind fun (z9 : (Unit ⊕ Unit)) => match z9 with | .inl z9 => some false | .inr z9 => some true)
noncomputable def m_centolaw09_awake  : Option Bool :=
  (m_arena_Of ([([4294967296, 7] : List Int)] : List (List Int))).bind fun y3 => (m_reader_Root y3).bind fun y4 => (cond (y4.2 == 0) ((m_reader_Ref_Kind y4.1).bind fun y14 => cond (y14 == 1) ((m_reader_Ref_Words y4.1).bind fun y15 => cond (y15 == 1) ((m_reader_Ref_Word y4.1 0).bind fun y16 => cond (y16 == 7) ((m_reader_Ref_Kids y4.1).bind fun y17 => some (cond (cond (cond (cond (y4.2 == 0) (y14 == 1) false) (y15 == 1) false) (y16 == 7) false) (y17 == 0) false)) (some false)) (some false)) (some false)) (some false)).bind fun (z9 : Bool) => some z9
noncomputable def m_centolaw09_ReaderStays_L0 (a1 : (List Int)) (s0_ : (Int × (Option S_arena_Arena) × Int × Int × Int × Int × Int × Int × Int × Int)) : Option ((Int × (Option S_arena_Arena) × Int × Int × Int × Int × Int × Int × Int × Int) ⊕ Unit) :=
  cond (cond (decide (s0_.1 < (a1.length : Int))) (decide (s0_.1 < 30)) false) ((getI a1 s0_.1).bind fun x24 => (m_reader_Ref_Kid (⟨s0_.2.1, s0_.2.2.1, s0_.2.2.2.1, s0_.2.2.2.2.1, s0_.2.2.2.2.2.1, s0_.2.2.2.2.2.2.1, s0_.2.2.2.2.2.2.2.1, s0_.2.2.2.2.2.2.2.2.1, s0_.2.2.2.2.2.2.2.2.2⟩ : S_reader_Ref) x24).bind fun y25 => (getI a1 s0_.1).bind fun x26 => (m_reader_Ref_Word y25.1 x26).bind fun y27 => some (.inl ((IntKind.i64.wrap (s0_.1 + 1)), y25.1.a, y25.1.kind, y25.1.segment, y25.1.at_, y25.1.words, y25.1.ptrs, y25.1.count, y25.1.code, y25.1.index))) (some (.inr ()))
noncomputable def m_centolaw09_ReaderStays (a0 : (List (List Int))) (a1 : (List Int)) : Option Bool :=
  (m_arena_Of a0).bind fun y2 => (m_reader_Root y2).bind fun y4 => (m_reader_At y2 0 0).bind fun y6 => (cond (y4.2 != y6.2) (some true) ((m_reader_Ref_Kind y4.1).bind fun y16 => (m_reader_Ref_Kind y6.1).bind fun y17 => cond (y16 != y17) (some true) ((m_reader_Ref_Kids y4.1).bind fun y18 => (m_reader_Ref_Kids y6.1).bind fun y19 => some (cond (cond (y4.2 != y6.2) true (y16 != y17)) true (y18 != y19))))).bind fun (z11 : Bool) => cond z11 (some false) ((runLoop (m_centolaw09_ReaderStays_L0 a1) (0, y4.1.a, y4.1.kind, y4.1.segment, y4.1.at_, y4.1.words, y4.1.ptrs, y4.1.count, y4.1.code, y4.1.index)).bind fun (z29 : Unit) => ((m_arena_Arena_Segments y2).bind fun y37 => (m_centoref03_Same y37 a0).bind fun y38 => cond y38 ((m_centolaw09_awake).bind fun y39 => some (cond y38 y39 false)) (some false)).bind fun (z33 : Bool) => some z33)
structure S_centoref06_Loc where
  P : S_ptr_Ptr
  Segment : Int
  At : Int
structure S_centoref09_Ref where
  Kind : Int
  S : Int
  At : Int
  Data : Int
  Ptrs : Int
  Count : Int
  N : Int
structure S_api_Limits where
  Depth : Int
  Weight : Int
  MaxD : Int
  MaxOut : Int
structure S_valid_checker where
  left : Int
structure S_api_Tree where
  Kind : Int
  Words : (List Int)
  Kids : (List S_api_Tree)
end Go.Proofs.Ytmlhokaflhlhbaa
