/- Part UD of this seat's mirrors: functions of the seat's program, and the plain functions that they are; each theorem bears its own conditions. -/
import Derived.Test.YtpfbdlcnfekdkaaH26
namespace Go.Proofs.Ytpfbdlcnfekdkaa
open Go.RowKit
set_option linter.unusedVariables false
set_option linter.unusedSimpArgs false
set_option maxRecDepth 100000
set_option maxHeartbeats 4000000
structure S_api_Limits where
  Depth : Int
  Weight : Int
  MaxD : Int
  MaxOut : Int

noncomputable def m_centolaw10_Light (a0 : S_api_Limits) : Option S_api_Limits :=
  (cond (decide (3000 < a0.Weight)) (some 3000) (some a0.Weight)).bind fun (z1 : Int) => some (⟨a0.Depth, z1, a0.MaxD, a0.MaxOut⟩ : S_api_Limits)

noncomputable def m_slices_Clone_uint64_uint64 (a0 : List Int) : Option (List Int) :=
  appI 8 ([] : List Int) a0

noncomputable def m_arena_clone_L0 (a0 : (List (List Int))) (s0_ : (Int × (List (List Int)))) : Option ((Int × (List (List Int))) ⊕ (List (List Int))) :=
  cond (decide (s0_.1 < (a0.length : Int))) ((getI a0 s0_.1).bind fun x4 => (m_slices_Clone_uint64_uint64 x4).bind fun y5 => (getI s0_.2 s0_.1).bind fun x6 => some (.inl ((IntKind.i64.wrap (s0_.1 + 1)), (setI s0_.2 s0_.1 y5)))) (some (.inr s0_.2))

noncomputable def m_arena_clone (a0 : (List (List Int))) : Option (List (List Int)) :=
  (makeI 24 (a0.length : Int) ([] : (List Int))).bind fun l2 => (runLoop (m_arena_clone_L0 a0) (0, l2)).bind fun (z9 : (List (List Int))) => some z9

structure S_arena_Arena where
  segments : (List (List Int))
  size : Int
  left : Int

noncomputable def m_arena_Of (a0 : (List (List Int))) : Option (Option S_arena_Arena) :=
  (m_arena_clone a0).bind fun y2 => some (some (⟨y2, 0, 0⟩ : S_arena_Arena))

noncomputable def m_valid_between (a0 : Int) (a1 : Int) : Option Int :=
  some (if a1 < (if a0 < 0 then 0 else a0) then a1 else (if a0 < 0 then 0 else a0))

noncomputable def m_valid_Limits (a0 : S_api_Limits) : Option S_api_Limits :=
  (m_valid_between a0.Depth 64).bind fun y5 => (m_valid_between a0.Weight 65536).bind fun y6 => (m_valid_between a0.MaxD 4096).bind fun y7 => (m_valid_between a0.MaxOut 131072).bind fun y8 => some (⟨y5, y6, y7, y8⟩ : S_api_Limits)

noncomputable def m_arena_Arena_Len (a0 : (Option S_arena_Arena)) : Option Int :=
  cond (Option.isNone a0) (some 0) ((a0).bind fun x4 => some (x4.segments.length : Int))

noncomputable def m_arena_Arena_there (a0 : (Option S_arena_Arena)) (a1 : Int) : Option Bool :=
  (cond (decide (0 ≤ a1)) ((m_arena_Arena_Len a0).bind fun y4 => some (cond (decide (0 ≤ a1)) (decide (a1 < y4)) false)) (some false)).bind fun (z2 : Bool) => some z2

noncomputable def m_arena_Arena_Size (a0 : (Option S_arena_Arena)) (a1 : Int) : Option Int :=
  (m_arena_Arena_there a0 a1).bind fun y2 => cond (!y2) (some 0) ((a0).bind fun x5 => (getI x5.segments a1).bind fun x6 => some (x6.length : Int))

noncomputable def m_arena_Arena_Has (a0 : (Option S_arena_Arena)) (a1 : Int) (a2 : Int) (a3 : Int) : Option Bool :=
  ((m_arena_Arena_there a0 a1).bind fun y8 => cond y8 (cond (decide (0 ≤ a2)) (cond (decide (0 ≤ a3)) ((m_arena_Arena_Size a0 a1).bind fun y9 => cond (decide (a3 ≤ y9)) ((m_arena_Arena_Size a0 a1).bind fun y10 => some (cond (cond (cond (cond y8 (decide (0 ≤ a2)) false) (decide (0 ≤ a3)) false) (decide (a3 ≤ y9)) false) (decide (a2 ≤ (IntKind.i64.wrap (y10 - a3)))) false)) (some false)) (some false)) (some false)) (some false)).bind fun (z4 : Bool) => some z4

noncomputable def m_arena_Arena_Get (a0 : (Option S_arena_Arena)) (a1 : Int) (a2 : Int) : Option (Int × Bool) :=
  (m_arena_Arena_Has a0 a1 a2 1).bind fun y2 => cond (!y2) (some (0, false)) ((a0).bind fun x6 => (getI x6.segments a1).bind fun x7 => (getI x7 a2).bind fun x8 => some (x8, true))

noncomputable def m_ptr_offset (a0 : Int) : Option Int :=
  some (IntKind.i64.wrap (Int.fdiv (IntKind.i32.wrap (IntKind.u32.wrap a0)) (2 ^ min (Int.toNat 2) 32)))

noncomputable def m_ptr_field (a0 : Int) (a1 : Int) (a2 : Int) : Option Int :=
  (guardI (0 ≤ a1)).bind fun u3 => (guardI (0 ≤ a2)).bind fun u4 => some (IntKind.i64.wrap (IntKind.u64.wrap (landI .u64 (Int.fdiv a0 (2 ^ min (Int.toNat a1) 64)) (IntKind.u64.wrap ((IntKind.u64.wrap (1 * 2 ^ min (Int.toNat a2) 64)) - 1)))))

structure S_ptr_Ptr where
  Kind : Int
  Off : Int
  Data : Int
  Ptrs : Int
  Code : Int
  Count : Int
  Segment : Int
  Double : Bool

noncomputable def m_ptr_Decode (a0 : Int) : Option S_ptr_Ptr :=
  cond (a0 == 0) (some (⟨0, 0, 0, 0, 0, 0, 0, false⟩ : S_ptr_Ptr)) (cond ((IntKind.u64.wrap (landI .u64 a0 3)) == 0) ((m_ptr_offset a0).bind fun y4 => (m_ptr_field a0 32 16).bind fun y5 => (m_ptr_field a0 48 16).bind fun y6 => some (⟨1, y4, y5, y6, 0, 0, 0, false⟩ : S_ptr_Ptr)) (cond ((IntKind.u64.wrap (landI .u64 a0 3)) == 1) ((m_ptr_offset a0).bind fun y10 => (m_ptr_field a0 32 3).bind fun y11 => (m_ptr_field a0 35 29).bind fun y12 => some (⟨2, y10, 0, 0, y11, y12, 0, false⟩ : S_ptr_Ptr)) (cond ((IntKind.u64.wrap (landI .u64 a0 3)) == 2) ((m_ptr_field a0 3 29).bind fun y15 => (m_ptr_field a0 32 32).bind fun y16 => some (⟨3, y15, 0, 0, 0, 0, y16, ((IntKind.u64.wrap (landI .u64 (Int.fdiv a0 (2 ^ min (Int.toNat 2) 64)) 1)) == 1)⟩ : S_ptr_Ptr)) (some (⟨4, 0, 0, 0, 0, 0, 0, false⟩ : S_ptr_Ptr)))))

noncomputable def m_arena_Arena_Part (a0 : (Option S_arena_Arena)) (a1 : Int) (a2 : Int) (a3 : Int) : Option ((List Int) × Bool) :=
  (m_arena_Arena_Has a0 a1 a2 a3).bind fun y2 => cond (!y2) (some (([] : (List Int)), false)) ((a0).bind fun x7 => (getI x7.segments a1).bind fun x8 => (subI x8 a2 (IntKind.i64.wrap (a2 + a3))).bind fun l9 => (m_slices_Clone_uint64_uint64 l9).bind fun y10 => some (y10, true))

noncomputable def m_ptr_width (a0 : Int) : Option Int :=
  ((some (⟨[0, 1, 8, 16, 32, 64, 64], rfl⟩ : (Arr Int 7)))).bind fun y6 => ((some (⟨[0, 0, 0, 0, 0, 0, 0], rfl⟩ : (Arr Int 7)))).bind fun y8 => (getI y6.1 a0).bind fun x12 => some x12

noncomputable def m_ptr_Ptr_Words (a0 : S_ptr_Ptr) : Option (Int × Bool) :=
  cond (a0.Kind == 1) (some ((IntKind.i64.wrap (a0.Data + a0.Ptrs)), true)) (cond (cond (a0.Kind == 2) (a0.Code == 7) false) (some ((IntKind.i64.wrap (a0.Count + 1)), true)) (cond (cond (cond (cond (cond (a0.Kind == 2) (decide (0 ≤ a0.Code)) false) (decide (a0.Code < 7)) false) (decide (0 ≤ a0.Count)) false) (decide (a0.Count ≤ 536870911)) false) ((m_ptr_width a0.Code).bind fun y2 => some ((IntKind.i64.wrap (Int.tdiv (IntKind.i64.wrap ((IntKind.i64.wrap (a0.Count * y2)) + 63)) 64)), true)) (some (0, false))))

structure S_far_Loc where
  P : S_ptr_Ptr
  Segment : Int
  At : Int

noncomputable def m_far_target (a0 : (Option S_arena_Arena)) (a1 : S_ptr_Ptr) (a2 : Int) (a3 : Int) : Option (S_far_Loc × Int) :=
  cond (a1.Kind == 4) (some ((⟨(⟨0, 0, 0, 0, 0, 0, 0, false⟩ : S_ptr_Ptr), 0, 0⟩ : S_far_Loc), 9)) ((m_ptr_Ptr_Words a1).bind fun y2 => cond (!y2.2) (some ((⟨(⟨0, 0, 0, 0, 0, 0, 0, false⟩ : S_ptr_Ptr), 0, 0⟩ : S_far_Loc), 8)) ((m_arena_Arena_Has a0 a2 a3 y2.1).bind fun y4 => cond (!y4) (some ((⟨(⟨0, 0, 0, 0, 0, 0, 0, false⟩ : S_ptr_Ptr), 0, 0⟩ : S_far_Loc), 7)) (some ((⟨(⟨a1.Kind, 0, a1.Data, a1.Ptrs, a1.Code, a1.Count, a1.Segment, a1.Double⟩ : S_ptr_Ptr), a2, a3⟩ : S_far_Loc), 0))))

noncomputable def m_far_double (a0 : (Option S_arena_Arena)) (a1 : Int) (a2 : Int) : Option (S_far_Loc × Int) :=
  (m_arena_Arena_Part a0 a1 a2 2).bind fun y2 => cond (!y2.2) (some ((⟨(⟨0, 0, 0, 0, 0, 0, 0, false⟩ : S_ptr_Ptr), 0, 0⟩ : S_far_Loc), 7)) ((getI y2.1 0).bind fun x3 => (m_ptr_Decode x3).bind fun y4 => (getI y2.1 1).bind fun x5 => (m_ptr_Decode x5).bind fun y6 => cond (cond (y4.Kind != 3) true y4.Double) (some ((⟨(⟨0, 0, 0, 0, 0, 0, 0, false⟩ : S_ptr_Ptr), 0, 0⟩ : S_far_Loc), 8)) (cond (cond (y6.Kind != 4) (y6.Off != 0) false) (some ((⟨(⟨0, 0, 0, 0, 0, 0, 0, false⟩ : S_ptr_Ptr), 0, 0⟩ : S_far_Loc), 8)) ((m_far_target a0 y6 y4.Segment y4.Off).bind fun y8 => some (y8.1, y8.2))))

noncomputable def m_far_single (a0 : (Option S_arena_Arena)) (a1 : Int) (a2 : Int) : Option (S_far_Loc × Int) :=
  (m_arena_Arena_Get a0 a1 a2).bind fun y2 => cond (!y2.2) (some ((⟨(⟨0, 0, 0, 0, 0, 0, 0, false⟩ : S_ptr_Ptr), 0, 0⟩ : S_far_Loc), 7)) ((m_ptr_Decode y2.1).bind fun y4 => (m_far_target a0 y4 a1 (IntKind.i64.wrap ((IntKind.i64.wrap (a2 + 1)) + y4.Off))).bind fun y6 => some (y6.1, y6.2))

noncomputable def m_far_Follow (a0 : (Option S_arena_Arena)) (a1 : Int) (a2 : Int) : Option (S_far_Loc × Int) :=
  (m_arena_Arena_Get a0 a1 a2).bind fun y2 => cond (!y2.2) (some ((⟨(⟨0, 0, 0, 0, 0, 0, 0, false⟩ : S_ptr_Ptr), 0, 0⟩ : S_far_Loc), 7)) ((m_ptr_Decode y2.1).bind fun y4 => cond (y4.Kind == 0) (some ((⟨(⟨0, 0, 0, 0, 0, 0, 0, false⟩ : S_ptr_Ptr), 0, 0⟩ : S_far_Loc), 0)) (cond (cond (y4.Kind == 3) y4.Double false) ((m_far_double a0 y4.Segment y4.Off).bind fun y6 => some (y6.1, y6.2)) (cond (y4.Kind == 3) ((m_far_single a0 y4.Segment y4.Off).bind fun y8 => some (y8.1, y8.2)) ((m_far_target a0 y4 a1 (IntKind.i64.wrap ((IntKind.i64.wrap (a2 + 1)) + y4.Off))).bind fun y10 => some (y10.1, y10.2)))))

structure S_reader_Ref where
  a : (Option S_arena_Arena)
  kind : Int
  segment : Int
  at_ : Int
  words : Int
  ptrs : Int
  count : Int
  code : Int
  index : Int

noncomputable def m_reader_composite (a0 : S_reader_Ref) : Option (S_reader_Ref × Int) :=
  (m_arena_Arena_Get a0.a a0.segment a0.at_).bind fun y2 => (m_ptr_Decode y2.1).bind fun y4 => cond (cond (cond (cond (y4.Kind != 0) (y4.Kind != 1) false) true (decide (y4.Off < 0))) true (decide (a0.count < (IntKind.i64.wrap (y4.Off * (IntKind.i64.wrap (y4.Data + y4.Ptrs))))))) (some ((⟨(none : (Option S_arena_Arena)), 0, 0, 0, 0, 0, 0, 0, 0⟩ : S_reader_Ref), 8)) (some ((⟨a0.a, a0.kind, a0.segment, a0.at_, y4.Data, y4.Ptrs, y4.Off, a0.code, a0.index⟩ : S_reader_Ref), 0))

noncomputable def m_reader_At (a0 : (Option S_arena_Arena)) (a1 : Int) (a2 : Int) : Option (S_reader_Ref × Int) :=
  (m_far_Follow a0 a1 a2).bind fun y2 => cond (cond (y2.2 != 0) true (y2.1.P.Kind == 0)) (some ((⟨(none : (Option S_arena_Arena)), 0, 0, 0, 0, 0, 0, 0, 0⟩ : S_reader_Ref), y2.2)) (cond (y2.1.P.Kind == 1) (some ((⟨a0, 1, y2.1.Segment, y2.1.At, y2.1.P.Data, y2.1.P.Ptrs, 0, 0, 0⟩ : S_reader_Ref), 0)) (cond (y2.1.P.Code == 7) ((m_reader_composite (⟨a0, (IntKind.i64.wrap (y2.1.P.Code + 2)), y2.1.Segment, y2.1.At, 0, 0, y2.1.P.Count, 0, 0⟩ : S_reader_Ref)).bind fun y4 => some (y4.1, y4.2)) (some ((⟨a0, (IntKind.i64.wrap (y2.1.P.Code + 2)), y2.1.Segment, y2.1.At, 0, 0, y2.1.P.Count, 0, 0⟩ : S_reader_Ref), 0))))

noncomputable def m_reader_Root (a0 : (Option S_arena_Arena)) : Option (S_reader_Ref × Int) :=
  (m_reader_At a0 0 0).bind fun y2 => some (y2.1, y2.2)

noncomputable def m_reader_Ref_Kind (a0 : S_reader_Ref) : Option Int :=
  some a0.kind

noncomputable def m_reader_Ref_Kids (a0 : S_reader_Ref) : Option Int :=
  cond (a0.kind == 1) (some a0.ptrs) (some a0.count)

noncomputable def m_valid_levels (a0 : S_reader_Ref) : Option Int :=
  (m_reader_Ref_Kind a0).bind fun y2 => cond (y2 == 0) (some 0) (((m_reader_Ref_Kind a0).bind fun y8 => cond (y8 == 9) ((m_reader_Ref_Kids a0).bind fun y9 => some (cond (y8 == 9) (decide (0 < y9)) false)) (some false)).bind fun (z5 : Bool) => cond z5 (some 2) (some 1))

noncomputable def m_reader_Ref_Words (a0 : S_reader_Ref) : Option Int :=
  cond (a0.kind == 1) (some a0.words) (cond (a0.kind == 10) (some 1) (some 0))

noncomputable def m_reader_Ref_Frame (a0 : S_reader_Ref) : Option (Int × Int) :=
  cond (a0.kind != 9) (some (0, 0)) (some (a0.words, a0.ptrs))

noncomputable def m_valid_weight (a0 : S_reader_Ref) : Option Int :=
  (m_reader_Ref_Kind a0).bind fun y2 => cond (y2 == 0) (some 0) (cond (y2 == 1) ((m_reader_Ref_Words a0).bind fun y5 => (m_reader_Ref_Kids a0).bind fun y6 => some (IntKind.i64.wrap ((IntKind.i64.wrap (1 + y5)) + y6))) (cond (y2 == 9) ((m_reader_Ref_Frame a0).bind fun y8 => (m_reader_Ref_Kids a0).bind fun y10 => some (IntKind.i64.wrap (1 + (IntKind.i64.wrap (y10 * (IntKind.i64.wrap ((IntKind.i64.wrap (1 + y8.1)) + y8.2))))))) ((m_reader_Ref_Kids a0).bind fun y12 => some (IntKind.i64.wrap (1 + y12)))))

noncomputable def m_reader_Ref_Kid (a0 : S_reader_Ref) (a1 : Int) : Option (S_reader_Ref × Int) :=
  (cond (decide (a1 < 0)) (some true) ((m_reader_Ref_Kids a0).bind fun y4 => some (cond (decide (a1 < 0)) true (decide (y4 ≤ a1))))).bind fun (z2 : Bool) => cond z2 (some ((⟨(none : (Option S_arena_Arena)), 0, 0, 0, 0, 0, 0, 0, 0⟩ : S_reader_Ref), 0)) (cond (a0.kind == 1) ((m_reader_At a0.a a0.segment (IntKind.i64.wrap ((IntKind.i64.wrap (a0.at_ + a0.words)) + a1))).bind fun y7 => some (y7.1, y7.2)) (cond (a0.kind == 8) ((m_reader_At a0.a a0.segment (IntKind.i64.wrap (a0.at_ + a1))).bind fun y9 => some (y9.1, y9.2)) (cond (a0.kind == 9) (some ((⟨a0.a, 1, a0.segment, (IntKind.i64.wrap ((IntKind.i64.wrap (a0.at_ + 1)) + (IntKind.i64.wrap (a1 * (IntKind.i64.wrap (a0.words + a0.ptrs)))))), a0.words, a0.ptrs, 0, 0, 0⟩ : S_reader_Ref), 0)) (some ((⟨a0.a, 10, a0.segment, a0.at_, 0, 0, 0, (IntKind.i64.wrap (a0.kind - 2)), a1⟩ : S_reader_Ref), 0)))))

structure S_valid_checker where
  left : Int

noncomputable def b_valid_checker_value (r_valid_checker_value : (S_valid_checker → S_reader_Ref → Int → Option (Int × S_valid_checker))) (r_valid_checker_kids : (S_valid_checker → S_reader_Ref → Int → Option (Int × S_valid_checker))) (r_valid_checker_structs : (S_valid_checker → S_reader_Ref → Int → Option (Int × S_valid_checker))) (a0 : S_valid_checker) (a1 : S_reader_Ref) (a2 : Int) : Option (Int × S_valid_checker) :=
  ((m_valid_levels a1).bind fun y6 => cond (decide (a2 < y6)) (some true) ((m_valid_weight a1).bind fun y7 => some (cond (decide (a2 < y6)) true (decide (a0.left < y7))))).bind fun (z3 : Bool) => cond z3 (some (3, a0)) ((m_valid_weight a1).bind fun y10 => (m_reader_Ref_Kind a1).bind fun y12 => (cond (y12 == 1) (some (y12 == 1)) (some (y12 == 8))).bind fun (z13 : Bool) => cond z13 ((r_valid_checker_kids (⟨(IntKind.i64.wrap (a0.left - y10))⟩ : S_valid_checker) a1 (IntKind.i64.wrap (a2 - 1))).bind fun y16 => some (y16.1, y16.2)) (cond (y12 == 9) ((r_valid_checker_structs (⟨(IntKind.i64.wrap (a0.left - y10))⟩ : S_valid_checker) a1 (IntKind.i64.wrap (a2 - 1))).bind fun y18 => some (y18.1, y18.2)) (some (0, (⟨(IntKind.i64.wrap (a0.left - y10))⟩ : S_valid_checker)))))

noncomputable def b_valid_checker_kids_L0 (r_valid_checker_value : (S_valid_checker → S_reader_Ref → Int → Option (Int × S_valid_checker))) (a1 : S_reader_Ref) (a2 : Int) (y2 : Int) (s0_ : (Int × Int)) : Option ((Int × Int) ⊕ ((Int × Int) ⊕ Int)) :=
  cond (decide (s0_.1 < y2)) ((m_reader_Ref_Kid a1 s0_.1).bind fun y4 => cond (y4.2 != 0) (some (.inr (.inl (y4.2, s0_.2)))) ((r_valid_checker_value (⟨s0_.2⟩ : S_valid_checker) y4.1 a2).bind fun y6 => cond (y6.1 != 0) (some (.inr (.inl (y6.1, y6.2.left)))) (some (.inl ((IntKind.i64.wrap (s0_.1 + 1)), y6.2.left))))) (some (.inr (.inr s0_.2)))

noncomputable def b_valid_checker_kids (r_valid_checker_value : (S_valid_checker → S_reader_Ref → Int → Option (Int × S_valid_checker))) (r_valid_checker_kids : (S_valid_checker → S_reader_Ref → Int → Option (Int × S_valid_checker))) (r_valid_checker_structs : (S_valid_checker → S_reader_Ref → Int → Option (Int × S_valid_checker))) (a0 : S_valid_checker) (a1 : S_reader_Ref) (a2 : Int) : Option (Int × S_valid_checker) :=
  (m_reader_Ref_Kids a1).bind fun y2 => (runLoop (b_valid_checker_kids_L0 r_valid_checker_value a1 a2 y2) (0, a0.left)).bind fun (z10 : ((Int × Int) ⊕ Int)) => match z10 with | .inl z10 => some (z10.1, (⟨z10.2⟩ : S_valid_checker)) | .inr z10 => some (0, (⟨z10⟩ : S_valid_checker))

noncomputable def b_valid_checker_structs_L0 (r_valid_checker_kids : (S_valid_checker → S_reader_Ref → Int → Option (Int × S_valid_checker))) (a1 : S_reader_Ref) (a2 : Int) (y2 : Int) (s0_ : (Int × Int)) : Option ((Int × Int) ⊕ ((Int × Int) ⊕ Int)) :=
  cond (decide (s0_.1 < y2)) ((m_reader_Ref_Kid a1 s0_.1).bind fun y4 => cond (y4.2 != 0) (some (.inr (.inl (y4.2, s0_.2)))) ((r_valid_checker_kids (⟨s0_.2⟩ : S_valid_checker) y4.1 (IntKind.i64.wrap (a2 - 1))).bind fun y6 => cond (y6.1 != 0) (some (.inr (.inl (y6.1, y6.2.left)))) (some (.inl ((IntKind.i64.wrap (s0_.1 + 1)), y6.2.left))))) (some (.inr (.inr s0_.2)))

noncomputable def b_valid_checker_structs (r_valid_checker_value : (S_valid_checker → S_reader_Ref → Int → Option (Int × S_valid_checker))) (r_valid_checker_kids : (S_valid_checker → S_reader_Ref → Int → Option (Int × S_valid_checker))) (r_valid_checker_structs : (S_valid_checker → S_reader_Ref → Int → Option (Int × S_valid_checker))) (a0 : S_valid_checker) (a1 : S_reader_Ref) (a2 : Int) : Option (Int × S_valid_checker) :=
  (m_reader_Ref_Kids a1).bind fun y2 => (runLoop (b_valid_checker_structs_L0 r_valid_checker_kids a1 a2 y2) (0, a0.left)).bind fun (z10 : ((Int × Int) ⊕ Int)) => match z10 with | .inl z10 => some (z10.1, (⟨z10.2⟩ : S_valid_checker)) | .inr z10 => some (0, (⟨z10⟩ : S_valid_checker))

noncomputable def lv_valid_checker_value : Nat → ((S_valid_checker → S_reader_Ref → Int → Option (Int × S_valid_checker)) × (S_valid_checker → S_reader_Ref → Int → Option (Int × S_valid_checker)) × (S_valid_checker → S_reader_Ref → Int → Option (Int × S_valid_checker)))
  | 0 => ((fun _ _ _ => none), (fun _ _ _ => none), (fun _ _ _ => none))
  | k + 1 => (b_valid_checker_value ((lv_valid_checker_value k).1) ((lv_valid_checker_value k).2.1) ((lv_valid_checker_value k).2.2), b_valid_checker_kids ((lv_valid_checker_value k).1) ((lv_valid_checker_value k).2.1) ((lv_valid_checker_value k).2.2), b_valid_checker_structs ((lv_valid_checker_value k).1) ((lv_valid_checker_value k).2.1) ((lv_valid_checker_value k).2.2))

noncomputable def m_valid_checker_value (a0 : S_valid_checker) (a1 : S_reader_Ref) (a2 : Int) : Option (Int × S_valid_checker) := lim fun k => (lv_valid_checker_value k).1 a0 a1 a2

noncomputable def m_valid_checker_kids (a0 : S_valid_checker) (a1 : S_reader_Ref) (a2 : Int) : Option (Int × S_valid_checker) := lim fun k => (lv_valid_checker_value k).2.1 a0 a1 a2

noncomputable def m_valid_checker_structs (a0 : S_valid_checker) (a1 : S_reader_Ref) (a2 : Int) : Option (Int × S_valid_checker) := lim fun k => (lv_valid_checker_value k).2.2 a0 a1 a2

noncomputable def m_valid_Check (a0 : (Option S_arena_Arena)) (a1 : S_api_Limits) : Option (Int × Int) :=
  (m_valid_Limits a1).bind fun y2 => (m_reader_Root a0).bind fun y4 => cond (y4.2 != 0) (some (0, y4.2)) ((m_valid_checker_value (⟨y2.Weight⟩ : S_valid_checker) y4.1 y2.Depth).bind fun y6 => cond (y6.1 != 0) (some (0, y6.1)) (some ((IntKind.i64.wrap (y2.Weight - y6.2.left)), 0)))

noncomputable def m_unfold_weight (a0 : S_reader_Ref) : Option Int :=
  (m_reader_Ref_Kind a0).bind fun y2 => cond (y2 == 0) (some 0) (cond (y2 == 1) ((m_reader_Ref_Words a0).bind fun y5 => (m_reader_Ref_Kids a0).bind fun y6 => some (IntKind.i64.wrap ((IntKind.i64.wrap (1 + y5)) + y6))) (cond (y2 == 8) ((m_reader_Ref_Kids a0).bind fun y8 => some (IntKind.i64.wrap (1 + y8))) (some 1)))

noncomputable def m_tree_List (a0 : Int) : Option Bool :=
  some (cond (decide (2 ≤ a0)) (decide (a0 ≤ 9)) false)

noncomputable def m_unfold_nests (a0 : S_reader_Ref) : Option Bool :=
  ((m_reader_Ref_Kind a0).bind fun y8 => cond (y8 == 1) (some true) ((m_reader_Ref_Kind a0).bind fun y9 => (m_tree_List y9).bind fun y10 => some (cond (y8 == 1) true y10))).bind fun (z4 : Bool) => some z4

noncomputable def m_word_Width (a0 : Int) : Option (Int × Bool) :=
  ((some (⟨[0, 1, 8, 16, 32, 64], rfl⟩ : (Arr Int 6)))).bind fun y6 => ((some (⟨[0, 0, 0, 0, 0, 0], rfl⟩ : (Arr Int 6)))).bind fun y8 => cond (cond (decide (a0 < 0)) true (decide (6 ≤ a0))) (some (0, false)) ((getI y6.1 a0).bind fun x12 => some (x12, true))

noncomputable def m_word_Get (a0 : (List Int)) (a1 : Int) (a2 : Int) : Option Int :=
  (m_word_Width a1).bind fun y2 => cond (cond (y2.1 == 0) true (decide (a2 < 0))) (some 0) ((guardI (y2.1 ≠ 0)).bind fun u4 => (guardI ((IntKind.i64.wrap (Int.tdiv 64 y2.1)) ≠ 0)).bind fun u6 => cond (decide ((a0.length : Int) ≤ (IntKind.i64.wrap (Int.tdiv a2 (IntKind.i64.wrap (Int.tdiv 64 y2.1)))))) (some 0) ((guardI ((IntKind.i64.wrap (Int.tdiv 64 y2.1)) ≠ 0)).bind fun u12 => (getI a0 (IntKind.i64.wrap (Int.tdiv a2 (IntKind.i64.wrap (Int.tdiv 64 y2.1))))).bind fun x13 => (guardI ((IntKind.i64.wrap (Int.tdiv 64 y2.1)) ≠ 0)).bind fun u14 => (guardI (0 ≤ (IntKind.i64.wrap ((Int.tmod a2 (IntKind.i64.wrap (Int.tdiv 64 y2.1))) * y2.1)))).bind fun u15 => (guardI (0 ≤ y2.1)).bind fun u16 => some (IntKind.u64.wrap (landI .u64 (Int.fdiv x13 (2 ^ min (Int.toNat (IntKind.i64.wrap ((Int.tmod a2 (IntKind.i64.wrap (Int.tdiv 64 y2.1))) * y2.1))) 64)) (IntKind.u64.wrap ((IntKind.u64.wrap (1 * 2 ^ min (Int.toNat y2.1) 64)) - 1))))))

noncomputable def m_reader_Ref_number (a0 : S_reader_Ref) : Option Int :=
  (m_word_Width a0.code).bind fun y2 => cond (y2.1 == 0) (some 0) ((guardI (y2.1 ≠ 0)).bind fun u4 => (guardI ((IntKind.i64.wrap (Int.tdiv 64 y2.1)) ≠ 0)).bind fun u7 => (m_arena_Arena_Get a0.a a0.segment (IntKind.i64.wrap (a0.at_ + (IntKind.i64.wrap (Int.tdiv a0.index (IntKind.i64.wrap (Int.tdiv 64 y2.1))))))).bind fun y8 => (guardI ((IntKind.i64.wrap (Int.tdiv 64 y2.1)) ≠ 0)).bind fun u11 => (m_word_Get ([y8.1] : List Int) a0.code (Int.tmod a0.index (IntKind.i64.wrap (Int.tdiv 64 y2.1)))).bind fun y12 => some y12)

noncomputable def m_reader_Ref_Word (a0 : S_reader_Ref) (a1 : Int) : Option Int :=
  (cond (decide (a1 < 0)) (some true) ((m_reader_Ref_Words a0).bind fun y4 => some (cond (decide (a1 < 0)) true (decide (y4 ≤ a1))))).bind fun (z2 : Bool) => cond z2 (some 0) (cond (a0.kind == 10) ((m_reader_Ref_number a0).bind fun y7 => some y7) ((m_arena_Arena_Get a0.a a0.segment (IntKind.i64.wrap (a0.at_ + a1))).bind fun y9 => some y9.1))

structure S_unfold_unfolder where
  left : Int

structure S_api_Tree where
  Kind : Int
  Words : (List Int)
  Kids : (List S_api_Tree)

noncomputable def b_unfold_unfolder_value_L0 (a1 : S_reader_Ref) (y12 : Int) (s0_ : (Int × (List Int))) : Option ((Int × (List Int)) ⊕ (List Int)) :=
  cond (decide (s0_.1 < y12)) ((m_reader_Ref_Word a1 s0_.1).bind fun y13 => (appI 8 s0_.2 ([y13] : List Int)).bind fun l14 => some (.inl ((IntKind.i64.wrap (s0_.1 + 1)), l14))) (some (.inr s0_.2))

noncomputable def b_unfold_unfolder_value_L1 (r_unfold_unfolder_value : (S_unfold_unfolder → S_reader_Ref → Int → Option (S_api_Tree × Int × S_unfold_unfolder))) (a1 : S_reader_Ref) (a2 : Int) (y18 : Int) (s1_ : (Int × (List S_api_Tree) × Int)) : Option ((Int × (List S_api_Tree) × Int) ⊕ ((Int × Int) ⊕ ((List S_api_Tree) × Int))) :=
  cond (decide (s1_.1 < y18)) ((m_reader_Ref_Kid a1 s1_.1).bind fun y20 => cond (y20.2 != 0) (some (.inr (.inl (y20.2, s1_.2.2)))) ((r_unfold_unfolder_value (⟨s1_.2.2⟩ : S_unfold_unfolder) y20.1 (IntKind.i64.wrap (a2 - 1))).bind fun y22 => cond (y22.2.1 != 0) (some (.inr (.inl (y22.2.1, y22.2.2.left)))) ((appI 56 s1_.2.1 ([y22.1] : List S_api_Tree)).bind fun l23 => some (.inl ((IntKind.i64.wrap (s1_.1 + 1)), l23, y22.2.2.left))))) (some (.inr (.inr (s1_.2.1, s1_.2.2))))

noncomputable def b_unfold_unfolder_value (r_unfold_unfolder_value : (S_unfold_unfolder → S_reader_Ref → Int → Option (S_api_Tree × Int × S_unfold_unfolder))) (a0 : S_unfold_unfolder) (a1 : S_reader_Ref) (a2 : Int) : Option (S_api_Tree × Int × S_unfold_unfolder) :=
  (m_unfold_weight a1).bind fun y2 => (cond (decide ((IntKind.i64.wrap (a0.left - y2)) < 0)) (some true) (cond (a2 == 0) ((m_unfold_nests a1).bind fun y6 => some (cond (decide ((IntKind.i64.wrap (a0.left - y2)) < 0)) true (cond (a2 == 0) y6 false))) (some (cond (decide ((IntKind.i64.wrap (a0.left - y2)) < 0)) true false)))).bind fun (z4 : Bool) => cond z4 (some ((⟨0, ([] : (List Int)), ([] : (List S_api_Tree))⟩ : S_api_Tree), 3, (⟨(IntKind.i64.wrap (a0.left - y2))⟩ : S_unfold_unfolder))) ((m_reader_Ref_Kind a1).bind fun y10 => (m_reader_Ref_Words a1).bind fun y12 => (runLoop (b_unfold_unfolder_value_L0 a1 y12) (0, ([] : List Int))).bind fun (z16 : (List Int)) => (m_reader_Ref_Kids a1).bind fun y18 => (runLoop (b_unfold_unfolder_value_L1 r_unfold_unfolder_value a1 a2 y18) (0, ([] : List S_api_Tree), (IntKind.i64.wrap (a0.left - y2)))).bind fun (z27 : ((Int × Int) ⊕ ((List S_api_Tree) × Int))) => match z27 with | .inl z27 => some ((⟨0, ([] : (List Int)), ([] : (List S_api_Tree))⟩ : S_api_Tree), z27.1, (⟨z27.2⟩ : S_unfold_unfolder)) | .inr z27 => some ((⟨y10, z16, z27.1⟩ : S_api_Tree), 0, (⟨z27.2⟩ : S_unfold_unfolder)))

noncomputable def lv_unfold_unfolder_value : Nat → (S_unfold_unfolder → S_reader_Ref → Int → Option (S_api_Tree × Int × S_unfold_unfolder))
  | 0 => (fun _ _ _ => none)
  | k + 1 => b_unfold_unfolder_value ((lv_unfold_unfolder_value k))

noncomputable def m_unfold_unfolder_value (a0 : S_unfold_unfolder) (a1 : S_reader_Ref) (a2 : Int) : Option (S_api_Tree × Int × S_unfold_unfolder) := lim fun k => (lv_unfold_unfolder_value k) a0 a1 a2

noncomputable def m_unfold_Value (a0 : S_reader_Ref) : Option (S_api_Tree × Int) :=
  (m_unfold_unfolder_value (⟨65536⟩ : S_unfold_unfolder) a0 64).bind fun y2 => some (y2.1, y2.2.1)

noncomputable def m_tree_trimWords_L0 (a0 : (List Int)) (s0_ : Int) : Option (Int ⊕ Int) :=
  (cond (decide (0 < s0_)) ((getI a0 (IntKind.i64.wrap (s0_ - 1))).bind fun x4 => some (cond (decide (0 < s0_)) (x4 == 0) false)) (some false)).bind fun (z2 : Bool) => cond z2 (some (.inl (IntKind.i64.wrap (s0_ - 1)))) (some (.inr s0_))

noncomputable def m_tree_trimWords (a0 : (List Int)) : Option (List Int) :=
  (runLoop (m_tree_trimWords_L0 a0) (a0.length : Int)).bind fun (z7 : Int) => (subI a0 0 z7).bind fun l9 => some l9

noncomputable def m_tree_trimKids_L0 (a0 : (List S_api_Tree)) (s0_ : Int) : Option (Int ⊕ Int) :=
  (cond (decide (0 < s0_)) ((getI a0 (IntKind.i64.wrap (s0_ - 1))).bind fun x6 => some (cond (decide (0 < s0_)) (x6.Kind == 0) false)) (some false)).bind fun (z3 : Bool) => cond z3 (some (.inl (IntKind.i64.wrap (s0_ - 1)))) (some (.inr s0_))

noncomputable def m_tree_trimKids (a0 : (List S_api_Tree)) : Option (List S_api_Tree) :=
  (runLoop (m_tree_trimKids_L0 a0) (a0.length : Int)).bind fun (z10 : Int) => (subI a0 0 z10).bind fun l12 => some l12

noncomputable def b_tree_Norm_L0 (r_tree_Norm : (S_api_Tree → Option S_api_Tree)) (z1 : ((List Int) × (List S_api_Tree))) (s0_ : (Int × (List S_api_Tree))) : Option ((Int × (List S_api_Tree)) ⊕ (List S_api_Tree)) :=
  cond (decide (s0_.1 < (z1.2.length : Int))) ((getI z1.2 s0_.1).bind fun x9 => (r_tree_Norm x9).bind fun y10 => (getI s0_.2 s0_.1).bind fun x11 => some (.inl ((IntKind.i64.wrap (s0_.1 + 1)), (setI s0_.2 s0_.1 y10)))) (some (.inr s0_.2))

noncomputable def b_tree_Norm (r_tree_Norm : (S_api_Tree → Option S_api_Tree)) (a0 : S_api_Tree) : Option S_api_Tree :=
  cond (a0.Kind == 0) (some (⟨0, ([] : (List Int)), ([] : (List S_api_Tree))⟩ : S_api_Tree)) ((cond (a0.Kind == 1) ((m_tree_trimWords a0.Words).bind fun y2 => (m_tree_trimKids a0.Kids).bind fun y3 => some (y2, y3)) (some (a0.Words, a0.Kids))).bind fun (z1 : ((List Int) × (List S_api_Tree))) => (cond (decide (0 < (z1.2.length : Int))) ((makeI 56 (z1.2.length : Int) (⟨(0 : Int), ([] : (List Int)), ([] : (List S_api_Tree))⟩ : S_api_Tree)).bind fun l6 => some l6) (some ([] : List S_api_Tree))).bind fun (z5 : (List S_api_Tree)) => (runLoop (b_tree_Norm_L0 r_tree_Norm z1) (0, z5)).bind fun (z14 : (List S_api_Tree)) => some (⟨a0.Kind, z1.1, z14⟩ : S_api_Tree))

noncomputable def lv_tree_Norm : Nat → (S_api_Tree → Option S_api_Tree)
  | 0 => (fun _ => none)
  | k + 1 => b_tree_Norm ((lv_tree_Norm k))

noncomputable def m_tree_Norm (a0 : S_api_Tree) : Option S_api_Tree := lim fun k => (lv_tree_Norm k) a0

noncomputable def m_unfold_Message (a0 : (Option S_arena_Arena)) (a1 : S_api_Limits) : Option (S_api_Tree × Int) :=
  (m_valid_Check a0 a1).bind fun y2 => cond (y2.2 != 0) (some ((⟨0, ([] : (List Int)), ([] : (List S_api_Tree))⟩ : S_api_Tree), y2.2)) ((m_reader_Root a0).bind fun y4 => cond (y4.2 != 0) (some ((⟨0, ([] : (List Int)), ([] : (List S_api_Tree))⟩ : S_api_Tree), y4.2)) ((m_unfold_Value y4.1).bind fun y6 => (m_tree_Norm y6.1).bind fun y8 => some (y8, y6.2)))

noncomputable def m_centoref01_Same_L0 (a0 : (List Int)) (a1 : (List Int)) (s0_ : Int) : Option (Int ⊕ (Unit ⊕ Unit)) :=
  cond (decide (s0_ < (a0.length : Int))) ((getI a0 s0_).bind fun x3 => (getI a1 s0_).bind fun x4 => cond (x3 != x4) (some (.inr (.inl ()))) (some (.inl (IntKind.i64.wrap (s0_ + 1))))) (some (.inr (.inr ())))

noncomputable def m_centoref01_Same (a0 : (List Int)) (a1 : (List Int)) : Option Bool :=
  cond ((a0.length : Int) != (a1.length : Int)) (some false) ((runLoop (m_centoref01_Same_L0 a0 a1) 0).bind fun (z7 : (Unit ⊕ Unit)) => match z7 with | .inl z7 => some false | .inr z7 => some true)

noncomputable def b_centoref07_Same_L0 (r_centoref07_Same : (S_api_Tree → S_api_Tree → Option Bool)) (a0 : S_api_Tree) (a1 : S_api_Tree) (s0_ : Int) : Option (Int ⊕ (Unit ⊕ Unit)) :=
  cond (decide (s0_ < (a0.Kids.length : Int))) ((getI a0.Kids s0_).bind fun x9 => (getI a1.Kids s0_).bind fun x10 => (r_centoref07_Same x9 x10).bind fun y11 => cond (!y11) (some (.inr (.inl ()))) (some (.inl (IntKind.i64.wrap (s0_ + 1))))) (some (.inr (.inr ())))

noncomputable def b_centoref07_Same (r_centoref07_Same : (S_api_Tree → S_api_Tree → Option Bool)) (a0 : S_api_Tree) (a1 : S_api_Tree) : Option Bool :=
  (cond (a0.Kind != a1.Kind) (some true) ((m_centoref01_Same a0.Words a1.Words).bind fun y4 => some (cond (cond (a0.Kind != a1.Kind) true (!y4)) true ((a0.Kids.length : Int) != (a1.Kids.length : Int))))).bind fun (z2 : Bool) => cond z2 (some false) ((runLoop (b_centoref07_Same_L0 r_centoref07_Same a0 a1) 0).bind fun (z14 : (Unit ⊕ Unit)) => match z14 with | .inl z14 => some false | .inr z14 => some true)

noncomputable def lv_centoref07_Same : Nat → (S_api_Tree → S_api_Tree → Option Bool)
  | 0 => (fun _ _ => none)
  | k + 1 => b_centoref07_Same ((lv_centoref07_Same k))

noncomputable def m_centoref07_Same (a0 : S_api_Tree) (a1 : S_api_Tree) : Option Bool := lim fun k => (lv_centoref07_Same k) a0 a1

noncomputable def m_centolaw11_awake  : Option Bool :=
  (m_arena_Of ([([4294967296, 0] : List Int)] : List (List Int))).bind fun y3 => (m_unfold_Message y3 (⟨1, 2, 0, 0⟩ : S_api_Limits)).bind fun y4 => some (cond (cond (y4.2 == 0) (y4.1.Kind == 1) false) ((IntKind.i64.wrap ((y4.1.Words.length : Int) + (y4.1.Kids.length : Int))) == 0) false)

noncomputable def m_centolaw11_UnfoldMoves (a0 : (List (List Int))) (a1 : (List (List Int))) (a2 : S_api_Limits) : Option Bool :=
  (m_centolaw10_Light a2).bind fun y2 => (m_arena_Of a0).bind fun y5 => (m_unfold_Message y5 y2).bind fun y6 => cond (y6.2 != 0) (((m_centoref07_Same y6.1 (⟨0, ([] : (List Int)), ([] : (List S_api_Tree))⟩ : S_api_Tree)).bind fun y12 => cond y12 ((m_centolaw11_awake).bind fun y13 => some (cond y12 y13 false)) (some false)).bind fun (z9 : Bool) => some z9) ((appI 24 ([] : List (List Int)) a0).bind fun l39 => (appI 24 l39 a1).bind fun l63 => (m_arena_Of l63).bind fun y75 => (m_unfold_Message y75 y2).bind fun y99 => (cond (y99.2 == 0) ((m_centoref07_Same y6.1 y99.1).bind fun y188 => cond y188 ((m_centolaw11_awake).bind fun y189 => some (cond (cond (y99.2 == 0) y188 false) y189 false)) (some false)) (some false)).bind fun (z185 : Bool) => some z185)

end Go.Proofs.Ytpfbdlcnfekdkaa
