/- Part FD of this seat's mirrors: functions of the seat's program, and the plain functions that they are; each theorem bears its own conditions. -/
import Derived.Test.YtgijkjifiekkmaaH25
namespace Go.Proofs.Ytgijkjifiekkmaa
open Go.RowKit
set_option linter.unusedVariables false
set_option linter.unusedSimpArgs false
set_option maxRecDepth 100000
set_option maxHeartbeats 4000000
noncomputable def m_slices_Clone_uint64_uint64 (a0 : List Int) : Option (List Int) :=
  appI 8 ([] : List Int) a0

noncomputable def m_arena_clone_L0 (a0 : (List (List Int))) (s0_ : (Int × (List (List Int)))) : Option ((Int × (List (List Int))) ⊕ (List (List Int))) :=
  cond (decide (s0_.1 < (a0.length : Int))) ((getI a0 s0_.1).bind fun x4 => (m_slices_Clone_uint64_uint64 x4).bind fun y5 => (getI s0_.2 s0_.1).bind fun x6 => some (.inl ((IntKind.i64.wrap (s0_.1 + 1)), (setI s0_.2 s0_.1 y5)))) (some (.inr s0_.2))

noncomputable def m_arena_clone (a0 : (List (List Int))) : Option (List (List Int)) :=
  (makeI 24 (a0.length : Int) ([] : (List Int))).bind fun l2 => (runLoop (m_arena_clone_L0 a0) (0, l2)).bind fun (z9 : (List (List Int))) => some z9

structure S_arena_Arena where
  segments : (List (List Int))
  size : Int
  left : Int

noncomputable def m_arena_Of (a0 : (List (List Int))) : Option (Option S_arena_Arena) :=
  (m_arena_clone a0).bind fun y2 => some (some (⟨y2, 0, 0⟩ : S_arena_Arena))

noncomputable def m_arena_Arena_Len (a0 : (Option S_arena_Arena)) : Option Int :=
  cond (Option.isNone a0) (some 0) ((a0).bind fun x4 => some (x4.segments.length : Int))

noncomputable def m_arena_Arena_there (a0 : (Option S_arena_Arena)) (a1 : Int) : Option Bool :=
  (cond (decide (0 ≤ a1)) ((m_arena_Arena_Len a0).bind fun y4 => some (cond (decide (0 ≤ a1)) (decide (a1 < y4)) false)) (some false)).bind fun (z2 : Bool) => some z2

noncomputable def m_arena_Arena_Size (a0 : (Option S_arena_Arena)) (a1 : Int) : Option Int :=
  (m_arena_Arena_there a0 a1).bind fun y2 => cond (!y2) (some 0) ((a0).bind fun x5 => (getI x5.segments a1).bind fun x6 => some (x6.length : Int))

noncomputable def m_arena_Arena_Has (a0 : (Option S_arena_Arena)) (a1 : Int) (a2 : Int) (a3 : Int) : Option Bool :=
  ((m_arena_Arena_there a0 a1).bind fun y8 => cond y8 (cond (decide (0 ≤ a2)) (cond (decide (0 ≤ a3)) ((m_arena_Arena_Size a0 a1).bind fun y9 => cond (decide (a3 ≤ y9)) ((m_arena_Arena_Size a0 a1).bind fun y10 => some (cond (cond (cond (cond y8 (decide (0 ≤ a2)) false) (decide (0 ≤ a3)) false) (decide (a3 ≤ y9)) false) (decide (a2 ≤ (IntKind.i64.wrap (y10 - a3)))) false)) (some false)) (some false)) (some false)) (some false)).bind fun (z4 : Bool) => some z4

noncomputable def m_arena_Arena_Get (a0 : (Option S_arena_Arena)) (a1 : Int) (a2 : Int) : Option (Int × Bool) :=
  (m_arena_Arena_Has a0 a1 a2 1).bind fun y2 => cond (!y2) (some (0, false)) ((a0).bind fun x6 => (getI x6.segments a1).bind fun x7 => (getI x7 a2).bind fun x8 => some (x8, true))

noncomputable def m_ptr_offset (a0 : Int) : Option Int :=
  some (IntKind.i64.wrap (Int.fdiv (IntKind.i32.wrap (IntKind.u32.wrap a0)) (2 ^ min (Int.toNat 2) 32)))

noncomputable def m_ptr_field (a0 : Int) (a1 : Int) (a2 : Int) : Option Int :=
  (guardI (0 ≤ a1)).bind fun u3 => (guardI (0 ≤ a2)).bind fun u4 => some (IntKind.i64.wrap (IntKind.u64.wrap (landI .u64 (Int.fdiv a0 (2 ^ min (Int.toNat a1) 64)) (IntKind.u64.wrap ((IntKind.u64.wrap (1 * 2 ^ min (Int.toNat a2) 64)) - 1)))))

structure S_ptr_Ptr where
  Kind : Int
  Off : Int
  Data : Int
  Ptrs : Int
  Code : Int
  Count : Int
  Segment : Int
  Double : Bool

noncomputable def m_ptr_Decode (a0 : Int) : Option S_ptr_Ptr :=
  cond (a0 == 0) (some (⟨0, 0, 0, 0, 0, 0, 0, false⟩ : S_ptr_Ptr)) (cond ((IntKind.u64.wrap (landI .u64 a0 3)) == 0) ((m_ptr_offset a0).bind fun y4 => (m_ptr_field a0 32 16).bind fun y5 => (m_ptr_field a0 48 16).bind fun y6 => some (⟨1, y4, y5, y6, 0, 0, 0, false⟩ : S_ptr_Ptr)) (cond ((IntKind.u64.wrap (landI .u64 a0 3)) == 1) ((m_ptr_offset a0).bind fun y10 => (m_ptr_field a0 32 3).bind fun y11 => (m_ptr_field a0 35 29).bind fun y12 => some (⟨2, y10, 0, 0, y11, y12, 0, false⟩ : S_ptr_Ptr)) (cond ((IntKind.u64.wrap (landI .u64 a0 3)) == 2) ((m_ptr_field a0 3 29).bind fun y15 => (m_ptr_field a0 32 32).bind fun y16 => some (⟨3, y15, 0, 0, 0, 0, y16, ((IntKind.u64.wrap (landI .u64 (Int.fdiv a0 (2 ^ min (Int.toNat 2) 64)) 1)) == 1)⟩ : S_ptr_Ptr)) (some (⟨4, 0, 0, 0, 0, 0, 0, false⟩ : S_ptr_Ptr)))))

noncomputable def m_arena_Arena_Part (a0 : (Option S_arena_Arena)) (a1 : Int) (a2 : Int) (a3 : Int) : Option ((List Int) × Bool) :=
  (m_arena_Arena_Has a0 a1 a2 a3).bind fun y2 => cond (!y2) (some (([] : (List Int)), false)) ((a0).bind fun x7 => (getI x7.segments a1).bind fun x8 => (subI x8 a2 (IntKind.i64.wrap (a2 + a3))).bind fun l9 => (m_slices_Clone_uint64_uint64 l9).bind fun y10 => some (y10, true))

noncomputable def m_ptr_width (a0 : Int) : Option Int :=
  ((some (⟨[0, 1, 8, 16, 32, 64, 64], rfl⟩ : (Arr Int 7)))).bind fun y6 => ((some (⟨[0, 0, 0, 0, 0, 0, 0], rfl⟩ : (Arr Int 7)))).bind fun y8 => (getI y6.1 a0).bind fun x12 => some x12

noncomputable def m_ptr_Ptr_Words (a0 : S_ptr_Ptr) : Option (Int × Bool) :=
  cond (a0.Kind == 1) (some ((IntKind.i64.wrap (a0.Data + a0.Ptrs)), true)) (cond (cond (a0.Kind == 2) (a0.Code == 7) false) (some ((IntKind.i64.wrap (a0.Count + 1)), true)) (cond (cond (cond (cond (cond (a0.Kind == 2) (decide (0 ≤ a0.Code)) false) (decide (a0.Code < 7)) false) (decide (0 ≤ a0.Count)) false) (decide (a0.Count ≤ 536870911)) false) ((m_ptr_width a0.Code).bind fun y2 => some ((IntKind.i64.wrap (Int.tdiv (IntKind.i64.wrap ((IntKind.i64.wrap (a0.Count * y2)) + 63)) 64)), true)) (some (0, false))))

structure S_far_Loc where
  P : S_ptr_Ptr
  Segment : Int
  At : Int

noncomputable def m_far_target (a0 : (Option S_arena_Arena)) (a1 : S_ptr_Ptr) (a2 : Int) (a3 : Int) : Option (S_far_Loc × Int) :=
  cond (a1.Kind == 4) (some ((⟨⟨0, 0, 0, 0, 0, 0, 0, false⟩, 0, 0⟩ : S_far_Loc), 9)) ((m_ptr_Ptr_Words a1).bind fun y2 => cond (!y2.2) (some ((⟨⟨0, 0, 0, 0, 0, 0, 0, false⟩, 0, 0⟩ : S_far_Loc), 8)) ((m_arena_Arena_Has a0 a2 a3 y2.1).bind fun y4 => cond (!y4) (some ((⟨⟨0, 0, 0, 0, 0, 0, 0, false⟩, 0, 0⟩ : S_far_Loc), 7)) (some ((⟨⟨a1.Kind, 0, a1.Data, a1.Ptrs, a1.Code, a1.Count, a1.Segment, a1.Double⟩, a2, a3⟩ : S_far_Loc), 0))))

noncomputable def m_far_double (a0 : (Option S_arena_Arena)) (a1 : Int) (a2 : Int) : Option (S_far_Loc × Int) :=
  (m_arena_Arena_Part a0 a1 a2 2).bind fun y2 => cond (!y2.2) (some ((⟨⟨0, 0, 0, 0, 0, 0, 0, false⟩, 0, 0⟩ : S_far_Loc), 7)) ((getI y2.1 0).bind fun x3 => (m_ptr_Decode x3).bind fun y4 => (getI y2.1 1).bind fun x5 => (m_ptr_Decode x5).bind fun y6 => cond (cond (y4.Kind != 3) true y4.Double) (some ((⟨⟨0, 0, 0, 0, 0, 0, 0, false⟩, 0, 0⟩ : S_far_Loc), 8)) (cond (cond (y6.Kind != 4) (y6.Off != 0) false) (some ((⟨⟨0, 0, 0, 0, 0, 0, 0, false⟩, 0, 0⟩ : S_far_Loc), 8)) ((m_far_target a0 y6 y4.Segment y4.Off).bind fun y8 => some (y8.1, y8.2))))

noncomputable def m_far_single (a0 : (Option S_arena_Arena)) (a1 : Int) (a2 : Int) : Option (S_far_Loc × Int) :=
  (m_arena_Arena_Get a0 a1 a2).bind fun y2 => cond (!y2.2) (some ((⟨⟨0, 0, 0, 0, 0, 0, 0, false⟩, 0, 0⟩ : S_far_Loc), 7)) ((m_ptr_Decode y2.1).bind fun y4 => (m_far_target a0 y4 a1 (IntKind.i64.wrap ((IntKind.i64.wrap (a2 + 1)) + y4.Off))).bind fun y6 => some (y6.1, y6.2))

noncomputable def m_far_Follow (a0 : (Option S_arena_Arena)) (a1 : Int) (a2 : Int) : Option (S_far_Loc × Int) :=
  (m_arena_Arena_Get a0 a1 a2).bind fun y2 => cond (!y2.2) (some ((⟨⟨0, 0, 0, 0, 0, 0, 0, false⟩, 0, 0⟩ : S_far_Loc), 7)) ((m_ptr_Decode y2.1).bind fun y4 => cond (y4.Kind == 0) (some ((⟨⟨0, 0, 0, 0, 0, 0, 0, false⟩, 0, 0⟩ : S_far_Loc), 0)) (cond (cond (y4.Kind == 3) y4.Double false) ((m_far_double a0 y4.Segment y4.Off).bind fun y6 => some (y6.1, y6.2)) (cond (y4.Kind == 3) ((m_far_single a0 y4.Segment y4.Off).bind fun y8 => some (y8.1, y8.2)) ((m_far_target a0 y4 a1 (IntKind.i64.wrap ((IntKind.i64.wrap (a2 + 1)) + y4.Off))).bind fun y10 => some (y10.1, y10.2)))))

noncomputable def m_centolaw06_awake  : Option Bool :=
  (m_arena_Of ([([4294967296, 7] : List Int)] : List (List Int))).bind fun y3 => (m_far_Follow y3 0 0).bind fun y4 => some (cond (y4.2 == 0) (((y4.1.P.Kind == 1) && ((y4.1.P.Off == 0) && ((y4.1.P.Data == 1) && ((y4.1.P.Ptrs == 0) && ((y4.1.P.Code == 0) && ((y4.1.P.Count == 0) && ((y4.1.P.Segment == 0) && (!y4.1.P.Double)))))))) && ((y4.1.Segment == 0) && (y4.1.At == 1))) false)

noncomputable def m_centolaw06_FarWithin (a0 : (List (List Int))) (a1 : Int) (a2 : Int) : Option Bool :=
  (m_arena_Of a0).bind fun y2 => (m_far_Follow y2 a1 a2).bind fun y4 => cond (cond (y4.2 != 0) true (((y4.1.P.Kind == 0) && ((y4.1.P.Off == 0) && ((y4.1.P.Data == 0) && ((y4.1.P.Ptrs == 0) && ((y4.1.P.Code == 0) && ((y4.1.P.Count == 0) && ((y4.1.P.Segment == 0) && (!y4.1.P.Double)))))))) && ((y4.1.Segment == 0) && (y4.1.At == 0)))) ((cond (((y4.1.P.Kind == 0) && ((y4.1.P.Off == 0) && ((y4.1.P.Data == 0) && ((y4.1.P.Ptrs == 0) && ((y4.1.P.Code == 0) && ((y4.1.P.Count == 0) && ((y4.1.P.Segment == 0) && (!y4.1.P.Double)))))))) && ((y4.1.Segment == 0) && (y4.1.At == 0))) ((m_centolaw06_awake).bind fun y8 => some (cond (((y4.1.P.Kind == 0) && ((y4.1.P.Off == 0) && ((y4.1.P.Data == 0) && ((y4.1.P.Ptrs == 0) && ((y4.1.P.Code == 0) && ((y4.1.P.Count == 0) && ((y4.1.P.Segment == 0) && (!y4.1.P.Double)))))))) && ((y4.1.Segment == 0) && (y4.1.At == 0))) y8 false)) (some false)).bind fun (z6 : Bool) => some z6) ((m_ptr_Ptr_Words y4.1.P).bind fun y11 => (cond y11.2 (cond (y4.1.P.Off == 0) ((m_arena_Arena_Has y2 y4.1.Segment y4.1.At y11.1).bind fun y17 => cond y17 ((m_centolaw06_awake).bind fun y18 => some (cond (cond (cond y11.2 (y4.1.P.Off == 0) false) y17 false) y18 false)) (some false)) (some false)) (some false)).bind fun (z14 : Bool) => some z14)

noncomputable def m_centoref06_has (a0 : (List (List Int))) (a1 : Int) (a2 : Int) : Option Bool :=
  (cond (decide (0 ≤ a1)) (cond (decide (a1 < (a0.length : Int))) (cond (decide (0 ≤ a2)) ((getI a0 a1).bind fun x4 => some (cond (cond (cond (decide (0 ≤ a1)) (decide (a1 < (a0.length : Int))) false) (decide (0 ≤ a2)) false) (decide (a2 < (x4.length : Int))) false)) (some false)) (some false)) (some false)).bind fun (z2 : Bool) => some z2

noncomputable def m_centoref04_field_L0 (a1 : Int) (s0_ : (Int × Int)) : Option ((Int × Int) ⊕ Int) :=
  cond (decide (s0_.2 < a1)) (some (.inl ((IntKind.u64.wrap (Int.tdiv s0_.1 2)), (IntKind.i64.wrap (s0_.2 + 1))))) (some (.inr s0_.1))

noncomputable def m_centoref04_field_L1 (a2 : Int) (s1_ : (Int × Int × Int × Int)) : Option ((Int × Int × Int × Int) ⊕ Int) :=
  cond (decide (s1_.2.2.2 < a2)) ((cond ((Int.tmod s1_.1 2) == 1) (some (IntKind.i64.wrap (s1_.2.1 + s1_.2.2.1))) (some s1_.2.1)).bind fun (z3 : Int) => some (.inl ((IntKind.u64.wrap (Int.tdiv s1_.1 2)), z3, (IntKind.i64.wrap (2 * s1_.2.2.1)), (IntKind.i64.wrap (s1_.2.2.2 + 1))))) (some (.inr s1_.2.1))

noncomputable def m_centoref04_field (a0 : Int) (a1 : Int) (a2 : Int) : Option Int :=
  (runLoop (m_centoref04_field_L0 a1) (a0, 0)).bind fun (z2 : Int) => (runLoop (m_centoref04_field_L1 a2) (z2, 0, 1, 0)).bind fun (z6 : Int) => some z6

noncomputable def m_centoref04_Decode (a0 : Int) : Option S_ptr_Ptr :=
  cond (a0 == 0) (some (⟨0, 0, 0, 0, 0, 0, 0, false⟩ : S_ptr_Ptr)) ((m_centoref04_field a0 2 30).bind fun y2 => (cond (decide (536870912 ≤ y2)) (some (IntKind.i64.wrap (y2 - 1073741824))) (some y2)).bind fun (z3 : Int) => (m_centoref04_field a0 0 2).bind fun y6 => cond (y6 == 0) ((m_centoref04_field a0 32 16).bind fun y9 => (m_centoref04_field a0 48 16).bind fun y10 => some (⟨1, z3, y9, y10, 0, 0, 0, false⟩ : S_ptr_Ptr)) (cond (y6 == 1) ((m_centoref04_field a0 32 3).bind fun y13 => (m_centoref04_field a0 35 29).bind fun y14 => some (⟨2, z3, 0, 0, y13, y14, 0, false⟩ : S_ptr_Ptr)) (cond (y6 == 2) ((m_centoref04_field a0 3 29).bind fun y18 => (m_centoref04_field a0 32 32).bind fun y19 => (m_centoref04_field a0 2 1).bind fun y20 => some (⟨3, y18, 0, 0, 0, 0, y19, (y20 == 1)⟩ : S_ptr_Ptr)) (some (⟨4, 0, 0, 0, 0, 0, 0, false⟩ : S_ptr_Ptr)))))

noncomputable def m_centoref06_shape (a0 : S_ptr_Ptr) : Option Int :=
  cond (a0.Kind == 4) (some 9) (cond (cond (a0.Kind != 1) (a0.Kind != 2) false) (some 8) (some 0))

noncomputable def m_centoref04_Words (a0 : S_ptr_Ptr) : Option Int :=
  cond (a0.Kind == 1) (some (IntKind.i64.wrap (a0.Data + a0.Ptrs))) (cond (a0.Kind != 2) (some (-1)) (cond (a0.Code == 7) (some (IntKind.i64.wrap (a0.Count + 1))) (cond (cond (cond (cond (decide (a0.Code < 0)) true (decide (6 < a0.Code))) true (decide (a0.Count < 0))) true (decide (536870912 ≤ a0.Count))) (some (-1)) ((cond (a0.Code == 0) (some (.inr ())) (cond (a0.Code == 1) (some (.inl 64)) (cond (a0.Code == 2) (some (.inl 8)) (cond (a0.Code == 3) (some (.inl 4)) (cond (a0.Code == 4) (some (.inl 2)) (some (.inl 1))))))).bind fun (z1 : (Int ⊕ Unit)) => match z1 with | .inl z1 => (guardI (z1 ≠ 0)).bind fun u8 => cond (decide (0 < (Int.tmod a0.Count z1))) ((guardI (z1 ≠ 0)).bind fun u10 => some (IntKind.i64.wrap ((IntKind.i64.wrap (Int.tdiv a0.Count z1)) + 1))) ((guardI (z1 ≠ 0)).bind fun u12 => some (IntKind.i64.wrap (Int.tdiv a0.Count z1))) | .inr z1 => some 0))))

structure S_centoref06_Loc where
  P : S_ptr_Ptr
  Segment : Int
  At : Int

noncomputable def m_centoref06_whole (a0 : (List (List Int))) (a1 : S_centoref06_Loc) : Option (S_centoref06_Loc × Int) :=
  (m_centoref04_Words a1.P).bind fun y2 => (cond (decide (a1.Segment < 0)) (some true) (cond (decide ((a0.length : Int) ≤ a1.Segment)) (some true) (cond (decide (a1.At < 0)) (some true) ((getI a0 a1.Segment).bind fun x8 => cond (decide ((x8.length : Int) < a1.At)) (some true) (some (cond (cond (cond (cond (decide (a1.Segment < 0)) true (decide ((a0.length : Int) ≤ a1.Segment))) true (decide (a1.At < 0))) true (decide ((x8.length : Int) < a1.At))) true (decide ((IntKind.i64.wrap ((x8.length : Int) - a1.At)) < y2)))))))).bind fun (z5 : Bool) => cond z5 (some ((⟨⟨0, 0, 0, 0, 0, 0, 0, false⟩, 0, 0⟩ : S_centoref06_Loc), 7)) (some ((⟨⟨a1.P.Kind, 0, a1.P.Data, a1.P.Ptrs, a1.P.Code, a1.P.Count, a1.P.Segment, a1.P.Double⟩, a1.Segment, a1.At⟩ : S_centoref06_Loc), 0))

noncomputable def m_centoref06_Follow (a0 : (List (List Int))) (a1 : Int) (a2 : Int) : Option (S_centoref06_Loc × Int) :=
  (m_centoref06_has a0 a1 a2).bind fun y2 => cond (!y2) (some ((⟨⟨0, 0, 0, 0, 0, 0, 0, false⟩, 0, 0⟩ : S_centoref06_Loc), 7)) ((getI a0 a1).bind fun x6 => (getI x6 a2).bind fun x7 => (m_centoref04_Decode x7).bind fun y8 => cond (y8.Kind == 0) (some ((⟨⟨0, 0, 0, 0, 0, 0, 0, false⟩, 0, 0⟩ : S_centoref06_Loc), 0)) (cond (cond (y8.Kind == 3) y8.Double false) (((m_centoref06_has a0 y8.Segment y8.Off).bind fun y14 => cond y14 ((m_centoref06_has a0 y8.Segment (IntKind.i64.wrap (y8.Off + 1))).bind fun y15 => some (cond (!y14) true (!y15))) (some true)).bind fun (z11 : Bool) => cond z11 (some ((⟨⟨0, 0, 0, 0, 0, 0, 0, false⟩, 0, 0⟩ : S_centoref06_Loc), 7)) ((getI a0 y8.Segment).bind fun x17 => (getI x17 y8.Off).bind fun x18 => (m_centoref04_Decode x18).bind fun y19 => (getI x17 (IntKind.i64.wrap (y8.Off + 1))).bind fun x21 => (m_centoref04_Decode x21).bind fun y22 => cond (cond (y19.Kind != 3) true y19.Double) (some ((⟨⟨0, 0, 0, 0, 0, 0, 0, false⟩, 0, 0⟩ : S_centoref06_Loc), 8)) ((m_centoref06_shape y22).bind fun y24 => (cond (cond (y24 == 0) (y22.Off != 0) false) (some 8) (some y24)).bind fun (z25 : Int) => cond (z25 != 0) (some ((⟨⟨0, 0, 0, 0, 0, 0, 0, false⟩, 0, 0⟩ : S_centoref06_Loc), z25)) ((m_centoref06_whole a0 (⟨y22, y19.Segment, y19.Off⟩ : S_centoref06_Loc)).bind fun y28 => some (y28.1, y28.2))))) ((cond (y8.Kind == 3) ((m_centoref06_has a0 y8.Segment y8.Off).bind fun y34 => cond (!y34) (some (.inr ())) ((getI a0 y8.Segment).bind fun x35 => (getI x35 y8.Off).bind fun x36 => (m_centoref04_Decode x36).bind fun y37 => some (.inl (y8.Segment, y8.Off, y37.Kind, y37.Off, y37.Data, y37.Ptrs, y37.Code, y37.Count, y37.Segment, y37.Double)))) (some (.inl (a1, a2, y8.Kind, y8.Off, y8.Data, y8.Ptrs, y8.Code, y8.Count, y8.Segment, y8.Double)))).bind fun (z32 : ((Int × Int × Int × Int × Int × Int × Int × Int × Int × Bool) ⊕ Unit)) => match z32 with | .inl z32 => (m_centoref06_shape (⟨z32.2.2.1, z32.2.2.2.1, z32.2.2.2.2.1, z32.2.2.2.2.2.1, z32.2.2.2.2.2.2.1, z32.2.2.2.2.2.2.2.1, z32.2.2.2.2.2.2.2.2.1, z32.2.2.2.2.2.2.2.2.2⟩ : S_ptr_Ptr)).bind fun y41 => cond (y41 != 0) (some ((⟨⟨0, 0, 0, 0, 0, 0, 0, false⟩, 0, 0⟩ : S_centoref06_Loc), y41)) ((m_centoref06_whole a0 (⟨⟨z32.2.2.1, z32.2.2.2.1, z32.2.2.2.2.1, z32.2.2.2.2.2.1, z32.2.2.2.2.2.2.1, z32.2.2.2.2.2.2.2.1, z32.2.2.2.2.2.2.2.2.1, z32.2.2.2.2.2.2.2.2.2⟩, z32.1, (IntKind.i64.wrap ((IntKind.i64.wrap (z32.2.1 + 1)) + z32.2.2.2.1))⟩ : S_centoref06_Loc)).bind fun y43 => some (y43.1, y43.2)) | .inr z32 => some ((⟨⟨0, 0, 0, 0, 0, 0, 0, false⟩, 0, 0⟩ : S_centoref06_Loc), 7))))

noncomputable def m_centolaw06_Mine (a0 : S_centoref06_Loc) : Option S_far_Loc :=
  some (⟨⟨a0.P.Kind, a0.P.Off, a0.P.Data, a0.P.Ptrs, a0.P.Code, a0.P.Count, a0.P.Segment, a0.P.Double⟩, a0.Segment, a0.At⟩ : S_far_Loc)

noncomputable def m_centolaw06_FarFollows (a0 : (List (List Int))) (a1 : Int) (a2 : Int) : Option Bool :=
  (m_arena_Of a0).bind fun y3 => (m_far_Follow y3 a1 a2).bind fun y4 => (m_centoref06_Follow a0 a1 a2).bind fun y6 => ((m_centolaw06_Mine y6.1).bind fun y12 => cond (((y4.1.P.Kind == y12.P.Kind) && ((y4.1.P.Off == y12.P.Off) && ((y4.1.P.Data == y12.P.Data) && ((y4.1.P.Ptrs == y12.P.Ptrs) && ((y4.1.P.Code == y12.P.Code) && ((y4.1.P.Count == y12.P.Count) && ((y4.1.P.Segment == y12.P.Segment) && (y4.1.P.Double == y12.P.Double)))))))) && ((y4.1.Segment == y12.Segment) && (y4.1.At == y12.At))) (cond (y4.2 == y6.2) ((m_centolaw06_awake).bind fun y13 => some (cond (cond (((y4.1.P.Kind == y12.P.Kind) && ((y4.1.P.Off == y12.P.Off) && ((y4.1.P.Data == y12.P.Data) && ((y4.1.P.Ptrs == y12.P.Ptrs) && ((y4.1.P.Code == y12.P.Code) && ((y4.1.P.Count == y12.P.Count) && ((y4.1.P.Segment == y12.P.Segment) && (y4.1.P.Double == y12.P.Double)))))))) && ((y4.1.Segment == y12.Segment) && (y4.1.At == y12.At))) (y4.2 == y6.2) false) y13 false)) (some false)) (some false)).bind fun (z9 : Bool) => some z9

end Go.Proofs.Ytgijkjifiekkmaa
