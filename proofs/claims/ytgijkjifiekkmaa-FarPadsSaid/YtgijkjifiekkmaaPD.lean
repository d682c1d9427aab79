/- Part PD of this seat's mirrors: functions of the seat's program, and the plain functions that they are; each theorem bears its own conditions. -/
import Derived.Test.YtgijkjifiekkmaaH25
namespace Go.Proofs.Ytgijkjifiekkmaa
open Go.RowKit
set_option linter.unusedVariables false
set_option linter.unusedSimpArgs false
set_option maxRecDepth 100000
set_option maxHeartbeats 4000000
structure S_ptr_Ptr where
  Kind : Int
  Off : Int
  Data : Int
  Ptrs : Int
  Code : Int
  Count : Int
  Segment : Int
  Double : Bool

noncomputable def m_centoref04_Right (a0 : S_ptr_Ptr) : Option Bool :=
  cond (a0.Kind == 0) (some ((a0.Kind == 0) && ((a0.Off == 0) && ((a0.Data == 0) && ((a0.Ptrs == 0) && ((a0.Code == 0) && ((a0.Count == 0) && ((a0.Segment == 0) && (!a0.Double))))))))) (cond (a0.Kind == 1) (some (cond (cond (cond (cond (cond (cond (cond (decide ((-536870912) ≤ a0.Off)) (decide (a0.Off < 536870912)) false) (decide (0 ≤ a0.Data)) false) (decide (a0.Data < 65536)) false) (decide (0 ≤ a0.Ptrs)) false) (decide (a0.Ptrs < 65536)) false) ((a0.Kind == 1) && ((a0.Code == 0) && ((a0.Count == 0) && ((a0.Segment == 0) && (!a0.Double))))) false) (cond (cond (a0.Off != 0) true (a0.Data != 0)) true (a0.Ptrs != 0)) false)) (cond (a0.Kind == 2) (some (cond (cond (cond (cond (cond (cond (decide ((-536870912) ≤ a0.Off)) (decide (a0.Off < 536870912)) false) (decide (0 ≤ a0.Code)) false) (decide (a0.Code < 8)) false) (decide (0 ≤ a0.Count)) false) (decide (a0.Count < 536870912)) false) ((a0.Kind == 2) && ((a0.Data == 0) && ((a0.Ptrs == 0) && ((a0.Segment == 0) && (!a0.Double))))) false)) (cond (a0.Kind == 3) (some (cond (cond (cond (cond (decide (0 ≤ a0.Off)) (decide (a0.Off < 536870912)) false) (decide (0 ≤ a0.Segment)) false) (decide (a0.Segment < 4294967296)) false) ((a0.Kind == 3) && ((a0.Data == 0) && ((a0.Ptrs == 0) && ((a0.Code == 0) && (a0.Count == 0))))) false)) (some false))))

noncomputable def m_centoref04_Words (a0 : S_ptr_Ptr) : Option Int :=
  cond (a0.Kind == 1) (some (IntKind.i64.wrap (a0.Data + a0.Ptrs))) (cond (a0.Kind != 2) (some (-1)) (cond (a0.Code == 7) (some (IntKind.i64.wrap (a0.Count + 1))) (cond (cond (cond (cond (decide (a0.Code < 0)) true (decide (6 < a0.Code))) true (decide (a0.Count < 0))) true (decide (536870912 ≤ a0.Count))) (some (-1)) ((cond (a0.Code == 0) (some (.inr ())) (cond (a0.Code == 1) (some (.inl 64)) (cond (a0.Code == 2) (some (.inl 8)) (cond (a0.Code == 3) (some (.inl 4)) (cond (a0.Code == 4) (some (.inl 2)) (some (.inl 1))))))).bind fun (z1 : (Int ⊕ Unit)) => match z1 with | .inl z1 => (guardI (z1 ≠ 0)).bind fun u8 => cond (decide (0 < (Int.tmod a0.Count z1))) ((guardI (z1 ≠ 0)).bind fun u10 => some (IntKind.i64.wrap ((IntKind.i64.wrap (Int.tdiv a0.Count z1)) + 1))) ((guardI (z1 ≠ 0)).bind fun u12 => some (IntKind.i64.wrap (Int.tdiv a0.Count z1))) | .inr z1 => some 0))))

noncomputable def m_slices_Clone_uint64_uint64 (a0 : List Int) : Option (List Int) :=
  appI 8 ([] : List Int) a0

noncomputable def m_arena_clone_L0 (a0 : (List (List Int))) (s0_ : (Int × (List (List Int)))) : Option ((Int × (List (List Int))) ⊕ (List (List Int))) :=
  cond (decide (s0_.1 < (a0.length : Int))) ((getI a0 s0_.1).bind fun x4 => (m_slices_Clone_uint64_uint64 x4).bind fun y5 => (getI s0_.2 s0_.1).bind fun x6 => some (.inl ((IntKind.i64.wrap (s0_.1 + 1)), (setI s0_.2 s0_.1 y5)))) (some (.inr s0_.2))

noncomputable def m_arena_clone (a0 : (List (List Int))) : Option (List (List Int)) :=
  (makeI 24 (a0.length : Int) ([] : (List Int))).bind fun l2 => (runLoop (m_arena_clone_L0 a0) (0, l2)).bind fun (z9 : (List (List Int))) => some z9

structure S_arena_Arena where
  segments : (List (List Int))
  size : Int
  left : Int

noncomputable def m_arena_Of (a0 : (List (List Int))) : Option (Option S_arena_Arena) :=
  (m_arena_clone a0).bind fun y2 => some (some (⟨y2, 0, 0⟩ : S_arena_Arena))

noncomputable def m_arena_Arena_Len (a0 : (Option S_arena_Arena)) : Option Int :=
  cond (Option.isNone a0) (some 0) ((a0).bind fun x4 => some (x4.segments.length : Int))

noncomputable def m_arena_Arena_there (a0 : (Option S_arena_Arena)) (a1 : Int) : Option Bool :=
  (cond (decide (0 ≤ a1)) ((m_arena_Arena_Len a0).bind fun y4 => some (cond (decide (0 ≤ a1)) (decide (a1 < y4)) false)) (some false)).bind fun (z2 : Bool) => some z2

noncomputable def m_arena_Arena_Size (a0 : (Option S_arena_Arena)) (a1 : Int) : Option Int :=
  (m_arena_Arena_there a0 a1).bind fun y2 => cond (!y2) (some 0) ((a0).bind fun x5 => (getI x5.segments a1).bind fun x6 => some (x6.length : Int))

noncomputable def m_arena_Arena_Has (a0 : (Option S_arena_Arena)) (a1 : Int) (a2 : Int) (a3 : Int) : Option Bool :=
  ((m_arena_Arena_there a0 a1).bind fun y8 => cond y8 (cond (decide (0 ≤ a2)) (cond (decide (0 ≤ a3)) ((m_arena_Arena_Size a0 a1).bind fun y9 => cond (decide (a3 ≤ y9)) ((m_arena_Arena_Size a0 a1).bind fun y10 => some (cond (cond (cond (cond y8 (decide (0 ≤ a2)) false) (decide (0 ≤ a3)) false) (decide (a3 ≤ y9)) false) (decide (a2 ≤ (IntKind.i64.wrap (y10 - a3)))) false)) (some false)) (some false)) (some false)) (some false)).bind fun (z4 : Bool) => some z4

noncomputable def m_arena_Arena_Get (a0 : (Option S_arena_Arena)) (a1 : Int) (a2 : Int) : Option (Int × Bool) :=
  (m_arena_Arena_Has a0 a1 a2 1).bind fun y2 => cond (!y2) (some (0, false)) ((a0).bind fun x6 => (getI x6.segments a1).bind fun x7 => (getI x7 a2).bind fun x8 => some (x8, true))

noncomputable def m_ptr_offset (a0 : Int) : Option Int :=
  some (IntKind.i64.wrap (Int.fdiv (IntKind.i32.wrap (IntKind.u32.wrap a0)) (2 ^ min (Int.toNat 2) 32)))

noncomputable def m_ptr_field (a0 : Int) (a1 : Int) (a2 : Int) : Option Int :=
  (guardI (0 ≤ a1)).bind fun u3 => (guardI (0 ≤ a2)).bind fun u4 => some (IntKind.i64.wrap (IntKind.u64.wrap (landI .u64 (Int.fdiv a0 (2 ^ min (Int.toNat a1) 64)) (IntKind.u64.wrap ((IntKind.u64.wrap (1 * 2 ^ min (Int.toNat a2) 64)) - 1)))))

noncomputable def m_ptr_Decode (a0 : Int) : Option S_ptr_Ptr :=
  cond (a0 == 0) (some (⟨0, 0, 0, 0, 0, 0, 0, false⟩ : S_ptr_Ptr)) (cond ((IntKind.u64.wrap (landI .u64 a0 3)) == 0) ((m_ptr_offset a0).bind fun y4 => (m_ptr_field a0 32 16).bind fun y5 => (m_ptr_field a0 48 16).bind fun y6 => some (⟨1, y4, y5, y6, 0, 0, 0, false⟩ : S_ptr_Ptr)) (cond ((IntKind.u64.wrap (landI .u64 a0 3)) == 1) ((m_ptr_offset a0).bind fun y10 => (m_ptr_field a0 32 3).bind fun y11 => (m_ptr_field a0 35 29).bind fun y12 => some (⟨2, y10, 0, 0, y11, y12, 0, false⟩ : S_ptr_Ptr)) (cond ((IntKind.u64.wrap (landI .u64 a0 3)) == 2) ((m_ptr_field a0 3 29).bind fun y15 => (m_ptr_field a0 32 32).bind fun y16 => some (⟨3, y15, 0, 0, 0, 0, y16, ((IntKind.u64.wrap (landI .u64 (Int.fdiv a0 (2 ^ min (Int.toNat 2) 64)) 1)) == 1)⟩ : S_ptr_Ptr)) (some (⟨4, 0, 0, 0, 0, 0, 0, false⟩ : S_ptr_Ptr)))))

noncomputable def m_arena_Arena_Part (a0 : (Option S_arena_Arena)) (a1 : Int) (a2 : Int) (a3 : Int) : Option ((List Int) × Bool) :=
  (m_arena_Arena_Has a0 a1 a2 a3).bind fun y2 => cond (!y2) (some (([] : (List Int)), false)) ((a0).bind fun x7 => (getI x7.segments a1).bind fun x8 => (subI x8 a2 (IntKind.i64.wrap (a2 + a3))).bind fun l9 => (m_slices_Clone_uint64_uint64 l9).bind fun y10 => some (y10, true))

noncomputable def m_ptr_width (a0 : Int) : Option Int :=
  ((some (⟨[0, 1, 8, 16, 32, 64, 64], rfl⟩ : (Arr Int 7)))).bind fun y6 => ((some (⟨[0, 0, 0, 0, 0, 0, 0], rfl⟩ : (Arr Int 7)))).bind fun y8 => (getI y6.1 a0).bind fun x12 => some x12

noncomputable def m_ptr_Ptr_Words (a0 : S_ptr_Ptr) : Option (Int × Bool) :=
  cond (a0.Kind == 1) (some ((IntKind.i64.wrap (a0.Data + a0.Ptrs)), true)) (cond (cond (a0.Kind == 2) (a0.Code == 7) false) (some ((IntKind.i64.wrap (a0.Count + 1)), true)) (cond (cond (cond (cond (cond (a0.Kind == 2) (decide (0 ≤ a0.Code)) false) (decide (a0.Code < 7)) false) (decide (0 ≤ a0.Count)) false) (decide (a0.Count ≤ 536870911)) false) ((m_ptr_width a0.Code).bind fun y2 => some ((IntKind.i64.wrap (Int.tdiv (IntKind.i64.wrap ((IntKind.i64.wrap (a0.Count * y2)) + 63)) 64)), true)) (some (0, false))))

structure S_far_Loc where
  P : S_ptr_Ptr
  Segment : Int
  At : Int

noncomputable def m_far_target (a0 : (Option S_arena_Arena)) (a1 : S_ptr_Ptr) (a2 : Int) (a3 : Int) : Option (S_far_Loc × Int) :=
  cond (a1.Kind == 4) (some ((⟨⟨0, 0, 0, 0, 0, 0, 0, false⟩, 0, 0⟩ : S_far_Loc), 9)) ((m_ptr_Ptr_Words a1).bind fun y2 => cond (!y2.2) (some ((⟨⟨0, 0, 0, 0, 0, 0, 0, false⟩, 0, 0⟩ : S_far_Loc), 8)) ((m_arena_Arena_Has a0 a2 a3 y2.1).bind fun y4 => cond (!y4) (some ((⟨⟨0, 0, 0, 0, 0, 0, 0, false⟩, 0, 0⟩ : S_far_Loc), 7)) (some ((⟨⟨a1.Kind, 0, a1.Data, a1.Ptrs, a1.Code, a1.Count, a1.Segment, a1.Double⟩, a2, a3⟩ : S_far_Loc), 0))))

noncomputable def m_far_double (a0 : (Option S_arena_Arena)) (a1 : Int) (a2 : Int) : Option (S_far_Loc × Int) :=
  (m_arena_Arena_Part a0 a1 a2 2).bind fun y2 => cond (!y2.2) (some ((⟨⟨0, 0, 0, 0, 0, 0, 0, false⟩, 0, 0⟩ : S_far_Loc), 7)) ((getI y2.1 0).bind fun x3 => (m_ptr_Decode x3).bind fun y4 => (getI y2.1 1).bind fun x5 => (m_ptr_Decode x5).bind fun y6 => cond (cond (y4.Kind != 3) true y4.Double) (some ((⟨⟨0, 0, 0, 0, 0, 0, 0, false⟩, 0, 0⟩ : S_far_Loc), 8)) (cond (cond (y6.Kind != 4) (y6.Off != 0) false) (some ((⟨⟨0, 0, 0, 0, 0, 0, 0, false⟩, 0, 0⟩ : S_far_Loc), 8)) ((m_far_target a0 y6 y4.Segment y4.Off).bind fun y8 => some (y8.1, y8.2))))

noncomputable def m_far_single (a0 : (Option S_arena_Arena)) (a1 : Int) (a2 : Int) : Option (S_far_Loc × Int) :=
  (m_arena_Arena_Get a0 a1 a2).bind fun y2 => cond (!y2.2) (some ((⟨⟨0, 0, 0, 0, 0, 0, 0, false⟩, 0, 0⟩ : S_far_Loc), 7)) ((m_ptr_Decode y2.1).bind fun y4 => (m_far_target a0 y4 a1 (IntKind.i64.wrap ((IntKind.i64.wrap (a2 + 1)) + y4.Off))).bind fun y6 => some (y6.1, y6.2))

noncomputable def m_far_Follow (a0 : (Option S_arena_Arena)) (a1 : Int) (a2 : Int) : Option (S_far_Loc × Int) :=
  (m_arena_Arena_Get a0 a1 a2).bind fun y2 => cond (!y2.2) (some ((⟨⟨0, 0, 0, 0, 0, 0, 0, false⟩, 0, 0⟩ : S_far_Loc), 7)) ((m_ptr_Decode y2.1).bind fun y4 => cond (y4.Kind == 0) (some ((⟨⟨0, 0, 0, 0, 0, 0, 0, false⟩, 0, 0⟩ : S_far_Loc), 0)) (cond (cond (y4.Kind == 3) y4.Double false) ((m_far_double a0 y4.Segment y4.Off).bind fun y6 => some (y6.1, y6.2)) (cond (y4.Kind == 3) ((m_far_single a0 y4.Segment y4.Off).bind fun y8 => some (y8.1, y8.2)) ((m_far_target a0 y4 a1 (IntKind.i64.wrap ((IntKind.i64.wrap (a2 + 1)) + y4.Off))).bind fun y10 => some (y10.1, y10.2)))))

noncomputable def m_centolaw06_awake  : Option Bool :=
  (m_arena_Of ([([4294967296, 7] : List Int)] : List (List Int))).bind fun y3 => (m_far_Follow y3 0 0).bind fun y4 => some (cond (y4.2 == 0) (((y4.1.P.Kind == 1) && ((y4.1.P.Off == 0) && ((y4.1.P.Data == 1) && ((y4.1.P.Ptrs == 0) && ((y4.1.P.Code == 0) && ((y4.1.P.Count == 0) && ((y4.1.P.Segment == 0) && (!y4.1.P.Double)))))))) && ((y4.1.Segment == 0) && (y4.1.At == 1))) false)

structure S_centoref06_Loc where
  P : S_ptr_Ptr
  Segment : Int
  At : Int

noncomputable def m_centolaw06_Mine (a0 : S_centoref06_Loc) : Option S_far_Loc :=
  some (⟨⟨a0.P.Kind, a0.P.Off, a0.P.Data, a0.P.Ptrs, a0.P.Code, a0.P.Count, a0.P.Segment, a0.P.Double⟩, a0.Segment, a0.At⟩ : S_far_Loc)

noncomputable def m_ptr_lay (a0 : S_ptr_Ptr) : Option Int :=
  cond (a0.Kind == 1) (some (IntKind.u64.wrap (lorI .u64 (IntKind.u64.wrap (lorI .u64 (IntKind.u64.wrap (IntKind.u32.wrap ((IntKind.u32.wrap a0.Off) * 2 ^ min (Int.toNat 2) 32))) (IntKind.u64.wrap ((IntKind.u64.wrap a0.Data) * 2 ^ min (Int.toNat 32) 64)))) (IntKind.u64.wrap ((IntKind.u64.wrap a0.Ptrs) * 2 ^ min (Int.toNat 48) 64))))) (cond (a0.Kind == 2) (some (IntKind.u64.wrap (lorI .u64 (IntKind.u64.wrap (lorI .u64 (IntKind.u64.wrap (lorI .u64 1 (IntKind.u64.wrap (IntKind.u32.wrap ((IntKind.u32.wrap a0.Off) * 2 ^ min (Int.toNat 2) 32))))) (IntKind.u64.wrap ((IntKind.u64.wrap a0.Code) * 2 ^ min (Int.toNat 32) 64)))) (IntKind.u64.wrap ((IntKind.u64.wrap a0.Count) * 2 ^ min (Int.toNat 35) 64))))) (cond (a0.Kind == 3) ((cond a0.Double (some (IntKind.u64.wrap (lorI .u64 (IntKind.u64.wrap (lorI .u64 (IntKind.u64.wrap (lorI .u64 2 (IntKind.u64.wrap ((IntKind.u64.wrap a0.Off) * 2 ^ min (Int.toNat 3) 64)))) (IntKind.u64.wrap ((IntKind.u64.wrap a0.Segment) * 2 ^ min (Int.toNat 32) 64)))) 4))) (some (IntKind.u64.wrap (lorI .u64 (IntKind.u64.wrap (lorI .u64 2 (IntKind.u64.wrap ((IntKind.u64.wrap a0.Off) * 2 ^ min (Int.toNat 3) 64)))) (IntKind.u64.wrap ((IntKind.u64.wrap a0.Segment) * 2 ^ min (Int.toNat 32) 64)))))).bind fun (z1 : Int) => some z1) (some 0)))

noncomputable def m_ptr_Encode (a0 : S_ptr_Ptr) : Option (Int × Bool) :=
  (m_ptr_lay a0).bind fun y2 => (cond (a0.Kind != 4) ((m_ptr_Decode y2).bind fun y6 => some (cond (a0.Kind != 4) ((y6.Kind == a0.Kind) && ((y6.Off == a0.Off) && ((y6.Data == a0.Data) && ((y6.Ptrs == a0.Ptrs) && ((y6.Code == a0.Code) && ((y6.Count == a0.Count) && ((y6.Segment == a0.Segment) && (y6.Double == a0.Double)))))))) false)) (some false)).bind fun (z4 : Bool) => some (y2, z4)

noncomputable def m_centolaw06_FarPads (a0 : S_ptr_Ptr) (a1 : Int) : Option Bool :=
  (cond (a0.Kind != 1) (cond (a0.Kind != 2) (some true) ((m_centoref04_Right a0).bind fun y10 => cond y10 ((m_centoref04_Words a0).bind fun y11 => some (cond (cond (cond (a0.Kind != 1) (a0.Kind != 2) false) true (!y10)) true (decide (40 < y11)))) (some true))) ((m_centoref04_Right a0).bind fun y12 => cond y12 ((m_centoref04_Words a0).bind fun y13 => some (cond (cond (cond (a0.Kind != 1) (a0.Kind != 2) false) true (!y12)) true (decide (40 < y13)))) (some true))).bind fun (z5 : Bool) => cond z5 ((m_centolaw06_awake).bind fun y19 => some y19) ((m_centolaw06_Mine (⟨⟨a0.Kind, (IntKind.i64.wrap (landI .i64 a1 7)), a0.Data, a0.Ptrs, a0.Code, a0.Count, a0.Segment, a0.Double⟩, 0, 0⟩ : S_centoref06_Loc)).bind fun y22 => (m_ptr_Encode y22.P).bind fun y23 => cond (!y23.2) ((cond ((a0.Kind == 1) && (((IntKind.i64.wrap (landI .i64 a1 7)) == 0) && ((a0.Data == 0) && ((a0.Ptrs == 0) && ((a0.Code == 0) && ((a0.Count == 0) && ((a0.Segment == 0) && (!a0.Double)))))))) ((m_centolaw06_awake).bind fun y27 => some (cond ((a0.Kind == 1) && (((IntKind.i64.wrap (landI .i64 a1 7)) == 0) && ((a0.Data == 0) && ((a0.Ptrs == 0) && ((a0.Code == 0) && ((a0.Count == 0) && ((a0.Segment == 0) && (!a0.Double)))))))) y27 false)) (some false)).bind fun (z25 : Bool) => some z25) ((m_centolaw06_Mine (⟨⟨a0.Kind, 0, a0.Data, a0.Ptrs, a0.Code, a0.Count, a0.Segment, a0.Double⟩, 0, 0⟩ : S_centoref06_Loc)).bind fun y31 => (m_ptr_Encode y31.P).bind fun y32 => (m_centoref04_Words (⟨a0.Kind, 0, a0.Data, a0.Ptrs, a0.Code, a0.Count, a0.Segment, a0.Double⟩ : S_ptr_Ptr)).bind fun y35 => (makeI 8 (IntKind.i64.wrap ((IntKind.i64.wrap (1 + (IntKind.i64.wrap (landI .i64 a1 7)))) + y35)) (0 : Int)).bind fun l36 => (getI l36 0).bind fun x39 => (m_arena_Of ([(setI l36 0 y23.1), ([2] : List Int), ([12884901894] : List Int), ([(IntKind.u64.wrap (IntKind.i64.wrap (lorI .i64 2 (IntKind.i64.wrap ((IntKind.i64.wrap (1 + (IntKind.i64.wrap (landI .i64 a1 7)))) * 2 ^ min (Int.toNat 3) 64))))), y32.1] : List Int)] : List (List Int))).bind fun y42 => (m_far_Follow y42 0 0).bind fun y44 => (m_far_Follow y42 1 0).bind fun y46 => (m_far_Follow y42 2 0).bind fun y48 => cond (!y32.2) ((cond (y44.2 == 0) (cond (y46.2 == 0) (cond (((y44.1.P.Kind == y46.1.P.Kind) && ((y44.1.P.Off == y46.1.P.Off) && ((y44.1.P.Data == y46.1.P.Data) && ((y44.1.P.Ptrs == y46.1.P.Ptrs) && ((y44.1.P.Code == y46.1.P.Code) && ((y44.1.P.Count == y46.1.P.Count) && ((y44.1.P.Segment == y46.1.P.Segment) && (y44.1.P.Double == y46.1.P.Double)))))))) && ((y44.1.Segment == y46.1.Segment) && (y44.1.At == y46.1.At))) ((m_centolaw06_awake).bind fun y52 => some (cond (cond (cond (y44.2 == 0) (y46.2 == 0) false) (((y44.1.P.Kind == y46.1.P.Kind) && ((y44.1.P.Off == y46.1.P.Off) && ((y44.1.P.Data == y46.1.P.Data) && ((y44.1.P.Ptrs == y46.1.P.Ptrs) && ((y44.1.P.Code == y46.1.P.Code) && ((y44.1.P.Count == y46.1.P.Count) && ((y44.1.P.Segment == y46.1.P.Segment) && (y44.1.P.Double == y46.1.P.Double)))))))) && ((y44.1.Segment == y46.1.Segment) && (y44.1.At == y46.1.At))) false) y52 false)) (some false)) (some false)) (some false)).bind fun (z50 : Bool) => some z50) ((cond (y44.2 == 0) (cond (y46.2 == 0) (cond (y48.2 == 0) (cond (((y44.1.P.Kind == y46.1.P.Kind) && ((y44.1.P.Off == y46.1.P.Off) && ((y44.1.P.Data == y46.1.P.Data) && ((y44.1.P.Ptrs == y46.1.P.Ptrs) && ((y44.1.P.Code == y46.1.P.Code) && ((y44.1.P.Count == y46.1.P.Count) && ((y44.1.P.Segment == y46.1.P.Segment) && (y44.1.P.Double == y46.1.P.Double)))))))) && ((y44.1.Segment == y46.1.Segment) && (y44.1.At == y46.1.At))) (cond (((y46.1.P.Kind == y48.1.P.Kind) && ((y46.1.P.Off == y48.1.P.Off) && ((y46.1.P.Data == y48.1.P.Data) && ((y46.1.P.Ptrs == y48.1.P.Ptrs) && ((y46.1.P.Code == y48.1.P.Code) && ((y46.1.P.Count == y48.1.P.Count) && ((y46.1.P.Segment == y48.1.P.Segment) && (y46.1.P.Double == y48.1.P.Double)))))))) && ((y46.1.Segment == y48.1.Segment) && (y46.1.At == y48.1.At))) (cond (y44.1.At == (IntKind.i64.wrap (1 + (IntKind.i64.wrap (landI .i64 a1 7))))) ((m_centolaw06_awake).bind fun y59 => some (cond (cond (cond (cond (cond (cond (y44.2 == 0) (y46.2 == 0) false) (y48.2 == 0) false) (((y44.1.P.Kind == y46.1.P.Kind) && ((y44.1.P.Off == y46.1.P.Off) && ((y44.1.P.Data == y46.1.P.Data) && ((y44.1.P.Ptrs == y46.1.P.Ptrs) && ((y44.1.P.Code == y46.1.P.Code) && ((y44.1.P.Count == y46.1.P.Count) && ((y44.1.P.Segment == y46.1.P.Segment) && (y44.1.P.Double == y46.1.P.Double)))))))) && ((y44.1.Segment == y46.1.Segment) && (y44.1.At == y46.1.At))) false) (((y46.1.P.Kind == y48.1.P.Kind) && ((y46.1.P.Off == y48.1.P.Off) && ((y46.1.P.Data == y48.1.P.Data) && ((y46.1.P.Ptrs == y48.1.P.Ptrs) && ((y46.1.P.Code == y48.1.P.Code) && ((y46.1.P.Count == y48.1.P.Count) && ((y46.1.P.Segment == y48.1.P.Segment) && (y46.1.P.Double == y48.1.P.Double)))))))) && ((y46.1.Segment == y48.1.Segment) && (y46.1.At == y48.1.At))) false) (y44.1.At == (IntKind.i64.wrap (1 + (IntKind.i64.wrap (landI .i64 a1 7))))) false) y59 false)) (some false)) (some false)) (some false)) (some false)) (some false)) (some false)).bind fun (z57 : Bool) => some z57)))

end Go.Proofs.Ytgijkjifiekkmaa
