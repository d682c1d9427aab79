/- Part QD of this seat's mirrors: functions of the seat's program, and the plain functions that they are; each theorem bears its own conditions. -/
import Derived.Test.YtgijkjifiekkmaaH7
namespace Go.Proofs.Ytgijkjifiekkmaa
open Go.RowKit
set_option linter.unusedVariables false
set_option linter.unusedSimpArgs false
set_option maxRecDepth 100000
noncomputable def m_ptr_offset (a0 : Int) : Option Int :=
  some (IntKind.i64.wrap (Int.fdiv (IntKind.i32.wrap (IntKind.u32.wrap a0)) (2 ^ min (Int.toNat 2) 32)))

noncomputable def m_ptr_field (a0 : Int) (a1 : Int) (a2 : Int) : Option Int :=
  (guardI (0 ≤ a1)).bind fun u3 => (guardI (0 ≤ a2)).bind fun u4 => some (IntKind.i64.wrap (IntKind.u64.wrap (landI .u64 (Int.fdiv a0 (2 ^ min (Int.toNat a1) 64)) (IntKind.u64.wrap ((IntKind.u64.wrap (1 * 2 ^ min (Int.toNat a2) 64)) - 1)))))

structure S_ptr_Ptr where
  Kind : Int
  Off : Int
  Data : Int
  Ptrs : Int
  Code : Int
  Count : Int
  Segment : Int
  Double : Bool

noncomputable def m_ptr_Decode (a0 : Int) : Option S_ptr_Ptr :=
  cond (a0 == 0) (some (⟨0, 0, 0, 0, 0, 0, 0, false⟩ : S_ptr_Ptr)) (cond ((IntKind.u64.wrap (landI .u64 a0 3)) == 0) ((m_ptr_offset a0).bind fun y4 => (m_ptr_field a0 32 16).bind fun y5 => (m_ptr_field a0 48 16).bind fun y6 => some (⟨1, y4, y5, y6, 0, 0, 0, false⟩ : S_ptr_Ptr)) (cond ((IntKind.u64.wrap (landI .u64 a0 3)) == 1) ((m_ptr_offset a0).bind fun y10 => (m_ptr_field a0 32 3).bind fun y11 => (m_ptr_field a0 35 29).bind fun y12 => some (⟨2, y10, 0, 0, y11, y12, 0, false⟩ : S_ptr_Ptr)) (cond ((IntKind.u64.wrap (landI .u64 a0 3)) == 2) ((m_ptr_field a0 3 29).bind fun y15 => (m_ptr_field a0 32 32).bind fun y16 => some (⟨3, y15, 0, 0, 0, 0, y16, ((IntKind.u64.wrap (landI .u64 (Int.fdiv a0 (2 ^ min (Int.toNat 2) 64)) 1)) == 1)⟩ : S_ptr_Ptr)) (some (⟨4, 0, 0, 0, 0, 0, 0, false⟩ : S_ptr_Ptr)))))

noncomputable def m_centolaw04_mine (a0 : S_ptr_Ptr) : Option S_ptr_Ptr :=
  some (⟨a0.Kind, a0.Off, a0.Data, a0.Ptrs, a0.Code, a0.Count, a0.Segment, a0.Double⟩ : S_ptr_Ptr)

noncomputable def m_centoref04_field_L0 (a1 : Int) (s0_ : (Int × Int)) : Option ((Int × Int) ⊕ Int) :=
  cond (decide (s0_.2 < a1)) (some (.inl ((IntKind.u64.wrap (Int.tdiv s0_.1 2)), (IntKind.i64.wrap (s0_.2 + 1))))) (some (.inr s0_.1))

noncomputable def m_centoref04_field_L1 (a2 : Int) (s1_ : (Int × Int × Int × Int)) : Option ((Int × Int × Int × Int) ⊕ Int) :=
  cond (decide (s1_.2.2.2 < a2)) ((cond ((Int.tmod s1_.1 2) == 1) (some (IntKind.i64.wrap (s1_.2.1 + s1_.2.2.1))) (some s1_.2.1)).bind fun (z3 : Int) => some (.inl ((IntKind.u64.wrap (Int.tdiv s1_.1 2)), z3, (IntKind.i64.wrap (2 * s1_.2.2.1)), (IntKind.i64.wrap (s1_.2.2.2 + 1))))) (some (.inr s1_.2.1))

noncomputable def m_centoref04_field (a0 : Int) (a1 : Int) (a2 : Int) : Option Int :=
  (runLoop (m_centoref04_field_L0 a1) (a0, 0)).bind fun (z2 : Int) => (runLoop (m_centoref04_field_L1 a2) (z2, 0, 1, 0)).bind fun (z6 : Int) => some z6

noncomputable def m_centoref04_Decode (a0 : Int) : Option S_ptr_Ptr :=
  cond (a0 == 0) (some (⟨0, 0, 0, 0, 0, 0, 0, false⟩ : S_ptr_Ptr)) ((m_centoref04_field a0 2 30).bind fun y2 => (cond (decide (536870912 ≤ y2)) (some (IntKind.i64.wrap (y2 - 1073741824))) (some y2)).bind fun (z3 : Int) => (m_centoref04_field a0 0 2).bind fun y6 => cond (y6 == 0) ((m_centoref04_field a0 32 16).bind fun y9 => (m_centoref04_field a0 48 16).bind fun y10 => some (⟨1, z3, y9, y10, 0, 0, 0, false⟩ : S_ptr_Ptr)) (cond (y6 == 1) ((m_centoref04_field a0 32 3).bind fun y13 => (m_centoref04_field a0 35 29).bind fun y14 => some (⟨2, z3, 0, 0, y13, y14, 0, false⟩ : S_ptr_Ptr)) (cond (y6 == 2) ((m_centoref04_field a0 3 29).bind fun y18 => (m_centoref04_field a0 32 32).bind fun y19 => (m_centoref04_field a0 2 1).bind fun y20 => some (⟨3, y18, 0, 0, 0, 0, y19, (y20 == 1)⟩ : S_ptr_Ptr)) (some (⟨4, 0, 0, 0, 0, 0, 0, false⟩ : S_ptr_Ptr)))))

noncomputable def m_ptr_lay (a0 : S_ptr_Ptr) : Option Int :=
  cond (a0.Kind == 1) (some (IntKind.u64.wrap (lorI .u64 (IntKind.u64.wrap (lorI .u64 (IntKind.u64.wrap (IntKind.u32.wrap ((IntKind.u32.wrap a0.Off) * 2 ^ min (Int.toNat 2) 32))) (IntKind.u64.wrap ((IntKind.u64.wrap a0.Data) * 2 ^ min (Int.toNat 32) 64)))) (IntKind.u64.wrap ((IntKind.u64.wrap a0.Ptrs) * 2 ^ min (Int.toNat 48) 64))))) (cond (a0.Kind == 2) (some (IntKind.u64.wrap (lorI .u64 (IntKind.u64.wrap (lorI .u64 (IntKind.u64.wrap (lorI .u64 1 (IntKind.u64.wrap (IntKind.u32.wrap ((IntKind.u32.wrap a0.Off) * 2 ^ min (Int.toNat 2) 32))))) (IntKind.u64.wrap ((IntKind.u64.wrap a0.Code) * 2 ^ min (Int.toNat 32) 64)))) (IntKind.u64.wrap ((IntKind.u64.wrap a0.Count) * 2 ^ min (Int.toNat 35) 64))))) (cond (a0.Kind == 3) ((cond a0.Double (some (IntKind.u64.wrap (lorI .u64 (IntKind.u64.wrap (lorI .u64 (IntKind.u64.wrap (lorI .u64 2 (IntKind.u64.wrap ((IntKind.u64.wrap a0.Off) * 2 ^ min (Int.toNat 3) 64)))) (IntKind.u64.wrap ((IntKind.u64.wrap a0.Segment) * 2 ^ min (Int.toNat 32) 64)))) 4))) (some (IntKind.u64.wrap (lorI .u64 (IntKind.u64.wrap (lorI .u64 2 (IntKind.u64.wrap ((IntKind.u64.wrap a0.Off) * 2 ^ min (Int.toNat 3) 64)))) (IntKind.u64.wrap ((IntKind.u64.wrap a0.Segment) * 2 ^ min (Int.toNat 32) 64)))))).bind fun (z1 : Int) => some z1) (some 0)))

noncomputable def m_ptr_Encode (a0 : S_ptr_Ptr) : Option (Int × Bool) :=
  (m_ptr_lay a0).bind fun y2 => (cond (a0.Kind != 4) ((m_ptr_Decode y2).bind fun y5 => some (cond (a0.Kind != 4) ((y5.Kind == a0.Kind) && ((y5.Off == a0.Off) && ((y5.Data == a0.Data) && ((y5.Ptrs == a0.Ptrs) && ((y5.Code == a0.Code) && ((y5.Count == a0.Count) && ((y5.Segment == a0.Segment) && (y5.Double == a0.Double)))))))) false)) (some false)).bind fun (z4 : Bool) => some (y2, z4)

noncomputable def m_centolaw04_awake  : Option Bool :=
  ((m_ptr_Decode 4294967296).bind fun y4 => cond ((y4.Kind == 1) && ((y4.Off == 0) && ((y4.Data == 1) && ((y4.Ptrs == 0) && ((y4.Code == 0) && ((y4.Count == 0) && ((y4.Segment == 0) && (!y4.Double)))))))) ((m_ptr_Decode 4294967292).bind fun y5 => some (cond ((y4.Kind == 1) && ((y4.Off == 0) && ((y4.Data == 1) && ((y4.Ptrs == 0) && ((y4.Code == 0) && ((y4.Count == 0) && ((y4.Segment == 0) && (!y4.Double)))))))) ((y5.Kind == 1) && ((y5.Off == (-1)) && ((y5.Data == 0) && ((y5.Ptrs == 0) && ((y5.Code == 0) && ((y5.Count == 0) && ((y5.Segment == 0) && (!y5.Double)))))))) false)) (some false)).bind fun (z3 : Bool) => some z3

noncomputable def m_centolaw04_PtrDecodes (a0 : Int) : Option Bool :=
  (m_ptr_Decode a0).bind fun y2 => (m_centoref04_Decode a0).bind fun y5 => (m_centolaw04_mine y5).bind fun y6 => cond (!((y2.Kind == y6.Kind) && ((y2.Off == y6.Off) && ((y2.Data == y6.Data) && ((y2.Ptrs == y6.Ptrs) && ((y2.Code == y6.Code) && ((y2.Count == y6.Count) && ((y2.Segment == y6.Segment) && (y2.Double == y6.Double))))))))) (some false) ((m_ptr_Encode y2).bind fun y8 => cond (y2.Kind == 4) ((cond y8.2 (some false) ((m_centolaw04_awake).bind fun y11 => some (cond (!y8.2) y11 false))).bind fun (z10 : Bool) => some z10) ((cond y8.2 (cond (y8.1 == a0) ((m_centolaw04_awake).bind fun y15 => some (cond (cond y8.2 (y8.1 == a0) false) y15 false)) (some false)) (some false)).bind fun (z14 : Bool) => some z14))

noncomputable def m_centoref04_Right (a0 : S_ptr_Ptr) : Option Bool :=
  cond (a0.Kind == 0) (some ((a0.Kind == 0) && ((a0.Off == 0) && ((a0.Data == 0) && ((a0.Ptrs == 0) && ((a0.Code == 0) && ((a0.Count == 0) && ((a0.Segment == 0) && (!a0.Double))))))))) (cond (a0.Kind == 1) (some (cond (cond (cond (cond (cond (cond (cond (decide ((-536870912) ≤ a0.Off)) (decide (a0.Off < 536870912)) false) (decide (0 ≤ a0.Data)) false) (decide (a0.Data < 65536)) false) (decide (0 ≤ a0.Ptrs)) false) (decide (a0.Ptrs < 65536)) false) ((a0.Kind == 1) && ((a0.Code == 0) && ((a0.Count == 0) && ((a0.Segment == 0) && (!a0.Double))))) false) (cond (cond (a0.Off != 0) true (a0.Data != 0)) true (a0.Ptrs != 0)) false)) (cond (a0.Kind == 2) (some (cond (cond (cond (cond (cond (cond (decide ((-536870912) ≤ a0.Off)) (decide (a0.Off < 536870912)) false) (decide (0 ≤ a0.Code)) false) (decide (a0.Code < 8)) false) (decide (0 ≤ a0.Count)) false) (decide (a0.Count < 536870912)) false) ((a0.Kind == 2) && ((a0.Data == 0) && ((a0.Ptrs == 0) && ((a0.Segment == 0) && (!a0.Double))))) false)) (cond (a0.Kind == 3) (some (cond (cond (cond (cond (decide (0 ≤ a0.Off)) (decide (a0.Off < 536870912)) false) (decide (0 ≤ a0.Segment)) false) (decide (a0.Segment < 4294967296)) false) ((a0.Kind == 3) && ((a0.Data == 0) && ((a0.Ptrs == 0) && ((a0.Code == 0) && (a0.Count == 0))))) false)) (some false))))

noncomputable def m_centolaw04_PtrEncodes (a0 : S_ptr_Ptr) : Option Bool :=
  (m_centolaw04_mine a0).bind fun y3 => (m_ptr_Encode y3).bind fun y4 => (m_centoref04_Right a0).bind fun y6 => cond (y4.2 != y6) (some false) ((cond y4.2 ((m_ptr_Decode y4.1).bind fun y13 => (m_centolaw04_mine a0).bind fun y14 => cond ((y13.Kind == y14.Kind) && ((y13.Off == y14.Off) && ((y13.Data == y14.Data) && ((y13.Ptrs == y14.Ptrs) && ((y13.Code == y14.Code) && ((y13.Count == y14.Count) && ((y13.Segment == y14.Segment) && (y13.Double == y14.Double)))))))) ((m_centoref04_Decode y4.1).bind fun y15 => cond ((y15.Kind == a0.Kind) && ((y15.Off == a0.Off) && ((y15.Data == a0.Data) && ((y15.Ptrs == a0.Ptrs) && ((y15.Code == a0.Code) && ((y15.Count == a0.Count) && ((y15.Segment == a0.Segment) && (y15.Double == a0.Double)))))))) ((m_centolaw04_awake).bind fun y16 => some (cond (cond (!y4.2) true (cond ((y13.Kind == y14.Kind) && ((y13.Off == y14.Off) && ((y13.Data == y14.Data) && ((y13.Ptrs == y14.Ptrs) && ((y13.Code == y14.Code) && ((y13.Count == y14.Count) && ((y13.Segment == y14.Segment) && (y13.Double == y14.Double)))))))) ((y15.Kind == a0.Kind) && ((y15.Off == a0.Off) && ((y15.Data == a0.Data) && ((y15.Ptrs == a0.Ptrs) && ((y15.Code == a0.Code) && ((y15.Count == a0.Count) && ((y15.Segment == a0.Segment) && (y15.Double == a0.Double)))))))) false)) y16 false)) (some false)) (some false)) ((m_centolaw04_awake).bind fun y17 => some y17)).bind fun (z12 : Bool) => some z12)

end Go.Proofs.Ytgijkjifiekkmaa
