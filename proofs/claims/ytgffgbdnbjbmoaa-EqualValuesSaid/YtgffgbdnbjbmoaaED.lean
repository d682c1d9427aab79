/- Part ED of this seat's mirrors: functions of the seat's program, and the plain functions that they are; each theorem bears its own conditions. -/
import Derived.Test.YtgffgbdnbjbmoaaH26
namespace Go.Proofs.Ytgffgbdnbjbmoaa
open Go.RowKit
set_option linter.unusedVariables false
set_option linter.unusedSimpArgs false
set_option maxRecDepth 100000
set_option maxHeartbeats 4000000
structure S_api_Limits where
  Depth : Int
  Weight : Int
  MaxD : Int
  MaxOut : Int

noncomputable def m_centolaw10_Light (a0 : S_api_Limits) : Option S_api_Limits :=
  (cond (decide (3000 < a0.Weight)) (some 3000) (some a0.Weight)).bind fun (z1 : Int) => some (⟨a0.Depth, z1, a0.MaxD, a0.MaxOut⟩ : S_api_Limits)

noncomputable def m_centoref10_within (a0 : Int) (a1 : Int) : Option Int :=
  cond (decide (a0 < 0)) (some 0) (cond (decide (a1 < a0)) (some a1) (some a0))

noncomputable def m_centoref10_Limits (a0 : S_api_Limits) : Option S_api_Limits :=
  (m_centoref10_within a0.Depth 64).bind fun y5 => (m_centoref10_within a0.Weight 65536).bind fun y6 => (m_centoref10_within a0.MaxD 4096).bind fun y7 => (m_centoref10_within a0.MaxOut 131072).bind fun y8 => some (⟨y5, y6, y7, y8⟩ : S_api_Limits)

noncomputable def m_centoref06_has (a0 : (List (List Int))) (a1 : Int) (a2 : Int) : Option Bool :=
  (cond (decide (0 ≤ a1)) (cond (decide (a1 < (a0.length : Int))) (cond (decide (0 ≤ a2)) ((getI a0 a1).bind fun x4 => some (cond (cond (cond (decide (0 ≤ a1)) (decide (a1 < (a0.length : Int))) false) (decide (0 ≤ a2)) false) (decide (a2 < (x4.length : Int))) false)) (some false)) (some false)) (some false)).bind fun (z2 : Bool) => some z2

noncomputable def m_centoref04_field_L0 (a1 : Int) (s0_ : (Int × Int)) : Option ((Int × Int) ⊕ Int) :=
  cond (decide (s0_.2 < a1)) (some (.inl ((IntKind.u64.wrap (Int.tdiv s0_.1 2)), (IntKind.i64.wrap (s0_.2 + 1))))) (some (.inr s0_.1))

noncomputable def m_centoref04_field_L1 (a2 : Int) (s1_ : (Int × Int × Int × Int)) : Option ((Int × Int × Int × Int) ⊕ Int) :=
  cond (decide (s1_.2.2.2 < a2)) ((cond ((Int.tmod s1_.1 2) == 1) (some (IntKind.i64.wrap (s1_.2.1 + s1_.2.2.1))) (some s1_.2.1)).bind fun (z3 : Int) => some (.inl ((IntKind.u64.wrap (Int.tdiv s1_.1 2)), z3, (IntKind.i64.wrap (2 * s1_.2.2.1)), (IntKind.i64.wrap (s1_.2.2.2 + 1))))) (some (.inr s1_.2.1))

noncomputable def m_centoref04_field (a0 : Int) (a1 : Int) (a2 : Int) : Option Int :=
  (runLoop (m_centoref04_field_L0 a1) (a0, 0)).bind fun (z2 : Int) => (runLoop (m_centoref04_field_L1 a2) (z2, 0, 1, 0)).bind fun (z6 : Int) => some z6

structure S_ptr_Ptr where
  Kind : Int
  Off : Int
  Data : Int
  Ptrs : Int
  Code : Int
  Count : Int
  Segment : Int
  Double : Bool

noncomputable def m_centoref04_Decode (a0 : Int) : Option S_ptr_Ptr :=
  cond (a0 == 0) (some (⟨0, 0, 0, 0, 0, 0, 0, false⟩ : S_ptr_Ptr)) ((m_centoref04_field a0 2 30).bind fun y2 => (cond (decide (536870912 ≤ y2)) (some (IntKind.i64.wrap (y2 - 1073741824))) (some y2)).bind fun (z3 : Int) => (m_centoref04_field a0 0 2).bind fun y6 => cond (y6 == 0) ((m_centoref04_field a0 32 16).bind fun y9 => (m_centoref04_field a0 48 16).bind fun y10 => some (⟨1, z3, y9, y10, 0, 0, 0, false⟩ : S_ptr_Ptr)) (cond (y6 == 1) ((m_centoref04_field a0 32 3).bind fun y13 => (m_centoref04_field a0 35 29).bind fun y14 => some (⟨2, z3, 0, 0, y13, y14, 0, false⟩ : S_ptr_Ptr)) (cond (y6 == 2) ((m_centoref04_field a0 3 29).bind fun y18 => (m_centoref04_field a0 32 32).bind fun y19 => (m_centoref04_field a0 2 1).bind fun y20 => some (⟨3, y18, 0, 0, 0, 0, y19, (y20 == 1)⟩ : S_ptr_Ptr)) (some (⟨4, 0, 0, 0, 0, 0, 0, false⟩ : S_ptr_Ptr)))))

noncomputable def m_centoref06_shape (a0 : S_ptr_Ptr) : Option Int :=
  cond (a0.Kind == 4) (some 9) (cond (cond (a0.Kind != 1) (a0.Kind != 2) false) (some 8) (some 0))

noncomputable def m_centoref04_Words (a0 : S_ptr_Ptr) : Option Int :=
  cond (a0.Kind == 1) (some (IntKind.i64.wrap (a0.Data + a0.Ptrs))) (cond (a0.Kind != 2) (some (-1)) (cond (a0.Code == 7) (some (IntKind.i64.wrap (a0.Count + 1))) (cond (cond (cond (cond (decide (a0.Code < 0)) true (decide (6 < a0.Code))) true (decide (a0.Count < 0))) true (decide (536870912 ≤ a0.Count))) (some (-1)) ((cond (a0.Code == 0) (some (.inr ())) (cond (a0.Code == 1) (some (.inl 64)) (cond (a0.Code == 2) (some (.inl 8)) (cond (a0.Code == 3) (some (.inl 4)) (cond (a0.Code == 4) (some (.inl 2)) (some (.inl 1))))))).bind fun (z1 : (Int ⊕ Unit)) => match z1 with | .inl z1 => (guardI (z1 ≠ 0)).bind fun u8 => cond (decide (0 < (Int.tmod a0.Count z1))) ((guardI (z1 ≠ 0)).bind fun u10 => some (IntKind.i64.wrap ((IntKind.i64.wrap (Int.tdiv a0.Count z1)) + 1))) ((guardI (z1 ≠ 0)).bind fun u12 => some (IntKind.i64.wrap (Int.tdiv a0.Count z1))) | .inr z1 => some 0))))

structure S_centoref06_Loc where
  P : S_ptr_Ptr
  Segment : Int
  At : Int

noncomputable def m_centoref06_whole (a0 : (List (List Int))) (a1 : S_centoref06_Loc) : Option (S_centoref06_Loc × Int) :=
  (m_centoref04_Words a1.P).bind fun y2 => (cond (decide (a1.Segment < 0)) (some true) (cond (decide ((a0.length : Int) ≤ a1.Segment)) (some true) (cond (decide (a1.At < 0)) (some true) ((getI a0 a1.Segment).bind fun x8 => cond (decide ((x8.length : Int) < a1.At)) (some true) (some (cond (cond (cond (cond (decide (a1.Segment < 0)) true (decide ((a0.length : Int) ≤ a1.Segment))) true (decide (a1.At < 0))) true (decide ((x8.length : Int) < a1.At))) true (decide ((IntKind.i64.wrap ((x8.length : Int) - a1.At)) < y2)))))))).bind fun (z5 : Bool) => cond z5 (some ((⟨⟨0, 0, 0, 0, 0, 0, 0, false⟩, 0, 0⟩ : S_centoref06_Loc), 7)) (some ((⟨⟨a1.P.Kind, 0, a1.P.Data, a1.P.Ptrs, a1.P.Code, a1.P.Count, a1.P.Segment, a1.P.Double⟩, a1.Segment, a1.At⟩ : S_centoref06_Loc), 0))

noncomputable def m_centoref06_Follow (a0 : (List (List Int))) (a1 : Int) (a2 : Int) : Option (S_centoref06_Loc × Int) :=
  (m_centoref06_has a0 a1 a2).bind fun y2 => cond (!y2) (some ((⟨⟨0, 0, 0, 0, 0, 0, 0, false⟩, 0, 0⟩ : S_centoref06_Loc), 7)) ((getI a0 a1).bind fun x6 => (getI x6 a2).bind fun x7 => (m_centoref04_Decode x7).bind fun y8 => cond (y8.Kind == 0) (some ((⟨⟨0, 0, 0, 0, 0, 0, 0, false⟩, 0, 0⟩ : S_centoref06_Loc), 0)) (cond (cond (y8.Kind == 3) y8.Double false) (((m_centoref06_has a0 y8.Segment y8.Off).bind fun y14 => cond y14 ((m_centoref06_has a0 y8.Segment (IntKind.i64.wrap (y8.Off + 1))).bind fun y15 => some (cond (!y14) true (!y15))) (some true)).bind fun (z11 : Bool) => cond z11 (some ((⟨⟨0, 0, 0, 0, 0, 0, 0, false⟩, 0, 0⟩ : S_centoref06_Loc), 7)) ((getI a0 y8.Segment).bind fun x17 => (getI x17 y8.Off).bind fun x18 => (m_centoref04_Decode x18).bind fun y19 => (getI x17 (IntKind.i64.wrap (y8.Off + 1))).bind fun x21 => (m_centoref04_Decode x21).bind fun y22 => cond (cond (y19.Kind != 3) true y19.Double) (some ((⟨⟨0, 0, 0, 0, 0, 0, 0, false⟩, 0, 0⟩ : S_centoref06_Loc), 8)) ((m_centoref06_shape y22).bind fun y24 => (cond (cond (y24 == 0) (y22.Off != 0) false) (some 8) (some y24)).bind fun (z25 : Int) => cond (z25 != 0) (some ((⟨⟨0, 0, 0, 0, 0, 0, 0, false⟩, 0, 0⟩ : S_centoref06_Loc), z25)) ((m_centoref06_whole a0 (⟨y22, y19.Segment, y19.Off⟩ : S_centoref06_Loc)).bind fun y28 => some (y28.1, y28.2))))) ((cond (y8.Kind == 3) ((m_centoref06_has a0 y8.Segment y8.Off).bind fun y34 => cond (!y34) (some (.inr ())) ((getI a0 y8.Segment).bind fun x35 => (getI x35 y8.Off).bind fun x36 => (m_centoref04_Decode x36).bind fun y37 => some (.inl (y8.Segment, y8.Off, y37.Kind, y37.Off, y37.Data, y37.Ptrs, y37.Code, y37.Count, y37.Segment, y37.Double)))) (some (.inl (a1, a2, y8.Kind, y8.Off, y8.Data, y8.Ptrs, y8.Code, y8.Count, y8.Segment, y8.Double)))).bind fun (z32 : ((Int × Int × Int × Int × Int × Int × Int × Int × Int × Bool) ⊕ Unit)) => match z32 with | .inl z32 => (m_centoref06_shape (⟨z32.2.2.1, z32.2.2.2.1, z32.2.2.2.2.1, z32.2.2.2.2.2.1, z32.2.2.2.2.2.2.1, z32.2.2.2.2.2.2.2.1, z32.2.2.2.2.2.2.2.2.1, z32.2.2.2.2.2.2.2.2.2⟩ : S_ptr_Ptr)).bind fun y41 => cond (y41 != 0) (some ((⟨⟨0, 0, 0, 0, 0, 0, 0, false⟩, 0, 0⟩ : S_centoref06_Loc), y41)) ((m_centoref06_whole a0 (⟨⟨z32.2.2.1, z32.2.2.2.1, z32.2.2.2.2.1, z32.2.2.2.2.2.1, z32.2.2.2.2.2.2.1, z32.2.2.2.2.2.2.2.1, z32.2.2.2.2.2.2.2.2.1, z32.2.2.2.2.2.2.2.2.2⟩, z32.1, (IntKind.i64.wrap ((IntKind.i64.wrap (z32.2.1 + 1)) + z32.2.2.2.1))⟩ : S_centoref06_Loc)).bind fun y43 => some (y43.1, y43.2)) | .inr z32 => some ((⟨⟨0, 0, 0, 0, 0, 0, 0, false⟩, 0, 0⟩ : S_centoref06_Loc), 7))))

structure S_centoref09_Ref where
  Kind : Int
  S : Int
  At : Int
  Data : Int
  Ptrs : Int
  Count : Int
  N : Int

noncomputable def m_centoref09_At (a0 : (List (List Int))) (a1 : Int) (a2 : Int) : Option (S_centoref09_Ref × Int) :=
  (m_centoref06_Follow a0 a1 a2).bind fun y2 => cond (cond (y2.2 != 0) true (y2.1.P.Kind == 0)) (some ((⟨0, 0, 0, 0, 0, 0, 0⟩ : S_centoref09_Ref), y2.2)) (cond (y2.1.P.Kind == 1) (some ((⟨1, y2.1.Segment, y2.1.At, y2.1.P.Data, y2.1.P.Ptrs, 0, 0⟩ : S_centoref09_Ref), 0)) (cond (decide (y2.1.P.Code < 7)) (some ((⟨(IntKind.i64.wrap (2 + y2.1.P.Code)), y2.1.Segment, y2.1.At, 0, 0, y2.1.P.Count, 0⟩ : S_centoref09_Ref), 0)) ((getI a0 y2.1.Segment).bind fun x5 => (getI x5 y2.1.At).bind fun x6 => (m_centoref04_Decode x6).bind fun y8 => cond (cond (cond (cond (x6 != 0) (y8.Kind != 1) false) true (decide (y8.Off < 0))) true (decide (y2.1.P.Count < (IntKind.i64.wrap (y8.Off * (IntKind.i64.wrap (y8.Data + y8.Ptrs))))))) (some ((⟨0, 0, 0, 0, 0, 0, 0⟩ : S_centoref09_Ref), 8)) (some ((⟨9, y2.1.Segment, (IntKind.i64.wrap (y2.1.At + 1)), y8.Data, y8.Ptrs, y8.Off, 0⟩ : S_centoref09_Ref), 0)))))

noncomputable def m_centoref09_Ref_Words (a0 : S_centoref09_Ref) (a1 : (List (List Int))) : Option (List Int) :=
  cond (a0.Kind == 10) (some ([a0.N] : List Int)) (cond (a0.Kind != 1) (some ([] : (List Int))) ((getI a1 a0.S).bind fun x4 => (subI x4 a0.At (IntKind.i64.wrap (a0.At + a0.Data))).bind fun l5 => (appI 8 ([] : List Int) l5).bind fun l6 => some l6))

noncomputable def m_centoref09_Ref_Kids (a0 : S_centoref09_Ref) : Option Int :=
  cond (a0.Kind == 1) (some a0.Ptrs) (some a0.Count)

noncomputable def m_centoref01_Width (a0 : Int) : Option Int :=
  cond (a0 == 0) (some 0) (cond (a0 == 1) (some 1) (cond (a0 == 2) (some 8) (cond (a0 == 3) (some 16) (cond (a0 == 4) (some 32) (cond (a0 == 5) (some 64) (some (-1)))))))

noncomputable def m_centoref01_Bit_L0 (a1 : Int) (s0_ : (Int × Int)) : Option ((Int × Int) ⊕ Int) :=
  cond (decide (s0_.2 < (Int.tmod a1 64))) (some (.inl ((IntKind.u64.wrap (Int.tdiv s0_.1 2)), (IntKind.i64.wrap (s0_.2 + 1))))) (some (.inr s0_.1))

noncomputable def m_centoref01_Bit (a0 : (List Int)) (a1 : Int) : Option Int :=
  cond (cond (decide (a1 < 0)) true (decide ((a0.length : Int) ≤ (IntKind.i64.wrap (Int.tdiv a1 64))))) (some 0) ((getI a0 (IntKind.i64.wrap (Int.tdiv a1 64))).bind fun x2 => (runLoop (m_centoref01_Bit_L0 a1) (x2, 0)).bind fun (z4 : Int) => some (Int.tmod z4 2))

noncomputable def m_centoref01_Get_L0 (a0 : (List Int)) (a2 : Int) (y2 : Int) (s0_ : (Int × Int)) : Option ((Int × Int) ⊕ Int) :=
  cond (decide (0 ≤ s0_.2)) ((m_centoref01_Bit a0 (IntKind.i64.wrap ((IntKind.i64.wrap (a2 * y2)) + s0_.2))).bind fun y3 => some (.inl ((IntKind.u64.wrap ((IntKind.u64.wrap (s0_.1 * 2)) + y3)), (IntKind.i64.wrap (s0_.2 - 1))))) (some (.inr s0_.1))

noncomputable def m_centoref01_Get (a0 : (List Int)) (a1 : Int) (a2 : Int) : Option Int :=
  (m_centoref01_Width a1).bind fun y2 => cond (cond (cond (decide (y2 < 1)) true (decide (a2 < 0))) true (decide (1099511627776 < a2))) (some 0) ((runLoop (m_centoref01_Get_L0 a0 a2 y2) (0, (IntKind.i64.wrap (y2 - 1)))).bind fun (z5 : Int) => some z5)

noncomputable def m_centoref09_Ref_Kid (a0 : S_centoref09_Ref) (a1 : (List (List Int))) (a2 : Int) : Option (S_centoref09_Ref × Int) :=
  (cond (decide (a2 < 0)) (some true) ((m_centoref09_Ref_Kids a0).bind fun y4 => some (cond (decide (a2 < 0)) true (decide (y4 ≤ a2))))).bind fun (z2 : Bool) => cond z2 (some ((⟨0, 0, 0, 0, 0, 0, 0⟩ : S_centoref09_Ref), 0)) (cond (a0.Kind == 1) ((m_centoref09_At a1 a0.S (IntKind.i64.wrap ((IntKind.i64.wrap (a0.At + a0.Data)) + a2))).bind fun y7 => some (y7.1, y7.2)) (cond (a0.Kind == 8) ((m_centoref09_At a1 a0.S (IntKind.i64.wrap (a0.At + a2))).bind fun y9 => some (y9.1, y9.2)) (cond (a0.Kind == 9) (some ((⟨1, a0.S, (IntKind.i64.wrap (a0.At + (IntKind.i64.wrap (a2 * (IntKind.i64.wrap (a0.Data + a0.Ptrs)))))), a0.Data, a0.Ptrs, 0, 0⟩ : S_centoref09_Ref), 0)) ((getI a1 a0.S).bind fun x13 => (subI x13 a0.At (x13.length : Int)).bind fun l14 => (m_centoref01_Get l14 (IntKind.i64.wrap (a0.Kind - 2)) a2).bind fun y15 => some ((⟨10, 0, 0, 0, 0, 0, y15⟩ : S_centoref09_Ref), 0)))))

structure S_api_Tree where
  Kind : Int
  Words : (List Int)
  Kids : (List S_api_Tree)

noncomputable def b_centoref10_Meaning_L0 (r_centoref10_Meaning : ((List (List Int)) → S_centoref09_Ref → Int → Int → Option (S_api_Tree × Int × Int))) (r_centoref10_kids : ((List (List Int)) → S_centoref09_Ref → Int → Int → Option (S_api_Tree × Int × Int))) (a0 : (List (List Int))) (a1 : S_centoref09_Ref) (a2 : Int) (s0_ : (Int × Int × (List S_api_Tree))) : Option ((Int × Int × (List S_api_Tree)) ⊕ ((Int × Int × (List S_api_Tree)) ⊕ (Int × (List S_api_Tree)))) :=
  (m_centoref09_Ref_Kids a1).bind fun y10 => cond (decide (s0_.2.1 < y10)) ((m_centoref09_Ref_Kid a1 a0 s0_.2.1).bind fun y12 => cond (y12.2 != 0) (some (.inr (.inl (s0_.1, y12.2, s0_.2.2)))) ((m_centoref09_Ref_Words y12.1 a0).bind fun y14 => (cond (a1.Kind == 9) ((r_centoref10_kids a0 y12.1 (IntKind.i64.wrap (a2 - 2)) s0_.1).bind fun y16 => some (y16.2.1, y16.2.2, y16.1.Kind, y16.1.Words, y16.1.Kids)) (cond (cond (a1.Kind == 1) true (a1.Kind == 8)) ((r_centoref10_Meaning a0 y12.1 (IntKind.i64.wrap (a2 - 1)) s0_.1).bind fun y17 => some (y17.2.1, y17.2.2, y17.1.Kind, y17.1.Words, y17.1.Kids)) (some (s0_.1, y12.2, y12.1.Kind, y14, ([] : (List S_api_Tree)))))).bind fun (z15 : (Int × Int × Int × (List Int) × (List S_api_Tree))) => cond (z15.2.1 != 0) (some (.inr (.inl (z15.1, z15.2.1, s0_.2.2)))) ((appI 56 s0_.2.2 ([(⟨z15.2.2.1, z15.2.2.2.1, z15.2.2.2.2⟩ : S_api_Tree)] : List S_api_Tree)).bind fun l20 => some (.inl (z15.1, (IntKind.i64.wrap (s0_.2.1 + 1)), l20))))) (some (.inr (.inr (s0_.1, s0_.2.2))))

noncomputable def b_centoref10_Meaning (r_centoref10_Meaning : ((List (List Int)) → S_centoref09_Ref → Int → Int → Option (S_api_Tree × Int × Int))) (r_centoref10_kids : ((List (List Int)) → S_centoref09_Ref → Int → Int → Option (S_api_Tree × Int × Int))) (a0 : (List (List Int))) (a1 : S_centoref09_Ref) (a2 : Int) (a3 : Int) : Option (S_api_Tree × Int × Int) :=
  (m_centoref09_Ref_Words a1 a0).bind fun y2 => cond (a1.Kind == 0) (some ((⟨a1.Kind, y2, []⟩ : S_api_Tree), a3, 0)) (cond (cond (decide (a2 < 1)) true (cond (cond (a1.Kind == 9) (decide (0 < a1.Count)) false) (decide (a2 < 2)) false)) (some ((⟨a1.Kind, y2, []⟩ : S_api_Tree), a3, 3)) ((m_centoref09_Ref_Kids a1).bind fun y4 => (cond (a1.Kind == 1) (some (IntKind.i64.wrap ((IntKind.i64.wrap (1 + a1.Data)) + a1.Ptrs))) (some (IntKind.i64.wrap (1 + y4)))).bind fun (z5 : Int) => (cond (a1.Kind == 9) (some (IntKind.i64.wrap (1 + (IntKind.i64.wrap (a1.Count * (IntKind.i64.wrap ((IntKind.i64.wrap (1 + a1.Data)) + a1.Ptrs))))))) (some z5)).bind fun (z7 : Int) => cond (decide (a3 < z7)) (some ((⟨a1.Kind, y2, []⟩ : S_api_Tree), a3, 3)) ((runLoop (b_centoref10_Meaning_L0 r_centoref10_Meaning r_centoref10_kids a0 a1 a2) ((IntKind.i64.wrap (a3 - z7)), 0, ([] : List S_api_Tree))).bind fun (z24 : ((Int × Int × (List S_api_Tree)) ⊕ (Int × (List S_api_Tree)))) => match z24 with | .inl z24 => some ((⟨a1.Kind, y2, z24.2.2⟩ : S_api_Tree), z24.1, z24.2.1) | .inr z24 => some ((⟨a1.Kind, y2, z24.2⟩ : S_api_Tree), z24.1, 0))))

noncomputable def b_centoref10_kids_L0 (r_centoref10_Meaning : ((List (List Int)) → S_centoref09_Ref → Int → Int → Option (S_api_Tree × Int × Int))) (a0 : (List (List Int))) (a1 : S_centoref09_Ref) (a2 : Int) (s0_ : (Int × Int × (List S_api_Tree))) : Option ((Int × Int × (List S_api_Tree)) ⊕ ((Int × Int × (List S_api_Tree)) ⊕ (Int × (List S_api_Tree)))) :=
  cond (decide (s0_.2.1 < a1.Ptrs)) ((m_centoref09_Ref_Kid a1 a0 s0_.2.1).bind fun y4 => cond (y4.2 != 0) (some (.inr (.inl (s0_.1, y4.2, s0_.2.2)))) ((r_centoref10_Meaning a0 y4.1 a2 s0_.1).bind fun y6 => cond (y6.2.2 != 0) (some (.inr (.inl (y6.2.1, y6.2.2, s0_.2.2)))) ((appI 56 s0_.2.2 ([y6.1] : List S_api_Tree)).bind fun l7 => some (.inl (y6.2.1, (IntKind.i64.wrap (s0_.2.1 + 1)), l7))))) (some (.inr (.inr (s0_.1, s0_.2.2))))

noncomputable def b_centoref10_kids (r_centoref10_Meaning : ((List (List Int)) → S_centoref09_Ref → Int → Int → Option (S_api_Tree × Int × Int))) (r_centoref10_kids : ((List (List Int)) → S_centoref09_Ref → Int → Int → Option (S_api_Tree × Int × Int))) (a0 : (List (List Int))) (a1 : S_centoref09_Ref) (a2 : Int) (a3 : Int) : Option (S_api_Tree × Int × Int) :=
  (m_centoref09_Ref_Words a1 a0).bind fun y2 => (runLoop (b_centoref10_kids_L0 r_centoref10_Meaning a0 a1 a2) (a3, 0, ([] : List S_api_Tree))).bind fun (z11 : ((Int × Int × (List S_api_Tree)) ⊕ (Int × (List S_api_Tree)))) => match z11 with | .inl z11 => some ((⟨1, y2, z11.2.2⟩ : S_api_Tree), z11.1, z11.2.1) | .inr z11 => some ((⟨1, y2, z11.2⟩ : S_api_Tree), z11.1, 0)

noncomputable def lv_centoref10_Meaning : Nat → (((List (List Int)) → S_centoref09_Ref → Int → Int → Option (S_api_Tree × Int × Int)) × ((List (List Int)) → S_centoref09_Ref → Int → Int → Option (S_api_Tree × Int × Int)))
  | 0 => ((fun _ _ _ _ => none), (fun _ _ _ _ => none))
  | k + 1 => (b_centoref10_Meaning ((lv_centoref10_Meaning k).1) ((lv_centoref10_Meaning k).2), b_centoref10_kids ((lv_centoref10_Meaning k).1) ((lv_centoref10_Meaning k).2))

noncomputable def m_centoref10_Meaning (a0 : (List (List Int))) (a1 : S_centoref09_Ref) (a2 : Int) (a3 : Int) : Option (S_api_Tree × Int × Int) := lim fun k => (lv_centoref10_Meaning k).1 a0 a1 a2 a3

noncomputable def m_centoref10_kids (a0 : (List (List Int))) (a1 : S_centoref09_Ref) (a2 : Int) (a3 : Int) : Option (S_api_Tree × Int × Int) := lim fun k => (lv_centoref10_Meaning k).2 a0 a1 a2 a3

noncomputable def m_centoref10_Unfold (a0 : (List (List Int))) (a1 : S_api_Limits) : Option (S_api_Tree × Int × Int) :=
  (m_centoref10_Limits a1).bind fun y2 => (m_centoref09_At a0 0 0).bind fun y4 => cond (y4.2 != 0) (some ((⟨0, [], []⟩ : S_api_Tree), 0, y4.2)) ((m_centoref10_Meaning a0 y4.1 y2.Depth y2.Weight).bind fun y6 => cond (y6.2.2 != 0) (some ((⟨0, [], []⟩ : S_api_Tree), 0, y6.2.2)) (some (y6.1, (IntKind.i64.wrap (y2.Weight - y6.2.1)), 0)))

noncomputable def m_slices_Clone_uint64_uint64 (a0 : List Int) : Option (List Int) :=
  appI 8 ([] : List Int) a0

noncomputable def m_arena_clone_L0 (a0 : (List (List Int))) (s0_ : (Int × (List (List Int)))) : Option ((Int × (List (List Int))) ⊕ (List (List Int))) :=
  cond (decide (s0_.1 < (a0.length : Int))) ((getI a0 s0_.1).bind fun x4 => (m_slices_Clone_uint64_uint64 x4).bind fun y5 => (getI s0_.2 s0_.1).bind fun x6 => some (.inl ((IntKind.i64.wrap (s0_.1 + 1)), (setI s0_.2 s0_.1 y5)))) (some (.inr s0_.2))

noncomputable def m_arena_clone (a0 : (List (List Int))) : Option (List (List Int)) :=
  (makeI 24 (a0.length : Int) ([] : (List Int))).bind fun l2 => (runLoop (m_arena_clone_L0 a0) (0, l2)).bind fun (z9 : (List (List Int))) => some z9

structure S_arena_Arena where
  segments : (List (List Int))
  size : Int
  left : Int

noncomputable def m_arena_Of (a0 : (List (List Int))) : Option (Option S_arena_Arena) :=
  (m_arena_clone a0).bind fun y2 => some (some (⟨y2, 0, 0⟩ : S_arena_Arena))

noncomputable def m_arena_Arena_Len (a0 : (Option S_arena_Arena)) : Option Int :=
  cond (Option.isNone a0) (some 0) ((a0).bind fun x4 => some (x4.segments.length : Int))

noncomputable def m_arena_Arena_there (a0 : (Option S_arena_Arena)) (a1 : Int) : Option Bool :=
  (cond (decide (0 ≤ a1)) ((m_arena_Arena_Len a0).bind fun y4 => some (cond (decide (0 ≤ a1)) (decide (a1 < y4)) false)) (some false)).bind fun (z2 : Bool) => some z2

noncomputable def m_arena_Arena_Size (a0 : (Option S_arena_Arena)) (a1 : Int) : Option Int :=
  (m_arena_Arena_there a0 a1).bind fun y2 => cond (!y2) (some 0) ((a0).bind fun x5 => (getI x5.segments a1).bind fun x6 => some (x6.length : Int))

noncomputable def m_arena_Arena_Has (a0 : (Option S_arena_Arena)) (a1 : Int) (a2 : Int) (a3 : Int) : Option Bool :=
  ((m_arena_Arena_there a0 a1).bind fun y8 => cond y8 (cond (decide (0 ≤ a2)) (cond (decide (0 ≤ a3)) ((m_arena_Arena_Size a0 a1).bind fun y9 => cond (decide (a3 ≤ y9)) ((m_arena_Arena_Size a0 a1).bind fun y10 => some (cond (cond (cond (cond y8 (decide (0 ≤ a2)) false) (decide (0 ≤ a3)) false) (decide (a3 ≤ y9)) false) (decide (a2 ≤ (IntKind.i64.wrap (y10 - a3)))) false)) (some false)) (some false)) (some false)) (some false)).bind fun (z4 : Bool) => some z4

noncomputable def m_arena_Arena_Get (a0 : (Option S_arena_Arena)) (a1 : Int) (a2 : Int) : Option (Int × Bool) :=
  (m_arena_Arena_Has a0 a1 a2 1).bind fun y2 => cond (!y2) (some (0, false)) ((a0).bind fun x6 => (getI x6.segments a1).bind fun x7 => (getI x7 a2).bind fun x8 => some (x8, true))

noncomputable def m_ptr_offset (a0 : Int) : Option Int :=
  some (IntKind.i64.wrap (Int.fdiv (IntKind.i32.wrap (IntKind.u32.wrap a0)) (2 ^ min (Int.toNat 2) 32)))

noncomputable def m_ptr_field (a0 : Int) (a1 : Int) (a2 : Int) : Option Int :=
  (guardI (0 ≤ a1)).bind fun u3 => (guardI (0 ≤ a2)).bind fun u4 => some (IntKind.i64.wrap (IntKind.u64.wrap (landI .u64 (Int.fdiv a0 (2 ^ min (Int.toNat a1) 64)) (IntKind.u64.wrap ((IntKind.u64.wrap (1 * 2 ^ min (Int.toNat a2) 64)) - 1)))))

noncomputable def m_ptr_Decode (a0 : Int) : Option S_ptr_Ptr :=
  cond (a0 == 0) (some (⟨0, 0, 0, 0, 0, 0, 0, false⟩ : S_ptr_Ptr)) (cond ((IntKind.u64.wrap (landI .u64 a0 3)) == 0) ((m_ptr_offset a0).bind fun y4 => (m_ptr_field a0 32 16).bind fun y5 => (m_ptr_field a0 48 16).bind fun y6 => some (⟨1, y4, y5, y6, 0, 0, 0, false⟩ : S_ptr_Ptr)) (cond ((IntKind.u64.wrap (landI .u64 a0 3)) == 1) ((m_ptr_offset a0).bind fun y10 => (m_ptr_field a0 32 3).bind fun y11 => (m_ptr_field a0 35 29).bind fun y12 => some (⟨2, y10, 0, 0, y11, y12, 0, false⟩ : S_ptr_Ptr)) (cond ((IntKind.u64.wrap (landI .u64 a0 3)) == 2) ((m_ptr_field a0 3 29).bind fun y15 => (m_ptr_field a0 32 32).bind fun y16 => some (⟨3, y15, 0, 0, 0, 0, y16, ((IntKind.u64.wrap (landI .u64 (Int.fdiv a0 (2 ^ min (Int.toNat 2) 64)) 1)) == 1)⟩ : S_ptr_Ptr)) (some (⟨4, 0, 0, 0, 0, 0, 0, false⟩ : S_ptr_Ptr)))))

noncomputable def m_arena_Arena_Part (a0 : (Option S_arena_Arena)) (a1 : Int) (a2 : Int) (a3 : Int) : Option ((List Int) × Bool) :=
  (m_arena_Arena_Has a0 a1 a2 a3).bind fun y2 => cond (!y2) (some (([] : (List Int)), false)) ((a0).bind fun x7 => (getI x7.segments a1).bind fun x8 => (subI x8 a2 (IntKind.i64.wrap (a2 + a3))).bind fun l9 => (m_slices_Clone_uint64_uint64 l9).bind fun y10 => some (y10, true))

noncomputable def m_ptr_width (a0 : Int) : Option Int :=
  ((some (⟨[0, 1, 8, 16, 32, 64, 64], rfl⟩ : (Arr Int 7)))).bind fun y6 => ((some (⟨[0, 0, 0, 0, 0, 0, 0], rfl⟩ : (Arr Int 7)))).bind fun y8 => (getI y6.1 a0).bind fun x12 => some x12

noncomputable def m_ptr_Ptr_Words (a0 : S_ptr_Ptr) : Option (Int × Bool) :=
  cond (a0.Kind == 1) (some ((IntKind.i64.wrap (a0.Data + a0.Ptrs)), true)) (cond (cond (a0.Kind == 2) (a0.Code == 7) false) (some ((IntKind.i64.wrap (a0.Count + 1)), true)) (cond (cond (cond (cond (cond (a0.Kind == 2) (decide (0 ≤ a0.Code)) false) (decide (a0.Code < 7)) false) (decide (0 ≤ a0.Count)) false) (decide (a0.Count ≤ 536870911)) false) ((m_ptr_width a0.Code).bind fun y2 => some ((IntKind.i64.wrap (Int.tdiv (IntKind.i64.wrap ((IntKind.i64.wrap (a0.Count * y2)) + 63)) 64)), true)) (some (0, false))))

structure S_far_Loc where
  P : S_ptr_Ptr
  Segment : Int
  At : Int

noncomputable def m_far_target (a0 : (Option S_arena_Arena)) (a1 : S_ptr_Ptr) (a2 : Int) (a3 : Int) : Option (S_far_Loc × Int) :=
  cond (a1.Kind == 4) (some ((⟨⟨0, 0, 0, 0, 0, 0, 0, false⟩, 0, 0⟩ : S_far_Loc), 9)) ((m_ptr_Ptr_Words a1).bind fun y2 => cond (!y2.2) (some ((⟨⟨0, 0, 0, 0, 0, 0, 0, false⟩, 0, 0⟩ : S_far_Loc), 8)) ((m_arena_Arena_Has a0 a2 a3 y2.1).bind fun y4 => cond (!y4) (some ((⟨⟨0, 0, 0, 0, 0, 0, 0, false⟩, 0, 0⟩ : S_far_Loc), 7)) (some ((⟨⟨a1.Kind, 0, a1.Data, a1.Ptrs, a1.Code, a1.Count, a1.Segment, a1.Double⟩, a2, a3⟩ : S_far_Loc), 0))))

noncomputable def m_far_double (a0 : (Option S_arena_Arena)) (a1 : Int) (a2 : Int) : Option (S_far_Loc × Int) :=
  (m_arena_Arena_Part a0 a1 a2 2).bind fun y2 => cond (!y2.2) (some ((⟨⟨0, 0, 0, 0, 0, 0, 0, false⟩, 0, 0⟩ : S_far_Loc), 7)) ((getI y2.1 0).bind fun x3 => (m_ptr_Decode x3).bind fun y4 => (getI y2.1 1).bind fun x5 => (m_ptr_Decode x5).bind fun y6 => cond (cond (y4.Kind != 3) true y4.Double) (some ((⟨⟨0, 0, 0, 0, 0, 0, 0, false⟩, 0, 0⟩ : S_far_Loc), 8)) (cond (cond (y6.Kind != 4) (y6.Off != 0) false) (some ((⟨⟨0, 0, 0, 0, 0, 0, 0, false⟩, 0, 0⟩ : S_far_Loc), 8)) ((m_far_target a0 y6 y4.Segment y4.Off).bind fun y8 => some (y8.1, y8.2))))

noncomputable def m_far_single (a0 : (Option S_arena_Arena)) (a1 : Int) (a2 : Int) : Option (S_far_Loc × Int) :=
  (m_arena_Arena_Get a0 a1 a2).bind fun y2 => cond (!y2.2) (some ((⟨⟨0, 0, 0, 0, 0, 0, 0, false⟩, 0, 0⟩ : S_far_Loc), 7)) ((m_ptr_Decode y2.1).bind fun y4 => (m_far_target a0 y4 a1 (IntKind.i64.wrap ((IntKind.i64.wrap (a2 + 1)) + y4.Off))).bind fun y6 => some (y6.1, y6.2))

noncomputable def m_far_Follow (a0 : (Option S_arena_Arena)) (a1 : Int) (a2 : Int) : Option (S_far_Loc × Int) :=
  (m_arena_Arena_Get a0 a1 a2).bind fun y2 => cond (!y2.2) (some ((⟨⟨0, 0, 0, 0, 0, 0, 0, false⟩, 0, 0⟩ : S_far_Loc), 7)) ((m_ptr_Decode y2.1).bind fun y4 => cond (y4.Kind == 0) (some ((⟨⟨0, 0, 0, 0, 0, 0, 0, false⟩, 0, 0⟩ : S_far_Loc), 0)) (cond (cond (y4.Kind == 3) y4.Double false) ((m_far_double a0 y4.Segment y4.Off).bind fun y6 => some (y6.1, y6.2)) (cond (y4.Kind == 3) ((m_far_single a0 y4.Segment y4.Off).bind fun y8 => some (y8.1, y8.2)) ((m_far_target a0 y4 a1 (IntKind.i64.wrap ((IntKind.i64.wrap (a2 + 1)) + y4.Off))).bind fun y10 => some (y10.1, y10.2)))))

structure S_reader_Ref where
  a : (Option S_arena_Arena)
  kind : Int
  segment : Int
  at_ : Int
  words : Int
  ptrs : Int
  count : Int
  code : Int
  index : Int

noncomputable def m_reader_composite (a0 : S_reader_Ref) : Option (S_reader_Ref × Int) :=
  (m_arena_Arena_Get a0.a a0.segment a0.at_).bind fun y2 => (m_ptr_Decode y2.1).bind fun y4 => cond (cond (cond (cond (y4.Kind != 0) (y4.Kind != 1) false) true (decide (y4.Off < 0))) true (decide (a0.count < (IntKind.i64.wrap (y4.Off * (IntKind.i64.wrap (y4.Data + y4.Ptrs))))))) (some ((⟨(none : (Option S_arena_Arena)), 0, 0, 0, 0, 0, 0, 0, 0⟩ : S_reader_Ref), 8)) (some ((⟨a0.a, a0.kind, a0.segment, a0.at_, y4.Data, y4.Ptrs, y4.Off, a0.code, a0.index⟩ : S_reader_Ref), 0))

noncomputable def m_reader_At (a0 : (Option S_arena_Arena)) (a1 : Int) (a2 : Int) : Option (S_reader_Ref × Int) :=
  (m_far_Follow a0 a1 a2).bind fun y2 => cond (cond (y2.2 != 0) true (y2.1.P.Kind == 0)) (some ((⟨(none : (Option S_arena_Arena)), 0, 0, 0, 0, 0, 0, 0, 0⟩ : S_reader_Ref), y2.2)) (cond (y2.1.P.Kind == 1) (some ((⟨a0, 1, y2.1.Segment, y2.1.At, y2.1.P.Data, y2.1.P.Ptrs, 0, 0, 0⟩ : S_reader_Ref), 0)) (cond (y2.1.P.Code == 7) ((m_reader_composite (⟨a0, (IntKind.i64.wrap (y2.1.P.Code + 2)), y2.1.Segment, y2.1.At, 0, 0, y2.1.P.Count, 0, 0⟩ : S_reader_Ref)).bind fun y4 => some (y4.1, y4.2)) (some ((⟨a0, (IntKind.i64.wrap (y2.1.P.Code + 2)), y2.1.Segment, y2.1.At, 0, 0, y2.1.P.Count, 0, 0⟩ : S_reader_Ref), 0))))

noncomputable def m_reader_Root (a0 : (Option S_arena_Arena)) : Option (S_reader_Ref × Int) :=
  (m_reader_At a0 0 0).bind fun y2 => some (y2.1, y2.2)

noncomputable def m_centolaw15_root (a0 : (List (List Int))) : Option S_reader_Ref :=
  (m_arena_Of a0).bind fun y3 => (m_reader_Root y3).bind fun y4 => some y4.1

noncomputable def m_reader_Ref_Kind (a0 : S_reader_Ref) : Option Int :=
  some a0.kind

noncomputable def m_reader_Ref_Words (a0 : S_reader_Ref) : Option Int :=
  cond (a0.kind == 1) (some a0.words) (cond (a0.kind == 10) (some 1) (some 0))

noncomputable def m_word_Width (a0 : Int) : Option (Int × Bool) :=
  ((some (⟨[0, 1, 8, 16, 32, 64], rfl⟩ : (Arr Int 6)))).bind fun y6 => ((some (⟨[0, 0, 0, 0, 0, 0], rfl⟩ : (Arr Int 6)))).bind fun y8 => cond (cond (decide (a0 < 0)) true (decide (6 ≤ a0))) (some (0, false)) ((getI y6.1 a0).bind fun x12 => some (x12, true))

noncomputable def m_word_Get (a0 : (List Int)) (a1 : Int) (a2 : Int) : Option Int :=
  (m_word_Width a1).bind fun y2 => cond (cond (y2.1 == 0) true (decide (a2 < 0))) (some 0) ((guardI (y2.1 ≠ 0)).bind fun u4 => (guardI ((IntKind.i64.wrap (Int.tdiv 64 y2.1)) ≠ 0)).bind fun u6 => cond (decide ((a0.length : Int) ≤ (IntKind.i64.wrap (Int.tdiv a2 (IntKind.i64.wrap (Int.tdiv 64 y2.1)))))) (some 0) ((guardI ((IntKind.i64.wrap (Int.tdiv 64 y2.1)) ≠ 0)).bind fun u12 => (getI a0 (IntKind.i64.wrap (Int.tdiv a2 (IntKind.i64.wrap (Int.tdiv 64 y2.1))))).bind fun x13 => (guardI ((IntKind.i64.wrap (Int.tdiv 64 y2.1)) ≠ 0)).bind fun u14 => (guardI (0 ≤ (IntKind.i64.wrap ((Int.tmod a2 (IntKind.i64.wrap (Int.tdiv 64 y2.1))) * y2.1)))).bind fun u15 => (guardI (0 ≤ y2.1)).bind fun u16 => some (IntKind.u64.wrap (landI .u64 (Int.fdiv x13 (2 ^ min (Int.toNat (IntKind.i64.wrap ((Int.tmod a2 (IntKind.i64.wrap (Int.tdiv 64 y2.1))) * y2.1))) 64)) (IntKind.u64.wrap ((IntKind.u64.wrap (1 * 2 ^ min (Int.toNat y2.1) 64)) - 1))))))

noncomputable def m_reader_Ref_number (a0 : S_reader_Ref) : Option Int :=
  (m_word_Width a0.code).bind fun y2 => cond (y2.1 == 0) (some 0) ((guardI (y2.1 ≠ 0)).bind fun u4 => (guardI ((IntKind.i64.wrap (Int.tdiv 64 y2.1)) ≠ 0)).bind fun u7 => (m_arena_Arena_Get a0.a a0.segment (IntKind.i64.wrap (a0.at_ + (IntKind.i64.wrap (Int.tdiv a0.index (IntKind.i64.wrap (Int.tdiv 64 y2.1))))))).bind fun y8 => (guardI ((IntKind.i64.wrap (Int.tdiv 64 y2.1)) ≠ 0)).bind fun u11 => (m_word_Get ([y8.1] : List Int) a0.code (Int.tmod a0.index (IntKind.i64.wrap (Int.tdiv 64 y2.1)))).bind fun y12 => some y12)

noncomputable def m_reader_Ref_Word (a0 : S_reader_Ref) (a1 : Int) : Option Int :=
  (cond (decide (a1 < 0)) (some true) ((m_reader_Ref_Words a0).bind fun y4 => some (cond (decide (a1 < 0)) true (decide (y4 ≤ a1))))).bind fun (z2 : Bool) => cond z2 (some 0) (cond (a0.kind == 10) ((m_reader_Ref_number a0).bind fun y7 => some y7) ((m_arena_Arena_Get a0.a a0.segment (IntKind.i64.wrap (a0.at_ + a1))).bind fun y9 => some y9.1))

noncomputable def m_copy_Long_L0 (a0 : S_reader_Ref) (s0_ : Int) : Option (Int ⊕ Int) :=
  (cond (decide (0 < s0_)) ((m_reader_Ref_Word a0 (IntKind.i64.wrap (s0_ - 1))).bind fun y6 => some (cond (decide (0 < s0_)) (y6 == 0) false)) (some false)).bind fun (z4 : Bool) => cond z4 (some (.inl (IntKind.i64.wrap (s0_ - 1)))) (some (.inr s0_))

noncomputable def m_copy_Long (a0 : S_reader_Ref) : Option Int :=
  (m_reader_Ref_Words a0).bind fun y2 => (runLoop (m_copy_Long_L0 a0) y2).bind fun (z9 : Int) => some z9

noncomputable def m_equal_sameWords_L0 (a0 : S_reader_Ref) (a1 : S_reader_Ref) (y2 : Int) (s0_ : Int) : Option (Int ⊕ (Unit ⊕ Unit)) :=
  cond (decide (s0_ < y2)) ((m_reader_Ref_Word a0 s0_).bind fun y7 => (m_reader_Ref_Word a1 s0_).bind fun y8 => cond (y7 != y8) (some (.inr (.inl ()))) (some (.inl (IntKind.i64.wrap (s0_ + 1))))) (some (.inr (.inr ())))

noncomputable def m_equal_sameWords (a0 : S_reader_Ref) (a1 : S_reader_Ref) : Option Bool :=
  (m_copy_Long a0).bind fun y2 => (m_copy_Long a1).bind fun y4 => cond (y4 != y2) (some false) ((runLoop (m_equal_sameWords_L0 a0 a1 y2) 0).bind fun (z11 : (Unit ⊕ Unit)) => match z11 with | .inl z11 => some false | .inr z11 => some true)

noncomputable def m_reader_Ref_Kids (a0 : S_reader_Ref) : Option Int :=
  cond (a0.kind == 1) (some a0.ptrs) (some a0.count)

noncomputable def m_reader_Ref_Kid (a0 : S_reader_Ref) (a1 : Int) : Option (S_reader_Ref × Int) :=
  (cond (decide (a1 < 0)) (some true) ((m_reader_Ref_Kids a0).bind fun y4 => some (cond (decide (a1 < 0)) true (decide (y4 ≤ a1))))).bind fun (z2 : Bool) => cond z2 (some ((⟨(none : (Option S_arena_Arena)), 0, 0, 0, 0, 0, 0, 0, 0⟩ : S_reader_Ref), 0)) (cond (a0.kind == 1) ((m_reader_At a0.a a0.segment (IntKind.i64.wrap ((IntKind.i64.wrap (a0.at_ + a0.words)) + a1))).bind fun y7 => some (y7.1, y7.2)) (cond (a0.kind == 8) ((m_reader_At a0.a a0.segment (IntKind.i64.wrap (a0.at_ + a1))).bind fun y9 => some (y9.1, y9.2)) (cond (a0.kind == 9) (some ((⟨a0.a, 1, a0.segment, (IntKind.i64.wrap ((IntKind.i64.wrap (a0.at_ + 1)) + (IntKind.i64.wrap (a1 * (IntKind.i64.wrap (a0.words + a0.ptrs)))))), a0.words, a0.ptrs, 0, 0, 0⟩ : S_reader_Ref), 0)) (some ((⟨a0.a, 10, a0.segment, a0.at_, 0, 0, 0, (IntKind.i64.wrap (a0.kind - 2)), a1⟩ : S_reader_Ref), 0)))))

noncomputable def m_copy_Wide_L0 (a0 : S_reader_Ref) (s0_ : Int) : Option (Int ⊕ ((Int × Int) ⊕ Unit)) :=
  cond (decide (0 < s0_)) ((m_reader_Ref_Kid a0 (IntKind.i64.wrap (s0_ - 1))).bind fun y4 => (cond (y4.2 != 0) (some true) ((m_reader_Ref_Kind y4.1).bind fun y8 => some (cond (y4.2 != 0) true (y8 != 0)))).bind fun (z6 : Bool) => cond z6 (some (.inr (.inl (s0_, y4.2)))) (some (.inl (IntKind.i64.wrap (s0_ - 1))))) (some (.inr (.inr ())))

noncomputable def m_copy_Wide (a0 : S_reader_Ref) : Option (Int × Int) :=
  (m_reader_Ref_Kids a0).bind fun y2 => (runLoop (m_copy_Wide_L0 a0) y2).bind fun (z12 : ((Int × Int) ⊕ Unit)) => match z12 with | .inl z12 => some (z12.1, z12.2) | .inr z12 => some (0, 0)

noncomputable def m_equal_kids (a0 : S_reader_Ref) : Option (Int × Int) :=
  (m_reader_Ref_Kind a0).bind fun y2 => cond (y2 != 1) ((m_reader_Ref_Kids a0).bind fun y4 => some (y4, 0)) ((m_copy_Wide a0).bind fun y6 => cond (y6.2 != 0) (some (0, y6.2)) (some (y6.1, 0)))

structure S_equal_comparer where
  left : Int

noncomputable def b_equal_comparer_same (r_equal_comparer_same : (S_equal_comparer → S_reader_Ref → S_reader_Ref → Option (Bool × Int × S_equal_comparer))) (r_equal_comparer_sameKids : (S_equal_comparer → S_reader_Ref → S_reader_Ref → Int → Option (Bool × Int × S_equal_comparer))) (a0 : S_equal_comparer) (a1 : S_reader_Ref) (a2 : S_reader_Ref) : Option (Bool × Int × S_equal_comparer) :=
  cond (a0.left == 0) (some (false, 3, a0)) (((m_reader_Ref_Kind a1).bind fun y8 => (m_reader_Ref_Kind a2).bind fun y9 => cond (y8 != y9) (some true) ((m_equal_sameWords a1 a2).bind fun y10 => some (cond (y8 != y9) true (!y10)))).bind fun (z4 : Bool) => cond z4 (some (false, 0, (⟨(IntKind.i64.wrap (a0.left - 1))⟩ : S_equal_comparer))) ((m_equal_kids a1).bind fun y13 => cond (y13.2 != 0) (some (false, y13.2, (⟨(IntKind.i64.wrap (a0.left - 1))⟩ : S_equal_comparer))) ((m_equal_kids a2).bind fun y15 => cond (cond (y15.2 != 0) true (y13.1 != y15.1)) (some (false, y15.2, (⟨(IntKind.i64.wrap (a0.left - 1))⟩ : S_equal_comparer))) ((r_equal_comparer_sameKids (⟨(IntKind.i64.wrap (a0.left - 1))⟩ : S_equal_comparer) a1 a2 y13.1).bind fun y17 => some (y17.1, y17.2.1, y17.2.2)))))

noncomputable def b_equal_comparer_sameKids_L0 (r_equal_comparer_same : (S_equal_comparer → S_reader_Ref → S_reader_Ref → Option (Bool × Int × S_equal_comparer))) (a1 : S_reader_Ref) (a2 : S_reader_Ref) (a3 : Int) (s0_ : (Int × Int)) : Option ((Int × Int) ⊕ ((Int × Int) ⊕ Int)) :=
  cond (decide (s0_.1 < a3)) ((m_reader_Ref_Kid a1 s0_.1).bind fun y2 => cond (y2.2 != 0) (some (.inr (.inl (y2.2, s0_.2)))) ((m_reader_Ref_Kid a2 s0_.1).bind fun y4 => cond (y4.2 != 0) (some (.inr (.inl (y4.2, s0_.2)))) ((r_equal_comparer_same (⟨s0_.2⟩ : S_equal_comparer) y2.1 y4.1).bind fun y6 => cond (cond (!y6.1) true (y6.2.1 != 0)) (some (.inr (.inl (y6.2.1, y6.2.2.left)))) (some (.inl ((IntKind.i64.wrap (s0_.1 + 1)), y6.2.2.left)))))) (some (.inr (.inr s0_.2)))

noncomputable def b_equal_comparer_sameKids (r_equal_comparer_same : (S_equal_comparer → S_reader_Ref → S_reader_Ref → Option (Bool × Int × S_equal_comparer))) (r_equal_comparer_sameKids : (S_equal_comparer → S_reader_Ref → S_reader_Ref → Int → Option (Bool × Int × S_equal_comparer))) (a0 : S_equal_comparer) (a1 : S_reader_Ref) (a2 : S_reader_Ref) (a3 : Int) : Option (Bool × Int × S_equal_comparer) :=
  (runLoop (b_equal_comparer_sameKids_L0 r_equal_comparer_same a1 a2 a3) (0, a0.left)).bind fun (z11 : ((Int × Int) ⊕ Int)) => match z11 with | .inl z11 => some (false, z11.1, (⟨z11.2⟩ : S_equal_comparer)) | .inr z11 => some (true, 0, (⟨z11⟩ : S_equal_comparer))

noncomputable def lv_equal_comparer_same : Nat → ((S_equal_comparer → S_reader_Ref → S_reader_Ref → Option (Bool × Int × S_equal_comparer)) × (S_equal_comparer → S_reader_Ref → S_reader_Ref → Int → Option (Bool × Int × S_equal_comparer)))
  | 0 => ((fun _ _ _ => none), (fun _ _ _ _ => none))
  | k + 1 => (b_equal_comparer_same ((lv_equal_comparer_same k).1) ((lv_equal_comparer_same k).2), b_equal_comparer_sameKids ((lv_equal_comparer_same k).1) ((lv_equal_comparer_same k).2))

noncomputable def m_equal_comparer_same (a0 : S_equal_comparer) (a1 : S_reader_Ref) (a2 : S_reader_Ref) : Option (Bool × Int × S_equal_comparer) := lim fun k => (lv_equal_comparer_same k).1 a0 a1 a2

noncomputable def m_equal_comparer_sameKids (a0 : S_equal_comparer) (a1 : S_reader_Ref) (a2 : S_reader_Ref) (a3 : Int) : Option (Bool × Int × S_equal_comparer) := lim fun k => (lv_equal_comparer_same k).2 a0 a1 a2 a3

noncomputable def m_equal_Values (a0 : S_reader_Ref) (a1 : S_reader_Ref) : Option (Bool × Int) :=
  (m_equal_comparer_same (⟨65537⟩ : S_equal_comparer) a0 a1).bind fun y2 => some (y2.1, y2.2.1)

noncomputable def m_centolaw15_awake  : Option Bool :=
  (m_centolaw15_root ([([4294967296, 7] : List Int)] : List (List Int))).bind fun y4 => (m_centolaw15_root ([([8589934592, 7, 0] : List Int)] : List (List Int))).bind fun y5 => (m_equal_Values y4 y5).bind fun y6 => (m_centolaw15_root ([([4294967296, 7] : List Int)] : List (List Int))).bind fun y10 => (m_centolaw15_root ([([4294967296, 8] : List Int)] : List (List Int))).bind fun y11 => (m_equal_Values y10 y11).bind fun y12 => some (cond (cond (cond y6.1 (y6.2 == 0) false) (!y12.1) false) (y12.2 == 0) false)

structure S_equal_hasher where
  sum : Int
  left : Int

noncomputable def m_equal_hasher_mix (a0 : S_equal_hasher) (a1 : Int) : Option S_equal_hasher :=
  some (⟨(IntKind.u64.wrap (lxorI .u64 (IntKind.u64.wrap ((IntKind.u64.wrap (lxorI .u64 a0.sum a1)) * 11400714819323198485)) (Int.fdiv (IntKind.u64.wrap ((IntKind.u64.wrap (lxorI .u64 a0.sum a1)) * 11400714819323198485)) (2 ^ min (Int.toNat 32) 64)))), a0.left⟩ : S_equal_hasher)

noncomputable def m_equal_words_f50_c48q74_L0 (a0 : S_reader_Ref) (y2 : Int) (s0_ : (Int × Int × Int)) : Option ((Int × Int × Int) ⊕ (Int × Int)) :=
  cond (decide (s0_.1 < y2)) ((m_reader_Ref_Word a0 s0_.1).bind fun y5 => (m_equal_hasher_mix (⟨s0_.2.1, s0_.2.2⟩ : S_equal_hasher) y5).bind fun y6 => some (.inl ((IntKind.i64.wrap (s0_.1 + 1)), y6.sum, y6.left))) (some (.inr (s0_.2.1, s0_.2.2)))

noncomputable def m_equal_words_f50_c48q74 (a0 : S_reader_Ref) (a2 : S_equal_hasher) : Option S_equal_hasher :=
  (m_copy_Long a0).bind fun y2 => (m_equal_hasher_mix a2 (IntKind.u64.wrap y2)).bind fun y4 => (runLoop (m_equal_words_f50_c48q74_L0 a0 y2) (0, y4.sum, y4.left)).bind fun (z8 : (Int × Int)) => some (⟨z8.1, z8.2⟩ : S_equal_hasher)

noncomputable def b_equal_hasher_value_L0 (r_equal_hasher_value : (S_equal_hasher → S_reader_Ref → Option (Int × S_equal_hasher))) (a1 : S_reader_Ref) (y2 : (Int × Int)) (s0_ : (Int × Int × Int)) : Option ((Int × Int × Int) ⊕ ((Int × Int × Int) ⊕ (Int × Int))) :=
  cond (decide (s0_.1 < y2.1)) ((m_reader_Ref_Kid a1 s0_.1).bind fun y12 => cond (y12.2 != 0) (some (.inr (.inl (y12.2, s0_.2.1, s0_.2.2)))) ((r_equal_hasher_value (⟨s0_.2.1, s0_.2.2⟩ : S_equal_hasher) y12.1).bind fun y14 => cond (y14.1 != 0) (some (.inr (.inl (y14.1, y14.2.sum, y14.2.left)))) (some (.inl ((IntKind.i64.wrap (s0_.1 + 1)), y14.2.sum, y14.2.left))))) (some (.inr (.inr (s0_.2.1, s0_.2.2))))

noncomputable def b_equal_hasher_value (r_equal_hasher_value : (S_equal_hasher → S_reader_Ref → Option (Int × S_equal_hasher))) (a0 : S_equal_hasher) (a1 : S_reader_Ref) : Option (Int × S_equal_hasher) :=
  cond (a0.left == 0) (some (3, a0)) ((m_equal_kids a1).bind fun y2 => cond (y2.2 != 0) (some (y2.2, (⟨a0.sum, (IntKind.i64.wrap (a0.left - 1))⟩ : S_equal_hasher))) ((m_reader_Ref_Kind a1).bind fun y5 => (m_equal_hasher_mix (⟨a0.sum, (IntKind.i64.wrap (a0.left - 1))⟩ : S_equal_hasher) (IntKind.u64.wrap y5)).bind fun y6 => (m_equal_hasher_mix y6 (IntKind.u64.wrap y2.1)).bind fun y8 => (m_equal_words_f50_c48q74 a1 y8).bind fun y10 => (runLoop (b_equal_hasher_value_L0 r_equal_hasher_value a1 y2) (0, y10.sum, y10.left)).bind fun (z18 : ((Int × Int × Int) ⊕ (Int × Int))) => match z18 with | .inl z18 => some (z18.1, (⟨z18.2.1, z18.2.2⟩ : S_equal_hasher)) | .inr z18 => some (0, (⟨z18.1, z18.2⟩ : S_equal_hasher))))

noncomputable def lv_equal_hasher_value : Nat → (S_equal_hasher → S_reader_Ref → Option (Int × S_equal_hasher))
  | 0 => (fun _ _ => none)
  | k + 1 => b_equal_hasher_value ((lv_equal_hasher_value k))

noncomputable def m_equal_hasher_value (a0 : S_equal_hasher) (a1 : S_reader_Ref) : Option (Int × S_equal_hasher) := lim fun k => (lv_equal_hasher_value k) a0 a1

noncomputable def m_equal_Hash (a0 : S_reader_Ref) : Option (Int × Int) :=
  (m_equal_hasher_value (⟨0, 65537⟩ : S_equal_hasher) a0).bind fun y2 => cond (y2.1 != 0) (some (0, y2.1)) (some (y2.2.sum, 0))

noncomputable def m_centoref07_Trim_L0 (a0 : (List Int)) (s0_ : Int) : Option (Int ⊕ Int) :=
  (cond (decide (0 < s0_)) ((getI a0 (IntKind.i64.wrap (s0_ - 1))).bind fun x4 => some (cond (decide (0 < s0_)) (x4 == 0) false)) (some false)).bind fun (z2 : Bool) => cond z2 (some (.inl (IntKind.i64.wrap (s0_ - 1)))) (some (.inr s0_))

noncomputable def m_centoref07_Trim (a0 : (List Int)) : Option (List Int) :=
  (runLoop (m_centoref07_Trim_L0 a0) (a0.length : Int)).bind fun (z7 : Int) => (subI a0 0 z7).bind fun l10 => (appI 8 ([] : List Int) l10).bind fun l11 => some l11

noncomputable def b_centoref07_Norm_L0 (r_centoref07_Norm : (S_api_Tree → Option S_api_Tree)) (a0 : S_api_Tree) (s0_ : (Int × Int × (List S_api_Tree))) : Option ((Int × Int × (List S_api_Tree)) ⊕ (Int × (List S_api_Tree))) :=
  cond (decide (s0_.2.1 < (a0.Kids.length : Int))) (((getI a0.Kids s0_.2.1).bind fun x4 => (r_centoref07_Norm x4).bind fun y5 => (appI 56 s0_.2.2 ([y5] : List S_api_Tree)).bind fun l7 => cond (y5.Kind != 0) (some ((IntKind.i64.wrap (s0_.2.1 + 1)), l7)) (some (s0_.1, l7))).bind fun (z1 : (Int × (List S_api_Tree))) => some (.inl (z1.1, (IntKind.i64.wrap (s0_.2.1 + 1)), z1.2))) (some (.inr (s0_.1, s0_.2.2)))

noncomputable def b_centoref07_Norm (r_centoref07_Norm : (S_api_Tree → Option S_api_Tree)) (a0 : S_api_Tree) : Option S_api_Tree :=
  cond (a0.Kind == 0) (some (⟨0, [], []⟩ : S_api_Tree)) ((runLoop (b_centoref07_Norm_L0 r_centoref07_Norm a0) (0, 0, ([] : List S_api_Tree))).bind fun (z10 : (Int × (List S_api_Tree))) => cond (a0.Kind == 1) ((m_centoref07_Trim a0.Words).bind fun y14 => (subI z10.2 0 z10.1).bind fun l15 => some (⟨1, y14, l15⟩ : S_api_Tree)) ((appI 8 ([] : List Int) a0.Words).bind fun l17 => some (⟨a0.Kind, l17, z10.2⟩ : S_api_Tree)))

noncomputable def lv_centoref07_Norm : Nat → (S_api_Tree → Option S_api_Tree)
  | 0 => (fun _ => none)
  | k + 1 => b_centoref07_Norm ((lv_centoref07_Norm k))

noncomputable def m_centoref07_Norm (a0 : S_api_Tree) : Option S_api_Tree := lim fun k => (lv_centoref07_Norm k) a0

noncomputable def m_centoref01_Same_L0 (a0 : (List Int)) (a1 : (List Int)) (s0_ : Int) : Option (Int ⊕ (Unit ⊕ Unit)) :=
  cond (decide (s0_ < (a0.length : Int))) ((getI a0 s0_).bind fun x3 => (getI a1 s0_).bind fun x4 => cond (x3 != x4) (some (.inr (.inl ()))) (some (.inl (IntKind.i64.wrap (s0_ + 1))))) (some (.inr (.inr ())))

noncomputable def m_centoref01_Same (a0 : (List Int)) (a1 : (List Int)) : Option Bool :=
  cond ((a0.length : Int) != (a1.length : Int)) (some false) ((runLoop (m_centoref01_Same_L0 a0 a1) 0).bind fun (z7 : (Unit ⊕ Unit)) => match z7 with | .inl z7 => some false | .inr z7 => some true)

noncomputable def b_centoref07_Same_L0 (r_centoref07_Same : (S_api_Tree → S_api_Tree → Option Bool)) (a0 : S_api_Tree) (a1 : S_api_Tree) (s0_ : Int) : Option (Int ⊕ (Unit ⊕ Unit)) :=
  cond (decide (s0_ < (a0.Kids.length : Int))) ((getI a0.Kids s0_).bind fun x9 => (getI a1.Kids s0_).bind fun x10 => (r_centoref07_Same x9 x10).bind fun y11 => cond (!y11) (some (.inr (.inl ()))) (some (.inl (IntKind.i64.wrap (s0_ + 1))))) (some (.inr (.inr ())))

noncomputable def b_centoref07_Same (r_centoref07_Same : (S_api_Tree → S_api_Tree → Option Bool)) (a0 : S_api_Tree) (a1 : S_api_Tree) : Option Bool :=
  (cond (a0.Kind != a1.Kind) (some true) ((m_centoref01_Same a0.Words a1.Words).bind fun y4 => some (cond (cond (a0.Kind != a1.Kind) true (!y4)) true ((a0.Kids.length : Int) != (a1.Kids.length : Int))))).bind fun (z2 : Bool) => cond z2 (some false) ((runLoop (b_centoref07_Same_L0 r_centoref07_Same a0 a1) 0).bind fun (z14 : (Unit ⊕ Unit)) => match z14 with | .inl z14 => some false | .inr z14 => some true)

noncomputable def lv_centoref07_Same : Nat → (S_api_Tree → S_api_Tree → Option Bool)
  | 0 => (fun _ _ => none)
  | k + 1 => b_centoref07_Same ((lv_centoref07_Same k))

noncomputable def m_centoref07_Same (a0 : S_api_Tree) (a1 : S_api_Tree) : Option Bool := lim fun k => (lv_centoref07_Same k) a0 a1

noncomputable def m_centoref07_Equal (a0 : S_api_Tree) (a1 : S_api_Tree) : Option Bool :=
  (m_centoref07_Norm a0).bind fun y4 => (m_centoref07_Norm a1).bind fun y5 => (m_centoref07_Same y4 y5).bind fun y6 => some y6

noncomputable def m_centolaw15_EqualValues (a0 : (List (List Int))) (a1 : (List (List Int))) (a2 : S_api_Limits) : Option Bool :=
  (m_centolaw10_Light a2).bind fun y2 => (m_centoref10_Unfold a0 y2).bind fun y4 => (m_centoref10_Unfold a1 y2).bind fun y6 => cond (cond (y4.2.2 != 0) true (y6.2.2 != 0)) ((m_centolaw15_awake).bind fun y8 => some y8) ((m_centolaw15_root a0).bind fun y11 => (m_centolaw15_root a1).bind fun y12 => (m_equal_Values y11 y12).bind fun y14 => (m_equal_Hash y11).bind fun y16 => (m_equal_Hash y12).bind fun y18 => (m_centoref07_Equal y4.1 y6.1).bind fun y20 => cond (cond (cond (cond (y14.1 != y20) true (y14.2 != 0)) true (y16.2 != 0)) true (y18.2 != 0)) (some false) ((cond y14.1 (cond (y16.1 == y18.1) ((m_centolaw15_awake).bind fun y26 => some (cond (cond (!y14.1) true (y16.1 == y18.1)) y26 false)) (some false)) ((m_centolaw15_awake).bind fun y27 => some (cond (cond (!y14.1) true (y16.1 == y18.1)) y27 false))).bind fun (z23 : Bool) => some z23))

end Go.Proofs.Ytgffgbdnbjbmoaa
