/- Part QD of this seat's mirrors: functions of the seat's program, and the plain functions that they are; each theorem bears its own conditions. -/
import Derived.Test.YtmlhokaflhlhbaaH25
namespace Go.Proofs.Ytmlhokaflhlhbaa
open Go.RowKit
set_option linter.unusedVariables false
set_option linter.unusedSimpArgs false
set_option maxRecDepth 100000
set_option maxHeartbeats 4000000
structure Z5 where
 Depth : Int
 Weight : Int
 MaxD : Int
 MaxOut : Int
noncomputable def Qx (a0 : Z5) : Option Z5 :=
 (cond (decide (3000 < a0.Weight)) (some 3000) (some a0.Weight)).bind fun (z1 : Int) => some (⟨a0.Depth, z1, a0.MaxD, a0.MaxOut⟩ : Z5)
noncomputable def Y2 (a0 : Int) (a1 : Int) : Option Int :=
 cond (decide (a0 < 0)) (some 0) (cond (decide (a1 < a0)) (some a1) (some a0))
noncomputable def Qm (a0 : Z5) : Option Z5 :=
 (Y2 a0.Depth 64).bind fun y5 => (Y2 a0.Weight 65536).bind fun y6 => (Y2 a0.MaxD 4096).bind fun y7 => (Y2 a0.MaxOut 131072).bind fun y8 => some (⟨y5, y6, y7, y8⟩ : Z5)
noncomputable def Xo (a0 : (List (List Int))) (a1 : Int) (a2 : Int) : Option Bool :=
 (cond (decide (0 ≤ a1)) (cond (decide (a1 < (a0.length : Int))) (cond (decide (0 ≤ a2)) ((Q3 a0 a1).bind fun x4 => some (cond (cond (cond (decide (0 ≤ a1)) (decide (a1 < (a0.length : Int))) false) (decide (0 ≤ a2)) false) (decide (a2 < (x4.length : Int))) false)) (some false)) (some false)) (some false)).bind fun (z2 : Bool) => some z2
noncomputable def Q1 (a1 : Int) (s0_ : (Int × Int)) : Option ((Int × Int) ⊕ Int) :=
 cond (decide (s0_.2 < a1)) (some (.inl ((IntKind.u64.wrap (Int.tdiv s0_.1 2)), (IntKind.i64.wrap (s0_.2 + 1))))) (some (.inr s0_.1))
noncomputable def Q2 (a2 : Int) (s1_ : (Int × Int × Int × Int)) : Option ((Int × Int × Int × Int) ⊕ Int) :=
 cond (decide (s1_.2.2.2 < a2)) ((cond ((Int.tmod s1_.1 2) == 1) (some (IntKind.i64.wrap (s1_.2.1 + s1_.2.2.1))) (some s1_.2.1)).bind fun (z3 : Int) => some (.inl ((IntKind.u64.wrap (Int.tdiv s1_.1 2)), z3, (IntKind.i64.wrap (2 * s1_.2.2.1)), (IntKind.i64.wrap (s1_.2.2.2 + 1))))) (some (.inr s1_.2.1))
noncomputable def Zy (a0 : Int) (a1 : Int) (a2 : Int) : Option Int :=
 (Yc (Q1 a1) (a0, 0)).bind fun (z2 : Int) => (Yc (Q2 a2) (z2, 0, 1, 0)).bind fun (z6 : Int) => some z6
structure Z4 where
 Kind : Int
 Off : Int
 Data : Int
 Ptrs : Int
 Code : Int
 Count : Int
 Segment : Int
 Double : Bool
noncomputable def Yi (a0 : Int) : Option Z4 :=
 cond (a0 == 0) (some (⟨0, 0, 0, 0, 0, 0, 0, false⟩ : Z4)) ((Zy a0 2 30).bind fun y2 => (cond (decide (536870912 ≤ y2)) (some (IntKind.i64.wrap (y2 - 1073741824))) (some y2)).bind fun (z3 : Int) => (Zy a0 0 2).bind fun y6 => cond (y6 == 0) ((Zy a0 32 16).bind fun y9 => (Zy a0 48 16).bind fun y10 => some (⟨1, z3, y9, y10, 0, 0, 0, false⟩ : Z4)) (cond (y6 == 1) ((Zy a0 32 3).bind fun y13 => (Zy a0 35 29).bind fun y14 => some (⟨2, z3, 0, 0, y13, y14, 0, false⟩ : Z4)) (cond (y6 == 2) ((Zy a0 3 29).bind fun y18 => (Zy a0 32 32).bind fun y19 => (Zy a0 2 1).bind fun y20 => some (⟨3, y18, 0, 0, 0, 0, y19, (y20 == 1)⟩ : Z4)) (some (⟨4, 0, 0, 0, 0, 0, 0, false⟩ : Z4)))))
noncomputable def Xj (a0 : Z4) : Option Int :=
 cond (a0.Kind == 4) (some 9) (cond (cond (a0.Kind != 1) (a0.Kind != 2) false) (some 8) (some 0))
noncomputable def Qz (a0 : Z4) : Option Int :=
 cond (a0.Kind == 1) (some (IntKind.i64.wrap (a0.Data + a0.Ptrs))) (cond (a0.Kind != 2) (some (-1)) (cond (a0.Code == 7) (some (IntKind.i64.wrap (a0.Count + 1))) (cond (cond (cond (cond (decide (a0.Code < 0)) true (decide (6 < a0.Code))) true (decide (a0.Count < 0))) true (decide (536870912 ≤ a0.Count))) (some (-1)) ((cond (a0.Code == 0) (some (.inr ())) (cond (a0.Code == 1) (some (.inl 64)) (cond (a0.Code == 2) (some (.inl 8)) (cond (a0.Code == 3) (some (.inl 4)) (cond (a0.Code == 4) (some (.inl 2)) (some (.inl 1))))))).bind fun (z1 : (Int ⊕ Unit)) => match z1 with | .inl z1 => (Xx (z1 ≠ 0)).bind fun u8 => cond (decide (0 < (Int.tmod a0.Count z1))) ((Xx (z1 ≠ 0)).bind fun u10 => some (IntKind.i64.wrap ((IntKind.i64.wrap (Int.tdiv a0.Count z1)) + 1))) ((Xx (z1 ≠ 0)).bind fun u12 => some (IntKind.i64.wrap (Int.tdiv a0.Count z1))) | .inr z1 => some 0))))
structure Z0 where
 P : Z4
 Segment : Int
 At : Int
noncomputable def Xk (a0 : (List (List Int))) (a1 : Z0) : Option (Z0 × Int) :=
 (Qz a1.P).bind fun y2 => (cond (decide (a1.Segment < 0)) (some true) (cond (decide ((a0.length : Int) ≤ a1.Segment)) (some true) (cond (decide (a1.At < 0)) (some true) ((Q3 a0 a1.Segment).bind fun x8 => cond (decide ((x8.length : Int) < a1.At)) (some true) (some (cond (cond (cond (cond (decide (a1.Segment < 0)) true (decide ((a0.length : Int) ≤ a1.Segment))) true (decide (a1.At < 0))) true (decide ((x8.length : Int) < a1.At))) true (decide ((IntKind.i64.wrap ((x8.length : Int) - a1.At)) < y2)))))))).bind fun (z5 : Bool) => cond z5 (some ((⟨⟨0, 0, 0, 0, 0, 0, 0, false⟩, 0, 0⟩ : Z0), 7)) (some ((⟨⟨a1.P.Kind, 0, a1.P.Data, a1.P.Ptrs, a1.P.Code, a1.P.Count, a1.P.Segment, a1.P.Double⟩, a1.Segment, a1.At⟩ : Z0), 0))
noncomputable def X6 (a0 : (List (List Int))) (a1 : Int) (a2 : Int) : Option (Z0 × Int) :=
 (Xo a0 a1 a2).bind fun y2 => cond (!y2) (some ((⟨⟨0, 0, 0, 0, 0, 0, 0, false⟩, 0, 0⟩ : Z0), 7)) ((Q3 a0 a1).bind fun x6 => (Q3 x6 a2).bind fun x7 => (Yi x7).bind fun y8 => cond (y8.Kind == 0) (some ((⟨⟨0, 0, 0, 0, 0, 0, 0, false⟩, 0, 0⟩ : Z0), 0)) (cond (cond (y8.Kind == 3) y8.Double false) (((Xo a0 y8.Segment y8.Off).bind fun y14 => cond y14 ((Xo a0 y8.Segment (IntKind.i64.wrap (y8.Off + 1))).bind fun y15 => some (cond (!y14) true (!y15))) (some true)).bind fun (z11 : Bool) => cond z11 (some ((⟨⟨0, 0, 0, 0, 0, 0, 0, false⟩, 0, 0⟩ : Z0), 7)) ((Q3 a0 y8.Segment).bind fun x17 => (Q3 x17 y8.Off).bind fun x18 => (Yi x18).bind fun y19 => (Q3 x17 (IntKind.i64.wrap (y8.Off + 1))).bind fun x21 => (Yi x21).bind fun y22 => cond (cond (y19.Kind != 3) true y19.Double) (some ((⟨⟨0, 0, 0, 0, 0, 0, 0, false⟩, 0, 0⟩ : Z0), 8)) ((Xj y22).bind fun y24 => (cond (cond (y24 == 0) (y22.Off != 0) false) (some 8) (some y24)).bind fun (z25 : Int) => cond (z25 != 0) (some ((⟨⟨0, 0, 0, 0, 0, 0, 0, false⟩, 0, 0⟩ : Z0), z25)) ((Xk a0 (⟨y22, y19.Segment, y19.Off⟩ : Z0)).bind fun y28 => some (y28.1, y28.2))))) ((cond (y8.Kind == 3) ((Xo a0 y8.Segment y8.Off).bind fun y34 => cond (!y34) (some (.inr ())) ((Q3 a0 y8.Segment).bind fun x35 => (Q3 x35 y8.Off).bind fun x36 => (Yi x36).bind fun y37 => some (.inl (y8.Segment, y8.Off, y37.Kind, y37.Off, y37.Data, y37.Ptrs, y37.Code, y37.Count, y37.Segment, y37.Double)))) (some (.inl (a1, a2, y8.Kind, y8.Off, y8.Data, y8.Ptrs, y8.Code, y8.Count, y8.Segment, y8.Double)))).bind fun (z32 : ((Int × Int × Int × Int × Int × Int × Int × Int × Int × Bool) ⊕ Unit)) => match z32 with | .inl z32 => (Xj (⟨z32.2.2.1, z32.2.2.2.1, z32.2.2.2.2.1, z32.2.2.2.2.2.1, z32.2.2.2.2.2.2.1, z32.2.2.2.2.2.2.2.1, z32.2.2.2.2.2.2.2.2.1, z32.2.2.2.2.2.2.2.2.2⟩ : Z4)).bind fun y41 => cond (y41 != 0) (some ((⟨⟨0, 0, 0, 0, 0, 0, 0, false⟩, 0, 0⟩ : Z0), y41)) ((Xk a0 (⟨⟨z32.2.2.1, z32.2.2.2.1, z32.2.2.2.2.1, z32.2.2.2.2.2.1, z32.2.2.2.2.2.2.1, z32.2.2.2.2.2.2.2.1, z32.2.2.2.2.2.2.2.2.1, z32.2.2.2.2.2.2.2.2.2⟩, z32.1, (IntKind.i64.wrap ((IntKind.i64.wrap (z32.2.1 + 1)) + z32.2.2.2.1))⟩ : Z0)).bind fun y43 => some (y43.1, y43.2)) | .inr z32 => some ((⟨⟨0, 0, 0, 0, 0, 0, 0, false⟩, 0, 0⟩ : Z0), 7))))
structure Zn where
 Kind : Int
 S : Int
 At : Int
 Data : Int
 Ptrs : Int
 Count : Int
 N : Int
noncomputable def Qk (a0 : (List (List Int))) (a1 : Int) (a2 : Int) : Option (Zn × Int) :=
 (X6 a0 a1 a2).bind fun y2 => cond (cond (y2.2 != 0) true (y2.1.P.Kind == 0)) (some ((⟨0, 0, 0, 0, 0, 0, 0⟩ : Zn), y2.2)) (cond (y2.1.P.Kind == 1) (some ((⟨1, y2.1.Segment, y2.1.At, y2.1.P.Data, y2.1.P.Ptrs, 0, 0⟩ : Zn), 0)) (cond (decide (y2.1.P.Code < 7)) (some ((⟨(IntKind.i64.wrap (2 + y2.1.P.Code)), y2.1.Segment, y2.1.At, 0, 0, y2.1.P.Count, 0⟩ : Zn), 0)) ((Q3 a0 y2.1.Segment).bind fun x5 => (Q3 x5 y2.1.At).bind fun x6 => (Yi x6).bind fun y8 => cond (cond (cond (cond (x6 != 0) (y8.Kind != 1) false) true (decide (y8.Off < 0))) true (decide (y2.1.P.Count < (IntKind.i64.wrap (y8.Off * (IntKind.i64.wrap (y8.Data + y8.Ptrs))))))) (some ((⟨0, 0, 0, 0, 0, 0, 0⟩ : Zn), 8)) (some ((⟨9, y2.1.Segment, (IntKind.i64.wrap (y2.1.At + 1)), y8.Data, y8.Ptrs, y8.Off, 0⟩ : Zn), 0)))))
noncomputable def Yx (a0 : Zn) (a1 : (List (List Int))) : Option (List Int) :=
 cond (a0.Kind == 10) (some ([a0.N] : List Int)) (cond (a0.Kind != 1) (some ([] : (List Int))) ((Q3 a1 a0.S).bind fun x4 => (Zdb x4 a0.At (IntKind.i64.wrap (a0.At + a0.Data))).bind fun l5 => (Zfl 8 ([] : List Int) l5).bind fun l6 => some l6))
noncomputable def Y4 (a0 : Zn) : Option Int :=
 cond (a0.Kind == 1) (some a0.Ptrs) (some a0.Count)
noncomputable def Qy (a0 : Int) : Option Int :=
 cond (a0 == 0) (some 0) (cond (a0 == 1) (some 1) (cond (a0 == 2) (some 8) (cond (a0 == 3) (some 16) (cond (a0 == 4) (some 32) (cond (a0 == 5) (some 64) (some (-1)))))))
noncomputable def X4 (a1 : Int) (s0_ : (Int × Int)) : Option ((Int × Int) ⊕ Int) :=
 cond (decide (s0_.2 < (Int.tmod a1 64))) (some (.inl ((IntKind.u64.wrap (Int.tdiv s0_.1 2)), (IntKind.i64.wrap (s0_.2 + 1))))) (some (.inr s0_.1))
noncomputable def Jm (a0 : (List Int)) (a1 : Int) : Option Int :=
 cond (cond (decide (a1 < 0)) true (decide ((a0.length : Int) ≤ (IntKind.i64.wrap (Int.tdiv a1 64))))) (some 0) ((Q3 a0 (IntKind.i64.wrap (Int.tdiv a1 64))).bind fun x2 => (Yc (X4 a1) (x2, 0)).bind fun (z4 : Int) => some (Int.tmod z4 2))
noncomputable def X5 (a0 : (List Int)) (a2 : Int) (y2 : Int) (s0_ : (Int × Int)) : Option ((Int × Int) ⊕ Int) :=
 cond (decide (0 ≤ s0_.2)) ((Jm a0 (IntKind.i64.wrap ((IntKind.i64.wrap (a2 * y2)) + s0_.2))).bind fun y3 => some (.inl ((IntKind.u64.wrap ((IntKind.u64.wrap (s0_.1 * 2)) + y3)), (IntKind.i64.wrap (s0_.2 - 1))))) (some (.inr s0_.1))
noncomputable def Jn (a0 : (List Int)) (a1 : Int) (a2 : Int) : Option Int :=
 (Qy a1).bind fun y2 => cond (cond (cond (decide (y2 < 1)) true (decide (a2 < 0))) true (decide (1099511627776 < a2))) (some 0) ((Yc (X5 a0 a2 y2) (0, (IntKind.i64.wrap (y2 - 1)))).bind fun (z5 : Int) => some z5)
noncomputable def Xp (a0 : Zn) (a1 : (List (List Int))) (a2 : Int) : Option (Zn × Int) :=
 (cond (decide (a2 < 0)) (some true) ((Y4 a0).bind fun y4 => some (cond (decide (a2 < 0)) true (decide (y4 ≤ a2))))).bind fun (z2 : Bool) => cond z2 (some ((⟨0, 0, 0, 0, 0, 0, 0⟩ : Zn), 0)) (cond (a0.Kind == 1) ((Qk a1 a0.S (IntKind.i64.wrap ((IntKind.i64.wrap (a0.At + a0.Data)) + a2))).bind fun y7 => some (y7.1, y7.2)) (cond (a0.Kind == 8) ((Qk a1 a0.S (IntKind.i64.wrap (a0.At + a2))).bind fun y9 => some (y9.1, y9.2)) (cond (a0.Kind == 9) (some ((⟨1, a0.S, (IntKind.i64.wrap (a0.At + (IntKind.i64.wrap (a2 * (IntKind.i64.wrap (a0.Data + a0.Ptrs)))))), a0.Data, a0.Ptrs, 0, 0⟩ : Zn), 0)) ((Q3 a1 a0.S).bind fun x13 => (Zdb x13 a0.At (x13.length : Int)).bind fun l14 => (Jn l14 (IntKind.i64.wrap (a0.Kind - 2)) a2).bind fun y15 => some ((⟨10, 0, 0, 0, 0, 0, y15⟩ : Zn), 0)))))
structure S_api_Tree where
 Kind : Int
 Words : (List Int)
 Kids : (List S_api_Tree)
noncomputable def Xn (Ya : ((List (List Int)) → Zn → Int → Int → Option (S_api_Tree × Int × Int))) (Yu : ((List (List Int)) → Zn → Int → Int → Option (S_api_Tree × Int × Int))) (a0 : (List (List Int))) (a1 : Zn) (a2 : Int) (s0_ : (Int × Int × (List S_api_Tree))) : Option ((Int × Int × (List S_api_Tree)) ⊕ ((Int × Int × (List S_api_Tree)) ⊕ (Int × (List S_api_Tree)))) :=
 (Y4 a1).bind fun y10 => cond (decide (s0_.2.1 < y10)) ((Xp a1 a0 s0_.2.1).bind fun y12 => cond (y12.2 != 0) (some (.inr (.inl (s0_.1, y12.2, s0_.2.2)))) ((Yx y12.1 a0).bind fun y14 => (cond (a1.Kind == 9) ((Yu a0 y12.1 (IntKind.i64.wrap (a2 - 2)) s0_.1).bind fun y16 => some (y16.2.1, y16.2.2, y16.1.Kind, y16.1.Words, y16.1.Kids)) (cond (cond (a1.Kind == 1) true (a1.Kind == 8)) ((Ya a0 y12.1 (IntKind.i64.wrap (a2 - 1)) s0_.1).bind fun y17 => some (y17.2.1, y17.2.2, y17.1.Kind, y17.1.Words, y17.1.Kids)) (some (s0_.1, y12.2, y12.1.Kind, y14, ([] : (List S_api_Tree)))))).bind fun (z15 : (Int × Int × Int × (List Int) × (List S_api_Tree))) => cond (z15.2.1 != 0) (some (.inr (.inl (z15.1, z15.2.1, s0_.2.2)))) ((Zfl 56 s0_.2.2 ([(⟨z15.2.2.1, z15.2.2.2.1, z15.2.2.2.2⟩ : S_api_Tree)] : List S_api_Tree)).bind fun l20 => some (.inl (z15.1, (IntKind.i64.wrap (s0_.2.1 + 1)), l20))))) (some (.inr (.inr (s0_.1, s0_.2.2))))
noncomputable def Xm (Ya : ((List (List Int)) → Zn → Int → Int → Option (S_api_Tree × Int × Int))) (Yu : ((List (List Int)) → Zn → Int → Int → Option (S_api_Tree × Int × Int))) (a0 : (List (List Int))) (a1 : Zn) (a2 : Int) (a3 : Int) : Option (S_api_Tree × Int × Int) :=
 (Yx a1 a0).bind fun y2 => cond (a1.Kind == 0) (some ((⟨a1.Kind, y2, []⟩ : S_api_Tree), a3, 0)) (cond (cond (decide (a2 < 1)) true (cond (cond (a1.Kind == 9) (decide (0 < a1.Count)) false) (decide (a2 < 2)) false)) (some ((⟨a1.Kind, y2, []⟩ : S_api_Tree), a3, 3)) ((Y4 a1).bind fun y4 => (cond (a1.Kind == 1) (some (IntKind.i64.wrap ((IntKind.i64.wrap (1 + a1.Data)) + a1.Ptrs))) (some (IntKind.i64.wrap (1 + y4)))).bind fun (z5 : Int) => (cond (a1.Kind == 9) (some (IntKind.i64.wrap (1 + (IntKind.i64.wrap (a1.Count * (IntKind.i64.wrap ((IntKind.i64.wrap (1 + a1.Data)) + a1.Ptrs))))))) (some z5)).bind fun (z7 : Int) => cond (decide (a3 < z7)) (some ((⟨a1.Kind, y2, []⟩ : S_api_Tree), a3, 3)) ((Yc (Xn Ya Yu a0 a1 a2) ((IntKind.i64.wrap (a3 - z7)), 0, ([] : List S_api_Tree))).bind fun (z24 : ((Int × Int × (List S_api_Tree)) ⊕ (Int × (List S_api_Tree)))) => match z24 with | .inl z24 => some ((⟨a1.Kind, y2, z24.2.2⟩ : S_api_Tree), z24.1, z24.2.1) | .inr z24 => some ((⟨a1.Kind, y2, z24.2⟩ : S_api_Tree), z24.1, 0))))
noncomputable def Qf (Ya : ((List (List Int)) → Zn → Int → Int → Option (S_api_Tree × Int × Int))) (a0 : (List (List Int))) (a1 : Zn) (a2 : Int) (s0_ : (Int × Int × (List S_api_Tree))) : Option ((Int × Int × (List S_api_Tree)) ⊕ ((Int × Int × (List S_api_Tree)) ⊕ (Int × (List S_api_Tree)))) :=
 cond (decide (s0_.2.1 < a1.Ptrs)) ((Xp a1 a0 s0_.2.1).bind fun y4 => cond (y4.2 != 0) (some (.inr (.inl (s0_.1, y4.2, s0_.2.2)))) ((Ya a0 y4.1 a2 s0_.1).bind fun y6 => cond (y6.2.2 != 0) (some (.inr (.inl (y6.2.1, y6.2.2, s0_.2.2)))) ((Zfl 56 s0_.2.2 ([y6.1] : List S_api_Tree)).bind fun l7 => some (.inl (y6.2.1, (IntKind.i64.wrap (s0_.2.1 + 1)), l7))))) (some (.inr (.inr (s0_.1, s0_.2.2))))
noncomputable def Qi (Ya : ((List (List Int)) → Zn → Int → Int → Option (S_api_Tree × Int × Int))) (Yu : ((List (List Int)) → Zn → Int → Int → Option (S_api_Tree × Int × Int))) (a0 : (List (List Int))) (a1 : Zn) (a2 : Int) (a3 : Int) : Option (S_api_Tree × Int × Int) :=
 (Yx a1 a0).bind fun y2 => (Yc (Qf Ya a0 a1 a2) (a3, 0, ([] : List S_api_Tree))).bind fun (z11 : ((Int × Int × (List S_api_Tree)) ⊕ (Int × (List S_api_Tree)))) => match z11 with | .inl z11 => some ((⟨1, y2, z11.2.2⟩ : S_api_Tree), z11.1, z11.2.1) | .inr z11 => some ((⟨1, y2, z11.2⟩ : S_api_Tree), z11.1, 0)
noncomputable def Z9 : Nat → (((List (List Int)) → Zn → Int → Int → Option (S_api_Tree × Int × Int)) × ((List (List Int)) → Zn → Int → Int → Option (S_api_Tree × Int × Int)))
 | 0 => ((fun _ _ _ _ => none), (fun _ _ _ _ => none))
 | k + 1 => (Xm ((Z9 k).1) ((Z9 k).2), Qi ((Z9 k).1) ((Z9 k).2))
noncomputable def Km (a0 : (List (List Int))) (a1 : Zn) (a2 : Int) (a3 : Int) : Option (S_api_Tree × Int × Int) := lim fun k => (Z9 k).1 a0 a1 a2 a3
noncomputable def Yj (a0 : (List (List Int))) (a1 : Z5) : Option (S_api_Tree × Int × Int) :=
 (Qm a1).bind fun y2 => (Qk a0 0 0).bind fun y4 => cond (y4.2 != 0) (some ((⟨0, [], []⟩ : S_api_Tree), 0, y4.2)) ((Km a0 y4.1 y2.Depth y2.Weight).bind fun y6 => cond (y6.2.2 != 0) (some ((⟨0, [], []⟩ : S_api_Tree), 0, y6.2.2)) (some (y6.1, (IntKind.i64.wrap (y2.Weight - y6.2.1)), 0)))
noncomputable def Yk (a0 : List Int) : Option (List Int) :=
 Zfl 8 ([] : List Int) a0
noncomputable def Qq (a0 : (List (List Int))) (s0_ : (Int × (List (List Int)))) : Option ((Int × (List (List Int))) ⊕ (List (List Int))) :=
 cond (decide (s0_.1 < (a0.length : Int))) ((Q3 a0 s0_.1).bind fun x4 => (Yk x4).bind fun y5 => (Q3 s0_.2 s0_.1).bind fun x6 => some (.inl ((IntKind.i64.wrap (s0_.1 + 1)), (Zjt s0_.2 s0_.1 y5)))) (some (.inr s0_.2))
noncomputable def K9 (a0 : (List (List Int))) : Option (List (List Int)) :=
 (Zfu 24 (a0.length : Int) ([] : (List Int))).bind fun l2 => (Yc (Qq a0) (0, l2)).bind fun (z9 : (List (List Int))) => some z9
structure Zk where
 segments : (List (List Int))
 size : Int
 left : Int
noncomputable def Zaf (a0 : (List (List Int))) : Option (Option Zk) :=
 (K9 a0).bind fun y2 => some (some (⟨y2, 0, 0⟩ : Zk))
noncomputable def Kh (a0 : (Option Zk)) : Option Int :=
 cond (Option.isNone a0) (some 0) ((a0).bind fun x4 => some (x4.segments.length : Int))
noncomputable def X3 (a0 : (Option Zk)) (a1 : Int) : Option Bool :=
 (cond (decide (0 ≤ a1)) ((Kh a0).bind fun y4 => some (cond (decide (0 ≤ a1)) (decide (a1 < y4)) false)) (some false)).bind fun (z2 : Bool) => some z2
noncomputable def X9 (a0 : (Option Zk)) (a1 : Int) : Option Int :=
 (X3 a0 a1).bind fun y2 => cond (!y2) (some 0) ((a0).bind fun x5 => (Q3 x5.segments a1).bind fun x6 => some (x6.length : Int))
noncomputable def Xy (a0 : (Option Zk)) (a1 : Int) (a2 : Int) (a3 : Int) : Option Bool :=
 ((X3 a0 a1).bind fun y8 => cond y8 (cond (decide (0 ≤ a2)) (cond (decide (0 ≤ a3)) ((X9 a0 a1).bind fun y9 => cond (decide (a3 ≤ y9)) ((X9 a0 a1).bind fun y10 => some (cond (cond (cond (cond y8 (decide (0 ≤ a2)) false) (decide (0 ≤ a3)) false) (decide (a3 ≤ y9)) false) (decide (a2 ≤ (IntKind.i64.wrap (y10 - a3)))) false)) (some false)) (some false)) (some false)) (some false)).bind fun (z4 : Bool) => some z4
noncomputable def Y7 (a0 : (Option Zk)) (a1 : Int) (a2 : Int) : Option (Int × Bool) :=
 (Xy a0 a1 a2 1).bind fun y2 => cond (!y2) (some (0, false)) ((a0).bind fun x6 => (Q3 x6.segments a1).bind fun x7 => (Q3 x7 a2).bind fun x8 => some (x8, true))
noncomputable def V7 (a0 : Int) : Option Int :=
 some (IntKind.i64.wrap (Int.fdiv (IntKind.i32.wrap (IntKind.u32.wrap a0)) (2 ^ min (Int.toNat 2) 32)))
noncomputable def Y3 (a0 : Int) (a1 : Int) (a2 : Int) : Option Int :=
 (Xx (0 ≤ a1)).bind fun u3 => (Xx (0 ≤ a2)).bind fun u4 => some (IntKind.i64.wrap (IntKind.u64.wrap (K0 .u64 (Int.fdiv a0 (2 ^ min (Int.toNat a1) 64)) (IntKind.u64.wrap ((IntKind.u64.wrap (1 * 2 ^ min (Int.toNat a2) 64)) - 1)))))
noncomputable def Qd (a0 : Int) : Option Z4 :=
 cond (a0 == 0) (some (⟨0, 0, 0, 0, 0, 0, 0, false⟩ : Z4)) (cond ((IntKind.u64.wrap (K0 .u64 a0 3)) == 0) ((V7 a0).bind fun y4 => (Y3 a0 32 16).bind fun y5 => (Y3 a0 48 16).bind fun y6 => some (⟨1, y4, y5, y6, 0, 0, 0, false⟩ : Z4)) (cond ((IntKind.u64.wrap (K0 .u64 a0 3)) == 1) ((V7 a0).bind fun y10 => (Y3 a0 32 3).bind fun y11 => (Y3 a0 35 29).bind fun y12 => some (⟨2, y10, 0, 0, y11, y12, 0, false⟩ : Z4)) (cond ((IntKind.u64.wrap (K0 .u64 a0 3)) == 2) ((Y3 a0 3 29).bind fun y15 => (Y3 a0 32 32).bind fun y16 => some (⟨3, y15, 0, 0, 0, 0, y16, ((IntKind.u64.wrap (K0 .u64 (Int.fdiv a0 (2 ^ min (Int.toNat 2) 64)) 1)) == 1)⟩ : Z4)) (some (⟨4, 0, 0, 0, 0, 0, 0, false⟩ : Z4)))))
noncomputable def Qw (a0 : (Option Zk)) (a1 : Int) (a2 : Int) (a3 : Int) : Option ((List Int) × Bool) :=
 (Xy a0 a1 a2 a3).bind fun y2 => cond (!y2) (some (([] : (List Int)), false)) ((a0).bind fun x7 => (Q3 x7.segments a1).bind fun x8 => (Zdb x8 a2 (IntKind.i64.wrap (a2 + a3))).bind fun l9 => (Yk l9).bind fun y10 => some (y10, true))
noncomputable def Gb (a0 : Int) : Option Int :=
 ((some (⟨[0, 1, 8, 16, 32, 64, 64], rfl⟩ : (Arr Int 7)))).bind fun y6 => ((some (⟨[0, 0, 0, 0, 0, 0, 0], rfl⟩ : (Arr Int 7)))).bind fun y8 => (Q3 y6.1 a0).bind fun x12 => some x12
noncomputable def Kb (a0 : Z4) : Option (Int × Bool) :=
 cond (a0.Kind == 1) (some ((IntKind.i64.wrap (a0.Data + a0.Ptrs)), true)) (cond (cond (a0.Kind == 2) (a0.Code == 7) false) (some ((IntKind.i64.wrap (a0.Count + 1)), true)) (cond (cond (cond (cond (cond (a0.Kind == 2) (decide (0 ≤ a0.Code)) false) (decide (a0.Code < 7)) false) (decide (0 ≤ a0.Count)) false) (decide (a0.Count ≤ 536870911)) false) ((Gb a0.Code).bind fun y2 => some ((IntKind.i64.wrap (Int.tdiv (IntKind.i64.wrap ((IntKind.i64.wrap (a0.Count * y2)) + 63)) 64)), true)) (some (0, false))))
structure Yo where
 P : Z4
 Segment : Int
 At : Int
noncomputable def Jz (a0 : (Option Zk)) (a1 : Z4) (a2 : Int) (a3 : Int) : Option (Yo × Int) :=
 cond (a1.Kind == 4) (some ((⟨⟨0, 0, 0, 0, 0, 0, 0, false⟩, 0, 0⟩ : Yo), 9)) ((Kb a1).bind fun y2 => cond (!y2.2) (some ((⟨⟨0, 0, 0, 0, 0, 0, 0, false⟩, 0, 0⟩ : Yo), 8)) ((Xy a0 a2 a3 y2.1).bind fun y4 => cond (!y4) (some ((⟨⟨0, 0, 0, 0, 0, 0, 0, false⟩, 0, 0⟩ : Yo), 7)) (some ((⟨⟨a1.Kind, 0, a1.Data, a1.Ptrs, a1.Code, a1.Count, a1.Segment, a1.Double⟩, a2, a3⟩ : Yo), 0))))
noncomputable def V5 (a0 : (Option Zk)) (a1 : Int) (a2 : Int) : Option (Yo × Int) :=
 (Qw a0 a1 a2 2).bind fun y2 => cond (!y2.2) (some ((⟨⟨0, 0, 0, 0, 0, 0, 0, false⟩, 0, 0⟩ : Yo), 7)) ((Q3 y2.1 0).bind fun x3 => (Qd x3).bind fun y4 => (Q3 y2.1 1).bind fun x5 => (Qd x5).bind fun y6 => cond (cond (y4.Kind != 3) true y4.Double) (some ((⟨⟨0, 0, 0, 0, 0, 0, 0, false⟩, 0, 0⟩ : Yo), 8)) (cond (cond (y6.Kind != 4) (y6.Off != 0) false) (some ((⟨⟨0, 0, 0, 0, 0, 0, 0, false⟩, 0, 0⟩ : Yo), 8)) ((Jz a0 y6 y4.Segment y4.Off).bind fun y8 => some (y8.1, y8.2))))
noncomputable def V6 (a0 : (Option Zk)) (a1 : Int) (a2 : Int) : Option (Yo × Int) :=
 (Y7 a0 a1 a2).bind fun y2 => cond (!y2.2) (some ((⟨⟨0, 0, 0, 0, 0, 0, 0, false⟩, 0, 0⟩ : Yo), 7)) ((Qd y2.1).bind fun y4 => (Jz a0 y4 a1 (IntKind.i64.wrap ((IntKind.i64.wrap (a2 + 1)) + y4.Off))).bind fun y6 => some (y6.1, y6.2))
noncomputable def V4 (a0 : (Option Zk)) (a1 : Int) (a2 : Int) : Option (Yo × Int) :=
 (Y7 a0 a1 a2).bind fun y2 => cond (!y2.2) (some ((⟨⟨0, 0, 0, 0, 0, 0, 0, false⟩, 0, 0⟩ : Yo), 7)) ((Qd y2.1).bind fun y4 => cond (y4.Kind == 0) (some ((⟨⟨0, 0, 0, 0, 0, 0, 0, false⟩, 0, 0⟩ : Yo), 0)) (cond (cond (y4.Kind == 3) y4.Double false) ((V5 a0 y4.Segment y4.Off).bind fun y6 => some (y6.1, y6.2)) (cond (y4.Kind == 3) ((V6 a0 y4.Segment y4.Off).bind fun y8 => some (y8.1, y8.2)) ((Jz a0 y4 a1 (IntKind.i64.wrap ((IntKind.i64.wrap (a2 + 1)) + y4.Off))).bind fun y10 => some (y10.1, y10.2)))))
structure Zd where
 a : (Option Zk)
 kind : Int
 segment : Int
 at_ : Int
 words : Int
 ptrs : Int
 count : Int
 code : Int
 index : Int
noncomputable def J0 (a0 : Zd) : Option (Zd × Int) :=
 (Y7 a0.a a0.segment a0.at_).bind fun y2 => (Qd y2.1).bind fun y4 => cond (cond (cond (cond (y4.Kind != 0) (y4.Kind != 1) false) true (decide (y4.Off < 0))) true (decide (a0.count < (IntKind.i64.wrap (y4.Off * (IntKind.i64.wrap (y4.Data + y4.Ptrs))))))) (some ((⟨(none : (Option Zk)), 0, 0, 0, 0, 0, 0, 0, 0⟩ : Zd), 8)) (some ((⟨a0.a, a0.kind, a0.segment, a0.at_, y4.Data, y4.Ptrs, y4.Off, a0.code, a0.index⟩ : Zd), 0))
noncomputable def Ko (a0 : (Option Zk)) (a1 : Int) (a2 : Int) : Option (Zd × Int) :=
 (V4 a0 a1 a2).bind fun y2 => cond (cond (y2.2 != 0) true (y2.1.P.Kind == 0)) (some ((⟨(none : (Option Zk)), 0, 0, 0, 0, 0, 0, 0, 0⟩ : Zd), y2.2)) (cond (y2.1.P.Kind == 1) (some ((⟨a0, 1, y2.1.Segment, y2.1.At, y2.1.P.Data, y2.1.P.Ptrs, 0, 0, 0⟩ : Zd), 0)) (cond (y2.1.P.Code == 7) ((J0 (⟨a0, (IntKind.i64.wrap (y2.1.P.Code + 2)), y2.1.Segment, y2.1.At, 0, 0, y2.1.P.Count, 0, 0⟩ : Zd)).bind fun y4 => some (y4.1, y4.2)) (some ((⟨a0, (IntKind.i64.wrap (y2.1.P.Code + 2)), y2.1.Segment, y2.1.At, 0, 0, y2.1.P.Count, 0, 0⟩ : Zd), 0))))
noncomputable def Va (a0 : (Option Zk)) : Option (Zd × Int) :=
 (Ko a0 0 0).bind fun y2 => some (y2.1, y2.2)
noncomputable def Ym (a0 : (List (List Int))) : Option Zd :=
 (Zaf a0).bind fun y3 => (Va y3).bind fun y4 => some y4.1
noncomputable def Ys (a0 : Zd) : Option Int :=
 some a0.kind
noncomputable def Qb (a0 : Zd) : Option Int :=
 cond (a0.kind == 1) (some a0.words) (cond (a0.kind == 10) (some 1) (some 0))
noncomputable def Kx (a0 : Int) : Option (Int × Bool) :=
 ((some (⟨[0, 1, 8, 16, 32, 64], rfl⟩ : (Arr Int 6)))).bind fun y6 => ((some (⟨[0, 0, 0, 0, 0, 0], rfl⟩ : (Arr Int 6)))).bind fun y8 => cond (cond (decide (a0 < 0)) true (decide (6 ≤ a0))) (some (0, false)) ((Q3 y6.1 a0).bind fun x12 => some (x12, true))
noncomputable def Zag (a0 : (List Int)) (a1 : Int) (a2 : Int) : Option Int :=
 (Kx a1).bind fun y2 => cond (cond (y2.1 == 0) true (decide (a2 < 0))) (some 0) ((Xx (y2.1 ≠ 0)).bind fun u4 => (Xx ((IntKind.i64.wrap (Int.tdiv 64 y2.1)) ≠ 0)).bind fun u6 => cond (decide ((a0.length : Int) ≤ (IntKind.i64.wrap (Int.tdiv a2 (IntKind.i64.wrap (Int.tdiv 64 y2.1)))))) (some 0) ((Xx ((IntKind.i64.wrap (Int.tdiv 64 y2.1)) ≠ 0)).bind fun u12 => (Q3 a0 (IntKind.i64.wrap (Int.tdiv a2 (IntKind.i64.wrap (Int.tdiv 64 y2.1))))).bind fun x13 => (Xx ((IntKind.i64.wrap (Int.tdiv 64 y2.1)) ≠ 0)).bind fun u14 => (Xx (0 ≤ (IntKind.i64.wrap ((Int.tmod a2 (IntKind.i64.wrap (Int.tdiv 64 y2.1))) * y2.1)))).bind fun u15 => (Xx (0 ≤ y2.1)).bind fun u16 => some (IntKind.u64.wrap (K0 .u64 (Int.fdiv x13 (2 ^ min (Int.toNat (IntKind.i64.wrap ((Int.tmod a2 (IntKind.i64.wrap (Int.tdiv 64 y2.1))) * y2.1))) 64)) (IntKind.u64.wrap ((IntKind.u64.wrap (1 * 2 ^ min (Int.toNat y2.1) 64)) - 1))))))
noncomputable def Qn (a0 : Zd) : Option Int :=
 (Kx a0.code).bind fun y2 => cond (y2.1 == 0) (some 0) ((Xx (y2.1 ≠ 0)).bind fun u4 => (Xx ((IntKind.i64.wrap (Int.tdiv 64 y2.1)) ≠ 0)).bind fun u7 => (Y7 a0.a a0.segment (IntKind.i64.wrap (a0.at_ + (IntKind.i64.wrap (Int.tdiv a0.index (IntKind.i64.wrap (Int.tdiv 64 y2.1))))))).bind fun y8 => (Xx ((IntKind.i64.wrap (Int.tdiv 64 y2.1)) ≠ 0)).bind fun u11 => (Zag ([y8.1] : List Int) a0.code (Int.tmod a0.index (IntKind.i64.wrap (Int.tdiv 64 y2.1)))).bind fun y12 => some y12)
noncomputable def X0 (a0 : Zd) (a1 : Int) : Option Int :=
 (cond (decide (a1 < 0)) (some true) ((Qb a0).bind fun y4 => some (cond (decide (a1 < 0)) true (decide (y4 ≤ a1))))).bind fun (z2 : Bool) => cond z2 (some 0) (cond (a0.kind == 10) ((Qn a0).bind fun y7 => some y7) ((Y7 a0.a a0.segment (IntKind.i64.wrap (a0.at_ + a1))).bind fun y9 => some y9.1))
noncomputable def V2 (a0 : Zd) (s0_ : Int) : Option (Int ⊕ Int) :=
 (cond (decide (0 < s0_)) ((X0 a0 (IntKind.i64.wrap (s0_ - 1))).bind fun y6 => some (cond (decide (0 < s0_)) (y6 == 0) false)) (some false)).bind fun (z4 : Bool) => cond z4 (some (.inl (IntKind.i64.wrap (s0_ - 1)))) (some (.inr s0_))
noncomputable def Vt (a0 : Zd) : Option Int :=
 (Qb a0).bind fun y2 => (Yc (V2 a0) y2).bind fun (z9 : Int) => some z9
noncomputable def Qg (a0 : Zd) (a1 : Zd) (y2 : Int) (s0_ : Int) : Option (Int ⊕ (Unit ⊕ Unit)) :=
 cond (decide (s0_ < y2)) ((X0 a0 s0_).bind fun y7 => (X0 a1 s0_).bind fun y8 => cond (y7 != y8) (some (.inr (.inl ()))) (some (.inl (IntKind.i64.wrap (s0_ + 1))))) (some (.inr (.inr ())))
noncomputable def Ja (a0 : Zd) (a1 : Zd) : Option Bool :=
 (Vt a0).bind fun y2 => (Vt a1).bind fun y4 => cond (y4 != y2) (some false) ((Yc (Qg a0 a1 y2) 0).bind fun (z11 : (Unit ⊕ Unit)) => match z11 with | .inl z11 => some false | .inr z11 => some true)
noncomputable def Xz (a0 : Zd) : Option Int :=
 cond (a0.kind == 1) (some a0.ptrs) (some a0.count)
noncomputable def Qa (a0 : Zd) (a1 : Int) : Option (Zd × Int) :=
 (cond (decide (a1 < 0)) (some true) ((Xz a0).bind fun y4 => some (cond (decide (a1 < 0)) true (decide (y4 ≤ a1))))).bind fun (z2 : Bool) => cond z2 (some ((⟨(none : (Option Zk)), 0, 0, 0, 0, 0, 0, 0, 0⟩ : Zd), 0)) (cond (a0.kind == 1) ((Ko a0.a a0.segment (IntKind.i64.wrap ((IntKind.i64.wrap (a0.at_ + a0.words)) + a1))).bind fun y7 => some (y7.1, y7.2)) (cond (a0.kind == 8) ((Ko a0.a a0.segment (IntKind.i64.wrap (a0.at_ + a1))).bind fun y9 => some (y9.1, y9.2)) (cond (a0.kind == 9) (some ((⟨a0.a, 1, a0.segment, (IntKind.i64.wrap ((IntKind.i64.wrap (a0.at_ + 1)) + (IntKind.i64.wrap (a1 * (IntKind.i64.wrap (a0.words + a0.ptrs)))))), a0.words, a0.ptrs, 0, 0, 0⟩ : Zd), 0)) (some ((⟨a0.a, 10, a0.segment, a0.at_, 0, 0, 0, (IntKind.i64.wrap (a0.kind - 2)), a1⟩ : Zd), 0)))))
noncomputable def V3 (a0 : Zd) (s0_ : Int) : Option (Int ⊕ ((Int × Int) ⊕ Unit)) :=
 cond (decide (0 < s0_)) ((Qa a0 (IntKind.i64.wrap (s0_ - 1))).bind fun y4 => (cond (y4.2 != 0) (some true) ((Ys y4.1).bind fun y8 => some (cond (y4.2 != 0) true (y8 != 0)))).bind fun (z6 : Bool) => cond z6 (some (.inr (.inl (s0_, y4.2)))) (some (.inl (IntKind.i64.wrap (s0_ - 1))))) (some (.inr (.inr ())))
noncomputable def Ga (a0 : Zd) : Option (Int × Int) :=
 (Xz a0).bind fun y2 => (Yc (V3 a0) y2).bind fun (z12 : ((Int × Int) ⊕ Unit)) => match z12 with | .inl z12 => some (z12.1, z12.2) | .inr z12 => some (0, 0)
noncomputable def Kw (a0 : Zd) : Option (Int × Int) :=
 (Ys a0).bind fun y2 => cond (y2 != 1) ((Xz a0).bind fun y4 => some (y4, 0)) ((Ga a0).bind fun y6 => cond (y6.2 != 0) (some (0, y6.2)) (some (y6.1, 0)))
structure Zh where
 left : Int
noncomputable def Yp (Yd : (Zh → Zd → Zd → Option (Bool × Int × Zh))) (Yg : (Zh → Zd → Zd → Int → Option (Bool × Int × Zh))) (a0 : Zh) (a1 : Zd) (a2 : Zd) : Option (Bool × Int × Zh) :=
 cond (a0.left == 0) (some (false, 3, a0)) (((Ys a1).bind fun y8 => (Ys a2).bind fun y9 => cond (y8 != y9) (some true) ((Ja a1 a2).bind fun y10 => some (cond (y8 != y9) true (!y10)))).bind fun (z4 : Bool) => cond z4 (some (false, 0, (⟨(IntKind.i64.wrap (a0.left - 1))⟩ : Zh))) ((Kw a1).bind fun y13 => cond (y13.2 != 0) (some (false, y13.2, (⟨(IntKind.i64.wrap (a0.left - 1))⟩ : Zh))) ((Kw a2).bind fun y15 => cond (cond (y15.2 != 0) true (y13.1 != y15.1)) (some (false, y15.2, (⟨(IntKind.i64.wrap (a0.left - 1))⟩ : Zh))) ((Yg (⟨(IntKind.i64.wrap (a0.left - 1))⟩ : Zh) a1 a2 y13.1).bind fun y17 => some (y17.1, y17.2.1, y17.2.2)))))
noncomputable def Ye (Yd : (Zh → Zd → Zd → Option (Bool × Int × Zh))) (a1 : Zd) (a2 : Zd) (a3 : Int) (s0_ : (Int × Int)) : Option ((Int × Int) ⊕ ((Int × Int) ⊕ Int)) :=
 cond (decide (s0_.1 < a3)) ((Qa a1 s0_.1).bind fun y2 => cond (y2.2 != 0) (some (.inr (.inl (y2.2, s0_.2)))) ((Qa a2 s0_.1).bind fun y4 => cond (y4.2 != 0) (some (.inr (.inl (y4.2, s0_.2)))) ((Yd (⟨s0_.2⟩ : Zh) y2.1 y4.1).bind fun y6 => cond (cond (!y6.1) true (y6.2.1 != 0)) (some (.inr (.inl (y6.2.1, y6.2.2.left)))) (some (.inl ((IntKind.i64.wrap (s0_.1 + 1)), y6.2.2.left)))))) (some (.inr (.inr s0_.2)))
noncomputable def Yf (Yd : (Zh → Zd → Zd → Option (Bool × Int × Zh))) (Yg : (Zh → Zd → Zd → Int → Option (Bool × Int × Zh))) (a0 : Zh) (a1 : Zd) (a2 : Zd) (a3 : Int) : Option (Bool × Int × Zh) :=
 (Yc (Ye Yd a1 a2 a3) (0, a0.left)).bind fun (z11 : ((Int × Int) ⊕ Int)) => match z11 with | .inl z11 => some (false, z11.1, (⟨z11.2⟩ : Zh)) | .inr z11 => some (true, 0, (⟨z11⟩ : Zh))
noncomputable def Zq : Nat → ((Zh → Zd → Zd → Option (Bool × Int × Zh)) × (Zh → Zd → Zd → Int → Option (Bool × Int × Zh)))
 | 0 => ((fun _ _ _ => none), (fun _ _ _ _ => none))
 | k + 1 => (Yp ((Zq k).1) ((Zq k).2), Yf ((Zq k).1) ((Zq k).2))
noncomputable def Kg (a0 : Zh) (a1 : Zd) (a2 : Zd) : Option (Bool × Int × Zh) := lim fun k => (Zq k).1 a0 a1 a2
noncomputable def Xb (a0 : Zd) (a1 : Zd) : Option (Bool × Int) :=
 (Kg (⟨65537⟩ : Zh) a0 a1).bind fun y2 => some (y2.1, y2.2.1)
noncomputable def Xa  : Option Bool :=
 (Ym ([([4294967296, 7] : List Int)] : List (List Int))).bind fun y4 => (Ym ([([8589934592, 7, 0] : List Int)] : List (List Int))).bind fun y5 => (Xb y4 y5).bind fun y6 => (Ym ([([4294967296, 7] : List Int)] : List (List Int))).bind fun y10 => (Ym ([([4294967296, 8] : List Int)] : List (List Int))).bind fun y11 => (Xb y10 y11).bind fun y12 => some (cond (cond (cond y6.1 (y6.2 == 0) false) (!y12.1) false) (y12.2 == 0) false)
noncomputable def Qo (a0 : (List (List Int))) (a1 : (List (List Int))) (a2 : (List (List Int))) (a3 : Z5) : Option Bool :=
 (Qx a3).bind fun y2 => (Yj a0 y2).bind fun y4 => (Yj a1 y2).bind fun y6 => (Yj a2 y2).bind fun y8 => cond (cond (cond (y4.2.2 != 0) true (y6.2.2 != 0)) true (y8.2.2 != 0)) ((Xa).bind fun y10 => some y10) ((Ym a0).bind fun y14 => (Ym a1).bind fun y15 => (Ym a2).bind fun y16 => (Xb y14 y14).bind fun y18 => (Xb y14 y15).bind fun y20 => (Xb y15 y14).bind fun y22 => (Xb y15 y16).bind fun y24 => (Xb y14 y16).bind fun y26 => (cond y18.1 (cond (y20.1 == y22.1) (cond y20.1 (cond y24.1 (cond y26.1 (cond (y24.1 == y26.1) ((Xa).bind fun y34 => some (cond (cond (cond (cond y18.1 (y20.1 == y22.1) false) (cond (cond (!y20.1) true (!y24.1)) true y26.1) false) (cond (!y20.1) true (y24.1 == y26.1)) false) y34 false)) (some false)) (some false)) (cond (y24.1 == y26.1) ((Xa).bind fun y35 => some (cond (cond (cond (cond y18.1 (y20.1 == y22.1) false) (cond (cond (!y20.1) true (!y24.1)) true y26.1) false) (cond (!y20.1) true (y24.1 == y26.1)) false) y35 false)) (some false))) ((Xa).bind fun y36 => some (cond (cond (cond (cond y18.1 (y20.1 == y22.1) false) (cond (cond (!y20.1) true (!y24.1)) true y26.1) false) (cond (!y20.1) true (y24.1 == y26.1)) false) y36 false))) (some false)) (some false)).bind fun (z30 : Bool) => some z30)
end Go.Proofs.Ytmlhokaflhlhbaa
