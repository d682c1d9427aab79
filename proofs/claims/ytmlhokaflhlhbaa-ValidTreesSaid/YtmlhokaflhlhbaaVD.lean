/- Part VD of this seat's mirrors: functions of the seat's program, and the plain functions that they are; each theorem bears its own conditions. -/
import Derived.Test.YtmlhokaflhlhbaaH25
namespace Go.Proofs.Ytmlhokaflhlhbaa
open Go.RowKit
set_option linter.unusedVariables false
set_option linter.unusedSimpArgs false
set_option maxRecDepth 100000
set_option maxHeartbeats 4000000
noncomputable def Yo (a0 : List Int) : Option (List Int) :=
 Zii 8 ([] : List Int) a0
noncomputable def Jp (a0 : (List (List Int))) (s0_ : (Int × (List (List Int)))) : Option ((Int × (List (List Int))) ⊕ (List (List Int))) :=
 cond (decide (s0_.1 < (a0.length : Int))) ((Jm a0 s0_.1).bind fun x4 => (Yo x4).bind fun y5 => (Jm s0_.2 s0_.1).bind fun x6 => some (.inl ((IntKind.i64.wrap (s0_.1 + 1)), (Zno s0_.2 s0_.1 y5)))) (some (.inr s0_.2))
noncomputable def Uj (a0 : (List (List Int))) : Option (List (List Int)) :=
 (Zjg 24 (a0.length : Int) ([] : (List Int))).bind fun l2 => (Yj (Jp a0) (0, l2)).bind fun (z9 : (List (List Int))) => some z9
structure Zj where
 segments : (List (List Int))
 size : Int
 left : Int
noncomputable def Gx (a0 : (List (List Int))) : Option (Option Zj) :=
 (Uj a0).bind fun y2 => some (some (⟨y2, 0, 0⟩ : Zj))
noncomputable def Vt (a0 : (Option Zj)) : Option Int :=
 cond (Option.isNone a0) (some 0) ((a0).bind fun x4 => some (x4.segments.length : Int))
noncomputable def Qb (a0 : (Option Zj)) (a1 : Int) : Option Bool :=
 (cond (decide (0 ≤ a1)) ((Vt a0).bind fun y4 => some (cond (decide (0 ≤ a1)) (decide (a1 < y4)) false)) (some false)).bind fun (z2 : Bool) => some z2
noncomputable def Qo (a0 : (Option Zj)) (a1 : Int) : Option Int :=
 (Qb a0 a1).bind fun y2 => cond (!y2) (some 0) ((a0).bind fun x5 => (Jm x5.segments a1).bind fun x6 => some (x6.length : Int))
noncomputable def X5 (a0 : (Option Zj)) (a1 : Int) (a2 : Int) (a3 : Int) : Option Bool :=
 ((Qb a0 a1).bind fun y8 => cond y8 (cond (decide (0 ≤ a2)) (cond (decide (0 ≤ a3)) ((Qo a0 a1).bind fun y9 => cond (decide (a3 ≤ y9)) ((Qo a0 a1).bind fun y10 => some (cond (cond (cond (cond y8 (decide (0 ≤ a2)) false) (decide (0 ≤ a3)) false) (decide (a3 ≤ y9)) false) (decide (a2 ≤ (IntKind.i64.wrap (y10 - a3)))) false)) (some false)) (some false)) (some false)) (some false)).bind fun (z4 : Bool) => some z4
noncomputable def X4 (a0 : (Option Zj)) (a1 : Int) (a2 : Int) : Option (Int × Bool) :=
 (X5 a0 a1 a2 1).bind fun y2 => cond (!y2) (some (0, false)) ((a0).bind fun x6 => (Jm x6.segments a1).bind fun x7 => (Jm x7 a2).bind fun x8 => some (x8, true))
noncomputable def Gg (a0 : Int) : Option Int :=
 some (IntKind.i64.wrap (Int.fdiv (IntKind.i32.wrap (IntKind.u32.wrap a0)) (2 ^ min (Int.toNat 2) 32)))
noncomputable def Y3 (a0 : Int) (a1 : Int) (a2 : Int) : Option Int :=
 (Ga (0 ≤ a1)).bind fun u3 => (Ga (0 ≤ a2)).bind fun u4 => some (IntKind.i64.wrap (IntKind.u64.wrap (Zat .u64 (Int.fdiv a0 (2 ^ min (Int.toNat a1) 64)) (IntKind.u64.wrap ((IntKind.u64.wrap (1 * 2 ^ min (Int.toNat a2) 64)) - 1)))))
structure Z7 where
 Kind : Int
 Off : Int
 Data : Int
 Ptrs : Int
 Code : Int
 Count : Int
 Segment : Int
 Double : Bool
noncomputable def Qv (a0 : Int) : Option Z7 :=
 cond (a0 == 0) (some (⟨0, 0, 0, 0, 0, 0, 0, false⟩ : Z7)) (cond ((IntKind.u64.wrap (Zat .u64 a0 3)) == 0) ((Gg a0).bind fun y4 => (Y3 a0 32 16).bind fun y5 => (Y3 a0 48 16).bind fun y6 => some (⟨1, y4, y5, y6, 0, 0, 0, false⟩ : Z7)) (cond ((IntKind.u64.wrap (Zat .u64 a0 3)) == 1) ((Gg a0).bind fun y10 => (Y3 a0 32 3).bind fun y11 => (Y3 a0 35 29).bind fun y12 => some (⟨2, y10, 0, 0, y11, y12, 0, false⟩ : Z7)) (cond ((IntKind.u64.wrap (Zat .u64 a0 3)) == 2) ((Y3 a0 3 29).bind fun y15 => (Y3 a0 32 32).bind fun y16 => some (⟨3, y15, 0, 0, 0, 0, y16, ((IntKind.u64.wrap (Zat .u64 (Int.fdiv a0 (2 ^ min (Int.toNat 2) 64)) 1)) == 1)⟩ : Z7)) (some (⟨4, 0, 0, 0, 0, 0, 0, false⟩ : Z7)))))
noncomputable def Jy (a0 : (Option Zj)) (a1 : Int) (a2 : Int) (a3 : Int) : Option ((List Int) × Bool) :=
 (X5 a0 a1 a2 a3).bind fun y2 => cond (!y2) (some (([] : (List Int)), false)) ((a0).bind fun x7 => (Jm x7.segments a1).bind fun x8 => (Zgy x8 a2 (IntKind.i64.wrap (a2 + a3))).bind fun l9 => (Yo l9).bind fun y10 => some (y10, true))
noncomputable def Zaw (a0 : Int) : Option Int :=
 ((some (⟨[0, 1, 8, 16, 32, 64, 64], rfl⟩ : (Arr Int 7)))).bind fun y6 => ((some (⟨[0, 0, 0, 0, 0, 0, 0], rfl⟩ : (Arr Int 7)))).bind fun y8 => (Jm y6.1 a0).bind fun x12 => some x12
noncomputable def Vp (a0 : Z7) : Option (Int × Bool) :=
 cond (a0.Kind == 1) (some ((IntKind.i64.wrap (a0.Data + a0.Ptrs)), true)) (cond (cond (a0.Kind == 2) (a0.Code == 7) false) (some ((IntKind.i64.wrap (a0.Count + 1)), true)) (cond (cond (cond (cond (cond (a0.Kind == 2) (decide (0 ≤ a0.Code)) false) (decide (a0.Code < 7)) false) (decide (0 ≤ a0.Count)) false) (decide (a0.Count ≤ 536870911)) false) ((Zaw a0.Code).bind fun y2 => some ((IntKind.i64.wrap (Int.tdiv (IntKind.i64.wrap ((IntKind.i64.wrap (a0.Count * y2)) + 63)) 64)), true)) (some (0, false))))
structure Ys where
 P : Z7
 Segment : Int
 At : Int
noncomputable def Vk (a0 : (Option Zj)) (a1 : Z7) (a2 : Int) (a3 : Int) : Option (Ys × Int) :=
 cond (a1.Kind == 4) (some ((⟨⟨0, 0, 0, 0, 0, 0, 0, false⟩, 0, 0⟩ : Ys), 9)) ((Vp a1).bind fun y2 => cond (!y2.2) (some ((⟨⟨0, 0, 0, 0, 0, 0, 0, false⟩, 0, 0⟩ : Ys), 8)) ((X5 a0 a2 a3 y2.1).bind fun y4 => cond (!y4) (some ((⟨⟨0, 0, 0, 0, 0, 0, 0, false⟩, 0, 0⟩ : Ys), 7)) (some ((⟨⟨a1.Kind, 0, a1.Data, a1.Ptrs, a1.Code, a1.Count, a1.Segment, a1.Double⟩, a2, a3⟩ : Ys), 0))))
noncomputable def Ge (a0 : (Option Zj)) (a1 : Int) (a2 : Int) : Option (Ys × Int) :=
 (Jy a0 a1 a2 2).bind fun y2 => cond (!y2.2) (some ((⟨⟨0, 0, 0, 0, 0, 0, 0, false⟩, 0, 0⟩ : Ys), 7)) ((Jm y2.1 0).bind fun x3 => (Qv x3).bind fun y4 => (Jm y2.1 1).bind fun x5 => (Qv x5).bind fun y6 => cond (cond (y4.Kind != 3) true y4.Double) (some ((⟨⟨0, 0, 0, 0, 0, 0, 0, false⟩, 0, 0⟩ : Ys), 8)) (cond (cond (y6.Kind != 4) (y6.Off != 0) false) (some ((⟨⟨0, 0, 0, 0, 0, 0, 0, false⟩, 0, 0⟩ : Ys), 8)) ((Vk a0 y6 y4.Segment y4.Off).bind fun y8 => some (y8.1, y8.2))))
noncomputable def Gf (a0 : (Option Zj)) (a1 : Int) (a2 : Int) : Option (Ys × Int) :=
 (X4 a0 a1 a2).bind fun y2 => cond (!y2.2) (some ((⟨⟨0, 0, 0, 0, 0, 0, 0, false⟩, 0, 0⟩ : Ys), 7)) ((Qv y2.1).bind fun y4 => (Vk a0 y4 a1 (IntKind.i64.wrap ((IntKind.i64.wrap (a2 + 1)) + y4.Off))).bind fun y6 => some (y6.1, y6.2))
noncomputable def Gd (a0 : (Option Zj)) (a1 : Int) (a2 : Int) : Option (Ys × Int) :=
 (X4 a0 a1 a2).bind fun y2 => cond (!y2.2) (some ((⟨⟨0, 0, 0, 0, 0, 0, 0, false⟩, 0, 0⟩ : Ys), 7)) ((Qv y2.1).bind fun y4 => cond (y4.Kind == 0) (some ((⟨⟨0, 0, 0, 0, 0, 0, 0, false⟩, 0, 0⟩ : Ys), 0)) (cond (cond (y4.Kind == 3) y4.Double false) ((Ge a0 y4.Segment y4.Off).bind fun y6 => some (y6.1, y6.2)) (cond (y4.Kind == 3) ((Gf a0 y4.Segment y4.Off).bind fun y8 => some (y8.1, y8.2)) ((Vk a0 y4 a1 (IntKind.i64.wrap ((IntKind.i64.wrap (a2 + 1)) + y4.Off))).bind fun y10 => some (y10.1, y10.2)))))
structure Zd where
 a : (Option Zj)
 kind : Int
 segment : Int
 at_ : Int
 words : Int
 ptrs : Int
 count : Int
 code : Int
 index : Int
noncomputable def Vm (a0 : Zd) : Option (Zd × Int) :=
 (X4 a0.a a0.segment a0.at_).bind fun y2 => (Qv y2.1).bind fun y4 => cond (cond (cond (cond (y4.Kind != 0) (y4.Kind != 1) false) true (decide (y4.Off < 0))) true (decide (a0.count < (IntKind.i64.wrap (y4.Off * (IntKind.i64.wrap (y4.Data + y4.Ptrs))))))) (some ((⟨(none : (Option Zj)), 0, 0, 0, 0, 0, 0, 0, 0⟩ : Zd), 8)) (some ((⟨a0.a, a0.kind, a0.segment, a0.at_, y4.Data, y4.Ptrs, y4.Off, a0.code, a0.index⟩ : Zd), 0))
noncomputable def Vx (a0 : (Option Zj)) (a1 : Int) (a2 : Int) : Option (Zd × Int) :=
 (Gd a0 a1 a2).bind fun y2 => cond (cond (y2.2 != 0) true (y2.1.P.Kind == 0)) (some ((⟨(none : (Option Zj)), 0, 0, 0, 0, 0, 0, 0, 0⟩ : Zd), y2.2)) (cond (y2.1.P.Kind == 1) (some ((⟨a0, 1, y2.1.Segment, y2.1.At, y2.1.P.Data, y2.1.P.Ptrs, 0, 0, 0⟩ : Zd), 0)) (cond (y2.1.P.Code == 7) ((Vm (⟨a0, (IntKind.i64.wrap (y2.1.P.Code + 2)), y2.1.Segment, y2.1.At, 0, 0, y2.1.P.Count, 0, 0⟩ : Zd)).bind fun y4 => some (y4.1, y4.2)) (some ((⟨a0, (IntKind.i64.wrap (y2.1.P.Code + 2)), y2.1.Segment, y2.1.At, 0, 0, y2.1.P.Count, 0, 0⟩ : Zd), 0))))
noncomputable def Uk (a0 : (Option Zj)) : Option (Zd × Int) :=
 (Vx a0 0 0).bind fun y2 => some (y2.1, y2.2)
noncomputable def Y6 (a0 : Zd) : Option Int :=
 some a0.kind
noncomputable def Yp (a0 : Zd) : Option Int :=
 cond (a0.kind == 1) (some a0.ptrs) (some a0.count)
noncomputable def Qr (a0 : Zd) (a1 : Int) : Option (Zd × Int) :=
 (cond (decide (a1 < 0)) (some true) ((Yp a0).bind fun y4 => some (cond (decide (a1 < 0)) true (decide (y4 ≤ a1))))).bind fun (z2 : Bool) => cond z2 (some ((⟨(none : (Option Zj)), 0, 0, 0, 0, 0, 0, 0, 0⟩ : Zd), 0)) (cond (a0.kind == 1) ((Vx a0.a a0.segment (IntKind.i64.wrap ((IntKind.i64.wrap (a0.at_ + a0.words)) + a1))).bind fun y7 => some (y7.1, y7.2)) (cond (a0.kind == 8) ((Vx a0.a a0.segment (IntKind.i64.wrap (a0.at_ + a1))).bind fun y9 => some (y9.1, y9.2)) (cond (a0.kind == 9) (some ((⟨a0.a, 1, a0.segment, (IntKind.i64.wrap ((IntKind.i64.wrap (a0.at_ + 1)) + (IntKind.i64.wrap (a1 * (IntKind.i64.wrap (a0.words + a0.ptrs)))))), a0.words, a0.ptrs, 0, 0, 0⟩ : Zd), 0)) (some ((⟨a0.a, 10, a0.segment, a0.at_, 0, 0, 0, (IntKind.i64.wrap (a0.kind - 2)), a1⟩ : Zd), 0)))))
noncomputable def J3 (a0 : Zd) : Option Int :=
 cond (a0.kind == 1) (some a0.words) (cond (a0.kind == 10) (some 1) (some 0))
noncomputable def Qq (a0 : Int) : Option Int :=
 cond (a0 == 0) (some 0) (cond (a0 == 1) (some 1) (cond (a0 == 2) (some 8) (cond (a0 == 3) (some 16) (cond (a0 == 4) (some 32) (cond (a0 == 5) (some 64) (some (-1)))))))
noncomputable def Yy (y2 : Int) (s0_ : (Int × Int)) : Option ((Int × Int) ⊕ Int) :=
 cond (decide (s0_.2 < y2)) (some (.inl ((IntKind.u64.wrap (Int.tdiv s0_.1 2)), (IntKind.i64.wrap (s0_.2 + 1))))) (some (.inr s0_.1))
noncomputable def Q6 (a0 : Int) (a1 : Int) : Option Bool :=
 (Qq a0).bind fun y2 => cond (decide (y2 < 0)) (some false) ((Yj (Yy y2) (a1, 0)).bind fun (z4 : Int) => some (z4 == 0))
noncomputable def Xx (a0 : (List (List Int))) (a1 : Int) (a2 : Int) : Option Bool :=
 (cond (decide (0 ≤ a1)) (cond (decide (a1 < (a0.length : Int))) (cond (decide (0 ≤ a2)) ((Jm a0 a1).bind fun x4 => some (cond (cond (cond (decide (0 ≤ a1)) (decide (a1 < (a0.length : Int))) false) (decide (0 ≤ a2)) false) (decide (a2 < (x4.length : Int))) false)) (some false)) (some false)) (some false)).bind fun (z2 : Bool) => some z2
noncomputable def J6 (a1 : Int) (s0_ : (Int × Int)) : Option ((Int × Int) ⊕ Int) :=
 cond (decide (s0_.2 < a1)) (some (.inl ((IntKind.u64.wrap (Int.tdiv s0_.1 2)), (IntKind.i64.wrap (s0_.2 + 1))))) (some (.inr s0_.1))
noncomputable def J7 (a2 : Int) (s1_ : (Int × Int × Int × Int)) : Option ((Int × Int × Int × Int) ⊕ Int) :=
 cond (decide (s1_.2.2.2 < a2)) ((cond ((Int.tmod s1_.1 2) == 1) (some (IntKind.i64.wrap (s1_.2.1 + s1_.2.2.1))) (some s1_.2.1)).bind fun (z3 : Int) => some (.inl ((IntKind.u64.wrap (Int.tdiv s1_.1 2)), z3, (IntKind.i64.wrap (2 * s1_.2.2.1)), (IntKind.i64.wrap (s1_.2.2.2 + 1))))) (some (.inr s1_.2.1))
noncomputable def Z0 (a0 : Int) (a1 : Int) (a2 : Int) : Option Int :=
 (Yj (J6 a1) (a0, 0)).bind fun (z2 : Int) => (Yj (J7 a2) (z2, 0, 1, 0)).bind fun (z6 : Int) => some z6
noncomputable def Ym (a0 : Int) : Option Z7 :=
 cond (a0 == 0) (some (⟨0, 0, 0, 0, 0, 0, 0, false⟩ : Z7)) ((Z0 a0 2 30).bind fun y2 => (cond (decide (536870912 ≤ y2)) (some (IntKind.i64.wrap (y2 - 1073741824))) (some y2)).bind fun (z3 : Int) => (Z0 a0 0 2).bind fun y6 => cond (y6 == 0) ((Z0 a0 32 16).bind fun y9 => (Z0 a0 48 16).bind fun y10 => some (⟨1, z3, y9, y10, 0, 0, 0, false⟩ : Z7)) (cond (y6 == 1) ((Z0 a0 32 3).bind fun y13 => (Z0 a0 35 29).bind fun y14 => some (⟨2, z3, 0, 0, y13, y14, 0, false⟩ : Z7)) (cond (y6 == 2) ((Z0 a0 3 29).bind fun y18 => (Z0 a0 32 32).bind fun y19 => (Z0 a0 2 1).bind fun y20 => some (⟨3, y18, 0, 0, 0, 0, y19, (y20 == 1)⟩ : Z7)) (some (⟨4, 0, 0, 0, 0, 0, 0, false⟩ : Z7)))))
noncomputable def Xo (a0 : Z7) : Option Int :=
 cond (a0.Kind == 4) (some 9) (cond (cond (a0.Kind != 1) (a0.Kind != 2) false) (some 8) (some 0))
noncomputable def J0 (a0 : Z7) : Option Int :=
 cond (a0.Kind == 1) (some (IntKind.i64.wrap (a0.Data + a0.Ptrs))) (cond (a0.Kind != 2) (some (-1)) (cond (a0.Code == 7) (some (IntKind.i64.wrap (a0.Count + 1))) (cond (cond (cond (cond (decide (a0.Code < 0)) true (decide (6 < a0.Code))) true (decide (a0.Count < 0))) true (decide (536870912 ≤ a0.Count))) (some (-1)) ((cond (a0.Code == 0) (some (.inr ())) (cond (a0.Code == 1) (some (.inl 64)) (cond (a0.Code == 2) (some (.inl 8)) (cond (a0.Code == 3) (some (.inl 4)) (cond (a0.Code == 4) (some (.inl 2)) (some (.inl 1))))))).bind fun (z1 : (Int ⊕ Unit)) => match z1 with | .inl z1 => (Ga (z1 ≠ 0)).bind fun u8 => cond (decide (0 < (Int.tmod a0.Count z1))) ((Ga (z1 ≠ 0)).bind fun u10 => some (IntKind.i64.wrap ((IntKind.i64.wrap (Int.tdiv a0.Count z1)) + 1))) ((Ga (z1 ≠ 0)).bind fun u12 => some (IntKind.i64.wrap (Int.tdiv a0.Count z1))) | .inr z1 => some 0))))
structure Z5 where
 P : Z7
 Segment : Int
 At : Int
noncomputable def Xp (a0 : (List (List Int))) (a1 : Z5) : Option (Z5 × Int) :=
 (J0 a1.P).bind fun y2 => (cond (decide (a1.Segment < 0)) (some true) (cond (decide ((a0.length : Int) ≤ a1.Segment)) (some true) (cond (decide (a1.At < 0)) (some true) ((Jm a0 a1.Segment).bind fun x8 => cond (decide ((x8.length : Int) < a1.At)) (some true) (some (cond (cond (cond (cond (decide (a1.Segment < 0)) true (decide ((a0.length : Int) ≤ a1.Segment))) true (decide (a1.At < 0))) true (decide ((x8.length : Int) < a1.At))) true (decide ((IntKind.i64.wrap ((x8.length : Int) - a1.At)) < y2)))))))).bind fun (z5 : Bool) => cond z5 (some ((⟨⟨0, 0, 0, 0, 0, 0, 0, false⟩, 0, 0⟩ : Z5), 7)) (some ((⟨⟨a1.P.Kind, 0, a1.P.Data, a1.P.Ptrs, a1.P.Code, a1.P.Count, a1.P.Segment, a1.P.Double⟩, a1.Segment, a1.At⟩ : Z5), 0))
noncomputable def Qe (a0 : (List (List Int))) (a1 : Int) (a2 : Int) : Option (Z5 × Int) :=
 (Xx a0 a1 a2).bind fun y2 => cond (!y2) (some ((⟨⟨0, 0, 0, 0, 0, 0, 0, false⟩, 0, 0⟩ : Z5), 7)) ((Jm a0 a1).bind fun x6 => (Jm x6 a2).bind fun x7 => (Ym x7).bind fun y8 => cond (y8.Kind == 0) (some ((⟨⟨0, 0, 0, 0, 0, 0, 0, false⟩, 0, 0⟩ : Z5), 0)) (cond (cond (y8.Kind == 3) y8.Double false) (((Xx a0 y8.Segment y8.Off).bind fun y14 => cond y14 ((Xx a0 y8.Segment (IntKind.i64.wrap (y8.Off + 1))).bind fun y15 => some (cond (!y14) true (!y15))) (some true)).bind fun (z11 : Bool) => cond z11 (some ((⟨⟨0, 0, 0, 0, 0, 0, 0, false⟩, 0, 0⟩ : Z5), 7)) ((Jm a0 y8.Segment).bind fun x17 => (Jm x17 y8.Off).bind fun x18 => (Ym x18).bind fun y19 => (Jm x17 (IntKind.i64.wrap (y8.Off + 1))).bind fun x21 => (Ym x21).bind fun y22 => cond (cond (y19.Kind != 3) true y19.Double) (some ((⟨⟨0, 0, 0, 0, 0, 0, 0, false⟩, 0, 0⟩ : Z5), 8)) ((Xo y22).bind fun y24 => (cond (cond (y24 == 0) (y22.Off != 0) false) (some 8) (some y24)).bind fun (z25 : Int) => cond (z25 != 0) (some ((⟨⟨0, 0, 0, 0, 0, 0, 0, false⟩, 0, 0⟩ : Z5), z25)) ((Xp a0 (⟨y22, y19.Segment, y19.Off⟩ : Z5)).bind fun y28 => some (y28.1, y28.2))))) ((cond (y8.Kind == 3) ((Xx a0 y8.Segment y8.Off).bind fun y34 => cond (!y34) (some (.inr ())) ((Jm a0 y8.Segment).bind fun x35 => (Jm x35 y8.Off).bind fun x36 => (Ym x36).bind fun y37 => some (.inl (y8.Segment, y8.Off, y37.Kind, y37.Off, y37.Data, y37.Ptrs, y37.Code, y37.Count, y37.Segment, y37.Double)))) (some (.inl (a1, a2, y8.Kind, y8.Off, y8.Data, y8.Ptrs, y8.Code, y8.Count, y8.Segment, y8.Double)))).bind fun (z32 : ((Int × Int × Int × Int × Int × Int × Int × Int × Int × Bool) ⊕ Unit)) => match z32 with | .inl z32 => (Xo (⟨z32.2.2.1, z32.2.2.2.1, z32.2.2.2.2.1, z32.2.2.2.2.2.1, z32.2.2.2.2.2.2.1, z32.2.2.2.2.2.2.2.1, z32.2.2.2.2.2.2.2.2.1, z32.2.2.2.2.2.2.2.2.2⟩ : Z7)).bind fun y41 => cond (y41 != 0) (some ((⟨⟨0, 0, 0, 0, 0, 0, 0, false⟩, 0, 0⟩ : Z5), y41)) ((Xp a0 (⟨⟨z32.2.2.1, z32.2.2.2.1, z32.2.2.2.2.1, z32.2.2.2.2.2.1, z32.2.2.2.2.2.2.1, z32.2.2.2.2.2.2.2.1, z32.2.2.2.2.2.2.2.2.1, z32.2.2.2.2.2.2.2.2.2⟩, z32.1, (IntKind.i64.wrap ((IntKind.i64.wrap (z32.2.1 + 1)) + z32.2.2.2.1))⟩ : Z5)).bind fun y43 => some (y43.1, y43.2)) | .inr z32 => some ((⟨⟨0, 0, 0, 0, 0, 0, 0, false⟩, 0, 0⟩ : Z5), 7))))
structure Zm where
 Kind : Int
 S : Int
 At : Int
 Data : Int
 Ptrs : Int
 Count : Int
 N : Int
noncomputable def Q9 (a0 : (List (List Int))) (a1 : Int) (a2 : Int) : Option (Zm × Int) :=
 (Qe a0 a1 a2).bind fun y2 => cond (cond (y2.2 != 0) true (y2.1.P.Kind == 0)) (some ((⟨0, 0, 0, 0, 0, 0, 0⟩ : Zm), y2.2)) (cond (y2.1.P.Kind == 1) (some ((⟨1, y2.1.Segment, y2.1.At, y2.1.P.Data, y2.1.P.Ptrs, 0, 0⟩ : Zm), 0)) (cond (decide (y2.1.P.Code < 7)) (some ((⟨(IntKind.i64.wrap (2 + y2.1.P.Code)), y2.1.Segment, y2.1.At, 0, 0, y2.1.P.Count, 0⟩ : Zm), 0)) ((Jm a0 y2.1.Segment).bind fun x5 => (Jm x5 y2.1.At).bind fun x6 => (Ym x6).bind fun y8 => cond (cond (cond (cond (x6 != 0) (y8.Kind != 1) false) true (decide (y8.Off < 0))) true (decide (y2.1.P.Count < (IntKind.i64.wrap (y8.Off * (IntKind.i64.wrap (y8.Data + y8.Ptrs))))))) (some ((⟨0, 0, 0, 0, 0, 0, 0⟩ : Zm), 8)) (some ((⟨9, y2.1.Segment, (IntKind.i64.wrap (y2.1.At + 1)), y8.Data, y8.Ptrs, y8.Off, 0⟩ : Zm), 0)))))
noncomputable def Y0 (a0 : Zm) (a1 : (List (List Int))) : Option (List Int) :=
 cond (a0.Kind == 10) (some ([a0.N] : List Int)) (cond (a0.Kind != 1) (some ([] : (List Int))) ((Jm a1 a0.S).bind fun x4 => (Zgy x4 a0.At (IntKind.i64.wrap (a0.At + a0.Data))).bind fun l5 => (Zii 8 ([] : List Int) l5).bind fun l6 => some l6))
noncomputable def Y5 (a0 : Zm) : Option Int :=
 cond (a0.Kind == 1) (some a0.Ptrs) (some a0.Count)
noncomputable def Vl (a0 : Zd) : Option (Int × Int) :=
 cond (a0.kind != 9) (some (0, 0)) (some (a0.words, a0.ptrs))
noncomputable def Qc (a1 : Int) (s0_ : (Int × Int)) : Option ((Int × Int) ⊕ Int) :=
 cond (decide (s0_.2 < (Int.tmod a1 64))) (some (.inl ((IntKind.u64.wrap (Int.tdiv s0_.1 2)), (IntKind.i64.wrap (s0_.2 + 1))))) (some (.inr s0_.1))
noncomputable def K1 (a0 : (List Int)) (a1 : Int) : Option Int :=
 cond (cond (decide (a1 < 0)) true (decide ((a0.length : Int) ≤ (IntKind.i64.wrap (Int.tdiv a1 64))))) (some 0) ((Jm a0 (IntKind.i64.wrap (Int.tdiv a1 64))).bind fun x2 => (Yj (Qc a1) (x2, 0)).bind fun (z4 : Int) => some (Int.tmod z4 2))
noncomputable def Qd (a0 : (List Int)) (a2 : Int) (y2 : Int) (s0_ : (Int × Int)) : Option ((Int × Int) ⊕ Int) :=
 cond (decide (0 ≤ s0_.2)) ((K1 a0 (IntKind.i64.wrap ((IntKind.i64.wrap (a2 * y2)) + s0_.2))).bind fun y3 => some (.inl ((IntKind.u64.wrap ((IntKind.u64.wrap (s0_.1 * 2)) + y3)), (IntKind.i64.wrap (s0_.2 - 1))))) (some (.inr s0_.1))
noncomputable def K2 (a0 : (List Int)) (a1 : Int) (a2 : Int) : Option Int :=
 (Qq a1).bind fun y2 => cond (cond (cond (decide (y2 < 1)) true (decide (a2 < 0))) true (decide (1099511627776 < a2))) (some 0) ((Yj (Qd a0 a2 y2) (0, (IntKind.i64.wrap (y2 - 1)))).bind fun (z5 : Int) => some z5)
noncomputable def Xy (a0 : Zm) (a1 : (List (List Int))) (a2 : Int) : Option (Zm × Int) :=
 (cond (decide (a2 < 0)) (some true) ((Y5 a0).bind fun y4 => some (cond (decide (a2 < 0)) true (decide (y4 ≤ a2))))).bind fun (z2 : Bool) => cond z2 (some ((⟨0, 0, 0, 0, 0, 0, 0⟩ : Zm), 0)) (cond (a0.Kind == 1) ((Q9 a1 a0.S (IntKind.i64.wrap ((IntKind.i64.wrap (a0.At + a0.Data)) + a2))).bind fun y7 => some (y7.1, y7.2)) (cond (a0.Kind == 8) ((Q9 a1 a0.S (IntKind.i64.wrap (a0.At + a2))).bind fun y9 => some (y9.1, y9.2)) (cond (a0.Kind == 9) (some ((⟨1, a0.S, (IntKind.i64.wrap (a0.At + (IntKind.i64.wrap (a2 * (IntKind.i64.wrap (a0.Data + a0.Ptrs)))))), a0.Data, a0.Ptrs, 0, 0⟩ : Zm), 0)) ((Jm a1 a0.S).bind fun x13 => (Zgy x13 a0.At (x13.length : Int)).bind fun l14 => (K2 l14 (IntKind.i64.wrap (a0.Kind - 2)) a2).bind fun y15 => some ((⟨10, 0, 0, 0, 0, 0, y15⟩ : Zm), 0)))))
noncomputable def Kc (a0 : Int) (a1 : Int) : Option Int :=
 some (if a1 < (if a0 < 0 then 0 else a0) then a1 else (if a0 < 0 then 0 else a0))
structure Zy where
 Depth : Int
 Weight : Int
 MaxD : Int
 MaxOut : Int
noncomputable def K3 (a0 : Zy) : Option Zy :=
 (Kc a0.Depth 64).bind fun y5 => (Kc a0.Weight 65536).bind fun y6 => (Kc a0.MaxD 4096).bind fun y7 => (Kc a0.MaxOut 131072).bind fun y8 => some (⟨y5, y6, y7, y8⟩ : Zy)
noncomputable def Y2 (a0 : Int) (a1 : Int) : Option Int :=
 cond (decide (a0 < 0)) (some 0) (cond (decide (a1 < a0)) (some a1) (some a0))
noncomputable def Je (a0 : Zy) : Option Zy :=
 (Y2 a0.Depth 64).bind fun y5 => (Y2 a0.Weight 65536).bind fun y6 => (Y2 a0.MaxD 4096).bind fun y7 => (Y2 a0.MaxOut 131072).bind fun y8 => some (⟨y5, y6, y7, y8⟩ : Zy)
noncomputable def Vy (a0 : Zd) : Option Int :=
 (Y6 a0).bind fun y2 => cond (y2 == 0) (some 0) (((Y6 a0).bind fun y8 => cond (y8 == 9) ((Yp a0).bind fun y9 => some (cond (y8 == 9) (decide (0 < y9)) false)) (some false)).bind fun (z5 : Bool) => cond z5 (some 2) (some 1))
noncomputable def K4 (a0 : Zd) : Option Int :=
 (Y6 a0).bind fun y2 => cond (y2 == 0) (some 0) (cond (y2 == 1) ((J3 a0).bind fun y5 => (Yp a0).bind fun y6 => some (IntKind.i64.wrap ((IntKind.i64.wrap (1 + y5)) + y6))) (cond (y2 == 9) ((Vl a0).bind fun y8 => (Yp a0).bind fun y10 => some (IntKind.i64.wrap (1 + (IntKind.i64.wrap (y10 * (IntKind.i64.wrap ((IntKind.i64.wrap (1 + y8.1)) + y8.2))))))) ((Yp a0).bind fun y12 => some (IntKind.i64.wrap (1 + y12)))))
structure Ze where
 left : Int
noncomputable def Xm (Ya : (Ze → Zd → Int → Option (Int × Ze))) (Z9 : (Ze → Zd → Int → Option (Int × Ze))) (Yc : (Ze → Zd → Int → Option (Int × Ze))) (a0 : Ze) (a1 : Zd) (a2 : Int) : Option (Int × Ze) :=
 ((Vy a1).bind fun y6 => cond (decide (a2 < y6)) (some true) ((K4 a1).bind fun y7 => some (cond (decide (a2 < y6)) true (decide (a0.left < y7))))).bind fun (z3 : Bool) => cond z3 (some (3, a0)) ((K4 a1).bind fun y10 => (Y6 a1).bind fun y12 => (cond (y12 == 1) (some (y12 == 1)) (some (y12 == 8))).bind fun (z13 : Bool) => cond z13 ((Z9 (⟨(IntKind.i64.wrap (a0.left - y10))⟩ : Ze) a1 (IntKind.i64.wrap (a2 - 1))).bind fun y16 => some (y16.1, y16.2)) (cond (y12 == 9) ((Yc (⟨(IntKind.i64.wrap (a0.left - y10))⟩ : Ze) a1 (IntKind.i64.wrap (a2 - 1))).bind fun y18 => some (y18.1, y18.2)) (some (0, (⟨(IntKind.i64.wrap (a0.left - y10))⟩ : Ze)))))
noncomputable def Xu (Ya : (Ze → Zd → Int → Option (Int × Ze))) (a1 : Zd) (a2 : Int) (y2 : Int) (s0_ : (Int × Int)) : Option ((Int × Int) ⊕ ((Int × Int) ⊕ Int)) :=
 cond (decide (s0_.1 < y2)) ((Qr a1 s0_.1).bind fun y4 => cond (y4.2 != 0) (some (.inr (.inl (y4.2, s0_.2)))) ((Ya (⟨s0_.2⟩ : Ze) y4.1 a2).bind fun y6 => cond (y6.1 != 0) (some (.inr (.inl (y6.1, y6.2.left)))) (some (.inl ((IntKind.i64.wrap (s0_.1 + 1)), y6.2.left))))) (some (.inr (.inr s0_.2)))
noncomputable def Xt (Ya : (Ze → Zd → Int → Option (Int × Ze))) (Z9 : (Ze → Zd → Int → Option (Int × Ze))) (Yc : (Ze → Zd → Int → Option (Int × Ze))) (a0 : Ze) (a1 : Zd) (a2 : Int) : Option (Int × Ze) :=
 (Yp a1).bind fun y2 => (Yj (Xu Ya a1 a2 y2) (0, a0.left)).bind fun (z10 : ((Int × Int) ⊕ Int)) => match z10 with | .inl z10 => some (z10.1, (⟨z10.2⟩ : Ze)) | .inr z10 => some (0, (⟨z10⟩ : Ze))
noncomputable def Y8 (Z9 : (Ze → Zd → Int → Option (Int × Ze))) (a1 : Zd) (a2 : Int) (y2 : Int) (s0_ : (Int × Int)) : Option ((Int × Int) ⊕ ((Int × Int) ⊕ Int)) :=
 cond (decide (s0_.1 < y2)) ((Qr a1 s0_.1).bind fun y4 => cond (y4.2 != 0) (some (.inr (.inl (y4.2, s0_.2)))) ((Z9 (⟨s0_.2⟩ : Ze) y4.1 (IntKind.i64.wrap (a2 - 1))).bind fun y6 => cond (y6.1 != 0) (some (.inr (.inl (y6.1, y6.2.left)))) (some (.inl ((IntKind.i64.wrap (s0_.1 + 1)), y6.2.left))))) (some (.inr (.inr s0_.2)))
noncomputable def Y7 (Ya : (Ze → Zd → Int → Option (Int × Ze))) (Z9 : (Ze → Zd → Int → Option (Int × Ze))) (Yc : (Ze → Zd → Int → Option (Int × Ze))) (a0 : Ze) (a1 : Zd) (a2 : Int) : Option (Int × Ze) :=
 (Yp a1).bind fun y2 => (Yj (Y8 Z9 a1 a2 y2) (0, a0.left)).bind fun (z10 : ((Int × Int) ⊕ Int)) => match z10 with | .inl z10 => some (z10.1, (⟨z10.2⟩ : Ze)) | .inr z10 => some (0, (⟨z10⟩ : Ze))
noncomputable def Zo : Nat → ((Ze → Zd → Int → Option (Int × Ze)) × (Ze → Zd → Int → Option (Int × Ze)) × (Ze → Zd → Int → Option (Int × Ze)))
 | 0 => ((fun _ _ _ => none), (fun _ _ _ => none), (fun _ _ _ => none))
 | k + 1 => (Xm ((Zo k).1) ((Zo k).2.1) ((Zo k).2.2), Xt ((Zo k).1) ((Zo k).2.1) ((Zo k).2.2), Y7 ((Zo k).1) ((Zo k).2.1) ((Zo k).2.2))
noncomputable def Vr (a0 : Ze) (a1 : Zd) (a2 : Int) : Option (Int × Ze) := lim fun k => (Zo k).1 a0 a1 a2
noncomputable def Kv (a0 : (Option Zj)) (a1 : Zy) : Option (Int × Int) :=
 (K3 a1).bind fun y2 => (Uk a0).bind fun y4 => cond (y4.2 != 0) (some (0, y4.2)) ((Vr (⟨y2.Weight⟩ : Ze) y4.1 y2.Depth).bind fun y6 => cond (y6.1 != 0) (some (0, y6.1)) (some ((IntKind.i64.wrap (y2.Weight - y6.2.left)), 0)))
noncomputable def Qp  : Option Bool :=
 (Gx ([([4294967296, 7] : List Int)] : List (List Int))).bind fun y2 => (Kv y2 (⟨1, 2, 0, 0⟩ : Zy)).bind fun y4 => (Kv y2 (⟨1, 1, 0, 0⟩ : Zy)).bind fun y6 => some (cond (cond (y4.1 == 2) (y4.2 == 0) false) (y6.2 == 3) false)
noncomputable def Jz (a0 : Zy) : Option Zy :=
 (cond (decide (3000 < a0.Weight)) (some 3000) (some a0.Weight)).bind fun (z1 : Int) => some (⟨a0.Depth, z1, a0.MaxD, a0.MaxOut⟩ : Zy)
structure S_api_Tree where
 Kind : Int
 Words : (List Int)
 Kids : (List S_api_Tree)
noncomputable def Xs (Yi : ((List (List Int)) → Zm → Int → Int → Option (S_api_Tree × Int × Int))) (Yv : ((List (List Int)) → Zm → Int → Int → Option (S_api_Tree × Int × Int))) (a0 : (List (List Int))) (a1 : Zm) (a2 : Int) (s0_ : (Int × Int × (List S_api_Tree))) : Option ((Int × Int × (List S_api_Tree)) ⊕ ((Int × Int × (List S_api_Tree)) ⊕ (Int × (List S_api_Tree)))) :=
 (Y5 a1).bind fun y10 => cond (decide (s0_.2.1 < y10)) ((Xy a1 a0 s0_.2.1).bind fun y12 => cond (y12.2 != 0) (some (.inr (.inl (s0_.1, y12.2, s0_.2.2)))) ((Y0 y12.1 a0).bind fun y14 => (cond (a1.Kind == 9) ((Yv a0 y12.1 (IntKind.i64.wrap (a2 - 2)) s0_.1).bind fun y16 => some (y16.2.1, y16.2.2, y16.1.Kind, y16.1.Words, y16.1.Kids)) (cond (cond (a1.Kind == 1) true (a1.Kind == 8)) ((Yi a0 y12.1 (IntKind.i64.wrap (a2 - 1)) s0_.1).bind fun y17 => some (y17.2.1, y17.2.2, y17.1.Kind, y17.1.Words, y17.1.Kids)) (some (s0_.1, y12.2, y12.1.Kind, y14, ([] : (List S_api_Tree)))))).bind fun (z15 : (Int × Int × Int × (List Int) × (List S_api_Tree))) => cond (z15.2.1 != 0) (some (.inr (.inl (z15.1, z15.2.1, s0_.2.2)))) ((Zii 56 s0_.2.2 ([(⟨z15.2.2.1, z15.2.2.2.1, z15.2.2.2.2⟩ : S_api_Tree)] : List S_api_Tree)).bind fun l20 => some (.inl (z15.1, (IntKind.i64.wrap (s0_.2.1 + 1)), l20))))) (some (.inr (.inr (s0_.1, s0_.2.2))))
noncomputable def Xr (Yi : ((List (List Int)) → Zm → Int → Int → Option (S_api_Tree × Int × Int))) (Yv : ((List (List Int)) → Zm → Int → Int → Option (S_api_Tree × Int × Int))) (a0 : (List (List Int))) (a1 : Zm) (a2 : Int) (a3 : Int) : Option (S_api_Tree × Int × Int) :=
 (Y0 a1 a0).bind fun y2 => cond (a1.Kind == 0) (some ((⟨a1.Kind, y2, []⟩ : S_api_Tree), a3, 0)) (cond (cond (decide (a2 < 1)) true (cond (cond (a1.Kind == 9) (decide (0 < a1.Count)) false) (decide (a2 < 2)) false)) (some ((⟨a1.Kind, y2, []⟩ : S_api_Tree), a3, 3)) ((Y5 a1).bind fun y4 => (cond (a1.Kind == 1) (some (IntKind.i64.wrap ((IntKind.i64.wrap (1 + a1.Data)) + a1.Ptrs))) (some (IntKind.i64.wrap (1 + y4)))).bind fun (z5 : Int) => (cond (a1.Kind == 9) (some (IntKind.i64.wrap (1 + (IntKind.i64.wrap (a1.Count * (IntKind.i64.wrap ((IntKind.i64.wrap (1 + a1.Data)) + a1.Ptrs))))))) (some z5)).bind fun (z7 : Int) => cond (decide (a3 < z7)) (some ((⟨a1.Kind, y2, []⟩ : S_api_Tree), a3, 3)) ((Yj (Xs Yi Yv a0 a1 a2) ((IntKind.i64.wrap (a3 - z7)), 0, ([] : List S_api_Tree))).bind fun (z24 : ((Int × Int × (List S_api_Tree)) ⊕ (Int × (List S_api_Tree)))) => match z24 with | .inl z24 => some ((⟨a1.Kind, y2, z24.2.2⟩ : S_api_Tree), z24.1, z24.2.1) | .inr z24 => some ((⟨a1.Kind, y2, z24.2⟩ : S_api_Tree), z24.1, 0))))
noncomputable def Qz (Yi : ((List (List Int)) → Zm → Int → Int → Option (S_api_Tree × Int × Int))) (a0 : (List (List Int))) (a1 : Zm) (a2 : Int) (s0_ : (Int × Int × (List S_api_Tree))) : Option ((Int × Int × (List S_api_Tree)) ⊕ ((Int × Int × (List S_api_Tree)) ⊕ (Int × (List S_api_Tree)))) :=
 cond (decide (s0_.2.1 < a1.Ptrs)) ((Xy a1 a0 s0_.2.1).bind fun y4 => cond (y4.2 != 0) (some (.inr (.inl (s0_.1, y4.2, s0_.2.2)))) ((Yi a0 y4.1 a2 s0_.1).bind fun y6 => cond (y6.2.2 != 0) (some (.inr (.inl (y6.2.1, y6.2.2, s0_.2.2)))) ((Zii 56 s0_.2.2 ([y6.1] : List S_api_Tree)).bind fun l7 => some (.inl (y6.2.1, (IntKind.i64.wrap (s0_.2.1 + 1)), l7))))) (some (.inr (.inr (s0_.1, s0_.2.2))))
noncomputable def Q4 (Yi : ((List (List Int)) → Zm → Int → Int → Option (S_api_Tree × Int × Int))) (Yv : ((List (List Int)) → Zm → Int → Int → Option (S_api_Tree × Int × Int))) (a0 : (List (List Int))) (a1 : Zm) (a2 : Int) (a3 : Int) : Option (S_api_Tree × Int × Int) :=
 (Y0 a1 a0).bind fun y2 => (Yj (Qz Yi a0 a1 a2) (a3, 0, ([] : List S_api_Tree))).bind fun (z11 : ((Int × Int × (List S_api_Tree)) ⊕ (Int × (List S_api_Tree)))) => match z11 with | .inl z11 => some ((⟨1, y2, z11.2.2⟩ : S_api_Tree), z11.1, z11.2.1) | .inr z11 => some ((⟨1, y2, z11.2⟩ : S_api_Tree), z11.1, 0)
noncomputable def Yf : Nat → (((List (List Int)) → Zm → Int → Int → Option (S_api_Tree × Int × Int)) × ((List (List Int)) → Zm → Int → Int → Option (S_api_Tree × Int × Int)))
 | 0 => ((fun _ _ _ _ => none), (fun _ _ _ _ => none))
 | k + 1 => (Xr ((Yf k).1) ((Yf k).2), Q4 ((Yf k).1) ((Yf k).2))
noncomputable def Vw (a0 : (List (List Int))) (a1 : Zm) (a2 : Int) (a3 : Int) : Option (S_api_Tree × Int × Int) := lim fun k => (Yf k).1 a0 a1 a2 a3
noncomputable def Jf (a0 : (List (List Int))) (a1 : Zy) : Option (S_api_Tree × Int × Int) :=
 (Je a1).bind fun y2 => (Q9 a0 0 0).bind fun y4 => cond (y4.2 != 0) (some ((⟨0, [], []⟩ : S_api_Tree), 0, y4.2)) ((Vw a0 y4.1 y2.Depth y2.Weight).bind fun y6 => cond (y6.2.2 != 0) (some ((⟨0, [], []⟩ : S_api_Tree), 0, y6.2.2)) (some (y6.1, (IntKind.i64.wrap (y2.Weight - y6.2.1)), 0)))
noncomputable def Qg (Qt : (S_api_Tree → Int → Option Bool)) (a0 : S_api_Tree) (a1 : Int) (s0_ : Int) : Option (Int ⊕ (Unit ⊕ Unit)) :=
 cond (decide (s0_ < (a0.Kids.length : Int))) ((Jm a0.Kids s0_).bind fun x2 => (Qt x2 (IntKind.i64.wrap (a1 - 1))).bind fun y4 => cond (!y4) (some (.inr (.inl ()))) ((cond ((cond (decide (2 ≤ a0.Kind)) (decide (a0.Kind ≤ 7)) false) != (x2.Kind == 10)) (some true) (cond (a0.Kind == 9) (cond (x2.Kind != 1) (some true) (cond (decide (2 ≤ a0.Kind)) (cond (decide (a0.Kind ≤ 7)) ((Jm x2.Words 0).bind fun x14 => (Q6 (IntKind.i64.wrap (a0.Kind - 2)) x14).bind fun y15 => some (cond (cond ((cond (decide (2 ≤ a0.Kind)) (decide (a0.Kind ≤ 7)) false) != (x2.Kind == 10)) true (cond (a0.Kind == 9) (x2.Kind != 1) false)) true (cond (cond (decide (2 ≤ a0.Kind)) (decide (a0.Kind ≤ 7)) false) (!y15) false))) (some (cond (cond ((cond (decide (2 ≤ a0.Kind)) (decide (a0.Kind ≤ 7)) false) != (x2.Kind == 10)) true (cond (a0.Kind == 9) (x2.Kind != 1) false)) true false))) (some (cond (cond ((cond (decide (2 ≤ a0.Kind)) (decide (a0.Kind ≤ 7)) false) != (x2.Kind == 10)) true (cond (a0.Kind == 9) (x2.Kind != 1) false)) true false)))) (cond (decide (2 ≤ a0.Kind)) (cond (decide (a0.Kind ≤ 7)) ((Jm x2.Words 0).bind fun x16 => (Q6 (IntKind.i64.wrap (a0.Kind - 2)) x16).bind fun y17 => some (cond (cond ((cond (decide (2 ≤ a0.Kind)) (decide (a0.Kind ≤ 7)) false) != (x2.Kind == 10)) true (cond (a0.Kind == 9) (x2.Kind != 1) false)) true (cond (cond (decide (2 ≤ a0.Kind)) (decide (a0.Kind ≤ 7)) false) (!y17) false))) (some (cond (cond ((cond (decide (2 ≤ a0.Kind)) (decide (a0.Kind ≤ 7)) false) != (x2.Kind == 10)) true (cond (a0.Kind == 9) (x2.Kind != 1) false)) true false))) (some (cond (cond ((cond (decide (2 ≤ a0.Kind)) (decide (a0.Kind ≤ 7)) false) != (x2.Kind == 10)) true (cond (a0.Kind == 9) (x2.Kind != 1) false)) true false))))).bind fun (z9 : Bool) => cond z9 (some (.inr (.inl ()))) (some (.inl (IntKind.i64.wrap (s0_ + 1)))))) (some (.inr (.inr ())))
noncomputable def Ju (Qt : (S_api_Tree → Int → Option Bool)) (a0 : S_api_Tree) (a1 : Int) : Option Bool :=
 cond (a0.Kind == 0) (some (cond ((a0.Words.length : Int) == 0) ((a0.Kids.length : Int) == 0) false)) (cond (a0.Kind == 10) (some (cond ((a0.Words.length : Int) == 1) ((a0.Kids.length : Int) == 0) false)) (cond (cond (cond (cond (cond (cond (decide (a0.Kind < 0)) true (decide (10 < a0.Kind))) true (a1 == 0)) true (decide (65536 ≤ (a0.Words.length : Int)))) true (cond (a0.Kind == 1) (decide (65536 ≤ (a0.Kids.length : Int))) false)) true (decide (1048576 ≤ (a0.Kids.length : Int)))) (some false) (cond (cond (decide (1 < a0.Kind)) (decide (0 < (a0.Words.length : Int))) false) (some false) ((Yj (Qg Qt a0 a1) 0).bind fun (z28 : (Unit ⊕ Unit)) => match z28 with | .inl z28 => some false | .inr z28 => some true))))
noncomputable def Xk : Nat → (S_api_Tree → Int → Option Bool)
 | 0 => (fun _ _ => none)
 | k + 1 => Ju ((Xk k))
noncomputable def Vj (a0 : S_api_Tree) (a1 : Int) : Option Bool := lim fun k => (Xk k) a0 a1
noncomputable def Xl (Qs : (S_api_Tree → Option Int)) (a0 : S_api_Tree) (s0_ : (Int × Int)) : Option ((Int × Int) ⊕ Int) :=
 cond (decide (s0_.2 < (a0.Kids.length : Int))) (((Jm a0.Kids s0_.2).bind fun x4 => (Qs x4).bind fun y5 => cond (decide (s0_.1 < (IntKind.i64.wrap (y5 + 1)))) (some (IntKind.i64.wrap (y5 + 1))) (some s0_.1)).bind fun (z1 : Int) => some (.inl (z1, (IntKind.i64.wrap (s0_.2 + 1))))) (some (.inr s0_.1))
noncomputable def Jt (Qs : (S_api_Tree → Option Int)) (a0 : S_api_Tree) : Option Int :=
 cond (cond (a0.Kind == 0) true (a0.Kind == 10)) (some 0) ((Yj (Xl Qs a0) (1, 0)).bind fun (z8 : Int) => some z8)
noncomputable def Xj : Nat → (S_api_Tree → Option Int)
 | 0 => (fun _ => none)
 | k + 1 => Jt ((Xj k))
noncomputable def Uv (a0 : S_api_Tree) : Option Int := lim fun k => (Xj k) a0
noncomputable def Xe (Qf : (S_api_Tree → Option Int)) (a0 : S_api_Tree) (s0_ : (Int × Int)) : Option ((Int × Int) ⊕ Int) :=
 cond (decide (s0_.2 < (a0.Kids.length : Int))) (((Jm a0.Kids s0_.2).bind fun x6 => (Qf x6).bind fun y7 => cond (cond (a0.Kind == 1) true (a0.Kind == 8)) (some (IntKind.i64.wrap ((IntKind.i64.wrap (s0_.1 + y7)) + 1))) (some (IntKind.i64.wrap (s0_.1 + y7)))).bind fun (z3 : Int) => some (.inl (z3, (IntKind.i64.wrap (s0_.2 + 1))))) (some (.inr s0_.1))
noncomputable def Jc (Qf : (S_api_Tree → Option Int)) (a0 : S_api_Tree) : Option Int :=
 cond (a0.Kind == 0) (some 0) ((cond (a0.Kind == 1) (some (IntKind.i64.wrap (1 + (a0.Words.length : Int)))) (some 1)).bind fun (z1 : Int) => (Yj (Xe Qf a0) (z1, 0)).bind fun (z10 : Int) => some z10)
noncomputable def Xw : Nat → (S_api_Tree → Option Int)
 | 0 => (fun _ => none)
 | k + 1 => Jc ((Xw k))
noncomputable def Ub (a0 : S_api_Tree) : Option Int := lim fun k => (Xw k) a0
noncomputable def Q5 (a0 : (List (List Int))) (a1 : Zy) : Option Bool :=
 (Jz a1).bind fun y2 => (Gx a0).bind fun y5 => (Kv y5 y2).bind fun y6 => (Jf a0 y2).bind fun y8 => cond (y6.2 != 0) ((cond (y8.2.2 != 0) ((Qp).bind fun y12 => some (cond (y8.2.2 != 0) y12 false)) (some false)).bind fun (z10 : Bool) => some z10) ((cond (y8.2.2 == 0) ((Vj y8.1 64).bind fun y27 => cond y27 ((Uv y8.1).bind fun y28 => (K3 y2).bind fun y29 => cond (decide (y28 ≤ y29.Depth)) ((Ub y8.1).bind fun y30 => cond (y30 == y6.1) ((K3 y2).bind fun y31 => cond (decide (y6.1 ≤ y31.Weight)) ((Qp).bind fun y32 => some (cond (cond (cond (cond (cond (y8.2.2 == 0) y27 false) (decide (y28 ≤ y29.Depth)) false) (y30 == y6.1) false) (decide (y6.1 ≤ y31.Weight)) false) y32 false)) (some false)) (some false)) (some false)) (some false)) (some false)).bind fun (z20 : Bool) => some z20)
end Go.Proofs.Ytmlhokaflhlhbaa
