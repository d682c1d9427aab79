/- Part VD of this seat's mirrors: functions of the seat's program, and the plain functions that they are; each theorem bears its own conditions. -/
import Derived.Test.YtmlhokaflhlhbaaH25
namespace Go.Proofs.Ytmlhokaflhlhbaa
open Go.RowKit
set_option linter.unusedVariables false
set_option linter.unusedSimpArgs false
set_option maxRecDepth 100000
set_option maxHeartbeats 4000000
noncomputable def Yk (a0 : List Int) : Option (List Int) :=
 Zhe 8 ([] : List Int) a0
noncomputable def Q2 (a0 : (List (List Int))) (s0_ : (Int × (List (List Int)))) : Option ((Int × (List (List Int))) ⊕ (List (List Int))) :=
 cond (decide (s0_.1 < (a0.length : Int))) ((J5 a0 s0_.1).bind fun x4 => (Yk x4).bind fun y5 => (J5 s0_.2 s0_.1).bind fun x6 => some (.inl ((IntKind.i64.wrap (s0_.1 + 1)), (Zmc s0_.2 s0_.1 y5)))) (some (.inr s0_.2))
noncomputable def Vt (a0 : (List (List Int))) : Option (List (List Int)) :=
 (Zib 24 (a0.length : Int) ([] : (List Int))).bind fun l2 => (Yu (Q2 a0) (0, l2)).bind fun (z9 : (List (List Int))) => some z9
structure Zk where
 segments : (List (List Int))
 size : Int
 left : Int
noncomputable def U4 (a0 : (List (List Int))) : Option (Option Zk) :=
 (Vt a0).bind fun y2 => some (some (⟨y2, 0, 0⟩ : Zk))
noncomputable def K4 (a0 : (Option Zk)) : Option Int :=
 cond (Option.isNone a0) (some 0) ((a0).bind fun x4 => some (x4.segments.length : Int))
noncomputable def X3 (a0 : (Option Zk)) (a1 : Int) : Option Bool :=
 (cond (decide (0 ≤ a1)) ((K4 a0).bind fun y4 => some (cond (decide (0 ≤ a1)) (decide (a1 < y4)) false)) (some false)).bind fun (z2 : Bool) => some z2
noncomputable def Qd (a0 : (Option Zk)) (a1 : Int) : Option Int :=
 (X3 a0 a1).bind fun y2 => cond (!y2) (some 0) ((a0).bind fun x5 => (J5 x5.segments a1).bind fun x6 => some (x6.length : Int))
noncomputable def Xx (a0 : (Option Zk)) (a1 : Int) (a2 : Int) (a3 : Int) : Option Bool :=
 ((X3 a0 a1).bind fun y8 => cond y8 (cond (decide (0 ≤ a2)) (cond (decide (0 ≤ a3)) ((Qd a0 a1).bind fun y9 => cond (decide (a3 ≤ y9)) ((Qd a0 a1).bind fun y10 => some (cond (cond (cond (cond y8 (decide (0 ≤ a2)) false) (decide (0 ≤ a3)) false) (decide (a3 ≤ y9)) false) (decide (a2 ≤ (IntKind.i64.wrap (y10 - a3)))) false)) (some false)) (some false)) (some false)) (some false)).bind fun (z4 : Bool) => some z4
noncomputable def Xw (a0 : (Option Zk)) (a1 : Int) (a2 : Int) : Option (Int × Bool) :=
 (Xx a0 a1 a2 1).bind fun y2 => cond (!y2) (some (0, false)) ((a0).bind fun x6 => (J5 x6.segments a1).bind fun x7 => (J5 x7 a2).bind fun x8 => some (x8, true))
noncomputable def Uq (a0 : Int) : Option Int :=
 some (IntKind.i64.wrap (Int.fdiv (IntKind.i32.wrap (IntKind.u32.wrap a0)) (2 ^ min (Int.toNat 2) 32)))
noncomputable def Y2 (a0 : Int) (a1 : Int) (a2 : Int) : Option Int :=
 (Uk (0 ≤ a1)).bind fun u3 => (Uk (0 ≤ a2)).bind fun u4 => some (IntKind.i64.wrap (IntKind.u64.wrap (Gs .u64 (Int.fdiv a0 (2 ^ min (Int.toNat a1) 64)) (IntKind.u64.wrap ((IntKind.u64.wrap (1 * 2 ^ min (Int.toNat a2) 64)) - 1)))))
structure Z6 where
 Kind : Int
 Off : Int
 Data : Int
 Ptrs : Int
 Code : Int
 Count : Int
 Segment : Int
 Double : Bool
noncomputable def Qg (a0 : Int) : Option Z6 :=
 cond (a0 == 0) (some (⟨0, 0, 0, 0, 0, 0, 0, false⟩ : Z6)) (cond ((IntKind.u64.wrap (Gs .u64 a0 3)) == 0) ((Uq a0).bind fun y4 => (Y2 a0 32 16).bind fun y5 => (Y2 a0 48 16).bind fun y6 => some (⟨1, y4, y5, y6, 0, 0, 0, false⟩ : Z6)) (cond ((IntKind.u64.wrap (Gs .u64 a0 3)) == 1) ((Uq a0).bind fun y10 => (Y2 a0 32 3).bind fun y11 => (Y2 a0 35 29).bind fun y12 => some (⟨2, y10, 0, 0, y11, y12, 0, false⟩ : Z6)) (cond ((IntKind.u64.wrap (Gs .u64 a0 3)) == 2) ((Y2 a0 3 29).bind fun y15 => (Y2 a0 32 32).bind fun y16 => some (⟨3, y15, 0, 0, 0, 0, y16, ((IntKind.u64.wrap (Gs .u64 (Int.fdiv a0 (2 ^ min (Int.toNat 2) 64)) 1)) == 1)⟩ : Z6)) (some (⟨4, 0, 0, 0, 0, 0, 0, false⟩ : Z6)))))
noncomputable def Q9 (a0 : (Option Zk)) (a1 : Int) (a2 : Int) (a3 : Int) : Option ((List Int) × Bool) :=
 (Xx a0 a1 a2 a3).bind fun y2 => cond (!y2) (some (([] : (List Int)), false)) ((a0).bind fun x7 => (J5 x7.segments a1).bind fun x8 => (Zfr x8 a2 (IntKind.i64.wrap (a2 + a3))).bind fun l9 => (Yk l9).bind fun y10 => some (y10, true))
noncomputable def Gv (a0 : Int) : Option Int :=
 ((some (⟨[0, 1, 8, 16, 32, 64, 64], rfl⟩ : (Arr Int 7)))).bind fun y6 => ((some (⟨[0, 0, 0, 0, 0, 0, 0], rfl⟩ : (Arr Int 7)))).bind fun y8 => (J5 y6.1 a0).bind fun x12 => some x12
noncomputable def K0 (a0 : Z6) : Option (Int × Bool) :=
 cond (a0.Kind == 1) (some ((IntKind.i64.wrap (a0.Data + a0.Ptrs)), true)) (cond (cond (a0.Kind == 2) (a0.Code == 7) false) (some ((IntKind.i64.wrap (a0.Count + 1)), true)) (cond (cond (cond (cond (cond (a0.Kind == 2) (decide (0 ≤ a0.Code)) false) (decide (a0.Code < 7)) false) (decide (0 ≤ a0.Count)) false) (decide (a0.Count ≤ 536870911)) false) ((Gv a0.Code).bind fun y2 => some ((IntKind.i64.wrap (Int.tdiv (IntKind.i64.wrap ((IntKind.i64.wrap (a0.Count * y2)) + 63)) 64)), true)) (some (0, false))))
structure Yn where
 P : Z6
 Segment : Int
 At : Int
noncomputable def Kv (a0 : (Option Zk)) (a1 : Z6) (a2 : Int) (a3 : Int) : Option (Yn × Int) :=
 cond (a1.Kind == 4) (some ((⟨⟨0, 0, 0, 0, 0, 0, 0, false⟩, 0, 0⟩ : Yn), 9)) ((K0 a1).bind fun y2 => cond (!y2.2) (some ((⟨⟨0, 0, 0, 0, 0, 0, 0, false⟩, 0, 0⟩ : Yn), 8)) ((Xx a0 a2 a3 y2.1).bind fun y4 => cond (!y4) (some ((⟨⟨0, 0, 0, 0, 0, 0, 0, false⟩, 0, 0⟩ : Yn), 7)) (some ((⟨⟨a1.Kind, 0, a1.Data, a1.Ptrs, a1.Code, a1.Count, a1.Segment, a1.Double⟩, a2, a3⟩ : Yn), 0))))
noncomputable def Uo (a0 : (Option Zk)) (a1 : Int) (a2 : Int) : Option (Yn × Int) :=
 (Q9 a0 a1 a2 2).bind fun y2 => cond (!y2.2) (some ((⟨⟨0, 0, 0, 0, 0, 0, 0, false⟩, 0, 0⟩ : Yn), 7)) ((J5 y2.1 0).bind fun x3 => (Qg x3).bind fun y4 => (J5 y2.1 1).bind fun x5 => (Qg x5).bind fun y6 => cond (cond (y4.Kind != 3) true y4.Double) (some ((⟨⟨0, 0, 0, 0, 0, 0, 0, false⟩, 0, 0⟩ : Yn), 8)) (cond (cond (y6.Kind != 4) (y6.Off != 0) false) (some ((⟨⟨0, 0, 0, 0, 0, 0, 0, false⟩, 0, 0⟩ : Yn), 8)) ((Kv a0 y6 y4.Segment y4.Off).bind fun y8 => some (y8.1, y8.2))))
noncomputable def Up (a0 : (Option Zk)) (a1 : Int) (a2 : Int) : Option (Yn × Int) :=
 (Xw a0 a1 a2).bind fun y2 => cond (!y2.2) (some ((⟨⟨0, 0, 0, 0, 0, 0, 0, false⟩, 0, 0⟩ : Yn), 7)) ((Qg y2.1).bind fun y4 => (Kv a0 y4 a1 (IntKind.i64.wrap ((IntKind.i64.wrap (a2 + 1)) + y4.Off))).bind fun y6 => some (y6.1, y6.2))
noncomputable def Un (a0 : (Option Zk)) (a1 : Int) (a2 : Int) : Option (Yn × Int) :=
 (Xw a0 a1 a2).bind fun y2 => cond (!y2.2) (some ((⟨⟨0, 0, 0, 0, 0, 0, 0, false⟩, 0, 0⟩ : Yn), 7)) ((Qg y2.1).bind fun y4 => cond (y4.Kind == 0) (some ((⟨⟨0, 0, 0, 0, 0, 0, 0, false⟩, 0, 0⟩ : Yn), 0)) (cond (cond (y4.Kind == 3) y4.Double false) ((Uo a0 y4.Segment y4.Off).bind fun y6 => some (y6.1, y6.2)) (cond (y4.Kind == 3) ((Up a0 y4.Segment y4.Off).bind fun y8 => some (y8.1, y8.2)) ((Kv a0 y4 a1 (IntKind.i64.wrap ((IntKind.i64.wrap (a2 + 1)) + y4.Off))).bind fun y10 => some (y10.1, y10.2)))))
structure Zd where
 a : (Option Zk)
 kind : Int
 segment : Int
 at_ : Int
 words : Int
 ptrs : Int
 count : Int
 code : Int
 index : Int
noncomputable def Kx (a0 : Zd) : Option (Zd × Int) :=
 (Xw a0.a a0.segment a0.at_).bind fun y2 => (Qg y2.1).bind fun y4 => cond (cond (cond (cond (y4.Kind != 0) (y4.Kind != 1) false) true (decide (y4.Off < 0))) true (decide (a0.count < (IntKind.i64.wrap (y4.Off * (IntKind.i64.wrap (y4.Data + y4.Ptrs))))))) (some ((⟨(none : (Option Zk)), 0, 0, 0, 0, 0, 0, 0, 0⟩ : Zd), 8)) (some ((⟨a0.a, a0.kind, a0.segment, a0.at_, y4.Data, y4.Ptrs, y4.Off, a0.code, a0.index⟩ : Zd), 0))
noncomputable def K7 (a0 : (Option Zk)) (a1 : Int) (a2 : Int) : Option (Zd × Int) :=
 (Un a0 a1 a2).bind fun y2 => cond (cond (y2.2 != 0) true (y2.1.P.Kind == 0)) (some ((⟨(none : (Option Zk)), 0, 0, 0, 0, 0, 0, 0, 0⟩ : Zd), y2.2)) (cond (y2.1.P.Kind == 1) (some ((⟨a0, 1, y2.1.Segment, y2.1.At, y2.1.P.Data, y2.1.P.Ptrs, 0, 0, 0⟩ : Zd), 0)) (cond (y2.1.P.Code == 7) ((Kx (⟨a0, (IntKind.i64.wrap (y2.1.P.Code + 2)), y2.1.Segment, y2.1.At, 0, 0, y2.1.P.Count, 0, 0⟩ : Zd)).bind fun y4 => some (y4.1, y4.2)) (some ((⟨a0, (IntKind.i64.wrap (y2.1.P.Code + 2)), y2.1.Segment, y2.1.At, 0, 0, y2.1.P.Count, 0, 0⟩ : Zd), 0))))
noncomputable def Vu (a0 : (Option Zk)) : Option (Zd × Int) :=
 (K7 a0 0 0).bind fun y2 => some (y2.1, y2.2)
noncomputable def Y4 (a0 : Zd) : Option Int :=
 some a0.kind
noncomputable def Yl (a0 : Zd) : Option Int :=
 cond (a0.kind == 1) (some a0.ptrs) (some a0.count)
noncomputable def Qe (a0 : Zd) (a1 : Int) : Option (Zd × Int) :=
 (cond (decide (a1 < 0)) (some true) ((Yl a0).bind fun y4 => some (cond (decide (a1 < 0)) true (decide (y4 ≤ a1))))).bind fun (z2 : Bool) => cond z2 (some ((⟨(none : (Option Zk)), 0, 0, 0, 0, 0, 0, 0, 0⟩ : Zd), 0)) (cond (a0.kind == 1) ((K7 a0.a a0.segment (IntKind.i64.wrap ((IntKind.i64.wrap (a0.at_ + a0.words)) + a1))).bind fun y7 => some (y7.1, y7.2)) (cond (a0.kind == 8) ((K7 a0.a a0.segment (IntKind.i64.wrap (a0.at_ + a1))).bind fun y9 => some (y9.1, y9.2)) (cond (a0.kind == 9) (some ((⟨a0.a, 1, a0.segment, (IntKind.i64.wrap ((IntKind.i64.wrap (a0.at_ + 1)) + (IntKind.i64.wrap (a1 * (IntKind.i64.wrap (a0.words + a0.ptrs)))))), a0.words, a0.ptrs, 0, 0, 0⟩ : Zd), 0)) (some ((⟨a0.a, 10, a0.segment, a0.at_, 0, 0, 0, (IntKind.i64.wrap (a0.kind - 2)), a1⟩ : Zd), 0)))))
noncomputable def Je (a0 : Zd) : Option Int :=
 cond (a0.kind == 1) (some a0.words) (cond (a0.kind == 10) (some 1) (some 0))
noncomputable def Jc (a0 : Int) : Option Int :=
 cond (a0 == 0) (some 0) (cond (a0 == 1) (some 1) (cond (a0 == 2) (some 8) (cond (a0 == 3) (some 16) (cond (a0 == 4) (some 32) (cond (a0 == 5) (some 64) (some (-1)))))))
noncomputable def Xo (a0 : (List (List Int))) (a1 : Int) (a2 : Int) : Option Bool :=
 (cond (decide (0 ≤ a1)) (cond (decide (a1 < (a0.length : Int))) (cond (decide (0 ≤ a2)) ((J5 a0 a1).bind fun x4 => some (cond (cond (cond (decide (0 ≤ a1)) (decide (a1 < (a0.length : Int))) false) (decide (0 ≤ a2)) false) (decide (a2 < (x4.length : Int))) false)) (some false)) (some false)) (some false)).bind fun (z2 : Bool) => some z2
noncomputable def Jh (a1 : Int) (s0_ : (Int × Int)) : Option ((Int × Int) ⊕ Int) :=
 cond (decide (s0_.2 < a1)) (some (.inl ((IntKind.u64.wrap (Int.tdiv s0_.1 2)), (IntKind.i64.wrap (s0_.2 + 1))))) (some (.inr s0_.1))
noncomputable def Ji (a2 : Int) (s1_ : (Int × Int × Int × Int)) : Option ((Int × Int × Int × Int) ⊕ Int) :=
 cond (decide (s1_.2.2.2 < a2)) ((cond ((Int.tmod s1_.1 2) == 1) (some (IntKind.i64.wrap (s1_.2.1 + s1_.2.2.1))) (some s1_.2.1)).bind fun (z3 : Int) => some (.inl ((IntKind.u64.wrap (Int.tdiv s1_.1 2)), z3, (IntKind.i64.wrap (2 * s1_.2.2.1)), (IntKind.i64.wrap (s1_.2.2.2 + 1))))) (some (.inr s1_.2.1))
noncomputable def Z0 (a0 : Int) (a1 : Int) (a2 : Int) : Option Int :=
 (Yu (Jh a1) (a0, 0)).bind fun (z2 : Int) => (Yu (Ji a2) (z2, 0, 1, 0)).bind fun (z6 : Int) => some z6
noncomputable def Yi (a0 : Int) : Option Z6 :=
 cond (a0 == 0) (some (⟨0, 0, 0, 0, 0, 0, 0, false⟩ : Z6)) ((Z0 a0 2 30).bind fun y2 => (cond (decide (536870912 ≤ y2)) (some (IntKind.i64.wrap (y2 - 1073741824))) (some y2)).bind fun (z3 : Int) => (Z0 a0 0 2).bind fun y6 => cond (y6 == 0) ((Z0 a0 32 16).bind fun y9 => (Z0 a0 48 16).bind fun y10 => some (⟨1, z3, y9, y10, 0, 0, 0, false⟩ : Z6)) (cond (y6 == 1) ((Z0 a0 32 3).bind fun y13 => (Z0 a0 35 29).bind fun y14 => some (⟨2, z3, 0, 0, y13, y14, 0, false⟩ : Z6)) (cond (y6 == 2) ((Z0 a0 3 29).bind fun y18 => (Z0 a0 32 32).bind fun y19 => (Z0 a0 2 1).bind fun y20 => some (⟨3, y18, 0, 0, 0, 0, y19, (y20 == 1)⟩ : Z6)) (some (⟨4, 0, 0, 0, 0, 0, 0, false⟩ : Z6)))))
noncomputable def Xg (a0 : Z6) : Option Int :=
 cond (a0.Kind == 4) (some 9) (cond (cond (a0.Kind != 1) (a0.Kind != 2) false) (some 8) (some 0))
noncomputable def Jd (a0 : Z6) : Option Int :=
 cond (a0.Kind == 1) (some (IntKind.i64.wrap (a0.Data + a0.Ptrs))) (cond (a0.Kind != 2) (some (-1)) (cond (a0.Code == 7) (some (IntKind.i64.wrap (a0.Count + 1))) (cond (cond (cond (cond (decide (a0.Code < 0)) true (decide (6 < a0.Code))) true (decide (a0.Count < 0))) true (decide (536870912 ≤ a0.Count))) (some (-1)) ((cond (a0.Code == 0) (some (.inr ())) (cond (a0.Code == 1) (some (.inl 64)) (cond (a0.Code == 2) (some (.inl 8)) (cond (a0.Code == 3) (some (.inl 4)) (cond (a0.Code == 4) (some (.inl 2)) (some (.inl 1))))))).bind fun (z1 : (Int ⊕ Unit)) => match z1 with | .inl z1 => (Uk (z1 ≠ 0)).bind fun u8 => cond (decide (0 < (Int.tmod a0.Count z1))) ((Uk (z1 ≠ 0)).bind fun u10 => some (IntKind.i64.wrap ((IntKind.i64.wrap (Int.tdiv a0.Count z1)) + 1))) ((Uk (z1 ≠ 0)).bind fun u12 => some (IntKind.i64.wrap (Int.tdiv a0.Count z1))) | .inr z1 => some 0))))
structure Z4 where
 P : Z6
 Segment : Int
 At : Int
noncomputable def Xh (a0 : (List (List Int))) (a1 : Z4) : Option (Z4 × Int) :=
 (Jd a1.P).bind fun y2 => (cond (decide (a1.Segment < 0)) (some true) (cond (decide ((a0.length : Int) ≤ a1.Segment)) (some true) (cond (decide (a1.At < 0)) (some true) ((J5 a0 a1.Segment).bind fun x8 => cond (decide ((x8.length : Int) < a1.At)) (some true) (some (cond (cond (cond (cond (decide (a1.Segment < 0)) true (decide ((a0.length : Int) ≤ a1.Segment))) true (decide (a1.At < 0))) true (decide ((x8.length : Int) < a1.At))) true (decide ((IntKind.i64.wrap ((x8.length : Int) - a1.At)) < y2)))))))).bind fun (z5 : Bool) => cond z5 (some ((⟨⟨0, 0, 0, 0, 0, 0, 0, false⟩, 0, 0⟩ : Z4), 7)) (some ((⟨⟨a1.P.Kind, 0, a1.P.Data, a1.P.Ptrs, a1.P.Code, a1.P.Count, a1.P.Segment, a1.P.Double⟩, a1.Segment, a1.At⟩ : Z4), 0))
noncomputable def X6 (a0 : (List (List Int))) (a1 : Int) (a2 : Int) : Option (Z4 × Int) :=
 (Xo a0 a1 a2).bind fun y2 => cond (!y2) (some ((⟨⟨0, 0, 0, 0, 0, 0, 0, false⟩, 0, 0⟩ : Z4), 7)) ((J5 a0 a1).bind fun x6 => (J5 x6 a2).bind fun x7 => (Yi x7).bind fun y8 => cond (y8.Kind == 0) (some ((⟨⟨0, 0, 0, 0, 0, 0, 0, false⟩, 0, 0⟩ : Z4), 0)) (cond (cond (y8.Kind == 3) y8.Double false) (((Xo a0 y8.Segment y8.Off).bind fun y14 => cond y14 ((Xo a0 y8.Segment (IntKind.i64.wrap (y8.Off + 1))).bind fun y15 => some (cond (!y14) true (!y15))) (some true)).bind fun (z11 : Bool) => cond z11 (some ((⟨⟨0, 0, 0, 0, 0, 0, 0, false⟩, 0, 0⟩ : Z4), 7)) ((J5 a0 y8.Segment).bind fun x17 => (J5 x17 y8.Off).bind fun x18 => (Yi x18).bind fun y19 => (J5 x17 (IntKind.i64.wrap (y8.Off + 1))).bind fun x21 => (Yi x21).bind fun y22 => cond (cond (y19.Kind != 3) true y19.Double) (some ((⟨⟨0, 0, 0, 0, 0, 0, 0, false⟩, 0, 0⟩ : Z4), 8)) ((Xg y22).bind fun y24 => (cond (cond (y24 == 0) (y22.Off != 0) false) (some 8) (some y24)).bind fun (z25 : Int) => cond (z25 != 0) (some ((⟨⟨0, 0, 0, 0, 0, 0, 0, false⟩, 0, 0⟩ : Z4), z25)) ((Xh a0 (⟨y22, y19.Segment, y19.Off⟩ : Z4)).bind fun y28 => some (y28.1, y28.2))))) ((cond (y8.Kind == 3) ((Xo a0 y8.Segment y8.Off).bind fun y34 => cond (!y34) (some (.inr ())) ((J5 a0 y8.Segment).bind fun x35 => (J5 x35 y8.Off).bind fun x36 => (Yi x36).bind fun y37 => some (.inl (y8.Segment, y8.Off, y37.Kind, y37.Off, y37.Data, y37.Ptrs, y37.Code, y37.Count, y37.Segment, y37.Double)))) (some (.inl (a1, a2, y8.Kind, y8.Off, y8.Data, y8.Ptrs, y8.Code, y8.Count, y8.Segment, y8.Double)))).bind fun (z32 : ((Int × Int × Int × Int × Int × Int × Int × Int × Int × Bool) ⊕ Unit)) => match z32 with | .inl z32 => (Xg (⟨z32.2.2.1, z32.2.2.2.1, z32.2.2.2.2.1, z32.2.2.2.2.2.1, z32.2.2.2.2.2.2.1, z32.2.2.2.2.2.2.2.1, z32.2.2.2.2.2.2.2.2.1, z32.2.2.2.2.2.2.2.2.2⟩ : Z6)).bind fun y41 => cond (y41 != 0) (some ((⟨⟨0, 0, 0, 0, 0, 0, 0, false⟩, 0, 0⟩ : Z4), y41)) ((Xh a0 (⟨⟨z32.2.2.1, z32.2.2.2.1, z32.2.2.2.2.1, z32.2.2.2.2.2.1, z32.2.2.2.2.2.2.1, z32.2.2.2.2.2.2.2.1, z32.2.2.2.2.2.2.2.2.1, z32.2.2.2.2.2.2.2.2.2⟩, z32.1, (IntKind.i64.wrap ((IntKind.i64.wrap (z32.2.1 + 1)) + z32.2.2.2.1))⟩ : Z4)).bind fun y43 => some (y43.1, y43.2)) | .inr z32 => some ((⟨⟨0, 0, 0, 0, 0, 0, 0, false⟩, 0, 0⟩ : Z4), 7))))
structure Zm where
 Kind : Int
 S : Int
 At : Int
 Data : Int
 Ptrs : Int
 Count : Int
 N : Int
noncomputable def Qr (a0 : (List (List Int))) (a1 : Int) (a2 : Int) : Option (Zm × Int) :=
 (X6 a0 a1 a2).bind fun y2 => cond (cond (y2.2 != 0) true (y2.1.P.Kind == 0)) (some ((⟨0, 0, 0, 0, 0, 0, 0⟩ : Zm), y2.2)) (cond (y2.1.P.Kind == 1) (some ((⟨1, y2.1.Segment, y2.1.At, y2.1.P.Data, y2.1.P.Ptrs, 0, 0⟩ : Zm), 0)) (cond (decide (y2.1.P.Code < 7)) (some ((⟨(IntKind.i64.wrap (2 + y2.1.P.Code)), y2.1.Segment, y2.1.At, 0, 0, y2.1.P.Count, 0⟩ : Zm), 0)) ((J5 a0 y2.1.Segment).bind fun x5 => (J5 x5 y2.1.At).bind fun x6 => (Yi x6).bind fun y8 => cond (cond (cond (cond (x6 != 0) (y8.Kind != 1) false) true (decide (y8.Off < 0))) true (decide (y2.1.P.Count < (IntKind.i64.wrap (y8.Off * (IntKind.i64.wrap (y8.Data + y8.Ptrs))))))) (some ((⟨0, 0, 0, 0, 0, 0, 0⟩ : Zm), 8)) (some ((⟨9, y2.1.Segment, (IntKind.i64.wrap (y2.1.At + 1)), y8.Data, y8.Ptrs, y8.Off, 0⟩ : Zm), 0)))))
noncomputable def Yy (a0 : Zm) (a1 : (List (List Int))) : Option (List Int) :=
 cond (a0.Kind == 10) (some ([a0.N] : List Int)) (cond (a0.Kind != 1) (some ([] : (List Int))) ((J5 a1 a0.S).bind fun x4 => (Zfr x4 a0.At (IntKind.i64.wrap (a0.At + a0.Data))).bind fun l5 => (Zhe 8 ([] : List Int) l5).bind fun l6 => some l6))
noncomputable def Y3 (a0 : Zm) : Option Int :=
 cond (a0.Kind == 1) (some a0.Ptrs) (some a0.Count)
noncomputable def Kw (a0 : Zd) : Option (Int × Int) :=
 cond (a0.kind != 9) (some (0, 0)) (some (a0.words, a0.ptrs))
noncomputable def X4 (a1 : Int) (s0_ : (Int × Int)) : Option ((Int × Int) ⊕ Int) :=
 cond (decide (s0_.2 < (Int.tmod a1 64))) (some (.inl ((IntKind.u64.wrap (Int.tdiv s0_.1 2)), (IntKind.i64.wrap (s0_.2 + 1))))) (some (.inr s0_.1))
noncomputable def Kb (a0 : (List Int)) (a1 : Int) : Option Int :=
 cond (cond (decide (a1 < 0)) true (decide ((a0.length : Int) ≤ (IntKind.i64.wrap (Int.tdiv a1 64))))) (some 0) ((J5 a0 (IntKind.i64.wrap (Int.tdiv a1 64))).bind fun x2 => (Yu (X4 a1) (x2, 0)).bind fun (z4 : Int) => some (Int.tmod z4 2))
noncomputable def X5 (a0 : (List Int)) (a2 : Int) (y2 : Int) (s0_ : (Int × Int)) : Option ((Int × Int) ⊕ Int) :=
 cond (decide (0 ≤ s0_.2)) ((Kb a0 (IntKind.i64.wrap ((IntKind.i64.wrap (a2 * y2)) + s0_.2))).bind fun y3 => some (.inl ((IntKind.u64.wrap ((IntKind.u64.wrap (s0_.1 * 2)) + y3)), (IntKind.i64.wrap (s0_.2 - 1))))) (some (.inr s0_.1))
noncomputable def Kc (a0 : (List Int)) (a1 : Int) (a2 : Int) : Option Int :=
 (Jc a1).bind fun y2 => cond (cond (cond (decide (y2 < 1)) true (decide (a2 < 0))) true (decide (1099511627776 < a2))) (some 0) ((Yu (X5 a0 a2 y2) (0, (IntKind.i64.wrap (y2 - 1)))).bind fun (z5 : Int) => some z5)
noncomputable def Xp (a0 : Zm) (a1 : (List (List Int))) (a2 : Int) : Option (Zm × Int) :=
 (cond (decide (a2 < 0)) (some true) ((Y3 a0).bind fun y4 => some (cond (decide (a2 < 0)) true (decide (y4 ≤ a2))))).bind fun (z2 : Bool) => cond z2 (some ((⟨0, 0, 0, 0, 0, 0, 0⟩ : Zm), 0)) (cond (a0.Kind == 1) ((Qr a1 a0.S (IntKind.i64.wrap ((IntKind.i64.wrap (a0.At + a0.Data)) + a2))).bind fun y7 => some (y7.1, y7.2)) (cond (a0.Kind == 8) ((Qr a1 a0.S (IntKind.i64.wrap (a0.At + a2))).bind fun y9 => some (y9.1, y9.2)) (cond (a0.Kind == 9) (some ((⟨1, a0.S, (IntKind.i64.wrap (a0.At + (IntKind.i64.wrap (a2 * (IntKind.i64.wrap (a0.Data + a0.Ptrs)))))), a0.Data, a0.Ptrs, 0, 0⟩ : Zm), 0)) ((J5 a1 a0.S).bind fun x13 => (Zfr x13 a0.At (x13.length : Int)).bind fun l14 => (Kc l14 (IntKind.i64.wrap (a0.Kind - 2)) a2).bind fun y15 => some ((⟨10, 0, 0, 0, 0, 0, y15⟩ : Zm), 0)))))
noncomputable def Jo (a0 : Int) (a1 : Int) : Option Int :=
 some (if a1 < (if a0 < 0 then 0 else a0) then a1 else (if a0 < 0 then 0 else a0))
structure Zy where
 Depth : Int
 Weight : Int
 MaxD : Int
 MaxOut : Int
noncomputable def Ur (a0 : Zy) : Option Zy :=
 (Jo a0.Depth 64).bind fun y5 => (Jo a0.Weight 65536).bind fun y6 => (Jo a0.MaxD 4096).bind fun y7 => (Jo a0.MaxOut 131072).bind fun y8 => some (⟨y5, y6, y7, y8⟩ : Zy)
noncomputable def Y1 (a0 : Int) (a1 : Int) : Option Int :=
 cond (decide (a0 < 0)) (some 0) (cond (decide (a1 < a0)) (some a1) (some a0))
noncomputable def Qu (a0 : Zy) : Option Zy :=
 (Y1 a0.Depth 64).bind fun y5 => (Y1 a0.Weight 65536).bind fun y6 => (Y1 a0.MaxD 4096).bind fun y7 => (Y1 a0.MaxOut 131072).bind fun y8 => some (⟨y5, y6, y7, y8⟩ : Zy)
noncomputable def K8 (a0 : Zd) : Option Int :=
 (Y4 a0).bind fun y2 => cond (y2 == 0) (some 0) (((Y4 a0).bind fun y8 => cond (y8 == 9) ((Yl a0).bind fun y9 => some (cond (y8 == 9) (decide (0 < y9)) false)) (some false)).bind fun (z5 : Bool) => cond z5 (some 2) (some 1))
noncomputable def Ke (a0 : Zd) : Option Int :=
 (Y4 a0).bind fun y2 => cond (y2 == 0) (some 0) (cond (y2 == 1) ((Je a0).bind fun y5 => (Yl a0).bind fun y6 => some (IntKind.i64.wrap ((IntKind.i64.wrap (1 + y5)) + y6))) (cond (y2 == 9) ((Kw a0).bind fun y8 => (Yl a0).bind fun y10 => some (IntKind.i64.wrap (1 + (IntKind.i64.wrap (y10 * (IntKind.i64.wrap ((IntKind.i64.wrap (1 + y8.1)) + y8.2))))))) ((Yl a0).bind fun y12 => some (IntKind.i64.wrap (1 + y12)))))
structure Ze where
 left : Int
noncomputable def Xe (Ya : (Ze → Zd → Int → Option (Int × Ze))) (Z9 : (Ze → Zd → Int → Option (Int × Ze))) (Yc : (Ze → Zd → Int → Option (Int × Ze))) (a0 : Ze) (a1 : Zd) (a2 : Int) : Option (Int × Ze) :=
 ((K8 a1).bind fun y6 => cond (decide (a2 < y6)) (some true) ((Ke a1).bind fun y7 => some (cond (decide (a2 < y6)) true (decide (a0.left < y7))))).bind fun (z3 : Bool) => cond z3 (some (3, a0)) ((Ke a1).bind fun y10 => (Y4 a1).bind fun y12 => (cond (y12 == 1) (some (y12 == 1)) (some (y12 == 8))).bind fun (z13 : Bool) => cond z13 ((Z9 (⟨(IntKind.i64.wrap (a0.left - y10))⟩ : Ze) a1 (IntKind.i64.wrap (a2 - 1))).bind fun y16 => some (y16.1, y16.2)) (cond (y12 == 9) ((Yc (⟨(IntKind.i64.wrap (a0.left - y10))⟩ : Ze) a1 (IntKind.i64.wrap (a2 - 1))).bind fun y18 => some (y18.1, y18.2)) (some (0, (⟨(IntKind.i64.wrap (a0.left - y10))⟩ : Ze)))))
noncomputable def Xm (Ya : (Ze → Zd → Int → Option (Int × Ze))) (a1 : Zd) (a2 : Int) (y2 : Int) (s0_ : (Int × Int)) : Option ((Int × Int) ⊕ ((Int × Int) ⊕ Int)) :=
 cond (decide (s0_.1 < y2)) ((Qe a1 s0_.1).bind fun y4 => cond (y4.2 != 0) (some (.inr (.inl (y4.2, s0_.2)))) ((Ya (⟨s0_.2⟩ : Ze) y4.1 a2).bind fun y6 => cond (y6.1 != 0) (some (.inr (.inl (y6.1, y6.2.left)))) (some (.inl ((IntKind.i64.wrap (s0_.1 + 1)), y6.2.left))))) (some (.inr (.inr s0_.2)))
noncomputable def Xl (Ya : (Ze → Zd → Int → Option (Int × Ze))) (Z9 : (Ze → Zd → Int → Option (Int × Ze))) (Yc : (Ze → Zd → Int → Option (Int × Ze))) (a0 : Ze) (a1 : Zd) (a2 : Int) : Option (Int × Ze) :=
 (Yl a1).bind fun y2 => (Yu (Xm Ya a1 a2 y2) (0, a0.left)).bind fun (z10 : ((Int × Int) ⊕ Int)) => match z10 with | .inl z10 => some (z10.1, (⟨z10.2⟩ : Ze)) | .inr z10 => some (0, (⟨z10⟩ : Ze))
noncomputable def Y6 (Z9 : (Ze → Zd → Int → Option (Int × Ze))) (a1 : Zd) (a2 : Int) (y2 : Int) (s0_ : (Int × Int)) : Option ((Int × Int) ⊕ ((Int × Int) ⊕ Int)) :=
 cond (decide (s0_.1 < y2)) ((Qe a1 s0_.1).bind fun y4 => cond (y4.2 != 0) (some (.inr (.inl (y4.2, s0_.2)))) ((Z9 (⟨s0_.2⟩ : Ze) y4.1 (IntKind.i64.wrap (a2 - 1))).bind fun y6 => cond (y6.1 != 0) (some (.inr (.inl (y6.1, y6.2.left)))) (some (.inl ((IntKind.i64.wrap (s0_.1 + 1)), y6.2.left))))) (some (.inr (.inr s0_.2)))
noncomputable def Y5 (Ya : (Ze → Zd → Int → Option (Int × Ze))) (Z9 : (Ze → Zd → Int → Option (Int × Ze))) (Yc : (Ze → Zd → Int → Option (Int × Ze))) (a0 : Ze) (a1 : Zd) (a2 : Int) : Option (Int × Ze) :=
 (Yl a1).bind fun y2 => (Yu (Y6 Z9 a1 a2 y2) (0, a0.left)).bind fun (z10 : ((Int × Int) ⊕ Int)) => match z10 with | .inl z10 => some (z10.1, (⟨z10.2⟩ : Ze)) | .inr z10 => some (0, (⟨z10⟩ : Ze))
noncomputable def Zp : Nat → ((Ze → Zd → Int → Option (Int × Ze)) × (Ze → Zd → Int → Option (Int × Ze)) × (Ze → Zd → Int → Option (Int × Ze)))
 | 0 => ((fun _ _ _ => none), (fun _ _ _ => none), (fun _ _ _ => none))
 | k + 1 => (Xe ((Zp k).1) ((Zp k).2.1) ((Zp k).2.2), Xl ((Zp k).1) ((Zp k).2.1) ((Zp k).2.2), Y5 ((Zp k).1) ((Zp k).2.1) ((Zp k).2.2))
noncomputable def K2 (a0 : Ze) (a1 : Zd) (a2 : Int) : Option (Int × Ze) := lim fun k => (Zp k).1 a0 a1 a2
noncomputable def J7 (a0 : (Option Zk)) (a1 : Zy) : Option (Int × Int) :=
 (Ur a1).bind fun y2 => (Vu a0).bind fun y4 => cond (y4.2 != 0) (some (0, y4.2)) ((K2 (⟨y2.Weight⟩ : Ze) y4.1 y2.Depth).bind fun y6 => cond (y6.1 != 0) (some (0, y6.1)) (some ((IntKind.i64.wrap (y2.Weight - y6.2.left)), 0)))
noncomputable def Jb  : Option Bool :=
 (U4 ([([4294967296, 7] : List Int)] : List (List Int))).bind fun y2 => (J7 y2 (⟨1, 2, 0, 0⟩ : Zy)).bind fun y4 => (J7 y2 (⟨1, 1, 0, 0⟩ : Zy)).bind fun y6 => some (cond (cond (y4.1 == 2) (y4.2 == 0) false) (y6.2 == 3) false)
noncomputable def Ja (a0 : Zy) : Option Zy :=
 (cond (decide (3000 < a0.Weight)) (some 3000) (some a0.Weight)).bind fun (z1 : Int) => some (⟨a0.Depth, z1, a0.MaxD, a0.MaxOut⟩ : Zy)
structure Zo where
 Kind : Int
 Words : (List Int)
 Kids : (List Zo)
noncomputable def Xk (Yg : ((List (List Int)) → Zm → Int → Int → Option (Zo × Int × Int))) (Yt : ((List (List Int)) → Zm → Int → Int → Option (Zo × Int × Int))) (a0 : (List (List Int))) (a1 : Zm) (a2 : Int) (s0_ : (Int × Int × (List Zo))) : Option ((Int × Int × (List Zo)) ⊕ ((Int × Int × (List Zo)) ⊕ (Int × (List Zo)))) :=
 (Y3 a1).bind fun y10 => cond (decide (s0_.2.1 < y10)) ((Xp a1 a0 s0_.2.1).bind fun y12 => cond (y12.2 != 0) (some (.inr (.inl (s0_.1, y12.2, s0_.2.2)))) ((Yy y12.1 a0).bind fun y14 => (cond (a1.Kind == 9) ((Yt a0 y12.1 (IntKind.i64.wrap (a2 - 2)) s0_.1).bind fun y16 => some (y16.2.1, y16.2.2, y16.1.Kind, y16.1.Words, y16.1.Kids)) (cond (cond (a1.Kind == 1) true (a1.Kind == 8)) ((Yg a0 y12.1 (IntKind.i64.wrap (a2 - 1)) s0_.1).bind fun y17 => some (y17.2.1, y17.2.2, y17.1.Kind, y17.1.Words, y17.1.Kids)) (some (s0_.1, y12.2, y12.1.Kind, y14, ([] : (List Zo)))))).bind fun (z15 : (Int × Int × Int × (List Int) × (List Zo))) => cond (z15.2.1 != 0) (some (.inr (.inl (z15.1, z15.2.1, s0_.2.2)))) ((Zhe 56 s0_.2.2 ([(⟨z15.2.2.1, z15.2.2.2.1, z15.2.2.2.2⟩ : Zo)] : List Zo)).bind fun l20 => some (.inl (z15.1, (IntKind.i64.wrap (s0_.2.1 + 1)), l20))))) (some (.inr (.inr (s0_.1, s0_.2.2))))
noncomputable def Xj (Yg : ((List (List Int)) → Zm → Int → Int → Option (Zo × Int × Int))) (Yt : ((List (List Int)) → Zm → Int → Int → Option (Zo × Int × Int))) (a0 : (List (List Int))) (a1 : Zm) (a2 : Int) (a3 : Int) : Option (Zo × Int × Int) :=
 (Yy a1 a0).bind fun y2 => cond (a1.Kind == 0) (some ((⟨a1.Kind, y2, []⟩ : Zo), a3, 0)) (cond (cond (decide (a2 < 1)) true (cond (cond (a1.Kind == 9) (decide (0 < a1.Count)) false) (decide (a2 < 2)) false)) (some ((⟨a1.Kind, y2, []⟩ : Zo), a3, 3)) ((Y3 a1).bind fun y4 => (cond (a1.Kind == 1) (some (IntKind.i64.wrap ((IntKind.i64.wrap (1 + a1.Data)) + a1.Ptrs))) (some (IntKind.i64.wrap (1 + y4)))).bind fun (z5 : Int) => (cond (a1.Kind == 9) (some (IntKind.i64.wrap (1 + (IntKind.i64.wrap (a1.Count * (IntKind.i64.wrap ((IntKind.i64.wrap (1 + a1.Data)) + a1.Ptrs))))))) (some z5)).bind fun (z7 : Int) => cond (decide (a3 < z7)) (some ((⟨a1.Kind, y2, []⟩ : Zo), a3, 3)) ((Yu (Xk Yg Yt a0 a1 a2) ((IntKind.i64.wrap (a3 - z7)), 0, ([] : List Zo))).bind fun (z24 : ((Int × Int × (List Zo)) ⊕ (Int × (List Zo)))) => match z24 with | .inl z24 => some ((⟨a1.Kind, y2, z24.2.2⟩ : Zo), z24.1, z24.2.1) | .inr z24 => some ((⟨a1.Kind, y2, z24.2⟩ : Zo), z24.1, 0))))
noncomputable def Qj (Yg : ((List (List Int)) → Zm → Int → Int → Option (Zo × Int × Int))) (a0 : (List (List Int))) (a1 : Zm) (a2 : Int) (s0_ : (Int × Int × (List Zo))) : Option ((Int × Int × (List Zo)) ⊕ ((Int × Int × (List Zo)) ⊕ (Int × (List Zo)))) :=
 cond (decide (s0_.2.1 < a1.Ptrs)) ((Xp a1 a0 s0_.2.1).bind fun y4 => cond (y4.2 != 0) (some (.inr (.inl (s0_.1, y4.2, s0_.2.2)))) ((Yg a0 y4.1 a2 s0_.1).bind fun y6 => cond (y6.2.2 != 0) (some (.inr (.inl (y6.2.1, y6.2.2, s0_.2.2)))) ((Zhe 56 s0_.2.2 ([y6.1] : List Zo)).bind fun l7 => some (.inl (y6.2.1, (IntKind.i64.wrap (s0_.2.1 + 1)), l7))))) (some (.inr (.inr (s0_.1, s0_.2.2))))
noncomputable def Qo (Yg : ((List (List Int)) → Zm → Int → Int → Option (Zo × Int × Int))) (Yt : ((List (List Int)) → Zm → Int → Int → Option (Zo × Int × Int))) (a0 : (List (List Int))) (a1 : Zm) (a2 : Int) (a3 : Int) : Option (Zo × Int × Int) :=
 (Yy a1 a0).bind fun y2 => (Yu (Qj Yg a0 a1 a2) (a3, 0, ([] : List Zo))).bind fun (z11 : ((Int × Int × (List Zo)) ⊕ (Int × (List Zo)))) => match z11 with | .inl z11 => some ((⟨1, y2, z11.2.2⟩ : Zo), z11.1, z11.2.1) | .inr z11 => some ((⟨1, y2, z11.2⟩ : Zo), z11.1, 0)
noncomputable def Yd : Nat → (((List (List Int)) → Zm → Int → Int → Option (Zo × Int × Int)) × ((List (List Int)) → Zm → Int → Int → Option (Zo × Int × Int)))
 | 0 => ((fun _ _ _ _ => none), (fun _ _ _ _ => none))
 | k + 1 => (Xj ((Yd k).1) ((Yd k).2), Qo ((Yd k).1) ((Yd k).2))
noncomputable def K6 (a0 : (List (List Int))) (a1 : Zm) (a2 : Int) (a3 : Int) : Option (Zo × Int × Int) := lim fun k => (Yd k).1 a0 a1 a2 a3
noncomputable def Qv (a0 : (List (List Int))) (a1 : Zy) : Option (Zo × Int × Int) :=
 (Qu a1).bind fun y2 => (Qr a0 0 0).bind fun y4 => cond (y4.2 != 0) (some ((⟨0, [], []⟩ : Zo), 0, y4.2)) ((K6 a0 y4.1 y2.Depth y2.Weight).bind fun y6 => cond (y6.2.2 != 0) (some ((⟨0, [], []⟩ : Zo), 0, y6.2.2)) (some (y6.1, (IntKind.i64.wrap (y2.Weight - y6.2.1)), 0)))
noncomputable def Qf (a0 : (List (List Int))) (a1 : Zy) : Option Bool :=
 (Ja a1).bind fun y2 => (U4 a0).bind fun y5 => (J7 y5 y2).bind fun y6 => (Qv a0 y2).bind fun y8 => (cond (y6.1 == y8.2.1) (cond (y6.2 == y8.2.2) ((Jb).bind fun y12 => some (cond (cond (y6.1 == y8.2.1) (y6.2 == y8.2.2) false) y12 false)) (some false)) (some false)).bind fun (z10 : Bool) => some z10
end Go.Proofs.Ytmlhokaflhlhbaa
