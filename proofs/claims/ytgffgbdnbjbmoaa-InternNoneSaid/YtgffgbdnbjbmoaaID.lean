/- Part ID of this seat's mirrors: functions of the seat's program, and the plain functions that they are; each theorem bears its own conditions. -/
import Derived.Test.YtgffgbdnbjbmoaaH26
namespace Go.Proofs.Ytgffgbdnbjbmoaa
open Go.RowKit
set_option linter.unusedVariables false
set_option linter.unusedSimpArgs false
set_option maxRecDepth 100000
set_option maxHeartbeats 4000000
noncomputable def Yk (a0 : List Int) : Option (List Int) :=
 Zgt 8 ([] : List Int) a0
noncomputable def Qv (a0 : (List (List Int))) (s0_ : (Int × (List (List Int)))) : Option ((Int × (List (List Int))) ⊕ (List (List Int))) :=
 cond (decide (s0_.1 < (a0.length : Int))) ((Jf a0 s0_.1).bind fun x4 => (Yk x4).bind fun y5 => (Jf s0_.2 s0_.1).bind fun x6 => some (.inl ((IntKind.i64.wrap (s0_.1 + 1)), (Zbj s0_.2 s0_.1 y5)))) (some (.inr s0_.2))
noncomputable def Uc (a0 : (List (List Int))) : Option (List (List Int)) :=
 (Zfa 24 (a0.length : Int) ([] : (List Int))).bind fun l2 => (Z6 (Qv a0) (0, l2)).bind fun (z9 : (List (List Int))) => some z9
structure Zf where
 segments : (List (List Int))
 size : Int
 left : Int
noncomputable def Zba (a0 : (List (List Int))) : Option (Option Zf) :=
 (Uc a0).bind fun y2 => some (some (⟨y2, 0, 0⟩ : Zf))
noncomputable def K2 (a0 : (Option Zf)) : Option Int :=
 cond (Option.isNone a0) (some 0) ((a0).bind fun x4 => some (x4.segments.length : Int))
noncomputable def Xx (a0 : (Option Zf)) (a1 : Int) : Option Bool :=
 (cond (decide (0 ≤ a1)) ((K2 a0).bind fun y4 => some (cond (decide (0 ≤ a1)) (decide (a1 < y4)) false)) (some false)).bind fun (z2 : Bool) => some z2
noncomputable def Qc (a0 : (Option Zf)) (a1 : Int) : Option Int :=
 (Xx a0 a1).bind fun y2 => cond (!y2) (some 0) ((a0).bind fun x5 => (Jf x5.segments a1).bind fun x6 => some (x6.length : Int))
noncomputable def Xt (a0 : (Option Zf)) (a1 : Int) (a2 : Int) (a3 : Int) : Option Bool :=
 ((Xx a0 a1).bind fun y8 => cond y8 (cond (decide (0 ≤ a2)) (cond (decide (0 ≤ a3)) ((Qc a0 a1).bind fun y9 => cond (decide (a3 ≤ y9)) ((Qc a0 a1).bind fun y10 => some (cond (cond (cond (cond y8 (decide (0 ≤ a2)) false) (decide (0 ≤ a3)) false) (decide (a3 ≤ y9)) false) (decide (a2 ≤ (IntKind.i64.wrap (y10 - a3)))) false)) (some false)) (some false)) (some false)) (some false)).bind fun (z4 : Bool) => some z4
noncomputable def Y6 (a0 : (Option Zf)) (a1 : Int) (a2 : Int) : Option (Int × Bool) :=
 (Xt a0 a1 a2 1).bind fun y2 => cond (!y2) (some (0, false)) ((a0).bind fun x6 => (Jf x6.segments a1).bind fun x7 => (Jf x7 a2).bind fun x8 => some (x8, true))
noncomputable def U3 (a0 : Int) : Option Int :=
 some (IntKind.i64.wrap (Int.fdiv (IntKind.i32.wrap (IntKind.u32.wrap a0)) (2 ^ min (Int.toNat 2) 32)))
noncomputable def Y3 (a0 : Int) (a1 : Int) (a2 : Int) : Option Int :=
 (Qb (0 ≤ a1)).bind fun u3 => (Qb (0 ≤ a2)).bind fun u4 => some (IntKind.i64.wrap (IntKind.u64.wrap (K6 .u64 (Int.fdiv a0 (2 ^ min (Int.toNat a1) 64)) (IntKind.u64.wrap ((IntKind.u64.wrap (1 * 2 ^ min (Int.toNat a2) 64)) - 1)))))
structure Yg where
 Kind : Int
 Off : Int
 Data : Int
 Ptrs : Int
 Code : Int
 Count : Int
 Segment : Int
 Double : Bool
noncomputable def Qg (a0 : Int) : Option Yg :=
 cond (a0 == 0) (some (⟨0, 0, 0, 0, 0, 0, 0, false⟩ : Yg)) (cond ((IntKind.u64.wrap (K6 .u64 a0 3)) == 0) ((U3 a0).bind fun y4 => (Y3 a0 32 16).bind fun y5 => (Y3 a0 48 16).bind fun y6 => some (⟨1, y4, y5, y6, 0, 0, 0, false⟩ : Yg)) (cond ((IntKind.u64.wrap (K6 .u64 a0 3)) == 1) ((U3 a0).bind fun y10 => (Y3 a0 32 3).bind fun y11 => (Y3 a0 35 29).bind fun y12 => some (⟨2, y10, 0, 0, y11, y12, 0, false⟩ : Yg)) (cond ((IntKind.u64.wrap (K6 .u64 a0 3)) == 2) ((Y3 a0 3 29).bind fun y15 => (Y3 a0 32 32).bind fun y16 => some (⟨3, y15, 0, 0, 0, 0, y16, ((IntKind.u64.wrap (K6 .u64 (Int.fdiv a0 (2 ^ min (Int.toNat 2) 64)) 1)) == 1)⟩ : Yg)) (some (⟨4, 0, 0, 0, 0, 0, 0, false⟩ : Yg)))))
noncomputable def Q4 (a0 : (Option Zf)) (a1 : Int) (a2 : Int) (a3 : Int) : Option ((List Int) × Bool) :=
 (Xt a0 a1 a2 a3).bind fun y2 => cond (!y2) (some (([] : (List Int)), false)) ((a0).bind fun x7 => (Jf x7.segments a1).bind fun x8 => (Zgh x8 a2 (IntKind.i64.wrap (a2 + a3))).bind fun l9 => (Yk l9).bind fun y10 => some (y10, true))
noncomputable def Zaj (a0 : Int) : Option Int :=
 ((some (⟨[0, 1, 8, 16, 32, 64, 64], rfl⟩ : (Arr Int 7)))).bind fun y6 => ((some (⟨[0, 0, 0, 0, 0, 0, 0], rfl⟩ : (Arr Int 7)))).bind fun y8 => (Jf y6.1 a0).bind fun x12 => some x12
noncomputable def Ki (a0 : Yg) : Option (Int × Bool) :=
 cond (a0.Kind == 1) (some ((IntKind.i64.wrap (a0.Data + a0.Ptrs)), true)) (cond (cond (a0.Kind == 2) (a0.Code == 7) false) (some ((IntKind.i64.wrap (a0.Count + 1)), true)) (cond (cond (cond (cond (cond (a0.Kind == 2) (decide (0 ≤ a0.Code)) false) (decide (a0.Code < 7)) false) (decide (0 ≤ a0.Count)) false) (decide (a0.Count ≤ 536870911)) false) ((Zaj a0.Code).bind fun y2 => some ((IntKind.i64.wrap (Int.tdiv (IntKind.i64.wrap ((IntKind.i64.wrap (a0.Count * y2)) + 63)) 64)), true)) (some (0, false))))
structure Yv where
 P : Yg
 Segment : Int
 At : Int
noncomputable def J5 (a0 : (Option Zf)) (a1 : Yg) (a2 : Int) (a3 : Int) : Option (Yv × Int) :=
 cond (a1.Kind == 4) (some ((⟨⟨0, 0, 0, 0, 0, 0, 0, false⟩, 0, 0⟩ : Yv), 9)) ((Ki a1).bind fun y2 => cond (!y2.2) (some ((⟨⟨0, 0, 0, 0, 0, 0, 0, false⟩, 0, 0⟩ : Yv), 8)) ((Xt a0 a2 a3 y2.1).bind fun y4 => cond (!y4) (some ((⟨⟨0, 0, 0, 0, 0, 0, 0, false⟩, 0, 0⟩ : Yv), 7)) (some ((⟨⟨a1.Kind, 0, a1.Data, a1.Ptrs, a1.Code, a1.Count, a1.Segment, a1.Double⟩, a2, a3⟩ : Yv), 0))))
noncomputable def U1 (a0 : (Option Zf)) (a1 : Int) (a2 : Int) : Option (Yv × Int) :=
 (Q4 a0 a1 a2 2).bind fun y2 => cond (!y2.2) (some ((⟨⟨0, 0, 0, 0, 0, 0, 0, false⟩, 0, 0⟩ : Yv), 7)) ((Jf y2.1 0).bind fun x3 => (Qg x3).bind fun y4 => (Jf y2.1 1).bind fun x5 => (Qg x5).bind fun y6 => cond (cond (y4.Kind != 3) true y4.Double) (some ((⟨⟨0, 0, 0, 0, 0, 0, 0, false⟩, 0, 0⟩ : Yv), 8)) (cond (cond (y6.Kind != 4) (y6.Off != 0) false) (some ((⟨⟨0, 0, 0, 0, 0, 0, 0, false⟩, 0, 0⟩ : Yv), 8)) ((J5 a0 y6 y4.Segment y4.Off).bind fun y8 => some (y8.1, y8.2))))
noncomputable def U2 (a0 : (Option Zf)) (a1 : Int) (a2 : Int) : Option (Yv × Int) :=
 (Y6 a0 a1 a2).bind fun y2 => cond (!y2.2) (some ((⟨⟨0, 0, 0, 0, 0, 0, 0, false⟩, 0, 0⟩ : Yv), 7)) ((Qg y2.1).bind fun y4 => (J5 a0 y4 a1 (IntKind.i64.wrap ((IntKind.i64.wrap (a2 + 1)) + y4.Off))).bind fun y6 => some (y6.1, y6.2))
noncomputable def U0 (a0 : (Option Zf)) (a1 : Int) (a2 : Int) : Option (Yv × Int) :=
 (Y6 a0 a1 a2).bind fun y2 => cond (!y2.2) (some ((⟨⟨0, 0, 0, 0, 0, 0, 0, false⟩, 0, 0⟩ : Yv), 7)) ((Qg y2.1).bind fun y4 => cond (y4.Kind == 0) (some ((⟨⟨0, 0, 0, 0, 0, 0, 0, false⟩, 0, 0⟩ : Yv), 0)) (cond (cond (y4.Kind == 3) y4.Double false) ((U1 a0 y4.Segment y4.Off).bind fun y6 => some (y6.1, y6.2)) (cond (y4.Kind == 3) ((U2 a0 y4.Segment y4.Off).bind fun y8 => some (y8.1, y8.2)) ((J5 a0 y4 a1 (IntKind.i64.wrap ((IntKind.i64.wrap (a2 + 1)) + y4.Off))).bind fun y10 => some (y10.1, y10.2)))))
structure Za where
 a : (Option Zf)
 kind : Int
 segment : Int
 at_ : Int
 words : Int
 ptrs : Int
 count : Int
 code : Int
 index : Int
noncomputable def J6 (a0 : Za) : Option (Za × Int) :=
 (Y6 a0.a a0.segment a0.at_).bind fun y2 => (Qg y2.1).bind fun y4 => cond (cond (cond (cond (y4.Kind != 0) (y4.Kind != 1) false) true (decide (y4.Off < 0))) true (decide (a0.count < (IntKind.i64.wrap (y4.Off * (IntKind.i64.wrap (y4.Data + y4.Ptrs))))))) (some ((⟨(none : (Option Zf)), 0, 0, 0, 0, 0, 0, 0, 0⟩ : Za), 8)) (some ((⟨a0.a, a0.kind, a0.segment, a0.at_, y4.Data, y4.Ptrs, y4.Off, a0.code, a0.index⟩ : Za), 0))
noncomputable def Vd (a0 : (Option Zf)) (a1 : Int) (a2 : Int) : Option (Za × Int) :=
 (U0 a0 a1 a2).bind fun y2 => cond (cond (y2.2 != 0) true (y2.1.P.Kind == 0)) (some ((⟨(none : (Option Zf)), 0, 0, 0, 0, 0, 0, 0, 0⟩ : Za), y2.2)) (cond (y2.1.P.Kind == 1) (some ((⟨a0, 1, y2.1.Segment, y2.1.At, y2.1.P.Data, y2.1.P.Ptrs, 0, 0, 0⟩ : Za), 0)) (cond (y2.1.P.Code == 7) ((J6 (⟨a0, (IntKind.i64.wrap (y2.1.P.Code + 2)), y2.1.Segment, y2.1.At, 0, 0, y2.1.P.Count, 0, 0⟩ : Za)).bind fun y4 => some (y4.1, y4.2)) (some ((⟨a0, (IntKind.i64.wrap (y2.1.P.Code + 2)), y2.1.Segment, y2.1.At, 0, 0, y2.1.P.Count, 0, 0⟩ : Za), 0))))
noncomputable def Ud (a0 : (Option Zf)) : Option (Za × Int) :=
 (Vd a0 0 0).bind fun y2 => some (y2.1, y2.2)
noncomputable def Xg (a0 : (List (List Int))) : Option Za :=
 (Zba a0).bind fun y3 => (Ud y3).bind fun y4 => some y4.1
noncomputable def Ye (a0 : Za) : Option Int :=
 some a0.kind
noncomputable def Yr (a0 : Za) : Option Int :=
 cond (a0.kind == 1) (some a0.ptrs) (some a0.count)
noncomputable def Y1 (a0 : Za) (a1 : Int) : Option (Za × Int) :=
 (cond (decide (a1 < 0)) (some true) ((Yr a0).bind fun y4 => some (cond (decide (a1 < 0)) true (decide (y4 ≤ a1))))).bind fun (z2 : Bool) => cond z2 (some ((⟨(none : (Option Zf)), 0, 0, 0, 0, 0, 0, 0, 0⟩ : Za), 0)) (cond (a0.kind == 1) ((Vd a0.a a0.segment (IntKind.i64.wrap ((IntKind.i64.wrap (a0.at_ + a0.words)) + a1))).bind fun y7 => some (y7.1, y7.2)) (cond (a0.kind == 8) ((Vd a0.a a0.segment (IntKind.i64.wrap (a0.at_ + a1))).bind fun y9 => some (y9.1, y9.2)) (cond (a0.kind == 9) (some ((⟨a0.a, 1, a0.segment, (IntKind.i64.wrap ((IntKind.i64.wrap (a0.at_ + 1)) + (IntKind.i64.wrap (a1 * (IntKind.i64.wrap (a0.words + a0.ptrs)))))), a0.words, a0.ptrs, 0, 0, 0⟩ : Za), 0)) (some ((⟨a0.a, 10, a0.segment, a0.at_, 0, 0, 0, (IntKind.i64.wrap (a0.kind - 2)), a1⟩ : Za), 0)))))
noncomputable def Uz (a0 : Za) (s0_ : Int) : Option (Int ⊕ ((Int × Int) ⊕ Unit)) :=
 cond (decide (0 < s0_)) ((Y1 a0 (IntKind.i64.wrap (s0_ - 1))).bind fun y4 => (cond (y4.2 != 0) (some true) ((Ye y4.1).bind fun y8 => some (cond (y4.2 != 0) true (y8 != 0)))).bind fun (z6 : Bool) => cond z6 (some (.inr (.inl (s0_, y4.2)))) (some (.inl (IntKind.i64.wrap (s0_ - 1))))) (some (.inr (.inr ())))
noncomputable def Zai (a0 : Za) : Option (Int × Int) :=
 (Yr a0).bind fun y2 => (Z6 (Uz a0) y2).bind fun (z12 : ((Int × Int) ⊕ Unit)) => match z12 with | .inl z12 => some (z12.1, z12.2) | .inr z12 => some (0, 0)
noncomputable def J4 (a0 : Za) : Option (Int × Int) :=
 (Ye a0).bind fun y2 => cond (y2 != 1) ((Yr a0).bind fun y4 => some (y4, 0)) ((Zai a0).bind fun y6 => cond (y6.2 != 0) (some (0, y6.2)) (some (y6.1, 0)))
structure Zk where
 sum : Int
 left : Int
noncomputable def Xa (a0 : Zk) (a1 : Int) : Option Zk :=
 some (⟨(IntKind.u64.wrap (Zah .u64 (IntKind.u64.wrap ((IntKind.u64.wrap (Zah .u64 a0.sum a1)) * 11400714819323198485)) (Int.fdiv (IntKind.u64.wrap ((IntKind.u64.wrap (Zah .u64 a0.sum a1)) * 11400714819323198485)) (2 ^ min (Int.toNat 32) 64)))), a0.left⟩ : Zk)
noncomputable def Qd (a0 : Za) : Option Int :=
 cond (a0.kind == 1) (some a0.words) (cond (a0.kind == 10) (some 1) (some 0))
noncomputable def Vy (a0 : Int) : Option (Int × Bool) :=
 ((some (⟨[0, 1, 8, 16, 32, 64], rfl⟩ : (Arr Int 6)))).bind fun y6 => ((some (⟨[0, 0, 0, 0, 0, 0], rfl⟩ : (Arr Int 6)))).bind fun y8 => cond (cond (decide (a0 < 0)) true (decide (6 ≤ a0))) (some (0, false)) ((Jf y6.1 a0).bind fun x12 => some (x12, true))
noncomputable def Zbb (a0 : (List Int)) (a1 : Int) (a2 : Int) : Option Int :=
 (Vy a1).bind fun y2 => cond (cond (y2.1 == 0) true (decide (a2 < 0))) (some 0) ((Qb (y2.1 ≠ 0)).bind fun u4 => (Qb ((IntKind.i64.wrap (Int.tdiv 64 y2.1)) ≠ 0)).bind fun u6 => cond (decide ((a0.length : Int) ≤ (IntKind.i64.wrap (Int.tdiv a2 (IntKind.i64.wrap (Int.tdiv 64 y2.1)))))) (some 0) ((Qb ((IntKind.i64.wrap (Int.tdiv 64 y2.1)) ≠ 0)).bind fun u12 => (Jf a0 (IntKind.i64.wrap (Int.tdiv a2 (IntKind.i64.wrap (Int.tdiv 64 y2.1))))).bind fun x13 => (Qb ((IntKind.i64.wrap (Int.tdiv 64 y2.1)) ≠ 0)).bind fun u14 => (Qb (0 ≤ (IntKind.i64.wrap ((Int.tmod a2 (IntKind.i64.wrap (Int.tdiv 64 y2.1))) * y2.1)))).bind fun u15 => (Qb (0 ≤ y2.1)).bind fun u16 => some (IntKind.u64.wrap (K6 .u64 (Int.fdiv x13 (2 ^ min (Int.toNat (IntKind.i64.wrap ((Int.tmod a2 (IntKind.i64.wrap (Int.tdiv 64 y2.1))) * y2.1))) 64)) (IntKind.u64.wrap ((IntKind.u64.wrap (1 * 2 ^ min (Int.toNat y2.1) 64)) - 1))))))
noncomputable def Qt (a0 : Za) : Option Int :=
 (Vy a0.code).bind fun y2 => cond (y2.1 == 0) (some 0) ((Qb (y2.1 ≠ 0)).bind fun u4 => (Qb ((IntKind.i64.wrap (Int.tdiv 64 y2.1)) ≠ 0)).bind fun u7 => (Y6 a0.a a0.segment (IntKind.i64.wrap (a0.at_ + (IntKind.i64.wrap (Int.tdiv a0.index (IntKind.i64.wrap (Int.tdiv 64 y2.1))))))).bind fun y8 => (Qb ((IntKind.i64.wrap (Int.tdiv 64 y2.1)) ≠ 0)).bind fun u11 => (Zbb ([y8.1] : List Int) a0.code (Int.tmod a0.index (IntKind.i64.wrap (Int.tdiv 64 y2.1)))).bind fun y12 => some y12)
noncomputable def Xh (a0 : Za) (a1 : Int) : Option Int :=
 (cond (decide (a1 < 0)) (some true) ((Qd a0).bind fun y4 => some (cond (decide (a1 < 0)) true (decide (y4 ≤ a1))))).bind fun (z2 : Bool) => cond z2 (some 0) (cond (a0.kind == 10) ((Qt a0).bind fun y7 => some y7) ((Y6 a0.a a0.segment (IntKind.i64.wrap (a0.at_ + a1))).bind fun y9 => some y9.1))
noncomputable def Uy (a0 : Za) (s0_ : Int) : Option (Int ⊕ Int) :=
 (cond (decide (0 < s0_)) ((Xh a0 (IntKind.i64.wrap (s0_ - 1))).bind fun y6 => some (cond (decide (0 < s0_)) (y6 == 0) false)) (some false)).bind fun (z4 : Bool) => cond z4 (some (.inl (IntKind.i64.wrap (s0_ - 1)))) (some (.inr s0_))
noncomputable def Va (a0 : Za) : Option Int :=
 (Qd a0).bind fun y2 => (Z6 (Uy a0) y2).bind fun (z9 : Int) => some z9
noncomputable def Y7 (a0 : Za) (y2 : Int) (s0_ : (Int × Int × Int)) : Option ((Int × Int × Int) ⊕ (Int × Int)) :=
 cond (decide (s0_.1 < y2)) ((Xh a0 s0_.1).bind fun y5 => (Xa (⟨s0_.2.1, s0_.2.2⟩ : Zk) y5).bind fun y6 => some (.inl ((IntKind.i64.wrap (s0_.1 + 1)), y6.sum, y6.left))) (some (.inr (s0_.2.1, s0_.2.2)))
noncomputable def Xj (a0 : Za) (a2 : Zk) : Option Zk :=
 (Va a0).bind fun y2 => (Xa a2 (IntKind.u64.wrap y2)).bind fun y4 => (Z6 (Y7 a0 y2) (0, y4.sum, y4.left)).bind fun (z8 : (Int × Int)) => some (⟨z8.1, z8.2⟩ : Zk)
noncomputable def Xm (Yu : (Zk → Za → Option (Int × Zk))) (a1 : Za) (y2 : (Int × Int)) (s0_ : (Int × Int × Int)) : Option ((Int × Int × Int) ⊕ ((Int × Int × Int) ⊕ (Int × Int))) :=
 cond (decide (s0_.1 < y2.1)) ((Y1 a1 s0_.1).bind fun y12 => cond (y12.2 != 0) (some (.inr (.inl (y12.2, s0_.2.1, s0_.2.2)))) ((Yu (⟨s0_.2.1, s0_.2.2⟩ : Zk) y12.1).bind fun y14 => cond (y14.1 != 0) (some (.inr (.inl (y14.1, y14.2.sum, y14.2.left)))) (some (.inl ((IntKind.i64.wrap (s0_.1 + 1)), y14.2.sum, y14.2.left))))) (some (.inr (.inr (s0_.2.1, s0_.2.2))))
noncomputable def Ys (Yu : (Zk → Za → Option (Int × Zk))) (a0 : Zk) (a1 : Za) : Option (Int × Zk) :=
 cond (a0.left == 0) (some (3, a0)) ((J4 a1).bind fun y2 => cond (y2.2 != 0) (some (y2.2, (⟨a0.sum, (IntKind.i64.wrap (a0.left - 1))⟩ : Zk))) ((Ye a1).bind fun y5 => (Xa (⟨a0.sum, (IntKind.i64.wrap (a0.left - 1))⟩ : Zk) (IntKind.u64.wrap y5)).bind fun y6 => (Xa y6 (IntKind.u64.wrap y2.1)).bind fun y8 => (Xj a1 y8).bind fun y10 => (Z6 (Xm Yu a1 y2) (0, y10.sum, y10.left)).bind fun (z18 : ((Int × Int × Int) ⊕ (Int × Int))) => match z18 with | .inl z18 => some (z18.1, (⟨z18.2.1, z18.2.2⟩ : Zk)) | .inr z18 => some (0, (⟨z18.1, z18.2⟩ : Zk))))
noncomputable def Z7 : Nat → (Zk → Za → Option (Int × Zk))
 | 0 => (fun _ _ => none)
 | k + 1 => Ys ((Z7 k))
noncomputable def Vc (a0 : Zk) (a1 : Za) : Option (Int × Zk) := lim fun k => (Z7 k) a0 a1
noncomputable def Vx (a0 : Za) : Option (Int × Int) :=
 (Vc (⟨0, 65537⟩ : Zk) a0).bind fun y2 => cond (y2.1 != 0) (some (0, y2.1)) (some (y2.2.sum, 0))
structure Zd where
 hash : Int
 r : Za
structure Zj where
 classes : (List Zd)
 places : (List Int)
noncomputable def Xb (a0 : (Option Zj)) (a1 : Int) : Option Int :=
 (a0).bind fun x3 => (Qb ((IntKind.u64.wrap (x3.places.length : Int)) ≠ 0)).bind fun u4 => some (IntKind.i64.wrap (Int.tmod a1 (IntKind.u64.wrap (x3.places.length : Int))))
noncomputable def Xz (a0 : (Option Zj)) (a1 : Int) : Option Int :=
 (a0).bind fun x3 => (Qb ((x3.places.length : Int) ≠ 0)).bind fun u4 => some (Int.tmod (IntKind.i64.wrap (a1 + 1)) (x3.places.length : Int))
noncomputable def Xv (a0 : Zj) (s0_ : (Int × (List Int))) (s1_ : Int) : Option (Int ⊕ Int) :=
 (Jf s0_.2 s1_).bind fun x8 => cond (x8 != 0) ((Xz (some (⟨a0.classes, s0_.2⟩ : Zj)) s1_).bind fun y9 => some (.inl y9)) (some (.inr s1_))
noncomputable def Xu (a0 : Zj) (s0_ : (Int × (List Int))) : Option ((Int × (List Int)) ⊕ (List Int)) :=
 cond (decide (s0_.1 < (a0.classes.length : Int))) ((Jf a0.classes s0_.1).bind fun x4 => (Xb (some (⟨a0.classes, s0_.2⟩ : Zj)) x4.hash).bind fun y6 => (Z6 (Xv a0 s0_) y6).bind fun (z11 : Int) => (Jf s0_.2 z11).bind fun x12 => some (.inl ((IntKind.i64.wrap (s0_.1 + 1)), (Zbj s0_.2 z11 (IntKind.i64.wrap (s0_.1 + 1)))))) (some (.inr s0_.2))
noncomputable def Xy (a0 : Zj) : Option Zj :=
 (Zfa 8 (if 16 < (IntKind.i64.wrap (2 * (a0.places.length : Int))) then (IntKind.i64.wrap (2 * (a0.places.length : Int))) else 16) (0 : Int)).bind fun l2 => (Z6 (Xu a0) (0, l2)).bind fun (z15 : (List Int)) => some (⟨a0.classes, z15⟩ : Zj)
noncomputable def Qj (a0 : Za) (a1 : Za) (y2 : Int) (s0_ : Int) : Option (Int ⊕ (Unit ⊕ Unit)) :=
 cond (decide (s0_ < y2)) ((Xh a0 s0_).bind fun y7 => (Xh a1 s0_).bind fun y8 => cond (y7 != y8) (some (.inr (.inl ()))) (some (.inl (IntKind.i64.wrap (s0_ + 1))))) (some (.inr (.inr ())))
noncomputable def Jb (a0 : Za) (a1 : Za) : Option Bool :=
 (Va a0).bind fun y2 => (Va a1).bind fun y4 => cond (y4 != y2) (some false) ((Z6 (Qj a0 a1 y2) 0).bind fun (z11 : (Unit ⊕ Unit)) => match z11 with | .inl z11 => some false | .inr z11 => some true)
structure Ze where
 left : Int
noncomputable def Yn (Z0 : (Ze → Za → Za → Option (Bool × Int × Ze))) (Zz : (Ze → Za → Za → Int → Option (Bool × Int × Ze))) (a0 : Ze) (a1 : Za) (a2 : Za) : Option (Bool × Int × Ze) :=
 cond (a0.left == 0) (some (false, 3, a0)) (((Ye a1).bind fun y8 => (Ye a2).bind fun y9 => cond (y8 != y9) (some true) ((Jb a1 a2).bind fun y10 => some (cond (y8 != y9) true (!y10)))).bind fun (z4 : Bool) => cond z4 (some (false, 0, (⟨(IntKind.i64.wrap (a0.left - 1))⟩ : Ze))) ((J4 a1).bind fun y13 => cond (y13.2 != 0) (some (false, y13.2, (⟨(IntKind.i64.wrap (a0.left - 1))⟩ : Ze))) ((J4 a2).bind fun y15 => cond (cond (y15.2 != 0) true (y13.1 != y15.1)) (some (false, y15.2, (⟨(IntKind.i64.wrap (a0.left - 1))⟩ : Ze))) ((Zz (⟨(IntKind.i64.wrap (a0.left - 1))⟩ : Ze) a1 a2 y13.1).bind fun y17 => some (y17.1, y17.2.1, y17.2.2)))))
noncomputable def Yb (Z0 : (Ze → Za → Za → Option (Bool × Int × Ze))) (a1 : Za) (a2 : Za) (a3 : Int) (s0_ : (Int × Int)) : Option ((Int × Int) ⊕ ((Int × Int) ⊕ Int)) :=
 cond (decide (s0_.1 < a3)) ((Y1 a1 s0_.1).bind fun y2 => cond (y2.2 != 0) (some (.inr (.inl (y2.2, s0_.2)))) ((Y1 a2 s0_.1).bind fun y4 => cond (y4.2 != 0) (some (.inr (.inl (y4.2, s0_.2)))) ((Z0 (⟨s0_.2⟩ : Ze) y2.1 y4.1).bind fun y6 => cond (cond (!y6.1) true (y6.2.1 != 0)) (some (.inr (.inl (y6.2.1, y6.2.2.left)))) (some (.inl ((IntKind.i64.wrap (s0_.1 + 1)), y6.2.2.left)))))) (some (.inr (.inr s0_.2)))
noncomputable def Yc (Z0 : (Ze → Za → Za → Option (Bool × Int × Ze))) (Zz : (Ze → Za → Za → Int → Option (Bool × Int × Ze))) (a0 : Ze) (a1 : Za) (a2 : Za) (a3 : Int) : Option (Bool × Int × Ze) :=
 (Z6 (Yb Z0 a1 a2 a3) (0, a0.left)).bind fun (z11 : ((Int × Int) ⊕ Int)) => match z11 with | .inl z11 => some (false, z11.1, (⟨z11.2⟩ : Ze)) | .inr z11 => some (true, 0, (⟨z11⟩ : Ze))
noncomputable def Zl : Nat → ((Ze → Za → Za → Option (Bool × Int × Ze)) × (Ze → Za → Za → Int → Option (Bool × Int × Ze)))
 | 0 => ((fun _ _ _ => none), (fun _ _ _ _ => none))
 | k + 1 => (Yn ((Zl k).1) ((Zl k).2), Yc ((Zl k).1) ((Zl k).2))
noncomputable def Kq (a0 : Ze) (a1 : Za) (a2 : Za) : Option (Bool × Int × Ze) := lim fun k => (Zl k).1 a0 a1 a2
noncomputable def Vb (a0 : Za) (a1 : Za) : Option (Bool × Int) :=
 (Kq (⟨65537⟩ : Ze) a0 a1).bind fun y2 => some (y2.1, y2.2.1)
noncomputable def Ql (a0 : Zd) (a1 : Zd) : Option (Bool × Int) :=
 cond (a0.hash != a1.hash) (some (false, 0)) ((Vb a0.r a1.r).bind fun y2 => some (y2.1, y2.2))
noncomputable def Ya (a1 : Zd) (z1 : ((List Zd) × (List Int))) (s0_ : Int) : Option (Int ⊕ ((Int × Int) ⊕ Int)) :=
 (Jf z1.2 s0_).bind fun x7 => cond (x7 != 0) ((Jf z1.2 s0_).bind fun x9 => (Jf z1.1 (IntKind.i64.wrap (x9 - 1))).bind fun x12 => (Ql x12 a1).bind fun y13 => cond (y13.2 != 0) (some (.inr (.inl (0, y13.2)))) (cond y13.1 (some (.inr (.inl ((IntKind.i64.wrap (x9 - 1)), 0)))) ((Xz (some (⟨z1.1, z1.2⟩ : Zj)) s0_).bind fun y14 => some (.inl y14)))) (some (.inr (.inr s0_)))
noncomputable def Qk (a0 : Zj) (a1 : Zd) : Option (Int × Int × Zj) :=
 (cond (decide ((a0.places.length : Int) ≤ (IntKind.i64.wrap (2 * (a0.classes.length : Int))))) ((Xy (⟨a0.classes, a0.places⟩ : Zj)).bind fun y2 => some (y2.classes, y2.places)) (some (a0.classes, a0.places))).bind fun (z1 : ((List Zd) × (List Int))) => (Xb (some (⟨z1.1, z1.2⟩ : Zj)) a1.hash).bind fun y5 => (Z6 (Ya a1 z1) y5).bind fun (z18 : ((Int × Int) ⊕ Int)) => match z18 with | .inl z18 => some (z18.1, z18.2, (⟨z1.1, z1.2⟩ : Zj)) | .inr z18 => (Zgt 80 z1.1 ([a1] : List Zd)).bind fun l20 => (Jf z1.2 z18).bind fun x23 => some ((IntKind.i64.wrap ((l20.length : Int) - 1)), 0, (⟨l20, (Zbj z1.2 z18 (l20.length : Int))⟩ : Zj))
noncomputable def Qu (a1 : Za) : Option (Int × Int) :=
 some (0, 1)
noncomputable def Jh (a1 : Za) (y4 : Int) (s0_ : (Int × (List Zd))) : Option ((Int × (List Zd)) ⊕ (Int ⊕ (List Zd))) :=
 cond (decide (s0_.1 < y4)) ((Y1 a1 s0_.1).bind fun y6 => cond (y6.2 != 0) (some (.inr (.inl y6.2))) ((Vx y6.1).bind fun y8 => cond (y8.2 != 0) (some (.inr (.inl y8.2))) ((Zgt 80 s0_.2 ([(⟨y8.1, y6.1⟩ : Zd)] : List Zd)).bind fun l9 => some (.inl ((IntKind.i64.wrap (s0_.1 + 1)), l9))))) (some (.inr (.inr s0_.2)))
noncomputable def Ji (z13 : (List Zd)) (s1_ : Unit) : Option (Unit ⊕ Unit) :=
 cond (decide (0 < (z13.length : Int))) ((Jf z13 0).bind fun x15 => none) (some (.inr ()))
noncomputable def Yo (a1 : Za) : Option ((List Int) × Int) :=
 (Yr a1).bind fun y2 => cond (decide (0 < y2)) (some (([] : (List Int)), 1)) ((Yr a1).bind fun y4 => (Z6 (Jh a1 y4) (0, ([] : List Zd))).bind fun (z13 : (Int ⊕ (List Zd))) => match z13 with | .inl z13 => some (([] : (List Int)), z13) | .inr z13 => (Z6 (Ji z13) ()).bind fun (z17 : Unit) => some (([] : (List Int)), 0))
noncomputable def Q6 (a0 : (Option Zj)) : Option Int :=
 cond (Option.isNone a0) (some 0) ((a0).bind fun x4 => some (x4.classes.length : Int))
noncomputable def Zar  : Option Zj :=
 some (⟨[], []⟩ : Zj)
noncomputable def Xd (a1 : Za) (y2 : Int) (s0_ : (Int × (List Zd))) : Option ((Int × (List Zd)) ⊕ (Int ⊕ (List Zd))) :=
 cond (decide (s0_.1 < y2)) ((Y1 a1 s0_.1).bind fun y4 => cond (y4.2 != 0) (some (.inr (.inl y4.2))) ((Vx y4.1).bind fun y6 => cond (y6.2 != 0) (some (.inr (.inl y6.2))) ((Zgt 80 s0_.2 ([(⟨y6.1, y4.1⟩ : Zd)] : List Zd)).bind fun l7 => some (.inl ((IntKind.i64.wrap (s0_.1 + 1)), l7))))) (some (.inr (.inr s0_.2)))
noncomputable def Xe (z11 : (List Zd)) (s1_ : (Int × (List Int) × (List Zd) × (List Int))) : Option ((Int × (List Int) × (List Zd) × (List Int)) ⊕ ((Int × (List Zd) × (List Int)) ⊕ ((List Int) × (List Zd) × (List Int)))) :=
 cond (decide (s1_.1 < (z11.length : Int))) ((Jf z11 s1_.1).bind fun x13 => (Qk (⟨s1_.2.2.1, s1_.2.2.2⟩ : Zj) x13).bind fun y15 => cond (y15.2.1 != 0) (some (.inr (.inl (y15.2.1, y15.2.2.classes, y15.2.2.places)))) ((Zgt 8 s1_.2.1 ([y15.1] : List Int)).bind fun l16 => some (.inl ((IntKind.i64.wrap (s1_.1 + 1)), l16, y15.2.2.classes, y15.2.2.places)))) (some (.inr (.inr (s1_.2.1, s1_.2.2.1, s1_.2.2.2))))
noncomputable def Qs (a0 : Zj) (a1 : Za) : Option ((List Int) × Int × Zj) :=
 (Yr a1).bind fun y2 => (Z6 (Xd a1 y2) (0, ([] : List Zd))).bind fun (z11 : (Int ⊕ (List Zd))) => match z11 with | .inl z11 => some (([] : (List Int)), z11, (⟨a0.classes, a0.places⟩ : Zj)) | .inr z11 => (Z6 (Xe z11) (0, ([] : List Int), a0.classes, a0.places)).bind fun (z19 : ((Int × (List Zd) × (List Int)) ⊕ ((List Int) × (List Zd) × (List Int)))) => match z19 with | .inl z19 => some (([] : (List Int)), z19.1, (⟨z19.2.1, z19.2.2⟩ : Zj)) | .inr z19 => some (z19.1, 0, (⟨z19.2.1, z19.2.2⟩ : Zj))
noncomputable def Qf (a0 : (List Int)) (a1 : (List Int)) (s0_ : Int) : Option (Int ⊕ (Unit ⊕ Unit)) :=
 cond (decide (s0_ < (a0.length : Int))) ((Jf a0 s0_).bind fun x3 => (Jf a1 s0_).bind fun x4 => cond (x3 != x4) (some (.inr (.inl ()))) (some (.inl (IntKind.i64.wrap (s0_ + 1))))) (some (.inr (.inr ())))
noncomputable def X8 (a0 : (List Int)) (a1 : (List Int)) : Option Bool :=
 cond ((a0.length : Int) != (a1.length : Int)) (some false) ((Z6 (Qf a0 a1) 0).bind fun (z7 : (Unit ⊕ Unit)) => match z7 with | .inl z7 => some false | .inr z7 => some true)
noncomputable def Q5  : Option Bool :=
 (Zar).bind fun y2 => (Xg ([([111669149697, 329477] : List Int)] : List (List Int))).bind fun y5 => (Qs (⟨y2.classes, y2.places⟩ : Zj) y5).bind fun y6 => (cond (y6.2.1 == 0) ((X8 y6.1 ([0, 1, 0] : List Int)).bind fun y12 => cond y12 ((Q6 (some (⟨y6.2.2.classes, y6.2.2.places⟩ : Zj))).bind fun y13 => some (cond (cond (y6.2.1 == 0) y12 false) (y13 == 2) false)) (some false)) (some false)).bind fun (z9 : Bool) => some z9
noncomputable def Qn (a0 : Int) : Option Bool :=
 (Xg ([([4294967296, a0] : List Int)] : List (List Int))).bind fun y3 => (Qu y3).bind fun y4 => (Xg ([([55834574849, a0] : List Int)] : List (List Int))).bind fun y7 => (Yo y7).bind fun y8 => (Xg ([([21474836481] : List Int)] : List (List Int))).bind fun y11 => (Yo y11).bind fun y12 => (cond (y4.2 == 1) (cond (y8.2 == 1) (cond (y12.2 == 0) ((Q6 (none : (Option Zj))).bind fun y18 => cond ((IntKind.i64.wrap ((IntKind.i64.wrap ((y8.1.length : Int) + (y12.1.length : Int))) + y18)) == 0) ((Q5).bind fun y19 => some (cond (cond (cond (cond (y4.2 == 1) (y8.2 == 1) false) (y12.2 == 0) false) ((IntKind.i64.wrap ((IntKind.i64.wrap ((y8.1.length : Int) + (y12.1.length : Int))) + y18)) == 0) false) y19 false)) (some false)) (some false)) (some false)) (some false)).bind fun (z15 : Bool) => some z15
structure Xf where
 Kind : Int
 Words : (List Int)
 Kids : (List Xf)
structure Vv where
 Depth : Int
 Weight : Int
 MaxD : Int
 MaxOut : Int
structure Zhg where
 P : Yg
 Segment : Int
 At : Int
structure Zb8 where
 Kind : Int
 S : Int
 At : Int
 Data : Int
 Ptrs : Int
 Count : Int
 N : Int
end Go.Proofs.Ytgffgbdnbjbmoaa
