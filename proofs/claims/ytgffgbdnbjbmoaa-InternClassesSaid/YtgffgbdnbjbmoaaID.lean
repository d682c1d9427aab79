/- Part ID of this seat's mirrors: functions of the seat's program, and the plain functions that they are; each theorem bears its own conditions. -/
import Derived.Test.YtgffgbdnbjbmoaaH26
namespace Go.Proofs.Ytgffgbdnbjbmoaa
open Go.RowKit
set_option linter.unusedVariables false
set_option linter.unusedSimpArgs false
set_option maxRecDepth 100000
set_option maxHeartbeats 4000000
noncomputable def Y5 (a0 : List Int) : Option (List Int) :=
 Zd4 8 ([] : List Int) a0
noncomputable def Kf (a0 : (List (List Int))) (s0_ : (Int × (List (List Int)))) : Option ((Int × (List (List Int))) ⊕ (List (List Int))) :=
 cond (decide (s0_.1 < (a0.length : Int))) ((Ql a0 s0_.1).bind fun x4 => (Y5 x4).bind fun y5 => (Ql s0_.2 s0_.1).bind fun x6 => some (.inl ((IntKind.i64.wrap (s0_.1 + 1)), (Zdl s0_.2 s0_.1 y5)))) (some (.inr s0_.2))
noncomputable def U2 (a0 : (List (List Int))) : Option (List (List Int)) :=
 (Zhl 24 (a0.length : Int) ([] : (List Int))).bind fun l2 => (Zx (Kf a0) (0, l2)).bind fun (z9 : (List (List Int))) => some z9
structure Zf where
 segments : (List (List Int))
 size : Int
 left : Int
noncomputable def Zdd (a0 : (List (List Int))) : Option (Option Zf) :=
 (U2 a0).bind fun y2 => some (some (⟨y2, 0, 0⟩ : Zf))
noncomputable def V9 (a0 : (Option Zf)) : Option Int :=
 cond (Option.isNone a0) (some 0) ((a0).bind fun x4 => some (x4.segments.length : Int))
noncomputable def Jf (a0 : (Option Zf)) (a1 : Int) : Option Bool :=
 (cond (decide (0 ≤ a1)) ((V9 a0).bind fun y4 => some (cond (decide (0 ≤ a1)) (decide (a1 < y4)) false)) (some false)).bind fun (z2 : Bool) => some z2
noncomputable def Jp (a0 : (Option Zf)) (a1 : Int) : Option Int :=
 (Jf a0 a1).bind fun y2 => cond (!y2) (some 0) ((a0).bind fun x5 => (Ql x5.segments a1).bind fun x6 => some (x6.length : Int))
noncomputable def Ja (a0 : (Option Zf)) (a1 : Int) (a2 : Int) (a3 : Int) : Option Bool :=
 ((Jf a0 a1).bind fun y8 => cond y8 (cond (decide (0 ≤ a2)) (cond (decide (0 ≤ a3)) ((Jp a0 a1).bind fun y9 => cond (decide (a3 ≤ y9)) ((Jp a0 a1).bind fun y10 => some (cond (cond (cond (cond y8 (decide (0 ≤ a2)) false) (decide (0 ≤ a3)) false) (decide (a3 ≤ y9)) false) (decide (a2 ≤ (IntKind.i64.wrap (y10 - a3)))) false)) (some false)) (some false)) (some false)) (some false)).bind fun (z4 : Bool) => some z4
noncomputable def Xw (a0 : (Option Zf)) (a1 : Int) (a2 : Int) : Option (Int × Bool) :=
 (Ja a0 a1 a2 1).bind fun y2 => cond (!y2) (some (0, false)) ((a0).bind fun x6 => (Ql x6.segments a1).bind fun x7 => (Ql x7 a2).bind fun x8 => some (x8, true))
noncomputable def G9 (a0 : Int) : Option Int :=
 some (IntKind.i64.wrap (Int.fdiv (IntKind.i32.wrap (IntKind.u32.wrap a0)) (2 ^ min (Int.toNat 2) 32)))
noncomputable def Xr (a0 : Int) (a1 : Int) (a2 : Int) : Option Int :=
 (X9 (0 ≤ a1)).bind fun u3 => (X9 (0 ≤ a2)).bind fun u4 => some (IntKind.i64.wrap (IntKind.u64.wrap (Ub .u64 (Int.fdiv a0 (2 ^ min (Int.toNat a1) 64)) (IntKind.u64.wrap ((IntKind.u64.wrap (1 * 2 ^ min (Int.toNat a2) 64)) - 1)))))
structure Z6 where
 Kind : Int
 Off : Int
 Data : Int
 Ptrs : Int
 Code : Int
 Count : Int
 Segment : Int
 Double : Bool
noncomputable def Jt (a0 : Int) : Option Z6 :=
 cond (a0 == 0) (some (⟨0, 0, 0, 0, 0, 0, 0, false⟩ : Z6)) (cond ((IntKind.u64.wrap (Ub .u64 a0 3)) == 0) ((G9 a0).bind fun y4 => (Xr a0 32 16).bind fun y5 => (Xr a0 48 16).bind fun y6 => some (⟨1, y4, y5, y6, 0, 0, 0, false⟩ : Z6)) (cond ((IntKind.u64.wrap (Ub .u64 a0 3)) == 1) ((G9 a0).bind fun y10 => (Xr a0 32 3).bind fun y11 => (Xr a0 35 29).bind fun y12 => some (⟨2, y10, 0, 0, y11, y12, 0, false⟩ : Z6)) (cond ((IntKind.u64.wrap (Ub .u64 a0 3)) == 2) ((Xr a0 3 29).bind fun y15 => (Xr a0 32 32).bind fun y16 => some (⟨3, y15, 0, 0, 0, 0, y16, ((IntKind.u64.wrap (Ub .u64 (Int.fdiv a0 (2 ^ min (Int.toNat 2) 64)) 1)) == 1)⟩ : Z6)) (some (⟨4, 0, 0, 0, 0, 0, 0, false⟩ : Z6)))))
noncomputable def Kl (a0 : (Option Zf)) (a1 : Int) (a2 : Int) (a3 : Int) : Option ((List Int) × Bool) :=
 (Ja a0 a1 a2 a3).bind fun y2 => cond (!y2) (some (([] : (List Int)), false)) ((a0).bind fun x7 => (Ql x7.segments a1).bind fun x8 => (Zet x8 a2 (IntKind.i64.wrap (a2 + a3))).bind fun l9 => (Y5 l9).bind fun y10 => some (y10, true))
noncomputable def Zbn (a0 : Int) : Option Int :=
 ((some (⟨[0, 1, 8, 16, 32, 64, 64], rfl⟩ : (Arr Int 7)))).bind fun y6 => ((some (⟨[0, 0, 0, 0, 0, 0, 0], rfl⟩ : (Arr Int 7)))).bind fun y8 => (Ql y6.1 a0).bind fun x12 => some x12
noncomputable def V2 (a0 : Z6) : Option (Int × Bool) :=
 cond (a0.Kind == 1) (some ((IntKind.i64.wrap (a0.Data + a0.Ptrs)), true)) (cond (cond (a0.Kind == 2) (a0.Code == 7) false) (some ((IntKind.i64.wrap (a0.Count + 1)), true)) (cond (cond (cond (cond (cond (a0.Kind == 2) (decide (0 ≤ a0.Code)) false) (decide (a0.Code < 7)) false) (decide (0 ≤ a0.Count)) false) (decide (a0.Count ≤ 536870911)) false) ((Zbn a0.Code).bind fun y2 => some ((IntKind.i64.wrap (Int.tdiv (IntKind.i64.wrap ((IntKind.i64.wrap (a0.Count * y2)) + 63)) 64)), true)) (some (0, false))))
structure Xa where
 P : Z6
 Segment : Int
 At : Int
noncomputable def Vx (a0 : (Option Zf)) (a1 : Z6) (a2 : Int) (a3 : Int) : Option (Xa × Int) :=
 cond (a1.Kind == 4) (some ((⟨⟨0, 0, 0, 0, 0, 0, 0, false⟩, 0, 0⟩ : Xa), 9)) ((V2 a1).bind fun y2 => cond (!y2.2) (some ((⟨⟨0, 0, 0, 0, 0, 0, 0, false⟩, 0, 0⟩ : Xa), 8)) ((Ja a0 a2 a3 y2.1).bind fun y4 => cond (!y4) (some ((⟨⟨0, 0, 0, 0, 0, 0, 0, false⟩, 0, 0⟩ : Xa), 7)) (some ((⟨⟨a1.Kind, 0, a1.Data, a1.Ptrs, a1.Code, a1.Count, a1.Segment, a1.Double⟩, a2, a3⟩ : Xa), 0))))
noncomputable def G7 (a0 : (Option Zf)) (a1 : Int) (a2 : Int) : Option (Xa × Int) :=
 (Kl a0 a1 a2 2).bind fun y2 => cond (!y2.2) (some ((⟨⟨0, 0, 0, 0, 0, 0, 0, false⟩, 0, 0⟩ : Xa), 7)) ((Ql y2.1 0).bind fun x3 => (Jt x3).bind fun y4 => (Ql y2.1 1).bind fun x5 => (Jt x5).bind fun y6 => cond (cond (y4.Kind != 3) true y4.Double) (some ((⟨⟨0, 0, 0, 0, 0, 0, 0, false⟩, 0, 0⟩ : Xa), 8)) (cond (cond (y6.Kind != 4) (y6.Off != 0) false) (some ((⟨⟨0, 0, 0, 0, 0, 0, 0, false⟩, 0, 0⟩ : Xa), 8)) ((Vx a0 y6 y4.Segment y4.Off).bind fun y8 => some (y8.1, y8.2))))
noncomputable def G8 (a0 : (Option Zf)) (a1 : Int) (a2 : Int) : Option (Xa × Int) :=
 (Xw a0 a1 a2).bind fun y2 => cond (!y2.2) (some ((⟨⟨0, 0, 0, 0, 0, 0, 0, false⟩, 0, 0⟩ : Xa), 7)) ((Jt y2.1).bind fun y4 => (Vx a0 y4 a1 (IntKind.i64.wrap ((IntKind.i64.wrap (a2 + 1)) + y4.Off))).bind fun y6 => some (y6.1, y6.2))
noncomputable def G5 (a0 : (Option Zf)) (a1 : Int) (a2 : Int) : Option (Xa × Int) :=
 (Xw a0 a1 a2).bind fun y2 => cond (!y2.2) (some ((⟨⟨0, 0, 0, 0, 0, 0, 0, false⟩, 0, 0⟩ : Xa), 7)) ((Jt y2.1).bind fun y4 => cond (y4.Kind == 0) (some ((⟨⟨0, 0, 0, 0, 0, 0, 0, false⟩, 0, 0⟩ : Xa), 0)) (cond (cond (y4.Kind == 3) y4.Double false) ((G7 a0 y4.Segment y4.Off).bind fun y6 => some (y6.1, y6.2)) (cond (y4.Kind == 3) ((G8 a0 y4.Segment y4.Off).bind fun y8 => some (y8.1, y8.2)) ((Vx a0 y4 a1 (IntKind.i64.wrap ((IntKind.i64.wrap (a2 + 1)) + y4.Off))).bind fun y10 => some (y10.1, y10.2)))))
structure Za where
 a : (Option Zf)
 kind : Int
 segment : Int
 at_ : Int
 words : Int
 ptrs : Int
 count : Int
 code : Int
 index : Int
noncomputable def Vy (a0 : Za) : Option (Za × Int) :=
 (Xw a0.a a0.segment a0.at_).bind fun y2 => (Jt y2.1).bind fun y4 => cond (cond (cond (cond (y4.Kind != 0) (y4.Kind != 1) false) true (decide (y4.Off < 0))) true (decide (a0.count < (IntKind.i64.wrap (y4.Off * (IntKind.i64.wrap (y4.Data + y4.Ptrs))))))) (some ((⟨(none : (Option Zf)), 0, 0, 0, 0, 0, 0, 0, 0⟩ : Za), 8)) (some ((⟨a0.a, a0.kind, a0.segment, a0.at_, y4.Data, y4.Ptrs, y4.Off, a0.code, a0.index⟩ : Za), 0))
noncomputable def Uh (a0 : (Option Zf)) (a1 : Int) (a2 : Int) : Option (Za × Int) :=
 (G5 a0 a1 a2).bind fun y2 => cond (cond (y2.2 != 0) true (y2.1.P.Kind == 0)) (some ((⟨(none : (Option Zf)), 0, 0, 0, 0, 0, 0, 0, 0⟩ : Za), y2.2)) (cond (y2.1.P.Kind == 1) (some ((⟨a0, 1, y2.1.Segment, y2.1.At, y2.1.P.Data, y2.1.P.Ptrs, 0, 0, 0⟩ : Za), 0)) (cond (y2.1.P.Code == 7) ((Vy (⟨a0, (IntKind.i64.wrap (y2.1.P.Code + 2)), y2.1.Segment, y2.1.At, 0, 0, y2.1.P.Count, 0, 0⟩ : Za)).bind fun y4 => some (y4.1, y4.2)) (some ((⟨a0, (IntKind.i64.wrap (y2.1.P.Code + 2)), y2.1.Segment, y2.1.At, 0, 0, y2.1.P.Count, 0, 0⟩ : Za), 0))))
noncomputable def U3 (a0 : (Option Zf)) : Option (Za × Int) :=
 (Uh a0 0 0).bind fun y2 => some (y2.1, y2.2)
noncomputable def J5 (a0 : (List (List Int))) : Option Za :=
 (Zdd a0).bind fun y3 => (U3 y3).bind fun y4 => some y4.1
noncomputable def Yx (a0 : Za) : Option Int :=
 some a0.kind
noncomputable def Qb (a0 : Za) : Option Int :=
 cond (a0.kind == 1) (some a0.ptrs) (some a0.count)
noncomputable def X8 (a0 : Za) (a1 : Int) : Option (Za × Int) :=
 (cond (decide (a1 < 0)) (some true) ((Qb a0).bind fun y4 => some (cond (decide (a1 < 0)) true (decide (y4 ≤ a1))))).bind fun (z2 : Bool) => cond z2 (some ((⟨(none : (Option Zf)), 0, 0, 0, 0, 0, 0, 0, 0⟩ : Za), 0)) (cond (a0.kind == 1) ((Uh a0.a a0.segment (IntKind.i64.wrap ((IntKind.i64.wrap (a0.at_ + a0.words)) + a1))).bind fun y7 => some (y7.1, y7.2)) (cond (a0.kind == 8) ((Uh a0.a a0.segment (IntKind.i64.wrap (a0.at_ + a1))).bind fun y9 => some (y9.1, y9.2)) (cond (a0.kind == 9) (some ((⟨a0.a, 1, a0.segment, (IntKind.i64.wrap ((IntKind.i64.wrap (a0.at_ + 1)) + (IntKind.i64.wrap (a1 * (IntKind.i64.wrap (a0.words + a0.ptrs)))))), a0.words, a0.ptrs, 0, 0, 0⟩ : Za), 0)) (some ((⟨a0.a, 10, a0.segment, a0.at_, 0, 0, 0, (IntKind.i64.wrap (a0.kind - 2)), a1⟩ : Za), 0)))))
noncomputable def G4 (a0 : Za) (s0_ : Int) : Option (Int ⊕ ((Int × Int) ⊕ Unit)) :=
 cond (decide (0 < s0_)) ((X8 a0 (IntKind.i64.wrap (s0_ - 1))).bind fun y4 => (cond (y4.2 != 0) (some true) ((Yx y4.1).bind fun y8 => some (cond (y4.2 != 0) true (y8 != 0)))).bind fun (z6 : Bool) => cond z6 (some (.inr (.inl (s0_, y4.2)))) (some (.inl (IntKind.i64.wrap (s0_ - 1))))) (some (.inr (.inr ())))
noncomputable def Zbm (a0 : Za) : Option (Int × Int) :=
 (Qb a0).bind fun y2 => (Zx (G4 a0) y2).bind fun (z12 : ((Int × Int) ⊕ Unit)) => match z12 with | .inl z12 => some (z12.1, z12.2) | .inr z12 => some (0, 0)
noncomputable def Vw (a0 : Za) : Option (Int × Int) :=
 (Yx a0).bind fun y2 => cond (y2 != 1) ((Qb a0).bind fun y4 => some (y4, 0)) ((Zbm a0).bind fun y6 => cond (y6.2 != 0) (some (0, y6.2)) (some (y6.1, 0)))
structure Zo where
 sum : Int
 left : Int
noncomputable def X2 (a0 : Zo) (a1 : Int) : Option Zo :=
 some (⟨(IntKind.u64.wrap (Zbl .u64 (IntKind.u64.wrap ((IntKind.u64.wrap (Zbl .u64 a0.sum a1)) * 11400714819323198485)) (Int.fdiv (IntKind.u64.wrap ((IntKind.u64.wrap (Zbl .u64 a0.sum a1)) * 11400714819323198485)) (2 ^ min (Int.toNat 32) 64)))), a0.left⟩ : Zo)
noncomputable def Jr (a0 : Za) : Option Int :=
 cond (a0.kind == 1) (some a0.words) (cond (a0.kind == 10) (some 1) (some 0))
noncomputable def Uq (a0 : Int) : Option (Int × Bool) :=
 ((some (⟨[0, 1, 8, 16, 32, 64], rfl⟩ : (Arr Int 6)))).bind fun y6 => ((some (⟨[0, 0, 0, 0, 0, 0], rfl⟩ : (Arr Int 6)))).bind fun y8 => cond (cond (decide (a0 < 0)) true (decide (6 ≤ a0))) (some (0, false)) ((Ql y6.1 a0).bind fun x12 => some (x12, true))
noncomputable def Zde (a0 : (List Int)) (a1 : Int) (a2 : Int) : Option Int :=
 (Uq a1).bind fun y2 => cond (cond (y2.1 == 0) true (decide (a2 < 0))) (some 0) ((X9 (y2.1 ≠ 0)).bind fun u4 => (X9 ((IntKind.i64.wrap (Int.tdiv 64 y2.1)) ≠ 0)).bind fun u6 => cond (decide ((a0.length : Int) ≤ (IntKind.i64.wrap (Int.tdiv a2 (IntKind.i64.wrap (Int.tdiv 64 y2.1)))))) (some 0) ((X9 ((IntKind.i64.wrap (Int.tdiv 64 y2.1)) ≠ 0)).bind fun u12 => (Ql a0 (IntKind.i64.wrap (Int.tdiv a2 (IntKind.i64.wrap (Int.tdiv 64 y2.1))))).bind fun x13 => (X9 ((IntKind.i64.wrap (Int.tdiv 64 y2.1)) ≠ 0)).bind fun u14 => (X9 (0 ≤ (IntKind.i64.wrap ((Int.tmod a2 (IntKind.i64.wrap (Int.tdiv 64 y2.1))) * y2.1)))).bind fun u15 => (X9 (0 ≤ y2.1)).bind fun u16 => some (IntKind.u64.wrap (Ub .u64 (Int.fdiv x13 (2 ^ min (Int.toNat (IntKind.i64.wrap ((Int.tmod a2 (IntKind.i64.wrap (Int.tdiv 64 y2.1))) * y2.1))) 64)) (IntKind.u64.wrap ((IntKind.u64.wrap (1 * 2 ^ min (Int.toNat y2.1) 64)) - 1))))))
noncomputable def Kc (a0 : Za) : Option Int :=
 (Uq a0.code).bind fun y2 => cond (y2.1 == 0) (some 0) ((X9 (y2.1 ≠ 0)).bind fun u4 => (X9 ((IntKind.i64.wrap (Int.tdiv 64 y2.1)) ≠ 0)).bind fun u7 => (Xw a0.a a0.segment (IntKind.i64.wrap (a0.at_ + (IntKind.i64.wrap (Int.tdiv a0.index (IntKind.i64.wrap (Int.tdiv 64 y2.1))))))).bind fun y8 => (X9 ((IntKind.i64.wrap (Int.tdiv 64 y2.1)) ≠ 0)).bind fun u11 => (Zde ([y8.1] : List Int) a0.code (Int.tmod a0.index (IntKind.i64.wrap (Int.tdiv 64 y2.1)))).bind fun y12 => some y12)
noncomputable def Qc (a0 : Za) (a1 : Int) : Option Int :=
 (cond (decide (a1 < 0)) (some true) ((Jr a0).bind fun y4 => some (cond (decide (a1 < 0)) true (decide (y4 ≤ a1))))).bind fun (z2 : Bool) => cond z2 (some 0) (cond (a0.kind == 10) ((Kc a0).bind fun y7 => some y7) ((Xw a0.a a0.segment (IntKind.i64.wrap (a0.at_ + a1))).bind fun y9 => some y9.1))
noncomputable def G3 (a0 : Za) (s0_ : Int) : Option (Int ⊕ Int) :=
 (cond (decide (0 < s0_)) ((Qc a0 (IntKind.i64.wrap (s0_ - 1))).bind fun y6 => some (cond (decide (0 < s0_)) (y6 == 0) false)) (some false)).bind fun (z4 : Bool) => cond z4 (some (.inl (IntKind.i64.wrap (s0_ - 1)))) (some (.inr s0_))
noncomputable def Ue (a0 : Za) : Option Int :=
 (Jr a0).bind fun y2 => (Zx (G3 a0) y2).bind fun (z9 : Int) => some z9
noncomputable def Xx (a0 : Za) (y2 : Int) (s0_ : (Int × Int × Int)) : Option ((Int × Int × Int) ⊕ (Int × Int)) :=
 cond (decide (s0_.1 < y2)) ((Qc a0 s0_.1).bind fun y5 => (X2 (⟨s0_.2.1, s0_.2.2⟩ : Zo) y5).bind fun y6 => some (.inl ((IntKind.i64.wrap (s0_.1 + 1)), y6.sum, y6.left))) (some (.inr (s0_.2.1, s0_.2.2)))
noncomputable def Qm (a0 : Za) (a2 : Zo) : Option Zo :=
 (Ue a0).bind fun y2 => (X2 a2 (IntKind.u64.wrap y2)).bind fun y4 => (Zx (Xx a0 y2) (0, y4.sum, y4.left)).bind fun (z8 : (Int × Int)) => some (⟨z8.1, z8.2⟩ : Zo)
noncomputable def Qz (Xl : (Zo → Za → Option (Int × Zo))) (a1 : Za) (y2 : (Int × Int)) (s0_ : (Int × Int × Int)) : Option ((Int × Int × Int) ⊕ ((Int × Int × Int) ⊕ (Int × Int))) :=
 cond (decide (s0_.1 < y2.1)) ((X8 a1 s0_.1).bind fun y12 => cond (y12.2 != 0) (some (.inr (.inl (y12.2, s0_.2.1, s0_.2.2)))) ((Xl (⟨s0_.2.1, s0_.2.2⟩ : Zo) y12.1).bind fun y14 => cond (y14.1 != 0) (some (.inr (.inl (y14.1, y14.2.sum, y14.2.left)))) (some (.inl ((IntKind.i64.wrap (s0_.1 + 1)), y14.2.sum, y14.2.left))))) (some (.inr (.inr (s0_.2.1, s0_.2.2))))
noncomputable def Xj (Xl : (Zo → Za → Option (Int × Zo))) (a0 : Zo) (a1 : Za) : Option (Int × Zo) :=
 cond (a0.left == 0) (some (3, a0)) ((Vw a1).bind fun y2 => cond (y2.2 != 0) (some (y2.2, (⟨a0.sum, (IntKind.i64.wrap (a0.left - 1))⟩ : Zo))) ((Yx a1).bind fun y5 => (X2 (⟨a0.sum, (IntKind.i64.wrap (a0.left - 1))⟩ : Zo) (IntKind.u64.wrap y5)).bind fun y6 => (X2 y6 (IntKind.u64.wrap y2.1)).bind fun y8 => (Qm a1 y8).bind fun y10 => (Zx (Qz Xl a1 y2) (0, y10.sum, y10.left)).bind fun (z18 : ((Int × Int × Int) ⊕ (Int × Int))) => match z18 with | .inl z18 => some (z18.1, (⟨z18.2.1, z18.2.2⟩ : Zo)) | .inr z18 => some (0, (⟨z18.1, z18.2⟩ : Zo))))
noncomputable def Yj : Nat → (Zo → Za → Option (Int × Zo))
 | 0 => (fun _ _ => none)
 | k + 1 => Xj ((Yj k))
noncomputable def Ug (a0 : Zo) (a1 : Za) : Option (Int × Zo) := lim fun k => (Yj k) a0 a1
noncomputable def Uo (a0 : Za) : Option (Int × Int) :=
 (Ug (⟨0, 65537⟩ : Zo) a0).bind fun y2 => cond (y2.1 != 0) (some (0, y2.1)) (some (y2.2.sum, 0))
structure Zg where
 hash : Int
 r : Za
structure Zl where
 classes : (List Zg)
 places : (List Int)
noncomputable def X3 (a0 : (Option Zl)) (a1 : Int) : Option Int :=
 (a0).bind fun x3 => (X9 ((IntKind.u64.wrap (x3.places.length : Int)) ≠ 0)).bind fun u4 => some (IntKind.i64.wrap (Int.tmod a1 (IntKind.u64.wrap (x3.places.length : Int))))
noncomputable def Jk (a0 : (Option Zl)) (a1 : Int) : Option Int :=
 (a0).bind fun x3 => (X9 ((x3.places.length : Int) ≠ 0)).bind fun u4 => some (Int.tmod (IntKind.i64.wrap (a1 + 1)) (x3.places.length : Int))
noncomputable def Jd (a0 : Zl) (s0_ : (Int × (List Int))) (s1_ : Int) : Option (Int ⊕ Int) :=
 (Ql s0_.2 s1_).bind fun x8 => cond (x8 != 0) ((Jk (some (⟨a0.classes, s0_.2⟩ : Zl)) s1_).bind fun y9 => some (.inl y9)) (some (.inr s1_))
noncomputable def Jc (a0 : Zl) (s0_ : (Int × (List Int))) : Option ((Int × (List Int)) ⊕ (List Int)) :=
 cond (decide (s0_.1 < (a0.classes.length : Int))) ((Ql a0.classes s0_.1).bind fun x4 => (X3 (some (⟨a0.classes, s0_.2⟩ : Zl)) x4.hash).bind fun y6 => (Zx (Jd a0 s0_) y6).bind fun (z11 : Int) => (Ql s0_.2 z11).bind fun x12 => some (.inl ((IntKind.i64.wrap (s0_.1 + 1)), (Zdl s0_.2 z11 (IntKind.i64.wrap (s0_.1 + 1)))))) (some (.inr s0_.2))
noncomputable def Jj (a0 : Zl) : Option Zl :=
 (Zhl 8 (if 16 < (IntKind.i64.wrap (2 * (a0.places.length : Int))) then (IntKind.i64.wrap (2 * (a0.places.length : Int))) else 16) (0 : Int)).bind fun l2 => (Zx (Jc a0) (0, l2)).bind fun (z15 : (List Int)) => some (⟨a0.classes, z15⟩ : Zl)
noncomputable def Jz (a0 : Za) (a1 : Za) (y2 : Int) (s0_ : Int) : Option (Int ⊕ (Unit ⊕ Unit)) :=
 cond (decide (s0_ < y2)) ((Qc a0 s0_).bind fun y7 => (Qc a1 s0_).bind fun y8 => cond (y7 != y8) (some (.inr (.inl ()))) (some (.inl (IntKind.i64.wrap (s0_ + 1))))) (some (.inr (.inr ())))
noncomputable def K3 (a0 : Za) (a1 : Za) : Option Bool :=
 (Ue a0).bind fun y2 => (Ue a1).bind fun y4 => cond (y4 != y2) (some false) ((Zx (Jz a0 a1 y2) 0).bind fun (z11 : (Unit ⊕ Unit)) => match z11 with | .inl z11 => some false | .inr z11 => some true)
structure Zh where
 left : Int
noncomputable def Xb (Yh : (Zh → Za → Za → Option (Bool × Int × Zh))) (Yg : (Zh → Za → Za → Int → Option (Bool × Int × Zh))) (a0 : Zh) (a1 : Za) (a2 : Za) : Option (Bool × Int × Zh) :=
 cond (a0.left == 0) (some (false, 3, a0)) (((Yx a1).bind fun y8 => (Yx a2).bind fun y9 => cond (y8 != y9) (some true) ((K3 a1 a2).bind fun y10 => some (cond (y8 != y9) true (!y10)))).bind fun (z4 : Bool) => cond z4 (some (false, 0, (⟨(IntKind.i64.wrap (a0.left - 1))⟩ : Zh))) ((Vw a1).bind fun y13 => cond (y13.2 != 0) (some (false, y13.2, (⟨(IntKind.i64.wrap (a0.left - 1))⟩ : Zh))) ((Vw a2).bind fun y15 => cond (cond (y15.2 != 0) true (y13.1 != y15.1)) (some (false, y15.2, (⟨(IntKind.i64.wrap (a0.left - 1))⟩ : Zh))) ((Yg (⟨(IntKind.i64.wrap (a0.left - 1))⟩ : Zh) a1 a2 y13.1).bind fun y17 => some (y17.1, y17.2.1, y17.2.2)))))
noncomputable def Yu (Yh : (Zh → Za → Za → Option (Bool × Int × Zh))) (a1 : Za) (a2 : Za) (a3 : Int) (s0_ : (Int × Int)) : Option ((Int × Int) ⊕ ((Int × Int) ⊕ Int)) :=
 cond (decide (s0_.1 < a3)) ((X8 a1 s0_.1).bind fun y2 => cond (y2.2 != 0) (some (.inr (.inl (y2.2, s0_.2)))) ((X8 a2 s0_.1).bind fun y4 => cond (y4.2 != 0) (some (.inr (.inl (y4.2, s0_.2)))) ((Yh (⟨s0_.2⟩ : Zh) y2.1 y4.1).bind fun y6 => cond (cond (!y6.1) true (y6.2.1 != 0)) (some (.inr (.inl (y6.2.1, y6.2.2.left)))) (some (.inl ((IntKind.i64.wrap (s0_.1 + 1)), y6.2.2.left)))))) (some (.inr (.inr s0_.2)))
noncomputable def Yv (Yh : (Zh → Za → Za → Option (Bool × Int × Zh))) (Yg : (Zh → Za → Za → Int → Option (Bool × Int × Zh))) (a0 : Zh) (a1 : Za) (a2 : Za) (a3 : Int) : Option (Bool × Int × Zh) :=
 (Zx (Yu Yh a1 a2 a3) (0, a0.left)).bind fun (z11 : ((Int × Int) ⊕ Int)) => match z11 with | .inl z11 => some (false, z11.1, (⟨z11.2⟩ : Zh)) | .inr z11 => some (true, 0, (⟨z11⟩ : Zh))
noncomputable def Zr : Nat → ((Zh → Za → Za → Option (Bool × Int × Zh)) × (Zh → Za → Za → Int → Option (Bool × Int × Zh)))
 | 0 => ((fun _ _ _ => none), (fun _ _ _ _ => none))
 | k + 1 => (Xb ((Zr k).1) ((Zr k).2), Yv ((Zr k).1) ((Zr k).2))
noncomputable def V7 (a0 : Zh) (a1 : Za) (a2 : Za) : Option (Bool × Int × Zh) := lim fun k => (Zr k).1 a0 a1 a2
noncomputable def Uf (a0 : Za) (a1 : Za) : Option (Bool × Int) :=
 (V7 (⟨65537⟩ : Zh) a0 a1).bind fun y2 => some (y2.1, y2.2.1)
noncomputable def J3 (a0 : Zg) (a1 : Zg) : Option (Bool × Int) :=
 cond (a0.hash != a1.hash) (some (false, 0)) ((Uf a0.r a1.r).bind fun y2 => some (y2.1, y2.2))
noncomputable def Ys (a1 : Zg) (z1 : ((List Zg) × (List Int))) (s0_ : Int) : Option (Int ⊕ ((Int × Int) ⊕ Int)) :=
 (Ql z1.2 s0_).bind fun x7 => cond (x7 != 0) ((Ql z1.2 s0_).bind fun x9 => (Ql z1.1 (IntKind.i64.wrap (x9 - 1))).bind fun x12 => (J3 x12 a1).bind fun y13 => cond (y13.2 != 0) (some (.inr (.inl (0, y13.2)))) (cond y13.1 (some (.inr (.inl ((IntKind.i64.wrap (x9 - 1)), 0)))) ((Jk (some (⟨z1.1, z1.2⟩ : Zl)) s0_).bind fun y14 => some (.inl y14)))) (some (.inr (.inr s0_)))
noncomputable def Q2 (a0 : Zl) (a1 : Zg) : Option (Int × Int × Zl) :=
 (cond (decide ((a0.places.length : Int) ≤ (IntKind.i64.wrap (2 * (a0.classes.length : Int))))) ((Jj (⟨a0.classes, a0.places⟩ : Zl)).bind fun y2 => some (y2.classes, y2.places)) (some (a0.classes, a0.places))).bind fun (z1 : ((List Zg) × (List Int))) => (X3 (some (⟨z1.1, z1.2⟩ : Zl)) a1.hash).bind fun y5 => (Zx (Ys a1 z1) y5).bind fun (z18 : ((Int × Int) ⊕ Int)) => match z18 with | .inl z18 => some (z18.1, z18.2, (⟨z1.1, z1.2⟩ : Zl)) | .inr z18 => (Zd4 80 z1.1 ([a1] : List Zg)).bind fun l20 => (Ql z1.2 z18).bind fun x23 => some ((IntKind.i64.wrap ((l20.length : Int) - 1)), 0, (⟨l20, (Zdl z1.2 z18 (l20.length : Int))⟩ : Zl))
noncomputable def Jq (a0 : (Option Zl)) : Option Int :=
 cond (Option.isNone a0) (some 0) ((a0).bind fun x4 => some (x4.classes.length : Int))
noncomputable def Up  : Option Zl :=
 some (⟨[], []⟩ : Zl)
noncomputable def X6 (a1 : Za) (y2 : Int) (s0_ : (Int × (List Zg))) : Option ((Int × (List Zg)) ⊕ (Int ⊕ (List Zg))) :=
 cond (decide (s0_.1 < y2)) ((X8 a1 s0_.1).bind fun y4 => cond (y4.2 != 0) (some (.inr (.inl y4.2))) ((Uo y4.1).bind fun y6 => cond (y6.2 != 0) (some (.inr (.inl y6.2))) ((Zd4 80 s0_.2 ([(⟨y6.1, y4.1⟩ : Zg)] : List Zg)).bind fun l7 => some (.inl ((IntKind.i64.wrap (s0_.1 + 1)), l7))))) (some (.inr (.inr s0_.2)))
noncomputable def X7 (z11 : (List Zg)) (s1_ : (Int × (List Int) × (List Zg) × (List Int))) : Option ((Int × (List Int) × (List Zg) × (List Int)) ⊕ ((Int × (List Zg) × (List Int)) ⊕ ((List Int) × (List Zg) × (List Int)))) :=
 cond (decide (s1_.1 < (z11.length : Int))) ((Ql z11 s1_.1).bind fun x13 => (Q2 (⟨s1_.2.2.1, s1_.2.2.2⟩ : Zl) x13).bind fun y15 => cond (y15.2.1 != 0) (some (.inr (.inl (y15.2.1, y15.2.2.classes, y15.2.2.places)))) ((Zd4 8 s1_.2.1 ([y15.1] : List Int)).bind fun l16 => some (.inl ((IntKind.i64.wrap (s1_.1 + 1)), l16, y15.2.2.classes, y15.2.2.places)))) (some (.inr (.inr (s1_.2.1, s1_.2.2.1, s1_.2.2.2))))
noncomputable def Kb (a0 : Zl) (a1 : Za) : Option ((List Int) × Int × Zl) :=
 (Qb a1).bind fun y2 => (Zx (X6 a1 y2) (0, ([] : List Zg))).bind fun (z11 : (Int ⊕ (List Zg))) => match z11 with | .inl z11 => some (([] : (List Int)), z11, (⟨a0.classes, a0.places⟩ : Zl)) | .inr z11 => (Zx (X7 z11) (0, ([] : List Int), a0.classes, a0.places)).bind fun (z19 : ((Int × (List Zg) × (List Int)) ⊕ ((List Int) × (List Zg) × (List Int)))) => match z19 with | .inl z19 => some (([] : (List Int)), z19.1, (⟨z19.2.1, z19.2.2⟩ : Zl)) | .inr z19 => some (z19.1, 0, (⟨z19.2.1, z19.2.2⟩ : Zl))
noncomputable def Js (a0 : (List Int)) (a1 : (List Int)) (s0_ : Int) : Option (Int ⊕ (Unit ⊕ Unit)) :=
 cond (decide (s0_ < (a0.length : Int))) ((Ql a0 s0_).bind fun x3 => (Ql a1 s0_).bind fun x4 => cond (x3 != x4) (some (.inr (.inl ()))) (some (.inl (IntKind.i64.wrap (s0_ + 1))))) (some (.inr (.inr ())))
noncomputable def Jn (a0 : (List Int)) (a1 : (List Int)) : Option Bool :=
 cond ((a0.length : Int) != (a1.length : Int)) (some false) ((Zx (Js a0 a1) 0).bind fun (z7 : (Unit ⊕ Unit)) => match z7 with | .inl z7 => some false | .inr z7 => some true)
noncomputable def Ko  : Option Bool :=
 (Up).bind fun y2 => (J5 ([([111669149697, 329477] : List Int)] : List (List Int))).bind fun y5 => (Kb (⟨y2.classes, y2.places⟩ : Zl) y5).bind fun y6 => (cond (y6.2.1 == 0) ((Jn y6.1 ([0, 1, 0] : List Int)).bind fun y12 => cond y12 ((Jq (some (⟨y6.2.2.classes, y6.2.2.places⟩ : Zl))).bind fun y13 => some (cond (cond (y6.2.1 == 0) y12 false) (y13 == 2) false)) (some false)) (some false)).bind fun (z9 : Bool) => some z9
noncomputable def Jy (a0 : (List Int)) (s0_ : Int) : Option (Int ⊕ Int) :=
 (cond (decide (0 < s0_)) ((Ql a0 (IntKind.i64.wrap (s0_ - 1))).bind fun x4 => some (cond (decide (0 < s0_)) (x4 == 0) false)) (some false)).bind fun (z2 : Bool) => cond z2 (some (.inl (IntKind.i64.wrap (s0_ - 1)))) (some (.inr s0_))
noncomputable def K2 (a0 : (List Int)) : Option (List Int) :=
 (Zx (Jy a0) (a0.length : Int)).bind fun (z7 : Int) => (Zet a0 0 z7).bind fun l10 => (Zd4 8 ([] : List Int) l10).bind fun l11 => some l11
structure Zd where
 Kind : Int
 Words : (List Int)
 Kids : (List Zd)
noncomputable def X0 (Qd : (Zd → Option Zd)) (a0 : Zd) (s0_ : (Int × Int × (List Zd))) : Option ((Int × Int × (List Zd)) ⊕ (Int × (List Zd))) :=
 cond (decide (s0_.2.1 < (a0.Kids.length : Int))) (((Ql a0.Kids s0_.2.1).bind fun x4 => (Qd x4).bind fun y5 => (Zd4 56 s0_.2.2 ([y5] : List Zd)).bind fun l7 => cond (y5.Kind != 0) (some ((IntKind.i64.wrap (s0_.2.1 + 1)), l7)) (some (s0_.1, l7))).bind fun (z1 : (Int × (List Zd))) => some (.inl (z1.1, (IntKind.i64.wrap (s0_.2.1 + 1)), z1.2))) (some (.inr (s0_.1, s0_.2.2)))
noncomputable def Kz (Qd : (Zd → Option Zd)) (a0 : Zd) : Option Zd :=
 cond (a0.Kind == 0) (some (⟨0, [], []⟩ : Zd)) ((Zx (X0 Qd a0) (0, 0, ([] : List Zd))).bind fun (z10 : (Int × (List Zd))) => cond (a0.Kind == 1) ((K2 a0.Words).bind fun y14 => (Zet z10.2 0 z10.1).bind fun l15 => some (⟨1, y14, l15⟩ : Zd)) ((Zd4 8 ([] : List Int) a0.Words).bind fun l17 => some (⟨a0.Kind, l17, z10.2⟩ : Zd)))
noncomputable def Y9 : Nat → (Zd → Option Zd)
 | 0 => (fun _ => none)
 | k + 1 => Kz ((Y9 k))
noncomputable def Gz (a0 : Zd) : Option Zd := lim fun k => (Y9 k) a0
noncomputable def Jx (a0 : (List Int)) (a1 : (List Int)) (s0_ : Int) : Option (Int ⊕ (Unit ⊕ Unit)) :=
 cond (decide (s0_ < (a0.length : Int))) ((Ql a0 s0_).bind fun x3 => (Ql a1 s0_).bind fun x4 => cond (x3 != x4) (some (.inr (.inl ()))) (some (.inl (IntKind.i64.wrap (s0_ + 1))))) (some (.inr (.inr ())))
noncomputable def K1 (a0 : (List Int)) (a1 : (List Int)) : Option Bool :=
 cond ((a0.length : Int) != (a1.length : Int)) (some false) ((Zx (Jx a0 a1) 0).bind fun (z7 : (Unit ⊕ Unit)) => match z7 with | .inl z7 => some false | .inr z7 => some true)
noncomputable def Jv (Qe : (Zd → Zd → Option Bool)) (a0 : Zd) (a1 : Zd) (s0_ : Int) : Option (Int ⊕ (Unit ⊕ Unit)) :=
 cond (decide (s0_ < (a0.Kids.length : Int))) ((Ql a0.Kids s0_).bind fun x9 => (Ql a1.Kids s0_).bind fun x10 => (Qe x9 x10).bind fun y11 => cond (!y11) (some (.inr (.inl ()))) (some (.inl (IntKind.i64.wrap (s0_ + 1))))) (some (.inr (.inr ())))
noncomputable def K0 (Qe : (Zd → Zd → Option Bool)) (a0 : Zd) (a1 : Zd) : Option Bool :=
 (cond (a0.Kind != a1.Kind) (some true) ((K1 a0.Words a1.Words).bind fun y4 => some (cond (cond (a0.Kind != a1.Kind) true (!y4)) true ((a0.Kids.length : Int) != (a1.Kids.length : Int))))).bind fun (z2 : Bool) => cond z2 (some false) ((Zx (Jv Qe a0 a1) 0).bind fun (z14 : (Unit ⊕ Unit)) => match z14 with | .inl z14 => some false | .inr z14 => some true)
noncomputable def Qs : Nat → (Zd → Zd → Option Bool)
 | 0 => (fun _ _ => none)
 | k + 1 => K0 ((Qs k))
noncomputable def G0 (a0 : Zd) (a1 : Zd) : Option Bool := lim fun k => (Qs k) a0 a1
noncomputable def Yt (a0 : (List Zd)) (y2 : Zd) (s0_ : Int) : Option (Int ⊕ (Int ⊕ Unit)) :=
 cond (decide (s0_ < (a0.length : Int))) ((Ql a0 s0_).bind fun x5 => (G0 x5 y2).bind fun y6 => cond y6 (some (.inr (.inl s0_))) (some (.inl (IntKind.i64.wrap (s0_ + 1))))) (some (.inr (.inr ())))
noncomputable def Kr (a0 : (List Zd)) (a1 : Zd) : Option ((List Zd) × Int) :=
 (Gz a1).bind fun y2 => (Zx (Yt a0 y2) 0).bind fun (z9 : (Int ⊕ Unit)) => match z9 with | .inl z9 => some (a0, z9) | .inr z9 => (Zd4 56 a0 ([y2] : List Zd)).bind fun l11 => some (l11, (a0.length : Int))
structure Zw where
 Depth : Int
 Weight : Int
 MaxD : Int
 MaxOut : Int
noncomputable def Km (a0 : Zw) : Option Zw :=
 (cond (decide (3000 < a0.Weight)) (some 3000) (some a0.Weight)).bind fun (z1 : Int) => some (⟨a0.Depth, z1, a0.MaxD, a0.MaxOut⟩ : Zw)
noncomputable def Xq (a0 : Int) (a1 : Int) : Option Int :=
 cond (decide (a0 < 0)) (some 0) (cond (decide (a1 < a0)) (some a1) (some a0))
noncomputable def Ka (a0 : Zw) : Option Zw :=
 (Xq a0.Depth 64).bind fun y5 => (Xq a0.Weight 65536).bind fun y6 => (Xq a0.MaxD 4096).bind fun y7 => (Xq a0.MaxOut 131072).bind fun y8 => some (⟨y5, y6, y7, y8⟩ : Zw)
noncomputable def Q0 (a0 : (List (List Int))) (a1 : Int) (a2 : Int) : Option Bool :=
 (cond (decide (0 ≤ a1)) (cond (decide (a1 < (a0.length : Int))) (cond (decide (0 ≤ a2)) ((Ql a0 a1).bind fun x4 => some (cond (cond (cond (decide (0 ≤ a1)) (decide (a1 < (a0.length : Int))) false) (decide (0 ≤ a2)) false) (decide (a2 < (x4.length : Int))) false)) (some false)) (some false)) (some false)).bind fun (z2 : Bool) => some z2
noncomputable def Ku (a1 : Int) (s0_ : (Int × Int)) : Option ((Int × Int) ⊕ Int) :=
 cond (decide (s0_.2 < a1)) (some (.inl ((IntKind.u64.wrap (Int.tdiv s0_.1 2)), (IntKind.i64.wrap (s0_.2 + 1))))) (some (.inr s0_.1))
noncomputable def Kv (a2 : Int) (s1_ : (Int × Int × Int × Int)) : Option ((Int × Int × Int × Int) ⊕ Int) :=
 cond (decide (s1_.2.2.2 < a2)) ((cond ((Int.tmod s1_.1 2) == 1) (some (IntKind.i64.wrap (s1_.2.1 + s1_.2.2.1))) (some s1_.2.1)).bind fun (z3 : Int) => some (.inl ((IntKind.u64.wrap (Int.tdiv s1_.1 2)), z3, (IntKind.i64.wrap (2 * s1_.2.2.1)), (IntKind.i64.wrap (s1_.2.2.2 + 1))))) (some (.inr s1_.2.1))
noncomputable def Zy (a0 : Int) (a1 : Int) (a2 : Int) : Option Int :=
 (Zx (Ku a1) (a0, 0)).bind fun (z2 : Int) => (Zx (Kv a2) (z2, 0, 1, 0)).bind fun (z6 : Int) => some z6
noncomputable def Y1 (a0 : Int) : Option Z6 :=
 cond (a0 == 0) (some (⟨0, 0, 0, 0, 0, 0, 0, false⟩ : Z6)) ((Zy a0 2 30).bind fun y2 => (cond (decide (536870912 ≤ y2)) (some (IntKind.i64.wrap (y2 - 1073741824))) (some y2)).bind fun (z3 : Int) => (Zy a0 0 2).bind fun y6 => cond (y6 == 0) ((Zy a0 32 16).bind fun y9 => (Zy a0 48 16).bind fun y10 => some (⟨1, z3, y9, y10, 0, 0, 0, false⟩ : Z6)) (cond (y6 == 1) ((Zy a0 32 3).bind fun y13 => (Zy a0 35 29).bind fun y14 => some (⟨2, z3, 0, 0, y13, y14, 0, false⟩ : Z6)) (cond (y6 == 2) ((Zy a0 3 29).bind fun y18 => (Zy a0 32 32).bind fun y19 => (Zy a0 2 1).bind fun y20 => some (⟨3, y18, 0, 0, 0, 0, y19, (y20 == 1)⟩ : Z6)) (some (⟨4, 0, 0, 0, 0, 0, 0, false⟩ : Z6)))))
noncomputable def Qt (a0 : Z6) : Option Int :=
 cond (a0.Kind == 4) (some 9) (cond (cond (a0.Kind != 1) (a0.Kind != 2) false) (some 8) (some 0))
noncomputable def Kq (a0 : Z6) : Option Int :=
 cond (a0.Kind == 1) (some (IntKind.i64.wrap (a0.Data + a0.Ptrs))) (cond (a0.Kind != 2) (some (-1)) (cond (a0.Code == 7) (some (IntKind.i64.wrap (a0.Count + 1))) (cond (cond (cond (cond (decide (a0.Code < 0)) true (decide (6 < a0.Code))) true (decide (a0.Count < 0))) true (decide (536870912 ≤ a0.Count))) (some (-1)) ((cond (a0.Code == 0) (some (.inr ())) (cond (a0.Code == 1) (some (.inl 64)) (cond (a0.Code == 2) (some (.inl 8)) (cond (a0.Code == 3) (some (.inl 4)) (cond (a0.Code == 4) (some (.inl 2)) (some (.inl 1))))))).bind fun (z1 : (Int ⊕ Unit)) => match z1 with | .inl z1 => (X9 (z1 ≠ 0)).bind fun u8 => cond (decide (0 < (Int.tmod a0.Count z1))) ((X9 (z1 ≠ 0)).bind fun u10 => some (IntKind.i64.wrap ((IntKind.i64.wrap (Int.tdiv a0.Count z1)) + 1))) ((X9 (z1 ≠ 0)).bind fun u12 => some (IntKind.i64.wrap (Int.tdiv a0.Count z1))) | .inr z1 => some 0))))
structure Z3 where
 P : Z6
 Segment : Int
 At : Int
noncomputable def Qu (a0 : (List (List Int))) (a1 : Z3) : Option (Z3 × Int) :=
 (Kq a1.P).bind fun y2 => (cond (decide (a1.Segment < 0)) (some true) (cond (decide ((a0.length : Int) ≤ a1.Segment)) (some true) (cond (decide (a1.At < 0)) (some true) ((Ql a0 a1.Segment).bind fun x8 => cond (decide ((x8.length : Int) < a1.At)) (some true) (some (cond (cond (cond (cond (decide (a1.Segment < 0)) true (decide ((a0.length : Int) ≤ a1.Segment))) true (decide (a1.At < 0))) true (decide ((x8.length : Int) < a1.At))) true (decide ((IntKind.i64.wrap ((x8.length : Int) - a1.At)) < y2)))))))).bind fun (z5 : Bool) => cond z5 (some ((⟨⟨0, 0, 0, 0, 0, 0, 0, false⟩, 0, 0⟩ : Z3), 7)) (some ((⟨⟨a1.P.Kind, 0, a1.P.Data, a1.P.Ptrs, a1.P.Code, a1.P.Count, a1.P.Segment, a1.P.Double⟩, a1.Segment, a1.At⟩ : Z3), 0))
noncomputable def Ji (a0 : (List (List Int))) (a1 : Int) (a2 : Int) : Option (Z3 × Int) :=
 (Q0 a0 a1 a2).bind fun y2 => cond (!y2) (some ((⟨⟨0, 0, 0, 0, 0, 0, 0, false⟩, 0, 0⟩ : Z3), 7)) ((Ql a0 a1).bind fun x6 => (Ql x6 a2).bind fun x7 => (Y1 x7).bind fun y8 => cond (y8.Kind == 0) (some ((⟨⟨0, 0, 0, 0, 0, 0, 0, false⟩, 0, 0⟩ : Z3), 0)) (cond (cond (y8.Kind == 3) y8.Double false) (((Q0 a0 y8.Segment y8.Off).bind fun y14 => cond y14 ((Q0 a0 y8.Segment (IntKind.i64.wrap (y8.Off + 1))).bind fun y15 => some (cond (!y14) true (!y15))) (some true)).bind fun (z11 : Bool) => cond z11 (some ((⟨⟨0, 0, 0, 0, 0, 0, 0, false⟩, 0, 0⟩ : Z3), 7)) ((Ql a0 y8.Segment).bind fun x17 => (Ql x17 y8.Off).bind fun x18 => (Y1 x18).bind fun y19 => (Ql x17 (IntKind.i64.wrap (y8.Off + 1))).bind fun x21 => (Y1 x21).bind fun y22 => cond (cond (y19.Kind != 3) true y19.Double) (some ((⟨⟨0, 0, 0, 0, 0, 0, 0, false⟩, 0, 0⟩ : Z3), 8)) ((Qt y22).bind fun y24 => (cond (cond (y24 == 0) (y22.Off != 0) false) (some 8) (some y24)).bind fun (z25 : Int) => cond (z25 != 0) (some ((⟨⟨0, 0, 0, 0, 0, 0, 0, false⟩, 0, 0⟩ : Z3), z25)) ((Qu a0 (⟨y22, y19.Segment, y19.Off⟩ : Z3)).bind fun y28 => some (y28.1, y28.2))))) ((cond (y8.Kind == 3) ((Q0 a0 y8.Segment y8.Off).bind fun y34 => cond (!y34) (some (.inr ())) ((Ql a0 y8.Segment).bind fun x35 => (Ql x35 y8.Off).bind fun x36 => (Y1 x36).bind fun y37 => some (.inl (y8.Segment, y8.Off, y37.Kind, y37.Off, y37.Data, y37.Ptrs, y37.Code, y37.Count, y37.Segment, y37.Double)))) (some (.inl (a1, a2, y8.Kind, y8.Off, y8.Data, y8.Ptrs, y8.Code, y8.Count, y8.Segment, y8.Double)))).bind fun (z32 : ((Int × Int × Int × Int × Int × Int × Int × Int × Int × Bool) ⊕ Unit)) => match z32 with | .inl z32 => (Qt (⟨z32.2.2.1, z32.2.2.2.1, z32.2.2.2.2.1, z32.2.2.2.2.2.1, z32.2.2.2.2.2.2.1, z32.2.2.2.2.2.2.2.1, z32.2.2.2.2.2.2.2.2.1, z32.2.2.2.2.2.2.2.2.2⟩ : Z6)).bind fun y41 => cond (y41 != 0) (some ((⟨⟨0, 0, 0, 0, 0, 0, 0, false⟩, 0, 0⟩ : Z3), y41)) ((Qu a0 (⟨⟨z32.2.2.1, z32.2.2.2.1, z32.2.2.2.2.1, z32.2.2.2.2.2.1, z32.2.2.2.2.2.2.1, z32.2.2.2.2.2.2.2.1, z32.2.2.2.2.2.2.2.2.1, z32.2.2.2.2.2.2.2.2.2⟩, z32.1, (IntKind.i64.wrap ((IntKind.i64.wrap (z32.2.1 + 1)) + z32.2.2.2.1))⟩ : Z3)).bind fun y43 => some (y43.1, y43.2)) | .inr z32 => some ((⟨⟨0, 0, 0, 0, 0, 0, 0, false⟩, 0, 0⟩ : Z3), 7))))
structure Zm where
 Kind : Int
 S : Int
 At : Int
 Data : Int
 Ptrs : Int
 Count : Int
 N : Int
noncomputable def J7 (a0 : (List (List Int))) (a1 : Int) (a2 : Int) : Option (Zm × Int) :=
 (Ji a0 a1 a2).bind fun y2 => cond (cond (y2.2 != 0) true (y2.1.P.Kind == 0)) (some ((⟨0, 0, 0, 0, 0, 0, 0⟩ : Zm), y2.2)) (cond (y2.1.P.Kind == 1) (some ((⟨1, y2.1.Segment, y2.1.At, y2.1.P.Data, y2.1.P.Ptrs, 0, 0⟩ : Zm), 0)) (cond (decide (y2.1.P.Code < 7)) (some ((⟨(IntKind.i64.wrap (2 + y2.1.P.Code)), y2.1.Segment, y2.1.At, 0, 0, y2.1.P.Count, 0⟩ : Zm), 0)) ((Ql a0 y2.1.Segment).bind fun x5 => (Ql x5 y2.1.At).bind fun x6 => (Y1 x6).bind fun y8 => cond (cond (cond (cond (x6 != 0) (y8.Kind != 1) false) true (decide (y8.Off < 0))) true (decide (y2.1.P.Count < (IntKind.i64.wrap (y8.Off * (IntKind.i64.wrap (y8.Data + y8.Ptrs))))))) (some ((⟨0, 0, 0, 0, 0, 0, 0⟩ : Zm), 8)) (some ((⟨9, y2.1.Segment, (IntKind.i64.wrap (y2.1.At + 1)), y8.Data, y8.Ptrs, y8.Off, 0⟩ : Zm), 0)))))
noncomputable def Xm (a0 : Zm) (a1 : (List (List Int))) : Option (List Int) :=
 cond (a0.Kind == 10) (some ([a0.N] : List Int)) (cond (a0.Kind != 1) (some ([] : (List Int))) ((Ql a1 a0.S).bind fun x4 => (Zet x4 a0.At (IntKind.i64.wrap (a0.At + a0.Data))).bind fun l5 => (Zd4 8 ([] : List Int) l5).bind fun l6 => some l6))
noncomputable def Xu (a0 : Zm) : Option Int :=
 cond (a0.Kind == 1) (some a0.Ptrs) (some a0.Count)
noncomputable def Kp (a0 : Int) : Option Int :=
 cond (a0 == 0) (some 0) (cond (a0 == 1) (some 1) (cond (a0 == 2) (some 8) (cond (a0 == 3) (some 16) (cond (a0 == 4) (some 32) (cond (a0 == 5) (some 64) (some (-1)))))))
noncomputable def Jg (a1 : Int) (s0_ : (Int × Int)) : Option ((Int × Int) ⊕ Int) :=
 cond (decide (s0_.2 < (Int.tmod a1 64))) (some (.inl ((IntKind.u64.wrap (Int.tdiv s0_.1 2)), (IntKind.i64.wrap (s0_.2 + 1))))) (some (.inr s0_.1))
noncomputable def Vm (a0 : (List Int)) (a1 : Int) : Option Int :=
 cond (cond (decide (a1 < 0)) true (decide ((a0.length : Int) ≤ (IntKind.i64.wrap (Int.tdiv a1 64))))) (some 0) ((Ql a0 (IntKind.i64.wrap (Int.tdiv a1 64))).bind fun x2 => (Zx (Jg a1) (x2, 0)).bind fun (z4 : Int) => some (Int.tmod z4 2))
noncomputable def Jh (a0 : (List Int)) (a2 : Int) (y2 : Int) (s0_ : (Int × Int)) : Option ((Int × Int) ⊕ Int) :=
 cond (decide (0 ≤ s0_.2)) ((Vm a0 (IntKind.i64.wrap ((IntKind.i64.wrap (a2 * y2)) + s0_.2))).bind fun y3 => some (.inl ((IntKind.u64.wrap ((IntKind.u64.wrap (s0_.1 * 2)) + y3)), (IntKind.i64.wrap (s0_.2 - 1))))) (some (.inr s0_.1))
noncomputable def Vn (a0 : (List Int)) (a1 : Int) (a2 : Int) : Option Int :=
 (Kp a1).bind fun y2 => cond (cond (cond (decide (y2 < 1)) true (decide (a2 < 0))) true (decide (1099511627776 < a2))) (some 0) ((Zx (Jh a0 a2 y2) (0, (IntKind.i64.wrap (y2 - 1)))).bind fun (z5 : Int) => some z5)
noncomputable def Q1 (a0 : Zm) (a1 : (List (List Int))) (a2 : Int) : Option (Zm × Int) :=
 (cond (decide (a2 < 0)) (some true) ((Xu a0).bind fun y4 => some (cond (decide (a2 < 0)) true (decide (y4 ≤ a2))))).bind fun (z2 : Bool) => cond z2 (some ((⟨0, 0, 0, 0, 0, 0, 0⟩ : Zm), 0)) (cond (a0.Kind == 1) ((J7 a1 a0.S (IntKind.i64.wrap ((IntKind.i64.wrap (a0.At + a0.Data)) + a2))).bind fun y7 => some (y7.1, y7.2)) (cond (a0.Kind == 8) ((J7 a1 a0.S (IntKind.i64.wrap (a0.At + a2))).bind fun y9 => some (y9.1, y9.2)) (cond (a0.Kind == 9) (some ((⟨1, a0.S, (IntKind.i64.wrap (a0.At + (IntKind.i64.wrap (a2 * (IntKind.i64.wrap (a0.Data + a0.Ptrs)))))), a0.Data, a0.Ptrs, 0, 0⟩ : Zm), 0)) ((Ql a1 a0.S).bind fun x13 => (Zet x13 a0.At (x13.length : Int)).bind fun l14 => (Vn l14 (IntKind.i64.wrap (a0.Kind - 2)) a2).bind fun y15 => some ((⟨10, 0, 0, 0, 0, 0, y15⟩ : Zm), 0)))))
noncomputable def Qy (Yb : ((List (List Int)) → Zm → Int → Int → Option (Zd × Int × Int))) (Yy : ((List (List Int)) → Zm → Int → Int → Option (Zd × Int × Int))) (a0 : (List (List Int))) (a1 : Zm) (a2 : Int) (s0_ : (Int × Int × (List Zd))) : Option ((Int × Int × (List Zd)) ⊕ ((Int × Int × (List Zd)) ⊕ (Int × (List Zd)))) :=
 (Xu a1).bind fun y10 => cond (decide (s0_.2.1 < y10)) ((Q1 a1 a0 s0_.2.1).bind fun y12 => cond (y12.2 != 0) (some (.inr (.inl (s0_.1, y12.2, s0_.2.2)))) ((Xm y12.1 a0).bind fun y14 => (cond (a1.Kind == 9) ((Yy a0 y12.1 (IntKind.i64.wrap (a2 - 2)) s0_.1).bind fun y16 => some (y16.2.1, y16.2.2, y16.1.Kind, y16.1.Words, y16.1.Kids)) (cond (cond (a1.Kind == 1) true (a1.Kind == 8)) ((Yb a0 y12.1 (IntKind.i64.wrap (a2 - 1)) s0_.1).bind fun y17 => some (y17.2.1, y17.2.2, y17.1.Kind, y17.1.Words, y17.1.Kids)) (some (s0_.1, y12.2, y12.1.Kind, y14, ([] : (List Zd)))))).bind fun (z15 : (Int × Int × Int × (List Int) × (List Zd))) => cond (z15.2.1 != 0) (some (.inr (.inl (z15.1, z15.2.1, s0_.2.2)))) ((Zd4 56 s0_.2.2 ([(⟨z15.2.2.1, z15.2.2.2.1, z15.2.2.2.2⟩ : Zd)] : List Zd)).bind fun l20 => some (.inl (z15.1, (IntKind.i64.wrap (s0_.2.1 + 1)), l20))))) (some (.inr (.inr (s0_.1, s0_.2.2))))
noncomputable def Qx (Yb : ((List (List Int)) → Zm → Int → Int → Option (Zd × Int × Int))) (Yy : ((List (List Int)) → Zm → Int → Int → Option (Zd × Int × Int))) (a0 : (List (List Int))) (a1 : Zm) (a2 : Int) (a3 : Int) : Option (Zd × Int × Int) :=
 (Xm a1 a0).bind fun y2 => cond (a1.Kind == 0) (some ((⟨a1.Kind, y2, []⟩ : Zd), a3, 0)) (cond (cond (decide (a2 < 1)) true (cond (cond (a1.Kind == 9) (decide (0 < a1.Count)) false) (decide (a2 < 2)) false)) (some ((⟨a1.Kind, y2, []⟩ : Zd), a3, 3)) ((Xu a1).bind fun y4 => (cond (a1.Kind == 1) (some (IntKind.i64.wrap ((IntKind.i64.wrap (1 + a1.Data)) + a1.Ptrs))) (some (IntKind.i64.wrap (1 + y4)))).bind fun (z5 : Int) => (cond (a1.Kind == 9) (some (IntKind.i64.wrap (1 + (IntKind.i64.wrap (a1.Count * (IntKind.i64.wrap ((IntKind.i64.wrap (1 + a1.Data)) + a1.Ptrs))))))) (some z5)).bind fun (z7 : Int) => cond (decide (a3 < z7)) (some ((⟨a1.Kind, y2, []⟩ : Zd), a3, 3)) ((Zx (Qy Yb Yy a0 a1 a2) ((IntKind.i64.wrap (a3 - z7)), 0, ([] : List Zd))).bind fun (z24 : ((Int × Int × (List Zd)) ⊕ (Int × (List Zd)))) => match z24 with | .inl z24 => some ((⟨a1.Kind, y2, z24.2.2⟩ : Zd), z24.1, z24.2.1) | .inr z24 => some ((⟨a1.Kind, y2, z24.2⟩ : Zd), z24.1, 0))))
noncomputable def Jw (Yb : ((List (List Int)) → Zm → Int → Int → Option (Zd × Int × Int))) (a0 : (List (List Int))) (a1 : Zm) (a2 : Int) (s0_ : (Int × Int × (List Zd))) : Option ((Int × Int × (List Zd)) ⊕ ((Int × Int × (List Zd)) ⊕ (Int × (List Zd)))) :=
 cond (decide (s0_.2.1 < a1.Ptrs)) ((Q1 a1 a0 s0_.2.1).bind fun y4 => cond (y4.2 != 0) (some (.inr (.inl (s0_.1, y4.2, s0_.2.2)))) ((Yb a0 y4.1 a2 s0_.1).bind fun y6 => cond (y6.2.2 != 0) (some (.inr (.inl (y6.2.1, y6.2.2, s0_.2.2)))) ((Zd4 56 s0_.2.2 ([y6.1] : List Zd)).bind fun l7 => some (.inl (y6.2.1, (IntKind.i64.wrap (s0_.2.1 + 1)), l7))))) (some (.inr (.inr (s0_.1, s0_.2.2))))
noncomputable def J4 (Yb : ((List (List Int)) → Zm → Int → Int → Option (Zd × Int × Int))) (Yy : ((List (List Int)) → Zm → Int → Int → Option (Zd × Int × Int))) (a0 : (List (List Int))) (a1 : Zm) (a2 : Int) (a3 : Int) : Option (Zd × Int × Int) :=
 (Xm a1 a0).bind fun y2 => (Zx (Jw Yb a0 a1 a2) (a3, 0, ([] : List Zd))).bind fun (z11 : ((Int × Int × (List Zd)) ⊕ (Int × (List Zd)))) => match z11 with | .inl z11 => some ((⟨1, y2, z11.2.2⟩ : Zd), z11.1, z11.2.1) | .inr z11 => some ((⟨1, y2, z11.2⟩ : Zd), z11.1, 0)
noncomputable def Ye : Nat → (((List (List Int)) → Zm → Int → Int → Option (Zd × Int × Int)) × ((List (List Int)) → Zm → Int → Int → Option (Zd × Int × Int)))
 | 0 => ((fun _ _ _ _ => none), (fun _ _ _ _ => none))
 | k + 1 => (Qx ((Ye k).1) ((Ye k).2), J4 ((Ye k).1) ((Ye k).2))
noncomputable def Ud (a0 : (List (List Int))) (a1 : Zm) (a2 : Int) (a3 : Int) : Option (Zd × Int × Int) := lim fun k => (Ye k).1 a0 a1 a2 a3
noncomputable def Qa (a0 : (List (List Int))) (a1 : Zw) : Option (Zd × Int × Int) :=
 (Ka a1).bind fun y2 => (J7 a0 0 0).bind fun y4 => cond (y4.2 != 0) (some ((⟨0, [], []⟩ : Zd), 0, y4.2)) ((Ud a0 y4.1 y2.Depth y2.Weight).bind fun y6 => cond (y6.2.2 != 0) (some ((⟨0, [], []⟩ : Zd), 0, y6.2.2)) (some (y6.1, (IntKind.i64.wrap (y2.Weight - y6.2.1)), 0)))
noncomputable def J0 (a0 : Zl) (a1 : Za) : Option (Int × Int × Zl) :=
 (Uo a1).bind fun y2 => cond (y2.2 != 0) (some (0, y2.2, (⟨a0.classes, a0.places⟩ : Zl))) ((Q2 (⟨a0.classes, a0.places⟩ : Zl) (⟨y2.1, a1⟩ : Zg)).bind fun y4 => some (y4.1, y4.2.1, (⟨y4.2.2.classes, y4.2.2.places⟩ : Zl)))
noncomputable def Yq (a0 : (List (List (List Int)))) (y2 : Zw) (s0_ : (Int × (List Zd) × (List Zg) × (List Int))) : Option ((Int × (List Zd) × (List Zg) × (List Int)) ⊕ (Unit ⊕ Unit)) :=
 cond (cond (decide (s0_.1 < (a0.length : Int))) (decide (s0_.1 < 30)) false) (((Ql a0 s0_.1).bind fun x8 => (Qa x8 y2).bind fun y9 => cond (y9.2.2 != 0) (some (.inl (s0_.2.1, s0_.2.2.1, s0_.2.2.2))) ((Ql a0 s0_.1).bind fun x13 => (J5 x13).bind fun y14 => (J0 (⟨s0_.2.2.1, s0_.2.2.2⟩ : Zl) y14).bind fun y15 => (Kr s0_.2.1 y9.1).bind fun y17 => (cond (y15.2.1 != 0) (some true) (cond (y15.1 != y17.2) (some true) ((Jq (some (⟨y15.2.2.classes, y15.2.2.places⟩ : Zl))).bind fun y21 => some (cond (cond (y15.2.1 != 0) true (y15.1 != y17.2)) true (y21 != (y17.1.length : Int)))))).bind fun (z19 : Bool) => cond z19 (some (.inr ())) (some (.inl (y17.1, y15.2.2.classes, y15.2.2.places))))).bind fun (z5 : (((List Zd) × (List Zg) × (List Int)) ⊕ Unit)) => match z5 with | .inl z5 => some (.inl ((IntKind.i64.wrap (s0_.1 + 1)), z5.1, z5.2.1, z5.2.2)) | .inr z5 => some (.inr (.inl ()))) (some (.inr (.inr ())))
noncomputable def Jb (a0 : (List (List (List Int)))) (a1 : Zw) : Option Bool :=
 (Km a1).bind fun y2 => (Up).bind fun y4 => (Zx (Yq a0 y2) (0, ([] : List Zd), y4.classes, y4.places)).bind fun (z27 : (Unit ⊕ Unit)) => match z27 with | .inl z27 => some false | .inr z27 => (Ko).bind fun y29 => some y29
end Go.Proofs.Ytgffgbdnbjbmoaa
