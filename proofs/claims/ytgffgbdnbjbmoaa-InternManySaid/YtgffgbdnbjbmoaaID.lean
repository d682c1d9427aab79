/- Part ID of this seat's mirrors: functions of the seat's program, and the plain functions that they are; each theorem bears its own conditions. -/
import Derived.Test.YtgffgbdnbjbmoaaH26
namespace Go.Proofs.Ytgffgbdnbjbmoaa
open Go.RowKit
set_option linter.unusedVariables false
set_option linter.unusedSimpArgs false
set_option maxRecDepth 100000
set_option maxHeartbeats 4000000
noncomputable def Yp (a0 : List Int) : Option (List Int) :=
 Zb7 8 ([] : List Int) a0
noncomputable def Jg (a0 : (List (List Int))) (s0_ : (Int × (List (List Int)))) : Option ((Int × (List (List Int))) ⊕ (List (List Int))) :=
 cond (decide (s0_.1 < (a0.length : Int))) ((Jc a0 s0_.1).bind fun x4 => (Yp x4).bind fun y5 => (Jc s0_.2 s0_.1).bind fun x6 => some (.inl ((IntKind.i64.wrap (s0_.1 + 1)), (Zbo s0_.2 s0_.1 y5)))) (some (.inr s0_.2))
noncomputable def Vl (a0 : (List (List Int))) : Option (List (List Int)) :=
 (Ze9 24 (a0.length : Int) ([] : (List Int))).bind fun l2 => (Zw (Jg a0) (0, l2)).bind fun (z9 : (List (List Int))) => some z9
structure Ze where
 segments : (List (List Int))
 size : Int
 left : Int
noncomputable def Zbh (a0 : (List (List Int))) : Option (Option Ze) :=
 (Vl a0).bind fun y2 => some (some (⟨y2, 0, 0⟩ : Ze))
noncomputable def Kw (a0 : (Option Ze)) : Option Int :=
 cond (Option.isNone a0) (some 0) ((a0).bind fun x4 => some (x4.segments.length : Int))
noncomputable def Qh (a0 : (Option Ze)) (a1 : Int) : Option Bool :=
 (cond (decide (0 ≤ a1)) ((Kw a0).bind fun y4 => some (cond (decide (0 ≤ a1)) (decide (a1 < y4)) false)) (some false)).bind fun (z2 : Bool) => some z2
noncomputable def Qt (a0 : (Option Ze)) (a1 : Int) : Option Int :=
 (Qh a0 a1).bind fun y2 => cond (!y2) (some 0) ((a0).bind fun x5 => (Jc x5.segments a1).bind fun x6 => some (x6.length : Int))
noncomputable def Qc (a0 : (Option Ze)) (a1 : Int) (a2 : Int) (a3 : Int) : Option Bool :=
 ((Qh a0 a1).bind fun y8 => cond y8 (cond (decide (0 ≤ a2)) (cond (decide (0 ≤ a3)) ((Qt a0 a1).bind fun y9 => cond (decide (a3 ≤ y9)) ((Qt a0 a1).bind fun y10 => some (cond (cond (cond (cond y8 (decide (0 ≤ a2)) false) (decide (0 ≤ a3)) false) (decide (a3 ≤ y9)) false) (decide (a2 ≤ (IntKind.i64.wrap (y10 - a3)))) false)) (some false)) (some false)) (some false)) (some false)).bind fun (z4 : Bool) => some z4
noncomputable def Xd (a0 : (Option Ze)) (a1 : Int) (a2 : Int) : Option (Int × Bool) :=
 (Qc a0 a1 a2 1).bind fun y2 => cond (!y2) (some (0, false)) ((a0).bind fun x6 => (Jc x6.segments a1).bind fun x7 => (Jc x7 a2).bind fun x8 => some (x8, true))
noncomputable def Uj (a0 : Int) : Option Int :=
 some (IntKind.i64.wrap (Int.fdiv (IntKind.i32.wrap (IntKind.u32.wrap a0)) (2 ^ min (Int.toNat 2) 32)))
noncomputable def Y9 (a0 : Int) (a1 : Int) (a2 : Int) : Option Int :=
 (Qs (0 ≤ a1)).bind fun u3 => (Qs (0 ≤ a2)).bind fun u4 => some (IntKind.i64.wrap (IntKind.u64.wrap (Xr .u64 (Int.fdiv a0 (2 ^ min (Int.toNat a1) 64)) (IntKind.u64.wrap ((IntKind.u64.wrap (1 * 2 ^ min (Int.toNat a2) 64)) - 1)))))
structure Ym where
 Kind : Int
 Off : Int
 Data : Int
 Ptrs : Int
 Code : Int
 Count : Int
 Segment : Int
 Double : Bool
noncomputable def Qy (a0 : Int) : Option Ym :=
 cond (a0 == 0) (some (⟨0, 0, 0, 0, 0, 0, 0, false⟩ : Ym)) (cond ((IntKind.u64.wrap (Xr .u64 a0 3)) == 0) ((Uj a0).bind fun y4 => (Y9 a0 32 16).bind fun y5 => (Y9 a0 48 16).bind fun y6 => some (⟨1, y4, y5, y6, 0, 0, 0, false⟩ : Ym)) (cond ((IntKind.u64.wrap (Xr .u64 a0 3)) == 1) ((Uj a0).bind fun y10 => (Y9 a0 32 3).bind fun y11 => (Y9 a0 35 29).bind fun y12 => some (⟨2, y10, 0, 0, y11, y12, 0, false⟩ : Ym)) (cond ((IntKind.u64.wrap (Xr .u64 a0 3)) == 2) ((Y9 a0 3 29).bind fun y15 => (Y9 a0 32 32).bind fun y16 => some (⟨3, y15, 0, 0, 0, 0, y16, ((IntKind.u64.wrap (Xr .u64 (Int.fdiv a0 (2 ^ min (Int.toNat 2) 64)) 1)) == 1)⟩ : Ym)) (some (⟨4, 0, 0, 0, 0, 0, 0, false⟩ : Ym)))))
noncomputable def Jl (a0 : (Option Ze)) (a1 : Int) (a2 : Int) (a3 : Int) : Option ((List Int) × Bool) :=
 (Qc a0 a1 a2 a3).bind fun y2 => cond (!y2) (some (([] : (List Int)), false)) ((a0).bind fun x7 => (Jc x7.segments a1).bind fun x8 => (Zdv x8 a2 (IntKind.i64.wrap (a2 + a3))).bind fun l9 => (Yp l9).bind fun y10 => some (y10, true))
noncomputable def Gw (a0 : Int) : Option Int :=
 ((some (⟨[0, 1, 8, 16, 32, 64, 64], rfl⟩ : (Arr Int 7)))).bind fun y6 => ((some (⟨[0, 0, 0, 0, 0, 0, 0], rfl⟩ : (Arr Int 7)))).bind fun y8 => (Jc y6.1 a0).bind fun x12 => some x12
noncomputable def Ko (a0 : Ym) : Option (Int × Bool) :=
 cond (a0.Kind == 1) (some ((IntKind.i64.wrap (a0.Data + a0.Ptrs)), true)) (cond (cond (a0.Kind == 2) (a0.Code == 7) false) (some ((IntKind.i64.wrap (a0.Count + 1)), true)) (cond (cond (cond (cond (cond (a0.Kind == 2) (decide (0 ≤ a0.Code)) false) (decide (a0.Code < 7)) false) (decide (0 ≤ a0.Count)) false) (decide (a0.Count ≤ 536870911)) false) ((Gw a0.Code).bind fun y2 => some ((IntKind.i64.wrap (Int.tdiv (IntKind.i64.wrap ((IntKind.i64.wrap (a0.Count * y2)) + 63)) 64)), true)) (some (0, false))))
structure Y3 where
 P : Ym
 Segment : Int
 At : Int
noncomputable def Kj (a0 : (Option Ze)) (a1 : Ym) (a2 : Int) (a3 : Int) : Option (Y3 × Int) :=
 cond (a1.Kind == 4) (some ((⟨⟨0, 0, 0, 0, 0, 0, 0, false⟩, 0, 0⟩ : Y3), 9)) ((Ko a1).bind fun y2 => cond (!y2.2) (some ((⟨⟨0, 0, 0, 0, 0, 0, 0, false⟩, 0, 0⟩ : Y3), 8)) ((Qc a0 a2 a3 y2.1).bind fun y4 => cond (!y4) (some ((⟨⟨0, 0, 0, 0, 0, 0, 0, false⟩, 0, 0⟩ : Y3), 7)) (some ((⟨⟨a1.Kind, 0, a1.Data, a1.Ptrs, a1.Code, a1.Count, a1.Segment, a1.Double⟩, a2, a3⟩ : Y3), 0))))
noncomputable def Uh (a0 : (Option Ze)) (a1 : Int) (a2 : Int) : Option (Y3 × Int) :=
 (Jl a0 a1 a2 2).bind fun y2 => cond (!y2.2) (some ((⟨⟨0, 0, 0, 0, 0, 0, 0, false⟩, 0, 0⟩ : Y3), 7)) ((Jc y2.1 0).bind fun x3 => (Qy x3).bind fun y4 => (Jc y2.1 1).bind fun x5 => (Qy x5).bind fun y6 => cond (cond (y4.Kind != 3) true y4.Double) (some ((⟨⟨0, 0, 0, 0, 0, 0, 0, false⟩, 0, 0⟩ : Y3), 8)) (cond (cond (y6.Kind != 4) (y6.Off != 0) false) (some ((⟨⟨0, 0, 0, 0, 0, 0, 0, false⟩, 0, 0⟩ : Y3), 8)) ((Kj a0 y6 y4.Segment y4.Off).bind fun y8 => some (y8.1, y8.2))))
noncomputable def Ui (a0 : (Option Ze)) (a1 : Int) (a2 : Int) : Option (Y3 × Int) :=
 (Xd a0 a1 a2).bind fun y2 => cond (!y2.2) (some ((⟨⟨0, 0, 0, 0, 0, 0, 0, false⟩, 0, 0⟩ : Y3), 7)) ((Qy y2.1).bind fun y4 => (Kj a0 y4 a1 (IntKind.i64.wrap ((IntKind.i64.wrap (a2 + 1)) + y4.Off))).bind fun y6 => some (y6.1, y6.2))
noncomputable def Ug (a0 : (Option Ze)) (a1 : Int) (a2 : Int) : Option (Y3 × Int) :=
 (Xd a0 a1 a2).bind fun y2 => cond (!y2.2) (some ((⟨⟨0, 0, 0, 0, 0, 0, 0, false⟩, 0, 0⟩ : Y3), 7)) ((Qy y2.1).bind fun y4 => cond (y4.Kind == 0) (some ((⟨⟨0, 0, 0, 0, 0, 0, 0, false⟩, 0, 0⟩ : Y3), 0)) (cond (cond (y4.Kind == 3) y4.Double false) ((Uh a0 y4.Segment y4.Off).bind fun y6 => some (y6.1, y6.2)) (cond (y4.Kind == 3) ((Ui a0 y4.Segment y4.Off).bind fun y8 => some (y8.1, y8.2)) ((Kj a0 y4 a1 (IntKind.i64.wrap ((IntKind.i64.wrap (a2 + 1)) + y4.Off))).bind fun y10 => some (y10.1, y10.2)))))
structure Za where
 a : (Option Ze)
 kind : Int
 segment : Int
 at_ : Int
 words : Int
 ptrs : Int
 count : Int
 code : Int
 index : Int
noncomputable def Kk (a0 : Za) : Option (Za × Int) :=
 (Xd a0.a a0.segment a0.at_).bind fun y2 => (Qy y2.1).bind fun y4 => cond (cond (cond (cond (y4.Kind != 0) (y4.Kind != 1) false) true (decide (y4.Off < 0))) true (decide (a0.count < (IntKind.i64.wrap (y4.Off * (IntKind.i64.wrap (y4.Data + y4.Ptrs))))))) (some ((⟨(none : (Option Ze)), 0, 0, 0, 0, 0, 0, 0, 0⟩ : Za), 8)) (some ((⟨a0.a, a0.kind, a0.segment, a0.at_, y4.Data, y4.Ptrs, y4.Off, a0.code, a0.index⟩ : Za), 0))
noncomputable def K3 (a0 : (Option Ze)) (a1 : Int) (a2 : Int) : Option (Za × Int) :=
 (Ug a0 a1 a2).bind fun y2 => cond (cond (y2.2 != 0) true (y2.1.P.Kind == 0)) (some ((⟨(none : (Option Ze)), 0, 0, 0, 0, 0, 0, 0, 0⟩ : Za), y2.2)) (cond (y2.1.P.Kind == 1) (some ((⟨a0, 1, y2.1.Segment, y2.1.At, y2.1.P.Data, y2.1.P.Ptrs, 0, 0, 0⟩ : Za), 0)) (cond (y2.1.P.Code == 7) ((Kk (⟨a0, (IntKind.i64.wrap (y2.1.P.Code + 2)), y2.1.Segment, y2.1.At, 0, 0, y2.1.P.Count, 0, 0⟩ : Za)).bind fun y4 => some (y4.1, y4.2)) (some ((⟨a0, (IntKind.i64.wrap (y2.1.P.Code + 2)), y2.1.Segment, y2.1.At, 0, 0, y2.1.P.Count, 0, 0⟩ : Za), 0))))
noncomputable def Vm (a0 : (Option Ze)) : Option (Za × Int) :=
 (K3 a0 0 0).bind fun y2 => some (y2.1, y2.2)
noncomputable def Qd (a0 : (List (List Int))) : Option Za :=
 (Zbh a0).bind fun y3 => (Vm y3).bind fun y4 => some y4.1
noncomputable def Yj (a0 : Za) : Option Int :=
 some a0.kind
noncomputable def Xt (a0 : Za) : Option Int :=
 cond (a0.kind == 1) (some a0.ptrs) (some a0.count)
noncomputable def Xq (a0 : Za) (a1 : Int) : Option (Za × Int) :=
 (cond (decide (a1 < 0)) (some true) ((Xt a0).bind fun y4 => some (cond (decide (a1 < 0)) true (decide (y4 ≤ a1))))).bind fun (z2 : Bool) => cond z2 (some ((⟨(none : (Option Ze)), 0, 0, 0, 0, 0, 0, 0, 0⟩ : Za), 0)) (cond (a0.kind == 1) ((K3 a0.a a0.segment (IntKind.i64.wrap ((IntKind.i64.wrap (a0.at_ + a0.words)) + a1))).bind fun y7 => some (y7.1, y7.2)) (cond (a0.kind == 8) ((K3 a0.a a0.segment (IntKind.i64.wrap (a0.at_ + a1))).bind fun y9 => some (y9.1, y9.2)) (cond (a0.kind == 9) (some ((⟨a0.a, 1, a0.segment, (IntKind.i64.wrap ((IntKind.i64.wrap (a0.at_ + 1)) + (IntKind.i64.wrap (a1 * (IntKind.i64.wrap (a0.words + a0.ptrs)))))), a0.words, a0.ptrs, 0, 0, 0⟩ : Za), 0)) (some ((⟨a0.a, 10, a0.segment, a0.at_, 0, 0, 0, (IntKind.i64.wrap (a0.kind - 2)), a1⟩ : Za), 0)))))
noncomputable def Ue (a0 : Za) (s0_ : Int) : Option (Int ⊕ ((Int × Int) ⊕ Unit)) :=
 cond (decide (0 < s0_)) ((Xq a0 (IntKind.i64.wrap (s0_ - 1))).bind fun y4 => (cond (y4.2 != 0) (some true) ((Yj y4.1).bind fun y8 => some (cond (y4.2 != 0) true (y8 != 0)))).bind fun (z6 : Bool) => cond z6 (some (.inr (.inl (s0_, y4.2)))) (some (.inl (IntKind.i64.wrap (s0_ - 1))))) (some (.inr (.inr ())))
noncomputable def Gv (a0 : Za) : Option (Int × Int) :=
 (Xt a0).bind fun y2 => (Zw (Ue a0) y2).bind fun (z12 : ((Int × Int) ⊕ Unit)) => match z12 with | .inl z12 => some (z12.1, z12.2) | .inr z12 => some (0, 0)
noncomputable def Ki (a0 : Za) : Option (Int × Int) :=
 (Yj a0).bind fun y2 => cond (y2 != 1) ((Xt a0).bind fun y4 => some (y4, 0)) ((Gv a0).bind fun y6 => cond (y6.2 != 0) (some (0, y6.2)) (some (y6.1, 0)))
structure Zm where
 sum : Int
 left : Int
noncomputable def Xk (a0 : Zm) (a1 : Int) : Option Zm :=
 some (⟨(IntKind.u64.wrap (Gu .u64 (IntKind.u64.wrap ((IntKind.u64.wrap (Gu .u64 a0.sum a1)) * 11400714819323198485)) (Int.fdiv (IntKind.u64.wrap ((IntKind.u64.wrap (Gu .u64 a0.sum a1)) * 11400714819323198485)) (2 ^ min (Int.toNat 32) 64)))), a0.left⟩ : Zm)
noncomputable def Qv (a0 : Za) : Option Int :=
 cond (a0.kind == 1) (some a0.words) (cond (a0.kind == 10) (some 1) (some 0))
noncomputable def Vd (a0 : Int) : Option (Int × Bool) :=
 ((some (⟨[0, 1, 8, 16, 32, 64], rfl⟩ : (Arr Int 6)))).bind fun y6 => ((some (⟨[0, 0, 0, 0, 0, 0], rfl⟩ : (Arr Int 6)))).bind fun y8 => cond (cond (decide (a0 < 0)) true (decide (6 ≤ a0))) (some (0, false)) ((Jc y6.1 a0).bind fun x12 => some (x12, true))
noncomputable def Zbi (a0 : (List Int)) (a1 : Int) (a2 : Int) : Option Int :=
 (Vd a1).bind fun y2 => cond (cond (y2.1 == 0) true (decide (a2 < 0))) (some 0) ((Qs (y2.1 ≠ 0)).bind fun u4 => (Qs ((IntKind.i64.wrap (Int.tdiv 64 y2.1)) ≠ 0)).bind fun u6 => cond (decide ((a0.length : Int) ≤ (IntKind.i64.wrap (Int.tdiv a2 (IntKind.i64.wrap (Int.tdiv 64 y2.1)))))) (some 0) ((Qs ((IntKind.i64.wrap (Int.tdiv 64 y2.1)) ≠ 0)).bind fun u12 => (Jc a0 (IntKind.i64.wrap (Int.tdiv a2 (IntKind.i64.wrap (Int.tdiv 64 y2.1))))).bind fun x13 => (Qs ((IntKind.i64.wrap (Int.tdiv 64 y2.1)) ≠ 0)).bind fun u14 => (Qs (0 ≤ (IntKind.i64.wrap ((Int.tmod a2 (IntKind.i64.wrap (Int.tdiv 64 y2.1))) * y2.1)))).bind fun u15 => (Qs (0 ≤ y2.1)).bind fun u16 => some (IntKind.u64.wrap (Xr .u64 (Int.fdiv x13 (2 ^ min (Int.toNat (IntKind.i64.wrap ((Int.tmod a2 (IntKind.i64.wrap (Int.tdiv 64 y2.1))) * y2.1))) 64)) (IntKind.u64.wrap ((IntKind.u64.wrap (1 * 2 ^ min (Int.toNat y2.1) 64)) - 1))))))
noncomputable def Jf (a0 : Za) : Option Int :=
 (Vd a0.code).bind fun y2 => cond (y2.1 == 0) (some 0) ((Qs (y2.1 ≠ 0)).bind fun u4 => (Qs ((IntKind.i64.wrap (Int.tdiv 64 y2.1)) ≠ 0)).bind fun u7 => (Xd a0.a a0.segment (IntKind.i64.wrap (a0.at_ + (IntKind.i64.wrap (Int.tdiv a0.index (IntKind.i64.wrap (Int.tdiv 64 y2.1))))))).bind fun y8 => (Qs ((IntKind.i64.wrap (Int.tdiv 64 y2.1)) ≠ 0)).bind fun u11 => (Zbi ([y8.1] : List Int) a0.code (Int.tmod a0.index (IntKind.i64.wrap (Int.tdiv 64 y2.1)))).bind fun y12 => some y12)
noncomputable def Xu (a0 : Za) (a1 : Int) : Option Int :=
 (cond (decide (a1 < 0)) (some true) ((Qv a0).bind fun y4 => some (cond (decide (a1 < 0)) true (decide (y4 ≤ a1))))).bind fun (z2 : Bool) => cond z2 (some 0) (cond (a0.kind == 10) ((Jf a0).bind fun y7 => some y7) ((Xd a0.a a0.segment (IntKind.i64.wrap (a0.at_ + a1))).bind fun y9 => some y9.1))
noncomputable def Ud (a0 : Za) (s0_ : Int) : Option (Int ⊕ Int) :=
 (cond (decide (0 < s0_)) ((Xu a0 (IntKind.i64.wrap (s0_ - 1))).bind fun y6 => some (cond (decide (0 < s0_)) (y6 == 0) false)) (some false)).bind fun (z4 : Bool) => cond z4 (some (.inl (IntKind.i64.wrap (s0_ - 1)))) (some (.inr s0_))
noncomputable def K0 (a0 : Za) : Option Int :=
 (Qv a0).bind fun y2 => (Zw (Ud a0) y2).bind fun (z9 : Int) => some z9
noncomputable def Xe (a0 : Za) (y2 : Int) (s0_ : (Int × Int × Int)) : Option ((Int × Int × Int) ⊕ (Int × Int)) :=
 cond (decide (s0_.1 < y2)) ((Xu a0 s0_.1).bind fun y5 => (Xk (⟨s0_.2.1, s0_.2.2⟩ : Zm) y5).bind fun y6 => some (.inl ((IntKind.i64.wrap (s0_.1 + 1)), y6.sum, y6.left))) (some (.inr (s0_.2.1, s0_.2.2)))
noncomputable def X0 (a0 : Za) (a2 : Zm) : Option Zm :=
 (K0 a0).bind fun y2 => (Xk a2 (IntKind.u64.wrap y2)).bind fun y4 => (Zw (Xe a0 y2) (0, y4.sum, y4.left)).bind fun (z8 : (Int × Int)) => some (⟨z8.1, z8.2⟩ : Zm)
noncomputable def X5 (Y2 : (Zm → Za → Option (Int × Zm))) (a1 : Za) (y2 : (Int × Int)) (s0_ : (Int × Int × Int)) : Option ((Int × Int × Int) ⊕ ((Int × Int × Int) ⊕ (Int × Int))) :=
 cond (decide (s0_.1 < y2.1)) ((Xq a1 s0_.1).bind fun y12 => cond (y12.2 != 0) (some (.inr (.inl (y12.2, s0_.2.1, s0_.2.2)))) ((Y2 (⟨s0_.2.1, s0_.2.2⟩ : Zm) y12.1).bind fun y14 => cond (y14.1 != 0) (some (.inr (.inl (y14.1, y14.2.sum, y14.2.left)))) (some (.inl ((IntKind.i64.wrap (s0_.1 + 1)), y14.2.sum, y14.2.left))))) (some (.inr (.inr (s0_.2.1, s0_.2.2))))
noncomputable def Y0 (Y2 : (Zm → Za → Option (Int × Zm))) (a0 : Zm) (a1 : Za) : Option (Int × Zm) :=
 cond (a0.left == 0) (some (3, a0)) ((Ki a1).bind fun y2 => cond (y2.2 != 0) (some (y2.2, (⟨a0.sum, (IntKind.i64.wrap (a0.left - 1))⟩ : Zm))) ((Yj a1).bind fun y5 => (Xk (⟨a0.sum, (IntKind.i64.wrap (a0.left - 1))⟩ : Zm) (IntKind.u64.wrap y5)).bind fun y6 => (Xk y6 (IntKind.u64.wrap y2.1)).bind fun y8 => (X0 a1 y8).bind fun y10 => (Zw (X5 Y2 a1 y2) (0, y10.sum, y10.left)).bind fun (z18 : ((Int × Int × Int) ⊕ (Int × Int))) => match z18 with | .inl z18 => some (z18.1, (⟨z18.2.1, z18.2.2⟩ : Zm)) | .inr z18 => some (0, (⟨z18.1, z18.2⟩ : Zm))))
noncomputable def Z8 : Nat → (Zm → Za → Option (Int × Zm))
 | 0 => (fun _ _ => none)
 | k + 1 => Y0 ((Z8 k))
noncomputable def K2 (a0 : Zm) (a1 : Za) : Option (Int × Zm) := lim fun k => (Z8 k) a0 a1
noncomputable def Uf (a0 : Za) : Option (Int × Int) :=
 (K2 (⟨0, 65537⟩ : Zm) a0).bind fun y2 => cond (y2.1 != 0) (some (0, y2.1)) (some (y2.2.sum, 0))
structure Zi where
 hash : Int
 r : Za
structure Zl where
 classes : (List Zi)
 places : (List Int)
noncomputable def Xl (a0 : (Option Zl)) (a1 : Int) : Option Int :=
 (a0).bind fun x3 => (Qs ((IntKind.u64.wrap (x3.places.length : Int)) ≠ 0)).bind fun u4 => some (IntKind.i64.wrap (Int.tmod a1 (IntKind.u64.wrap (x3.places.length : Int))))
noncomputable def Qj (a0 : (Option Zl)) (a1 : Int) : Option Int :=
 (a0).bind fun x3 => (Qs ((x3.places.length : Int) ≠ 0)).bind fun u4 => some (Int.tmod (IntKind.i64.wrap (a1 + 1)) (x3.places.length : Int))
noncomputable def Qf (a0 : Zl) (s0_ : (Int × (List Int))) (s1_ : Int) : Option (Int ⊕ Int) :=
 (Jc s0_.2 s1_).bind fun x8 => cond (x8 != 0) ((Qj (some (⟨a0.classes, s0_.2⟩ : Zl)) s1_).bind fun y9 => some (.inl y9)) (some (.inr s1_))
noncomputable def Qe (a0 : Zl) (s0_ : (Int × (List Int))) : Option ((Int × (List Int)) ⊕ (List Int)) :=
 cond (decide (s0_.1 < (a0.classes.length : Int))) ((Jc a0.classes s0_.1).bind fun x4 => (Xl (some (⟨a0.classes, s0_.2⟩ : Zl)) x4.hash).bind fun y6 => (Zw (Qf a0 s0_) y6).bind fun (z11 : Int) => (Jc s0_.2 z11).bind fun x12 => some (.inl ((IntKind.i64.wrap (s0_.1 + 1)), (Zbo s0_.2 z11 (IntKind.i64.wrap (s0_.1 + 1)))))) (some (.inr s0_.2))
noncomputable def Qi (a0 : Zl) : Option Zl :=
 (Ze9 8 (if 16 < (IntKind.i64.wrap (2 * (a0.places.length : Int))) then (IntKind.i64.wrap (2 * (a0.places.length : Int))) else 16) (0 : Int)).bind fun l2 => (Zw (Qe a0) (0, l2)).bind fun (z15 : (List Int)) => some (⟨a0.classes, z15⟩ : Zl)
noncomputable def Q6 (a0 : Za) (a1 : Za) (y2 : Int) (s0_ : Int) : Option (Int ⊕ (Unit ⊕ Unit)) :=
 cond (decide (s0_ < y2)) ((Xu a0 s0_).bind fun y7 => (Xu a1 s0_).bind fun y8 => cond (y7 != y8) (some (.inr (.inl ()))) (some (.inl (IntKind.i64.wrap (s0_ + 1))))) (some (.inr (.inr ())))
noncomputable def Jw (a0 : Za) (a1 : Za) : Option Bool :=
 (K0 a0).bind fun y2 => (K0 a1).bind fun y4 => cond (y4 != y2) (some false) ((Zw (Q6 a0 a1 y2) 0).bind fun (z11 : (Unit ⊕ Unit)) => match z11 with | .inl z11 => some false | .inr z11 => some true)
structure Zd where
 left : Int
noncomputable def Yu (Z6 : (Zd → Za → Za → Option (Bool × Int × Zd))) (Z5 : (Zd → Za → Za → Int → Option (Bool × Int × Zd))) (a0 : Zd) (a1 : Za) (a2 : Za) : Option (Bool × Int × Zd) :=
 cond (a0.left == 0) (some (false, 3, a0)) (((Yj a1).bind fun y8 => (Yj a2).bind fun y9 => cond (y8 != y9) (some true) ((Jw a1 a2).bind fun y10 => some (cond (y8 != y9) true (!y10)))).bind fun (z4 : Bool) => cond z4 (some (false, 0, (⟨(IntKind.i64.wrap (a0.left - 1))⟩ : Zd))) ((Ki a1).bind fun y13 => cond (y13.2 != 0) (some (false, y13.2, (⟨(IntKind.i64.wrap (a0.left - 1))⟩ : Zd))) ((Ki a2).bind fun y15 => cond (cond (y15.2 != 0) true (y13.1 != y15.1)) (some (false, y15.2, (⟨(IntKind.i64.wrap (a0.left - 1))⟩ : Zd))) ((Z5 (⟨(IntKind.i64.wrap (a0.left - 1))⟩ : Zd) a1 a2 y13.1).bind fun y17 => some (y17.1, y17.2.1, y17.2.2)))))
noncomputable def Yf (Z6 : (Zd → Za → Za → Option (Bool × Int × Zd))) (a1 : Za) (a2 : Za) (a3 : Int) (s0_ : (Int × Int)) : Option ((Int × Int) ⊕ ((Int × Int) ⊕ Int)) :=
 cond (decide (s0_.1 < a3)) ((Xq a1 s0_.1).bind fun y2 => cond (y2.2 != 0) (some (.inr (.inl (y2.2, s0_.2)))) ((Xq a2 s0_.1).bind fun y4 => cond (y4.2 != 0) (some (.inr (.inl (y4.2, s0_.2)))) ((Z6 (⟨s0_.2⟩ : Zd) y2.1 y4.1).bind fun y6 => cond (cond (!y6.1) true (y6.2.1 != 0)) (some (.inr (.inl (y6.2.1, y6.2.2.left)))) (some (.inl ((IntKind.i64.wrap (s0_.1 + 1)), y6.2.2.left)))))) (some (.inr (.inr s0_.2)))
noncomputable def Yg (Z6 : (Zd → Za → Za → Option (Bool × Int × Zd))) (Z5 : (Zd → Za → Za → Int → Option (Bool × Int × Zd))) (a0 : Zd) (a1 : Za) (a2 : Za) (a3 : Int) : Option (Bool × Int × Zd) :=
 (Zw (Yf Z6 a1 a2 a3) (0, a0.left)).bind fun (z11 : ((Int × Int) ⊕ Int)) => match z11 with | .inl z11 => some (false, z11.1, (⟨z11.2⟩ : Zd)) | .inr z11 => some (true, 0, (⟨z11⟩ : Zd))
noncomputable def Zn : Nat → ((Zd → Za → Za → Option (Bool × Int × Zd)) × (Zd → Za → Za → Int → Option (Bool × Int × Zd)))
 | 0 => ((fun _ _ _ => none), (fun _ _ _ _ => none))
 | k + 1 => (Yu ((Zn k).1) ((Zn k).2), Yg ((Zn k).1) ((Zn k).2))
noncomputable def Kt (a0 : Zd) (a1 : Za) (a2 : Za) : Option (Bool × Int × Zd) := lim fun k => (Zn k).1 a0 a1 a2
noncomputable def K1 (a0 : Za) (a1 : Za) : Option (Bool × Int) :=
 (Kt (⟨65537⟩ : Zd) a0 a1).bind fun y2 => some (y2.1, y2.2.1)
noncomputable def Q8 (a0 : Zi) (a1 : Zi) : Option (Bool × Int) :=
 cond (a0.hash != a1.hash) (some (false, 0)) ((K1 a0.r a1.r).bind fun y2 => some (y2.1, y2.2))
noncomputable def Yd (a1 : Zi) (z1 : ((List Zi) × (List Int))) (s0_ : Int) : Option (Int ⊕ ((Int × Int) ⊕ Int)) :=
 (Jc z1.2 s0_).bind fun x7 => cond (x7 != 0) ((Jc z1.2 s0_).bind fun x9 => (Jc z1.1 (IntKind.i64.wrap (x9 - 1))).bind fun x12 => (Q8 x12 a1).bind fun y13 => cond (y13.2 != 0) (some (.inr (.inl (0, y13.2)))) (cond y13.1 (some (.inr (.inl ((IntKind.i64.wrap (x9 - 1)), 0)))) ((Qj (some (⟨z1.1, z1.2⟩ : Zl)) s0_).bind fun y14 => some (.inl y14)))) (some (.inr (.inr s0_)))
noncomputable def Q7 (a0 : Zl) (a1 : Zi) : Option (Int × Int × Zl) :=
 (cond (decide ((a0.places.length : Int) ≤ (IntKind.i64.wrap (2 * (a0.classes.length : Int))))) ((Qi (⟨a0.classes, a0.places⟩ : Zl)).bind fun y2 => some (y2.classes, y2.places)) (some (a0.classes, a0.places))).bind fun (z1 : ((List Zi) × (List Int))) => (Xl (some (⟨z1.1, z1.2⟩ : Zl)) a1.hash).bind fun y5 => (Zw (Yd a1 z1) y5).bind fun (z18 : ((Int × Int) ⊕ Int)) => match z18 with | .inl z18 => some (z18.1, z18.2, (⟨z1.1, z1.2⟩ : Zl)) | .inr z18 => (Zb7 80 z1.1 ([a1] : List Zi)).bind fun l20 => (Jc z1.2 z18).bind fun x23 => some ((IntKind.i64.wrap ((l20.length : Int) - 1)), 0, (⟨l20, (Zbo z1.2 z18 (l20.length : Int))⟩ : Zl))
noncomputable def Qu (a0 : (Option Zl)) : Option Int :=
 cond (Option.isNone a0) (some 0) ((a0).bind fun x4 => some (x4.classes.length : Int))
noncomputable def Vc  : Option Zl :=
 some (⟨[], []⟩ : Zl)
noncomputable def Xo (a1 : Za) (y2 : Int) (s0_ : (Int × (List Zi))) : Option ((Int × (List Zi)) ⊕ (Int ⊕ (List Zi))) :=
 cond (decide (s0_.1 < y2)) ((Xq a1 s0_.1).bind fun y4 => cond (y4.2 != 0) (some (.inr (.inl y4.2))) ((Uf y4.1).bind fun y6 => cond (y6.2 != 0) (some (.inr (.inl y6.2))) ((Zb7 80 s0_.2 ([(⟨y6.1, y4.1⟩ : Zi)] : List Zi)).bind fun l7 => some (.inl ((IntKind.i64.wrap (s0_.1 + 1)), l7))))) (some (.inr (.inr s0_.2)))
noncomputable def Xp (z11 : (List Zi)) (s1_ : (Int × (List Int) × (List Zi) × (List Int))) : Option ((Int × (List Int) × (List Zi) × (List Int)) ⊕ ((Int × (List Zi) × (List Int)) ⊕ ((List Int) × (List Zi) × (List Int)))) :=
 cond (decide (s1_.1 < (z11.length : Int))) ((Jc z11 s1_.1).bind fun x13 => (Q7 (⟨s1_.2.2.1, s1_.2.2.2⟩ : Zl) x13).bind fun y15 => cond (y15.2.1 != 0) (some (.inr (.inl (y15.2.1, y15.2.2.classes, y15.2.2.places)))) ((Zb7 8 s1_.2.1 ([y15.1] : List Int)).bind fun l16 => some (.inl ((IntKind.i64.wrap (s1_.1 + 1)), l16, y15.2.2.classes, y15.2.2.places)))) (some (.inr (.inr (s1_.2.1, s1_.2.2.1, s1_.2.2.2))))
noncomputable def Xs (a0 : Zl) (a1 : Za) : Option ((List Int) × Int × Zl) :=
 (Xt a1).bind fun y2 => (Zw (Xo a1 y2) (0, ([] : List Zi))).bind fun (z11 : (Int ⊕ (List Zi))) => match z11 with | .inl z11 => some (([] : (List Int)), z11, (⟨a0.classes, a0.places⟩ : Zl)) | .inr z11 => (Zw (Xp z11) (0, ([] : List Int), a0.classes, a0.places)).bind fun (z19 : ((Int × (List Zi) × (List Int)) ⊕ ((List Int) × (List Zi) × (List Int)))) => match z19 with | .inl z19 => some (([] : (List Int)), z19.1, (⟨z19.2.1, z19.2.2⟩ : Zl)) | .inr z19 => some (z19.1, 0, (⟨z19.2.1, z19.2.2⟩ : Zl))
noncomputable def Qx (a0 : (List Int)) (a1 : (List Int)) (s0_ : Int) : Option (Int ⊕ (Unit ⊕ Unit)) :=
 cond (decide (s0_ < (a0.length : Int))) ((Jc a0 s0_).bind fun x3 => (Jc a1 s0_).bind fun x4 => cond (x3 != x4) (some (.inr (.inl ()))) (some (.inl (IntKind.i64.wrap (s0_ + 1))))) (some (.inr (.inr ())))
noncomputable def Yv (a0 : (List Int)) (a1 : (List Int)) : Option Bool :=
 cond ((a0.length : Int) != (a1.length : Int)) (some false) ((Zw (Qx a0 a1) 0).bind fun (z7 : (Unit ⊕ Unit)) => match z7 with | .inl z7 => some false | .inr z7 => some true)
noncomputable def Jm  : Option Bool :=
 (Vc).bind fun y2 => (Qd ([([111669149697, 329477] : List Int)] : List (List Int))).bind fun y5 => (Xs (⟨y2.classes, y2.places⟩ : Zl) y5).bind fun y6 => (cond (y6.2.1 == 0) ((Yv y6.1 ([0, 1, 0] : List Int)).bind fun y12 => cond y12 ((Qu (some (⟨y6.2.2.classes, y6.2.2.places⟩ : Zl))).bind fun y13 => some (cond (cond (y6.2.1 == 0) y12 false) (y13 == 2) false)) (some false)) (some false)).bind fun (z9 : Bool) => some z9
noncomputable def Q4 (a0 : (List Int)) (s0_ : Int) : Option (Int ⊕ Int) :=
 (cond (decide (0 < s0_)) ((Jc a0 (IntKind.i64.wrap (s0_ - 1))).bind fun x4 => some (cond (decide (0 < s0_)) (x4 == 0) false)) (some false)).bind fun (z2 : Bool) => cond z2 (some (.inl (IntKind.i64.wrap (s0_ - 1)))) (some (.inr s0_))
noncomputable def Jv (a0 : (List Int)) : Option (List Int) :=
 (Zw (Q4 a0) (a0.length : Int)).bind fun (z7 : Int) => (Zdv a0 0 z7).bind fun l10 => (Zb7 8 ([] : List Int) l10).bind fun l11 => some l11
structure Zg where
 Kind : Int
 Words : (List Int)
 Kids : (List Zg)
noncomputable def Xi (Xv : (Zg → Option Zg)) (a0 : Zg) (s0_ : (Int × Int × (List Zg))) : Option ((Int × Int × (List Zg)) ⊕ (Int × (List Zg))) :=
 cond (decide (s0_.2.1 < (a0.Kids.length : Int))) (((Jc a0.Kids s0_.2.1).bind fun x4 => (Xv x4).bind fun y5 => (Zb7 56 s0_.2.2 ([y5] : List Zg)).bind fun l7 => cond (y5.Kind != 0) (some ((IntKind.i64.wrap (s0_.2.1 + 1)), l7)) (some (s0_.1, l7))).bind fun (z1 : (Int × (List Zg))) => some (.inl (z1.1, (IntKind.i64.wrap (s0_.2.1 + 1)), z1.2))) (some (.inr (s0_.1, s0_.2.2)))
noncomputable def Js (Xv : (Zg → Option Zg)) (a0 : Zg) : Option Zg :=
 cond (a0.Kind == 0) (some (⟨0, [], []⟩ : Zg)) ((Zw (Xi Xv a0) (0, 0, ([] : List Zg))).bind fun (z10 : (Int × (List Zg))) => cond (a0.Kind == 1) ((Jv a0.Words).bind fun y14 => (Zdv z10.2 0 z10.1).bind fun l15 => some (⟨1, y14, l15⟩ : Zg)) ((Zb7 8 ([] : List Int) a0.Words).bind fun l17 => some (⟨a0.Kind, l17, z10.2⟩ : Zg)))
noncomputable def Yt : Nat → (Zg → Option Zg)
 | 0 => (fun _ => none)
 | k + 1 => Js ((Yt k))
noncomputable def Ub (a0 : Zg) : Option Zg := lim fun k => (Yt k) a0
noncomputable def Q3 (a0 : (List Int)) (a1 : (List Int)) (s0_ : Int) : Option (Int ⊕ (Unit ⊕ Unit)) :=
 cond (decide (s0_ < (a0.length : Int))) ((Jc a0 s0_).bind fun x3 => (Jc a1 s0_).bind fun x4 => cond (x3 != x4) (some (.inr (.inl ()))) (some (.inl (IntKind.i64.wrap (s0_ + 1))))) (some (.inr (.inr ())))
noncomputable def Ju (a0 : (List Int)) (a1 : (List Int)) : Option Bool :=
 cond ((a0.length : Int) != (a1.length : Int)) (some false) ((Zw (Q3 a0 a1) 0).bind fun (z7 : (Unit ⊕ Unit)) => match z7 with | .inl z7 => some false | .inr z7 => some true)
noncomputable def Q0 (Xw : (Zg → Zg → Option Bool)) (a0 : Zg) (a1 : Zg) (s0_ : Int) : Option (Int ⊕ (Unit ⊕ Unit)) :=
 cond (decide (s0_ < (a0.Kids.length : Int))) ((Jc a0.Kids s0_).bind fun x9 => (Jc a1.Kids s0_).bind fun x10 => (Xw x9 x10).bind fun y11 => cond (!y11) (some (.inr (.inl ()))) (some (.inl (IntKind.i64.wrap (s0_ + 1))))) (some (.inr (.inr ())))
noncomputable def Jt (Xw : (Zg → Zg → Option Bool)) (a0 : Zg) (a1 : Zg) : Option Bool :=
 (cond (a0.Kind != a1.Kind) (some true) ((Ju a0.Words a1.Words).bind fun y4 => some (cond (cond (a0.Kind != a1.Kind) true (!y4)) true ((a0.Kids.length : Int) != (a1.Kids.length : Int))))).bind fun (z2 : Bool) => cond z2 (some false) ((Zw (Q0 Xw a0 a1) 0).bind fun (z14 : (Unit ⊕ Unit)) => match z14 with | .inl z14 => some false | .inr z14 => some true)
noncomputable def X3 : Nat → (Zg → Zg → Option Bool)
 | 0 => (fun _ _ => none)
 | k + 1 => Jt ((X3 k))
noncomputable def Uc (a0 : Zg) (a1 : Zg) : Option Bool := lim fun k => (X3 k) a0 a1
noncomputable def Ye (a0 : (List Zg)) (y2 : Zg) (s0_ : Int) : Option (Int ⊕ (Int ⊕ Unit)) :=
 cond (decide (s0_ < (a0.length : Int))) ((Jc a0 s0_).bind fun x5 => (Uc x5 y2).bind fun y6 => cond y6 (some (.inr (.inl s0_))) (some (.inl (IntKind.i64.wrap (s0_ + 1))))) (some (.inr (.inr ())))
noncomputable def Jn (a0 : (List Zg)) (a1 : Zg) : Option ((List Zg) × Int) :=
 (Ub a1).bind fun y2 => (Zw (Ye a0 y2) 0).bind fun (z9 : (Int ⊕ Unit)) => match z9 with | .inl z9 => some (a0, z9) | .inr z9 => (Zb7 56 a0 ([y2] : List Zg)).bind fun l11 => some (l11, (a0.length : Int))
noncomputable def Xf (a1 : (List Zg)) (s0_ : (Int × (List Zg) × (List Int))) : Option ((Int × (List Zg) × (List Int)) ⊕ ((List Zg) × (List Int))) :=
 cond (decide (s0_.1 < (a1.length : Int))) ((Jc a1 s0_.1).bind fun x3 => (Jn s0_.2.1 x3).bind fun y4 => (Zb7 8 s0_.2.2 ([y4.2] : List Int)).bind fun l5 => some (.inl ((IntKind.i64.wrap (s0_.1 + 1)), y4.1, l5))) (some (.inr (s0_.2.1, s0_.2.2)))
noncomputable def Q5 (a0 : (List Zg)) (a1 : (List Zg)) : Option ((List Zg) × (List Int)) :=
 (Zw (Xf a1) (0, a0, ([] : List Int))).bind fun (z7 : ((List Zg) × (List Int))) => some (z7.1, z7.2)
noncomputable def Yw (a0 : Int) (a1 : Int) (s0_ : (Int × (List Int))) : Option ((Int × (List Int)) ⊕ (List Int)) :=
 cond (decide (s0_.1 < (IntKind.i64.wrap (Xr .i64 a0 127)))) ((Zb7 8 s0_.2 ([(IntKind.u64.wrap (Zgo .u64 (IntKind.u64.wrap (a1 + (IntKind.u64.wrap ((IntKind.u64.wrap s0_.1) * a1)))) 1))] : List Int)).bind fun l1 => some (.inl ((IntKind.i64.wrap (s0_.1 + 1)), l1))) (some (.inr s0_.2))
noncomputable def Yx (a0 : Int) (z3 : (List Int)) (s1_ : (Int × (List Zg))) : Option ((Int × (List Zg)) ⊕ (List Zg)) :=
 cond (decide (s1_.1 < (IntKind.i64.wrap (Xr .i64 a0 127)))) ((Jc z3 (IntKind.i64.wrap (s1_.1 + 1))).bind fun x4 => (Zb7 56 s1_.2 ([(⟨10, ([x4] : List Int), []⟩ : Zg)] : List Zg)).bind fun l5 => some (.inl ((IntKind.i64.wrap (s1_.1 + 1)), l5))) (some (.inr s1_.2))
noncomputable def Ja (a0 : Int) (a1 : Int) : Option Bool :=
 (Zw (Yw a0 a1) (0, ([(IntKind.u64.wrap (Zgo .u64 21474836481 (IntKind.u64.wrap ((IntKind.u64.wrap (IntKind.i64.wrap (Xr .i64 a0 127))) * 2 ^ min (Int.toNat 35) 64))))] : List Int))).bind fun (z3 : (List Int)) => (Zw (Yx a0 z3) (0, ([] : List Zg))).bind fun (z7 : (List Zg)) => (Q5 ([] : (List Zg)) z7).bind fun y9 => (Vc).bind fun y11 => (Qd ([z3] : List (List Int))).bind fun y14 => (Xs (⟨y11.classes, y11.places⟩ : Zl) y14).bind fun y15 => (Qd ([z3] : List (List Int))).bind fun y18 => (Xs (⟨y15.2.2.classes, y15.2.2.places⟩ : Zl) y18).bind fun y19 => (cond (y15.2.1 == 0) (cond (y19.2.1 == 0) ((Yv y15.1 y9.2).bind fun y29 => cond y29 ((Yv y19.1 y9.2).bind fun y30 => cond y30 ((Qu (some (⟨y19.2.2.classes, y19.2.2.places⟩ : Zl))).bind fun y31 => cond (y31 == (y9.1.length : Int)) ((Jm).bind fun y32 => some (cond (cond (cond (cond (cond (y15.2.1 == 0) (y19.2.1 == 0) false) y29 false) y30 false) (y31 == (y9.1.length : Int)) false) y32 false)) (some false)) (some false)) (some false)) (some false)) (some false)).bind fun (z24 : Bool) => some z24
structure K9 where
 Depth : Int
 Weight : Int
 MaxD : Int
 MaxOut : Int
structure Zgx where
 P : Ym
 Segment : Int
 At : Int
structure Zcd where
 Kind : Int
 S : Int
 At : Int
 Data : Int
 Ptrs : Int
 Count : Int
 N : Int
end Go.Proofs.Ytgffgbdnbjbmoaa
