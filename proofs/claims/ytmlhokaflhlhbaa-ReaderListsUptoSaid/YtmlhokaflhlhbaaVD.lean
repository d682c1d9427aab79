/- Part VD of this seat's mirrors: functions of the seat's program, and the plain functions that they are; each theorem bears its own conditions. -/
import Derived.Test.YtmlhokaflhlhbaaH25
namespace Go.Proofs.Ytmlhokaflhlhbaa
open Go.RowKit
set_option linter.unusedVariables false
set_option linter.unusedSimpArgs false
set_option maxRecDepth 100000
set_option maxHeartbeats 4000000
noncomputable def Z4 (a0 : List Int) : Option (List Int) :=
 Zh3 8 ([] : List Int) a0
noncomputable def Xw (a0 : (List (List Int))) (s0_ : (Int × (List (List Int)))) : Option ((Int × (List (List Int))) ⊕ (List (List Int))) :=
 cond (decide (s0_.1 < (a0.length : Int))) ((Q8 a0 s0_.1).bind fun x4 => (Z4 x4).bind fun y5 => (Q8 s0_.2 s0_.1).bind fun x6 => some (.inl ((IntKind.i64.wrap (s0_.1 + 1)), (Zd7 s0_.2 s0_.1 y5)))) (some (.inr s0_.2))
noncomputable def Jx (a0 : (List (List Int))) : Option (List (List Int)) :=
 (Zdr 24 (a0.length : Int) ([] : (List Int))).bind fun l2 => (Y0 (Xw a0) (0, l2)).bind fun (z9 : (List (List Int))) => some z9
structure Zf where
 segments : (List (List Int))
 size : Int
 left : Int
noncomputable def K0 (a0 : (List (List Int))) : Option (Option Zf) :=
 (Jx a0).bind fun y2 => some (some (⟨y2, 0, 0⟩ : Zf))
noncomputable def Q7 (a0 : (Option Zf)) : Option Int :=
 cond (Option.isNone a0) (some 0) ((a0).bind fun x4 => some (x4.segments.length : Int))
noncomputable def Y2 (a0 : (Option Zf)) (a1 : Int) : Option Bool :=
 (cond (decide (0 ≤ a1)) ((Q7 a0).bind fun y4 => some (cond (decide (0 ≤ a1)) (decide (a1 < y4)) false)) (some false)).bind fun (z2 : Bool) => some z2
noncomputable def Xa (a0 : (Option Zf)) (a1 : Int) : Option Int :=
 (Y2 a0 a1).bind fun y2 => cond (!y2) (some 0) ((a0).bind fun x5 => (Q8 x5.segments a1).bind fun x6 => some (x6.length : Int))
noncomputable def Yt (a0 : (Option Zf)) (a1 : Int) (a2 : Int) (a3 : Int) : Option Bool :=
 ((Y2 a0 a1).bind fun y8 => cond y8 (cond (decide (0 ≤ a2)) (cond (decide (0 ≤ a3)) ((Xa a0 a1).bind fun y9 => cond (decide (a3 ≤ y9)) ((Xa a0 a1).bind fun y10 => some (cond (cond (cond (cond y8 (decide (0 ≤ a2)) false) (decide (0 ≤ a3)) false) (decide (a3 ≤ y9)) false) (decide (a2 ≤ (IntKind.i64.wrap (y10 - a3)))) false)) (some false)) (some false)) (some false)) (some false)).bind fun (z4 : Bool) => some z4
noncomputable def Ye (a0 : (Option Zf)) (a1 : Int) (a2 : Int) : Option (Int × Bool) :=
 (Yt a0 a1 a2 1).bind fun y2 => cond (!y2) (some (0, false)) ((a0).bind fun x6 => (Q8 x6.segments a1).bind fun x7 => (Q8 x7 a2).bind fun x8 => some (x8, true))
noncomputable def Ks (a0 : Int) : Option Int :=
 some (IntKind.i64.wrap (Int.fdiv (IntKind.i32.wrap (IntKind.u32.wrap a0)) (2 ^ min (Int.toNat 2) 32)))
noncomputable def Yd (a0 : Int) (a1 : Int) (a2 : Int) : Option Int :=
 (Yn (0 ≤ a1)).bind fun u3 => (Yn (0 ≤ a2)).bind fun u4 => some (IntKind.i64.wrap (IntKind.u64.wrap (Jo .u64 (Int.fdiv a0 (2 ^ min (Int.toNat a1) 64)) (IntKind.u64.wrap ((IntKind.u64.wrap (1 * 2 ^ min (Int.toNat a2) 64)) - 1)))))
structure Zz where
 Kind : Int
 Off : Int
 Data : Int
 Ptrs : Int
 Code : Int
 Count : Int
 Segment : Int
 Double : Bool
noncomputable def Xd (a0 : Int) : Option Zz :=
 cond (a0 == 0) (some (⟨0, 0, 0, 0, 0, 0, 0, false⟩ : Zz)) (cond ((IntKind.u64.wrap (Jo .u64 a0 3)) == 0) ((Ks a0).bind fun y4 => (Yd a0 32 16).bind fun y5 => (Yd a0 48 16).bind fun y6 => some (⟨1, y4, y5, y6, 0, 0, 0, false⟩ : Zz)) (cond ((IntKind.u64.wrap (Jo .u64 a0 3)) == 1) ((Ks a0).bind fun y10 => (Yd a0 32 3).bind fun y11 => (Yd a0 35 29).bind fun y12 => some (⟨2, y10, 0, 0, y11, y12, 0, false⟩ : Zz)) (cond ((IntKind.u64.wrap (Jo .u64 a0 3)) == 2) ((Yd a0 3 29).bind fun y15 => (Yd a0 32 32).bind fun y16 => some (⟨3, y15, 0, 0, 0, 0, y16, ((IntKind.u64.wrap (Jo .u64 (Int.fdiv a0 (2 ^ min (Int.toNat 2) 64)) 1)) == 1)⟩ : Zz)) (some (⟨4, 0, 0, 0, 0, 0, 0, false⟩ : Zz)))))
noncomputable def X1 (a0 : (Option Zf)) (a1 : Int) (a2 : Int) (a3 : Int) : Option ((List Int) × Bool) :=
 (Yt a0 a1 a2 a3).bind fun y2 => cond (!y2) (some (([] : (List Int)), false)) ((a0).bind fun x7 => (Q8 x7.segments a1).bind fun x8 => (Zd8 x8 a2 (IntKind.i64.wrap (a2 + a3))).bind fun l9 => (Z4 l9).bind fun y10 => some (y10, true))
noncomputable def Vn (a0 : Int) : Option Int :=
 ((some (⟨[0, 1, 8, 16, 32, 64, 64], rfl⟩ : (Arr Int 7)))).bind fun y6 => ((some (⟨[0, 0, 0, 0, 0, 0, 0], rfl⟩ : (Arr Int 7)))).bind fun y8 => (Q8 y6.1 a0).bind fun x12 => some x12
noncomputable def Q4 (a0 : Zz) : Option (Int × Bool) :=
 cond (a0.Kind == 1) (some ((IntKind.i64.wrap (a0.Data + a0.Ptrs)), true)) (cond (cond (a0.Kind == 2) (a0.Code == 7) false) (some ((IntKind.i64.wrap (a0.Count + 1)), true)) (cond (cond (cond (cond (cond (a0.Kind == 2) (decide (0 ≤ a0.Code)) false) (decide (a0.Code < 7)) false) (decide (0 ≤ a0.Count)) false) (decide (a0.Count ≤ 536870911)) false) ((Vn a0.Code).bind fun y2 => some ((IntKind.i64.wrap (Int.tdiv (IntKind.i64.wrap ((IntKind.i64.wrap (a0.Count * y2)) + 63)) 64)), true)) (some (0, false))))
structure Yc where
 P : Zz
 Segment : Int
 At : Int
noncomputable def Qz (a0 : (Option Zf)) (a1 : Zz) (a2 : Int) (a3 : Int) : Option (Yc × Int) :=
 cond (a1.Kind == 4) (some ((⟨⟨0, 0, 0, 0, 0, 0, 0, false⟩, 0, 0⟩ : Yc), 9)) ((Q4 a1).bind fun y2 => cond (!y2.2) (some ((⟨⟨0, 0, 0, 0, 0, 0, 0, false⟩, 0, 0⟩ : Yc), 8)) ((Yt a0 a2 a3 y2.1).bind fun y4 => cond (!y4) (some ((⟨⟨0, 0, 0, 0, 0, 0, 0, false⟩, 0, 0⟩ : Yc), 7)) (some ((⟨⟨a1.Kind, 0, a1.Data, a1.Ptrs, a1.Code, a1.Count, a1.Segment, a1.Double⟩, a2, a3⟩ : Yc), 0))))
noncomputable def Kq (a0 : (Option Zf)) (a1 : Int) (a2 : Int) : Option (Yc × Int) :=
 (X1 a0 a1 a2 2).bind fun y2 => cond (!y2.2) (some ((⟨⟨0, 0, 0, 0, 0, 0, 0, false⟩, 0, 0⟩ : Yc), 7)) ((Q8 y2.1 0).bind fun x3 => (Xd x3).bind fun y4 => (Q8 y2.1 1).bind fun x5 => (Xd x5).bind fun y6 => cond (cond (y4.Kind != 3) true y4.Double) (some ((⟨⟨0, 0, 0, 0, 0, 0, 0, false⟩, 0, 0⟩ : Yc), 8)) (cond (cond (y6.Kind != 4) (y6.Off != 0) false) (some ((⟨⟨0, 0, 0, 0, 0, 0, 0, false⟩, 0, 0⟩ : Yc), 8)) ((Qz a0 y6 y4.Segment y4.Off).bind fun y8 => some (y8.1, y8.2))))
noncomputable def Kr (a0 : (Option Zf)) (a1 : Int) (a2 : Int) : Option (Yc × Int) :=
 (Ye a0 a1 a2).bind fun y2 => cond (!y2.2) (some ((⟨⟨0, 0, 0, 0, 0, 0, 0, false⟩, 0, 0⟩ : Yc), 7)) ((Xd y2.1).bind fun y4 => (Qz a0 y4 a1 (IntKind.i64.wrap ((IntKind.i64.wrap (a2 + 1)) + y4.Off))).bind fun y6 => some (y6.1, y6.2))
noncomputable def Kp (a0 : (Option Zf)) (a1 : Int) (a2 : Int) : Option (Yc × Int) :=
 (Ye a0 a1 a2).bind fun y2 => cond (!y2.2) (some ((⟨⟨0, 0, 0, 0, 0, 0, 0, false⟩, 0, 0⟩ : Yc), 7)) ((Xd y2.1).bind fun y4 => cond (y4.Kind == 0) (some ((⟨⟨0, 0, 0, 0, 0, 0, 0, false⟩, 0, 0⟩ : Yc), 0)) (cond (cond (y4.Kind == 3) y4.Double false) ((Kq a0 y4.Segment y4.Off).bind fun y6 => some (y6.1, y6.2)) (cond (y4.Kind == 3) ((Kr a0 y4.Segment y4.Off).bind fun y8 => some (y8.1, y8.2)) ((Qz a0 y4 a1 (IntKind.i64.wrap ((IntKind.i64.wrap (a2 + 1)) + y4.Off))).bind fun y10 => some (y10.1, y10.2)))))
structure Zg where
 a : (Option Zf)
 kind : Int
 segment : Int
 at_ : Int
 words : Int
 ptrs : Int
 count : Int
 code : Int
 index : Int
noncomputable def Q0 (a0 : Zg) : Option (Zg × Int) :=
 (Ye a0.a a0.segment a0.at_).bind fun y2 => (Xd y2.1).bind fun y4 => cond (cond (cond (cond (y4.Kind != 0) (y4.Kind != 1) false) true (decide (y4.Off < 0))) true (decide (a0.count < (IntKind.i64.wrap (y4.Off * (IntKind.i64.wrap (y4.Data + y4.Ptrs))))))) (some ((⟨(none : (Option Zf)), 0, 0, 0, 0, 0, 0, 0, 0⟩ : Zg), 8)) (some ((⟨a0.a, a0.kind, a0.segment, a0.at_, y4.Data, y4.Ptrs, y4.Off, a0.code, a0.index⟩ : Zg), 0))
noncomputable def Jc (a0 : (Option Zf)) (a1 : Int) (a2 : Int) : Option (Zg × Int) :=
 (Kp a0 a1 a2).bind fun y2 => cond (cond (y2.2 != 0) true (y2.1.P.Kind == 0)) (some ((⟨(none : (Option Zf)), 0, 0, 0, 0, 0, 0, 0, 0⟩ : Zg), y2.2)) (cond (y2.1.P.Kind == 1) (some ((⟨a0, 1, y2.1.Segment, y2.1.At, y2.1.P.Data, y2.1.P.Ptrs, 0, 0, 0⟩ : Zg), 0)) (cond (y2.1.P.Code == 7) ((Q0 (⟨a0, (IntKind.i64.wrap (y2.1.P.Code + 2)), y2.1.Segment, y2.1.At, 0, 0, y2.1.P.Count, 0, 0⟩ : Zg)).bind fun y4 => some (y4.1, y4.2)) (some ((⟨a0, (IntKind.i64.wrap (y2.1.P.Code + 2)), y2.1.Segment, y2.1.At, 0, 0, y2.1.P.Count, 0, 0⟩ : Zg), 0))))
noncomputable def Q5 (a0 : (Option Zf)) : Option (Zg × Int) :=
 (Jc a0 0 0).bind fun y2 => some (y2.1, y2.2)
noncomputable def Yv (a0 : Zg) : Option Int :=
 some a0.kind
noncomputable def Yu (a0 : Zg) : Option Int :=
 cond (a0.kind == 1) (some a0.ptrs) (some a0.count)
noncomputable def Ql (a0 : Zg) (a1 : Int) : Option (Zg × Int) :=
 (cond (decide (a1 < 0)) (some true) ((Yu a0).bind fun y4 => some (cond (decide (a1 < 0)) true (decide (y4 ≤ a1))))).bind fun (z2 : Bool) => cond z2 (some ((⟨(none : (Option Zf)), 0, 0, 0, 0, 0, 0, 0, 0⟩ : Zg), 0)) (cond (a0.kind == 1) ((Jc a0.a a0.segment (IntKind.i64.wrap ((IntKind.i64.wrap (a0.at_ + a0.words)) + a1))).bind fun y7 => some (y7.1, y7.2)) (cond (a0.kind == 8) ((Jc a0.a a0.segment (IntKind.i64.wrap (a0.at_ + a1))).bind fun y9 => some (y9.1, y9.2)) (cond (a0.kind == 9) (some ((⟨a0.a, 1, a0.segment, (IntKind.i64.wrap ((IntKind.i64.wrap (a0.at_ + 1)) + (IntKind.i64.wrap (a1 * (IntKind.i64.wrap (a0.words + a0.ptrs)))))), a0.words, a0.ptrs, 0, 0, 0⟩ : Zg), 0)) (some ((⟨a0.a, 10, a0.segment, a0.at_, 0, 0, 0, (IntKind.i64.wrap (a0.kind - 2)), a1⟩ : Zg), 0)))))
noncomputable def Xb (a0 : Zg) : Option Int :=
 cond (a0.kind == 1) (some a0.words) (cond (a0.kind == 10) (some 1) (some 0))
noncomputable def Jj (a0 : Int) : Option (Int × Bool) :=
 ((some (⟨[0, 1, 8, 16, 32, 64], rfl⟩ : (Arr Int 6)))).bind fun y6 => ((some (⟨[0, 0, 0, 0, 0, 0], rfl⟩ : (Arr Int 6)))).bind fun y8 => cond (cond (decide (a0 < 0)) true (decide (6 ≤ a0))) (some (0, false)) ((Q8 y6.1 a0).bind fun x12 => some (x12, true))
noncomputable def Uo (a0 : (List Int)) (a1 : Int) (a2 : Int) : Option Int :=
 (Jj a1).bind fun y2 => cond (cond (y2.1 == 0) true (decide (a2 < 0))) (some 0) ((Yn (y2.1 ≠ 0)).bind fun u4 => (Yn ((IntKind.i64.wrap (Int.tdiv 64 y2.1)) ≠ 0)).bind fun u6 => cond (decide ((a0.length : Int) ≤ (IntKind.i64.wrap (Int.tdiv a2 (IntKind.i64.wrap (Int.tdiv 64 y2.1)))))) (some 0) ((Yn ((IntKind.i64.wrap (Int.tdiv 64 y2.1)) ≠ 0)).bind fun u12 => (Q8 a0 (IntKind.i64.wrap (Int.tdiv a2 (IntKind.i64.wrap (Int.tdiv 64 y2.1))))).bind fun x13 => (Yn ((IntKind.i64.wrap (Int.tdiv 64 y2.1)) ≠ 0)).bind fun u14 => (Yn (0 ≤ (IntKind.i64.wrap ((Int.tmod a2 (IntKind.i64.wrap (Int.tdiv 64 y2.1))) * y2.1)))).bind fun u15 => (Yn (0 ≤ y2.1)).bind fun u16 => some (IntKind.u64.wrap (Jo .u64 (Int.fdiv x13 (2 ^ min (Int.toNat (IntKind.i64.wrap ((Int.tmod a2 (IntKind.i64.wrap (Int.tdiv 64 y2.1))) * y2.1))) 64)) (IntKind.u64.wrap ((IntKind.u64.wrap (1 * 2 ^ min (Int.toNat y2.1) 64)) - 1))))))
noncomputable def Xp (a0 : Zg) : Option Int :=
 (Jj a0.code).bind fun y2 => cond (y2.1 == 0) (some 0) ((Yn (y2.1 ≠ 0)).bind fun u4 => (Yn ((IntKind.i64.wrap (Int.tdiv 64 y2.1)) ≠ 0)).bind fun u7 => (Ye a0.a a0.segment (IntKind.i64.wrap (a0.at_ + (IntKind.i64.wrap (Int.tdiv a0.index (IntKind.i64.wrap (Int.tdiv 64 y2.1))))))).bind fun y8 => (Yn ((IntKind.i64.wrap (Int.tdiv 64 y2.1)) ≠ 0)).bind fun u11 => (Uo ([y8.1] : List Int) a0.code (Int.tmod a0.index (IntKind.i64.wrap (Int.tdiv 64 y2.1)))).bind fun y12 => some y12)
noncomputable def Xl (a0 : Zg) (a1 : Int) : Option Int :=
 (cond (decide (a1 < 0)) (some true) ((Xb a0).bind fun y4 => some (cond (decide (a1 < 0)) true (decide (y4 ≤ a1))))).bind fun (z2 : Bool) => cond z2 (some 0) (cond (a0.kind == 10) ((Xp a0).bind fun y7 => some y7) ((Ye a0.a a0.segment (IntKind.i64.wrap (a0.at_ + a1))).bind fun y9 => some y9.1))
noncomputable def Yo  : Option Bool :=
 (K0 ([([4294967296, 7] : List Int)] : List (List Int))).bind fun y3 => (Q5 y3).bind fun y4 => (cond (y4.2 == 0) ((Yv y4.1).bind fun y14 => cond (y14 == 1) ((Xb y4.1).bind fun y15 => cond (y15 == 1) ((Xl y4.1 0).bind fun y16 => cond (y16 == 7) ((Yu y4.1).bind fun y17 => some (cond (cond (cond (cond (y4.2 == 0) (y14 == 1) false) (y15 == 1) false) (y16 == 7) false) (y17 == 0) false)) (some false)) (some false)) (some false)) (some false)).bind fun (z9 : Bool) => some z9
noncomputable def Z5 (a0 : Int) : Option Int :=
 cond (a0 == 0) (some 0) (cond (a0 == 1) (some 1) (cond (a0 == 2) (some 8) (cond (a0 == 3) (some 16) (cond (a0 == 4) (some 32) (cond (a0 == 5) (some 64) (some (-1)))))))
noncomputable def Qa (a0 : Int) (a1 : Int) : Option Int :=
 (Z5 a0).bind fun y2 => cond (cond (cond (decide (y2 < 1)) true (decide (a1 < 0))) true (decide (1099511627776 < a1))) (some 0) ((Z5 a0).bind fun y5 => (Yn (y5 ≠ 0)).bind fun u6 => (Yn ((IntKind.i64.wrap (Int.tdiv 64 y5)) ≠ 0)).bind fun u8 => cond (decide (0 < (Int.tmod a1 (IntKind.i64.wrap (Int.tdiv 64 y5))))) ((Yn ((IntKind.i64.wrap (Int.tdiv 64 y5)) ≠ 0)).bind fun u10 => some (IntKind.i64.wrap ((IntKind.i64.wrap (Int.tdiv a1 (IntKind.i64.wrap (Int.tdiv 64 y5)))) + 1))) ((Yn ((IntKind.i64.wrap (Int.tdiv 64 y5)) ≠ 0)).bind fun u12 => some (IntKind.i64.wrap (Int.tdiv a1 (IntKind.i64.wrap (Int.tdiv 64 y5))))))
noncomputable def Ya (y2 : Int) (s0_ : (Int × Int)) : Option ((Int × Int) ⊕ Int) :=
 cond (decide (s0_.2 < y2)) (some (.inl ((IntKind.u64.wrap (Int.tdiv s0_.1 2)), (IntKind.i64.wrap (s0_.2 + 1))))) (some (.inr s0_.1))
noncomputable def X9 (a0 : Int) (a1 : Int) : Option Bool :=
 (Z5 a0).bind fun y2 => cond (decide (y2 < 0)) (some false) ((Y0 (Ya y2) (a1, 0)).bind fun (z4 : Int) => some (z4 == 0))
noncomputable def Yk (y2 : Int) (s0_ : (Int × (List Int))) (s1_ : (Int × Int)) : Option ((Int × Int) ⊕ Int) :=
 cond (decide (s1_.2 < (Int.tmod (IntKind.i64.wrap (s0_.1 * y2)) 64))) (some (.inl ((IntKind.u64.wrap (s1_.1 * 2)), (IntKind.i64.wrap (s1_.2 + 1))))) (some (.inr s1_.1))
noncomputable def Zv (a0 : Int) (a1 : (List Int)) (y2 : Int) (s0_ : (Int × (List Int))) : Option ((Int × (List Int)) ⊕ (Unit ⊕ (List Int))) :=
 cond (decide (s0_.1 < (a1.length : Int))) (((Q8 a1 s0_.1).bind fun x9 => (X9 a0 x9).bind fun y11 => cond (!y11) (some (.inr ())) ((Y0 (Yk y2 s0_) (x9, 0)).bind fun (z13 : Int) => cond (decide (0 < y2)) ((Q8 s0_.2 (IntKind.i64.wrap (Int.tdiv (IntKind.i64.wrap (s0_.1 * y2)) 64))).bind fun x14 => some (.inl (Zd7 s0_.2 (IntKind.i64.wrap (Int.tdiv (IntKind.i64.wrap (s0_.1 * y2)) 64)) (IntKind.u64.wrap (x14 + z13))))) (some (.inl s0_.2)))).bind fun (z7 : ((List Int) ⊕ Unit)) => match z7 with | .inl z7 => some (.inl ((IntKind.i64.wrap (s0_.1 + 1)), z7)) | .inr z7 => some (.inr (.inl ()))) (some (.inr (.inr s0_.2)))
noncomputable def Qk (a0 : Int) (a1 : (List Int)) : Option ((List Int) × Bool) :=
 (Z5 a0).bind fun y2 => cond (decide (y2 < 0)) (some (([] : (List Int)), false)) ((Qa a0 (a1.length : Int)).bind fun y5 => (Zdr 8 y5 (0 : Int)).bind fun l6 => (Y0 (Zv a0 a1 y2) (0, l6)).bind fun (z20 : (Unit ⊕ (List Int))) => match z20 with | .inl z20 => some (([] : (List Int)), false) | .inr z20 => some (z20, true))
noncomputable def Xc (a0 : Int) (a1 : (List Int)) (a2 : Int) : Option Bool :=
 (Qk a0 a1).bind fun y2 => cond (cond (!y2.2) true (decide (300 < (a1.length : Int)))) ((Yo).bind fun y4 => some y4) ((Zh3 8 ([(IntKind.u64.wrap ((IntKind.u64.wrap (1 + (IntKind.u64.wrap ((IntKind.u64.wrap a0) * 4294967296)))) + (IntKind.u64.wrap ((IntKind.u64.wrap (a1.length : Int)) * 34359738368))))] : List Int) y2.1).bind fun l7 => (K0 ([l7] : List (List Int))).bind fun y8 => (Q5 y8).bind fun y10 => (cond (y10.2 != 0) (some true) ((Yv y10.1).bind fun y16 => cond (y16 != (IntKind.i64.wrap (2 + a0))) (some true) ((Yu y10.1).bind fun y17 => some (cond (cond (y10.2 != 0) true (y16 != (IntKind.i64.wrap (2 + a0)))) true (y17 != (a1.length : Int)))))).bind fun (z13 : Bool) => cond z13 (some false) ((Ql y10.1 a2).bind fun y21 => cond (cond (decide (a2 < 0)) true (decide ((a1.length : Int) ≤ a2))) ((cond (y21.2 == 0) ((Yv y21.1).bind fun y27 => cond (y27 == 0) ((Yo).bind fun y28 => some (cond (cond (y21.2 == 0) (y27 == 0) false) y28 false)) (some false)) (some false)).bind fun (z24 : Bool) => some z24) ((cond (y21.2 == 0) ((Yv y21.1).bind fun y40 => cond (y40 == 10) ((Xl y21.1 0).bind fun y41 => (Q8 a1 a2).bind fun x42 => cond (y41 == x42) ((Yo).bind fun y43 => some (cond (cond (cond (y21.2 == 0) (y40 == 10) false) (y41 == x42) false) y43 false)) (some false)) (some false)) (some false)).bind fun (z35 : Bool) => some z35)))
structure Zgy where
 P : Zz
 Segment : Int
 At : Int
structure Zad where
 Kind : Int
 S : Int
 At : Int
 Data : Int
 Ptrs : Int
 Count : Int
 N : Int
structure Zea where
 Depth : Int
 Weight : Int
 MaxD : Int
 MaxOut : Int
structure Yg where
 left : Int
structure S_api_Tree where
 Kind : Int
 Words : (List Int)
 Kids : (List S_api_Tree)
end Go.Proofs.Ytmlhokaflhlhbaa
