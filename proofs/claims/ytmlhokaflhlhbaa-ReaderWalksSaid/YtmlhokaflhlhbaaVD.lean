/- Part VD of this seat's mirrors: functions of the seat's program, and the plain functions that they are; each theorem bears its own conditions. -/
import Derived.Test.YtmlhokaflhlhbaaH25
namespace Go.Proofs.Ytmlhokaflhlhbaa
open Go.RowKit
set_option linter.unusedVariables false
set_option linter.unusedSimpArgs false
set_option maxRecDepth 100000
set_option maxHeartbeats 4000000
noncomputable def Z9 (a0 : List Int) : Option (List Int) :=
 Zjk 8 ([] : List Int) a0
noncomputable def Qh (a0 : (List (List Int))) (s0_ : (Int × (List (List Int)))) : Option ((Int × (List (List Int))) ⊕ (List (List Int))) :=
 cond (decide (s0_.1 < (a0.length : Int))) ((Qf a0 s0_.1).bind fun x4 => (Z9 x4).bind fun y5 => (Qf s0_.2 s0_.1).bind fun x6 => some (.inl ((IntKind.i64.wrap (s0_.1 + 1)), (Zki s0_.2 s0_.1 y5)))) (some (.inr s0_.2))
noncomputable def Kv (a0 : (List (List Int))) : Option (List (List Int)) :=
 (Zgk 24 (a0.length : Int) ([] : (List Int))).bind fun l2 => (Yh (Qh a0) (0, l2)).bind fun (z9 : (List (List Int))) => some z9
structure Zj where
 segments : (List (List Int))
 size : Int
 left : Int
noncomputable def V1 (a0 : (List (List Int))) : Option (Option Zj) :=
 (Kv a0).bind fun y2 => some (some (⟨y2, 0, 0⟩ : Zj))
noncomputable def J5 (a0 : (Option Zj)) : Option Int :=
 cond (Option.isNone a0) (some 0) ((a0).bind fun x4 => some (x4.segments.length : Int))
noncomputable def Xi (a0 : (Option Zj)) (a1 : Int) : Option Bool :=
 (cond (decide (0 ≤ a1)) ((J5 a0).bind fun y4 => some (cond (decide (0 ≤ a1)) (decide (a1 < y4)) false)) (some false)).bind fun (z2 : Bool) => some z2
noncomputable def Xw (a0 : (Option Zj)) (a1 : Int) : Option Int :=
 (Xi a0 a1).bind fun y2 => cond (!y2) (some 0) ((a0).bind fun x5 => (Qf x5.segments a1).bind fun x6 => some (x6.length : Int))
noncomputable def Xa (a0 : (Option Zj)) (a1 : Int) (a2 : Int) (a3 : Int) : Option Bool :=
 ((Xi a0 a1).bind fun y8 => cond y8 (cond (decide (0 ≤ a2)) (cond (decide (0 ≤ a3)) ((Xw a0 a1).bind fun y9 => cond (decide (a3 ≤ y9)) ((Xw a0 a1).bind fun y10 => some (cond (cond (cond (cond y8 (decide (0 ≤ a2)) false) (decide (0 ≤ a3)) false) (decide (a3 ≤ y9)) false) (decide (a2 ≤ (IntKind.i64.wrap (y10 - a3)))) false)) (some false)) (some false)) (some false)) (some false)).bind fun (z4 : Bool) => some z4
noncomputable def Yl (a0 : (Option Zj)) (a1 : Int) (a2 : Int) : Option (Int × Bool) :=
 (Xa a0 a1 a2 1).bind fun y2 => cond (!y2) (some (0, false)) ((a0).bind fun x6 => (Qf x6.segments a1).bind fun x7 => (Qf x7 a2).bind fun x8 => some (x8, true))
noncomputable def Vq (a0 : Int) : Option Int :=
 some (IntKind.i64.wrap (Int.fdiv (IntKind.i32.wrap (IntKind.u32.wrap a0)) (2 ^ min (Int.toNat 2) 32)))
noncomputable def Yj (a0 : Int) (a1 : Int) (a2 : Int) : Option Int :=
 (Yx (0 ≤ a1)).bind fun u3 => (Yx (0 ≤ a2)).bind fun u4 => some (IntKind.i64.wrap (IntKind.u64.wrap (Kl .u64 (Int.fdiv a0 (2 ^ min (Int.toNat a1) 64)) (IntKind.u64.wrap ((IntKind.u64.wrap (1 * 2 ^ min (Int.toNat a2) 64)) - 1)))))
structure Zx where
 Kind : Int
 Off : Int
 Data : Int
 Ptrs : Int
 Code : Int
 Count : Int
 Segment : Int
 Double : Bool
noncomputable def Xz (a0 : Int) : Option Zx :=
 cond (a0 == 0) (some (⟨0, 0, 0, 0, 0, 0, 0, false⟩ : Zx)) (cond ((IntKind.u64.wrap (Kl .u64 a0 3)) == 0) ((Vq a0).bind fun y4 => (Yj a0 32 16).bind fun y5 => (Yj a0 48 16).bind fun y6 => some (⟨1, y4, y5, y6, 0, 0, 0, false⟩ : Zx)) (cond ((IntKind.u64.wrap (Kl .u64 a0 3)) == 1) ((Vq a0).bind fun y10 => (Yj a0 32 3).bind fun y11 => (Yj a0 35 29).bind fun y12 => some (⟨2, y10, 0, 0, y11, y12, 0, false⟩ : Zx)) (cond ((IntKind.u64.wrap (Kl .u64 a0 3)) == 2) ((Yj a0 3 29).bind fun y15 => (Yj a0 32 32).bind fun y16 => some (⟨3, y15, 0, 0, 0, 0, y16, ((IntKind.u64.wrap (Kl .u64 (Int.fdiv a0 (2 ^ min (Int.toNat 2) 64)) 1)) == 1)⟩ : Zx)) (some (⟨4, 0, 0, 0, 0, 0, 0, false⟩ : Zx)))))
noncomputable def Qm (a0 : (Option Zj)) (a1 : Int) (a2 : Int) (a3 : Int) : Option ((List Int) × Bool) :=
 (Xa a0 a1 a2 a3).bind fun y2 => cond (!y2) (some (([] : (List Int)), false)) ((a0).bind fun x7 => (Qf x7.segments a1).bind fun x8 => (Zd2 x8 a2 (IntKind.i64.wrap (a2 + a3))).bind fun l9 => (Z9 l9).bind fun y10 => some (y10, true))
noncomputable def Up (a0 : Int) : Option Int :=
 ((some (⟨[0, 1, 8, 16, 32, 64, 64], rfl⟩ : (Arr Int 7)))).bind fun y6 => ((some (⟨[0, 0, 0, 0, 0, 0, 0], rfl⟩ : (Arr Int 7)))).bind fun y8 => (Qf y6.1 a0).bind fun x12 => some x12
noncomputable def Jz (a0 : Zx) : Option (Int × Bool) :=
 cond (a0.Kind == 1) (some ((IntKind.i64.wrap (a0.Data + a0.Ptrs)), true)) (cond (cond (a0.Kind == 2) (a0.Code == 7) false) (some ((IntKind.i64.wrap (a0.Count + 1)), true)) (cond (cond (cond (cond (cond (a0.Kind == 2) (decide (0 ≤ a0.Code)) false) (decide (a0.Code < 7)) false) (decide (0 ≤ a0.Count)) false) (decide (a0.Count ≤ 536870911)) false) ((Up a0.Code).bind fun y2 => some ((IntKind.i64.wrap (Int.tdiv (IntKind.i64.wrap ((IntKind.i64.wrap (a0.Count * y2)) + 63)) 64)), true)) (some (0, false))))
structure Yb where
 P : Zx
 Segment : Int
 At : Int
noncomputable def Jv (a0 : (Option Zj)) (a1 : Zx) (a2 : Int) (a3 : Int) : Option (Yb × Int) :=
 cond (a1.Kind == 4) (some ((⟨⟨0, 0, 0, 0, 0, 0, 0, false⟩, 0, 0⟩ : Yb), 9)) ((Jz a1).bind fun y2 => cond (!y2.2) (some ((⟨⟨0, 0, 0, 0, 0, 0, 0, false⟩, 0, 0⟩ : Yb), 8)) ((Xa a0 a2 a3 y2.1).bind fun y4 => cond (!y4) (some ((⟨⟨0, 0, 0, 0, 0, 0, 0, false⟩, 0, 0⟩ : Yb), 7)) (some ((⟨⟨a1.Kind, 0, a1.Data, a1.Ptrs, a1.Code, a1.Count, a1.Segment, a1.Double⟩, a2, a3⟩ : Yb), 0))))
noncomputable def Vo (a0 : (Option Zj)) (a1 : Int) (a2 : Int) : Option (Yb × Int) :=
 (Qm a0 a1 a2 2).bind fun y2 => cond (!y2.2) (some ((⟨⟨0, 0, 0, 0, 0, 0, 0, false⟩, 0, 0⟩ : Yb), 7)) ((Qf y2.1 0).bind fun x3 => (Xz x3).bind fun y4 => (Qf y2.1 1).bind fun x5 => (Xz x5).bind fun y6 => cond (cond (y4.Kind != 3) true y4.Double) (some ((⟨⟨0, 0, 0, 0, 0, 0, 0, false⟩, 0, 0⟩ : Yb), 8)) (cond (cond (y6.Kind != 4) (y6.Off != 0) false) (some ((⟨⟨0, 0, 0, 0, 0, 0, 0, false⟩, 0, 0⟩ : Yb), 8)) ((Jv a0 y6 y4.Segment y4.Off).bind fun y8 => some (y8.1, y8.2))))
noncomputable def Vp (a0 : (Option Zj)) (a1 : Int) (a2 : Int) : Option (Yb × Int) :=
 (Yl a0 a1 a2).bind fun y2 => cond (!y2.2) (some ((⟨⟨0, 0, 0, 0, 0, 0, 0, false⟩, 0, 0⟩ : Yb), 7)) ((Xz y2.1).bind fun y4 => (Jv a0 y4 a1 (IntKind.i64.wrap ((IntKind.i64.wrap (a2 + 1)) + y4.Off))).bind fun y6 => some (y6.1, y6.2))
noncomputable def Vn (a0 : (Option Zj)) (a1 : Int) (a2 : Int) : Option (Yb × Int) :=
 (Yl a0 a1 a2).bind fun y2 => cond (!y2.2) (some ((⟨⟨0, 0, 0, 0, 0, 0, 0, false⟩, 0, 0⟩ : Yb), 7)) ((Xz y2.1).bind fun y4 => cond (y4.Kind == 0) (some ((⟨⟨0, 0, 0, 0, 0, 0, 0, false⟩, 0, 0⟩ : Yb), 0)) (cond (cond (y4.Kind == 3) y4.Double false) ((Vo a0 y4.Segment y4.Off).bind fun y6 => some (y6.1, y6.2)) (cond (y4.Kind == 3) ((Vp a0 y4.Segment y4.Off).bind fun y8 => some (y8.1, y8.2)) ((Jv a0 y4 a1 (IntKind.i64.wrap ((IntKind.i64.wrap (a2 + 1)) + y4.Off))).bind fun y10 => some (y10.1, y10.2)))))
structure Zh where
 a : (Option Zj)
 kind : Int
 segment : Int
 at_ : Int
 words : Int
 ptrs : Int
 count : Int
 code : Int
 index : Int
noncomputable def Jw (a0 : Zh) : Option (Zh × Int) :=
 (Yl a0.a a0.segment a0.at_).bind fun y2 => (Xz y2.1).bind fun y4 => cond (cond (cond (cond (y4.Kind != 0) (y4.Kind != 1) false) true (decide (y4.Off < 0))) true (decide (a0.count < (IntKind.i64.wrap (y4.Off * (IntKind.i64.wrap (y4.Data + y4.Ptrs))))))) (some ((⟨(none : (Option Zj)), 0, 0, 0, 0, 0, 0, 0, 0⟩ : Zh), 8)) (some ((⟨a0.a, a0.kind, a0.segment, a0.at_, y4.Data, y4.Ptrs, y4.Off, a0.code, a0.index⟩ : Zh), 0))
noncomputable def Jm (a0 : (Option Zj)) (a1 : Int) (a2 : Int) : Option (Zh × Int) :=
 (Vn a0 a1 a2).bind fun y2 => cond (cond (y2.2 != 0) true (y2.1.P.Kind == 0)) (some ((⟨(none : (Option Zj)), 0, 0, 0, 0, 0, 0, 0, 0⟩ : Zh), y2.2)) (cond (y2.1.P.Kind == 1) (some ((⟨a0, 1, y2.1.Segment, y2.1.At, y2.1.P.Data, y2.1.P.Ptrs, 0, 0, 0⟩ : Zh), 0)) (cond (y2.1.P.Code == 7) ((Jw (⟨a0, (IntKind.i64.wrap (y2.1.P.Code + 2)), y2.1.Segment, y2.1.At, 0, 0, y2.1.P.Count, 0, 0⟩ : Zh)).bind fun y4 => some (y4.1, y4.2)) (some ((⟨a0, (IntKind.i64.wrap (y2.1.P.Code + 2)), y2.1.Segment, y2.1.At, 0, 0, y2.1.P.Count, 0, 0⟩ : Zh), 0))))
noncomputable def Kw (a0 : (Option Zj)) : Option (Zh × Int) :=
 (Jm a0 0 0).bind fun y2 => some (y2.1, y2.2)
noncomputable def Q1 (a0 : Zh) : Option Int :=
 some a0.kind
noncomputable def Xc (a0 : Zh) : Option Int :=
 cond (a0.kind == 1) (some a0.ptrs) (some a0.count)
noncomputable def Jd (a0 : Zh) (a1 : Int) : Option (Zh × Int) :=
 (cond (decide (a1 < 0)) (some true) ((Xc a0).bind fun y4 => some (cond (decide (a1 < 0)) true (decide (y4 ≤ a1))))).bind fun (z2 : Bool) => cond z2 (some ((⟨(none : (Option Zj)), 0, 0, 0, 0, 0, 0, 0, 0⟩ : Zh), 0)) (cond (a0.kind == 1) ((Jm a0.a a0.segment (IntKind.i64.wrap ((IntKind.i64.wrap (a0.at_ + a0.words)) + a1))).bind fun y7 => some (y7.1, y7.2)) (cond (a0.kind == 8) ((Jm a0.a a0.segment (IntKind.i64.wrap (a0.at_ + a1))).bind fun y9 => some (y9.1, y9.2)) (cond (a0.kind == 9) (some ((⟨a0.a, 1, a0.segment, (IntKind.i64.wrap ((IntKind.i64.wrap (a0.at_ + 1)) + (IntKind.i64.wrap (a1 * (IntKind.i64.wrap (a0.words + a0.ptrs)))))), a0.words, a0.ptrs, 0, 0, 0⟩ : Zh), 0)) (some ((⟨a0.a, 10, a0.segment, a0.at_, 0, 0, 0, (IntKind.i64.wrap (a0.kind - 2)), a1⟩ : Zh), 0)))))
noncomputable def Y2 (a0 : Zh) : Option Int :=
 cond (a0.kind == 1) (some a0.words) (cond (a0.kind == 10) (some 1) (some 0))
noncomputable def Kg (a0 : Int) : Option (Int × Bool) :=
 ((some (⟨[0, 1, 8, 16, 32, 64], rfl⟩ : (Arr Int 6)))).bind fun y6 => ((some (⟨[0, 0, 0, 0, 0, 0], rfl⟩ : (Arr Int 6)))).bind fun y8 => cond (cond (decide (a0 < 0)) true (decide (6 ≤ a0))) (some (0, false)) ((Qf y6.1 a0).bind fun x12 => some (x12, true))
noncomputable def Gx (a0 : (List Int)) (a1 : Int) (a2 : Int) : Option Int :=
 (Kg a1).bind fun y2 => cond (cond (y2.1 == 0) true (decide (a2 < 0))) (some 0) ((Yx (y2.1 ≠ 0)).bind fun u4 => (Yx ((IntKind.i64.wrap (Int.tdiv 64 y2.1)) ≠ 0)).bind fun u6 => cond (decide ((a0.length : Int) ≤ (IntKind.i64.wrap (Int.tdiv a2 (IntKind.i64.wrap (Int.tdiv 64 y2.1)))))) (some 0) ((Yx ((IntKind.i64.wrap (Int.tdiv 64 y2.1)) ≠ 0)).bind fun u12 => (Qf a0 (IntKind.i64.wrap (Int.tdiv a2 (IntKind.i64.wrap (Int.tdiv 64 y2.1))))).bind fun x13 => (Yx ((IntKind.i64.wrap (Int.tdiv 64 y2.1)) ≠ 0)).bind fun u14 => (Yx (0 ≤ (IntKind.i64.wrap ((Int.tmod a2 (IntKind.i64.wrap (Int.tdiv 64 y2.1))) * y2.1)))).bind fun u15 => (Yx (0 ≤ y2.1)).bind fun u16 => some (IntKind.u64.wrap (Kl .u64 (Int.fdiv x13 (2 ^ min (Int.toNat (IntKind.i64.wrap ((Int.tmod a2 (IntKind.i64.wrap (Int.tdiv 64 y2.1))) * y2.1))) 64)) (IntKind.u64.wrap ((IntKind.u64.wrap (1 * 2 ^ min (Int.toNat y2.1) 64)) - 1))))))
noncomputable def X9 (a0 : Zh) : Option Int :=
 (Kg a0.code).bind fun y2 => cond (y2.1 == 0) (some 0) ((Yx (y2.1 ≠ 0)).bind fun u4 => (Yx ((IntKind.i64.wrap (Int.tdiv 64 y2.1)) ≠ 0)).bind fun u7 => (Yl a0.a a0.segment (IntKind.i64.wrap (a0.at_ + (IntKind.i64.wrap (Int.tdiv a0.index (IntKind.i64.wrap (Int.tdiv 64 y2.1))))))).bind fun y8 => (Yx ((IntKind.i64.wrap (Int.tdiv 64 y2.1)) ≠ 0)).bind fun u11 => (Gx ([y8.1] : List Int) a0.code (Int.tmod a0.index (IntKind.i64.wrap (Int.tdiv 64 y2.1)))).bind fun y12 => some y12)
noncomputable def Yv (a0 : Zh) (a1 : Int) : Option Int :=
 (cond (decide (a1 < 0)) (some true) ((Y2 a0).bind fun y4 => some (cond (decide (a1 < 0)) true (decide (y4 ≤ a1))))).bind fun (z2 : Bool) => cond z2 (some 0) (cond (a0.kind == 10) ((X9 a0).bind fun y7 => some y7) ((Yl a0.a a0.segment (IntKind.i64.wrap (a0.at_ + a1))).bind fun y9 => some y9.1))
noncomputable def Qn  : Option Bool :=
 (V1 ([([4294967296, 7] : List Int)] : List (List Int))).bind fun y3 => (Kw y3).bind fun y4 => (cond (y4.2 == 0) ((Q1 y4.1).bind fun y14 => cond (y14 == 1) ((Y2 y4.1).bind fun y15 => cond (y15 == 1) ((Yv y4.1 0).bind fun y16 => cond (y16 == 7) ((Xc y4.1).bind fun y17 => some (cond (cond (cond (cond (y4.2 == 0) (y14 == 1) false) (y15 == 1) false) (y16 == 7) false) (y17 == 0) false)) (some false)) (some false)) (some false)) (some false)).bind fun (z9 : Bool) => some z9
noncomputable def Qo (a0 : Int) : Option Int :=
 cond (a0 == 0) (some 0) (cond (a0 == 1) (some 1) (cond (a0 == 2) (some 8) (cond (a0 == 3) (some 16) (cond (a0 == 4) (some 32) (cond (a0 == 5) (some 64) (some (-1)))))))
noncomputable def Y4 (a0 : (List (List Int))) (a1 : Int) (a2 : Int) : Option Bool :=
 (cond (decide (0 ≤ a1)) (cond (decide (a1 < (a0.length : Int))) (cond (decide (0 ≤ a2)) ((Qf a0 a1).bind fun x4 => some (cond (cond (cond (decide (0 ≤ a1)) (decide (a1 < (a0.length : Int))) false) (decide (0 ≤ a2)) false) (decide (a2 < (x4.length : Int))) false)) (some false)) (some false)) (some false)).bind fun (z2 : Bool) => some z2
noncomputable def Qs (a1 : Int) (s0_ : (Int × Int)) : Option ((Int × Int) ⊕ Int) :=
 cond (decide (s0_.2 < a1)) (some (.inl ((IntKind.u64.wrap (Int.tdiv s0_.1 2)), (IntKind.i64.wrap (s0_.2 + 1))))) (some (.inr s0_.1))
noncomputable def Qt (a2 : Int) (s1_ : (Int × Int × Int × Int)) : Option ((Int × Int × Int × Int) ⊕ Int) :=
 cond (decide (s1_.2.2.2 < a2)) ((cond ((Int.tmod s1_.1 2) == 1) (some (IntKind.i64.wrap (s1_.2.1 + s1_.2.2.1))) (some s1_.2.1)).bind fun (z3 : Int) => some (.inl ((IntKind.u64.wrap (Int.tdiv s1_.1 2)), z3, (IntKind.i64.wrap (2 * s1_.2.2.1)), (IntKind.i64.wrap (s1_.2.2.2 + 1))))) (some (.inr s1_.2.1))
noncomputable def Zt (a0 : Int) (a1 : Int) (a2 : Int) : Option Int :=
 (Yh (Qs a1) (a0, 0)).bind fun (z2 : Int) => (Yh (Qt a2) (z2, 0, 1, 0)).bind fun (z6 : Int) => some z6
noncomputable def Z8 (a0 : Int) : Option Zx :=
 cond (a0 == 0) (some (⟨0, 0, 0, 0, 0, 0, 0, false⟩ : Zx)) ((Zt a0 2 30).bind fun y2 => (cond (decide (536870912 ≤ y2)) (some (IntKind.i64.wrap (y2 - 1073741824))) (some y2)).bind fun (z3 : Int) => (Zt a0 0 2).bind fun y6 => cond (y6 == 0) ((Zt a0 32 16).bind fun y9 => (Zt a0 48 16).bind fun y10 => some (⟨1, z3, y9, y10, 0, 0, 0, false⟩ : Zx)) (cond (y6 == 1) ((Zt a0 32 3).bind fun y13 => (Zt a0 35 29).bind fun y14 => some (⟨2, z3, 0, 0, y13, y14, 0, false⟩ : Zx)) (cond (y6 == 2) ((Zt a0 3 29).bind fun y18 => (Zt a0 32 32).bind fun y19 => (Zt a0 2 1).bind fun y20 => some (⟨3, y18, 0, 0, 0, 0, y19, (y20 == 1)⟩ : Zx)) (some (⟨4, 0, 0, 0, 0, 0, 0, false⟩ : Zx)))))
noncomputable def Y0 (a0 : Zx) : Option Int :=
 cond (a0.Kind == 4) (some 9) (cond (cond (a0.Kind != 1) (a0.Kind != 2) false) (some 8) (some 0))
noncomputable def Qp (a0 : Zx) : Option Int :=
 cond (a0.Kind == 1) (some (IntKind.i64.wrap (a0.Data + a0.Ptrs))) (cond (a0.Kind != 2) (some (-1)) (cond (a0.Code == 7) (some (IntKind.i64.wrap (a0.Count + 1))) (cond (cond (cond (cond (decide (a0.Code < 0)) true (decide (6 < a0.Code))) true (decide (a0.Count < 0))) true (decide (536870912 ≤ a0.Count))) (some (-1)) ((cond (a0.Code == 0) (some (.inr ())) (cond (a0.Code == 1) (some (.inl 64)) (cond (a0.Code == 2) (some (.inl 8)) (cond (a0.Code == 3) (some (.inl 4)) (cond (a0.Code == 4) (some (.inl 2)) (some (.inl 1))))))).bind fun (z1 : (Int ⊕ Unit)) => match z1 with | .inl z1 => (Yx (z1 ≠ 0)).bind fun u8 => cond (decide (0 < (Int.tmod a0.Count z1))) ((Yx (z1 ≠ 0)).bind fun u10 => some (IntKind.i64.wrap ((IntKind.i64.wrap (Int.tdiv a0.Count z1)) + 1))) ((Yx (z1 ≠ 0)).bind fun u12 => some (IntKind.i64.wrap (Int.tdiv a0.Count z1))) | .inr z1 => some 0))))
structure Zv where
 P : Zx
 Segment : Int
 At : Int
noncomputable def Y1 (a0 : (List (List Int))) (a1 : Zv) : Option (Zv × Int) :=
 (Qp a1.P).bind fun y2 => (cond (decide (a1.Segment < 0)) (some true) (cond (decide ((a0.length : Int) ≤ a1.Segment)) (some true) (cond (decide (a1.At < 0)) (some true) ((Qf a0 a1.Segment).bind fun x8 => cond (decide ((x8.length : Int) < a1.At)) (some true) (some (cond (cond (cond (cond (decide (a1.Segment < 0)) true (decide ((a0.length : Int) ≤ a1.Segment))) true (decide (a1.At < 0))) true (decide ((x8.length : Int) < a1.At))) true (decide ((IntKind.i64.wrap ((x8.length : Int) - a1.At)) < y2)))))))).bind fun (z5 : Bool) => cond z5 (some ((⟨⟨0, 0, 0, 0, 0, 0, 0, false⟩, 0, 0⟩ : Zv), 7)) (some ((⟨⟨a1.P.Kind, 0, a1.P.Data, a1.P.Ptrs, a1.P.Code, a1.P.Count, a1.P.Segment, a1.P.Double⟩, a1.Segment, a1.At⟩ : Zv), 0))
noncomputable def Xl (a0 : (List (List Int))) (a1 : Int) (a2 : Int) : Option (Zv × Int) :=
 (Y4 a0 a1 a2).bind fun y2 => cond (!y2) (some ((⟨⟨0, 0, 0, 0, 0, 0, 0, false⟩, 0, 0⟩ : Zv), 7)) ((Qf a0 a1).bind fun x6 => (Qf x6 a2).bind fun x7 => (Z8 x7).bind fun y8 => cond (y8.Kind == 0) (some ((⟨⟨0, 0, 0, 0, 0, 0, 0, false⟩, 0, 0⟩ : Zv), 0)) (cond (cond (y8.Kind == 3) y8.Double false) (((Y4 a0 y8.Segment y8.Off).bind fun y14 => cond y14 ((Y4 a0 y8.Segment (IntKind.i64.wrap (y8.Off + 1))).bind fun y15 => some (cond (!y14) true (!y15))) (some true)).bind fun (z11 : Bool) => cond z11 (some ((⟨⟨0, 0, 0, 0, 0, 0, 0, false⟩, 0, 0⟩ : Zv), 7)) ((Qf a0 y8.Segment).bind fun x17 => (Qf x17 y8.Off).bind fun x18 => (Z8 x18).bind fun y19 => (Qf x17 (IntKind.i64.wrap (y8.Off + 1))).bind fun x21 => (Z8 x21).bind fun y22 => cond (cond (y19.Kind != 3) true y19.Double) (some ((⟨⟨0, 0, 0, 0, 0, 0, 0, false⟩, 0, 0⟩ : Zv), 8)) ((Y0 y22).bind fun y24 => (cond (cond (y24 == 0) (y22.Off != 0) false) (some 8) (some y24)).bind fun (z25 : Int) => cond (z25 != 0) (some ((⟨⟨0, 0, 0, 0, 0, 0, 0, false⟩, 0, 0⟩ : Zv), z25)) ((Y1 a0 (⟨y22, y19.Segment, y19.Off⟩ : Zv)).bind fun y28 => some (y28.1, y28.2))))) ((cond (y8.Kind == 3) ((Y4 a0 y8.Segment y8.Off).bind fun y34 => cond (!y34) (some (.inr ())) ((Qf a0 y8.Segment).bind fun x35 => (Qf x35 y8.Off).bind fun x36 => (Z8 x36).bind fun y37 => some (.inl (y8.Segment, y8.Off, y37.Kind, y37.Off, y37.Data, y37.Ptrs, y37.Code, y37.Count, y37.Segment, y37.Double)))) (some (.inl (a1, a2, y8.Kind, y8.Off, y8.Data, y8.Ptrs, y8.Code, y8.Count, y8.Segment, y8.Double)))).bind fun (z32 : ((Int × Int × Int × Int × Int × Int × Int × Int × Int × Bool) ⊕ Unit)) => match z32 with | .inl z32 => (Y0 (⟨z32.2.2.1, z32.2.2.2.1, z32.2.2.2.2.1, z32.2.2.2.2.2.1, z32.2.2.2.2.2.2.1, z32.2.2.2.2.2.2.2.1, z32.2.2.2.2.2.2.2.2.1, z32.2.2.2.2.2.2.2.2.2⟩ : Zx)).bind fun y41 => cond (y41 != 0) (some ((⟨⟨0, 0, 0, 0, 0, 0, 0, false⟩, 0, 0⟩ : Zv), y41)) ((Y1 a0 (⟨⟨z32.2.2.1, z32.2.2.2.1, z32.2.2.2.2.1, z32.2.2.2.2.2.1, z32.2.2.2.2.2.2.1, z32.2.2.2.2.2.2.2.1, z32.2.2.2.2.2.2.2.2.1, z32.2.2.2.2.2.2.2.2.2⟩, z32.1, (IntKind.i64.wrap ((IntKind.i64.wrap (z32.2.1 + 1)) + z32.2.2.2.1))⟩ : Zv)).bind fun y43 => some (y43.1, y43.2)) | .inr z32 => some ((⟨⟨0, 0, 0, 0, 0, 0, 0, false⟩, 0, 0⟩ : Zv), 7))))
structure Zm where
 Kind : Int
 S : Int
 At : Int
 Data : Int
 Ptrs : Int
 Count : Int
 N : Int
noncomputable def Xn (a0 : (List (List Int))) (a1 : Int) (a2 : Int) : Option (Zm × Int) :=
 (Xl a0 a1 a2).bind fun y2 => cond (cond (y2.2 != 0) true (y2.1.P.Kind == 0)) (some ((⟨0, 0, 0, 0, 0, 0, 0⟩ : Zm), y2.2)) (cond (y2.1.P.Kind == 1) (some ((⟨1, y2.1.Segment, y2.1.At, y2.1.P.Data, y2.1.P.Ptrs, 0, 0⟩ : Zm), 0)) (cond (decide (y2.1.P.Code < 7)) (some ((⟨(IntKind.i64.wrap (2 + y2.1.P.Code)), y2.1.Segment, y2.1.At, 0, 0, y2.1.P.Count, 0⟩ : Zm), 0)) ((Qf a0 y2.1.Segment).bind fun x5 => (Qf x5 y2.1.At).bind fun x6 => (Z8 x6).bind fun y8 => cond (cond (cond (cond (x6 != 0) (y8.Kind != 1) false) true (decide (y8.Off < 0))) true (decide (y2.1.P.Count < (IntKind.i64.wrap (y8.Off * (IntKind.i64.wrap (y8.Data + y8.Ptrs))))))) (some ((⟨0, 0, 0, 0, 0, 0, 0⟩ : Zm), 8)) (some ((⟨9, y2.1.Segment, (IntKind.i64.wrap (y2.1.At + 1)), y8.Data, y8.Ptrs, y8.Off, 0⟩ : Zm), 0)))))
noncomputable def Xb (a0 : Zm) (a1 : (List (List Int))) : Option (List Int) :=
 cond (a0.Kind == 10) (some ([a0.N] : List Int)) (cond (a0.Kind != 1) (some ([] : (List Int))) ((Qf a1 a0.S).bind fun x4 => (Zd2 x4 a0.At (IntKind.i64.wrap (a0.At + a0.Data))).bind fun l5 => (Zjk 8 ([] : List Int) l5).bind fun l6 => some l6))
noncomputable def Yk (a0 : Zm) : Option Int :=
 cond (a0.Kind == 1) (some a0.Ptrs) (some a0.Count)
noncomputable def Qq (a0 : Zh) : Option (Int × Int) :=
 cond (a0.kind != 9) (some (0, 0)) (some (a0.words, a0.ptrs))
noncomputable def Yw (a0 : Zh) (y2 : (List Int)) (s0_ : Int) : Option (Int ⊕ (Unit ⊕ Unit)) :=
 cond (cond (decide (s0_ < (y2.length : Int))) (decide (s0_ < 200)) false) ((Yv a0 s0_).bind fun y22 => (Qf y2 s0_).bind fun x23 => cond (y22 != x23) (some (.inr (.inl ()))) (some (.inl (IntKind.i64.wrap (s0_ + 1))))) (some (.inr (.inr ())))
noncomputable def Yz (a0 : Zh) (a1 : Zm) (a2 : (List (List Int))) : Option Bool :=
 (Xb a1 a2).bind fun y2 => ((Q1 a0).bind fun y12 => cond (y12 != a1.Kind) (some true) ((Y2 a0).bind fun y13 => cond (y13 != (y2.length : Int)) (some true) ((Xc a0).bind fun y14 => (Yk a1).bind fun y15 => some (cond (cond (y12 != a1.Kind) true (y13 != (y2.length : Int))) true (y14 != y15))))).bind fun (z7 : Bool) => cond z7 (some false) ((Qq a0).bind fun y19 => cond (cond (cond (a1.Kind == 9) (cond (y19.1 != a1.Data) true (y19.2 != a1.Ptrs)) false) true (cond (a1.Kind != 9) ((IntKind.i64.wrap (y19.1 + y19.2)) != 0) false)) (some false) ((Yh (Yw a0 y2) 0).bind fun (z26 : (Unit ⊕ Unit)) => match z26 with | .inl z26 => some false | .inr z26 => ((Yv a0 (-1)).bind fun y32 => cond (y32 == 0) ((Yv a0 (y2.length : Int)).bind fun y33 => some (cond (y32 == 0) (y33 == 0) false)) (some false)).bind fun (z29 : Bool) => some z29))
noncomputable def Xj (a1 : Int) (s0_ : (Int × Int)) : Option ((Int × Int) ⊕ Int) :=
 cond (decide (s0_.2 < (Int.tmod a1 64))) (some (.inl ((IntKind.u64.wrap (Int.tdiv s0_.1 2)), (IntKind.i64.wrap (s0_.2 + 1))))) (some (.inr s0_.1))
noncomputable def Jb (a0 : (List Int)) (a1 : Int) : Option Int :=
 cond (cond (decide (a1 < 0)) true (decide ((a0.length : Int) ≤ (IntKind.i64.wrap (Int.tdiv a1 64))))) (some 0) ((Qf a0 (IntKind.i64.wrap (Int.tdiv a1 64))).bind fun x2 => (Yh (Xj a1) (x2, 0)).bind fun (z4 : Int) => some (Int.tmod z4 2))
noncomputable def Xk (a0 : (List Int)) (a2 : Int) (y2 : Int) (s0_ : (Int × Int)) : Option ((Int × Int) ⊕ Int) :=
 cond (decide (0 ≤ s0_.2)) ((Jb a0 (IntKind.i64.wrap ((IntKind.i64.wrap (a2 * y2)) + s0_.2))).bind fun y3 => some (.inl ((IntKind.u64.wrap ((IntKind.u64.wrap (s0_.1 * 2)) + y3)), (IntKind.i64.wrap (s0_.2 - 1))))) (some (.inr s0_.1))
noncomputable def Jc (a0 : (List Int)) (a1 : Int) (a2 : Int) : Option Int :=
 (Qo a1).bind fun y2 => cond (cond (cond (decide (y2 < 1)) true (decide (a2 < 0))) true (decide (1099511627776 < a2))) (some 0) ((Yh (Xk a0 a2 y2) (0, (IntKind.i64.wrap (y2 - 1)))).bind fun (z5 : Int) => some z5)
noncomputable def X2 (a0 : Zm) (a1 : (List (List Int))) (a2 : Int) : Option (Zm × Int) :=
 (cond (decide (a2 < 0)) (some true) ((Yk a0).bind fun y4 => some (cond (decide (a2 < 0)) true (decide (y4 ≤ a2))))).bind fun (z2 : Bool) => cond z2 (some ((⟨0, 0, 0, 0, 0, 0, 0⟩ : Zm), 0)) (cond (a0.Kind == 1) ((Xn a1 a0.S (IntKind.i64.wrap ((IntKind.i64.wrap (a0.At + a0.Data)) + a2))).bind fun y7 => some (y7.1, y7.2)) (cond (a0.Kind == 8) ((Xn a1 a0.S (IntKind.i64.wrap (a0.At + a2))).bind fun y9 => some (y9.1, y9.2)) (cond (a0.Kind == 9) (some ((⟨1, a0.S, (IntKind.i64.wrap (a0.At + (IntKind.i64.wrap (a2 * (IntKind.i64.wrap (a0.Data + a0.Ptrs)))))), a0.Data, a0.Ptrs, 0, 0⟩ : Zm), 0)) ((Qf a1 a0.S).bind fun x13 => (Zd2 x13 a0.At (x13.length : Int)).bind fun l14 => (Jc l14 (IntKind.i64.wrap (a0.Kind - 2)) a2).bind fun y15 => some ((⟨10, 0, 0, 0, 0, 0, y15⟩ : Zm), 0)))))
noncomputable def Z6 (a0 : (List (List Int))) (a3 : (List Int)) (s0_ : (Int × Int × Int × (Option Zj) × Int × Int × Int × Int × Int × Int × Int × Int × Int × Int × Int × Int × Int × Int × Int)) : Option ((Int × Int × Int × (Option Zj) × Int × Int × Int × Int × Int × Int × Int × Int × Int × Int × Int × Int × Int × Int × Int) ⊕ (Unit ⊕ (Int × Int × (Option Zj) × Int × Int × Int × Int × Int × Int × Int × Int × Int × Int × Int × Int × Int × Int × Int))) :=
 cond (cond (decide (s0_.2.2.1 < (a3.length : Int))) (decide (s0_.2.2.1 < 30)) false) ((cond (s0_.1 != s0_.2.1) (some true) ((Yz (⟨s0_.2.2.2.1, s0_.2.2.2.2.1, s0_.2.2.2.2.2.1, s0_.2.2.2.2.2.2.1, s0_.2.2.2.2.2.2.2.1, s0_.2.2.2.2.2.2.2.2.1, s0_.2.2.2.2.2.2.2.2.2.1, s0_.2.2.2.2.2.2.2.2.2.2.1, s0_.2.2.2.2.2.2.2.2.2.2.2.1⟩ : Zh) (⟨s0_.2.2.2.2.2.2.2.2.2.2.2.2.1, s0_.2.2.2.2.2.2.2.2.2.2.2.2.2.1, s0_.2.2.2.2.2.2.2.2.2.2.2.2.2.2.1, s0_.2.2.2.2.2.2.2.2.2.2.2.2.2.2.2.1, s0_.2.2.2.2.2.2.2.2.2.2.2.2.2.2.2.2.1, s0_.2.2.2.2.2.2.2.2.2.2.2.2.2.2.2.2.2.1, s0_.2.2.2.2.2.2.2.2.2.2.2.2.2.2.2.2.2.2⟩ : Zm) a0).bind fun y10 => some (cond (s0_.1 != s0_.2.1) true (!y10)))).bind fun (z8 : Bool) => cond z8 (some (.inr (.inl ()))) ((Qf a3 s0_.2.2.1).bind fun x13 => ((Yk (⟨s0_.2.2.2.2.2.2.2.2.2.2.2.2.1, s0_.2.2.2.2.2.2.2.2.2.2.2.2.2.1, s0_.2.2.2.2.2.2.2.2.2.2.2.2.2.2.1, s0_.2.2.2.2.2.2.2.2.2.2.2.2.2.2.2.1, s0_.2.2.2.2.2.2.2.2.2.2.2.2.2.2.2.2.1, s0_.2.2.2.2.2.2.2.2.2.2.2.2.2.2.2.2.2.1, s0_.2.2.2.2.2.2.2.2.2.2.2.2.2.2.2.2.2.2⟩ : Zm)).bind fun y16 => cond (cond (cond (decide (0 < y16)) (decide (0 ≤ x13)) false) (decide (x13 < 1000)) false) ((Yx (y16 ≠ 0)).bind fun u17 => some (Int.tmod x13 y16)) (some x13)).bind fun (z14 : Int) => (Jd (⟨s0_.2.2.2.1, s0_.2.2.2.2.1, s0_.2.2.2.2.2.1, s0_.2.2.2.2.2.2.1, s0_.2.2.2.2.2.2.2.1, s0_.2.2.2.2.2.2.2.2.1, s0_.2.2.2.2.2.2.2.2.2.1, s0_.2.2.2.2.2.2.2.2.2.2.1, s0_.2.2.2.2.2.2.2.2.2.2.2.1⟩ : Zh) z14).bind fun y20 => (X2 (⟨s0_.2.2.2.2.2.2.2.2.2.2.2.2.1, s0_.2.2.2.2.2.2.2.2.2.2.2.2.2.1, s0_.2.2.2.2.2.2.2.2.2.2.2.2.2.2.1, s0_.2.2.2.2.2.2.2.2.2.2.2.2.2.2.2.1, s0_.2.2.2.2.2.2.2.2.2.2.2.2.2.2.2.2.1, s0_.2.2.2.2.2.2.2.2.2.2.2.2.2.2.2.2.2.1, s0_.2.2.2.2.2.2.2.2.2.2.2.2.2.2.2.2.2.2⟩ : Zm) a0 z14).bind fun y21 => some (.inl (y20.2, y21.2, (IntKind.i64.wrap (s0_.2.2.1 + 1)), y20.1.a, y20.1.kind, y20.1.segment, y20.1.at_, y20.1.words, y20.1.ptrs, y20.1.count, y20.1.code, y20.1.index, y21.1.Kind, y21.1.S, y21.1.At, y21.1.Data, y21.1.Ptrs, y21.1.Count, y21.1.N)))) (some (.inr (.inr (s0_.1, s0_.2.1, s0_.2.2.2.1, s0_.2.2.2.2.1, s0_.2.2.2.2.2.1, s0_.2.2.2.2.2.2.1, s0_.2.2.2.2.2.2.2.1, s0_.2.2.2.2.2.2.2.2.1, s0_.2.2.2.2.2.2.2.2.2.1, s0_.2.2.2.2.2.2.2.2.2.2.1, s0_.2.2.2.2.2.2.2.2.2.2.2.1, s0_.2.2.2.2.2.2.2.2.2.2.2.2.1, s0_.2.2.2.2.2.2.2.2.2.2.2.2.2.1, s0_.2.2.2.2.2.2.2.2.2.2.2.2.2.2.1, s0_.2.2.2.2.2.2.2.2.2.2.2.2.2.2.2.1, s0_.2.2.2.2.2.2.2.2.2.2.2.2.2.2.2.2.1, s0_.2.2.2.2.2.2.2.2.2.2.2.2.2.2.2.2.2.1, s0_.2.2.2.2.2.2.2.2.2.2.2.2.2.2.2.2.2.2))))
noncomputable def Xy (a0 : (List (List Int))) (a1 : Int) (a2 : Int) (a3 : (List Int)) : Option Bool :=
 (V1 a0).bind fun y2 => (Jm y2 a1 a2).bind fun y4 => (Xn a0 a1 a2).bind fun y6 => (Yh (Z6 a0 a3) (y4.2, y6.2, 0, y4.1.a, y4.1.kind, y4.1.segment, y4.1.at_, y4.1.words, y4.1.ptrs, y4.1.count, y4.1.code, y4.1.index, y6.1.Kind, y6.1.S, y6.1.At, y6.1.Data, y6.1.Ptrs, y6.1.Count, y6.1.N)).bind fun (z24 : (Unit ⊕ (Int × Int × (Option Zj) × Int × Int × Int × Int × Int × Int × Int × Int × Int × Int × Int × Int × Int × Int × Int))) => match z24 with | .inl z24 => some false | .inr z24 => (cond (z24.1 == z24.2.1) ((Yz (⟨z24.2.2.1, z24.2.2.2.1, z24.2.2.2.2.1, z24.2.2.2.2.2.1, z24.2.2.2.2.2.2.1, z24.2.2.2.2.2.2.2.1, z24.2.2.2.2.2.2.2.2.1, z24.2.2.2.2.2.2.2.2.2.1, z24.2.2.2.2.2.2.2.2.2.2.1⟩ : Zh) (⟨z24.2.2.2.2.2.2.2.2.2.2.2.1, z24.2.2.2.2.2.2.2.2.2.2.2.2.1, z24.2.2.2.2.2.2.2.2.2.2.2.2.2.1, z24.2.2.2.2.2.2.2.2.2.2.2.2.2.2.1, z24.2.2.2.2.2.2.2.2.2.2.2.2.2.2.2.1, z24.2.2.2.2.2.2.2.2.2.2.2.2.2.2.2.2.1, z24.2.2.2.2.2.2.2.2.2.2.2.2.2.2.2.2.2⟩ : Zm) a0).bind fun y30 => cond y30 ((Qn).bind fun y31 => some (cond (cond (z24.1 == z24.2.1) y30 false) y31 false)) (some false)) (some false)).bind fun (z27 : Bool) => some z27
structure Zfl where
 Depth : Int
 Weight : Int
 MaxD : Int
 MaxOut : Int
structure Yq where
 left : Int
structure Y9 where
 Kind : Int
 Words : (List Int)
 Kids : (List Y9)
end Go.Proofs.Ytmlhokaflhlhbaa
