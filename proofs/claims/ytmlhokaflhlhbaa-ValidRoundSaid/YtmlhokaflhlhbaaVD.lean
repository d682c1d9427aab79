/- Part VD of this seat's mirrors: functions of the seat's program, and the plain functions that they are; each theorem bears its own conditions. -/
import Derived.Test.YtmlhokaflhlhbaaH25
namespace Go.Proofs.Ytmlhokaflhlhbaa
open Go.RowKit
set_option linter.unusedVariables false
set_option linter.unusedSimpArgs false
set_option maxRecDepth 100000
set_option maxHeartbeats 4000000
noncomputable def Z8 (a0 : List Int) : Option (List Int) :=
 Zlz 8 ([] : List Int) a0
noncomputable def Qa (a0 : (List (List Int))) (s0_ : (Int × (List (List Int)))) : Option ((Int × (List (List Int))) ⊕ (List (List Int))) :=
 cond (decide (s0_.1 < (a0.length : Int))) ((Vb a0 s0_.1).bind fun x4 => (Z8 x4).bind fun y5 => (Vb s0_.2 s0_.1).bind fun x6 => some (.inl ((IntKind.i64.wrap (s0_.1 + 1)), (Zj3 s0_.2 s0_.1 y5)))) (some (.inr s0_.2))
noncomputable def Kl (a0 : (List (List Int))) : Option (List (List Int)) :=
 (Zf8 24 (a0.length : Int) ([] : (List Int))).bind fun l2 => (Qm (Qa a0) (0, l2)).bind fun (z9 : (List (List Int))) => some z9
structure Zg where
 segments : (List (List Int))
 size : Int
 left : Int
noncomputable def Qi (a0 : (List (List Int))) : Option (Option Zg) :=
 (Kl a0).bind fun y2 => some (some (⟨y2, 0, 0⟩ : Zg))
noncomputable def Jw (a0 : (Option Zg)) : Option Int :=
 cond (Option.isNone a0) (some 0) ((a0).bind fun x4 => some (x4.segments.length : Int))
noncomputable def Xc (a0 : (Option Zg)) (a1 : Int) : Option Bool :=
 (cond (decide (0 ≤ a1)) ((Jw a0).bind fun y4 => some (cond (decide (0 ≤ a1)) (decide (a1 < y4)) false)) (some false)).bind fun (z2 : Bool) => some z2
noncomputable def Xk (a0 : (Option Zg)) (a1 : Int) : Option Int :=
 (Xc a0 a1).bind fun y2 => cond (!y2) (some 0) ((a0).bind fun x5 => (Vb x5.segments a1).bind fun x6 => some (x6.length : Int))
noncomputable def Y7 (a0 : (Option Zg)) (a1 : Int) (a2 : Int) (a3 : Int) : Option Bool :=
 ((Xc a0 a1).bind fun y8 => cond y8 (cond (decide (0 ≤ a2)) (cond (decide (0 ≤ a3)) ((Xk a0 a1).bind fun y9 => cond (decide (a3 ≤ y9)) ((Xk a0 a1).bind fun y10 => some (cond (cond (cond (cond y8 (decide (0 ≤ a2)) false) (decide (0 ≤ a3)) false) (decide (a3 ≤ y9)) false) (decide (a2 ≤ (IntKind.i64.wrap (y10 - a3)))) false)) (some false)) (some false)) (some false)) (some false)).bind fun (z4 : Bool) => some z4
noncomputable def Y6 (a0 : (Option Zg)) (a1 : Int) (a2 : Int) : Option (Int × Bool) :=
 (Y7 a0 a1 a2 1).bind fun y2 => cond (!y2) (some (0, false)) ((a0).bind fun x6 => (Vb x6.segments a1).bind fun x7 => (Vb x7 a2).bind fun x8 => some (x8, true))
noncomputable def Vh (a0 : Int) : Option Int :=
 some (IntKind.i64.wrap (Int.fdiv (IntKind.i32.wrap (IntKind.u32.wrap a0)) (2 ^ min (Int.toNat 2) 32)))
noncomputable def Yi (a0 : Int) (a1 : Int) (a2 : Int) : Option Int :=
 (Zh6 (0 ≤ a1)).bind fun u3 => (Zh6 (0 ≤ a2)).bind fun u4 => some (IntKind.i64.wrap (IntKind.u64.wrap (V9 .u64 (Int.fdiv a0 (2 ^ min (Int.toNat a1) 64)) (IntKind.u64.wrap ((IntKind.u64.wrap (1 * 2 ^ min (Int.toNat a2) 64)) - 1)))))
structure Z7 where
 Kind : Int
 Off : Int
 Data : Int
 Ptrs : Int
 Code : Int
 Count : Int
 Segment : Int
 Double : Bool
noncomputable def Xo (a0 : Int) : Option Z7 :=
 cond (a0 == 0) (some (⟨0, 0, 0, 0, 0, 0, 0, false⟩ : Z7)) (cond ((IntKind.u64.wrap (V9 .u64 a0 3)) == 0) ((Vh a0).bind fun y4 => (Yi a0 32 16).bind fun y5 => (Yi a0 48 16).bind fun y6 => some (⟨1, y4, y5, y6, 0, 0, 0, false⟩ : Z7)) (cond ((IntKind.u64.wrap (V9 .u64 a0 3)) == 1) ((Vh a0).bind fun y10 => (Yi a0 32 3).bind fun y11 => (Yi a0 35 29).bind fun y12 => some (⟨2, y10, 0, 0, y11, y12, 0, false⟩ : Z7)) (cond ((IntKind.u64.wrap (V9 .u64 a0 3)) == 2) ((Yi a0 3 29).bind fun y15 => (Yi a0 32 32).bind fun y16 => some (⟨3, y15, 0, 0, 0, 0, y16, ((IntKind.u64.wrap (V9 .u64 (Int.fdiv a0 (2 ^ min (Int.toNat 2) 64)) 1)) == 1)⟩ : Z7)) (some (⟨4, 0, 0, 0, 0, 0, 0, false⟩ : Z7)))))
noncomputable def Qh (a0 : (Option Zg)) (a1 : Int) (a2 : Int) (a3 : Int) : Option ((List Int) × Bool) :=
 (Y7 a0 a1 a2 a3).bind fun y2 => cond (!y2) (some (([] : (List Int)), false)) ((a0).bind fun x7 => (Vb x7.segments a1).bind fun x8 => (Zfa x8 a2 (IntKind.i64.wrap (a2 + a3))).bind fun l9 => (Z8 l9).bind fun y10 => some (y10, true))
noncomputable def Uc (a0 : Int) : Option Int :=
 ((some (⟨[0, 1, 8, 16, 32, 64, 64], rfl⟩ : (Arr Int 7)))).bind fun y6 => ((some (⟨[0, 0, 0, 0, 0, 0, 0], rfl⟩ : (Arr Int 7)))).bind fun y8 => (Vb y6.1 a0).bind fun x12 => some x12
noncomputable def Jp (a0 : Z7) : Option (Int × Bool) :=
 cond (a0.Kind == 1) (some ((IntKind.i64.wrap (a0.Data + a0.Ptrs)), true)) (cond (cond (a0.Kind == 2) (a0.Code == 7) false) (some ((IntKind.i64.wrap (a0.Count + 1)), true)) (cond (cond (cond (cond (cond (a0.Kind == 2) (decide (0 ≤ a0.Code)) false) (decide (a0.Code < 7)) false) (decide (0 ≤ a0.Count)) false) (decide (a0.Count ≤ 536870911)) false) ((Uc a0.Code).bind fun y2 => some ((IntKind.i64.wrap (Int.tdiv (IntKind.i64.wrap ((IntKind.i64.wrap (a0.Count * y2)) + 63)) 64)), true)) (some (0, false))))
structure Yg where
 P : Z7
 Segment : Int
 At : Int
noncomputable def Jl (a0 : (Option Zg)) (a1 : Z7) (a2 : Int) (a3 : Int) : Option (Yg × Int) :=
 cond (a1.Kind == 4) (some ((⟨⟨0, 0, 0, 0, 0, 0, 0, false⟩, 0, 0⟩ : Yg), 9)) ((Jp a1).bind fun y2 => cond (!y2.2) (some ((⟨⟨0, 0, 0, 0, 0, 0, 0, false⟩, 0, 0⟩ : Yg), 8)) ((Y7 a0 a2 a3 y2.1).bind fun y4 => cond (!y4) (some ((⟨⟨0, 0, 0, 0, 0, 0, 0, false⟩, 0, 0⟩ : Yg), 7)) (some ((⟨⟨a1.Kind, 0, a1.Data, a1.Ptrs, a1.Code, a1.Count, a1.Segment, a1.Double⟩, a2, a3⟩ : Yg), 0))))
noncomputable def Vf (a0 : (Option Zg)) (a1 : Int) (a2 : Int) : Option (Yg × Int) :=
 (Qh a0 a1 a2 2).bind fun y2 => cond (!y2.2) (some ((⟨⟨0, 0, 0, 0, 0, 0, 0, false⟩, 0, 0⟩ : Yg), 7)) ((Vb y2.1 0).bind fun x3 => (Xo x3).bind fun y4 => (Vb y2.1 1).bind fun x5 => (Xo x5).bind fun y6 => cond (cond (y4.Kind != 3) true y4.Double) (some ((⟨⟨0, 0, 0, 0, 0, 0, 0, false⟩, 0, 0⟩ : Yg), 8)) (cond (cond (y6.Kind != 4) (y6.Off != 0) false) (some ((⟨⟨0, 0, 0, 0, 0, 0, 0, false⟩, 0, 0⟩ : Yg), 8)) ((Jl a0 y6 y4.Segment y4.Off).bind fun y8 => some (y8.1, y8.2))))
noncomputable def Vg (a0 : (Option Zg)) (a1 : Int) (a2 : Int) : Option (Yg × Int) :=
 (Y6 a0 a1 a2).bind fun y2 => cond (!y2.2) (some ((⟨⟨0, 0, 0, 0, 0, 0, 0, false⟩, 0, 0⟩ : Yg), 7)) ((Xo y2.1).bind fun y4 => (Jl a0 y4 a1 (IntKind.i64.wrap ((IntKind.i64.wrap (a2 + 1)) + y4.Off))).bind fun y6 => some (y6.1, y6.2))
noncomputable def Ve (a0 : (Option Zg)) (a1 : Int) (a2 : Int) : Option (Yg × Int) :=
 (Y6 a0 a1 a2).bind fun y2 => cond (!y2.2) (some ((⟨⟨0, 0, 0, 0, 0, 0, 0, false⟩, 0, 0⟩ : Yg), 7)) ((Xo y2.1).bind fun y4 => cond (y4.Kind == 0) (some ((⟨⟨0, 0, 0, 0, 0, 0, 0, false⟩, 0, 0⟩ : Yg), 0)) (cond (cond (y4.Kind == 3) y4.Double false) ((Vf a0 y4.Segment y4.Off).bind fun y6 => some (y6.1, y6.2)) (cond (y4.Kind == 3) ((Vg a0 y4.Segment y4.Off).bind fun y8 => some (y8.1, y8.2)) ((Jl a0 y4 a1 (IntKind.i64.wrap ((IntKind.i64.wrap (a2 + 1)) + y4.Off))).bind fun y10 => some (y10.1, y10.2)))))
structure Zd where
 a : (Option Zg)
 kind : Int
 segment : Int
 at_ : Int
 words : Int
 ptrs : Int
 count : Int
 code : Int
 index : Int
noncomputable def Jn (a0 : Zd) : Option (Zd × Int) :=
 (Y6 a0.a a0.segment a0.at_).bind fun y2 => (Xo y2.1).bind fun y4 => cond (cond (cond (cond (y4.Kind != 0) (y4.Kind != 1) false) true (decide (y4.Off < 0))) true (decide (a0.count < (IntKind.i64.wrap (y4.Off * (IntKind.i64.wrap (y4.Data + y4.Ptrs))))))) (some ((⟨(none : (Option Zg)), 0, 0, 0, 0, 0, 0, 0, 0⟩ : Zd), 8)) (some ((⟨a0.a, a0.kind, a0.segment, a0.at_, y4.Data, y4.Ptrs, y4.Off, a0.code, a0.index⟩ : Zd), 0))
noncomputable def Jz (a0 : (Option Zg)) (a1 : Int) (a2 : Int) : Option (Zd × Int) :=
 (Ve a0 a1 a2).bind fun y2 => cond (cond (y2.2 != 0) true (y2.1.P.Kind == 0)) (some ((⟨(none : (Option Zg)), 0, 0, 0, 0, 0, 0, 0, 0⟩ : Zd), y2.2)) (cond (y2.1.P.Kind == 1) (some ((⟨a0, 1, y2.1.Segment, y2.1.At, y2.1.P.Data, y2.1.P.Ptrs, 0, 0, 0⟩ : Zd), 0)) (cond (y2.1.P.Code == 7) ((Jn (⟨a0, (IntKind.i64.wrap (y2.1.P.Code + 2)), y2.1.Segment, y2.1.At, 0, 0, y2.1.P.Count, 0, 0⟩ : Zd)).bind fun y4 => some (y4.1, y4.2)) (some ((⟨a0, (IntKind.i64.wrap (y2.1.P.Code + 2)), y2.1.Segment, y2.1.At, 0, 0, y2.1.P.Count, 0, 0⟩ : Zd), 0))))
noncomputable def Km (a0 : (Option Zg)) : Option (Zd × Int) :=
 (Jz a0 0 0).bind fun y2 => some (y2.1, y2.2)
noncomputable def Yj (a0 : Zd) : Option Int :=
 some a0.kind
noncomputable def Z9 (a0 : Zd) : Option Int :=
 cond (a0.kind == 1) (some a0.ptrs) (some a0.count)
noncomputable def Xm (a0 : Zd) (a1 : Int) : Option (Zd × Int) :=
 (cond (decide (a1 < 0)) (some true) ((Z9 a0).bind fun y4 => some (cond (decide (a1 < 0)) true (decide (y4 ≤ a1))))).bind fun (z2 : Bool) => cond z2 (some ((⟨(none : (Option Zg)), 0, 0, 0, 0, 0, 0, 0, 0⟩ : Zd), 0)) (cond (a0.kind == 1) ((Jz a0.a a0.segment (IntKind.i64.wrap ((IntKind.i64.wrap (a0.at_ + a0.words)) + a1))).bind fun y7 => some (y7.1, y7.2)) (cond (a0.kind == 8) ((Jz a0.a a0.segment (IntKind.i64.wrap (a0.at_ + a1))).bind fun y9 => some (y9.1, y9.2)) (cond (a0.kind == 9) (some ((⟨a0.a, 1, a0.segment, (IntKind.i64.wrap ((IntKind.i64.wrap (a0.at_ + 1)) + (IntKind.i64.wrap (a1 * (IntKind.i64.wrap (a0.words + a0.ptrs)))))), a0.words, a0.ptrs, 0, 0, 0⟩ : Zd), 0)) (some ((⟨a0.a, 10, a0.segment, a0.at_, 0, 0, 0, (IntKind.i64.wrap (a0.kind - 2)), a1⟩ : Zd), 0)))))
noncomputable def Qj (a0 : Zd) : Option Int :=
 cond (a0.kind == 1) (some a0.words) (cond (a0.kind == 10) (some 1) (some 0))
structure Zh0 where
 P : Z7
 Segment : Int
 At : Int
structure Za7 where
 Kind : Int
 S : Int
 At : Int
 Data : Int
 Ptrs : Int
 Count : Int
 N : Int
noncomputable def Jm (a0 : Zd) : Option (Int × Int) :=
 cond (a0.kind != 9) (some (0, 0)) (some (a0.words, a0.ptrs))
noncomputable def Qp (a0 : Int) (a1 : Int) : Option Int :=
 some (if a1 < (if a0 < 0 then 0 else a0) then a1 else (if a0 < 0 then 0 else a0))
structure Zv where
 Depth : Int
 Weight : Int
 MaxD : Int
 MaxOut : Int
noncomputable def Q6 (a0 : Zv) : Option Zv :=
 (Qp a0.Depth 64).bind fun y5 => (Qp a0.Weight 65536).bind fun y6 => (Qp a0.MaxD 4096).bind fun y7 => (Qp a0.MaxOut 131072).bind fun y8 => some (⟨y5, y6, y7, y8⟩ : Zv)
noncomputable def J0 (a0 : Zd) : Option Int :=
 (Yj a0).bind fun y2 => cond (y2 == 0) (some 0) (((Yj a0).bind fun y8 => cond (y8 == 9) ((Z9 a0).bind fun y9 => some (cond (y8 == 9) (decide (0 < y9)) false)) (some false)).bind fun (z5 : Bool) => cond z5 (some 2) (some 1))
noncomputable def Q7 (a0 : Zd) : Option Int :=
 (Yj a0).bind fun y2 => cond (y2 == 0) (some 0) (cond (y2 == 1) ((Qj a0).bind fun y5 => (Z9 a0).bind fun y6 => some (IntKind.i64.wrap ((IntKind.i64.wrap (1 + y5)) + y6))) (cond (y2 == 9) ((Jm a0).bind fun y8 => (Z9 a0).bind fun y10 => some (IntKind.i64.wrap (1 + (IntKind.i64.wrap (y10 * (IntKind.i64.wrap ((IntKind.i64.wrap (1 + y8.1)) + y8.2))))))) ((Z9 a0).bind fun y12 => some (IntKind.i64.wrap (1 + y12)))))
structure Zc where
 left : Int
noncomputable def Ys (Zr : (Zc → Zd → Int → Option (Int × Zc))) (Zq : (Zc → Zd → Int → Option (Int × Zc))) (Zt : (Zc → Zd → Int → Option (Int × Zc))) (a0 : Zc) (a1 : Zd) (a2 : Int) : Option (Int × Zc) :=
 ((J0 a1).bind fun y6 => cond (decide (a2 < y6)) (some true) ((Q7 a1).bind fun y7 => some (cond (decide (a2 < y6)) true (decide (a0.left < y7))))).bind fun (z3 : Bool) => cond z3 (some (3, a0)) ((Q7 a1).bind fun y10 => (Yj a1).bind fun y12 => (cond (y12 == 1) (some (y12 == 1)) (some (y12 == 8))).bind fun (z13 : Bool) => cond z13 ((Zq (⟨(IntKind.i64.wrap (a0.left - y10))⟩ : Zc) a1 (IntKind.i64.wrap (a2 - 1))).bind fun y16 => some (y16.1, y16.2)) (cond (y12 == 9) ((Zt (⟨(IntKind.i64.wrap (a0.left - y10))⟩ : Zc) a1 (IntKind.i64.wrap (a2 - 1))).bind fun y18 => some (y18.1, y18.2)) (some (0, (⟨(IntKind.i64.wrap (a0.left - y10))⟩ : Zc)))))
noncomputable def Yx (Zr : (Zc → Zd → Int → Option (Int × Zc))) (a1 : Zd) (a2 : Int) (y2 : Int) (s0_ : (Int × Int)) : Option ((Int × Int) ⊕ ((Int × Int) ⊕ Int)) :=
 cond (decide (s0_.1 < y2)) ((Xm a1 s0_.1).bind fun y4 => cond (y4.2 != 0) (some (.inr (.inl (y4.2, s0_.2)))) ((Zr (⟨s0_.2⟩ : Zc) y4.1 a2).bind fun y6 => cond (y6.1 != 0) (some (.inr (.inl (y6.1, y6.2.left)))) (some (.inl ((IntKind.i64.wrap (s0_.1 + 1)), y6.2.left))))) (some (.inr (.inr s0_.2)))
noncomputable def Yw (Zr : (Zc → Zd → Int → Option (Int × Zc))) (Zq : (Zc → Zd → Int → Option (Int × Zc))) (Zt : (Zc → Zd → Int → Option (Int × Zc))) (a0 : Zc) (a1 : Zd) (a2 : Int) : Option (Int × Zc) :=
 (Z9 a1).bind fun y2 => (Qm (Yx Zr a1 a2 y2) (0, a0.left)).bind fun (z10 : ((Int × Int) ⊕ Int)) => match z10 with | .inl z10 => some (z10.1, (⟨z10.2⟩ : Zc)) | .inr z10 => some (0, (⟨z10⟩ : Zc))
noncomputable def Yl (Zq : (Zc → Zd → Int → Option (Int × Zc))) (a1 : Zd) (a2 : Int) (y2 : Int) (s0_ : (Int × Int)) : Option ((Int × Int) ⊕ ((Int × Int) ⊕ Int)) :=
 cond (decide (s0_.1 < y2)) ((Xm a1 s0_.1).bind fun y4 => cond (y4.2 != 0) (some (.inr (.inl (y4.2, s0_.2)))) ((Zq (⟨s0_.2⟩ : Zc) y4.1 (IntKind.i64.wrap (a2 - 1))).bind fun y6 => cond (y6.1 != 0) (some (.inr (.inl (y6.1, y6.2.left)))) (some (.inl ((IntKind.i64.wrap (s0_.1 + 1)), y6.2.left))))) (some (.inr (.inr s0_.2)))
noncomputable def Yk (Zr : (Zc → Zd → Int → Option (Int × Zc))) (Zq : (Zc → Zd → Int → Option (Int × Zc))) (Zt : (Zc → Zd → Int → Option (Int × Zc))) (a0 : Zc) (a1 : Zd) (a2 : Int) : Option (Int × Zc) :=
 (Z9 a1).bind fun y2 => (Qm (Yl Zq a1 a2 y2) (0, a0.left)).bind fun (z10 : ((Int × Int) ⊕ Int)) => match z10 with | .inl z10 => some (z10.1, (⟨z10.2⟩ : Zc)) | .inr z10 => some (0, (⟨z10⟩ : Zc))
noncomputable def Zh : Nat → ((Zc → Zd → Int → Option (Int × Zc)) × (Zc → Zd → Int → Option (Int × Zc)) × (Zc → Zd → Int → Option (Int × Zc)))
 | 0 => ((fun _ _ _ => none), (fun _ _ _ => none), (fun _ _ _ => none))
 | k + 1 => (Ys ((Zh k).1) ((Zh k).2.1) ((Zh k).2.2), Yw ((Zh k).1) ((Zh k).2.1) ((Zh k).2.2), Yk ((Zh k).1) ((Zh k).2.1) ((Zh k).2.2))
noncomputable def Jt (a0 : Zc) (a1 : Zd) (a2 : Int) : Option (Int × Zc) := lim fun k => (Zh k).1 a0 a1 a2
noncomputable def Xp (a0 : (Option Zg)) (a1 : Zv) : Option (Int × Int) :=
 (Q6 a1).bind fun y2 => (Km a0).bind fun y4 => cond (y4.2 != 0) (some (0, y4.2)) ((Jt (⟨y2.Weight⟩ : Zc) y4.1 y2.Depth).bind fun y6 => cond (y6.1 != 0) (some (0, y6.1)) (some ((IntKind.i64.wrap (y2.Weight - y6.2.left)), 0)))
noncomputable def Xl  : Option Bool :=
 (Qi ([([4294967296, 7] : List Int)] : List (List Int))).bind fun y2 => (Xp y2 (⟨1, 2, 0, 0⟩ : Zv)).bind fun y4 => (Xp y2 (⟨1, 1, 0, 0⟩ : Zv)).bind fun y6 => some (cond (cond (y4.1 == 2) (y4.2 == 0) false) (y6.2 == 3) false)
noncomputable def X0 (a0 : Zv) (a1 : Int) : Option Bool :=
 (Qi ([([281479271677948, 0] : List Int)] : List (List Int))).bind fun y3 => (Xp y3 a0).bind fun y4 => (Qi ([([281474976710656, 281479271677944] : List Int)] : List (List Int))).bind fun y7 => (Xp y7 a0).bind fun y8 => (Qi ([([(IntKind.u64.wrap (1 + (IntKind.u64.wrap ((IntKind.u64.wrap (IntKind.i64.wrap ((IntKind.i64.wrap (Int.tmod a1 536870911)) + 1))) * 2 ^ min (Int.toNat 35) 64))))] : List Int)] : List (List Int))).bind fun y11 => (Xp y11 a0).bind fun y12 => ((Q6 a0).bind fun y18 => cond (decide (y18.Depth < 1)) (some true) ((Q6 a0).bind fun y19 => some (cond (decide (y18.Depth < 1)) true (decide (y19.Weight < (IntKind.i64.wrap ((IntKind.i64.wrap ((IntKind.i64.wrap (Int.tmod a1 536870911)) + 1)) + 1))))))).bind fun (z15 : Bool) => (cond (y4.2 == 3) (cond (y8.2 == 3) (cond ((y12.2 == 3) == z15) (cond z15 ((Xl).bind fun y26 => some (cond (cond (cond (cond (y4.2 == 3) (y8.2 == 3) false) ((y12.2 == 3) == z15) false) (cond z15 true (y12.2 == 0)) false) y26 false)) (cond (y12.2 == 0) ((Xl).bind fun y27 => some (cond (cond (cond (cond (y4.2 == 3) (y8.2 == 3) false) ((y12.2 == 3) == z15) false) (cond z15 true (y12.2 == 0)) false) y27 false)) (some false))) (some false)) (some false)) (some false)).bind fun (z23 : Bool) => some z23
structure Yt where
 Kind : Int
 Words : (List Int)
 Kids : (List Yt)
end Go.Proofs.Ytmlhokaflhlhbaa
