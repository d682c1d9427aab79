/- Part VD of this seat's mirrors: functions of the seat's program, and the plain functions that they are; each theorem bears its own conditions. -/
import Derived.Test.YtmlhokaflhlhbaaH25
namespace Go.Proofs.Ytmlhokaflhlhbaa
open Go.RowKit
set_option linter.unusedVariables false
set_option linter.unusedSimpArgs false
set_option maxRecDepth 100000
set_option maxHeartbeats 4000000
noncomputable def Z8 (a0 : List Int) : Option (List Int) :=
 Zl4 8 ([] : List Int) a0
noncomputable def X8 (a0 : (List (List Int))) (s0_ : (Int × (List (List Int)))) : Option ((Int × (List (List Int))) ⊕ (List (List Int))) :=
 cond (decide (s0_.1 < (a0.length : Int))) ((K7 a0 s0_.1).bind fun x4 => (Z8 x4).bind fun y5 => (K7 s0_.2 s0_.1).bind fun x6 => some (.inl ((IntKind.i64.wrap (s0_.1 + 1)), (Zj7 s0_.2 s0_.1 y5)))) (some (.inr s0_.2))
noncomputable def Kg (a0 : (List (List Int))) : Option (List (List Int)) :=
 (Zgc 24 (a0.length : Int) ([] : (List Int))).bind fun l2 => (Qk (X8 a0) (0, l2)).bind fun (z9 : (List (List Int))) => some z9
structure Zg where
 segments : (List (List Int))
 size : Int
 left : Int
noncomputable def Ku (a0 : (List (List Int))) : Option (Option Zg) :=
 (Kg a0).bind fun y2 => some (some (⟨y2, 0, 0⟩ : Zg))
noncomputable def Jq (a0 : (Option Zg)) : Option Int :=
 cond (Option.isNone a0) (some 0) ((a0).bind fun x4 => some (x4.segments.length : Int))
noncomputable def Xb (a0 : (Option Zg)) (a1 : Int) : Option Bool :=
 (cond (decide (0 ≤ a1)) ((Jq a0).bind fun y4 => some (cond (decide (0 ≤ a1)) (decide (a1 < y4)) false)) (some false)).bind fun (z2 : Bool) => some z2
noncomputable def Xl (a0 : (Option Zg)) (a1 : Int) : Option Int :=
 (Xb a0 a1).bind fun y2 => cond (!y2) (some 0) ((a0).bind fun x5 => (K7 x5.segments a1).bind fun x6 => some (x6.length : Int))
noncomputable def Y5 (a0 : (Option Zg)) (a1 : Int) (a2 : Int) (a3 : Int) : Option Bool :=
 ((Xb a0 a1).bind fun y8 => cond y8 (cond (decide (0 ≤ a2)) (cond (decide (0 ≤ a3)) ((Xl a0 a1).bind fun y9 => cond (decide (a3 ≤ y9)) ((Xl a0 a1).bind fun y10 => some (cond (cond (cond (cond y8 (decide (0 ≤ a2)) false) (decide (0 ≤ a3)) false) (decide (a3 ≤ y9)) false) (decide (a2 ≤ (IntKind.i64.wrap (y10 - a3)))) false)) (some false)) (some false)) (some false)) (some false)).bind fun (z4 : Bool) => some z4
noncomputable def Y4 (a0 : (Option Zg)) (a1 : Int) (a2 : Int) : Option (Int × Bool) :=
 (Y5 a0 a1 a2 1).bind fun y2 => cond (!y2) (some (0, false)) ((a0).bind fun x6 => (K7 x6.segments a1).bind fun x7 => (K7 x7 a2).bind fun x8 => some (x8, true))
noncomputable def Vd (a0 : Int) : Option Int :=
 some (IntKind.i64.wrap (Int.fdiv (IntKind.i32.wrap (IntKind.u32.wrap a0)) (2 ^ min (Int.toNat 2) 32)))
noncomputable def Yj (a0 : Int) (a1 : Int) (a2 : Int) : Option Int :=
 (Zig (0 ≤ a1)).bind fun u3 => (Zig (0 ≤ a2)).bind fun u4 => some (IntKind.i64.wrap (IntKind.u64.wrap (V6 .u64 (Int.fdiv a0 (2 ^ min (Int.toNat a1) 64)) (IntKind.u64.wrap ((IntKind.u64.wrap (1 * 2 ^ min (Int.toNat a2) 64)) - 1)))))
structure Z7 where
 Kind : Int
 Off : Int
 Data : Int
 Ptrs : Int
 Code : Int
 Count : Int
 Segment : Int
 Double : Bool
noncomputable def Xo (a0 : Int) : Option Z7 :=
 cond (a0 == 0) (some (⟨0, 0, 0, 0, 0, 0, 0, false⟩ : Z7)) (cond ((IntKind.u64.wrap (V6 .u64 a0 3)) == 0) ((Vd a0).bind fun y4 => (Yj a0 32 16).bind fun y5 => (Yj a0 48 16).bind fun y6 => some (⟨1, y4, y5, y6, 0, 0, 0, false⟩ : Z7)) (cond ((IntKind.u64.wrap (V6 .u64 a0 3)) == 1) ((Vd a0).bind fun y10 => (Yj a0 32 3).bind fun y11 => (Yj a0 35 29).bind fun y12 => some (⟨2, y10, 0, 0, y11, y12, 0, false⟩ : Z7)) (cond ((IntKind.u64.wrap (V6 .u64 a0 3)) == 2) ((Yj a0 3 29).bind fun y15 => (Yj a0 32 32).bind fun y16 => some (⟨3, y15, 0, 0, 0, 0, y16, ((IntKind.u64.wrap (V6 .u64 (Int.fdiv a0 (2 ^ min (Int.toNat 2) 64)) 1)) == 1)⟩ : Z7)) (some (⟨4, 0, 0, 0, 0, 0, 0, false⟩ : Z7)))))
noncomputable def Qf (a0 : (Option Zg)) (a1 : Int) (a2 : Int) (a3 : Int) : Option ((List Int) × Bool) :=
 (Y5 a0 a1 a2 a3).bind fun y2 => cond (!y2) (some (([] : (List Int)), false)) ((a0).bind fun x7 => (K7 x7.segments a1).bind fun x8 => (Zfa x8 a2 (IntKind.i64.wrap (a2 + a3))).bind fun l9 => (Z8 l9).bind fun y10 => some (y10, true))
noncomputable def V9 (a0 : Int) : Option Int :=
 ((some (⟨[0, 1, 8, 16, 32, 64, 64], rfl⟩ : (Arr Int 7)))).bind fun y6 => ((some (⟨[0, 0, 0, 0, 0, 0, 0], rfl⟩ : (Arr Int 7)))).bind fun y8 => (K7 y6.1 a0).bind fun x12 => some x12
noncomputable def Jk (a0 : Z7) : Option (Int × Bool) :=
 cond (a0.Kind == 1) (some ((IntKind.i64.wrap (a0.Data + a0.Ptrs)), true)) (cond (cond (a0.Kind == 2) (a0.Code == 7) false) (some ((IntKind.i64.wrap (a0.Count + 1)), true)) (cond (cond (cond (cond (cond (a0.Kind == 2) (decide (0 ≤ a0.Code)) false) (decide (a0.Code < 7)) false) (decide (0 ≤ a0.Count)) false) (decide (a0.Count ≤ 536870911)) false) ((V9 a0.Code).bind fun y2 => some ((IntKind.i64.wrap (Int.tdiv (IntKind.i64.wrap ((IntKind.i64.wrap (a0.Count * y2)) + 63)) 64)), true)) (some (0, false))))
structure Yg where
 P : Z7
 Segment : Int
 At : Int
noncomputable def Jg (a0 : (Option Zg)) (a1 : Z7) (a2 : Int) (a3 : Int) : Option (Yg × Int) :=
 cond (a1.Kind == 4) (some ((⟨⟨0, 0, 0, 0, 0, 0, 0, false⟩, 0, 0⟩ : Yg), 9)) ((Jk a1).bind fun y2 => cond (!y2.2) (some ((⟨⟨0, 0, 0, 0, 0, 0, 0, false⟩, 0, 0⟩ : Yg), 8)) ((Y5 a0 a2 a3 y2.1).bind fun y4 => cond (!y4) (some ((⟨⟨0, 0, 0, 0, 0, 0, 0, false⟩, 0, 0⟩ : Yg), 7)) (some ((⟨⟨a1.Kind, 0, a1.Data, a1.Ptrs, a1.Code, a1.Count, a1.Segment, a1.Double⟩, a2, a3⟩ : Yg), 0))))
noncomputable def Vb (a0 : (Option Zg)) (a1 : Int) (a2 : Int) : Option (Yg × Int) :=
 (Qf a0 a1 a2 2).bind fun y2 => cond (!y2.2) (some ((⟨⟨0, 0, 0, 0, 0, 0, 0, false⟩, 0, 0⟩ : Yg), 7)) ((K7 y2.1 0).bind fun x3 => (Xo x3).bind fun y4 => (K7 y2.1 1).bind fun x5 => (Xo x5).bind fun y6 => cond (cond (y4.Kind != 3) true y4.Double) (some ((⟨⟨0, 0, 0, 0, 0, 0, 0, false⟩, 0, 0⟩ : Yg), 8)) (cond (cond (y6.Kind != 4) (y6.Off != 0) false) (some ((⟨⟨0, 0, 0, 0, 0, 0, 0, false⟩, 0, 0⟩ : Yg), 8)) ((Jg a0 y6 y4.Segment y4.Off).bind fun y8 => some (y8.1, y8.2))))
noncomputable def Vc (a0 : (Option Zg)) (a1 : Int) (a2 : Int) : Option (Yg × Int) :=
 (Y4 a0 a1 a2).bind fun y2 => cond (!y2.2) (some ((⟨⟨0, 0, 0, 0, 0, 0, 0, false⟩, 0, 0⟩ : Yg), 7)) ((Xo y2.1).bind fun y4 => (Jg a0 y4 a1 (IntKind.i64.wrap ((IntKind.i64.wrap (a2 + 1)) + y4.Off))).bind fun y6 => some (y6.1, y6.2))
noncomputable def Va (a0 : (Option Zg)) (a1 : Int) (a2 : Int) : Option (Yg × Int) :=
 (Y4 a0 a1 a2).bind fun y2 => cond (!y2.2) (some ((⟨⟨0, 0, 0, 0, 0, 0, 0, false⟩, 0, 0⟩ : Yg), 7)) ((Xo y2.1).bind fun y4 => cond (y4.Kind == 0) (some ((⟨⟨0, 0, 0, 0, 0, 0, 0, false⟩, 0, 0⟩ : Yg), 0)) (cond (cond (y4.Kind == 3) y4.Double false) ((Vb a0 y4.Segment y4.Off).bind fun y6 => some (y6.1, y6.2)) (cond (y4.Kind == 3) ((Vc a0 y4.Segment y4.Off).bind fun y8 => some (y8.1, y8.2)) ((Jg a0 y4 a1 (IntKind.i64.wrap ((IntKind.i64.wrap (a2 + 1)) + y4.Off))).bind fun y10 => some (y10.1, y10.2)))))
structure Zc where
 a : (Option Zg)
 kind : Int
 segment : Int
 at_ : Int
 words : Int
 ptrs : Int
 count : Int
 code : Int
 index : Int
noncomputable def Ji (a0 : Zc) : Option (Zc × Int) :=
 (Y4 a0.a a0.segment a0.at_).bind fun y2 => (Xo y2.1).bind fun y4 => cond (cond (cond (cond (y4.Kind != 0) (y4.Kind != 1) false) true (decide (y4.Off < 0))) true (decide (a0.count < (IntKind.i64.wrap (y4.Off * (IntKind.i64.wrap (y4.Data + y4.Ptrs))))))) (some ((⟨(none : (Option Zg)), 0, 0, 0, 0, 0, 0, 0, 0⟩ : Zc), 8)) (some ((⟨a0.a, a0.kind, a0.segment, a0.at_, y4.Data, y4.Ptrs, y4.Off, a0.code, a0.index⟩ : Zc), 0))
noncomputable def Js (a0 : (Option Zg)) (a1 : Int) (a2 : Int) : Option (Zc × Int) :=
 (Va a0 a1 a2).bind fun y2 => cond (cond (y2.2 != 0) true (y2.1.P.Kind == 0)) (some ((⟨(none : (Option Zg)), 0, 0, 0, 0, 0, 0, 0, 0⟩ : Zc), y2.2)) (cond (y2.1.P.Kind == 1) (some ((⟨a0, 1, y2.1.Segment, y2.1.At, y2.1.P.Data, y2.1.P.Ptrs, 0, 0, 0⟩ : Zc), 0)) (cond (y2.1.P.Code == 7) ((Ji (⟨a0, (IntKind.i64.wrap (y2.1.P.Code + 2)), y2.1.Segment, y2.1.At, 0, 0, y2.1.P.Count, 0, 0⟩ : Zc)).bind fun y4 => some (y4.1, y4.2)) (some ((⟨a0, (IntKind.i64.wrap (y2.1.P.Code + 2)), y2.1.Segment, y2.1.At, 0, 0, y2.1.P.Count, 0, 0⟩ : Zc), 0))))
noncomputable def Kh (a0 : (Option Zg)) : Option (Zc × Int) :=
 (Js a0 0 0).bind fun y2 => some (y2.1, y2.2)
noncomputable def Yk (a0 : Zc) : Option Int :=
 some a0.kind
noncomputable def Z9 (a0 : Zc) : Option Int :=
 cond (a0.kind == 1) (some a0.ptrs) (some a0.count)
noncomputable def Xn (a0 : Zc) (a1 : Int) : Option (Zc × Int) :=
 (cond (decide (a1 < 0)) (some true) ((Z9 a0).bind fun y4 => some (cond (decide (a1 < 0)) true (decide (y4 ≤ a1))))).bind fun (z2 : Bool) => cond z2 (some ((⟨(none : (Option Zg)), 0, 0, 0, 0, 0, 0, 0, 0⟩ : Zc), 0)) (cond (a0.kind == 1) ((Js a0.a a0.segment (IntKind.i64.wrap ((IntKind.i64.wrap (a0.at_ + a0.words)) + a1))).bind fun y7 => some (y7.1, y7.2)) (cond (a0.kind == 8) ((Js a0.a a0.segment (IntKind.i64.wrap (a0.at_ + a1))).bind fun y9 => some (y9.1, y9.2)) (cond (a0.kind == 9) (some ((⟨a0.a, 1, a0.segment, (IntKind.i64.wrap ((IntKind.i64.wrap (a0.at_ + 1)) + (IntKind.i64.wrap (a1 * (IntKind.i64.wrap (a0.words + a0.ptrs)))))), a0.words, a0.ptrs, 0, 0, 0⟩ : Zc), 0)) (some ((⟨a0.a, 10, a0.segment, a0.at_, 0, 0, 0, (IntKind.i64.wrap (a0.kind - 2)), a1⟩ : Zc), 0)))))
noncomputable def Qh (a0 : Zc) : Option Int :=
 cond (a0.kind == 1) (some a0.words) (cond (a0.kind == 10) (some 1) (some 0))
structure Zh7 where
 P : Z7
 Segment : Int
 At : Int
structure Za6 where
 Kind : Int
 S : Int
 At : Int
 Data : Int
 Ptrs : Int
 Count : Int
 N : Int
noncomputable def Jh (a0 : Zc) : Option (Int × Int) :=
 cond (a0.kind != 9) (some (0, 0)) (some (a0.words, a0.ptrs))
noncomputable def Qn (a0 : Int) (a1 : Int) : Option Int :=
 some (if a1 < (if a0 < 0 then 0 else a0) then a1 else (if a0 < 0 then 0 else a0))
structure Zp where
 Depth : Int
 Weight : Int
 MaxD : Int
 MaxOut : Int
noncomputable def Jt (a0 : Zp) : Option Zp :=
 (Qn a0.Depth 64).bind fun y5 => (Qn a0.Weight 65536).bind fun y6 => (Qn a0.MaxD 4096).bind fun y7 => (Qn a0.MaxOut 131072).bind fun y8 => some (⟨y5, y6, y7, y8⟩ : Zp)
noncomputable def Ju (a0 : Zc) : Option Int :=
 (Yk a0).bind fun y2 => cond (y2 == 0) (some 0) (((Yk a0).bind fun y8 => cond (y8 == 9) ((Z9 a0).bind fun y9 => some (cond (y8 == 9) (decide (0 < y9)) false)) (some false)).bind fun (z5 : Bool) => cond z5 (some 2) (some 1))
noncomputable def Q4 (a0 : Zc) : Option Int :=
 (Yk a0).bind fun y2 => cond (y2 == 0) (some 0) (cond (y2 == 1) ((Qh a0).bind fun y5 => (Z9 a0).bind fun y6 => some (IntKind.i64.wrap ((IntKind.i64.wrap (1 + y5)) + y6))) (cond (y2 == 9) ((Jh a0).bind fun y8 => (Z9 a0).bind fun y10 => some (IntKind.i64.wrap (1 + (IntKind.i64.wrap (y10 * (IntKind.i64.wrap ((IntKind.i64.wrap (1 + y8.1)) + y8.2))))))) ((Z9 a0).bind fun y12 => some (IntKind.i64.wrap (1 + y12)))))
structure Zd where
 left : Int
noncomputable def Yt (Zs : (Zd → Zc → Int → Option (Int × Zd))) (Zr : (Zd → Zc → Int → Option (Int × Zd))) (Zu : (Zd → Zc → Int → Option (Int × Zd))) (a0 : Zd) (a1 : Zc) (a2 : Int) : Option (Int × Zd) :=
 ((Ju a1).bind fun y6 => cond (decide (a2 < y6)) (some true) ((Q4 a1).bind fun y7 => some (cond (decide (a2 < y6)) true (decide (a0.left < y7))))).bind fun (z3 : Bool) => cond z3 (some (3, a0)) ((Q4 a1).bind fun y10 => (Yk a1).bind fun y12 => (cond (y12 == 1) (some (y12 == 1)) (some (y12 == 8))).bind fun (z13 : Bool) => cond z13 ((Zr (⟨(IntKind.i64.wrap (a0.left - y10))⟩ : Zd) a1 (IntKind.i64.wrap (a2 - 1))).bind fun y16 => some (y16.1, y16.2)) (cond (y12 == 9) ((Zu (⟨(IntKind.i64.wrap (a0.left - y10))⟩ : Zd) a1 (IntKind.i64.wrap (a2 - 1))).bind fun y18 => some (y18.1, y18.2)) (some (0, (⟨(IntKind.i64.wrap (a0.left - y10))⟩ : Zd)))))
noncomputable def Yy (Zs : (Zd → Zc → Int → Option (Int × Zd))) (a1 : Zc) (a2 : Int) (y2 : Int) (s0_ : (Int × Int)) : Option ((Int × Int) ⊕ ((Int × Int) ⊕ Int)) :=
 cond (decide (s0_.1 < y2)) ((Xn a1 s0_.1).bind fun y4 => cond (y4.2 != 0) (some (.inr (.inl (y4.2, s0_.2)))) ((Zs (⟨s0_.2⟩ : Zd) y4.1 a2).bind fun y6 => cond (y6.1 != 0) (some (.inr (.inl (y6.1, y6.2.left)))) (some (.inl ((IntKind.i64.wrap (s0_.1 + 1)), y6.2.left))))) (some (.inr (.inr s0_.2)))
noncomputable def Yx (Zs : (Zd → Zc → Int → Option (Int × Zd))) (Zr : (Zd → Zc → Int → Option (Int × Zd))) (Zu : (Zd → Zc → Int → Option (Int × Zd))) (a0 : Zd) (a1 : Zc) (a2 : Int) : Option (Int × Zd) :=
 (Z9 a1).bind fun y2 => (Qk (Yy Zs a1 a2 y2) (0, a0.left)).bind fun (z10 : ((Int × Int) ⊕ Int)) => match z10 with | .inl z10 => some (z10.1, (⟨z10.2⟩ : Zd)) | .inr z10 => some (0, (⟨z10⟩ : Zd))
noncomputable def Ym (Zr : (Zd → Zc → Int → Option (Int × Zd))) (a1 : Zc) (a2 : Int) (y2 : Int) (s0_ : (Int × Int)) : Option ((Int × Int) ⊕ ((Int × Int) ⊕ Int)) :=
 cond (decide (s0_.1 < y2)) ((Xn a1 s0_.1).bind fun y4 => cond (y4.2 != 0) (some (.inr (.inl (y4.2, s0_.2)))) ((Zr (⟨s0_.2⟩ : Zd) y4.1 (IntKind.i64.wrap (a2 - 1))).bind fun y6 => cond (y6.1 != 0) (some (.inr (.inl (y6.1, y6.2.left)))) (some (.inl ((IntKind.i64.wrap (s0_.1 + 1)), y6.2.left))))) (some (.inr (.inr s0_.2)))
noncomputable def Yl (Zs : (Zd → Zc → Int → Option (Int × Zd))) (Zr : (Zd → Zc → Int → Option (Int × Zd))) (Zu : (Zd → Zc → Int → Option (Int × Zd))) (a0 : Zd) (a1 : Zc) (a2 : Int) : Option (Int × Zd) :=
 (Z9 a1).bind fun y2 => (Qk (Ym Zr a1 a2 y2) (0, a0.left)).bind fun (z10 : ((Int × Int) ⊕ Int)) => match z10 with | .inl z10 => some (z10.1, (⟨z10.2⟩ : Zd)) | .inr z10 => some (0, (⟨z10⟩ : Zd))
noncomputable def Zh : Nat → ((Zd → Zc → Int → Option (Int × Zd)) × (Zd → Zc → Int → Option (Int × Zd)) × (Zd → Zc → Int → Option (Int × Zd)))
 | 0 => ((fun _ _ _ => none), (fun _ _ _ => none), (fun _ _ _ => none))
 | k + 1 => (Yt ((Zh k).1) ((Zh k).2.1) ((Zh k).2.2), Yx ((Zh k).1) ((Zh k).2.1) ((Zh k).2.2), Yl ((Zh k).1) ((Zh k).2.1) ((Zh k).2.2))
noncomputable def Jn (a0 : Zd) (a1 : Zc) (a2 : Int) : Option (Int × Zd) := lim fun k => (Zh k).1 a0 a1 a2
noncomputable def X6 (a0 : (Option Zg)) (a1 : Zp) : Option (Int × Int) :=
 (Jt a1).bind fun y2 => (Kh a0).bind fun y4 => cond (y4.2 != 0) (some (0, y4.2)) ((Jn (⟨y2.Weight⟩ : Zd) y4.1 y2.Depth).bind fun y6 => cond (y6.1 != 0) (some (0, y6.1)) (some ((IntKind.i64.wrap (y2.Weight - y6.2.left)), 0)))
noncomputable def Xm  : Option Bool :=
 (Ku ([([4294967296, 7] : List Int)] : List (List Int))).bind fun y2 => (X6 y2 (⟨1, 2, 0, 0⟩ : Zp)).bind fun y4 => (X6 y2 (⟨1, 1, 0, 0⟩ : Zp)).bind fun y6 => some (cond (cond (y4.1 == 2) (y4.2 == 0) false) (y6.2 == 3) false)
noncomputable def Qg (a0 : Zp) : Option Zp :=
 (cond (decide (3000 < a0.Weight)) (some 3000) (some a0.Weight)).bind fun (z1 : Int) => some (⟨a0.Depth, z1, a0.MaxD, a0.MaxOut⟩ : Zp)
noncomputable def X5 (a0 : (List (List Int))) (a1 : Zp) (a2 : Int) (a3 : Int) : Option Bool :=
 (Qg a1).bind fun y2 => (Ku a0).bind fun y5 => (X6 y5 y2).bind fun y6 => (Jt y2).bind fun y8 => (Ku a0).bind fun y11 => (X6 y11 (⟨(IntKind.i64.wrap (y8.Depth + (IntKind.i64.wrap a2))), (IntKind.i64.wrap (y8.Weight + (IntKind.i64.wrap a3))), y8.MaxD, y8.MaxOut⟩ : Zp)).bind fun y12 => (cond (y6.2 != 0) ((Xm).bind fun y18 => some (cond (cond (y6.2 != 0) true (cond (y12.2 == 0) (y6.1 == y12.1) false)) y18 false)) (cond (y12.2 == 0) (cond (y6.1 == y12.1) ((Xm).bind fun y19 => some (cond (cond (y6.2 != 0) true (cond (y12.2 == 0) (y6.1 == y12.1) false)) y19 false)) (some false)) (some false))).bind fun (z15 : Bool) => some z15
structure Yu where
 Kind : Int
 Words : (List Int)
 Kids : (List Yu)
end Go.Proofs.Ytmlhokaflhlhbaa
