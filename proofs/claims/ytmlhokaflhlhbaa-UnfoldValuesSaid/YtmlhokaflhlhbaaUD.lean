/- Part UD of this seat's mirrors: functions of the seat's program, and the plain functions that they are; each theorem bears its own conditions. -/
import Derived.Test.YtmlhokaflhlhbaaH25
namespace Go.Proofs.Ytmlhokaflhlhbaa
open Go.RowKit
set_option linter.unusedVariables false
set_option linter.unusedSimpArgs false
set_option maxRecDepth 100000
set_option maxHeartbeats 4000000
structure Z0 where
 Depth : Int
 Weight : Int
 MaxD : Int
 MaxOut : Int
noncomputable def Jw (a0 : Z0) : Option Z0 :=
 (cond (decide (3000 < a0.Weight)) (some 3000) (some a0.Weight)).bind fun (z1 : Int) => some (⟨a0.Depth, z1, a0.MaxD, a0.MaxOut⟩ : Z0)
noncomputable def Yy (a0 : List Int) : Option (List Int) :=
 Zhb 8 ([] : List Int) a0
noncomputable def Jr (a0 : (List (List Int))) (s0_ : (Int × (List (List Int)))) : Option ((Int × (List (List Int))) ⊕ (List (List Int))) :=
 cond (decide (s0_.1 < (a0.length : Int))) ((Qo a0 s0_.1).bind fun x4 => (Yy x4).bind fun y5 => (Qo s0_.2 s0_.1).bind fun x6 => some (.inl ((IntKind.i64.wrap (s0_.1 + 1)), (Zh3 s0_.2 s0_.1 y5)))) (some (.inr s0_.2))
noncomputable def U6 (a0 : (List (List Int))) : Option (List (List Int)) :=
 (Zfi 24 (a0.length : Int) ([] : (List Int))).bind fun l2 => (Ye (Jr a0) (0, l2)).bind fun (z9 : (List (List Int))) => some z9
structure Zm where
 segments : (List (List Int))
 size : Int
 left : Int
noncomputable def Ge (a0 : (List (List Int))) : Option (Option Zm) :=
 (U6 a0).bind fun y2 => some (some (⟨y2, 0, 0⟩ : Zm))
noncomputable def Kg (a0 : Int) (a1 : Int) : Option Int :=
 some (if a1 < (if a0 < 0 then 0 else a0) then a1 else (if a0 < 0 then 0 else a0))
noncomputable def Zac (a0 : Z0) : Option Z0 :=
 (Kg a0.Depth 64).bind fun y5 => (Kg a0.Weight 65536).bind fun y6 => (Kg a0.MaxD 4096).bind fun y7 => (Kg a0.MaxOut 131072).bind fun y8 => some (⟨y5, y6, y7, y8⟩ : Z0)
noncomputable def Uc (a0 : (Option Zm)) : Option Int :=
 cond (Option.isNone a0) (some 0) ((a0).bind fun x4 => some (x4.segments.length : Int))
noncomputable def Qi (a0 : (Option Zm)) (a1 : Int) : Option Bool :=
 (cond (decide (0 ≤ a1)) ((Uc a0).bind fun y4 => some (cond (decide (0 ≤ a1)) (decide (a1 < y4)) false)) (some false)).bind fun (z2 : Bool) => some z2
noncomputable def Qr (a0 : (Option Zm)) (a1 : Int) : Option Int :=
 (Qi a0 a1).bind fun y2 => cond (!y2) (some 0) ((a0).bind fun x5 => (Qo x5.segments a1).bind fun x6 => some (x6.length : Int))
noncomputable def Qd (a0 : (Option Zm)) (a1 : Int) (a2 : Int) (a3 : Int) : Option Bool :=
 ((Qi a0 a1).bind fun y8 => cond y8 (cond (decide (0 ≤ a2)) (cond (decide (0 ≤ a3)) ((Qr a0 a1).bind fun y9 => cond (decide (a3 ≤ y9)) ((Qr a0 a1).bind fun y10 => some (cond (cond (cond (cond y8 (decide (0 ≤ a2)) false) (decide (0 ≤ a3)) false) (decide (a3 ≤ y9)) false) (decide (a2 ≤ (IntKind.i64.wrap (y10 - a3)))) false)) (some false)) (some false)) (some false)) (some false)).bind fun (z4 : Bool) => some z4
noncomputable def Xg (a0 : (Option Zm)) (a1 : Int) (a2 : Int) : Option (Int × Bool) :=
 (Qd a0 a1 a2 1).bind fun y2 => cond (!y2) (some (0, false)) ((a0).bind fun x6 => (Qo x6.segments a1).bind fun x7 => (Qo x7 a2).bind fun x8 => some (x8, true))
noncomputable def Zab (a0 : Int) : Option Int :=
 some (IntKind.i64.wrap (Int.fdiv (IntKind.i32.wrap (IntKind.u32.wrap a0)) (2 ^ min (Int.toNat 2) 32)))
noncomputable def Xe (a0 : Int) (a1 : Int) (a2 : Int) : Option Int :=
 (Qc (0 ≤ a1)).bind fun u3 => (Qc (0 ≤ a2)).bind fun u4 => some (IntKind.i64.wrap (IntKind.u64.wrap (U0 .u64 (Int.fdiv a0 (2 ^ min (Int.toNat a1) 64)) (IntKind.u64.wrap ((IntKind.u64.wrap (1 * 2 ^ min (Int.toNat a2) 64)) - 1)))))
structure Z9 where
 Kind : Int
 Off : Int
 Data : Int
 Ptrs : Int
 Code : Int
 Count : Int
 Segment : Int
 Double : Bool
noncomputable def Qv (a0 : Int) : Option Z9 :=
 cond (a0 == 0) (some (⟨0, 0, 0, 0, 0, 0, 0, false⟩ : Z9)) (cond ((IntKind.u64.wrap (U0 .u64 a0 3)) == 0) ((Zab a0).bind fun y4 => (Xe a0 32 16).bind fun y5 => (Xe a0 48 16).bind fun y6 => some (⟨1, y4, y5, y6, 0, 0, 0, false⟩ : Z9)) (cond ((IntKind.u64.wrap (U0 .u64 a0 3)) == 1) ((Zab a0).bind fun y10 => (Xe a0 32 3).bind fun y11 => (Xe a0 35 29).bind fun y12 => some (⟨2, y10, 0, 0, y11, y12, 0, false⟩ : Z9)) (cond ((IntKind.u64.wrap (U0 .u64 a0 3)) == 2) ((Xe a0 3 29).bind fun y15 => (Xe a0 32 32).bind fun y16 => some (⟨3, y15, 0, 0, 0, 0, y16, ((IntKind.u64.wrap (U0 .u64 (Int.fdiv a0 (2 ^ min (Int.toNat 2) 64)) 1)) == 1)⟩ : Z9)) (some (⟨4, 0, 0, 0, 0, 0, 0, false⟩ : Z9)))))
noncomputable def Jv (a0 : (Option Zm)) (a1 : Int) (a2 : Int) (a3 : Int) : Option ((List Int) × Bool) :=
 (Qd a0 a1 a2 a3).bind fun y2 => cond (!y2) (some (([] : (List Int)), false)) ((a0).bind fun x7 => (Qo x7.segments a1).bind fun x8 => (Zcm x8 a2 (IntKind.i64.wrap (a2 + a3))).bind fun l9 => (Yy l9).bind fun y10 => some (y10, true))
noncomputable def Zba (a0 : Int) : Option Int :=
 ((some (⟨[0, 1, 8, 16, 32, 64, 64], rfl⟩ : (Arr Int 7)))).bind fun y6 => ((some (⟨[0, 0, 0, 0, 0, 0, 0], rfl⟩ : (Arr Int 7)))).bind fun y8 => (Qo y6.1 a0).bind fun x12 => some x12
noncomputable def V2 (a0 : Z9) : Option (Int × Bool) :=
 cond (a0.Kind == 1) (some ((IntKind.i64.wrap (a0.Data + a0.Ptrs)), true)) (cond (cond (a0.Kind == 2) (a0.Code == 7) false) (some ((IntKind.i64.wrap (a0.Count + 1)), true)) (cond (cond (cond (cond (cond (a0.Kind == 2) (decide (0 ≤ a0.Code)) false) (decide (a0.Code < 7)) false) (decide (0 ≤ a0.Count)) false) (decide (a0.Count ≤ 536870911)) false) ((Zba a0.Code).bind fun y2 => some ((IntKind.i64.wrap (Int.tdiv (IntKind.i64.wrap ((IntKind.i64.wrap (a0.Count * y2)) + 63)) 64)), true)) (some (0, false))))
structure Y3 where
 P : Z9
 Segment : Int
 At : Int
noncomputable def Vw (a0 : (Option Zm)) (a1 : Z9) (a2 : Int) (a3 : Int) : Option (Y3 × Int) :=
 cond (a1.Kind == 4) (some ((⟨⟨0, 0, 0, 0, 0, 0, 0, false⟩, 0, 0⟩ : Y3), 9)) ((V2 a1).bind fun y2 => cond (!y2.2) (some ((⟨⟨0, 0, 0, 0, 0, 0, 0, false⟩, 0, 0⟩ : Y3), 8)) ((Qd a0 a2 a3 y2.1).bind fun y4 => cond (!y4) (some ((⟨⟨0, 0, 0, 0, 0, 0, 0, false⟩, 0, 0⟩ : Y3), 7)) (some ((⟨⟨a1.Kind, 0, a1.Data, a1.Ptrs, a1.Code, a1.Count, a1.Segment, a1.Double⟩, a2, a3⟩ : Y3), 0))))
noncomputable def G0 (a0 : (Option Zm)) (a1 : Int) (a2 : Int) : Option (Y3 × Int) :=
 (Jv a0 a1 a2 2).bind fun y2 => cond (!y2.2) (some ((⟨⟨0, 0, 0, 0, 0, 0, 0, false⟩, 0, 0⟩ : Y3), 7)) ((Qo y2.1 0).bind fun x3 => (Qv x3).bind fun y4 => (Qo y2.1 1).bind fun x5 => (Qv x5).bind fun y6 => cond (cond (y4.Kind != 3) true y4.Double) (some ((⟨⟨0, 0, 0, 0, 0, 0, 0, false⟩, 0, 0⟩ : Y3), 8)) (cond (cond (y6.Kind != 4) (y6.Off != 0) false) (some ((⟨⟨0, 0, 0, 0, 0, 0, 0, false⟩, 0, 0⟩ : Y3), 8)) ((Vw a0 y6 y4.Segment y4.Off).bind fun y8 => some (y8.1, y8.2))))
noncomputable def Zaa (a0 : (Option Zm)) (a1 : Int) (a2 : Int) : Option (Y3 × Int) :=
 (Xg a0 a1 a2).bind fun y2 => cond (!y2.2) (some ((⟨⟨0, 0, 0, 0, 0, 0, 0, false⟩, 0, 0⟩ : Y3), 7)) ((Qv y2.1).bind fun y4 => (Vw a0 y4 a1 (IntKind.i64.wrap ((IntKind.i64.wrap (a2 + 1)) + y4.Off))).bind fun y6 => some (y6.1, y6.2))
noncomputable def Gz (a0 : (Option Zm)) (a1 : Int) (a2 : Int) : Option (Y3 × Int) :=
 (Xg a0 a1 a2).bind fun y2 => cond (!y2.2) (some ((⟨⟨0, 0, 0, 0, 0, 0, 0, false⟩, 0, 0⟩ : Y3), 7)) ((Qv y2.1).bind fun y4 => cond (y4.Kind == 0) (some ((⟨⟨0, 0, 0, 0, 0, 0, 0, false⟩, 0, 0⟩ : Y3), 0)) (cond (cond (y4.Kind == 3) y4.Double false) ((G0 a0 y4.Segment y4.Off).bind fun y6 => some (y6.1, y6.2)) (cond (y4.Kind == 3) ((Zaa a0 y4.Segment y4.Off).bind fun y8 => some (y8.1, y8.2)) ((Vw a0 y4 a1 (IntKind.i64.wrap ((IntKind.i64.wrap (a2 + 1)) + y4.Off))).bind fun y10 => some (y10.1, y10.2)))))
structure Zd where
 a : (Option Zm)
 kind : Int
 segment : Int
 at_ : Int
 words : Int
 ptrs : Int
 count : Int
 code : Int
 index : Int
noncomputable def Vy (a0 : Zd) : Option (Zd × Int) :=
 (Xg a0.a a0.segment a0.at_).bind fun y2 => (Qv y2.1).bind fun y4 => cond (cond (cond (cond (y4.Kind != 0) (y4.Kind != 1) false) true (decide (y4.Off < 0))) true (decide (a0.count < (IntKind.i64.wrap (y4.Off * (IntKind.i64.wrap (y4.Data + y4.Ptrs))))))) (some ((⟨(none : (Option Zm)), 0, 0, 0, 0, 0, 0, 0, 0⟩ : Zd), 8)) (some ((⟨a0.a, a0.kind, a0.segment, a0.at_, y4.Data, y4.Ptrs, y4.Off, a0.code, a0.index⟩ : Zd), 0))
noncomputable def Um (a0 : (Option Zm)) (a1 : Int) (a2 : Int) : Option (Zd × Int) :=
 (Gz a0 a1 a2).bind fun y2 => cond (cond (y2.2 != 0) true (y2.1.P.Kind == 0)) (some ((⟨(none : (Option Zm)), 0, 0, 0, 0, 0, 0, 0, 0⟩ : Zd), y2.2)) (cond (y2.1.P.Kind == 1) (some ((⟨a0, 1, y2.1.Segment, y2.1.At, y2.1.P.Data, y2.1.P.Ptrs, 0, 0, 0⟩ : Zd), 0)) (cond (y2.1.P.Code == 7) ((Vy (⟨a0, (IntKind.i64.wrap (y2.1.P.Code + 2)), y2.1.Segment, y2.1.At, 0, 0, y2.1.P.Count, 0, 0⟩ : Zd)).bind fun y4 => some (y4.1, y4.2)) (some ((⟨a0, (IntKind.i64.wrap (y2.1.P.Code + 2)), y2.1.Segment, y2.1.At, 0, 0, y2.1.P.Count, 0, 0⟩ : Zd), 0))))
noncomputable def Ky (a0 : (Option Zm)) : Option (Zd × Int) :=
 (Um a0 0 0).bind fun y2 => some (y2.1, y2.2)
noncomputable def Yk (a0 : Zd) : Option Int :=
 some a0.kind
noncomputable def Yq (a0 : Zd) : Option Int :=
 cond (a0.kind == 1) (some a0.ptrs) (some a0.count)
noncomputable def Uo (a0 : Zd) : Option Int :=
 (Yk a0).bind fun y2 => cond (y2 == 0) (some 0) (((Yk a0).bind fun y8 => cond (y8 == 9) ((Yq a0).bind fun y9 => some (cond (y8 == 9) (decide (0 < y9)) false)) (some false)).bind fun (z5 : Bool) => cond z5 (some 2) (some 1))
noncomputable def Xo (a0 : Zd) : Option Int :=
 cond (a0.kind == 1) (some a0.words) (cond (a0.kind == 10) (some 1) (some 0))
noncomputable def Vx (a0 : Zd) : Option (Int × Int) :=
 cond (a0.kind != 9) (some (0, 0)) (some (a0.words, a0.ptrs))
noncomputable def Vl (a0 : Zd) : Option Int :=
 (Yk a0).bind fun y2 => cond (y2 == 0) (some 0) (cond (y2 == 1) ((Xo a0).bind fun y5 => (Yq a0).bind fun y6 => some (IntKind.i64.wrap ((IntKind.i64.wrap (1 + y5)) + y6))) (cond (y2 == 9) ((Vx a0).bind fun y8 => (Yq a0).bind fun y10 => some (IntKind.i64.wrap (1 + (IntKind.i64.wrap (y10 * (IntKind.i64.wrap ((IntKind.i64.wrap (1 + y8.1)) + y8.2))))))) ((Yq a0).bind fun y12 => some (IntKind.i64.wrap (1 + y12)))))
noncomputable def X6 (a0 : Zd) (a1 : Int) : Option (Zd × Int) :=
 (cond (decide (a1 < 0)) (some true) ((Yq a0).bind fun y4 => some (cond (decide (a1 < 0)) true (decide (y4 ≤ a1))))).bind fun (z2 : Bool) => cond z2 (some ((⟨(none : (Option Zm)), 0, 0, 0, 0, 0, 0, 0, 0⟩ : Zd), 0)) (cond (a0.kind == 1) ((Um a0.a a0.segment (IntKind.i64.wrap ((IntKind.i64.wrap (a0.at_ + a0.words)) + a1))).bind fun y7 => some (y7.1, y7.2)) (cond (a0.kind == 8) ((Um a0.a a0.segment (IntKind.i64.wrap (a0.at_ + a1))).bind fun y9 => some (y9.1, y9.2)) (cond (a0.kind == 9) (some ((⟨a0.a, 1, a0.segment, (IntKind.i64.wrap ((IntKind.i64.wrap (a0.at_ + 1)) + (IntKind.i64.wrap (a1 * (IntKind.i64.wrap (a0.words + a0.ptrs)))))), a0.words, a0.ptrs, 0, 0, 0⟩ : Zd), 0)) (some ((⟨a0.a, 10, a0.segment, a0.at_, 0, 0, 0, (IntKind.i64.wrap (a0.kind - 2)), a1⟩ : Zd), 0)))))
structure Ze where
 left : Int
noncomputable def Xs (Yd : (Ze → Zd → Int → Option (Int × Ze))) (Yc : (Ze → Zd → Int → Option (Int × Ze))) (Yg : (Ze → Zd → Int → Option (Int × Ze))) (a0 : Ze) (a1 : Zd) (a2 : Int) : Option (Int × Ze) :=
 ((Uo a1).bind fun y6 => cond (decide (a2 < y6)) (some true) ((Vl a1).bind fun y7 => some (cond (decide (a2 < y6)) true (decide (a0.left < y7))))).bind fun (z3 : Bool) => cond z3 (some (3, a0)) ((Vl a1).bind fun y10 => (Yk a1).bind fun y12 => (cond (y12 == 1) (some (y12 == 1)) (some (y12 == 8))).bind fun (z13 : Bool) => cond z13 ((Yc (⟨(IntKind.i64.wrap (a0.left - y10))⟩ : Ze) a1 (IntKind.i64.wrap (a2 - 1))).bind fun y16 => some (y16.1, y16.2)) (cond (y12 == 9) ((Yg (⟨(IntKind.i64.wrap (a0.left - y10))⟩ : Ze) a1 (IntKind.i64.wrap (a2 - 1))).bind fun y18 => some (y18.1, y18.2)) (some (0, (⟨(IntKind.i64.wrap (a0.left - y10))⟩ : Ze)))))
noncomputable def X2 (Yd : (Ze → Zd → Int → Option (Int × Ze))) (a1 : Zd) (a2 : Int) (y2 : Int) (s0_ : (Int × Int)) : Option ((Int × Int) ⊕ ((Int × Int) ⊕ Int)) :=
 cond (decide (s0_.1 < y2)) ((X6 a1 s0_.1).bind fun y4 => cond (y4.2 != 0) (some (.inr (.inl (y4.2, s0_.2)))) ((Yd (⟨s0_.2⟩ : Ze) y4.1 a2).bind fun y6 => cond (y6.1 != 0) (some (.inr (.inl (y6.1, y6.2.left)))) (some (.inl ((IntKind.i64.wrap (s0_.1 + 1)), y6.2.left))))) (some (.inr (.inr s0_.2)))
noncomputable def X1 (Yd : (Ze → Zd → Int → Option (Int × Ze))) (Yc : (Ze → Zd → Int → Option (Int × Ze))) (Yg : (Ze → Zd → Int → Option (Int × Ze))) (a0 : Ze) (a1 : Zd) (a2 : Int) : Option (Int × Ze) :=
 (Yq a1).bind fun y2 => (Ye (X2 Yd a1 a2 y2) (0, a0.left)).bind fun (z10 : ((Int × Int) ⊕ Int)) => match z10 with | .inl z10 => some (z10.1, (⟨z10.2⟩ : Ze)) | .inr z10 => some (0, (⟨z10⟩ : Ze))
noncomputable def Xl (Yc : (Ze → Zd → Int → Option (Int × Ze))) (a1 : Zd) (a2 : Int) (y2 : Int) (s0_ : (Int × Int)) : Option ((Int × Int) ⊕ ((Int × Int) ⊕ Int)) :=
 cond (decide (s0_.1 < y2)) ((X6 a1 s0_.1).bind fun y4 => cond (y4.2 != 0) (some (.inr (.inl (y4.2, s0_.2)))) ((Yc (⟨s0_.2⟩ : Ze) y4.1 (IntKind.i64.wrap (a2 - 1))).bind fun y6 => cond (y6.1 != 0) (some (.inr (.inl (y6.1, y6.2.left)))) (some (.inl ((IntKind.i64.wrap (s0_.1 + 1)), y6.2.left))))) (some (.inr (.inr s0_.2)))
noncomputable def Xj (Yd : (Ze → Zd → Int → Option (Int × Ze))) (Yc : (Ze → Zd → Int → Option (Int × Ze))) (Yg : (Ze → Zd → Int → Option (Int × Ze))) (a0 : Ze) (a1 : Zd) (a2 : Int) : Option (Int × Ze) :=
 (Yq a1).bind fun y2 => (Ye (Xl Yc a1 a2 y2) (0, a0.left)).bind fun (z10 : ((Int × Int) ⊕ Int)) => match z10 with | .inl z10 => some (z10.1, (⟨z10.2⟩ : Ze)) | .inr z10 => some (0, (⟨z10⟩ : Ze))
noncomputable def Zq : Nat → ((Ze → Zd → Int → Option (Int × Ze)) × (Ze → Zd → Int → Option (Int × Ze)) × (Ze → Zd → Int → Option (Int × Ze)))
 | 0 => ((fun _ _ _ => none), (fun _ _ _ => none), (fun _ _ _ => none))
 | k + 1 => (Xs ((Zq k).1) ((Zq k).2.1) ((Zq k).2.2), X1 ((Zq k).1) ((Zq k).2.1) ((Zq k).2.2), Xj ((Zq k).1) ((Zq k).2.1) ((Zq k).2.2))
noncomputable def Ua (a0 : Ze) (a1 : Zd) (a2 : Int) : Option (Int × Ze) := lim fun k => (Zq k).1 a0 a1 a2
noncomputable def U7 (a0 : (Option Zm)) (a1 : Z0) : Option (Int × Int) :=
 (Zac a1).bind fun y2 => (Ky a0).bind fun y4 => cond (y4.2 != 0) (some (0, y4.2)) ((Ua (⟨y2.Weight⟩ : Ze) y4.1 y2.Depth).bind fun y6 => cond (y6.1 != 0) (some (0, y6.1)) (some ((IntKind.i64.wrap (y2.Weight - y6.2.left)), 0)))
noncomputable def V4 (a0 : Zd) : Option Int :=
 (Yk a0).bind fun y2 => cond (y2 == 0) (some 0) (cond (y2 == 1) ((Xo a0).bind fun y5 => (Yq a0).bind fun y6 => some (IntKind.i64.wrap ((IntKind.i64.wrap (1 + y5)) + y6))) (cond (y2 == 8) ((Yq a0).bind fun y8 => some (IntKind.i64.wrap (1 + y8))) (some 1)))
noncomputable def Zc0 (a0 : Int) : Option Bool :=
 some (cond (decide (2 ≤ a0)) (decide (a0 ≤ 9)) false)
noncomputable def Un (a0 : Zd) : Option Bool :=
 ((Yk a0).bind fun y8 => cond (y8 == 1) (some true) ((Yk a0).bind fun y9 => (Zc0 y9).bind fun y10 => some (cond (y8 == 1) true y10))).bind fun (z4 : Bool) => some z4
noncomputable def Us (a0 : Int) : Option (Int × Bool) :=
 ((some (⟨[0, 1, 8, 16, 32, 64], rfl⟩ : (Arr Int 6)))).bind fun y6 => ((some (⟨[0, 0, 0, 0, 0, 0], rfl⟩ : (Arr Int 6)))).bind fun y8 => cond (cond (decide (a0 < 0)) true (decide (6 ≤ a0))) (some (0, false)) ((Qo y6.1 a0).bind fun x12 => some (x12, true))
noncomputable def Zb4 (a0 : (List Int)) (a1 : Int) (a2 : Int) : Option Int :=
 (Us a1).bind fun y2 => cond (cond (y2.1 == 0) true (decide (a2 < 0))) (some 0) ((Qc (y2.1 ≠ 0)).bind fun u4 => (Qc ((IntKind.i64.wrap (Int.tdiv 64 y2.1)) ≠ 0)).bind fun u6 => cond (decide ((a0.length : Int) ≤ (IntKind.i64.wrap (Int.tdiv a2 (IntKind.i64.wrap (Int.tdiv 64 y2.1)))))) (some 0) ((Qc ((IntKind.i64.wrap (Int.tdiv 64 y2.1)) ≠ 0)).bind fun u12 => (Qo a0 (IntKind.i64.wrap (Int.tdiv a2 (IntKind.i64.wrap (Int.tdiv 64 y2.1))))).bind fun x13 => (Qc ((IntKind.i64.wrap (Int.tdiv 64 y2.1)) ≠ 0)).bind fun u14 => (Qc (0 ≤ (IntKind.i64.wrap ((Int.tmod a2 (IntKind.i64.wrap (Int.tdiv 64 y2.1))) * y2.1)))).bind fun u15 => (Qc (0 ≤ y2.1)).bind fun u16 => some (IntKind.u64.wrap (U0 .u64 (Int.fdiv x13 (2 ^ min (Int.toNat (IntKind.i64.wrap ((Int.tmod a2 (IntKind.i64.wrap (Int.tdiv 64 y2.1))) * y2.1))) 64)) (IntKind.u64.wrap ((IntKind.u64.wrap (1 * 2 ^ min (Int.toNat y2.1) 64)) - 1))))))
noncomputable def Jl (a0 : Zd) : Option Int :=
 (Us a0.code).bind fun y2 => cond (y2.1 == 0) (some 0) ((Qc (y2.1 ≠ 0)).bind fun u4 => (Qc ((IntKind.i64.wrap (Int.tdiv 64 y2.1)) ≠ 0)).bind fun u7 => (Xg a0.a a0.segment (IntKind.i64.wrap (a0.at_ + (IntKind.i64.wrap (Int.tdiv a0.index (IntKind.i64.wrap (Int.tdiv 64 y2.1))))))).bind fun y8 => (Qc ((IntKind.i64.wrap (Int.tdiv 64 y2.1)) ≠ 0)).bind fun u11 => (Zb4 ([y8.1] : List Int) a0.code (Int.tmod a0.index (IntKind.i64.wrap (Int.tdiv 64 y2.1)))).bind fun y12 => some y12)
noncomputable def Km (a0 : Zd) (a1 : Int) : Option Int :=
 (cond (decide (a1 < 0)) (some true) ((Xo a0).bind fun y4 => some (cond (decide (a1 < 0)) true (decide (y4 ≤ a1))))).bind fun (z2 : Bool) => cond z2 (some 0) (cond (a0.kind == 10) ((Jl a0).bind fun y7 => some y7) ((Xg a0.a a0.segment (IntKind.i64.wrap (a0.at_ + a1))).bind fun y9 => some y9.1))
structure Zt where
 left : Int
structure S_api_Tree where
 Kind : Int
 Words : (List Int)
 Kids : (List S_api_Tree)
noncomputable def Yt (a1 : Zd) (y12 : Int) (s0_ : (Int × (List Int))) : Option ((Int × (List Int)) ⊕ (List Int)) :=
 cond (decide (s0_.1 < y12)) ((Km a1 s0_.1).bind fun y13 => (Zhb 8 s0_.2 ([y13] : List Int)).bind fun l14 => some (.inl ((IntKind.i64.wrap (s0_.1 + 1)), l14))) (some (.inr s0_.2))
noncomputable def Yr (Xk : (Zt → Zd → Int → Option (S_api_Tree × Int × Zt))) (a1 : Zd) (a2 : Int) (y18 : Int) (s1_ : (Int × (List S_api_Tree) × Int)) : Option ((Int × (List S_api_Tree) × Int) ⊕ ((Int × Int) ⊕ ((List S_api_Tree) × Int))) :=
 cond (decide (s1_.1 < y18)) ((X6 a1 s1_.1).bind fun y20 => cond (y20.2 != 0) (some (.inr (.inl (y20.2, s1_.2.2)))) ((Xk (⟨s1_.2.2⟩ : Zt) y20.1 (IntKind.i64.wrap (a2 - 1))).bind fun y22 => cond (y22.2.1 != 0) (some (.inr (.inl (y22.2.1, y22.2.2.left)))) ((Zhb 56 s1_.2.1 ([y22.1] : List S_api_Tree)).bind fun l23 => some (.inl ((IntKind.i64.wrap (s1_.1 + 1)), l23, y22.2.2.left))))) (some (.inr (.inr (s1_.2.1, s1_.2.2))))
noncomputable def Yw (Xk : (Zt → Zd → Int → Option (S_api_Tree × Int × Zt))) (a0 : Zt) (a1 : Zd) (a2 : Int) : Option (S_api_Tree × Int × Zt) :=
 (V4 a1).bind fun y2 => (cond (decide ((IntKind.i64.wrap (a0.left - y2)) < 0)) (some true) (cond (a2 == 0) ((Un a1).bind fun y6 => some (cond (decide ((IntKind.i64.wrap (a0.left - y2)) < 0)) true (cond (a2 == 0) y6 false))) (some (cond (decide ((IntKind.i64.wrap (a0.left - y2)) < 0)) true false)))).bind fun (z4 : Bool) => cond z4 (some ((⟨0, [], []⟩ : S_api_Tree), 3, (⟨(IntKind.i64.wrap (a0.left - y2))⟩ : Zt))) ((Yk a1).bind fun y10 => (Xo a1).bind fun y12 => (Ye (Yt a1 y12) (0, ([] : List Int))).bind fun (z16 : (List Int)) => (Yq a1).bind fun y18 => (Ye (Yr Xk a1 a2 y18) (0, ([] : List S_api_Tree), (IntKind.i64.wrap (a0.left - y2)))).bind fun (z27 : ((Int × Int) ⊕ ((List S_api_Tree) × Int))) => match z27 with | .inl z27 => some ((⟨0, [], []⟩ : S_api_Tree), z27.1, (⟨z27.2⟩ : Zt)) | .inr z27 => some ((⟨y10, z16, z27.1⟩ : S_api_Tree), 0, (⟨z27.2⟩ : Zt)))
noncomputable def Ya : Nat → (Zt → Zd → Int → Option (S_api_Tree × Int × Zt))
 | 0 => (fun _ _ _ => none)
 | k + 1 => Yw ((Ya k))
noncomputable def Vk (a0 : Zt) (a1 : Zd) (a2 : Int) : Option (S_api_Tree × Int × Zt) := lim fun k => (Ya k) a0 a1 a2
noncomputable def Vj (a0 : Zd) : Option (S_api_Tree × Int) :=
 (Vk (⟨65536⟩ : Zt) a0 64).bind fun y2 => some (y2.1, y2.2.1)
noncomputable def Jm (a0 : (List Int)) (s0_ : Int) : Option (Int ⊕ Int) :=
 (cond (decide (0 < s0_)) ((Qo a0 (IntKind.i64.wrap (s0_ - 1))).bind fun x4 => some (cond (decide (0 < s0_)) (x4 == 0) false)) (some false)).bind fun (z2 : Bool) => cond z2 (some (.inl (IntKind.i64.wrap (s0_ - 1)))) (some (.inr s0_))
noncomputable def Vh (a0 : (List Int)) : Option (List Int) :=
 (Ye (Jm a0) (a0.length : Int)).bind fun (z7 : Int) => (Zcm a0 0 z7).bind fun l9 => some l9
noncomputable def Jz (a0 : (List S_api_Tree)) (s0_ : Int) : Option (Int ⊕ Int) :=
 (cond (decide (0 < s0_)) ((Qo a0 (IntKind.i64.wrap (s0_ - 1))).bind fun x6 => some (cond (decide (0 < s0_)) (x6.Kind == 0) false)) (some false)).bind fun (z3 : Bool) => cond z3 (some (.inl (IntKind.i64.wrap (s0_ - 1)))) (some (.inr s0_))
noncomputable def V3 (a0 : (List S_api_Tree)) : Option (List S_api_Tree) :=
 (Ye (Jz a0) (a0.length : Int)).bind fun (z10 : Int) => (Zcm a0 0 z10).bind fun l12 => some l12
noncomputable def Ve (Gj : (S_api_Tree → Option S_api_Tree)) (z1 : ((List Int) × (List S_api_Tree))) (s0_ : (Int × (List S_api_Tree))) : Option ((Int × (List S_api_Tree)) ⊕ (List S_api_Tree)) :=
 cond (decide (s0_.1 < (z1.2.length : Int))) ((Qo z1.2 s0_.1).bind fun x9 => (Gj x9).bind fun y10 => (Qo s0_.2 s0_.1).bind fun x11 => some (.inl ((IntKind.i64.wrap (s0_.1 + 1)), (Zh3 s0_.2 s0_.1 y10)))) (some (.inr s0_.2))
noncomputable def Za6 (Gj : (S_api_Tree → Option S_api_Tree)) (a0 : S_api_Tree) : Option S_api_Tree :=
 cond (a0.Kind == 0) (some (⟨0, [], []⟩ : S_api_Tree)) ((cond (a0.Kind == 1) ((Vh a0.Words).bind fun y2 => (V3 a0.Kids).bind fun y3 => some (y2, y3)) (some (a0.Words, a0.Kids))).bind fun (z1 : ((List Int) × (List S_api_Tree))) => (cond (decide (0 < (z1.2.length : Int))) ((Zfi 56 (z1.2.length : Int) (⟨(0 : Int), [], []⟩ : S_api_Tree)).bind fun l6 => some l6) (some ([] : List S_api_Tree))).bind fun (z5 : (List S_api_Tree)) => (Ye (Ve Gj z1) (0, z5)).bind fun (z14 : (List S_api_Tree)) => some (⟨a0.Kind, z1.1, z14⟩ : S_api_Tree))
noncomputable def Jn : Nat → (S_api_Tree → Option S_api_Tree)
 | 0 => (fun _ => none)
 | k + 1 => Za6 ((Jn k))
noncomputable def Zf2 (a0 : S_api_Tree) : Option S_api_Tree := lim fun k => (Jn k) a0
noncomputable def Vi (a0 : (Option Zm)) (a1 : Z0) : Option (S_api_Tree × Int) :=
 (U7 a0 a1).bind fun y2 => cond (y2.2 != 0) (some ((⟨0, [], []⟩ : S_api_Tree), y2.2)) ((Ky a0).bind fun y4 => cond (y4.2 != 0) (some ((⟨0, [], []⟩ : S_api_Tree), y4.2)) ((Vj y4.1).bind fun y6 => (Zf2 y6.1).bind fun y8 => some (y8, y6.2)))
noncomputable def Xd (a0 : Int) (a1 : Int) : Option Int :=
 cond (decide (a0 < 0)) (some 0) (cond (decide (a1 < a0)) (some a1) (some a0))
noncomputable def Jk (a0 : Z0) : Option Z0 :=
 (Xd a0.Depth 64).bind fun y5 => (Xd a0.Weight 65536).bind fun y6 => (Xd a0.MaxD 4096).bind fun y7 => (Xd a0.MaxOut 131072).bind fun y8 => some (⟨y5, y6, y7, y8⟩ : Z0)
noncomputable def X4 (a0 : (List (List Int))) (a1 : Int) (a2 : Int) : Option Bool :=
 (cond (decide (0 ≤ a1)) (cond (decide (a1 < (a0.length : Int))) (cond (decide (0 ≤ a2)) ((Qo a0 a1).bind fun x4 => some (cond (cond (cond (decide (0 ≤ a1)) (decide (a1 < (a0.length : Int))) false) (decide (0 ≤ a2)) false) (decide (a2 < (x4.length : Int))) false)) (some false)) (some false)) (some false)).bind fun (z2 : Bool) => some z2
noncomputable def J6 (a1 : Int) (s0_ : (Int × Int)) : Option ((Int × Int) ⊕ Int) :=
 cond (decide (s0_.2 < a1)) (some (.inl ((IntKind.u64.wrap (Int.tdiv s0_.1 2)), (IntKind.i64.wrap (s0_.2 + 1))))) (some (.inr s0_.1))
noncomputable def J7 (a2 : Int) (s1_ : (Int × Int × Int × Int)) : Option ((Int × Int × Int × Int) ⊕ Int) :=
 cond (decide (s1_.2.2.2 < a2)) ((cond ((Int.tmod s1_.1 2) == 1) (some (IntKind.i64.wrap (s1_.2.1 + s1_.2.2.1))) (some s1_.2.1)).bind fun (z3 : Int) => some (.inl ((IntKind.u64.wrap (Int.tdiv s1_.1 2)), z3, (IntKind.i64.wrap (2 * s1_.2.2.1)), (IntKind.i64.wrap (s1_.2.2.2 + 1))))) (some (.inr s1_.2.1))
noncomputable def Z6 (a0 : Int) (a1 : Int) (a2 : Int) : Option Int :=
 (Ye (J6 a1) (a0, 0)).bind fun (z2 : Int) => (Ye (J7 a2) (z2, 0, 1, 0)).bind fun (z6 : Int) => some z6
noncomputable def Yx (a0 : Int) : Option Z9 :=
 cond (a0 == 0) (some (⟨0, 0, 0, 0, 0, 0, 0, false⟩ : Z9)) ((Z6 a0 2 30).bind fun y2 => (cond (decide (536870912 ≤ y2)) (some (IntKind.i64.wrap (y2 - 1073741824))) (some y2)).bind fun (z3 : Int) => (Z6 a0 0 2).bind fun y6 => cond (y6 == 0) ((Z6 a0 32 16).bind fun y9 => (Z6 a0 48 16).bind fun y10 => some (⟨1, z3, y9, y10, 0, 0, 0, false⟩ : Z9)) (cond (y6 == 1) ((Z6 a0 32 3).bind fun y13 => (Z6 a0 35 29).bind fun y14 => some (⟨2, z3, 0, 0, y13, y14, 0, false⟩ : Z9)) (cond (y6 == 2) ((Z6 a0 3 29).bind fun y18 => (Z6 a0 32 32).bind fun y19 => (Z6 a0 2 1).bind fun y20 => some (⟨3, y18, 0, 0, 0, 0, y19, (y20 == 1)⟩ : Z9)) (some (⟨4, 0, 0, 0, 0, 0, 0, false⟩ : Z9)))))
noncomputable def Xw (a0 : Z9) : Option Int :=
 cond (a0.Kind == 4) (some 9) (cond (cond (a0.Kind != 1) (a0.Kind != 2) false) (some 8) (some 0))
noncomputable def Jy (a0 : Z9) : Option Int :=
 cond (a0.Kind == 1) (some (IntKind.i64.wrap (a0.Data + a0.Ptrs))) (cond (a0.Kind != 2) (some (-1)) (cond (a0.Code == 7) (some (IntKind.i64.wrap (a0.Count + 1))) (cond (cond (cond (cond (decide (a0.Code < 0)) true (decide (6 < a0.Code))) true (decide (a0.Count < 0))) true (decide (536870912 ≤ a0.Count))) (some (-1)) ((cond (a0.Code == 0) (some (.inr ())) (cond (a0.Code == 1) (some (.inl 64)) (cond (a0.Code == 2) (some (.inl 8)) (cond (a0.Code == 3) (some (.inl 4)) (cond (a0.Code == 4) (some (.inl 2)) (some (.inl 1))))))).bind fun (z1 : (Int ⊕ Unit)) => match z1 with | .inl z1 => (Qc (z1 ≠ 0)).bind fun u8 => cond (decide (0 < (Int.tmod a0.Count z1))) ((Qc (z1 ≠ 0)).bind fun u10 => some (IntKind.i64.wrap ((IntKind.i64.wrap (Int.tdiv a0.Count z1)) + 1))) ((Qc (z1 ≠ 0)).bind fun u12 => some (IntKind.i64.wrap (Int.tdiv a0.Count z1))) | .inr z1 => some 0))))
structure Z7 where
 P : Z9
 Segment : Int
 At : Int
noncomputable def Xx (a0 : (List (List Int))) (a1 : Z7) : Option (Z7 × Int) :=
 (Jy a1.P).bind fun y2 => (cond (decide (a1.Segment < 0)) (some true) (cond (decide ((a0.length : Int) ≤ a1.Segment)) (some true) (cond (decide (a1.At < 0)) (some true) ((Qo a0 a1.Segment).bind fun x8 => cond (decide ((x8.length : Int) < a1.At)) (some true) (some (cond (cond (cond (cond (decide (a1.Segment < 0)) true (decide ((a0.length : Int) ≤ a1.Segment))) true (decide (a1.At < 0))) true (decide ((x8.length : Int) < a1.At))) true (decide ((IntKind.i64.wrap ((x8.length : Int) - a1.At)) < y2)))))))).bind fun (z5 : Bool) => cond z5 (some ((⟨⟨0, 0, 0, 0, 0, 0, 0, false⟩, 0, 0⟩ : Z7), 7)) (some ((⟨⟨a1.P.Kind, 0, a1.P.Data, a1.P.Ptrs, a1.P.Code, a1.P.Count, a1.P.Segment, a1.P.Double⟩, a1.Segment, a1.At⟩ : Z7), 0))
noncomputable def Ql (a0 : (List (List Int))) (a1 : Int) (a2 : Int) : Option (Z7 × Int) :=
 (X4 a0 a1 a2).bind fun y2 => cond (!y2) (some ((⟨⟨0, 0, 0, 0, 0, 0, 0, false⟩, 0, 0⟩ : Z7), 7)) ((Qo a0 a1).bind fun x6 => (Qo x6 a2).bind fun x7 => (Yx x7).bind fun y8 => cond (y8.Kind == 0) (some ((⟨⟨0, 0, 0, 0, 0, 0, 0, false⟩, 0, 0⟩ : Z7), 0)) (cond (cond (y8.Kind == 3) y8.Double false) (((X4 a0 y8.Segment y8.Off).bind fun y14 => cond y14 ((X4 a0 y8.Segment (IntKind.i64.wrap (y8.Off + 1))).bind fun y15 => some (cond (!y14) true (!y15))) (some true)).bind fun (z11 : Bool) => cond z11 (some ((⟨⟨0, 0, 0, 0, 0, 0, 0, false⟩, 0, 0⟩ : Z7), 7)) ((Qo a0 y8.Segment).bind fun x17 => (Qo x17 y8.Off).bind fun x18 => (Yx x18).bind fun y19 => (Qo x17 (IntKind.i64.wrap (y8.Off + 1))).bind fun x21 => (Yx x21).bind fun y22 => cond (cond (y19.Kind != 3) true y19.Double) (some ((⟨⟨0, 0, 0, 0, 0, 0, 0, false⟩, 0, 0⟩ : Z7), 8)) ((Xw y22).bind fun y24 => (cond (cond (y24 == 0) (y22.Off != 0) false) (some 8) (some y24)).bind fun (z25 : Int) => cond (z25 != 0) (some ((⟨⟨0, 0, 0, 0, 0, 0, 0, false⟩, 0, 0⟩ : Z7), z25)) ((Xx a0 (⟨y22, y19.Segment, y19.Off⟩ : Z7)).bind fun y28 => some (y28.1, y28.2))))) ((cond (y8.Kind == 3) ((X4 a0 y8.Segment y8.Off).bind fun y34 => cond (!y34) (some (.inr ())) ((Qo a0 y8.Segment).bind fun x35 => (Qo x35 y8.Off).bind fun x36 => (Yx x36).bind fun y37 => some (.inl (y8.Segment, y8.Off, y37.Kind, y37.Off, y37.Data, y37.Ptrs, y37.Code, y37.Count, y37.Segment, y37.Double)))) (some (.inl (a1, a2, y8.Kind, y8.Off, y8.Data, y8.Ptrs, y8.Code, y8.Count, y8.Segment, y8.Double)))).bind fun (z32 : ((Int × Int × Int × Int × Int × Int × Int × Int × Int × Bool) ⊕ Unit)) => match z32 with | .inl z32 => (Xw (⟨z32.2.2.1, z32.2.2.2.1, z32.2.2.2.2.1, z32.2.2.2.2.2.1, z32.2.2.2.2.2.2.1, z32.2.2.2.2.2.2.2.1, z32.2.2.2.2.2.2.2.2.1, z32.2.2.2.2.2.2.2.2.2⟩ : Z9)).bind fun y41 => cond (y41 != 0) (some ((⟨⟨0, 0, 0, 0, 0, 0, 0, false⟩, 0, 0⟩ : Z7), y41)) ((Xx a0 (⟨⟨z32.2.2.1, z32.2.2.2.1, z32.2.2.2.2.1, z32.2.2.2.2.2.1, z32.2.2.2.2.2.2.1, z32.2.2.2.2.2.2.2.1, z32.2.2.2.2.2.2.2.2.1, z32.2.2.2.2.2.2.2.2.2⟩, z32.1, (IntKind.i64.wrap ((IntKind.i64.wrap (z32.2.1 + 1)) + z32.2.2.2.1))⟩ : Z7)).bind fun y43 => some (y43.1, y43.2)) | .inr z32 => some ((⟨⟨0, 0, 0, 0, 0, 0, 0, false⟩, 0, 0⟩ : Z7), 7))))
structure Zo where
 Kind : Int
 S : Int
 At : Int
 Data : Int
 Ptrs : Int
 Count : Int
 N : Int
noncomputable def Jh (a0 : (List (List Int))) (a1 : Int) (a2 : Int) : Option (Zo × Int) :=
 (Ql a0 a1 a2).bind fun y2 => cond (cond (y2.2 != 0) true (y2.1.P.Kind == 0)) (some ((⟨0, 0, 0, 0, 0, 0, 0⟩ : Zo), y2.2)) (cond (y2.1.P.Kind == 1) (some ((⟨1, y2.1.Segment, y2.1.At, y2.1.P.Data, y2.1.P.Ptrs, 0, 0⟩ : Zo), 0)) (cond (decide (y2.1.P.Code < 7)) (some ((⟨(IntKind.i64.wrap (2 + y2.1.P.Code)), y2.1.Segment, y2.1.At, 0, 0, y2.1.P.Count, 0⟩ : Zo), 0)) ((Qo a0 y2.1.Segment).bind fun x5 => (Qo x5 y2.1.At).bind fun x6 => (Yx x6).bind fun y8 => cond (cond (cond (cond (x6 != 0) (y8.Kind != 1) false) true (decide (y8.Off < 0))) true (decide (y2.1.P.Count < (IntKind.i64.wrap (y8.Off * (IntKind.i64.wrap (y8.Data + y8.Ptrs))))))) (some ((⟨0, 0, 0, 0, 0, 0, 0⟩ : Zo), 8)) (some ((⟨9, y2.1.Segment, (IntKind.i64.wrap (y2.1.At + 1)), y8.Data, y8.Ptrs, y8.Off, 0⟩ : Zo), 0)))))
noncomputable def Xa (a0 : Zo) (a1 : (List (List Int))) : Option (List Int) :=
 cond (a0.Kind == 10) (some ([a0.N] : List Int)) (cond (a0.Kind != 1) (some ([] : (List Int))) ((Qo a1 a0.S).bind fun x4 => (Zcm x4 a0.At (IntKind.i64.wrap (a0.At + a0.Data))).bind fun l5 => (Zhb 8 ([] : List Int) l5).bind fun l6 => some l6))
noncomputable def Xf (a0 : Zo) : Option Int :=
 cond (a0.Kind == 1) (some a0.Ptrs) (some a0.Count)
noncomputable def Jx (a0 : Int) : Option Int :=
 cond (a0 == 0) (some 0) (cond (a0 == 1) (some 1) (cond (a0 == 2) (some 8) (cond (a0 == 3) (some 16) (cond (a0 == 4) (some 32) (cond (a0 == 5) (some 64) (some (-1)))))))
noncomputable def Qj (a1 : Int) (s0_ : (Int × Int)) : Option ((Int × Int) ⊕ Int) :=
 cond (decide (s0_.2 < (Int.tmod a1 64))) (some (.inl ((IntKind.u64.wrap (Int.tdiv s0_.1 2)), (IntKind.i64.wrap (s0_.2 + 1))))) (some (.inr s0_.1))
noncomputable def Vf (a0 : (List Int)) (a1 : Int) : Option Int :=
 cond (cond (decide (a1 < 0)) true (decide ((a0.length : Int) ≤ (IntKind.i64.wrap (Int.tdiv a1 64))))) (some 0) ((Qo a0 (IntKind.i64.wrap (Int.tdiv a1 64))).bind fun x2 => (Ye (Qj a1) (x2, 0)).bind fun (z4 : Int) => some (Int.tmod z4 2))
noncomputable def Qk (a0 : (List Int)) (a2 : Int) (y2 : Int) (s0_ : (Int × Int)) : Option ((Int × Int) ⊕ Int) :=
 cond (decide (0 ≤ s0_.2)) ((Vf a0 (IntKind.i64.wrap ((IntKind.i64.wrap (a2 * y2)) + s0_.2))).bind fun y3 => some (.inl ((IntKind.u64.wrap ((IntKind.u64.wrap (s0_.1 * 2)) + y3)), (IntKind.i64.wrap (s0_.2 - 1))))) (some (.inr s0_.1))
noncomputable def Vg (a0 : (List Int)) (a1 : Int) (a2 : Int) : Option Int :=
 (Jx a1).bind fun y2 => cond (cond (cond (decide (y2 < 1)) true (decide (a2 < 0))) true (decide (1099511627776 < a2))) (some 0) ((Ye (Qk a0 a2 y2) (0, (IntKind.i64.wrap (y2 - 1)))).bind fun (z5 : Int) => some z5)
noncomputable def X5 (a0 : Zo) (a1 : (List (List Int))) (a2 : Int) : Option (Zo × Int) :=
 (cond (decide (a2 < 0)) (some true) ((Xf a0).bind fun y4 => some (cond (decide (a2 < 0)) true (decide (y4 ≤ a2))))).bind fun (z2 : Bool) => cond z2 (some ((⟨0, 0, 0, 0, 0, 0, 0⟩ : Zo), 0)) (cond (a0.Kind == 1) ((Jh a1 a0.S (IntKind.i64.wrap ((IntKind.i64.wrap (a0.At + a0.Data)) + a2))).bind fun y7 => some (y7.1, y7.2)) (cond (a0.Kind == 8) ((Jh a1 a0.S (IntKind.i64.wrap (a0.At + a2))).bind fun y9 => some (y9.1, y9.2)) (cond (a0.Kind == 9) (some ((⟨1, a0.S, (IntKind.i64.wrap (a0.At + (IntKind.i64.wrap (a2 * (IntKind.i64.wrap (a0.Data + a0.Ptrs)))))), a0.Data, a0.Ptrs, 0, 0⟩ : Zo), 0)) ((Qo a1 a0.S).bind fun x13 => (Zcm x13 a0.At (x13.length : Int)).bind fun l14 => (Vg l14 (IntKind.i64.wrap (a0.Kind - 2)) a2).bind fun y15 => some ((⟨10, 0, 0, 0, 0, 0, y15⟩ : Zo), 0)))))
noncomputable def X0 (Yl : ((List (List Int)) → Zo → Int → Int → Option (S_api_Tree × Int × Int))) (Y6 : ((List (List Int)) → Zo → Int → Int → Option (S_api_Tree × Int × Int))) (a0 : (List (List Int))) (a1 : Zo) (a2 : Int) (s0_ : (Int × Int × (List S_api_Tree))) : Option ((Int × Int × (List S_api_Tree)) ⊕ ((Int × Int × (List S_api_Tree)) ⊕ (Int × (List S_api_Tree)))) :=
 (Xf a1).bind fun y10 => cond (decide (s0_.2.1 < y10)) ((X5 a1 a0 s0_.2.1).bind fun y12 => cond (y12.2 != 0) (some (.inr (.inl (s0_.1, y12.2, s0_.2.2)))) ((Xa y12.1 a0).bind fun y14 => (cond (a1.Kind == 9) ((Y6 a0 y12.1 (IntKind.i64.wrap (a2 - 2)) s0_.1).bind fun y16 => some (y16.2.1, y16.2.2, y16.1.Kind, y16.1.Words, y16.1.Kids)) (cond (cond (a1.Kind == 1) true (a1.Kind == 8)) ((Yl a0 y12.1 (IntKind.i64.wrap (a2 - 1)) s0_.1).bind fun y17 => some (y17.2.1, y17.2.2, y17.1.Kind, y17.1.Words, y17.1.Kids)) (some (s0_.1, y12.2, y12.1.Kind, y14, ([] : (List S_api_Tree)))))).bind fun (z15 : (Int × Int × Int × (List Int) × (List S_api_Tree))) => cond (z15.2.1 != 0) (some (.inr (.inl (z15.1, z15.2.1, s0_.2.2)))) ((Zhb 56 s0_.2.2 ([(⟨z15.2.2.1, z15.2.2.2.1, z15.2.2.2.2⟩ : S_api_Tree)] : List S_api_Tree)).bind fun l20 => some (.inl (z15.1, (IntKind.i64.wrap (s0_.2.1 + 1)), l20))))) (some (.inr (.inr (s0_.1, s0_.2.2))))
noncomputable def Xz (Yl : ((List (List Int)) → Zo → Int → Int → Option (S_api_Tree × Int × Int))) (Y6 : ((List (List Int)) → Zo → Int → Int → Option (S_api_Tree × Int × Int))) (a0 : (List (List Int))) (a1 : Zo) (a2 : Int) (a3 : Int) : Option (S_api_Tree × Int × Int) :=
 (Xa a1 a0).bind fun y2 => cond (a1.Kind == 0) (some ((⟨a1.Kind, y2, []⟩ : S_api_Tree), a3, 0)) (cond (cond (decide (a2 < 1)) true (cond (cond (a1.Kind == 9) (decide (0 < a1.Count)) false) (decide (a2 < 2)) false)) (some ((⟨a1.Kind, y2, []⟩ : S_api_Tree), a3, 3)) ((Xf a1).bind fun y4 => (cond (a1.Kind == 1) (some (IntKind.i64.wrap ((IntKind.i64.wrap (1 + a1.Data)) + a1.Ptrs))) (some (IntKind.i64.wrap (1 + y4)))).bind fun (z5 : Int) => (cond (a1.Kind == 9) (some (IntKind.i64.wrap (1 + (IntKind.i64.wrap (a1.Count * (IntKind.i64.wrap ((IntKind.i64.wrap (1 + a1.Data)) + a1.Ptrs))))))) (some z5)).bind fun (z7 : Int) => cond (decide (a3 < z7)) (some ((⟨a1.Kind, y2, []⟩ : S_api_Tree), a3, 3)) ((Ye (X0 Yl Y6 a0 a1 a2) ((IntKind.i64.wrap (a3 - z7)), 0, ([] : List S_api_Tree))).bind fun (z24 : ((Int × Int × (List S_api_Tree)) ⊕ (Int × (List S_api_Tree)))) => match z24 with | .inl z24 => some ((⟨a1.Kind, y2, z24.2.2⟩ : S_api_Tree), z24.1, z24.2.1) | .inr z24 => some ((⟨a1.Kind, y2, z24.2⟩ : S_api_Tree), z24.1, 0))))
noncomputable def Q0 (Yl : ((List (List Int)) → Zo → Int → Int → Option (S_api_Tree × Int × Int))) (a0 : (List (List Int))) (a1 : Zo) (a2 : Int) (s0_ : (Int × Int × (List S_api_Tree))) : Option ((Int × Int × (List S_api_Tree)) ⊕ ((Int × Int × (List S_api_Tree)) ⊕ (Int × (List S_api_Tree)))) :=
 cond (decide (s0_.2.1 < a1.Ptrs)) ((X5 a1 a0 s0_.2.1).bind fun y4 => cond (y4.2 != 0) (some (.inr (.inl (s0_.1, y4.2, s0_.2.2)))) ((Yl a0 y4.1 a2 s0_.1).bind fun y6 => cond (y6.2.2 != 0) (some (.inr (.inl (y6.2.1, y6.2.2, s0_.2.2)))) ((Zhb 56 s0_.2.2 ([y6.1] : List S_api_Tree)).bind fun l7 => some (.inl (y6.2.1, (IntKind.i64.wrap (s0_.2.1 + 1)), l7))))) (some (.inr (.inr (s0_.1, s0_.2.2))))
noncomputable def Q4 (Yl : ((List (List Int)) → Zo → Int → Int → Option (S_api_Tree × Int × Int))) (Y6 : ((List (List Int)) → Zo → Int → Int → Option (S_api_Tree × Int × Int))) (a0 : (List (List Int))) (a1 : Zo) (a2 : Int) (a3 : Int) : Option (S_api_Tree × Int × Int) :=
 (Xa a1 a0).bind fun y2 => (Ye (Q0 Yl a0 a1 a2) (a3, 0, ([] : List S_api_Tree))).bind fun (z11 : ((Int × Int × (List S_api_Tree)) ⊕ (Int × (List S_api_Tree)))) => match z11 with | .inl z11 => some ((⟨1, y2, z11.2.2⟩ : S_api_Tree), z11.1, z11.2.1) | .inr z11 => some ((⟨1, y2, z11.2⟩ : S_api_Tree), z11.1, 0)
noncomputable def Yi : Nat → (((List (List Int)) → Zo → Int → Int → Option (S_api_Tree × Int × Int)) × ((List (List Int)) → Zo → Int → Int → Option (S_api_Tree × Int × Int)))
 | 0 => ((fun _ _ _ _ => none), (fun _ _ _ _ => none))
 | k + 1 => (Xz ((Yi k).1) ((Yi k).2), Q4 ((Yi k).1) ((Yi k).2))
noncomputable def Ul (a0 : (List (List Int))) (a1 : Zo) (a2 : Int) (a3 : Int) : Option (S_api_Tree × Int × Int) := lim fun k => (Yi k).1 a0 a1 a2 a3
noncomputable def Qm (a0 : (List (List Int))) (a1 : Z0) : Option (S_api_Tree × Int × Int) :=
 (Jk a1).bind fun y2 => (Jh a0 0 0).bind fun y4 => cond (y4.2 != 0) (some ((⟨0, [], []⟩ : S_api_Tree), 0, y4.2)) ((Ul a0 y4.1 y2.Depth y2.Weight).bind fun y6 => cond (y6.2.2 != 0) (some ((⟨0, [], []⟩ : S_api_Tree), 0, y6.2.2)) (some (y6.1, (IntKind.i64.wrap (y2.Weight - y6.2.1)), 0)))
noncomputable def Q3 (a0 : (List Int)) (a1 : (List Int)) (s0_ : Int) : Option (Int ⊕ (Unit ⊕ Unit)) :=
 cond (decide (s0_ < (a0.length : Int))) ((Qo a0 s0_).bind fun x3 => (Qo a1 s0_).bind fun x4 => cond (x3 != x4) (some (.inr (.inl ()))) (some (.inl (IntKind.i64.wrap (s0_ + 1))))) (some (.inr (.inr ())))
noncomputable def Kl (a0 : (List Int)) (a1 : (List Int)) : Option Bool :=
 cond ((a0.length : Int) != (a1.length : Int)) (some false) ((Ye (Q3 a0 a1) 0).bind fun (z7 : (Unit ⊕ Unit)) => match z7 with | .inl z7 => some false | .inr z7 => some true)
noncomputable def Qz (Jb : (S_api_Tree → S_api_Tree → Option Bool)) (a0 : S_api_Tree) (a1 : S_api_Tree) (s0_ : Int) : Option (Int ⊕ (Unit ⊕ Unit)) :=
 cond (decide (s0_ < (a0.Kids.length : Int))) ((Qo a0.Kids s0_).bind fun x9 => (Qo a1.Kids s0_).bind fun x10 => (Jb x9 x10).bind fun y11 => cond (!y11) (some (.inr (.inl ()))) (some (.inl (IntKind.i64.wrap (s0_ + 1))))) (some (.inr (.inr ())))
noncomputable def Kj (Jb : (S_api_Tree → S_api_Tree → Option Bool)) (a0 : S_api_Tree) (a1 : S_api_Tree) : Option Bool :=
 (cond (a0.Kind != a1.Kind) (some true) ((Kl a0.Words a1.Words).bind fun y4 => some (cond (cond (a0.Kind != a1.Kind) true (!y4)) true ((a0.Kids.length : Int) != (a1.Kids.length : Int))))).bind fun (z2 : Bool) => cond z2 (some false) ((Ye (Qz Jb a0 a1) 0).bind fun (z14 : (Unit ⊕ Unit)) => match z14 with | .inl z14 => some false | .inr z14 => some true)
noncomputable def Xv : Nat → (S_api_Tree → S_api_Tree → Option Bool)
 | 0 => (fun _ _ => none)
 | k + 1 => Kj ((Xv k))
noncomputable def Gy (a0 : S_api_Tree) (a1 : S_api_Tree) : Option Bool := lim fun k => (Xv k) a0 a1
noncomputable def Qs  : Option Bool :=
 (Ge ([([4294967296, 0] : List Int)] : List (List Int))).bind fun y3 => (Vi y3 (⟨1, 2, 0, 0⟩ : Z0)).bind fun y4 => some (cond (cond (y4.2 == 0) (y4.1.Kind == 1) false) ((IntKind.i64.wrap ((y4.1.Words.length : Int) + (y4.1.Kids.length : Int))) == 0) false)
noncomputable def Qp (a0 : (List (List Int))) (a1 : Z0) : Option Bool :=
 (Jw a1).bind fun y2 => (Qm a0 y2).bind fun y4 => cond (y4.2.2 != 0) ((Qs).bind fun y6 => some y6) ((Ge a0).bind fun y9 => (Ky y9).bind fun y10 => (Vj y10.1).bind fun y12 => (cond (y10.2 == 0) (cond (y12.2 == 0) ((Gy y12.1 y4.1).bind fun y18 => cond y18 ((Qs).bind fun y19 => some (cond (cond (cond (y10.2 == 0) (y12.2 == 0) false) y18 false) y19 false)) (some false)) (some false)) (some false)).bind fun (z15 : Bool) => some z15)
end Go.Proofs.Ytmlhokaflhlhbaa
