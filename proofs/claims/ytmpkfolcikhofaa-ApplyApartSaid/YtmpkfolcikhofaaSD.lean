/- Part SD of this seat's mirrors: functions of the seat's program, and the plain functions that they are; each theorem bears its own conditions. -/
import Derived.Test.YtmpkfolcikhofaaH25
namespace Go.Proofs.Ytmpkfolcikhofaa
open Go.RowKit
set_option linter.unusedVariables false
set_option linter.unusedSimpArgs false
set_option maxRecDepth 100000
set_option maxHeartbeats 1000000
structure S_api_Tree where
 Kind : Int
 Words : (List Int)
 Kids : (List S_api_Tree)
noncomputable def Y3 (Qj : (S_api_Tree → Int → Int → Option Int)) (a0 : S_api_Tree) (a1 : Int) (s0_ : (Int × Int)) : Option ((Int × Int) ⊕ Int) :=
 cond (cond (decide (s0_.2 < (a0.Kids.length : Int))) (decide (0 ≤ s0_.1)) false) ((Xy a0.Kids s0_.2).bind fun x1 => (Qj x1 (IntKind.i64.wrap (a1 - 1)) s0_.1).bind fun y2 => some (.inl (y2, (IntKind.i64.wrap (s0_.2 + 1))))) (some (.inr s0_.1))
noncomputable def Y9 (Qj : (S_api_Tree → Int → Int → Option Int)) (a0 : S_api_Tree) (a1 : Int) (a2 : Int) : Option Int :=
 cond (cond (a1 == 0) true (decide ((IntKind.i64.wrap ((IntKind.i64.wrap (a2 - 1)) - (a0.Words.length : Int))) < 0))) (some (-1)) ((Zx (Y3 Qj a0 a1) ((IntKind.i64.wrap ((IntKind.i64.wrap (a2 - 1)) - (a0.Words.length : Int))), 0)).bind fun (z4 : Int) => some z4)
noncomputable def Ye : Nat → (S_api_Tree → Int → Int → Option Int)
 | 0 => (fun _ _ _ => none)
 | k + 1 => Y9 ((Ye k))
noncomputable def Xb (a0 : S_api_Tree) (a1 : Int) (a2 : Int) : Option Int := lim fun k => (Ye k) a0 a1 a2
noncomputable def Uk (a0 : S_api_Tree) : Option Bool :=
 (Xb a0 80 3000).bind fun y2 => some (decide (0 ≤ y2))
noncomputable def Zaq (a0 : Int) : Option Int :=
 cond (a0 == 0) (some 0) (cond (a0 == 1) (some 1) (cond (a0 == 2) (some 8) (cond (a0 == 3) (some 16) (cond (a0 == 4) (some 32) (cond (a0 == 5) (some 64) (some (-1)))))))
noncomputable def Xa (y2 : Int) (s0_ : (Int × Int)) : Option ((Int × Int) ⊕ Int) :=
 cond (decide (s0_.2 < y2)) (some (.inl ((IntKind.u64.wrap (Int.tdiv s0_.1 2)), (IntKind.i64.wrap (s0_.2 + 1))))) (some (.inr s0_.1))
noncomputable def Kb (a0 : Int) (a1 : Int) : Option Bool :=
 (Zaq a0).bind fun y2 => cond (decide (y2 < 0)) (some false) ((Zx (Xa y2) (a1, 0)).bind fun (z4 : Int) => some (z4 == 0))
noncomputable def Qw (Jg : (S_api_Tree → Int → Option Bool)) (a0 : S_api_Tree) (a1 : Int) (s0_ : Int) : Option (Int ⊕ (Unit ⊕ Unit)) :=
 cond (decide (s0_ < (a0.Kids.length : Int))) ((Xy a0.Kids s0_).bind fun x2 => (Jg x2 (IntKind.i64.wrap (a1 - 1))).bind fun y4 => cond (!y4) (some (.inr (.inl ()))) ((cond ((cond (decide (2 ≤ a0.Kind)) (decide (a0.Kind ≤ 7)) false) != (x2.Kind == 10)) (some true) (cond (a0.Kind == 9) (cond (x2.Kind != 1) (some true) (cond (decide (2 ≤ a0.Kind)) (cond (decide (a0.Kind ≤ 7)) ((Xy x2.Words 0).bind fun x14 => (Kb (IntKind.i64.wrap (a0.Kind - 2)) x14).bind fun y15 => some (cond (cond ((cond (decide (2 ≤ a0.Kind)) (decide (a0.Kind ≤ 7)) false) != (x2.Kind == 10)) true (cond (a0.Kind == 9) (x2.Kind != 1) false)) true (cond (cond (decide (2 ≤ a0.Kind)) (decide (a0.Kind ≤ 7)) false) (!y15) false))) (some (cond (cond ((cond (decide (2 ≤ a0.Kind)) (decide (a0.Kind ≤ 7)) false) != (x2.Kind == 10)) true (cond (a0.Kind == 9) (x2.Kind != 1) false)) true false))) (some (cond (cond ((cond (decide (2 ≤ a0.Kind)) (decide (a0.Kind ≤ 7)) false) != (x2.Kind == 10)) true (cond (a0.Kind == 9) (x2.Kind != 1) false)) true false)))) (cond (decide (2 ≤ a0.Kind)) (cond (decide (a0.Kind ≤ 7)) ((Xy x2.Words 0).bind fun x16 => (Kb (IntKind.i64.wrap (a0.Kind - 2)) x16).bind fun y17 => some (cond (cond ((cond (decide (2 ≤ a0.Kind)) (decide (a0.Kind ≤ 7)) false) != (x2.Kind == 10)) true (cond (a0.Kind == 9) (x2.Kind != 1) false)) true (cond (cond (decide (2 ≤ a0.Kind)) (decide (a0.Kind ≤ 7)) false) (!y17) false))) (some (cond (cond ((cond (decide (2 ≤ a0.Kind)) (decide (a0.Kind ≤ 7)) false) != (x2.Kind == 10)) true (cond (a0.Kind == 9) (x2.Kind != 1) false)) true false))) (some (cond (cond ((cond (decide (2 ≤ a0.Kind)) (decide (a0.Kind ≤ 7)) false) != (x2.Kind == 10)) true (cond (a0.Kind == 9) (x2.Kind != 1) false)) true false))))).bind fun (z9 : Bool) => cond z9 (some (.inr (.inl ()))) (some (.inl (IntKind.i64.wrap (s0_ + 1)))))) (some (.inr (.inr ())))
noncomputable def K2 (Jg : (S_api_Tree → Int → Option Bool)) (a0 : S_api_Tree) (a1 : Int) : Option Bool :=
 cond (a0.Kind == 0) (some (cond ((a0.Words.length : Int) == 0) ((a0.Kids.length : Int) == 0) false)) (cond (a0.Kind == 10) (some (cond ((a0.Words.length : Int) == 1) ((a0.Kids.length : Int) == 0) false)) (cond (cond (cond (cond (cond (cond (decide (a0.Kind < 0)) true (decide (10 < a0.Kind))) true (a1 == 0)) true (decide (65536 ≤ (a0.Words.length : Int)))) true (cond (a0.Kind == 1) (decide (65536 ≤ (a0.Kids.length : Int))) false)) true (decide (1048576 ≤ (a0.Kids.length : Int)))) (some false) (cond (cond (decide (1 < a0.Kind)) (decide (0 < (a0.Words.length : Int))) false) (some false) ((Zx (Qw Jg a0 a1) 0).bind fun (z28 : (Unit ⊕ Unit)) => match z28 with | .inl z28 => some false | .inr z28 => some true))))
noncomputable def X1 : Nat → (S_api_Tree → Int → Option Bool)
 | 0 => (fun _ _ => none)
 | k + 1 => K2 ((X1 k))
noncomputable def Jd (a0 : S_api_Tree) (a1 : Int) : Option Bool := lim fun k => (X1 k) a0 a1
noncomputable def Ka (a0 : S_api_Tree) : Option Bool :=
 ((Uk a0).bind fun y6 => cond y6 ((Jd a0 64).bind fun y7 => some (cond (cond y6 y7 false) (a0.Kind != 10) false)) (some false)).bind fun (z3 : Bool) => some z3
noncomputable def Ko (a0 : (List Int)) (s0_ : Int) : Option (Int ⊕ Int) :=
 (cond (decide (0 < s0_)) ((Xy a0 (IntKind.i64.wrap (s0_ - 1))).bind fun x4 => some (cond (decide (0 < s0_)) (x4 == 0) false)) (some false)).bind fun (z2 : Bool) => cond z2 (some (.inl (IntKind.i64.wrap (s0_ - 1)))) (some (.inr s0_))
noncomputable def Je (a0 : (List Int)) : Option (List Int) :=
 (Zx (Ko a0) (a0.length : Int)).bind fun (z7 : Int) => (Za1 a0 0 z7).bind fun l9 => some l9
noncomputable def Yy (a0 : (List Int)) (a1 : (List Int)) (s0_ : Int) : Option (Int ⊕ (Unit ⊕ Unit)) :=
 cond (decide (s0_ < (a0.length : Int))) ((Xy a0 s0_).bind fun x3 => (Xy a1 s0_).bind fun x4 => cond (x3 != x4) (some (.inr (.inl ()))) (some (.inl (IntKind.i64.wrap (s0_ + 1))))) (some (.inr (.inr ())))
noncomputable def Yw (a0 : (List Int)) (a1 : (List Int)) : Option Bool :=
 cond ((a0.length : Int) != (a1.length : Int)) (some false) ((Zx (Yy a0 a1) 0).bind fun (z7 : (Unit ⊕ Unit)) => match z7 with | .inl z7 => some false | .inr z7 => some true)
noncomputable def Vc (a0 : (List S_api_Tree)) (s0_ : Int) : Option (Int ⊕ Int) :=
 (cond (decide (0 < s0_)) ((Xy a0 (IntKind.i64.wrap (s0_ - 1))).bind fun x6 => some (cond (decide (0 < s0_)) (x6.Kind == 0) false)) (some false)).bind fun (z3 : Bool) => cond z3 (some (.inl (IntKind.i64.wrap (s0_ - 1)))) (some (.inr s0_))
noncomputable def Kj (a0 : (List S_api_Tree)) : Option (List S_api_Tree) :=
 (Zx (Vc a0) (a0.length : Int)).bind fun (z10 : Int) => (Za1 a0 0 z10).bind fun l12 => some l12
noncomputable def Za4 (Jj : (S_api_Tree → S_api_Tree → Option Bool)) (Zq : ((List S_api_Tree) → (List S_api_Tree) → Option Bool)) (a0 : S_api_Tree) (a1 : S_api_Tree) : Option Bool :=
 cond (a0.Kind != a1.Kind) (some false) (cond (a0.Kind == 0) (some true) (cond (a0.Kind == 1) (((Je a0.Words).bind fun y14 => (Je a1.Words).bind fun y15 => (Yw y14 y15).bind fun y16 => cond y16 ((Kj a0.Kids).bind fun y17 => (Kj a1.Kids).bind fun y18 => (Zq y17 y18).bind fun y19 => some (cond y16 y19 false)) (some false)).bind fun (z7 : Bool) => some z7) (((Yw a0.Words a1.Words).bind fun y26 => cond y26 ((Zq a0.Kids a1.Kids).bind fun y27 => some (cond y26 y27 false)) (some false)).bind fun (z23 : Bool) => some z23)))
noncomputable def Z4 (Jj : (S_api_Tree → S_api_Tree → Option Bool)) (a0 : (List S_api_Tree)) (a1 : (List S_api_Tree)) (s0_ : Int) : Option (Int ⊕ (Unit ⊕ Unit)) :=
 cond (decide (s0_ < (a0.length : Int))) ((Xy a0 s0_).bind fun x2 => (Xy a1 s0_).bind fun x4 => (Jj x2 x4).bind fun y6 => cond (!y6) (some (.inr (.inl ()))) (some (.inl (IntKind.i64.wrap (s0_ + 1))))) (some (.inr (.inr ())))
noncomputable def Z6 (Jj : (S_api_Tree → S_api_Tree → Option Bool)) (Zq : ((List S_api_Tree) → (List S_api_Tree) → Option Bool)) (a0 : (List S_api_Tree)) (a1 : (List S_api_Tree)) : Option Bool :=
 cond ((a0.length : Int) != (a1.length : Int)) (some false) ((Zx (Z4 Jj a0 a1) 0).bind fun (z9 : (Unit ⊕ Unit)) => match z9 with | .inl z9 => some false | .inr z9 => some true)
noncomputable def Yu : Nat → ((S_api_Tree → S_api_Tree → Option Bool) × ((List S_api_Tree) → (List S_api_Tree) → Option Bool))
 | 0 => ((fun _ _ => none), (fun _ _ => none))
 | k + 1 => (Za4 ((Yu k).1) ((Yu k).2), Z6 ((Yu k).1) ((Yu k).2))
noncomputable def Zgm (a0 : S_api_Tree) (a1 : S_api_Tree) : Option Bool := lim fun k => (Yu k).1 a0 a1
noncomputable def Yl (a0 : (List S_api_Tree)) (a1 : (List S_api_Tree)) : Option Bool := lim fun k => (Yu k).2 a0 a1
noncomputable def Ki (a0 : List Int) : Option (List Int) :=
 Zc4 8 ([] : List Int) a0
noncomputable def Qo (a0 : List S_api_Tree) : Option (List S_api_Tree) :=
 Zc4 56 ([] : List S_api_Tree) a0
noncomputable def Zci (a0 : S_api_Tree) (a1 : Int) : Option Int :=
 cond (cond (decide (a1 < 0)) true (decide ((a0.Words.length : Int) ≤ a1))) (some 0) ((Xy a0.Words a1).bind fun x2 => some x2)
noncomputable def Vj (a0 : Int) : Option Bool :=
 some (cond (decide (a0 < 0)) true (decide (65534 < a0)))
noncomputable def Gp (a0 : Int) (s0_ : (Int × Int)) : Option ((Int × Int) ⊕ Int) :=
 cond (decide (s0_.2 < 8)) (((Zj3 (0 ≤ s0_.2)).bind fun u3 => cond ((IntKind.u8.wrap (Zes .u8 (Int.fdiv a0 (2 ^ min (Int.toNat s0_.2) 8)) 1)) == 1) ((Zj3 (0 ≤ (IntKind.i64.wrap (8 * s0_.2)))).bind fun u4 => some (IntKind.u64.wrap (Zpm .u64 s0_.1 (IntKind.u64.wrap (255 * 2 ^ min (Int.toNat (IntKind.i64.wrap (8 * s0_.2))) 64))))) (some s0_.1)).bind fun (z1 : Int) => some (.inl (z1, (IntKind.i64.wrap (s0_.2 + 1))))) (some (.inr s0_.1))
noncomputable def Gn (a0 : Int) : Option Int :=
 (Zx (Gp a0) (0, 0)).bind fun (z7 : Int) => some z7
noncomputable def Zbu (a0 : Int) (a1 : Int) (a2 : Int) : Option Int :=
 (Gn a2).bind fun y2 => some (IntKind.u64.wrap (Zpm .u64 (IntKind.u64.wrap (Zr5 .u64 a0 y2)) (IntKind.u64.wrap (Zes .u64 a1 y2))))
noncomputable def K9 (a1 : Int) (a2 : Int) (s0_ : (List Int)) : Option ((List Int) ⊕ (List Int)) :=
 cond (cond (decide ((s0_.length : Int) ≤ a1)) (a2 != 0) false) ((Zc4 8 s0_ ([0] : List Int)).bind fun l1 => some (.inl l1)) (some (.inr s0_))
noncomputable def U2 (a0 : S_api_Tree) (a1 : Int) (a2 : Int) : Option S_api_Tree :=
 (Zx (K9 a1 a2) a0.Words).bind fun (z3 : (List Int)) => cond (decide (a1 < (z3.length : Int))) ((Xy z3 a1).bind fun x4 => some (⟨a0.Kind, (Zav z3 a1 a2), a0.Kids⟩ : S_api_Tree)) (some (⟨a0.Kind, z3, a0.Kids⟩ : S_api_Tree))
noncomputable def Zdl (a0 : S_api_Tree) (a1 : Int) : Option S_api_Tree :=
 cond (cond (decide (a1 < 0)) true (decide ((a0.Kids.length : Int) ≤ a1))) (some (⟨0, [], []⟩ : S_api_Tree)) ((Xy a0.Kids a1).bind fun x2 => some x2)
noncomputable def Vv (a1 : Int) (a2 : S_api_Tree) (s0_ : (List S_api_Tree)) : Option ((List S_api_Tree) ⊕ (List S_api_Tree)) :=
 cond (cond (decide ((s0_.length : Int) ≤ a1)) (a2.Kind != 0) false) ((Zc4 56 s0_ ([(⟨0, [], []⟩ : S_api_Tree)] : List S_api_Tree)).bind fun l1 => (Xy l1 (s0_.length : Int)).bind fun x2 => some (.inl (s0_ ++ [(⟨0, [], []⟩ : S_api_Tree)]))) (some (.inr s0_))
noncomputable def Gm (a0 : S_api_Tree) (a1 : Int) (a2 : S_api_Tree) : Option S_api_Tree :=
 (Zx (Vv a1 a2) a0.Kids).bind fun (z5 : (List S_api_Tree)) => cond (decide (a1 < (z5.length : Int))) ((Xy z5 a1).bind fun x6 => some (⟨a0.Kind, a0.Words, (Zav z5 a1 a2)⟩ : S_api_Tree)) (some (⟨a0.Kind, a0.Words, z5⟩ : S_api_Tree))
noncomputable def Zch (a0 : Int) : Option Bool :=
 some (cond (decide (2 ≤ a0)) (decide (a0 ≤ 9)) false)
structure Zo where
 At : Int
 Mask : Int
 Old : Int
 New : Int
mutual
structure S_api_Edit where
 Kind : Int
 Old : S_api_Tree
 New : S_api_Tree
 Words : (List Zo)
 Kids : (List S_api_KidEdit)
 List_ : Int
 Ops : (List S_api_Op)
structure S_api_KidEdit where
 At : Int
 E : S_api_Edit
structure S_api_Op where
 Kind : Int
 N : Int
 L : (List S_api_Tree)
 E : S_api_Edit
end
structure Zf where
 left : (List S_api_Tree)
 out : (List S_api_Tree)
noncomputable def Vp (Yi : (S_api_Edit → S_api_Tree → Option (S_api_Tree × Bool))) (Z8 : (S_api_Edit → S_api_Tree → Option (S_api_Tree × Bool))) (Yo : (S_api_Edit → S_api_Tree → Option (S_api_Tree × Bool))) (Z3 : (Zf → S_api_Op → Option (Bool × Zf))) (Zz : (Zf → S_api_Edit → Option (Bool × Zf))) (a0 : S_api_Edit) (a1 : S_api_Tree) : Option (S_api_Tree × Bool) :=
 cond (a0.Kind == 0) (some (a1, true)) (cond (a0.Kind == 1) ((Zgm a1 a0.Old).bind fun y2 => some (a0.New, y2)) (cond (a0.Kind == 2) ((Z8 a0 a1).bind fun y4 => some (y4.1, y4.2)) (cond (a0.Kind == 3) ((Yo a0 a1).bind fun y6 => some (y6.1, y6.2)) (some ((⟨0, [], []⟩ : S_api_Tree), false)))))
noncomputable def Xo (a0 : S_api_Edit) (a1 : S_api_Tree) (s0_ : (Int × Int × (List Int) × (List S_api_Tree))) : Option ((Int × Int × (List Int) × (List S_api_Tree)) ⊕ (Unit ⊕ (Int × (List Int) × (List S_api_Tree)))) :=
 cond (decide (s0_.1 < (a0.Words.length : Int))) ((Xy a0.Words s0_.1).bind fun x110 => (Zci a1 x110.At).bind fun y112 => ((Vj x110.At).bind fun y118 => cond y118 (some true) ((Gn x110.Mask).bind fun y119 => some (cond y118 true ((IntKind.u64.wrap (Zes .u64 (IntKind.u64.wrap (Zk5 .u64 y112 x110.Old)) y119)) != 0)))).bind fun (z115 : Bool) => cond z115 (some (.inr (.inl ()))) ((Zbu y112 x110.New x110.Mask).bind fun y121 => (U2 (⟨s0_.2.1, s0_.2.2.1, s0_.2.2.2⟩ : S_api_Tree) x110.At y121).bind fun y122 => some (.inl ((IntKind.i64.wrap (s0_.1 + 1)), y122.Kind, y122.Words, y122.Kids)))) (some (.inr (.inr (s0_.2.1, s0_.2.2.1, s0_.2.2.2))))
noncomputable def Y8 (Yi : (S_api_Edit → S_api_Tree → Option (S_api_Tree × Bool))) (a0 : S_api_Edit) (a1 : S_api_Tree) (s1_ : (Int × Int × (List Int) × (List S_api_Tree))) : Option ((Int × Int × (List Int) × (List S_api_Tree)) ⊕ (Unit ⊕ (Int × (List Int) × (List S_api_Tree)))) :=
 cond (decide (s1_.1 < (a0.Kids.length : Int))) ((Xy a0.Kids s1_.1).bind fun x127 => (Zdl a1 x127.At).bind fun y130 => (Yi x127.E y130).bind fun y131 => (Vj x127.At).bind fun y133 => cond (cond y133 true (!y131.2)) (some (.inr (.inl ()))) ((Gm (⟨s1_.2.1, s1_.2.2.1, s1_.2.2.2⟩ : S_api_Tree) x127.At y131.1).bind fun y134 => some (.inl ((IntKind.i64.wrap (s1_.1 + 1)), y134.Kind, y134.Words, y134.Kids)))) (some (.inr (.inr (s1_.2.1, s1_.2.2.1, s1_.2.2.2))))
noncomputable def J8 (Yi : (S_api_Edit → S_api_Tree → Option (S_api_Tree × Bool))) (Z8 : (S_api_Edit → S_api_Tree → Option (S_api_Tree × Bool))) (Yo : (S_api_Edit → S_api_Tree → Option (S_api_Tree × Bool))) (Z3 : (Zf → S_api_Op → Option (Bool × Zf))) (Zz : (Zf → S_api_Edit → Option (Bool × Zf))) (a0 : S_api_Edit) (a1 : S_api_Tree) : Option (S_api_Tree × Bool) :=
 cond (a1.Kind != 1) (some ((⟨0, [], []⟩ : S_api_Tree), false)) ((Ki a1.Words).bind fun y25 => (Qo a1.Kids).bind fun y61 => (Zx (Xo a0 a1) (0, 1, y25, y61)).bind fun (z125 : (Unit ⊕ (Int × (List Int) × (List S_api_Tree)))) => match z125 with | .inl z125 => some ((⟨0, [], []⟩ : S_api_Tree), false) | .inr z125 => (Zx (Y8 Yi a0 a1) (0, z125.1, z125.2.1, z125.2.2)).bind fun (z137 : (Unit ⊕ (Int × (List Int) × (List S_api_Tree)))) => match z137 with | .inl z137 => some ((⟨0, [], []⟩ : S_api_Tree), false) | .inr z137 => some ((⟨z137.1, z137.2.1, z137.2.2⟩ : S_api_Tree), true))
noncomputable def Qs (Z3 : (Zf → S_api_Op → Option (Bool × Zf))) (a0 : S_api_Edit) (s0_ : (Int × (List S_api_Tree) × (List S_api_Tree))) : Option ((Int × (List S_api_Tree) × (List S_api_Tree)) ⊕ (Unit ⊕ ((List S_api_Tree) × (List S_api_Tree)))) :=
 cond (decide (s0_.1 < (a0.Ops.length : Int))) ((Xy a0.Ops s0_.1).bind fun x7 => (Z3 (⟨s0_.2.1, s0_.2.2⟩ : Zf) x7).bind fun y9 => cond (!y9.1) (some (.inr (.inl ()))) (some (.inl ((IntKind.i64.wrap (s0_.1 + 1)), y9.2.left, y9.2.out)))) (some (.inr (.inr (s0_.2.1, s0_.2.2))))
noncomputable def Gz (Yi : (S_api_Edit → S_api_Tree → Option (S_api_Tree × Bool))) (Z8 : (S_api_Edit → S_api_Tree → Option (S_api_Tree × Bool))) (Yo : (S_api_Edit → S_api_Tree → Option (S_api_Tree × Bool))) (Z3 : (Zf → S_api_Op → Option (Bool × Zf))) (Zz : (Zf → S_api_Edit → Option (Bool × Zf))) (a0 : S_api_Edit) (a1 : S_api_Tree) : Option (S_api_Tree × Bool) :=
 (cond (a1.Kind != a0.List_) (some true) ((Zch a1.Kind).bind fun y4 => some (cond (a1.Kind != a0.List_) true (!y4)))).bind fun (z2 : Bool) => cond z2 (some ((⟨0, [], []⟩ : S_api_Tree), false)) ((Zx (Qs Z3 a0) (0, a1.Kids, ([] : List S_api_Tree))).bind fun (z12 : (Unit ⊕ ((List S_api_Tree) × (List S_api_Tree)))) => match z12 with | .inl z12 => some ((⟨0, [], []⟩ : S_api_Tree), false) | .inr z12 => some ((⟨a1.Kind, [], z12.2⟩ : S_api_Tree), ((z12.1.length : Int) == 0)))
noncomputable def Kk (Yi : (S_api_Edit → S_api_Tree → Option (S_api_Tree × Bool))) (Z8 : (S_api_Edit → S_api_Tree → Option (S_api_Tree × Bool))) (Yo : (S_api_Edit → S_api_Tree → Option (S_api_Tree × Bool))) (Z3 : (Zf → S_api_Op → Option (Bool × Zf))) (Zz : (Zf → S_api_Edit → Option (Bool × Zf))) (a0 : Zf) (a1 : S_api_Op) : Option (Bool × Zf) :=
 cond (a1.Kind == 0) ((cond (decide (a1.N < 0)) (some true) (some (cond (decide (a1.N < 0)) true (decide ((a0.left.length : Int) < a1.N))))).bind fun (z1 : Bool) => cond z1 (some (false, (⟨a0.left, a0.out⟩ : Zf))) ((Za1 a0.left 0 a1.N).bind fun l5 => (Zc4 56 a0.out l5).bind fun l6 => (Za1 a0.left a1.N (a0.left.length : Int)).bind fun l8 => some (true, (⟨l8, l6⟩ : Zf)))) (cond (a1.Kind == 1) ((cond (decide ((a0.left.length : Int) < (a1.L.length : Int))) (some true) ((Za1 a0.left 0 (a1.L.length : Int)).bind fun l15 => (Yl l15 a1.L).bind fun y16 => some (cond (decide ((a0.left.length : Int) < (a1.L.length : Int))) true (!y16)))).bind fun (z12 : Bool) => cond z12 (some (false, (⟨a0.left, a0.out⟩ : Zf))) ((Za1 a0.left (a1.L.length : Int) (a0.left.length : Int)).bind fun l19 => some (true, (⟨l19, a0.out⟩ : Zf)))) (cond (a1.Kind == 2) ((Zc4 56 a0.out a1.L).bind fun l22 => some (true, (⟨a0.left, l22⟩ : Zf))) (cond (a1.Kind == 3) ((Zz (⟨a0.left, a0.out⟩ : Zf) a1.E).bind fun y24 => some (y24.1, (⟨y24.2.left, y24.2.out⟩ : Zf))) (some (false, (⟨a0.left, a0.out⟩ : Zf))))))
noncomputable def Qn (Yi : (S_api_Edit → S_api_Tree → Option (S_api_Tree × Bool))) (Z8 : (S_api_Edit → S_api_Tree → Option (S_api_Tree × Bool))) (Yo : (S_api_Edit → S_api_Tree → Option (S_api_Tree × Bool))) (Z3 : (Zf → S_api_Op → Option (Bool × Zf))) (Zz : (Zf → S_api_Edit → Option (Bool × Zf))) (a0 : Zf) (a1 : S_api_Edit) : Option (Bool × Zf) :=
 cond ((a0.left.length : Int) == 0) (some (false, (⟨a0.left, a0.out⟩ : Zf))) ((Xy a0.left 0).bind fun x3 => (Yi a1 x3).bind fun y4 => (Zc4 56 a0.out ([(⟨0, [], []⟩ : S_api_Tree)] : List S_api_Tree)).bind fun l8 => (Xy l8 (a0.out.length : Int)).bind fun x9 => (Za1 a0.left 1 (a0.left.length : Int)).bind fun l12 => some (y4.2, (⟨l12, (a0.out ++ [y4.1])⟩ : Zf)))
noncomputable def Zn : Nat → ((S_api_Edit → S_api_Tree → Option (S_api_Tree × Bool)) × (S_api_Edit → S_api_Tree → Option (S_api_Tree × Bool)) × (S_api_Edit → S_api_Tree → Option (S_api_Tree × Bool)) × (Zf → S_api_Op → Option (Bool × Zf)) × (Zf → S_api_Edit → Option (Bool × Zf)))
 | 0 => ((fun _ _ => none), (fun _ _ => none), (fun _ _ => none), (fun _ _ => none), (fun _ _ => none))
 | k + 1 => (Vp ((Zn k).1) ((Zn k).2.1) ((Zn k).2.2.1) ((Zn k).2.2.2.1) ((Zn k).2.2.2.2), J8 ((Zn k).1) ((Zn k).2.1) ((Zn k).2.2.1) ((Zn k).2.2.2.1) ((Zn k).2.2.2.2), Gz ((Zn k).1) ((Zn k).2.1) ((Zn k).2.2.1) ((Zn k).2.2.2.1) ((Zn k).2.2.2.2), Kk ((Zn k).1) ((Zn k).2.1) ((Zn k).2.2.1) ((Zn k).2.2.2.1) ((Zn k).2.2.2.2), Qn ((Zn k).1) ((Zn k).2.1) ((Zn k).2.2.1) ((Zn k).2.2.2.1) ((Zn k).2.2.2.2))
noncomputable def Zgl (a0 : S_api_Edit) (a1 : S_api_Tree) : Option (S_api_Tree × Bool) := lim fun k => (Zn k).1 a0 a1
noncomputable def Uf (Zaz : (S_api_Tree → Option S_api_Tree)) (z1 : ((List Int) × (List S_api_Tree))) (s0_ : (Int × (List S_api_Tree))) : Option ((Int × (List S_api_Tree)) ⊕ (List S_api_Tree)) :=
 cond (decide (s0_.1 < (z1.2.length : Int))) ((Xy z1.2 s0_.1).bind fun x9 => (Zaz x9).bind fun y10 => (Xy s0_.2 s0_.1).bind fun x11 => some (.inl ((IntKind.i64.wrap (s0_.1 + 1)), (Zav s0_.2 s0_.1 y10)))) (some (.inr s0_.2))
noncomputable def Zb8 (Zaz : (S_api_Tree → Option S_api_Tree)) (a0 : S_api_Tree) : Option S_api_Tree :=
 cond (a0.Kind == 0) (some (⟨0, [], []⟩ : S_api_Tree)) ((cond (a0.Kind == 1) ((Je a0.Words).bind fun y2 => (Kj a0.Kids).bind fun y3 => some (y2, y3)) (some (a0.Words, a0.Kids))).bind fun (z1 : ((List Int) × (List S_api_Tree))) => (cond (decide (0 < (z1.2.length : Int))) ((Zhw 56 (z1.2.length : Int) (⟨(0 : Int), [], []⟩ : S_api_Tree)).bind fun l6 => some l6) (some ([] : List S_api_Tree))).bind fun (z5 : (List S_api_Tree)) => (Zx (Uf Zaz z1) (0, z5)).bind fun (z14 : (List S_api_Tree)) => some (⟨a0.Kind, z1.1, z14⟩ : S_api_Tree))
noncomputable def Kw : Nat → (S_api_Tree → Option S_api_Tree)
 | 0 => (fun _ => none)
 | k + 1 => Zb8 ((Kw k))
noncomputable def Zhv (a0 : S_api_Tree) : Option S_api_Tree := lim fun k => (Kw k) a0
noncomputable def Vu (a0 : S_api_Edit) (a1 : S_api_Tree) : Option (S_api_Tree × Bool) :=
 (Zgl a0 a1).bind fun y2 => cond (!y2.2) (some ((⟨0, [], []⟩ : S_api_Tree), false)) ((Zhv y2.1).bind fun y4 => some (y4, true))
noncomputable def Xt  : Option Bool :=
 (Vu (⟨2, ⟨0, [], []⟩, ⟨0, [], []⟩, ([(⟨0, 1, 5, 6⟩ : Zo)] : List Zo), [], 0, []⟩ : S_api_Edit) (⟨1, ([5] : List Int), []⟩ : S_api_Tree)).bind fun y2 => (Vu (⟨2, ⟨0, [], []⟩, ⟨0, [], []⟩, ([(⟨0, 1, 5, 6⟩ : Zo)] : List Zo), [], 0, []⟩ : S_api_Edit) (⟨1, ([7] : List Int), []⟩ : S_api_Tree)).bind fun y4 => (cond y2.2 (cond y4.2 (some false) (cond ((y2.1.Words.length : Int) == 1) ((Xy y2.1.Words 0).bind fun x8 => some (cond (cond (cond y2.2 (!y4.2) false) ((y2.1.Words.length : Int) == 1) false) (x8 == 6) false)) (some false))) (some false)).bind fun (z6 : Bool) => some z6
noncomputable def Jr (a0 : (List Int)) (s0_ : Int) : Option (Int ⊕ Int) :=
 (cond (decide (0 < s0_)) ((Xy a0 (IntKind.i64.wrap (s0_ - 1))).bind fun x4 => some (cond (decide (0 < s0_)) (x4 == 0) false)) (some false)).bind fun (z2 : Bool) => cond z2 (some (.inl (IntKind.i64.wrap (s0_ - 1)))) (some (.inr s0_))
noncomputable def Vx (a0 : (List Int)) : Option (List Int) :=
 (Zx (Jr a0) (a0.length : Int)).bind fun (z7 : Int) => (Za1 a0 0 z7).bind fun l10 => (Zc4 8 ([] : List Int) l10).bind fun l11 => some l11
noncomputable def Xp (Kf : (S_api_Tree → Option S_api_Tree)) (a0 : S_api_Tree) (s0_ : (Int × Int × (List S_api_Tree))) : Option ((Int × Int × (List S_api_Tree)) ⊕ (Int × (List S_api_Tree))) :=
 cond (decide (s0_.2.1 < (a0.Kids.length : Int))) (((Xy a0.Kids s0_.2.1).bind fun x4 => (Kf x4).bind fun y5 => (Zc4 56 s0_.2.2 ([y5] : List S_api_Tree)).bind fun l7 => cond (y5.Kind != 0) (some ((IntKind.i64.wrap (s0_.2.1 + 1)), l7)) (some (s0_.1, l7))).bind fun (z1 : (Int × (List S_api_Tree))) => some (.inl (z1.1, (IntKind.i64.wrap (s0_.2.1 + 1)), z1.2))) (some (.inr (s0_.1, s0_.2.2)))
noncomputable def Vq (Kf : (S_api_Tree → Option S_api_Tree)) (a0 : S_api_Tree) : Option S_api_Tree :=
 cond (a0.Kind == 0) (some (⟨0, [], []⟩ : S_api_Tree)) ((Zx (Xp Kf a0) (0, 0, ([] : List S_api_Tree))).bind fun (z10 : (Int × (List S_api_Tree))) => cond (a0.Kind == 1) ((Vx a0.Words).bind fun y14 => (Za1 z10.2 0 z10.1).bind fun l15 => some (⟨1, y14, l15⟩ : S_api_Tree)) ((Zc4 8 ([] : List Int) a0.Words).bind fun l17 => some (⟨a0.Kind, l17, z10.2⟩ : S_api_Tree)))
noncomputable def Yx : Nat → (S_api_Tree → Option S_api_Tree)
 | 0 => (fun _ => none)
 | k + 1 => Vq ((Yx k))
noncomputable def Gd (a0 : S_api_Tree) : Option S_api_Tree := lim fun k => (Yx k) a0
noncomputable def Jq (a0 : (List Int)) (a1 : (List Int)) (s0_ : Int) : Option (Int ⊕ (Unit ⊕ Unit)) :=
 cond (decide (s0_ < (a0.length : Int))) ((Xy a0 s0_).bind fun x3 => (Xy a1 s0_).bind fun x4 => cond (x3 != x4) (some (.inr (.inl ()))) (some (.inl (IntKind.i64.wrap (s0_ + 1))))) (some (.inr (.inr ())))
noncomputable def Vw (a0 : (List Int)) (a1 : (List Int)) : Option Bool :=
 cond ((a0.length : Int) != (a1.length : Int)) (some false) ((Zx (Jq a0 a1) 0).bind fun (z7 : (Unit ⊕ Unit)) => match z7 with | .inl z7 => some false | .inr z7 => some true)
noncomputable def Jl (Kg : (S_api_Tree → S_api_Tree → Option Bool)) (a0 : S_api_Tree) (a1 : S_api_Tree) (s0_ : Int) : Option (Int ⊕ (Unit ⊕ Unit)) :=
 cond (decide (s0_ < (a0.Kids.length : Int))) ((Xy a0.Kids s0_).bind fun x9 => (Xy a1.Kids s0_).bind fun x10 => (Kg x9 x10).bind fun y11 => cond (!y11) (some (.inr (.inl ()))) (some (.inl (IntKind.i64.wrap (s0_ + 1))))) (some (.inr (.inr ())))
noncomputable def Vr (Kg : (S_api_Tree → S_api_Tree → Option Bool)) (a0 : S_api_Tree) (a1 : S_api_Tree) : Option Bool :=
 (cond (a0.Kind != a1.Kind) (some true) ((Vw a0.Words a1.Words).bind fun y4 => some (cond (cond (a0.Kind != a1.Kind) true (!y4)) true ((a0.Kids.length : Int) != (a1.Kids.length : Int))))).bind fun (z2 : Bool) => cond z2 (some false) ((Zx (Jl Kg a0 a1) 0).bind fun (z14 : (Unit ⊕ Unit)) => match z14 with | .inl z14 => some false | .inr z14 => some true)
noncomputable def Qg : Nat → (S_api_Tree → S_api_Tree → Option Bool)
 | 0 => (fun _ _ => none)
 | k + 1 => Vr ((Qg k))
noncomputable def Zbc (a0 : S_api_Tree) (a1 : S_api_Tree) : Option Bool := lim fun k => (Qg k) a0 a1
noncomputable def Jc (a0 : S_api_Tree) (a1 : S_api_Tree) : Option Bool :=
 (Gd a0).bind fun y4 => (Gd a1).bind fun y5 => (Zbc y4 y5).bind fun y6 => some y6
noncomputable def Xq (Xm : (S_api_Edit → Int → Int → Option Int)) (a0 : S_api_Edit) (a1 : Int) (s0_ : (Int × Int)) : Option ((Int × Int) ⊕ Int) :=
 cond (cond (decide (s0_.2 < (a0.Kids.length : Int))) (decide (0 ≤ s0_.1)) false) ((Xy a0.Kids s0_.2).bind fun x6 => (Xm x6.E (IntKind.i64.wrap (a1 - 1)) s0_.1).bind fun y8 => some (.inl (y8, (IntKind.i64.wrap (s0_.2 + 1))))) (some (.inr s0_.1))
noncomputable def Jm (a0 : S_api_Edit) (s1_ : (Int × Int)) (s2_ : (Int × Int)) : Option ((Int × Int) ⊕ Int) :=
 (Xy a0.Ops s1_.2).bind fun x14 => cond (cond (decide (s2_.2 < (x14.L.length : Int))) (decide (0 ≤ s2_.1)) false) ((Xy a0.Ops s1_.2).bind fun x16 => (Xy x16.L s2_.2).bind fun x18 => (Xb x18 80 s2_.1).bind fun y19 => some (.inl (y19, (IntKind.i64.wrap (s2_.2 + 1))))) (some (.inr s2_.1))
noncomputable def Xr (Xm : (S_api_Edit → Int → Int → Option Int)) (a0 : S_api_Edit) (a1 : Int) (s1_ : (Int × Int)) : Option ((Int × Int) ⊕ Int) :=
 cond (cond (decide (s1_.2 < (a0.Ops.length : Int))) (decide (0 ≤ s1_.1)) false) (((Zx (Jm a0 s1_) (s1_.1, 0)).bind fun (z21 : Int) => cond (decide (0 ≤ z21)) ((Xy a0.Ops s1_.2).bind fun x22 => (Xm x22.E (IntKind.i64.wrap (a1 - 1)) z21).bind fun y24 => some y24) (some z21)).bind fun (z11 : Int) => some (.inl (z11, (IntKind.i64.wrap (s1_.2 + 1))))) (some (.inr s1_.1))
noncomputable def X5 (Xm : (S_api_Edit → Int → Int → Option Int)) (a0 : S_api_Edit) (a1 : Int) (a2 : Int) : Option Int :=
 cond (cond (a1 == 0) true (decide ((IntKind.i64.wrap ((IntKind.i64.wrap ((IntKind.i64.wrap (a2 - 1)) - (a0.Words.length : Int))) - (a0.Ops.length : Int))) < 0))) (some (-1)) ((Xb a0.Old 80 (IntKind.i64.wrap ((IntKind.i64.wrap ((IntKind.i64.wrap (a2 - 1)) - (a0.Words.length : Int))) - (a0.Ops.length : Int)))).bind fun y2 => (cond (decide (0 ≤ y2)) ((Xb a0.New 80 y2).bind fun y4 => some y4) (some y2)).bind fun (z3 : Int) => (Zx (Xq Xm a0 a1) (z3, 0)).bind fun (z10 : Int) => (Zx (Xr Xm a0 a1) (z10, 0)).bind fun (z27 : Int) => some z27)
noncomputable def Yd : Nat → (S_api_Edit → Int → Int → Option Int)
 | 0 => (fun _ _ _ => none)
 | k + 1 => X5 ((Yd k))
noncomputable def Zbd (a0 : S_api_Edit) (a1 : Int) (a2 : Int) : Option Int := lim fun k => (Yd k) a0 a1 a2
noncomputable def Ul (a0 : S_api_Edit) : Option Bool :=
 (Zbd a0 80 3000).bind fun y2 => some (decide (0 ≤ y2))
noncomputable def X6 (a0 : S_api_Tree) : Option Bool :=
 some (cond (a0.Kind == 0) ((IntKind.i64.wrap ((a0.Words.length : Int) + (a0.Kids.length : Int))) == 0) false)
noncomputable def Qz (s0_ : (Int × Int × (Arr Int 8))) : Option ((Int × Int × (Arr Int 8)) ⊕ (Arr Int 8)) :=
 cond (decide (s0_.2.1 < 8)) ((Xy s0_.2.2.1 s0_.2.1).bind fun x15 => some (.inl ((IntKind.u64.wrap (Int.tdiv s0_.1 256)), (IntKind.i64.wrap (s0_.2.1 + 1)), (Arr.put s0_.2.2 s0_.2.1 (IntKind.u8.wrap (Int.tmod s0_.1 256)))))) (some (.inr s0_.2.2))
noncomputable def Jb (a0 : Int) : Option (Arr Int 8) :=
 ((some (⟨[0, 0, 0, 0, 0, 0, 0, 0], rfl⟩ : (Arr Int 8)))).bind fun y3 => ((some (⟨[0, 0, 0, 0, 0, 0, 0, 0], rfl⟩ : (Arr Int 8)))).bind fun y9 => (Zx (Qz) (a0, 0, y9)).bind fun (z18 : (Arr Int 8)) => some z18
noncomputable def Qb (a1 : Int) (s0_ : (Int × Int)) : Option ((Int × Int) ⊕ Int) :=
 cond (decide (s0_.2 < a1)) (some (.inl ((IntKind.u8.wrap (Int.tdiv s0_.1 2)), (IntKind.i64.wrap (s0_.2 + 1))))) (some (.inr s0_.1))
noncomputable def Va (a0 : Int) (a1 : Int) : Option Bool :=
 (Zx (Qb a1) (a0, 0)).bind fun (z2 : Int) => some ((Int.tmod z2 2) == 1)
noncomputable def Vb (a0 : (List Int)) (a1 : Int) (s0_ : (Int × Int)) : Option ((Int × Int) ⊕ Int) :=
 cond (decide (0 ≤ s0_.2)) ((Xy a0 (IntKind.i64.wrap (a1 + s0_.2))).bind fun x1 => some (.inl ((IntKind.u64.wrap ((IntKind.u64.wrap (s0_.1 * 256)) + (IntKind.u64.wrap x1))), (IntKind.i64.wrap (s0_.2 - 1))))) (some (.inr s0_.1))
noncomputable def Zan (a0 : (List Int)) (a1 : Int) : Option Int :=
 (Zx (Vb a0 a1) (0, 7)).bind fun (z3 : Int) => some z3
noncomputable def Km (a2 : Int) (y9 : (Arr Int 8)) (s0_ : (Int × (Arr Int 8))) : Option ((Int × (Arr Int 8)) ⊕ (Arr Int 8)) :=
 cond (decide (s0_.1 < 8)) (((Va a2 s0_.1).bind fun y17 => cond y17 ((Xy y9.1 s0_.1).bind fun x18 => (Xy s0_.2.1 s0_.1).bind fun x19 => some (Arr.put s0_.2 s0_.1 x18)) (some s0_.2)).bind fun (z15 : (Arr Int 8)) => some (.inl ((IntKind.i64.wrap (s0_.1 + 1)), z15))) (some (.inr s0_.2))
noncomputable def Uj (a0 : Int) (a1 : Int) (a2 : Int) : Option Int :=
 (Jb a0).bind fun y8 => (Jb a1).bind fun y9 => ((some (⟨[0, 0, 0, 0, 0, 0, 0, 0], rfl⟩ : (Arr Int 8)))).bind fun y10 => (Zx (Km a2 y9) (0, y8)).bind fun (z23 : (Arr Int 8)) => (Zan z23.1 0).bind fun y29 => some y29
noncomputable def Qr (a0 : Int) (a1 : Int) : Option Bool :=
 (Uj a0 0 a1).bind fun y2 => some (y2 == 0)
noncomputable def Kc (a0 : S_api_Edit) : Option Bool :=
 (cond (a0.Kind == 0) ((X6 a0.Old).bind fun y6 => cond y6 ((X6 a0.New).bind fun y7 => some (cond (cond (cond (cond (a0.Kind == 0) y6 false) y7 false) ((IntKind.i64.wrap ((IntKind.i64.wrap ((a0.Words.length : Int) + (a0.Kids.length : Int))) + (a0.Ops.length : Int))) == 0) false) (a0.List_ == 0) false)) (some false)) (some false)).bind fun (z3 : Bool) => some z3
noncomputable def Qi (a0 : S_api_Edit) (s0_ : (Int × Int × Int)) : Option ((Int × Int × Int) ⊕ (Int × Int)) :=
 cond (decide (s0_.2.2 < (a0.Ops.length : Int))) (((Xy a0.Ops s0_.2.2).bind fun x3 => (cond (x3.Kind == 3) (some 1) (some (IntKind.i64.wrap (x3.N + (x3.L.length : Int))))).bind fun (z4 : Int) => (cond (x3.Kind != 2) (some (IntKind.i64.wrap (s0_.1 + z4))) (some s0_.1)).bind fun (z6 : Int) => (cond (x3.Kind != 1) (some (IntKind.i64.wrap (s0_.2.1 + z4))) (some s0_.2.1)).bind fun (z8 : Int) => (cond (decide (1048576 < z6)) (some 1048576) (some z6)).bind fun (z10 : Int) => cond (decide (1048576 < z8)) (some (z10, 1048576)) (some (z10, z8))).bind fun (z1 : (Int × Int)) => some (.inl (z1.1, z1.2, (IntKind.i64.wrap (s0_.2.2 + 1))))) (some (.inr (s0_.1, s0_.2.1)))
noncomputable def Qh (a0 : S_api_Edit) : Option (Int × Int) :=
 (Zx (Qi a0) (0, 0, 0)).bind fun (z14 : (Int × Int)) => some (z14.1, z14.2)
noncomputable def X9 (a0 : S_api_Edit) (s0_ : (Int × Int)) : Option ((Int × Int) ⊕ (Unit ⊕ Unit)) :=
 cond (decide (s0_.2 < (a0.Words.length : Int))) ((Xy a0.Words s0_.2).bind fun x19 => (cond (decide (x19.At ≤ s0_.1)) (some true) (cond (decide (65534 < x19.At)) (some true) (cond (x19.Mask == 0) (some true) ((Qr x19.Old x19.Mask).bind fun y25 => cond y25 ((Qr x19.New x19.Mask).bind fun y26 => some (cond (cond (cond (cond (decide (x19.At ≤ s0_.1)) true (decide (65534 < x19.At))) true (x19.Mask == 0)) true (!y25)) true (!y26))) (some true))))).bind fun (z22 : Bool) => cond z22 (some (.inr (.inl ()))) (some (.inl (x19.At, (IntKind.i64.wrap (s0_.2 + 1)))))) (some (.inr (.inr ())))
noncomputable def Qa (Yt : (S_api_Edit → Int → Option Bool)) (a0 : S_api_Edit) (a1 : Int) (s1_ : (Int × Int)) : Option ((Int × Int) ⊕ (Unit ⊕ Unit)) :=
 cond (decide (s1_.2 < (a0.Kids.length : Int))) ((Xy a0.Kids s1_.2).bind fun x35 => (cond (decide (x35.At ≤ s1_.1)) (some true) (cond (decide (65534 < x35.At)) (some true) (cond (x35.E.Kind == 0) (some true) ((Yt x35.E (IntKind.i64.wrap (a1 - 1))).bind fun y39 => some (cond (cond (cond (decide (x35.At ≤ s1_.1)) true (decide (65534 < x35.At))) true (x35.E.Kind == 0)) true (!y39)))))).bind fun (z37 : Bool) => cond z37 (some (.inr (.inl ()))) (some (.inl (x35.At, (IntKind.i64.wrap (s1_.2 + 1)))))) (some (.inr (.inr ())))
noncomputable def Xh (Xw : (Int → S_api_Op → Int → Option Bool)) (a0 : S_api_Edit) (a1 : Int) (s2_ : Int) : Option (Int ⊕ (Unit ⊕ Unit)) :=
 cond (decide (s2_ < (a0.Ops.length : Int))) ((Xy a0.Ops s2_).bind fun x48 => (Xw a0.List_ x48 (IntKind.i64.wrap (a1 - 1))).bind fun y49 => cond (!y49) (some (.inr (.inl ()))) (some (.inl (IntKind.i64.wrap (s2_ + 1))))) (some (.inr (.inr ())))
noncomputable def K4 (Yt : (S_api_Edit → Int → Option Bool)) (Xw : (Int → S_api_Op → Int → Option Bool)) (a0 : S_api_Edit) (a1 : Int) : Option Bool :=
 cond (cond (cond (a1 == 0) true (decide (a0.Kind < 0))) true (decide (3 < a0.Kind))) (some false) ((cond (a0.Kind != 1) ((X6 a0.Old).bind fun y6 => cond y6 ((X6 a0.New).bind fun y7 => some (cond (cond (cond (a0.Kind != 1) (!(cond y6 y7 false)) false) true (cond (a0.Kind != 2) (decide (0 < (IntKind.i64.wrap ((a0.Words.length : Int) + (a0.Kids.length : Int))))) false)) true (cond (a0.Kind != 3) (cond (a0.List_ != 0) true (decide (0 < (a0.Ops.length : Int)))) false))) (some true)) (some (cond (cond (a0.Kind != 2) (decide (0 < (IntKind.i64.wrap ((a0.Words.length : Int) + (a0.Kids.length : Int))))) false) true (cond (a0.Kind != 3) (cond (a0.List_ != 0) true (decide (0 < (a0.Ops.length : Int)))) false)))).bind fun (z3 : Bool) => cond z3 (some false) (cond (a0.Kind == 1) (((Jd a0.Old 64).bind fun y15 => cond y15 ((Jd a0.New 64).bind fun y16 => some (cond (cond (cond y15 y16 false) (a0.Old.Kind != 10) false) (a0.New.Kind != 10) false)) (some false)).bind fun (z12 : Bool) => some z12) ((Zx (X9 a0) ((-1), 0)).bind fun (z33 : (Unit ⊕ Unit)) => match z33 with | .inl z33 => some false | .inr z33 => (Zx (Qa Yt a0 a1) ((-1), 0)).bind fun (z45 : (Unit ⊕ Unit)) => match z45 with | .inl z45 => some false | .inr z45 => cond (cond (a0.Kind == 3) (cond (decide (a0.List_ < 2)) true (decide (9 < a0.List_))) false) (some false) ((Zx (Xh Xw a0 a1) 0).bind fun (z52 : (Unit ⊕ Unit)) => match z52 with | .inl z52 => some false | .inr z52 => (Qh a0).bind fun y54 => some (cond (decide (y54.1 < 1048576)) (decide (y54.2 < 1048576)) false)))))
noncomputable def K5 (a0 : Int) (a1 : S_api_Op) (s0_ : Int) : Option (Int ⊕ (Unit ⊕ Unit)) :=
 cond (decide (s0_ < (a1.L.length : Int))) ((Za1 a1.L s0_ (IntKind.i64.wrap (s0_ + 1))).bind fun l10 => (Jd (⟨a0, [], l10⟩ : S_api_Tree) 64).bind fun y11 => cond (!y11) (some (.inr (.inl ()))) (some (.inl (IntKind.i64.wrap (s0_ + 1))))) (some (.inr (.inr ())))
noncomputable def U0 (Yt : (S_api_Edit → Int → Option Bool)) (Xw : (Int → S_api_Op → Int → Option Bool)) (a0 : Int) (a1 : S_api_Op) (a2 : Int) : Option Bool :=
 cond (a1.Kind == 0) ((cond (decide (1 ≤ a1.N)) (cond (decide (a1.N ≤ 1048576)) (cond ((a1.L.length : Int) == 0) ((Kc a1.E).bind fun y4 => some (cond (cond (cond (decide (1 ≤ a1.N)) (decide (a1.N ≤ 1048576)) false) ((a1.L.length : Int) == 0) false) y4 false)) (some false)) (some false)) (some false)).bind fun (z2 : Bool) => some z2) (cond (cond (cond (a1.N != 0) true (decide (a1.Kind < 0))) true (decide (3 < a1.Kind))) (some false) (cond (decide (a1.Kind < 3)) ((Zx (K5 a0 a1) 0).bind fun (z14 : (Unit ⊕ Unit)) => match z14 with | .inl z14 => some false | .inr z14 => (cond (decide (0 < (a1.L.length : Int))) ((Kc a1.E).bind fun y18 => some (cond (decide (0 < (a1.L.length : Int))) y18 false)) (some false)).bind fun (z16 : Bool) => some z16) ((cond (decide (0 < (a1.L.length : Int))) (some true) (cond (a1.E.Kind == 0) (some true) (cond (decide (a0 ≤ 7)) (some true) ((Yt a1.E a2).bind fun y23 => some (cond (cond (cond (decide (0 < (a1.L.length : Int))) true (a1.E.Kind == 0)) true (decide (a0 ≤ 7))) true (!y23)))))).bind fun (z21 : Bool) => cond z21 (some false) (some (cond (cond (a0 == 8) true (a1.E.Kind == 2)) true (cond (cond (a1.E.Kind == 1) (a1.E.Old.Kind == 1) false) (a1.E.New.Kind == 1) false))))))
noncomputable def Z9 : Nat → ((S_api_Edit → Int → Option Bool) × (Int → S_api_Op → Int → Option Bool))
 | 0 => ((fun _ _ => none), (fun _ _ _ => none))
 | k + 1 => (K4 ((Z9 k).1) ((Z9 k).2), U0 ((Z9 k).1) ((Z9 k).2))
noncomputable def Zas (a0 : S_api_Edit) (a1 : Int) : Option Bool := lim fun k => (Z9 k).1 a0 a1
noncomputable def Qx (Xd : (S_api_Edit → Option Bool)) (a0 : S_api_Edit) (s0_ : Int) : Option (Int ⊕ (Unit ⊕ Unit)) :=
 cond (decide (s0_ < (a0.Kids.length : Int))) ((Xy a0.Kids s0_).bind fun x6 => (Xd x6.E).bind fun y8 => cond (!y8) (some (.inr (.inl ()))) (some (.inl (IntKind.i64.wrap (s0_ + 1))))) (some (.inr (.inr ())))
noncomputable def Qy (Xd : (S_api_Edit → Option Bool)) (a0 : S_api_Edit) (s1_ : Int) : Option (Int ⊕ (Unit ⊕ Unit)) :=
 cond (decide (s1_ < (a0.Ops.length : Int))) ((Xy a0.Ops s1_).bind fun x15 => (Xd x15.E).bind fun y17 => cond (!y17) (some (.inr (.inl ()))) (some (.inl (IntKind.i64.wrap (s1_ + 1))))) (some (.inr (.inr ())))
noncomputable def K3 (Xd : (S_api_Edit → Option Bool)) (a0 : S_api_Edit) : Option Bool :=
 (Qh a0).bind fun y2 => cond (cond (decide (2000 < y2.1)) true (decide (2000 < y2.2))) (some false) ((Zx (Qx Xd a0) 0).bind fun (z11 : (Unit ⊕ Unit)) => match z11 with | .inl z11 => some false | .inr z11 => (Zx (Qy Xd a0) 0).bind fun (z20 : (Unit ⊕ Unit)) => match z20 with | .inl z20 => some false | .inr z20 => some true)
noncomputable def X2 : Nat → (S_api_Edit → Option Bool)
 | 0 => (fun _ => none)
 | k + 1 => K3 ((X2 k))
noncomputable def Zar (a0 : S_api_Edit) : Option Bool := lim fun k => (X2 k) a0
noncomputable def Vy (a0 : S_api_Edit) : Option Bool :=
 ((Ul a0).bind fun y8 => cond y8 ((Zas a0 64).bind fun y9 => cond y9 ((Zar a0).bind fun y10 => some (cond (cond y8 y9 false) y10 false)) (some false)) (some false)).bind fun (z4 : Bool) => some z4
noncomputable def J9 (a0 : S_api_Edit) (a1 : S_api_Tree) (a2 : S_api_Tree) : Option Bool :=
 ((Ka a1).bind fun y8 => cond y8 ((Ka a2).bind fun y9 => cond y9 ((Vy a0).bind fun y10 => some (cond (cond (!y8) true (!y9)) true (!y10))) (some true)) (some true)).bind fun (z4 : Bool) => cond z4 ((Xt).bind fun y14 => some y14) ((Vu a0 a1).bind fun y16 => (Vu a0 a2).bind fun y18 => (cond y16.2 (cond y18.2 ((Jc y16.1 y18.1).bind fun y30 => (Jc a1 a2).bind fun y31 => cond (y30 == y31) ((Xt).bind fun y32 => some (cond (cond (cond (!y16.2) true (!y18.2)) true (y30 == y31)) y32 false)) (some false)) ((Xt).bind fun y33 => some y33)) ((Xt).bind fun y34 => some y34)).bind fun (z24 : Bool) => some z24)
end Go.Proofs.Ytmpkfolcikhofaa
