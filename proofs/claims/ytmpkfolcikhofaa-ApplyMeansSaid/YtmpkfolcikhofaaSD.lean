/- Part SD of this seat's mirrors: functions of the seat's program, and the plain functions that they are; each theorem bears its own conditions. -/
import Derived.Test.YtmpkfolcikhofaaH25
namespace Go.Proofs.Ytmpkfolcikhofaa
open Go.RowKit
set_option linter.unusedVariables false
set_option linter.unusedSimpArgs false
set_option maxRecDepth 100000
set_option maxHeartbeats 1000000
structure S_api_Tree where
 Kind : Int
 Words : (List Int)
 Kids : (List S_api_Tree)
noncomputable def Y4 (Qh : (S_api_Tree → Int → Int → Option Int)) (a0 : S_api_Tree) (a1 : Int) (s0_ : (Int × Int)) : Option ((Int × Int) ⊕ Int) :=
 cond (cond (decide (s0_.2 < (a0.Kids.length : Int))) (decide (0 ≤ s0_.1)) false) ((Xx a0.Kids s0_.2).bind fun x1 => (Qh x1 (IntKind.i64.wrap (a1 - 1)) s0_.1).bind fun y2 => some (.inl (y2, (IntKind.i64.wrap (s0_.2 + 1))))) (some (.inr s0_.1))
noncomputable def Xa (Qh : (S_api_Tree → Int → Int → Option Int)) (a0 : S_api_Tree) (a1 : Int) (a2 : Int) : Option Int :=
 cond (cond (a1 == 0) true (decide ((IntKind.i64.wrap ((IntKind.i64.wrap (a2 - 1)) - (a0.Words.length : Int))) < 0))) (some (-1)) ((Zx (Y4 Qh a0 a1) ((IntKind.i64.wrap ((IntKind.i64.wrap (a2 - 1)) - (a0.Words.length : Int))), 0)).bind fun (z4 : Int) => some z4)
noncomputable def Ye : Nat → (S_api_Tree → Int → Int → Option Int)
 | 0 => (fun _ _ _ => none)
 | k + 1 => Xa ((Ye k))
noncomputable def Xc (a0 : S_api_Tree) (a1 : Int) (a2 : Int) : Option Int := lim fun k => (Ye k) a0 a1 a2
noncomputable def Ue (a0 : S_api_Tree) : Option Bool :=
 (Xc a0 80 3000).bind fun y2 => some (decide (0 ≤ y2))
noncomputable def Zam (a0 : Int) : Option Int :=
 cond (a0 == 0) (some 0) (cond (a0 == 1) (some 1) (cond (a0 == 2) (some 8) (cond (a0 == 3) (some 16) (cond (a0 == 4) (some 32) (cond (a0 == 5) (some 64) (some (-1)))))))
noncomputable def Xb (y2 : Int) (s0_ : (Int × Int)) : Option ((Int × Int) ⊕ Int) :=
 cond (decide (s0_.2 < y2)) (some (.inl ((IntKind.u64.wrap (Int.tdiv s0_.1 2)), (IntKind.i64.wrap (s0_.2 + 1))))) (some (.inr s0_.1))
noncomputable def J9 (a0 : Int) (a1 : Int) : Option Bool :=
 (Zam a0).bind fun y2 => cond (decide (y2 < 0)) (some false) ((Zx (Xb y2) (a1, 0)).bind fun (z4 : Int) => some (z4 == 0))
noncomputable def Qu (Je : (S_api_Tree → Int → Option Bool)) (a0 : S_api_Tree) (a1 : Int) (s0_ : Int) : Option (Int ⊕ (Unit ⊕ Unit)) :=
 cond (decide (s0_ < (a0.Kids.length : Int))) ((Xx a0.Kids s0_).bind fun x2 => (Je x2 (IntKind.i64.wrap (a1 - 1))).bind fun y4 => cond (!y4) (some (.inr (.inl ()))) ((cond ((cond (decide (2 ≤ a0.Kind)) (decide (a0.Kind ≤ 7)) false) != (x2.Kind == 10)) (some true) (cond (a0.Kind == 9) (cond (x2.Kind != 1) (some true) (cond (decide (2 ≤ a0.Kind)) (cond (decide (a0.Kind ≤ 7)) ((Xx x2.Words 0).bind fun x14 => (J9 (IntKind.i64.wrap (a0.Kind - 2)) x14).bind fun y15 => some (cond (cond ((cond (decide (2 ≤ a0.Kind)) (decide (a0.Kind ≤ 7)) false) != (x2.Kind == 10)) true (cond (a0.Kind == 9) (x2.Kind != 1) false)) true (cond (cond (decide (2 ≤ a0.Kind)) (decide (a0.Kind ≤ 7)) false) (!y15) false))) (some (cond (cond ((cond (decide (2 ≤ a0.Kind)) (decide (a0.Kind ≤ 7)) false) != (x2.Kind == 10)) true (cond (a0.Kind == 9) (x2.Kind != 1) false)) true false))) (some (cond (cond ((cond (decide (2 ≤ a0.Kind)) (decide (a0.Kind ≤ 7)) false) != (x2.Kind == 10)) true (cond (a0.Kind == 9) (x2.Kind != 1) false)) true false)))) (cond (decide (2 ≤ a0.Kind)) (cond (decide (a0.Kind ≤ 7)) ((Xx x2.Words 0).bind fun x16 => (J9 (IntKind.i64.wrap (a0.Kind - 2)) x16).bind fun y17 => some (cond (cond ((cond (decide (2 ≤ a0.Kind)) (decide (a0.Kind ≤ 7)) false) != (x2.Kind == 10)) true (cond (a0.Kind == 9) (x2.Kind != 1) false)) true (cond (cond (decide (2 ≤ a0.Kind)) (decide (a0.Kind ≤ 7)) false) (!y17) false))) (some (cond (cond ((cond (decide (2 ≤ a0.Kind)) (decide (a0.Kind ≤ 7)) false) != (x2.Kind == 10)) true (cond (a0.Kind == 9) (x2.Kind != 1) false)) true false))) (some (cond (cond ((cond (decide (2 ≤ a0.Kind)) (decide (a0.Kind ≤ 7)) false) != (x2.Kind == 10)) true (cond (a0.Kind == 9) (x2.Kind != 1) false)) true false))))).bind fun (z9 : Bool) => cond z9 (some (.inr (.inl ()))) (some (.inl (IntKind.i64.wrap (s0_ + 1)))))) (some (.inr (.inr ())))
noncomputable def Kz (Je : (S_api_Tree → Int → Option Bool)) (a0 : S_api_Tree) (a1 : Int) : Option Bool :=
 cond (a0.Kind == 0) (some (cond ((a0.Words.length : Int) == 0) ((a0.Kids.length : Int) == 0) false)) (cond (a0.Kind == 10) (some (cond ((a0.Words.length : Int) == 1) ((a0.Kids.length : Int) == 0) false)) (cond (cond (cond (cond (cond (cond (decide (a0.Kind < 0)) true (decide (10 < a0.Kind))) true (a1 == 0)) true (decide (65536 ≤ (a0.Words.length : Int)))) true (cond (a0.Kind == 1) (decide (65536 ≤ (a0.Kids.length : Int))) false)) true (decide (1048576 ≤ (a0.Kids.length : Int)))) (some false) (cond (cond (decide (1 < a0.Kind)) (decide (0 < (a0.Words.length : Int))) false) (some false) ((Zx (Qu Je a0 a1) 0).bind fun (z28 : (Unit ⊕ Unit)) => match z28 with | .inl z28 => some false | .inr z28 => some true))))
noncomputable def X0 : Nat → (S_api_Tree → Int → Option Bool)
 | 0 => (fun _ _ => none)
 | k + 1 => Kz ((X0 k))
noncomputable def Jb (a0 : S_api_Tree) (a1 : Int) : Option Bool := lim fun k => (X0 k) a0 a1
noncomputable def Vs (a0 : S_api_Tree) : Option Bool :=
 ((Ue a0).bind fun y6 => cond y6 ((Jb a0 64).bind fun y7 => some (cond (cond y6 y7 false) (a0.Kind != 10) false)) (some false)).bind fun (z3 : Bool) => some z3
noncomputable def Kl (a0 : (List Int)) (s0_ : Int) : Option (Int ⊕ Int) :=
 (cond (decide (0 < s0_)) ((Xx a0 (IntKind.i64.wrap (s0_ - 1))).bind fun x4 => some (cond (decide (0 < s0_)) (x4 == 0) false)) (some false)).bind fun (z2 : Bool) => cond z2 (some (.inl (IntKind.i64.wrap (s0_ - 1)))) (some (.inr s0_))
noncomputable def Jc (a0 : (List Int)) : Option (List Int) :=
 (Zx (Kl a0) (a0.length : Int)).bind fun (z7 : Int) => (Zax a0 0 z7).bind fun l9 => some l9
noncomputable def Yz (a0 : (List Int)) (a1 : (List Int)) (s0_ : Int) : Option (Int ⊕ (Unit ⊕ Unit)) :=
 cond (decide (s0_ < (a0.length : Int))) ((Xx a0 s0_).bind fun x3 => (Xx a1 s0_).bind fun x4 => cond (x3 != x4) (some (.inr (.inl ()))) (some (.inl (IntKind.i64.wrap (s0_ + 1))))) (some (.inr (.inr ())))
noncomputable def Yx (a0 : (List Int)) (a1 : (List Int)) : Option Bool :=
 cond ((a0.length : Int) != (a1.length : Int)) (some false) ((Zx (Yz a0 a1) 0).bind fun (z7 : (Unit ⊕ Unit)) => match z7 with | .inl z7 => some false | .inr z7 => some true)
noncomputable def K9 (a0 : (List S_api_Tree)) (s0_ : Int) : Option (Int ⊕ Int) :=
 (cond (decide (0 < s0_)) ((Xx a0 (IntKind.i64.wrap (s0_ - 1))).bind fun x6 => some (cond (decide (0 < s0_)) (x6.Kind == 0) false)) (some false)).bind fun (z3 : Bool) => cond z3 (some (.inl (IntKind.i64.wrap (s0_ - 1)))) (some (.inr s0_))
noncomputable def Kh (a0 : (List S_api_Tree)) : Option (List S_api_Tree) :=
 (Zx (K9 a0) (a0.length : Int)).bind fun (z10 : Int) => (Zax a0 0 z10).bind fun l12 => some l12
noncomputable def Za0 (Ji : (S_api_Tree → S_api_Tree → Option Bool)) (Zq : ((List S_api_Tree) → (List S_api_Tree) → Option Bool)) (a0 : S_api_Tree) (a1 : S_api_Tree) : Option Bool :=
 cond (a0.Kind != a1.Kind) (some false) (cond (a0.Kind == 0) (some true) (cond (a0.Kind == 1) (((Jc a0.Words).bind fun y14 => (Jc a1.Words).bind fun y15 => (Yx y14 y15).bind fun y16 => cond y16 ((Kh a0.Kids).bind fun y17 => (Kh a1.Kids).bind fun y18 => (Zq y17 y18).bind fun y19 => some (cond y16 y19 false)) (some false)).bind fun (z7 : Bool) => some z7) (((Yx a0.Words a1.Words).bind fun y26 => cond y26 ((Zq a0.Kids a1.Kids).bind fun y27 => some (cond y26 y27 false)) (some false)).bind fun (z23 : Bool) => some z23)))
noncomputable def Z4 (Ji : (S_api_Tree → S_api_Tree → Option Bool)) (a0 : (List S_api_Tree)) (a1 : (List S_api_Tree)) (s0_ : Int) : Option (Int ⊕ (Unit ⊕ Unit)) :=
 cond (decide (s0_ < (a0.length : Int))) ((Xx a0 s0_).bind fun x2 => (Xx a1 s0_).bind fun x4 => (Ji x2 x4).bind fun y6 => cond (!y6) (some (.inr (.inl ()))) (some (.inl (IntKind.i64.wrap (s0_ + 1))))) (some (.inr (.inr ())))
noncomputable def Z6 (Ji : (S_api_Tree → S_api_Tree → Option Bool)) (Zq : ((List S_api_Tree) → (List S_api_Tree) → Option Bool)) (a0 : (List S_api_Tree)) (a1 : (List S_api_Tree)) : Option Bool :=
 cond ((a0.length : Int) != (a1.length : Int)) (some false) ((Zx (Z4 Ji a0 a1) 0).bind fun (z9 : (Unit ⊕ Unit)) => match z9 with | .inl z9 => some false | .inr z9 => some true)
noncomputable def Yv : Nat → ((S_api_Tree → S_api_Tree → Option Bool) × ((List S_api_Tree) → (List S_api_Tree) → Option Bool))
 | 0 => ((fun _ _ => none), (fun _ _ => none))
 | k + 1 => (Za0 ((Yv k).1) ((Yv k).2), Z6 ((Yv k).1) ((Yv k).2))
noncomputable def Zgm (a0 : S_api_Tree) (a1 : S_api_Tree) : Option Bool := lim fun k => (Yv k).1 a0 a1
noncomputable def Yl (a0 : (List S_api_Tree)) (a1 : (List S_api_Tree)) : Option Bool := lim fun k => (Yv k).2 a0 a1
noncomputable def Kg (a0 : List Int) : Option (List Int) :=
 Zc0 8 ([] : List Int) a0
noncomputable def Qm (a0 : List S_api_Tree) : Option (List S_api_Tree) :=
 Zc0 56 ([] : List S_api_Tree) a0
noncomputable def Zcc (a0 : S_api_Tree) (a1 : Int) : Option Int :=
 cond (cond (decide (a1 < 0)) true (decide ((a0.Words.length : Int) ≤ a1))) (some 0) ((Xx a0.Words a1).bind fun x2 => some x2)
noncomputable def Ve (a0 : Int) : Option Bool :=
 some (cond (decide (a0 < 0)) true (decide (65534 < a0)))
noncomputable def Gh (a0 : Int) (s0_ : (Int × Int)) : Option ((Int × Int) ⊕ Int) :=
 cond (decide (s0_.2 < 8)) (((Zju (0 ≤ s0_.2)).bind fun u3 => cond ((IntKind.u8.wrap (Zep .u8 (Int.fdiv a0 (2 ^ min (Int.toNat s0_.2) 8)) 1)) == 1) ((Zju (0 ≤ (IntKind.i64.wrap (8 * s0_.2)))).bind fun u4 => some (IntKind.u64.wrap (Zo8 .u64 s0_.1 (IntKind.u64.wrap (255 * 2 ^ min (Int.toNat (IntKind.i64.wrap (8 * s0_.2))) 64))))) (some s0_.1)).bind fun (z1 : Int) => some (.inl (z1, (IntKind.i64.wrap (s0_.2 + 1))))) (some (.inr s0_.1))
noncomputable def Gg (a0 : Int) : Option Int :=
 (Zx (Gh a0) (0, 0)).bind fun (z7 : Int) => some z7
noncomputable def Zbr (a0 : Int) (a1 : Int) (a2 : Int) : Option Int :=
 (Gg a2).bind fun y2 => some (IntKind.u64.wrap (Zo8 .u64 (IntKind.u64.wrap (Zrp .u64 a0 y2)) (IntKind.u64.wrap (Zep .u64 a1 y2))))
noncomputable def K6 (a1 : Int) (a2 : Int) (s0_ : (List Int)) : Option ((List Int) ⊕ (List Int)) :=
 cond (cond (decide ((s0_.length : Int) ≤ a1)) (a2 != 0) false) ((Zc0 8 s0_ ([0] : List Int)).bind fun l1 => some (.inl l1)) (some (.inr s0_))
noncomputable def Uv (a0 : S_api_Tree) (a1 : Int) (a2 : Int) : Option S_api_Tree :=
 (Zx (K6 a1 a2) a0.Words).bind fun (z3 : (List Int)) => cond (decide (a1 < (z3.length : Int))) ((Xx z3 a1).bind fun x4 => some (⟨a0.Kind, (Zar z3 a1 a2), a0.Kids⟩ : S_api_Tree)) (some (⟨a0.Kind, z3, a0.Kids⟩ : S_api_Tree))
noncomputable def Zdh (a0 : S_api_Tree) (a1 : Int) : Option S_api_Tree :=
 cond (cond (decide (a1 < 0)) true (decide ((a0.Kids.length : Int) ≤ a1))) (some (⟨0, [], []⟩ : S_api_Tree)) ((Xx a0.Kids a1).bind fun x2 => some x2)
noncomputable def Vr (a1 : Int) (a2 : S_api_Tree) (s0_ : (List S_api_Tree)) : Option ((List S_api_Tree) ⊕ (List S_api_Tree)) :=
 cond (cond (decide ((s0_.length : Int) ≤ a1)) (a2.Kind != 0) false) ((Zc0 56 s0_ ([(⟨0, [], []⟩ : S_api_Tree)] : List S_api_Tree)).bind fun l1 => (Xx l1 (s0_.length : Int)).bind fun x2 => some (.inl (s0_ ++ [(⟨0, [], []⟩ : S_api_Tree)]))) (some (.inr s0_))
noncomputable def Gf (a0 : S_api_Tree) (a1 : Int) (a2 : S_api_Tree) : Option S_api_Tree :=
 (Zx (Vr a1 a2) a0.Kids).bind fun (z5 : (List S_api_Tree)) => cond (decide (a1 < (z5.length : Int))) ((Xx z5 a1).bind fun x6 => some (⟨a0.Kind, a0.Words, (Zar z5 a1 a2)⟩ : S_api_Tree)) (some (⟨a0.Kind, a0.Words, z5⟩ : S_api_Tree))
noncomputable def Zcb (a0 : Int) : Option Bool :=
 some (cond (decide (2 ≤ a0)) (decide (a0 ≤ 9)) false)
structure Zo where
 At : Int
 Mask : Int
 Old : Int
 New : Int
mutual
structure S_api_Edit where
 Kind : Int
 Old : S_api_Tree
 New : S_api_Tree
 Words : (List Zo)
 Kids : (List S_api_KidEdit)
 List_ : Int
 Ops : (List S_api_Op)
structure S_api_KidEdit where
 At : Int
 E : S_api_Edit
structure S_api_Op where
 Kind : Int
 N : Int
 L : (List S_api_Tree)
 E : S_api_Edit
end
structure Zf where
 left : (List S_api_Tree)
 out : (List S_api_Tree)
noncomputable def Vk (Yi : (S_api_Edit → S_api_Tree → Option (S_api_Tree × Bool))) (Z8 : (S_api_Edit → S_api_Tree → Option (S_api_Tree × Bool))) (Yo : (S_api_Edit → S_api_Tree → Option (S_api_Tree × Bool))) (Z3 : (Zf → S_api_Op → Option (Bool × Zf))) (Zz : (Zf → S_api_Edit → Option (Bool × Zf))) (a0 : S_api_Edit) (a1 : S_api_Tree) : Option (S_api_Tree × Bool) :=
 cond (a0.Kind == 0) (some (a1, true)) (cond (a0.Kind == 1) ((Zgm a1 a0.Old).bind fun y2 => some (a0.New, y2)) (cond (a0.Kind == 2) ((Z8 a0 a1).bind fun y4 => some (y4.1, y4.2)) (cond (a0.Kind == 3) ((Yo a0 a1).bind fun y6 => some (y6.1, y6.2)) (some ((⟨0, [], []⟩ : S_api_Tree), false)))))
noncomputable def Xo (a0 : S_api_Edit) (a1 : S_api_Tree) (s0_ : (Int × Int × (List Int) × (List S_api_Tree))) : Option ((Int × Int × (List Int) × (List S_api_Tree)) ⊕ (Unit ⊕ (Int × (List Int) × (List S_api_Tree)))) :=
 cond (decide (s0_.1 < (a0.Words.length : Int))) ((Xx a0.Words s0_.1).bind fun x110 => (Zcc a1 x110.At).bind fun y112 => ((Ve x110.At).bind fun y118 => cond y118 (some true) ((Gg x110.Mask).bind fun y119 => some (cond y118 true ((IntKind.u64.wrap (Zep .u64 (IntKind.u64.wrap (Zku .u64 y112 x110.Old)) y119)) != 0)))).bind fun (z115 : Bool) => cond z115 (some (.inr (.inl ()))) ((Zbr y112 x110.New x110.Mask).bind fun y121 => (Uv (⟨s0_.2.1, s0_.2.2.1, s0_.2.2.2⟩ : S_api_Tree) x110.At y121).bind fun y122 => some (.inl ((IntKind.i64.wrap (s0_.1 + 1)), y122.Kind, y122.Words, y122.Kids)))) (some (.inr (.inr (s0_.2.1, s0_.2.2.1, s0_.2.2.2))))
noncomputable def Y9 (Yi : (S_api_Edit → S_api_Tree → Option (S_api_Tree × Bool))) (a0 : S_api_Edit) (a1 : S_api_Tree) (s1_ : (Int × Int × (List Int) × (List S_api_Tree))) : Option ((Int × Int × (List Int) × (List S_api_Tree)) ⊕ (Unit ⊕ (Int × (List Int) × (List S_api_Tree)))) :=
 cond (decide (s1_.1 < (a0.Kids.length : Int))) ((Xx a0.Kids s1_.1).bind fun x127 => (Zdh a1 x127.At).bind fun y130 => (Yi x127.E y130).bind fun y131 => (Ve x127.At).bind fun y133 => cond (cond y133 true (!y131.2)) (some (.inr (.inl ()))) ((Gf (⟨s1_.2.1, s1_.2.2.1, s1_.2.2.2⟩ : S_api_Tree) x127.At y131.1).bind fun y134 => some (.inl ((IntKind.i64.wrap (s1_.1 + 1)), y134.Kind, y134.Words, y134.Kids)))) (some (.inr (.inr (s1_.2.1, s1_.2.2.1, s1_.2.2.2))))
noncomputable def J7 (Yi : (S_api_Edit → S_api_Tree → Option (S_api_Tree × Bool))) (Z8 : (S_api_Edit → S_api_Tree → Option (S_api_Tree × Bool))) (Yo : (S_api_Edit → S_api_Tree → Option (S_api_Tree × Bool))) (Z3 : (Zf → S_api_Op → Option (Bool × Zf))) (Zz : (Zf → S_api_Edit → Option (Bool × Zf))) (a0 : S_api_Edit) (a1 : S_api_Tree) : Option (S_api_Tree × Bool) :=
 cond (a1.Kind != 1) (some ((⟨0, [], []⟩ : S_api_Tree), false)) ((Kg a1.Words).bind fun y25 => (Qm a1.Kids).bind fun y61 => (Zx (Xo a0 a1) (0, 1, y25, y61)).bind fun (z125 : (Unit ⊕ (Int × (List Int) × (List S_api_Tree)))) => match z125 with | .inl z125 => some ((⟨0, [], []⟩ : S_api_Tree), false) | .inr z125 => (Zx (Y9 Yi a0 a1) (0, z125.1, z125.2.1, z125.2.2)).bind fun (z137 : (Unit ⊕ (Int × (List Int) × (List S_api_Tree)))) => match z137 with | .inl z137 => some ((⟨0, [], []⟩ : S_api_Tree), false) | .inr z137 => some ((⟨z137.1, z137.2.1, z137.2.2⟩ : S_api_Tree), true))
noncomputable def Qq (Z3 : (Zf → S_api_Op → Option (Bool × Zf))) (a0 : S_api_Edit) (s0_ : (Int × (List S_api_Tree) × (List S_api_Tree))) : Option ((Int × (List S_api_Tree) × (List S_api_Tree)) ⊕ (Unit ⊕ ((List S_api_Tree) × (List S_api_Tree)))) :=
 cond (decide (s0_.1 < (a0.Ops.length : Int))) ((Xx a0.Ops s0_.1).bind fun x7 => (Z3 (⟨s0_.2.1, s0_.2.2⟩ : Zf) x7).bind fun y9 => cond (!y9.1) (some (.inr (.inl ()))) (some (.inl ((IntKind.i64.wrap (s0_.1 + 1)), y9.2.left, y9.2.out)))) (some (.inr (.inr (s0_.2.1, s0_.2.2))))
noncomputable def Gt (Yi : (S_api_Edit → S_api_Tree → Option (S_api_Tree × Bool))) (Z8 : (S_api_Edit → S_api_Tree → Option (S_api_Tree × Bool))) (Yo : (S_api_Edit → S_api_Tree → Option (S_api_Tree × Bool))) (Z3 : (Zf → S_api_Op → Option (Bool × Zf))) (Zz : (Zf → S_api_Edit → Option (Bool × Zf))) (a0 : S_api_Edit) (a1 : S_api_Tree) : Option (S_api_Tree × Bool) :=
 (cond (a1.Kind != a0.List_) (some true) ((Zcb a1.Kind).bind fun y4 => some (cond (a1.Kind != a0.List_) true (!y4)))).bind fun (z2 : Bool) => cond z2 (some ((⟨0, [], []⟩ : S_api_Tree), false)) ((Zx (Qq Z3 a0) (0, a1.Kids, ([] : List S_api_Tree))).bind fun (z12 : (Unit ⊕ ((List S_api_Tree) × (List S_api_Tree)))) => match z12 with | .inl z12 => some ((⟨0, [], []⟩ : S_api_Tree), false) | .inr z12 => some ((⟨a1.Kind, [], z12.2⟩ : S_api_Tree), ((z12.1.length : Int) == 0)))
noncomputable def Ki (Yi : (S_api_Edit → S_api_Tree → Option (S_api_Tree × Bool))) (Z8 : (S_api_Edit → S_api_Tree → Option (S_api_Tree × Bool))) (Yo : (S_api_Edit → S_api_Tree → Option (S_api_Tree × Bool))) (Z3 : (Zf → S_api_Op → Option (Bool × Zf))) (Zz : (Zf → S_api_Edit → Option (Bool × Zf))) (a0 : Zf) (a1 : S_api_Op) : Option (Bool × Zf) :=
 cond (a1.Kind == 0) ((cond (decide (a1.N < 0)) (some true) (some (cond (decide (a1.N < 0)) true (decide ((a0.left.length : Int) < a1.N))))).bind fun (z1 : Bool) => cond z1 (some (false, (⟨a0.left, a0.out⟩ : Zf))) ((Zax a0.left 0 a1.N).bind fun l5 => (Zc0 56 a0.out l5).bind fun l6 => (Zax a0.left a1.N (a0.left.length : Int)).bind fun l8 => some (true, (⟨l8, l6⟩ : Zf)))) (cond (a1.Kind == 1) ((cond (decide ((a0.left.length : Int) < (a1.L.length : Int))) (some true) ((Zax a0.left 0 (a1.L.length : Int)).bind fun l15 => (Yl l15 a1.L).bind fun y16 => some (cond (decide ((a0.left.length : Int) < (a1.L.length : Int))) true (!y16)))).bind fun (z12 : Bool) => cond z12 (some (false, (⟨a0.left, a0.out⟩ : Zf))) ((Zax a0.left (a1.L.length : Int) (a0.left.length : Int)).bind fun l19 => some (true, (⟨l19, a0.out⟩ : Zf)))) (cond (a1.Kind == 2) ((Zc0 56 a0.out a1.L).bind fun l22 => some (true, (⟨a0.left, l22⟩ : Zf))) (cond (a1.Kind == 3) ((Zz (⟨a0.left, a0.out⟩ : Zf) a1.E).bind fun y24 => some (y24.1, (⟨y24.2.left, y24.2.out⟩ : Zf))) (some (false, (⟨a0.left, a0.out⟩ : Zf))))))
noncomputable def Ql (Yi : (S_api_Edit → S_api_Tree → Option (S_api_Tree × Bool))) (Z8 : (S_api_Edit → S_api_Tree → Option (S_api_Tree × Bool))) (Yo : (S_api_Edit → S_api_Tree → Option (S_api_Tree × Bool))) (Z3 : (Zf → S_api_Op → Option (Bool × Zf))) (Zz : (Zf → S_api_Edit → Option (Bool × Zf))) (a0 : Zf) (a1 : S_api_Edit) : Option (Bool × Zf) :=
 cond ((a0.left.length : Int) == 0) (some (false, (⟨a0.left, a0.out⟩ : Zf))) ((Xx a0.left 0).bind fun x3 => (Yi a1 x3).bind fun y4 => (Zc0 56 a0.out ([(⟨0, [], []⟩ : S_api_Tree)] : List S_api_Tree)).bind fun l8 => (Xx l8 (a0.out.length : Int)).bind fun x9 => (Zax a0.left 1 (a0.left.length : Int)).bind fun l12 => some (y4.2, (⟨l12, (a0.out ++ [y4.1])⟩ : Zf)))
noncomputable def Zn : Nat → ((S_api_Edit → S_api_Tree → Option (S_api_Tree × Bool)) × (S_api_Edit → S_api_Tree → Option (S_api_Tree × Bool)) × (S_api_Edit → S_api_Tree → Option (S_api_Tree × Bool)) × (Zf → S_api_Op → Option (Bool × Zf)) × (Zf → S_api_Edit → Option (Bool × Zf)))
 | 0 => ((fun _ _ => none), (fun _ _ => none), (fun _ _ => none), (fun _ _ => none), (fun _ _ => none))
 | k + 1 => (Vk ((Zn k).1) ((Zn k).2.1) ((Zn k).2.2.1) ((Zn k).2.2.2.1) ((Zn k).2.2.2.2), J7 ((Zn k).1) ((Zn k).2.1) ((Zn k).2.2.1) ((Zn k).2.2.2.1) ((Zn k).2.2.2.2), Gt ((Zn k).1) ((Zn k).2.1) ((Zn k).2.2.1) ((Zn k).2.2.2.1) ((Zn k).2.2.2.2), Ki ((Zn k).1) ((Zn k).2.1) ((Zn k).2.2.1) ((Zn k).2.2.2.1) ((Zn k).2.2.2.2), Ql ((Zn k).1) ((Zn k).2.1) ((Zn k).2.2.1) ((Zn k).2.2.2.1) ((Zn k).2.2.2.2))
noncomputable def Zgl (a0 : S_api_Edit) (a1 : S_api_Tree) : Option (S_api_Tree × Bool) := lim fun k => (Zn k).1 a0 a1
noncomputable def Ua (Zav : (S_api_Tree → Option S_api_Tree)) (z1 : ((List Int) × (List S_api_Tree))) (s0_ : (Int × (List S_api_Tree))) : Option ((Int × (List S_api_Tree)) ⊕ (List S_api_Tree)) :=
 cond (decide (s0_.1 < (z1.2.length : Int))) ((Xx z1.2 s0_.1).bind fun x9 => (Zav x9).bind fun y10 => (Xx s0_.2 s0_.1).bind fun x11 => some (.inl ((IntKind.i64.wrap (s0_.1 + 1)), (Zar s0_.2 s0_.1 y10)))) (some (.inr s0_.2))
noncomputable def Zb2 (Zav : (S_api_Tree → Option S_api_Tree)) (a0 : S_api_Tree) : Option S_api_Tree :=
 cond (a0.Kind == 0) (some (⟨0, [], []⟩ : S_api_Tree)) ((cond (a0.Kind == 1) ((Jc a0.Words).bind fun y2 => (Kh a0.Kids).bind fun y3 => some (y2, y3)) (some (a0.Words, a0.Kids))).bind fun (z1 : ((List Int) × (List S_api_Tree))) => (cond (decide (0 < (z1.2.length : Int))) ((Zhv 56 (z1.2.length : Int) (⟨(0 : Int), [], []⟩ : S_api_Tree)).bind fun l6 => some l6) (some ([] : List S_api_Tree))).bind fun (z5 : (List S_api_Tree)) => (Zx (Ua Zav z1) (0, z5)).bind fun (z14 : (List S_api_Tree)) => some (⟨a0.Kind, z1.1, z14⟩ : S_api_Tree))
noncomputable def Ku : Nat → (S_api_Tree → Option S_api_Tree)
 | 0 => (fun _ => none)
 | k + 1 => Zb2 ((Ku k))
noncomputable def Zhu (a0 : S_api_Tree) : Option S_api_Tree := lim fun k => (Ku k) a0
noncomputable def Vq (a0 : S_api_Edit) (a1 : S_api_Tree) : Option (S_api_Tree × Bool) :=
 (Zgl a0 a1).bind fun y2 => cond (!y2.2) (some ((⟨0, [], []⟩ : S_api_Tree), false)) ((Zhu y2.1).bind fun y4 => some (y4, true))
noncomputable def Q9  : Option Bool :=
 (Vq (⟨2, ⟨0, [], []⟩, ⟨0, [], []⟩, ([(⟨0, 1, 5, 6⟩ : Zo)] : List Zo), [], 0, []⟩ : S_api_Edit) (⟨1, ([5] : List Int), []⟩ : S_api_Tree)).bind fun y2 => (Vq (⟨2, ⟨0, [], []⟩, ⟨0, [], []⟩, ([(⟨0, 1, 5, 6⟩ : Zo)] : List Zo), [], 0, []⟩ : S_api_Edit) (⟨1, ([7] : List Int), []⟩ : S_api_Tree)).bind fun y4 => (cond y2.2 (cond y4.2 (some false) (cond ((y2.1.Words.length : Int) == 1) ((Xx y2.1.Words 0).bind fun x8 => some (cond (cond (cond y2.2 (!y4.2) false) ((y2.1.Words.length : Int) == 1) false) (x8 == 6) false)) (some false))) (some false)).bind fun (z6 : Bool) => some z6
noncomputable def Jq (a0 : (List Int)) (s0_ : Int) : Option (Int ⊕ Int) :=
 (cond (decide (0 < s0_)) ((Xx a0 (IntKind.i64.wrap (s0_ - 1))).bind fun x4 => some (cond (decide (0 < s0_)) (x4 == 0) false)) (some false)).bind fun (z2 : Bool) => cond z2 (some (.inl (IntKind.i64.wrap (s0_ - 1)))) (some (.inr s0_))
noncomputable def Vu (a0 : (List Int)) : Option (List Int) :=
 (Zx (Jq a0) (a0.length : Int)).bind fun (z7 : Int) => (Zax a0 0 z7).bind fun l10 => (Zc0 8 ([] : List Int) l10).bind fun l11 => some l11
noncomputable def Xp (Kc : (S_api_Tree → Option S_api_Tree)) (a0 : S_api_Tree) (s0_ : (Int × Int × (List S_api_Tree))) : Option ((Int × Int × (List S_api_Tree)) ⊕ (Int × (List S_api_Tree))) :=
 cond (decide (s0_.2.1 < (a0.Kids.length : Int))) (((Xx a0.Kids s0_.2.1).bind fun x4 => (Kc x4).bind fun y5 => (Zc0 56 s0_.2.2 ([y5] : List S_api_Tree)).bind fun l7 => cond (y5.Kind != 0) (some ((IntKind.i64.wrap (s0_.2.1 + 1)), l7)) (some (s0_.1, l7))).bind fun (z1 : (Int × (List S_api_Tree))) => some (.inl (z1.1, (IntKind.i64.wrap (s0_.2.1 + 1)), z1.2))) (some (.inr (s0_.1, s0_.2.2)))
noncomputable def Vl (Kc : (S_api_Tree → Option S_api_Tree)) (a0 : S_api_Tree) : Option S_api_Tree :=
 cond (a0.Kind == 0) (some (⟨0, [], []⟩ : S_api_Tree)) ((Zx (Xp Kc a0) (0, 0, ([] : List S_api_Tree))).bind fun (z10 : (Int × (List S_api_Tree))) => cond (a0.Kind == 1) ((Vu a0.Words).bind fun y14 => (Zax z10.2 0 z10.1).bind fun l15 => some (⟨1, y14, l15⟩ : S_api_Tree)) ((Zc0 8 ([] : List Int) a0.Words).bind fun l17 => some (⟨a0.Kind, l17, z10.2⟩ : S_api_Tree)))
noncomputable def Yy : Nat → (S_api_Tree → Option S_api_Tree)
 | 0 => (fun _ => none)
 | k + 1 => Vl ((Yy k))
noncomputable def Za8 (a0 : S_api_Tree) : Option S_api_Tree := lim fun k => (Yy k) a0
noncomputable def Jp (a0 : (List Int)) (a1 : (List Int)) (s0_ : Int) : Option (Int ⊕ (Unit ⊕ Unit)) :=
 cond (decide (s0_ < (a0.length : Int))) ((Xx a0 s0_).bind fun x3 => (Xx a1 s0_).bind fun x4 => cond (x3 != x4) (some (.inr (.inl ()))) (some (.inl (IntKind.i64.wrap (s0_ + 1))))) (some (.inr (.inr ())))
noncomputable def Vt (a0 : (List Int)) (a1 : (List Int)) : Option Bool :=
 cond ((a0.length : Int) != (a1.length : Int)) (some false) ((Zx (Jp a0 a1) 0).bind fun (z7 : (Unit ⊕ Unit)) => match z7 with | .inl z7 => some false | .inr z7 => some true)
noncomputable def Jk (Ke : (S_api_Tree → S_api_Tree → Option Bool)) (a0 : S_api_Tree) (a1 : S_api_Tree) (s0_ : Int) : Option (Int ⊕ (Unit ⊕ Unit)) :=
 cond (decide (s0_ < (a0.Kids.length : Int))) ((Xx a0.Kids s0_).bind fun x9 => (Xx a1.Kids s0_).bind fun x10 => (Ke x9 x10).bind fun y11 => cond (!y11) (some (.inr (.inl ()))) (some (.inl (IntKind.i64.wrap (s0_ + 1))))) (some (.inr (.inr ())))
noncomputable def Vm (Ke : (S_api_Tree → S_api_Tree → Option Bool)) (a0 : S_api_Tree) (a1 : S_api_Tree) : Option Bool :=
 (cond (a0.Kind != a1.Kind) (some true) ((Vt a0.Words a1.Words).bind fun y4 => some (cond (cond (a0.Kind != a1.Kind) true (!y4)) true ((a0.Kids.length : Int) != (a1.Kids.length : Int))))).bind fun (z2 : Bool) => cond z2 (some false) ((Zx (Jk Ke a0 a1) 0).bind fun (z14 : (Unit ⊕ Unit)) => match z14 with | .inl z14 => some false | .inr z14 => some true)
noncomputable def Qe : Nat → (S_api_Tree → S_api_Tree → Option Bool)
 | 0 => (fun _ _ => none)
 | k + 1 => Vm ((Qe k))
noncomputable def Za9 (a0 : S_api_Tree) (a1 : S_api_Tree) : Option Bool := lim fun k => (Qe k) a0 a1
noncomputable def Xq (Xm : (S_api_Edit → Int → Int → Option Int)) (a0 : S_api_Edit) (a1 : Int) (s0_ : (Int × Int)) : Option ((Int × Int) ⊕ Int) :=
 cond (cond (decide (s0_.2 < (a0.Kids.length : Int))) (decide (0 ≤ s0_.1)) false) ((Xx a0.Kids s0_.2).bind fun x6 => (Xm x6.E (IntKind.i64.wrap (a1 - 1)) s0_.1).bind fun y8 => some (.inl (y8, (IntKind.i64.wrap (s0_.2 + 1))))) (some (.inr s0_.1))
noncomputable def Jl (a0 : S_api_Edit) (s1_ : (Int × Int)) (s2_ : (Int × Int)) : Option ((Int × Int) ⊕ Int) :=
 (Xx a0.Ops s1_.2).bind fun x14 => cond (cond (decide (s2_.2 < (x14.L.length : Int))) (decide (0 ≤ s2_.1)) false) ((Xx a0.Ops s1_.2).bind fun x16 => (Xx x16.L s2_.2).bind fun x18 => (Xc x18 80 s2_.1).bind fun y19 => some (.inl (y19, (IntKind.i64.wrap (s2_.2 + 1))))) (some (.inr s2_.1))
noncomputable def Xr (Xm : (S_api_Edit → Int → Int → Option Int)) (a0 : S_api_Edit) (a1 : Int) (s1_ : (Int × Int)) : Option ((Int × Int) ⊕ Int) :=
 cond (cond (decide (s1_.2 < (a0.Ops.length : Int))) (decide (0 ≤ s1_.1)) false) (((Zx (Jl a0 s1_) (s1_.1, 0)).bind fun (z21 : Int) => cond (decide (0 ≤ z21)) ((Xx a0.Ops s1_.2).bind fun x22 => (Xm x22.E (IntKind.i64.wrap (a1 - 1)) z21).bind fun y24 => some y24) (some z21)).bind fun (z11 : Int) => some (.inl (z11, (IntKind.i64.wrap (s1_.2 + 1))))) (some (.inr s1_.1))
noncomputable def X3 (Xm : (S_api_Edit → Int → Int → Option Int)) (a0 : S_api_Edit) (a1 : Int) (a2 : Int) : Option Int :=
 cond (cond (a1 == 0) true (decide ((IntKind.i64.wrap ((IntKind.i64.wrap ((IntKind.i64.wrap (a2 - 1)) - (a0.Words.length : Int))) - (a0.Ops.length : Int))) < 0))) (some (-1)) ((Xc a0.Old 80 (IntKind.i64.wrap ((IntKind.i64.wrap ((IntKind.i64.wrap (a2 - 1)) - (a0.Words.length : Int))) - (a0.Ops.length : Int)))).bind fun y2 => (cond (decide (0 ≤ y2)) ((Xc a0.New 80 y2).bind fun y4 => some y4) (some y2)).bind fun (z3 : Int) => (Zx (Xq Xm a0 a1) (z3, 0)).bind fun (z10 : Int) => (Zx (Xr Xm a0 a1) (z10, 0)).bind fun (z27 : Int) => some z27)
noncomputable def Yc : Nat → (S_api_Edit → Int → Int → Option Int)
 | 0 => (fun _ _ _ => none)
 | k + 1 => X3 ((Yc k))
noncomputable def Zba (a0 : S_api_Edit) (a1 : Int) (a2 : Int) : Option Int := lim fun k => (Yc k) a0 a1 a2
noncomputable def Uf (a0 : S_api_Edit) : Option Bool :=
 (Zba a0 80 3000).bind fun y2 => some (decide (0 ≤ y2))
noncomputable def X4 (a0 : S_api_Tree) : Option Bool :=
 some (cond (a0.Kind == 0) ((IntKind.i64.wrap ((a0.Words.length : Int) + (a0.Kids.length : Int))) == 0) false)
noncomputable def Qx (s0_ : (Int × Int × (Arr Int 8))) : Option ((Int × Int × (Arr Int 8)) ⊕ (Arr Int 8)) :=
 cond (decide (s0_.2.1 < 8)) ((Xx s0_.2.2.1 s0_.2.1).bind fun x15 => some (.inl ((IntKind.u64.wrap (Int.tdiv s0_.1 256)), (IntKind.i64.wrap (s0_.2.1 + 1)), (Arr.put s0_.2.2 s0_.2.1 (IntKind.u8.wrap (Int.tmod s0_.1 256)))))) (some (.inr s0_.2.2))
noncomputable def Ja (a0 : Int) : Option (Arr Int 8) :=
 ((some (⟨[0, 0, 0, 0, 0, 0, 0, 0], rfl⟩ : (Arr Int 8)))).bind fun y3 => ((some (⟨[0, 0, 0, 0, 0, 0, 0, 0], rfl⟩ : (Arr Int 8)))).bind fun y9 => (Zx (Qx) (a0, 0, y9)).bind fun (z18 : (Arr Int 8)) => some z18
noncomputable def X9 (a1 : Int) (s0_ : (Int × Int)) : Option ((Int × Int) ⊕ Int) :=
 cond (decide (s0_.2 < a1)) (some (.inl ((IntKind.u8.wrap (Int.tdiv s0_.1 2)), (IntKind.i64.wrap (s0_.2 + 1))))) (some (.inr s0_.1))
noncomputable def K7 (a0 : Int) (a1 : Int) : Option Bool :=
 (Zx (X9 a1) (a0, 0)).bind fun (z2 : Int) => some ((Int.tmod z2 2) == 1)
noncomputable def K8 (a0 : (List Int)) (a1 : Int) (s0_ : (Int × Int)) : Option ((Int × Int) ⊕ Int) :=
 cond (decide (0 ≤ s0_.2)) ((Xx a0 (IntKind.i64.wrap (a1 + s0_.2))).bind fun x1 => some (.inl ((IntKind.u64.wrap ((IntKind.u64.wrap (s0_.1 * 256)) + (IntKind.u64.wrap x1))), (IntKind.i64.wrap (s0_.2 - 1))))) (some (.inr s0_.1))
noncomputable def Zaj (a0 : (List Int)) (a1 : Int) : Option Int :=
 (Zx (K8 a0 a1) (0, 7)).bind fun (z3 : Int) => some z3
noncomputable def Kk (a2 : Int) (y9 : (Arr Int 8)) (s0_ : (Int × (Arr Int 8))) : Option ((Int × (Arr Int 8)) ⊕ (Arr Int 8)) :=
 cond (decide (s0_.1 < 8)) (((K7 a2 s0_.1).bind fun y17 => cond y17 ((Xx y9.1 s0_.1).bind fun x18 => (Xx s0_.2.1 s0_.1).bind fun x19 => some (Arr.put s0_.2 s0_.1 x18)) (some s0_.2)).bind fun (z15 : (Arr Int 8)) => some (.inl ((IntKind.i64.wrap (s0_.1 + 1)), z15))) (some (.inr s0_.2))
noncomputable def Ud (a0 : Int) (a1 : Int) (a2 : Int) : Option Int :=
 (Ja a0).bind fun y8 => (Ja a1).bind fun y9 => ((some (⟨[0, 0, 0, 0, 0, 0, 0, 0], rfl⟩ : (Arr Int 8)))).bind fun y10 => (Zx (Kk a2 y9) (0, y8)).bind fun (z23 : (Arr Int 8)) => (Zaj z23.1 0).bind fun y29 => some y29
noncomputable def Qp (a0 : Int) (a1 : Int) : Option Bool :=
 (Ud a0 0 a1).bind fun y2 => some (y2 == 0)
noncomputable def Ka (a0 : S_api_Edit) : Option Bool :=
 (cond (a0.Kind == 0) ((X4 a0.Old).bind fun y6 => cond y6 ((X4 a0.New).bind fun y7 => some (cond (cond (cond (cond (a0.Kind == 0) y6 false) y7 false) ((IntKind.i64.wrap ((IntKind.i64.wrap ((a0.Words.length : Int) + (a0.Kids.length : Int))) + (a0.Ops.length : Int))) == 0) false) (a0.List_ == 0) false)) (some false)) (some false)).bind fun (z3 : Bool) => some z3
noncomputable def Qg (a0 : S_api_Edit) (s0_ : (Int × Int × Int)) : Option ((Int × Int × Int) ⊕ (Int × Int)) :=
 cond (decide (s0_.2.2 < (a0.Ops.length : Int))) (((Xx a0.Ops s0_.2.2).bind fun x3 => (cond (x3.Kind == 3) (some 1) (some (IntKind.i64.wrap (x3.N + (x3.L.length : Int))))).bind fun (z4 : Int) => (cond (x3.Kind != 2) (some (IntKind.i64.wrap (s0_.1 + z4))) (some s0_.1)).bind fun (z6 : Int) => (cond (x3.Kind != 1) (some (IntKind.i64.wrap (s0_.2.1 + z4))) (some s0_.2.1)).bind fun (z8 : Int) => (cond (decide (1048576 < z6)) (some 1048576) (some z6)).bind fun (z10 : Int) => cond (decide (1048576 < z8)) (some (z10, 1048576)) (some (z10, z8))).bind fun (z1 : (Int × Int)) => some (.inl (z1.1, z1.2, (IntKind.i64.wrap (s0_.2.2 + 1))))) (some (.inr (s0_.1, s0_.2.1)))
noncomputable def Qf (a0 : S_api_Edit) : Option (Int × Int) :=
 (Zx (Qg a0) (0, 0, 0)).bind fun (z14 : (Int × Int)) => some (z14.1, z14.2)
noncomputable def X7 (a0 : S_api_Edit) (s0_ : (Int × Int)) : Option ((Int × Int) ⊕ (Unit ⊕ Unit)) :=
 cond (decide (s0_.2 < (a0.Words.length : Int))) ((Xx a0.Words s0_.2).bind fun x19 => (cond (decide (x19.At ≤ s0_.1)) (some true) (cond (decide (65534 < x19.At)) (some true) (cond (x19.Mask == 0) (some true) ((Qp x19.Old x19.Mask).bind fun y25 => cond y25 ((Qp x19.New x19.Mask).bind fun y26 => some (cond (cond (cond (cond (decide (x19.At ≤ s0_.1)) true (decide (65534 < x19.At))) true (x19.Mask == 0)) true (!y25)) true (!y26))) (some true))))).bind fun (z22 : Bool) => cond z22 (some (.inr (.inl ()))) (some (.inl (x19.At, (IntKind.i64.wrap (s0_.2 + 1)))))) (some (.inr (.inr ())))
noncomputable def X8 (Yu : (S_api_Edit → Int → Option Bool)) (a0 : S_api_Edit) (a1 : Int) (s1_ : (Int × Int)) : Option ((Int × Int) ⊕ (Unit ⊕ Unit)) :=
 cond (decide (s1_.2 < (a0.Kids.length : Int))) ((Xx a0.Kids s1_.2).bind fun x35 => (cond (decide (x35.At ≤ s1_.1)) (some true) (cond (decide (65534 < x35.At)) (some true) (cond (x35.E.Kind == 0) (some true) ((Yu x35.E (IntKind.i64.wrap (a1 - 1))).bind fun y39 => some (cond (cond (cond (decide (x35.At ≤ s1_.1)) true (decide (65534 < x35.At))) true (x35.E.Kind == 0)) true (!y39)))))).bind fun (z37 : Bool) => cond z37 (some (.inr (.inl ()))) (some (.inl (x35.At, (IntKind.i64.wrap (s1_.2 + 1)))))) (some (.inr (.inr ())))
noncomputable def Xi (Xv : (Int → S_api_Op → Int → Option Bool)) (a0 : S_api_Edit) (a1 : Int) (s2_ : Int) : Option (Int ⊕ (Unit ⊕ Unit)) :=
 cond (decide (s2_ < (a0.Ops.length : Int))) ((Xx a0.Ops s2_).bind fun x48 => (Xv a0.List_ x48 (IntKind.i64.wrap (a1 - 1))).bind fun y49 => cond (!y49) (some (.inr (.inl ()))) (some (.inl (IntKind.i64.wrap (s2_ + 1))))) (some (.inr (.inr ())))
noncomputable def K1 (Yu : (S_api_Edit → Int → Option Bool)) (Xv : (Int → S_api_Op → Int → Option Bool)) (a0 : S_api_Edit) (a1 : Int) : Option Bool :=
 cond (cond (cond (a1 == 0) true (decide (a0.Kind < 0))) true (decide (3 < a0.Kind))) (some false) ((cond (a0.Kind != 1) ((X4 a0.Old).bind fun y6 => cond y6 ((X4 a0.New).bind fun y7 => some (cond (cond (cond (a0.Kind != 1) (!(cond y6 y7 false)) false) true (cond (a0.Kind != 2) (decide (0 < (IntKind.i64.wrap ((a0.Words.length : Int) + (a0.Kids.length : Int))))) false)) true (cond (a0.Kind != 3) (cond (a0.List_ != 0) true (decide (0 < (a0.Ops.length : Int)))) false))) (some true)) (some (cond (cond (a0.Kind != 2) (decide (0 < (IntKind.i64.wrap ((a0.Words.length : Int) + (a0.Kids.length : Int))))) false) true (cond (a0.Kind != 3) (cond (a0.List_ != 0) true (decide (0 < (a0.Ops.length : Int)))) false)))).bind fun (z3 : Bool) => cond z3 (some false) (cond (a0.Kind == 1) (((Jb a0.Old 64).bind fun y15 => cond y15 ((Jb a0.New 64).bind fun y16 => some (cond (cond (cond y15 y16 false) (a0.Old.Kind != 10) false) (a0.New.Kind != 10) false)) (some false)).bind fun (z12 : Bool) => some z12) ((Zx (X7 a0) ((-1), 0)).bind fun (z33 : (Unit ⊕ Unit)) => match z33 with | .inl z33 => some false | .inr z33 => (Zx (X8 Yu a0 a1) ((-1), 0)).bind fun (z45 : (Unit ⊕ Unit)) => match z45 with | .inl z45 => some false | .inr z45 => cond (cond (a0.Kind == 3) (cond (decide (a0.List_ < 2)) true (decide (9 < a0.List_))) false) (some false) ((Zx (Xi Xv a0 a1) 0).bind fun (z52 : (Unit ⊕ Unit)) => match z52 with | .inl z52 => some false | .inr z52 => (Qf a0).bind fun y54 => some (cond (decide (y54.1 < 1048576)) (decide (y54.2 < 1048576)) false)))))
noncomputable def K2 (a0 : Int) (a1 : S_api_Op) (s0_ : Int) : Option (Int ⊕ (Unit ⊕ Unit)) :=
 cond (decide (s0_ < (a1.L.length : Int))) ((Zax a1.L s0_ (IntKind.i64.wrap (s0_ + 1))).bind fun l10 => (Jb (⟨a0, [], l10⟩ : S_api_Tree) 64).bind fun y11 => cond (!y11) (some (.inr (.inl ()))) (some (.inl (IntKind.i64.wrap (s0_ + 1))))) (some (.inr (.inr ())))
noncomputable def Ut (Yu : (S_api_Edit → Int → Option Bool)) (Xv : (Int → S_api_Op → Int → Option Bool)) (a0 : Int) (a1 : S_api_Op) (a2 : Int) : Option Bool :=
 cond (a1.Kind == 0) ((cond (decide (1 ≤ a1.N)) (cond (decide (a1.N ≤ 1048576)) (cond ((a1.L.length : Int) == 0) ((Ka a1.E).bind fun y4 => some (cond (cond (cond (decide (1 ≤ a1.N)) (decide (a1.N ≤ 1048576)) false) ((a1.L.length : Int) == 0) false) y4 false)) (some false)) (some false)) (some false)).bind fun (z2 : Bool) => some z2) (cond (cond (cond (a1.N != 0) true (decide (a1.Kind < 0))) true (decide (3 < a1.Kind))) (some false) (cond (decide (a1.Kind < 3)) ((Zx (K2 a0 a1) 0).bind fun (z14 : (Unit ⊕ Unit)) => match z14 with | .inl z14 => some false | .inr z14 => (cond (decide (0 < (a1.L.length : Int))) ((Ka a1.E).bind fun y18 => some (cond (decide (0 < (a1.L.length : Int))) y18 false)) (some false)).bind fun (z16 : Bool) => some z16) ((cond (decide (0 < (a1.L.length : Int))) (some true) (cond (a1.E.Kind == 0) (some true) (cond (decide (a0 ≤ 7)) (some true) ((Yu a1.E a2).bind fun y23 => some (cond (cond (cond (decide (0 < (a1.L.length : Int))) true (a1.E.Kind == 0)) true (decide (a0 ≤ 7))) true (!y23)))))).bind fun (z21 : Bool) => cond z21 (some false) (some (cond (cond (a0 == 8) true (a1.E.Kind == 2)) true (cond (cond (a1.E.Kind == 1) (a1.E.Old.Kind == 1) false) (a1.E.New.Kind == 1) false))))))
noncomputable def Z9 : Nat → ((S_api_Edit → Int → Option Bool) × (Int → S_api_Op → Int → Option Bool))
 | 0 => ((fun _ _ => none), (fun _ _ _ => none))
 | k + 1 => (K1 ((Z9 k).1) ((Z9 k).2), Ut ((Z9 k).1) ((Z9 k).2))
noncomputable def Zao (a0 : S_api_Edit) (a1 : Int) : Option Bool := lim fun k => (Z9 k).1 a0 a1
noncomputable def Qv (Xe : (S_api_Edit → Option Bool)) (a0 : S_api_Edit) (s0_ : Int) : Option (Int ⊕ (Unit ⊕ Unit)) :=
 cond (decide (s0_ < (a0.Kids.length : Int))) ((Xx a0.Kids s0_).bind fun x6 => (Xe x6.E).bind fun y8 => cond (!y8) (some (.inr (.inl ()))) (some (.inl (IntKind.i64.wrap (s0_ + 1))))) (some (.inr (.inr ())))
noncomputable def Qw (Xe : (S_api_Edit → Option Bool)) (a0 : S_api_Edit) (s1_ : Int) : Option (Int ⊕ (Unit ⊕ Unit)) :=
 cond (decide (s1_ < (a0.Ops.length : Int))) ((Xx a0.Ops s1_).bind fun x15 => (Xe x15.E).bind fun y17 => cond (!y17) (some (.inr (.inl ()))) (some (.inl (IntKind.i64.wrap (s1_ + 1))))) (some (.inr (.inr ())))
noncomputable def K0 (Xe : (S_api_Edit → Option Bool)) (a0 : S_api_Edit) : Option Bool :=
 (Qf a0).bind fun y2 => cond (cond (decide (2000 < y2.1)) true (decide (2000 < y2.2))) (some false) ((Zx (Qv Xe a0) 0).bind fun (z11 : (Unit ⊕ Unit)) => match z11 with | .inl z11 => some false | .inr z11 => (Zx (Qw Xe a0) 0).bind fun (z20 : (Unit ⊕ Unit)) => match z20 with | .inl z20 => some false | .inr z20 => some true)
noncomputable def X1 : Nat → (S_api_Edit → Option Bool)
 | 0 => (fun _ => none)
 | k + 1 => K0 ((X1 k))
noncomputable def Zan (a0 : S_api_Edit) : Option Bool := lim fun k => (X1 k) a0
noncomputable def Vv (a0 : S_api_Edit) : Option Bool :=
 ((Uf a0).bind fun y8 => cond y8 ((Zao a0 64).bind fun y9 => cond y9 ((Zan a0).bind fun y10 => some (cond (cond y8 y9 false) y10 false)) (some false)) (some false)).bind fun (z4 : Bool) => some z4
noncomputable def J8 (a0 : S_api_Edit) (a1 : S_api_Tree) : Option Bool :=
 ((Vs a1).bind fun y6 => cond y6 ((Vv a0).bind fun y7 => some (cond (!y6) true (!y7))) (some true)).bind fun (z3 : Bool) => cond z3 ((Q9).bind fun y10 => some y10) ((Vq a0 a1).bind fun y12 => (Za8 a1).bind fun y15 => (Vq a0 y15).bind fun y16 => (cond (y12.2 == y16.2) ((Za9 y12.1 y16.1).bind fun y22 => cond y22 ((Q9).bind fun y23 => some (cond (cond (y12.2 == y16.2) y22 false) y23 false)) (some false)) (some false)).bind fun (z19 : Bool) => some z19)
end Go.Proofs.Ytmpkfolcikhofaa
