/- Part SD of this seat's mirrors: functions of the seat's program, and the plain functions that they are; each theorem bears its own conditions. -/
import Derived.Test.YtmpkfolcikhofaaH25
namespace Go.Proofs.Ytmpkfolcikhofaa
open Go.RowKit
set_option linter.unusedVariables false
set_option linter.unusedSimpArgs false
set_option maxRecDepth 100000
set_option maxHeartbeats 1000000
structure S_api_Tree where
 Kind : Int
 Words : (List Int)
 Kids : (List S_api_Tree)
noncomputable def Ys (Xp : (S_api_Tree → Int → Int → Option Int)) (a0 : S_api_Tree) (a1 : Int) (s0_ : (Int × Int)) : Option ((Int × Int) ⊕ Int) :=
 cond (cond (decide (s0_.2 < (a0.Kids.length : Int))) (decide (0 ≤ s0_.1)) false) ((Jq a0.Kids s0_.2).bind fun x1 => (Xp x1 (IntKind.i64.wrap (a1 - 1)) s0_.1).bind fun y2 => some (.inl (y2, (IntKind.i64.wrap (s0_.2 + 1))))) (some (.inr s0_.1))
noncomputable def Yw (Xp : (S_api_Tree → Int → Int → Option Int)) (a0 : S_api_Tree) (a1 : Int) (a2 : Int) : Option Int :=
 cond (cond (a1 == 0) true (decide ((IntKind.i64.wrap ((IntKind.i64.wrap (a2 - 1)) - (a0.Words.length : Int))) < 0))) (some (-1)) ((Z5 (Ys Xp a0 a1) ((IntKind.i64.wrap ((IntKind.i64.wrap (a2 - 1)) - (a0.Words.length : Int))), 0)).bind fun (z4 : Int) => some z4)
noncomputable def Z9 : Nat → (S_api_Tree → Int → Int → Option Int)
 | 0 => (fun _ _ _ => none)
 | k + 1 => Yw ((Z9 k))
noncomputable def V6 (a0 : S_api_Tree) (a1 : Int) (a2 : Int) : Option Int := lim fun k => (Z9 k) a0 a1 a2
noncomputable def K6 (a0 : S_api_Tree) : Option Bool :=
 (V6 a0 80 3000).bind fun y2 => some (decide (0 ≤ y2))
noncomputable def Uy (a0 : Int) : Option Int :=
 cond (a0 == 0) (some 0) (cond (a0 == 1) (some 1) (cond (a0 == 2) (some 8) (cond (a0 == 3) (some 16) (cond (a0 == 4) (some 32) (cond (a0 == 5) (some 64) (some (-1)))))))
noncomputable def Yx (y2 : Int) (s0_ : (Int × Int)) : Option ((Int × Int) ⊕ Int) :=
 cond (decide (s0_.2 < y2)) (some (.inl ((IntKind.u64.wrap (Int.tdiv s0_.1 2)), (IntKind.i64.wrap (s0_.2 + 1))))) (some (.inr s0_.1))
noncomputable def Ja (a0 : Int) (a1 : Int) : Option Bool :=
 (Uy a0).bind fun y2 => cond (decide (y2 < 0)) (some false) ((Z5 (Yx y2) (a1, 0)).bind fun (z4 : Int) => some (z4 == 0))
noncomputable def X5 (Qi : (S_api_Tree → Int → Option Bool)) (a0 : S_api_Tree) (a1 : Int) (s0_ : Int) : Option (Int ⊕ (Unit ⊕ Unit)) :=
 cond (decide (s0_ < (a0.Kids.length : Int))) ((Jq a0.Kids s0_).bind fun x2 => (Qi x2 (IntKind.i64.wrap (a1 - 1))).bind fun y4 => cond (!y4) (some (.inr (.inl ()))) ((cond ((cond (decide (2 ≤ a0.Kind)) (decide (a0.Kind ≤ 7)) false) != (x2.Kind == 10)) (some true) (cond (a0.Kind == 9) (cond (x2.Kind != 1) (some true) (cond (decide (2 ≤ a0.Kind)) (cond (decide (a0.Kind ≤ 7)) ((Jq x2.Words 0).bind fun x14 => (Ja (IntKind.i64.wrap (a0.Kind - 2)) x14).bind fun y15 => some (cond (cond ((cond (decide (2 ≤ a0.Kind)) (decide (a0.Kind ≤ 7)) false) != (x2.Kind == 10)) true (cond (a0.Kind == 9) (x2.Kind != 1) false)) true (cond (cond (decide (2 ≤ a0.Kind)) (decide (a0.Kind ≤ 7)) false) (!y15) false))) (some (cond (cond ((cond (decide (2 ≤ a0.Kind)) (decide (a0.Kind ≤ 7)) false) != (x2.Kind == 10)) true (cond (a0.Kind == 9) (x2.Kind != 1) false)) true false))) (some (cond (cond ((cond (decide (2 ≤ a0.Kind)) (decide (a0.Kind ≤ 7)) false) != (x2.Kind == 10)) true (cond (a0.Kind == 9) (x2.Kind != 1) false)) true false)))) (cond (decide (2 ≤ a0.Kind)) (cond (decide (a0.Kind ≤ 7)) ((Jq x2.Words 0).bind fun x16 => (Ja (IntKind.i64.wrap (a0.Kind - 2)) x16).bind fun y17 => some (cond (cond ((cond (decide (2 ≤ a0.Kind)) (decide (a0.Kind ≤ 7)) false) != (x2.Kind == 10)) true (cond (a0.Kind == 9) (x2.Kind != 1) false)) true (cond (cond (decide (2 ≤ a0.Kind)) (decide (a0.Kind ≤ 7)) false) (!y17) false))) (some (cond (cond ((cond (decide (2 ≤ a0.Kind)) (decide (a0.Kind ≤ 7)) false) != (x2.Kind == 10)) true (cond (a0.Kind == 9) (x2.Kind != 1) false)) true false))) (some (cond (cond ((cond (decide (2 ≤ a0.Kind)) (decide (a0.Kind ≤ 7)) false) != (x2.Kind == 10)) true (cond (a0.Kind == 9) (x2.Kind != 1) false)) true false))))).bind fun (z9 : Bool) => cond z9 (some (.inr (.inl ()))) (some (.inl (IntKind.i64.wrap (s0_ + 1)))))) (some (.inr (.inr ())))
noncomputable def Jz (Qi : (S_api_Tree → Int → Option Bool)) (a0 : S_api_Tree) (a1 : Int) : Option Bool :=
 cond (a0.Kind == 0) (some (cond ((a0.Words.length : Int) == 0) ((a0.Kids.length : Int) == 0) false)) (cond (a0.Kind == 10) (some (cond ((a0.Words.length : Int) == 1) ((a0.Kids.length : Int) == 0) false)) (cond (cond (cond (cond (cond (cond (decide (a0.Kind < 0)) true (decide (10 < a0.Kind))) true (a1 == 0)) true (decide (65536 ≤ (a0.Words.length : Int)))) true (cond (a0.Kind == 1) (decide (65536 ≤ (a0.Kids.length : Int))) false)) true (decide (1048576 ≤ (a0.Kids.length : Int)))) (some false) (cond (cond (decide (1 < a0.Kind)) (decide (0 < (a0.Words.length : Int))) false) (some false) ((Z5 (X5 Qi a0 a1) 0).bind fun (z28 : (Unit ⊕ Unit)) => match z28 with | .inl z28 => some false | .inr z28 => some true))))
noncomputable def Xe : Nat → (S_api_Tree → Int → Option Bool)
 | 0 => (fun _ _ => none)
 | k + 1 => Jz ((Xe k))
noncomputable def Uz (a0 : S_api_Tree) (a1 : Int) : Option Bool := lim fun k => (Xe k) a0 a1
noncomputable def Xw (a0 : S_api_Tree) : Option Bool :=
 ((K6 a0).bind fun y6 => cond y6 ((Uz a0 64).bind fun y7 => some (cond (cond y6 y7 false) (a0.Kind != 10) false)) (some false)).bind fun (z3 : Bool) => some z3
noncomputable def Jj (a0 : (List Int)) (s0_ : Int) : Option (Int ⊕ Int) :=
 (cond (decide (0 < s0_)) ((Jq a0 (IntKind.i64.wrap (s0_ - 1))).bind fun x4 => some (cond (decide (0 < s0_)) (x4 == 0) false)) (some false)).bind fun (z2 : Bool) => cond z2 (some (.inl (IntKind.i64.wrap (s0_ - 1)))) (some (.inr s0_))
noncomputable def Qf (a0 : (List Int)) : Option (List Int) :=
 (Z5 (Jj a0) (a0.length : Int)).bind fun (z7 : Int) => (Gz a0 0 z7).bind fun l9 => some l9
noncomputable def Yn (a0 : (List Int)) (a1 : (List Int)) (s0_ : Int) : Option (Int ⊕ (Unit ⊕ Unit)) :=
 cond (decide (s0_ < (a0.length : Int))) ((Jq a0 s0_).bind fun x3 => (Jq a1 s0_).bind fun x4 => cond (x3 != x4) (some (.inr (.inl ()))) (some (.inl (IntKind.i64.wrap (s0_ + 1))))) (some (.inr (.inr ())))
noncomputable def Yl (a0 : (List Int)) (a1 : (List Int)) : Option Bool :=
 cond ((a0.length : Int) != (a1.length : Int)) (some false) ((Z5 (Yn a0 a1) 0).bind fun (z7 : (Unit ⊕ Unit)) => match z7 with | .inl z7 => some false | .inr z7 => some true)
noncomputable def J6 (a0 : (List S_api_Tree)) (s0_ : Int) : Option (Int ⊕ Int) :=
 (cond (decide (0 < s0_)) ((Jq a0 (IntKind.i64.wrap (s0_ - 1))).bind fun x6 => some (cond (decide (0 < s0_)) (x6.Kind == 0) false)) (some false)).bind fun (z3 : Bool) => cond z3 (some (.inl (IntKind.i64.wrap (s0_ - 1)))) (some (.inr s0_))
noncomputable def Jg (a0 : (List S_api_Tree)) : Option (List S_api_Tree) :=
 (Z5 (J6 a0) (a0.length : Int)).bind fun (z10 : Int) => (Gz a0 0 z10).bind fun l12 => some l12
noncomputable def U7 (Ql : (S_api_Tree → S_api_Tree → Option Bool)) (Zn : ((List S_api_Tree) → (List S_api_Tree) → Option Bool)) (a0 : S_api_Tree) (a1 : S_api_Tree) : Option Bool :=
 cond (a0.Kind != a1.Kind) (some false) (cond (a0.Kind == 0) (some true) (cond (a0.Kind == 1) (((Qf a0.Words).bind fun y14 => (Qf a1.Words).bind fun y15 => (Yl y14 y15).bind fun y16 => cond y16 ((Jg a0.Kids).bind fun y17 => (Jg a1.Kids).bind fun y18 => (Zn y17 y18).bind fun y19 => some (cond y16 y19 false)) (some false)).bind fun (z7 : Bool) => some z7) (((Yl a0.Words a1.Words).bind fun y26 => cond y26 ((Zn a0.Kids a1.Kids).bind fun y27 => some (cond y26 y27 false)) (some false)).bind fun (z23 : Bool) => some z23)))
noncomputable def Zv (Ql : (S_api_Tree → S_api_Tree → Option Bool)) (a0 : (List S_api_Tree)) (a1 : (List S_api_Tree)) (s0_ : Int) : Option (Int ⊕ (Unit ⊕ Unit)) :=
 cond (decide (s0_ < (a0.length : Int))) ((Jq a0 s0_).bind fun x2 => (Jq a1 s0_).bind fun x4 => (Ql x2 x4).bind fun y6 => cond (!y6) (some (.inr (.inl ()))) (some (.inl (IntKind.i64.wrap (s0_ + 1))))) (some (.inr (.inr ())))
noncomputable def Zx (Ql : (S_api_Tree → S_api_Tree → Option Bool)) (Zn : ((List S_api_Tree) → (List S_api_Tree) → Option Bool)) (a0 : (List S_api_Tree)) (a1 : (List S_api_Tree)) : Option Bool :=
 cond ((a0.length : Int) != (a1.length : Int)) (some false) ((Z5 (Zv Ql a0 a1) 0).bind fun (z9 : (Unit ⊕ Unit)) => match z9 with | .inl z9 => some false | .inr z9 => some true)
noncomputable def Yk : Nat → ((S_api_Tree → S_api_Tree → Option Bool) × ((List S_api_Tree) → (List S_api_Tree) → Option Bool))
 | 0 => ((fun _ _ => none), (fun _ _ => none))
 | k + 1 => (U7 ((Yk k).1) ((Yk k).2), Zx ((Yk k).1) ((Yk k).2))
noncomputable def Zej (a0 : S_api_Tree) (a1 : S_api_Tree) : Option Bool := lim fun k => (Yk k).1 a0 a1
noncomputable def Yg (a0 : (List S_api_Tree)) (a1 : (List S_api_Tree)) : Option Bool := lim fun k => (Yk k).2 a0 a1
noncomputable def Jf (a0 : List Int) : Option (List Int) :=
 Za8 8 ([] : List Int) a0
noncomputable def Xy (a0 : List S_api_Tree) : Option (List S_api_Tree) :=
 Za8 56 ([] : List S_api_Tree) a0
noncomputable def Zas (a0 : S_api_Tree) (a1 : Int) : Option Int :=
 cond (cond (decide (a1 < 0)) true (decide ((a0.Words.length : Int) ≤ a1))) (some 0) ((Jq a0.Words a1).bind fun x2 => some x2)
noncomputable def J9 (a0 : Int) : Option Bool :=
 some (cond (decide (a0 < 0)) true (decide (65534 < a0)))
noncomputable def V8 (a0 : Int) (s0_ : (Int × Int)) : Option ((Int × Int) ⊕ Int) :=
 cond (decide (s0_.2 < 8)) (((Zhr (0 ≤ s0_.2)).bind fun u3 => cond ((IntKind.u8.wrap (Zcu .u8 (Int.fdiv a0 (2 ^ min (Int.toNat s0_.2) 8)) 1)) == 1) ((Zhr (0 ≤ (IntKind.i64.wrap (8 * s0_.2)))).bind fun u4 => some (IntKind.u64.wrap (Zmt .u64 s0_.1 (IntKind.u64.wrap (255 * 2 ^ min (Int.toNat (IntKind.i64.wrap (8 * s0_.2))) 64))))) (some s0_.1)).bind fun (z1 : Int) => some (.inl (z1, (IntKind.i64.wrap (s0_.2 + 1))))) (some (.inr s0_.1))
noncomputable def V7 (a0 : Int) : Option Int :=
 (Z5 (V8 a0) (0, 0)).bind fun (z7 : Int) => some z7
noncomputable def Gt (a0 : Int) (a1 : Int) (a2 : Int) : Option Int :=
 (V7 a2).bind fun y2 => some (IntKind.u64.wrap (Zmt .u64 (IntKind.u64.wrap (Zpa .u64 a0 y2)) (IntKind.u64.wrap (Zcu .u64 a1 y2))))
noncomputable def J4 (a1 : Int) (a2 : Int) (s0_ : (List Int)) : Option ((List Int) ⊕ (List Int)) :=
 cond (cond (decide ((s0_.length : Int) ≤ a1)) (a2 != 0) false) ((Za8 8 s0_ ([0] : List Int)).bind fun l1 => some (.inl l1)) (some (.inr s0_))
noncomputable def Vo (a0 : S_api_Tree) (a1 : Int) (a2 : Int) : Option S_api_Tree :=
 (Z5 (J4 a1 a2) a0.Words).bind fun (z3 : (List Int)) => cond (decide (a1 < (z3.length : Int))) ((Jq z3 a1).bind fun x4 => some (⟨a0.Kind, (Gl z3 a1 a2), a0.Kids⟩ : S_api_Tree)) (some (⟨a0.Kind, z3, a0.Kids⟩ : S_api_Tree))
noncomputable def Zbr (a0 : S_api_Tree) (a1 : Int) : Option S_api_Tree :=
 cond (cond (decide (a1 < 0)) true (decide ((a0.Kids.length : Int) ≤ a1))) (some (⟨0, [], []⟩ : S_api_Tree)) ((Jq a0.Kids a1).bind fun x2 => some x2)
noncomputable def Kk (a1 : Int) (a2 : S_api_Tree) (s0_ : (List S_api_Tree)) : Option ((List S_api_Tree) ⊕ (List S_api_Tree)) :=
 cond (cond (decide ((s0_.length : Int) ≤ a1)) (a2.Kind != 0) false) ((Za8 56 s0_ ([(⟨0, [], []⟩ : S_api_Tree)] : List S_api_Tree)).bind fun l1 => (Jq l1 (s0_.length : Int)).bind fun x2 => some (.inl (s0_ ++ [(⟨0, [], []⟩ : S_api_Tree)]))) (some (.inr s0_))
noncomputable def V5 (a0 : S_api_Tree) (a1 : Int) (a2 : S_api_Tree) : Option S_api_Tree :=
 (Z5 (Kk a1 a2) a0.Kids).bind fun (z5 : (List S_api_Tree)) => cond (decide (a1 < (z5.length : Int))) ((Jq z5 a1).bind fun x6 => some (⟨a0.Kind, a0.Words, (Gl z5 a1 a2)⟩ : S_api_Tree)) (some (⟨a0.Kind, a0.Words, z5⟩ : S_api_Tree))
noncomputable def Zar (a0 : Int) : Option Bool :=
 some (cond (decide (2 ≤ a0)) (decide (a0 ≤ 9)) false)
structure Zj where
 At : Int
 Mask : Int
 Old : Int
 New : Int
mutual
structure S_api_Edit where
 Kind : Int
 Old : S_api_Tree
 New : S_api_Tree
 Words : (List Zj)
 Kids : (List S_api_KidEdit)
 List_ : Int
 Ops : (List S_api_Op)
structure S_api_KidEdit where
 At : Int
 E : S_api_Edit
structure S_api_Op where
 Kind : Int
 N : Int
 L : (List S_api_Tree)
 E : S_api_Edit
end
structure Ze where
 left : (List S_api_Tree)
 out : (List S_api_Tree)
noncomputable def Kf (Ye : (S_api_Edit → S_api_Tree → Option (S_api_Tree × Bool))) (Zz : (S_api_Edit → S_api_Tree → Option (S_api_Tree × Bool))) (Yh : (S_api_Edit → S_api_Tree → Option (S_api_Tree × Bool))) (Zs : (Ze → S_api_Op → Option (Bool × Ze))) (Zr : (Ze → S_api_Edit → Option (Bool × Ze))) (a0 : S_api_Edit) (a1 : S_api_Tree) : Option (S_api_Tree × Bool) :=
 cond (a0.Kind == 0) (some (a1, true)) (cond (a0.Kind == 1) ((Zej a1 a0.Old).bind fun y2 => some (a0.New, y2)) (cond (a0.Kind == 2) ((Zz a0 a1).bind fun y4 => some (y4.1, y4.2)) (cond (a0.Kind == 3) ((Yh a0 a1).bind fun y6 => some (y6.1, y6.2)) (some ((⟨0, [], []⟩ : S_api_Tree), false)))))
noncomputable def Y6 (a0 : S_api_Edit) (a1 : S_api_Tree) (s0_ : (Int × Int × (List Int) × (List S_api_Tree))) : Option ((Int × Int × (List Int) × (List S_api_Tree)) ⊕ (Unit ⊕ (Int × (List Int) × (List S_api_Tree)))) :=
 cond (decide (s0_.1 < (a0.Words.length : Int))) ((Jq a0.Words s0_.1).bind fun x110 => (Zas a1 x110.At).bind fun y112 => ((J9 x110.At).bind fun y118 => cond y118 (some true) ((V7 x110.Mask).bind fun y119 => some (cond y118 true ((IntKind.u64.wrap (Zcu .u64 (IntKind.u64.wrap (Zin .u64 y112 x110.Old)) y119)) != 0)))).bind fun (z115 : Bool) => cond z115 (some (.inr (.inl ()))) ((Gt y112 x110.New x110.Mask).bind fun y121 => (Vo (⟨s0_.2.1, s0_.2.2.1, s0_.2.2.2⟩ : S_api_Tree) x110.At y121).bind fun y122 => some (.inl ((IntKind.i64.wrap (s0_.1 + 1)), y122.Kind, y122.Words, y122.Kids)))) (some (.inr (.inr (s0_.2.1, s0_.2.2.1, s0_.2.2.2))))
noncomputable def Yv (Ye : (S_api_Edit → S_api_Tree → Option (S_api_Tree × Bool))) (a0 : S_api_Edit) (a1 : S_api_Tree) (s1_ : (Int × Int × (List Int) × (List S_api_Tree))) : Option ((Int × Int × (List Int) × (List S_api_Tree)) ⊕ (Unit ⊕ (Int × (List Int) × (List S_api_Tree)))) :=
 cond (decide (s1_.1 < (a0.Kids.length : Int))) ((Jq a0.Kids s1_.1).bind fun x127 => (Zbr a1 x127.At).bind fun y130 => (Ye x127.E y130).bind fun y131 => (J9 x127.At).bind fun y133 => cond (cond y133 true (!y131.2)) (some (.inr (.inl ()))) ((V5 (⟨s1_.2.1, s1_.2.2.1, s1_.2.2.2⟩ : S_api_Tree) x127.At y131.1).bind fun y134 => some (.inl ((IntKind.i64.wrap (s1_.1 + 1)), y134.Kind, y134.Words, y134.Kids)))) (some (.inr (.inr (s1_.2.1, s1_.2.2.1, s1_.2.2.2))))
noncomputable def Q8 (Ye : (S_api_Edit → S_api_Tree → Option (S_api_Tree × Bool))) (Zz : (S_api_Edit → S_api_Tree → Option (S_api_Tree × Bool))) (Yh : (S_api_Edit → S_api_Tree → Option (S_api_Tree × Bool))) (Zs : (Ze → S_api_Op → Option (Bool × Ze))) (Zr : (Ze → S_api_Edit → Option (Bool × Ze))) (a0 : S_api_Edit) (a1 : S_api_Tree) : Option (S_api_Tree × Bool) :=
 cond (a1.Kind != 1) (some ((⟨0, [], []⟩ : S_api_Tree), false)) ((Jf a1.Words).bind fun y25 => (Xy a1.Kids).bind fun y61 => (Z5 (Y6 a0 a1) (0, 1, y25, y61)).bind fun (z125 : (Unit ⊕ (Int × (List Int) × (List S_api_Tree)))) => match z125 with | .inl z125 => some ((⟨0, [], []⟩ : S_api_Tree), false) | .inr z125 => (Z5 (Yv Ye a0 a1) (0, z125.1, z125.2.1, z125.2.2)).bind fun (z137 : (Unit ⊕ (Int × (List Int) × (List S_api_Tree)))) => match z137 with | .inl z137 => some ((⟨0, [], []⟩ : S_api_Tree), false) | .inr z137 => some ((⟨z137.1, z137.2.1, z137.2.2⟩ : S_api_Tree), true))
noncomputable def X1 (Zs : (Ze → S_api_Op → Option (Bool × Ze))) (a0 : S_api_Edit) (s0_ : (Int × (List S_api_Tree) × (List S_api_Tree))) : Option ((Int × (List S_api_Tree) × (List S_api_Tree)) ⊕ (Unit ⊕ ((List S_api_Tree) × (List S_api_Tree)))) :=
 cond (decide (s0_.1 < (a0.Ops.length : Int))) ((Jq a0.Ops s0_.1).bind fun x7 => (Zs (⟨s0_.2.1, s0_.2.2⟩ : Ze) x7).bind fun y9 => cond (!y9.1) (some (.inr (.inl ()))) (some (.inl ((IntKind.i64.wrap (s0_.1 + 1)), y9.2.left, y9.2.out)))) (some (.inr (.inr (s0_.2.1, s0_.2.2))))
noncomputable def Ug (Ye : (S_api_Edit → S_api_Tree → Option (S_api_Tree × Bool))) (Zz : (S_api_Edit → S_api_Tree → Option (S_api_Tree × Bool))) (Yh : (S_api_Edit → S_api_Tree → Option (S_api_Tree × Bool))) (Zs : (Ze → S_api_Op → Option (Bool × Ze))) (Zr : (Ze → S_api_Edit → Option (Bool × Ze))) (a0 : S_api_Edit) (a1 : S_api_Tree) : Option (S_api_Tree × Bool) :=
 (cond (a1.Kind != a0.List_) (some true) ((Zar a1.Kind).bind fun y4 => some (cond (a1.Kind != a0.List_) true (!y4)))).bind fun (z2 : Bool) => cond z2 (some ((⟨0, [], []⟩ : S_api_Tree), false)) ((Z5 (X1 Zs a0) (0, a1.Kids, ([] : List S_api_Tree))).bind fun (z12 : (Unit ⊕ ((List S_api_Tree) × (List S_api_Tree)))) => match z12 with | .inl z12 => some ((⟨0, [], []⟩ : S_api_Tree), false) | .inr z12 => some ((⟨a1.Kind, [], z12.2⟩ : S_api_Tree), ((z12.1.length : Int) == 0)))
noncomputable def Jh (Ye : (S_api_Edit → S_api_Tree → Option (S_api_Tree × Bool))) (Zz : (S_api_Edit → S_api_Tree → Option (S_api_Tree × Bool))) (Yh : (S_api_Edit → S_api_Tree → Option (S_api_Tree × Bool))) (Zs : (Ze → S_api_Op → Option (Bool × Ze))) (Zr : (Ze → S_api_Edit → Option (Bool × Ze))) (a0 : Ze) (a1 : S_api_Op) : Option (Bool × Ze) :=
 cond (a1.Kind == 0) ((cond (decide (a1.N < 0)) (some true) (some (cond (decide (a1.N < 0)) true (decide ((a0.left.length : Int) < a1.N))))).bind fun (z1 : Bool) => cond z1 (some (false, (⟨a0.left, a0.out⟩ : Ze))) ((Gz a0.left 0 a1.N).bind fun l5 => (Za8 56 a0.out l5).bind fun l6 => (Gz a0.left a1.N (a0.left.length : Int)).bind fun l8 => some (true, (⟨l8, l6⟩ : Ze)))) (cond (a1.Kind == 1) ((cond (decide ((a0.left.length : Int) < (a1.L.length : Int))) (some true) ((Gz a0.left 0 (a1.L.length : Int)).bind fun l15 => (Yg l15 a1.L).bind fun y16 => some (cond (decide ((a0.left.length : Int) < (a1.L.length : Int))) true (!y16)))).bind fun (z12 : Bool) => cond z12 (some (false, (⟨a0.left, a0.out⟩ : Ze))) ((Gz a0.left (a1.L.length : Int) (a0.left.length : Int)).bind fun l19 => some (true, (⟨l19, a0.out⟩ : Ze)))) (cond (a1.Kind == 2) ((Za8 56 a0.out a1.L).bind fun l22 => some (true, (⟨a0.left, l22⟩ : Ze))) (cond (a1.Kind == 3) ((Zr (⟨a0.left, a0.out⟩ : Ze) a1.E).bind fun y24 => some (y24.1, (⟨y24.2.left, y24.2.out⟩ : Ze))) (some (false, (⟨a0.left, a0.out⟩ : Ze))))))
noncomputable def Xu (Ye : (S_api_Edit → S_api_Tree → Option (S_api_Tree × Bool))) (Zz : (S_api_Edit → S_api_Tree → Option (S_api_Tree × Bool))) (Yh : (S_api_Edit → S_api_Tree → Option (S_api_Tree × Bool))) (Zs : (Ze → S_api_Op → Option (Bool × Ze))) (Zr : (Ze → S_api_Edit → Option (Bool × Ze))) (a0 : Ze) (a1 : S_api_Edit) : Option (Bool × Ze) :=
 cond ((a0.left.length : Int) == 0) (some (false, (⟨a0.left, a0.out⟩ : Ze))) ((Jq a0.left 0).bind fun x3 => (Ye a1 x3).bind fun y4 => (Za8 56 a0.out ([(⟨0, [], []⟩ : S_api_Tree)] : List S_api_Tree)).bind fun l8 => (Jq l8 (a0.out.length : Int)).bind fun x9 => (Gz a0.left 1 (a0.left.length : Int)).bind fun l12 => some (y4.2, (⟨l12, (a0.out ++ [y4.1])⟩ : Ze)))
noncomputable def Zh : Nat → ((S_api_Edit → S_api_Tree → Option (S_api_Tree × Bool)) × (S_api_Edit → S_api_Tree → Option (S_api_Tree × Bool)) × (S_api_Edit → S_api_Tree → Option (S_api_Tree × Bool)) × (Ze → S_api_Op → Option (Bool × Ze)) × (Ze → S_api_Edit → Option (Bool × Ze)))
 | 0 => ((fun _ _ => none), (fun _ _ => none), (fun _ _ => none), (fun _ _ => none), (fun _ _ => none))
 | k + 1 => (Kf ((Zh k).1) ((Zh k).2.1) ((Zh k).2.2.1) ((Zh k).2.2.2.1) ((Zh k).2.2.2.2), Q8 ((Zh k).1) ((Zh k).2.1) ((Zh k).2.2.1) ((Zh k).2.2.2.1) ((Zh k).2.2.2.2), Ug ((Zh k).1) ((Zh k).2.1) ((Zh k).2.2.1) ((Zh k).2.2.2.1) ((Zh k).2.2.2.2), Jh ((Zh k).1) ((Zh k).2.1) ((Zh k).2.2.1) ((Zh k).2.2.2.1) ((Zh k).2.2.2.2), Xu ((Zh k).1) ((Zh k).2.1) ((Zh k).2.2.1) ((Zh k).2.2.2.1) ((Zh k).2.2.2.2))
noncomputable def Zei (a0 : S_api_Edit) (a1 : S_api_Tree) : Option (S_api_Tree × Bool) := lim fun k => (Zh k).1 a0 a1
noncomputable def K2 (U4 : (S_api_Tree → Option S_api_Tree)) (z1 : ((List Int) × (List S_api_Tree))) (s0_ : (Int × (List S_api_Tree))) : Option ((Int × (List S_api_Tree)) ⊕ (List S_api_Tree)) :=
 cond (decide (s0_.1 < (z1.2.length : Int))) ((Jq z1.2 s0_.1).bind fun x9 => (U4 x9).bind fun y10 => (Jq s0_.2 s0_.1).bind fun x11 => some (.inl ((IntKind.i64.wrap (s0_.1 + 1)), (Gl s0_.2 s0_.1 y10)))) (some (.inr s0_.2))
noncomputable def Zai (U4 : (S_api_Tree → Option S_api_Tree)) (a0 : S_api_Tree) : Option S_api_Tree :=
 cond (a0.Kind == 0) (some (⟨0, [], []⟩ : S_api_Tree)) ((cond (a0.Kind == 1) ((Qf a0.Words).bind fun y2 => (Jg a0.Kids).bind fun y3 => some (y2, y3)) (some (a0.Words, a0.Kids))).bind fun (z1 : ((List Int) × (List S_api_Tree))) => (cond (decide (0 < (z1.2.length : Int))) ((Zfp 56 (z1.2.length : Int) (⟨(0 : Int), [], []⟩ : S_api_Tree)).bind fun l6 => some l6) (some ([] : List S_api_Tree))).bind fun (z5 : (List S_api_Tree)) => (Z5 (K2 U4 z1) (0, z5)).bind fun (z14 : (List S_api_Tree)) => some (⟨a0.Kind, z1.1, z14⟩ : S_api_Tree))
noncomputable def Jr : Nat → (S_api_Tree → Option S_api_Tree)
 | 0 => (fun _ => none)
 | k + 1 => Zai ((Jr k))
noncomputable def Zfo (a0 : S_api_Tree) : Option S_api_Tree := lim fun k => (Jr k) a0
noncomputable def Kj (a0 : S_api_Edit) (a1 : S_api_Tree) : Option (S_api_Tree × Bool) :=
 (Zei a0 a1).bind fun y2 => cond (!y2.2) (some ((⟨0, [], []⟩ : S_api_Tree), false)) ((Zfo y2.1).bind fun y4 => some (y4, true))
noncomputable def Xm  : Option Bool :=
 (Kj (⟨2, ⟨0, [], []⟩, ⟨0, [], []⟩, ([(⟨0, 1, 5, 6⟩ : Zj)] : List Zj), [], 0, []⟩ : S_api_Edit) (⟨1, ([5] : List Int), []⟩ : S_api_Tree)).bind fun y2 => (Kj (⟨2, ⟨0, [], []⟩, ⟨0, [], []⟩, ([(⟨0, 1, 5, 6⟩ : Zj)] : List Zj), [], 0, []⟩ : S_api_Edit) (⟨1, ([7] : List Int), []⟩ : S_api_Tree)).bind fun y4 => (cond y2.2 (cond y4.2 (some false) (cond ((y2.1.Words.length : Int) == 1) ((Jq y2.1.Words 0).bind fun x8 => some (cond (cond (cond y2.2 (!y4.2) false) ((y2.1.Words.length : Int) == 1) false) (x8 == 6) false)) (some false))) (some false)).bind fun (z6 : Bool) => some z6
noncomputable def Qt (a0 : (List Int)) (s0_ : Int) : Option (Int ⊕ Int) :=
 (cond (decide (0 < s0_)) ((Jq a0 (IntKind.i64.wrap (s0_ - 1))).bind fun x4 => some (cond (decide (0 < s0_)) (x4 == 0) false)) (some false)).bind fun (z2 : Bool) => cond z2 (some (.inl (IntKind.i64.wrap (s0_ - 1)))) (some (.inr s0_))
noncomputable def Km (a0 : (List Int)) : Option (List Int) :=
 (Z5 (Qt a0) (a0.length : Int)).bind fun (z7 : Int) => (Gz a0 0 z7).bind fun l10 => (Za8 8 ([] : List Int) l10).bind fun l11 => some l11
noncomputable def Y7 (Jd : (S_api_Tree → Option S_api_Tree)) (a0 : S_api_Tree) (s0_ : (Int × Int × (List S_api_Tree))) : Option ((Int × Int × (List S_api_Tree)) ⊕ (Int × (List S_api_Tree))) :=
 cond (decide (s0_.2.1 < (a0.Kids.length : Int))) (((Jq a0.Kids s0_.2.1).bind fun x4 => (Jd x4).bind fun y5 => (Za8 56 s0_.2.2 ([y5] : List S_api_Tree)).bind fun l7 => cond (y5.Kind != 0) (some ((IntKind.i64.wrap (s0_.2.1 + 1)), l7)) (some (s0_.1, l7))).bind fun (z1 : (Int × (List S_api_Tree))) => some (.inl (z1.1, (IntKind.i64.wrap (s0_.2.1 + 1)), z1.2))) (some (.inr (s0_.1, s0_.2.2)))
noncomputable def Kg (Jd : (S_api_Tree → Option S_api_Tree)) (a0 : S_api_Tree) : Option S_api_Tree :=
 cond (a0.Kind == 0) (some (⟨0, [], []⟩ : S_api_Tree)) ((Z5 (Y7 Jd a0) (0, 0, ([] : List S_api_Tree))).bind fun (z10 : (Int × (List S_api_Tree))) => cond (a0.Kind == 1) ((Km a0.Words).bind fun y14 => (Gz z10.2 0 z10.1).bind fun l15 => some (⟨1, y14, l15⟩ : S_api_Tree)) ((Za8 8 ([] : List Int) a0.Words).bind fun l17 => some (⟨a0.Kind, l17, z10.2⟩ : S_api_Tree)))
noncomputable def Ym : Nat → (S_api_Tree → Option S_api_Tree)
 | 0 => (fun _ => none)
 | k + 1 => Kg ((Ym k))
noncomputable def Jb (a0 : S_api_Tree) : Option S_api_Tree := lim fun k => (Ym k) a0
noncomputable def Qs (a0 : (List Int)) (a1 : (List Int)) (s0_ : Int) : Option (Int ⊕ (Unit ⊕ Unit)) :=
 cond (decide (s0_ < (a0.length : Int))) ((Jq a0 s0_).bind fun x3 => (Jq a1 s0_).bind fun x4 => cond (x3 != x4) (some (.inr (.inl ()))) (some (.inl (IntKind.i64.wrap (s0_ + 1))))) (some (.inr (.inr ())))
noncomputable def Kl (a0 : (List Int)) (a1 : (List Int)) : Option Bool :=
 cond ((a0.length : Int) != (a1.length : Int)) (some false) ((Z5 (Qs a0 a1) 0).bind fun (z7 : (Unit ⊕ Unit)) => match z7 with | .inl z7 => some false | .inr z7 => some true)
noncomputable def Qn (Je : (S_api_Tree → S_api_Tree → Option Bool)) (a0 : S_api_Tree) (a1 : S_api_Tree) (s0_ : Int) : Option (Int ⊕ (Unit ⊕ Unit)) :=
 cond (decide (s0_ < (a0.Kids.length : Int))) ((Jq a0.Kids s0_).bind fun x9 => (Jq a1.Kids s0_).bind fun x10 => (Je x9 x10).bind fun y11 => cond (!y11) (some (.inr (.inl ()))) (some (.inl (IntKind.i64.wrap (s0_ + 1))))) (some (.inr (.inr ())))
noncomputable def Kh (Je : (S_api_Tree → S_api_Tree → Option Bool)) (a0 : S_api_Tree) (a1 : S_api_Tree) : Option Bool :=
 (cond (a0.Kind != a1.Kind) (some true) ((Kl a0.Words a1.Words).bind fun y4 => some (cond (cond (a0.Kind != a1.Kind) true (!y4)) true ((a0.Kids.length : Int) != (a1.Kids.length : Int))))).bind fun (z2 : Bool) => cond z2 (some false) ((Z5 (Qn Je a0 a1) 0).bind fun (z14 : (Unit ⊕ Unit)) => match z14 with | .inl z14 => some false | .inr z14 => some true)
noncomputable def Xl : Nat → (S_api_Tree → S_api_Tree → Option Bool)
 | 0 => (fun _ _ => none)
 | k + 1 => Kh ((Xl k))
noncomputable def Xx (a0 : S_api_Tree) (a1 : S_api_Tree) : Option Bool := lim fun k => (Xl k) a0 a1
noncomputable def J5 (a0 : S_api_Tree) (a1 : S_api_Tree) : Option Bool :=
 (Jb a0).bind fun y4 => (Jb a1).bind fun y5 => (Xx y4 y5).bind fun y6 => some y6
noncomputable def Js (a0 : S_api_Tree) (a1 : S_api_Tree) (a2 : S_api_Tree) : Option Bool :=
 ((Xw a0).bind fun y8 => cond y8 ((Xw a1).bind fun y9 => cond y9 ((Xw a2).bind fun y10 => some (cond (cond (!y8) true (!y9)) true (!y10))) (some true)) (some true)).bind fun (z4 : Bool) => cond z4 ((Xm).bind fun y14 => some y14) ((Kj (⟨0, ⟨0, [], []⟩, ⟨0, [], []⟩, [], [], 0, []⟩ : S_api_Edit) a2).bind fun y16 => (Kj (⟨1, a0, a1, [], [], 0, []⟩ : S_api_Edit) a2).bind fun y18 => (cond y16.2 ((Jb a2).bind fun y26 => (Xx y16.1 y26).bind fun y27 => cond y27 ((J5 a0 a2).bind fun y28 => some (cond (cond (!y16.2) true (!y27)) true (y18.2 != y28))) (some true)) (some true)).bind fun (z22 : Bool) => cond z22 (some false) ((cond y18.2 ((Jb a1).bind fun y42 => (Xx y18.1 y42).bind fun y43 => cond y43 ((Xm).bind fun y44 => some y44) (some false)) ((Xx y18.1 (⟨0, [], []⟩ : S_api_Tree)).bind fun y45 => cond y45 ((Xm).bind fun y46 => some (cond (cond (!y18.2) y45 false) y46 false)) (some false))).bind fun (z36 : Bool) => some z36))
end Go.Proofs.Ytmpkfolcikhofaa
