/- Part BD of this seat's mirrors: functions of the seat's program, and the plain functions that they are; each theorem bears its own conditions. -/
import Derived.Test.YtgpaglmhkklneaaH26
namespace Go.Proofs.Ytgpaglmhkklneaa
open Go.RowKit
set_option linter.unusedVariables false
set_option linter.unusedSimpArgs false
set_option maxRecDepth 100000
set_option maxHeartbeats 4000000
structure Zb where
 Kind : Int
 Words : (List Int)
 Kids : (List Zb)
noncomputable def Qp (Qy : (Zb → Int → Int → Option Int)) (a0 : Zb) (a1 : Int) (s0_ : (Int × Int)) : Option ((Int × Int) ⊕ Int) :=
 cond (cond (decide (s0_.2 < (a0.Kids.length : Int))) (decide (0 ≤ s0_.1)) false) ((Xp a0.Kids s0_.2).bind fun x1 => (Qy x1 (IntKind.i64.wrap (a1 - 1)) s0_.1).bind fun y2 => some (.inl (y2, (IntKind.i64.wrap (s0_.2 + 1))))) (some (.inr s0_.1))
noncomputable def Qv (Qy : (Zb → Int → Int → Option Int)) (a0 : Zb) (a1 : Int) (a2 : Int) : Option Int :=
 cond (cond (a1 == 0) true (decide ((IntKind.i64.wrap ((IntKind.i64.wrap (a2 - 1)) - (a0.Words.length : Int))) < 0))) (some (-1)) ((Zy (Qp Qy a0 a1) ((IntKind.i64.wrap ((IntKind.i64.wrap (a2 - 1)) - (a0.Words.length : Int))), 0)).bind fun (z4 : Int) => some z4)
noncomputable def Y5 : Nat → (Zb → Int → Int → Option Int)
 | 0 => (fun _ _ _ => none)
 | k + 1 => Qv ((Y5 k))
noncomputable def Qx (a0 : Zb) (a1 : Int) (a2 : Int) : Option Int := lim fun k => (Y5 k) a0 a1 a2
noncomputable def Jo (a0 : Zb) : Option Bool :=
 (Qx a0 80 3000).bind fun y2 => some (decide (0 ≤ y2))
noncomputable def Zf4 (a0 : Int) : Option Int :=
 cond (a0 == 0) (some 0) (cond (a0 == 1) (some 1) (cond (a0 == 2) (some 8) (cond (a0 == 3) (some 16) (cond (a0 == 4) (some 32) (cond (a0 == 5) (some 64) (some (-1)))))))
noncomputable def Qw (y2 : Int) (s0_ : (Int × Int)) : Option ((Int × Int) ⊕ Int) :=
 cond (decide (s0_.2 < y2)) (some (.inl ((IntKind.u64.wrap (Int.tdiv s0_.1 2)), (IntKind.i64.wrap (s0_.2 + 1))))) (some (.inr s0_.1))
noncomputable def Ut (a0 : Int) (a1 : Int) : Option Bool :=
 (Zf4 a0).bind fun y2 => cond (decide (y2 < 0)) (some false) ((Zy (Qw y2) (a1, 0)).bind fun (z4 : Int) => some (z4 == 0))
noncomputable def Vu (Jj : (Zb → Int → Option Bool)) (a0 : Zb) (a1 : Int) (s0_ : Int) : Option (Int ⊕ (Unit ⊕ Unit)) :=
 cond (decide (s0_ < (a0.Kids.length : Int))) ((Xp a0.Kids s0_).bind fun x2 => (Jj x2 (IntKind.i64.wrap (a1 - 1))).bind fun y4 => cond (!y4) (some (.inr (.inl ()))) ((cond ((cond (decide (2 ≤ a0.Kind)) (decide (a0.Kind ≤ 7)) false) != (x2.Kind == 10)) (some true) (cond (a0.Kind == 9) (cond (x2.Kind != 1) (some true) (cond (decide (2 ≤ a0.Kind)) (cond (decide (a0.Kind ≤ 7)) ((Xp x2.Words 0).bind fun x14 => (Ut (IntKind.i64.wrap (a0.Kind - 2)) x14).bind fun y15 => some (cond (cond ((cond (decide (2 ≤ a0.Kind)) (decide (a0.Kind ≤ 7)) false) != (x2.Kind == 10)) true (cond (a0.Kind == 9) (x2.Kind != 1) false)) true (cond (cond (decide (2 ≤ a0.Kind)) (decide (a0.Kind ≤ 7)) false) (!y15) false))) (some (cond (cond ((cond (decide (2 ≤ a0.Kind)) (decide (a0.Kind ≤ 7)) false) != (x2.Kind == 10)) true (cond (a0.Kind == 9) (x2.Kind != 1) false)) true false))) (some (cond (cond ((cond (decide (2 ≤ a0.Kind)) (decide (a0.Kind ≤ 7)) false) != (x2.Kind == 10)) true (cond (a0.Kind == 9) (x2.Kind != 1) false)) true false)))) (cond (decide (2 ≤ a0.Kind)) (cond (decide (a0.Kind ≤ 7)) ((Xp x2.Words 0).bind fun x16 => (Ut (IntKind.i64.wrap (a0.Kind - 2)) x16).bind fun y17 => some (cond (cond ((cond (decide (2 ≤ a0.Kind)) (decide (a0.Kind ≤ 7)) false) != (x2.Kind == 10)) true (cond (a0.Kind == 9) (x2.Kind != 1) false)) true (cond (cond (decide (2 ≤ a0.Kind)) (decide (a0.Kind ≤ 7)) false) (!y17) false))) (some (cond (cond ((cond (decide (2 ≤ a0.Kind)) (decide (a0.Kind ≤ 7)) false) != (x2.Kind == 10)) true (cond (a0.Kind == 9) (x2.Kind != 1) false)) true false))) (some (cond (cond ((cond (decide (2 ≤ a0.Kind)) (decide (a0.Kind ≤ 7)) false) != (x2.Kind == 10)) true (cond (a0.Kind == 9) (x2.Kind != 1) false)) true false))))).bind fun (z9 : Bool) => cond z9 (some (.inr (.inl ()))) (some (.inl (IntKind.i64.wrap (s0_ + 1)))))) (some (.inr (.inr ())))
noncomputable def Gv (Jj : (Zb → Int → Option Bool)) (a0 : Zb) (a1 : Int) : Option Bool :=
 cond (a0.Kind == 0) (some (cond ((a0.Words.length : Int) == 0) ((a0.Kids.length : Int) == 0) false)) (cond (a0.Kind == 10) (some (cond ((a0.Words.length : Int) == 1) ((a0.Kids.length : Int) == 0) false)) (cond (cond (cond (cond (cond (cond (decide (a0.Kind < 0)) true (decide (10 < a0.Kind))) true (a1 == 0)) true (decide (65536 ≤ (a0.Words.length : Int)))) true (cond (a0.Kind == 1) (decide (65536 ≤ (a0.Kids.length : Int))) false)) true (decide (1048576 ≤ (a0.Kids.length : Int)))) (some false) (cond (cond (decide (1 < a0.Kind)) (decide (0 < (a0.Words.length : Int))) false) (some false) ((Zy (Vu Jj a0 a1) 0).bind fun (z28 : (Unit ⊕ Unit)) => match z28 with | .inl z28 => some false | .inr z28 => some true))))
noncomputable def Jt : Nat → (Zb → Int → Option Bool)
 | 0 => (fun _ _ => none)
 | k + 1 => Gv ((Jt k))
noncomputable def V2 (a0 : Zb) (a1 : Int) : Option Bool := lim fun k => (Jt k) a0 a1
noncomputable def Zen (a0 : Int) : Option Bool :=
 some (cond (decide (2 ≤ a0)) (decide (a0 ≤ 9)) false)
noncomputable def Um (a0 : (List Zb)) (s0_ : Int) : Option (Int ⊕ (Unit ⊕ Unit)) :=
 cond (decide (s0_ < (a0.length : Int))) ((Xp a0 s0_).bind fun x2 => cond (x2.Kind != 1) (some (.inr (.inl ()))) (some (.inl (IntKind.i64.wrap (s0_ + 1))))) (some (.inr (.inr ())))
noncomputable def Zbs (a0 : (List Zb)) : Option Bool :=
 (Zy (Um a0) 0).bind fun (z5 : (Unit ⊕ Unit)) => match z5 with | .inl z5 => some false | .inr z5 => some true
noncomputable def Zmj (a0 : Int) : Option (Int × Bool) :=
 ((some (⟨[0, 1, 8, 16, 32, 64], rfl⟩ : (Arr Int 6)))).bind fun y6 => ((some (⟨[0, 0, 0, 0, 0, 0], rfl⟩ : (Arr Int 6)))).bind fun y8 => cond (cond (decide (a0 < 0)) true (decide (6 ≤ a0))) (some (0, false)) ((Xp y6.1 a0).bind fun x12 => some (x12, true))
noncomputable def Zie (a0 : Int) (a1 : Int) : Option Bool :=
 (Zmj a0).bind fun y2 => (cond y2.2 ((Zjc (0 ≤ y2.1)).bind fun u6 => some (cond y2.2 ((Int.fdiv a1 (2 ^ min (Int.toNat y2.1) 64)) == 0) false)) (some false)).bind fun (z4 : Bool) => some z4
noncomputable def Zgo (Xq : (Zb → Option Bool)) (Xo : (Zb → Int → Option Bool)) (Y3 : ((List Zb) → Int → Option Bool)) (Xb : ((List Zb) → Int → Option Bool)) (a0 : Zb) : Option Bool :=
 cond (a0.Kind == 10) (some (cond ((a0.Words.length : Int) == 1) ((a0.Kids.length : Int) == 0) false)) ((Xo a0 64).bind fun y2 => some y2)
noncomputable def Zgp (Xq : (Zb → Option Bool)) (Xo : (Zb → Int → Option Bool)) (Y3 : ((List Zb) → Int → Option Bool)) (Xb : ((List Zb) → Int → Option Bool)) (a0 : Zb) (a1 : Int) : Option Bool :=
 cond (a0.Kind == 0) (some (cond ((a0.Words.length : Int) == 0) ((a0.Kids.length : Int) == 0) false)) (cond (a1 == 0) (some false) (cond (a0.Kind == 1) ((cond (decide ((a0.Words.length : Int) < 65536)) (cond (decide ((a0.Kids.length : Int) < 65536)) ((Y3 a0.Kids (IntKind.i64.wrap (a1 - 1))).bind fun y4 => some (cond (cond (decide ((a0.Words.length : Int) < 65536)) (decide ((a0.Kids.length : Int) < 65536)) false) y4 false)) (some false)) (some false)).bind fun (z2 : Bool) => some z2) ((Zen a0.Kind).bind fun y8 => cond (cond (cond (!y8) true (decide (0 < (a0.Words.length : Int)))) true (decide (1048576 ≤ (a0.Kids.length : Int)))) (some false) (cond (a0.Kind == 8) ((Y3 a0.Kids (IntKind.i64.wrap (a1 - 1))).bind fun y10 => some y10) (cond (a0.Kind == 9) (((Zbs a0.Kids).bind fun y16 => cond y16 ((Y3 a0.Kids (IntKind.i64.wrap (a1 - 1))).bind fun y17 => some (cond y16 y17 false)) (some false)).bind fun (z13 : Bool) => some z13) ((Xb a0.Kids (IntKind.i64.wrap (a0.Kind - 2))).bind fun y20 => some y20))))))
noncomputable def Zad (Xo : (Zb → Int → Option Bool)) (a0 : (List Zb)) (a1 : Int) (s0_ : Int) : Option (Int ⊕ (Unit ⊕ Unit)) :=
 cond (decide (s0_ < (a0.length : Int))) ((Xp a0 s0_).bind fun x2 => (Xo x2 a1).bind fun y4 => cond (!y4) (some (.inr (.inl ()))) (some (.inl (IntKind.i64.wrap (s0_ + 1))))) (some (.inr (.inr ())))
noncomputable def Zdk (Xq : (Zb → Option Bool)) (Xo : (Zb → Int → Option Bool)) (Y3 : ((List Zb) → Int → Option Bool)) (Xb : ((List Zb) → Int → Option Bool)) (a0 : (List Zb)) (a1 : Int) : Option Bool :=
 (Zy (Zad Xo a0 a1) 0).bind fun (z7 : (Unit ⊕ Unit)) => match z7 with | .inl z7 => some false | .inr z7 => some true
noncomputable def Zac (Xq : (Zb → Option Bool)) (a0 : (List Zb)) (a1 : Int) (s0_ : Int) : Option (Int ⊕ (Unit ⊕ Unit)) :=
 cond (decide (s0_ < (a0.length : Int))) ((Xp a0 s0_).bind fun x2 => (cond (x2.Kind != 10) (some true) ((Xq x2).bind fun y10 => cond y10 ((Xp x2.Words 0).bind fun x11 => (Zie a1 x11).bind fun y12 => some (cond (cond (x2.Kind != 10) true (!y10)) true (!y12))) (some true))).bind fun (z6 : Bool) => cond z6 (some (.inr (.inl ()))) (some (.inl (IntKind.i64.wrap (s0_ + 1))))) (some (.inr (.inr ())))
noncomputable def Zdj (Xq : (Zb → Option Bool)) (Xo : (Zb → Int → Option Bool)) (Y3 : ((List Zb) → Int → Option Bool)) (Xb : ((List Zb) → Int → Option Bool)) (a0 : (List Zb)) (a1 : Int) : Option Bool :=
 (Zy (Zac Xq a0 a1) 0).bind fun (z17 : (Unit ⊕ Unit)) => match z17 with | .inl z17 => some false | .inr z17 => some true
noncomputable def Zz : Nat → ((Zb → Option Bool) × (Zb → Int → Option Bool) × ((List Zb) → Int → Option Bool) × ((List Zb) → Int → Option Bool))
 | 0 => ((fun _ => none), (fun _ _ => none), (fun _ _ => none), (fun _ _ => none))
 | k + 1 => (Zgo ((Zz k).1) ((Zz k).2.1) ((Zz k).2.2.1) ((Zz k).2.2.2), Zgp ((Zz k).1) ((Zz k).2.1) ((Zz k).2.2.1) ((Zz k).2.2.2), Zdk ((Zz k).1) ((Zz k).2.1) ((Zz k).2.2.1) ((Zz k).2.2.2), Zdj ((Zz k).1) ((Zz k).2.1) ((Zz k).2.2.1) ((Zz k).2.2.2))
noncomputable def Ze6 (a0 : Zb) : Option Bool := lim fun k => (Zz k).1 a0
noncomputable def Gh (a0 : (List Int)) (s0_ : Int) : Option (Int ⊕ Int) :=
 (cond (decide (0 < s0_)) ((Xp a0 (IntKind.i64.wrap (s0_ - 1))).bind fun x4 => some (cond (decide (0 < s0_)) (x4 == 0) false)) (some false)).bind fun (z2 : Bool) => cond z2 (some (.inl (IntKind.i64.wrap (s0_ - 1)))) (some (.inr s0_))
noncomputable def V3 (a0 : (List Int)) : Option (List Int) :=
 (Zy (Gh a0) (a0.length : Int)).bind fun (z7 : Int) => (Zgi a0 0 z7).bind fun l9 => some l9
noncomputable def Zak (a0 : (List Zb)) (s0_ : Int) : Option (Int ⊕ Int) :=
 (cond (decide (0 < s0_)) ((Xp a0 (IntKind.i64.wrap (s0_ - 1))).bind fun x6 => some (cond (decide (0 < s0_)) (x6.Kind == 0) false)) (some false)).bind fun (z3 : Bool) => cond z3 (some (.inl (IntKind.i64.wrap (s0_ - 1)))) (some (.inr s0_))
noncomputable def Ga (a0 : (List Zb)) : Option (List Zb) :=
 (Zy (Zak a0) (a0.length : Int)).bind fun (z10 : Int) => (Zgi a0 0 z10).bind fun l12 => some l12
noncomputable def Zct (Zc8 : (Zb → Option Zb)) (z1 : ((List Int) × (List Zb))) (s0_ : (Int × (List Zb))) : Option ((Int × (List Zb)) ⊕ (List Zb)) :=
 cond (decide (s0_.1 < (z1.2.length : Int))) ((Xp z1.2 s0_.1).bind fun x9 => (Zc8 x9).bind fun y10 => (Xp s0_.2 s0_.1).bind fun x11 => some (.inl ((IntKind.i64.wrap (s0_.1 + 1)), (Zh2 s0_.2 s0_.1 y10)))) (some (.inr s0_.2))
noncomputable def Zh8 (Zc8 : (Zb → Option Zb)) (a0 : Zb) : Option Zb :=
 cond (a0.Kind == 0) (some (⟨0, [], []⟩ : Zb)) ((cond (a0.Kind == 1) ((V3 a0.Words).bind fun y2 => (Ga a0.Kids).bind fun y3 => some (y2, y3)) (some (a0.Words, a0.Kids))).bind fun (z1 : ((List Int) × (List Zb))) => (cond (decide (0 < (z1.2.length : Int))) ((Zn7 56 (z1.2.length : Int) (⟨(0 : Int), [], []⟩ : Zb)).bind fun l6 => some l6) (some ([] : List Zb))).bind fun (z5 : (List Zb)) => (Zy (Zct Zc8 z1) (0, z5)).bind fun (z14 : (List Zb)) => some (⟨a0.Kind, z1.1, z14⟩ : Zb))
noncomputable def Gk : Nat → (Zb → Option Zb)
 | 0 => (fun _ => none)
 | k + 1 => Zh8 ((Gk k))
noncomputable def Zbr (a0 : Zb) : Option Zb := lim fun k => (Gk k) a0
structure Zu where
 At : Int
 Mask : Int
 Old : Int
 New : Int
mutual
structure Zc where
 Kind : Int
 Old : Zb
 New : Zb
 Words : (List Zu)
 Kids : (List Zp)
 List_ : Int
 Ops : (List Zm)
structure Zp where
 At : Int
 E : Zc
structure Zm where
 Kind : Int
 N : Int
 L : (List Zb)
 E : Zc
end
structure Zo where
 now : Zb
 done : (List Zc)
 back : (List Zc)
noncomputable def Zdx (a0 : Zb) : Option Zo :=
 (cond (a0.Kind == 10) (some true) ((Ze6 a0).bind fun y4 => some (cond (a0.Kind == 10) true (!y4)))).bind fun (z2 : Bool) => cond z2 (none) ((Zbr a0).bind fun y7 => some (⟨y7, [], []⟩ : Zo))
noncomputable def Gt (a0 : Zb) : Option Bool :=
 some (cond (a0.Kind != 0) true (decide (0 < (IntKind.i64.wrap ((a0.Words.length : Int) + (a0.Kids.length : Int))))))
noncomputable def Ul (a0 : Bool) (a1 : Bool) (a2 : Bool) (a3 : Zc) : Option Bool :=
 (cond a0 ((Gt a3.Old).bind fun y6 => cond y6 (some false) ((Gt a3.New).bind fun y7 => some (cond (cond (!(cond a0 (cond y6 true y7) false)) (!(cond a1 (decide (0 < (IntKind.i64.wrap ((a3.Words.length : Int) + (a3.Kids.length : Int))))) false)) false) (!(cond a2 (cond (a3.List_ != 0) true (decide (0 < (a3.Ops.length : Int)))) false)) false))) (some (cond (!(cond a1 (decide (0 < (IntKind.i64.wrap ((a3.Words.length : Int) + (a3.Kids.length : Int))))) false)) (!(cond a2 (cond (a3.List_ != 0) true (decide (0 < (a3.Ops.length : Int)))) false)) false))).bind fun (z3 : Bool) => some z3
noncomputable def Ze5 (a0 : Zb) : Option Bool :=
 (cond (a0.Kind != 10) ((Ze6 a0).bind fun y4 => some (cond (a0.Kind != 10) y4 false)) (some false)).bind fun (z2 : Bool) => some z2
noncomputable def Zeo (a0 : Int) (s0_ : (Int × Int)) : Option ((Int × Int) ⊕ Int) :=
 cond (decide (s0_.2 < 8)) (((Zjc (0 ≤ s0_.2)).bind fun u3 => cond ((IntKind.u8.wrap (Zgd .u8 (Int.fdiv a0 (2 ^ min (Int.toNat s0_.2) 8)) 1)) == 1) ((Zjc (0 ≤ (IntKind.i64.wrap (8 * s0_.2)))).bind fun u4 => some (IntKind.u64.wrap (Zy0 .u64 s0_.1 (IntKind.u64.wrap (255 * 2 ^ min (Int.toNat (IntKind.i64.wrap (8 * s0_.2))) 64))))) (some s0_.1)).bind fun (z1 : Int) => some (.inl (z1, (IntKind.i64.wrap (s0_.2 + 1))))) (some (.inr s0_.1))
noncomputable def Zbt (a0 : Int) : Option Int :=
 (Zy (Zeo a0) (0, 0)).bind fun (z7 : Int) => some z7
noncomputable def Uk (a0 : (List Zu)) (s0_ : (Int × Int)) : Option ((Int × Int) ⊕ (Unit ⊕ Unit)) :=
 cond (decide (s0_.2 < (a0.length : Int))) ((Xp a0 s0_.2).bind fun x2 => (Zbt x2.Mask).bind fun y4 => cond (cond (cond (cond (cond (decide (x2.At ≤ s0_.1)) true (decide (65534 < x2.At))) true (x2.Mask == 0)) true ((IntKind.u64.wrap (Zgd .u64 x2.Old (IntKind.u64.wrap (Zic .u64 (if IntKind.signed .u64 = true then -1 else IntKind.max .u64) y4)))) != 0)) true ((IntKind.u64.wrap (Zgd .u64 x2.New (IntKind.u64.wrap (Zic .u64 (if IntKind.signed .u64 = true then -1 else IntKind.max .u64) y4)))) != 0)) (some (.inr (.inl ()))) (some (.inl (x2.At, (IntKind.i64.wrap (s0_.2 + 1)))))) (some (.inr (.inr ())))
noncomputable def Zbq (a0 : (List Zu)) : Option Bool :=
 (Zy (Uk a0) ((-1), 0)).bind fun (z7 : (Unit ⊕ Unit)) => match z7 with | .inl z7 => some false | .inr z7 => some true
noncomputable def Zdm (a0 : Int) (a1 : Zc) : Option Bool :=
 cond (a0 == 8) (some (a1.Kind != 0)) (cond (a0 == 9) (some (cond (a1.Kind == 2) true (cond (cond (a1.Kind == 1) (a1.Old.Kind == 1) false) (a1.New.Kind == 1) false))) (some false))
noncomputable def Zcw (a0 : Zm) : Option Int :=
 cond (a0.Kind == 0) (some (if 1048576 < (if a0.N < 0 then 0 else a0.N) then 1048576 else (if a0.N < 0 then 0 else a0.N))) ((cond (a0.Kind == 1) (some (a0.Kind == 1)) (some (a0.Kind == 2))).bind fun (z1 : Bool) => cond z1 (some (a0.L.length : Int)) (cond (a0.Kind == 3) (some 1) (some 0)))
noncomputable def Zbp (a0 : Zc) (s0_ : (Int × Int × Int)) : Option ((Int × Int × Int) ⊕ (Int × Int)) :=
 cond (decide (s0_.2.2 < (a0.Ops.length : Int))) (((Xp a0.Ops s0_.2.2).bind fun x3 => (cond (x3.Kind != 2) ((Zcw x3).bind fun y5 => some (if 1048576 < (IntKind.i64.wrap (s0_.1 + y5)) then 1048576 else (IntKind.i64.wrap (s0_.1 + y5)))) (some s0_.1)).bind fun (z4 : Int) => cond (x3.Kind != 1) ((Zcw x3).bind fun y7 => some (z4, (if 1048576 < (IntKind.i64.wrap (s0_.2.1 + y7)) then 1048576 else (IntKind.i64.wrap (s0_.2.1 + y7))))) (some (z4, s0_.2.1))).bind fun (z1 : (Int × Int)) => some (.inl (z1.1, z1.2, (IntKind.i64.wrap (s0_.2.2 + 1))))) (some (.inr (s0_.1, s0_.2.1)))
noncomputable def Zem (a0 : Zc) : Option (Int × Int) :=
 (Zy (Zbp a0) (0, 0, 0)).bind fun (z10 : (Int × Int)) => some (z10.1, z10.2)
noncomputable def Zgl (Yv : (Zc → Option Bool)) (Yr : (Zc → Int → Option Bool)) (Yd : ((List Zp) → Int → Option Bool)) (Yh : (Zc → Int → Option Bool)) (Yi : (Int → Zm → Int → Option Bool)) (Ya : (Bool → Bool → Bool → Zm → Option Bool)) (a0 : Zc) : Option Bool :=
 (Yr a0 64).bind fun y2 => some y2
noncomputable def Zgm (Yv : (Zc → Option Bool)) (Yr : (Zc → Int → Option Bool)) (Yd : ((List Zp) → Int → Option Bool)) (Yh : (Zc → Int → Option Bool)) (Yi : (Int → Zm → Int → Option Bool)) (Ya : (Bool → Bool → Bool → Zm → Option Bool)) (a0 : Zc) (a1 : Int) : Option Bool :=
 cond (a1 == 0) (some false) (cond (a0.Kind == 0) ((Ul true true true a0).bind fun y2 => some y2) (cond (a0.Kind == 1) (((Ul false true true a0).bind fun y10 => cond y10 ((Ze5 a0.Old).bind fun y11 => cond y11 ((Ze5 a0.New).bind fun y12 => some (cond (cond y10 y11 false) y12 false)) (some false)) (some false)).bind fun (z6 : Bool) => some z6) (cond (a0.Kind == 2) (((Ul true false true a0).bind fun y22 => cond y22 ((Zbq a0.Words).bind fun y23 => cond y23 ((Yd a0.Kids (IntKind.i64.wrap (a1 - 1))).bind fun y24 => some (cond (cond y22 y23 false) y24 false)) (some false)) (some false)).bind fun (z18 : Bool) => some z18) (cond (a0.Kind == 3) (((Ul true true false a0).bind fun y32 => cond y32 ((Yh a0 (IntKind.i64.wrap (a1 - 1))).bind fun y33 => some (cond y32 y33 false)) (some false)).bind fun (z29 : Bool) => some z29) (some false)))))
noncomputable def Gf (Yr : (Zc → Int → Option Bool)) (a0 : (List Zp)) (a1 : Int) (s0_ : (Int × Int)) : Option ((Int × Int) ⊕ (Unit ⊕ Unit)) :=
 cond (decide (s0_.2 < (a0.length : Int))) ((Xp a0 s0_.2).bind fun x2 => (cond (decide (x2.At ≤ s0_.1)) (some true) (cond (decide (65534 < x2.At)) (some true) (cond (x2.E.Kind == 0) (some true) ((Yr x2.E a1).bind fun y6 => some (cond (cond (cond (decide (x2.At ≤ s0_.1)) true (decide (65534 < x2.At))) true (x2.E.Kind == 0)) true (!y6)))))).bind fun (z4 : Bool) => cond z4 (some (.inr (.inl ()))) (some (.inl (x2.At, (IntKind.i64.wrap (s0_.2 + 1)))))) (some (.inr (.inr ())))
noncomputable def Zcq (Yv : (Zc → Option Bool)) (Yr : (Zc → Int → Option Bool)) (Yd : ((List Zp) → Int → Option Bool)) (Yh : (Zc → Int → Option Bool)) (Yi : (Int → Zm → Int → Option Bool)) (Ya : (Bool → Bool → Bool → Zm → Option Bool)) (a0 : (List Zp)) (a1 : Int) : Option Bool :=
 (Zy (Gf Yr a0 a1) ((-1), 0)).bind fun (z12 : (Unit ⊕ Unit)) => match z12 with | .inl z12 => some false | .inr z12 => some true
noncomputable def Gz (Yi : (Int → Zm → Int → Option Bool)) (a0 : Zc) (a1 : Int) (s0_ : Int) : Option (Int ⊕ (Unit ⊕ Unit)) :=
 cond (decide (s0_ < (a0.Ops.length : Int))) ((Xp a0.Ops s0_).bind fun x4 => (Yi a0.List_ x4 a1).bind fun y6 => cond (!y6) (some (.inr (.inl ()))) (some (.inl (IntKind.i64.wrap (s0_ + 1))))) (some (.inr (.inr ())))
noncomputable def Zdh (Yv : (Zc → Option Bool)) (Yr : (Zc → Int → Option Bool)) (Yd : ((List Zp) → Int → Option Bool)) (Yh : (Zc → Int → Option Bool)) (Yi : (Int → Zm → Int → Option Bool)) (Ya : (Bool → Bool → Bool → Zm → Option Bool)) (a0 : Zc) (a1 : Int) : Option Bool :=
 (Zen a0.List_).bind fun y2 => cond (!y2) (some false) ((Zy (Gz Yi a0 a1) 0).bind fun (z9 : (Unit ⊕ Unit)) => match z9 with | .inl z9 => some false | .inr z9 => (Zem a0).bind fun y11 => some (cond (decide (y11.1 < 1048576)) (decide (y11.2 < 1048576)) false))
noncomputable def Zee (Yv : (Zc → Option Bool)) (Yr : (Zc → Int → Option Bool)) (Yd : ((List Zp) → Int → Option Bool)) (Yh : (Zc → Int → Option Bool)) (Yi : (Int → Zm → Int → Option Bool)) (Ya : (Bool → Bool → Bool → Zm → Option Bool)) (a0 : Int) (a1 : Zm) (a2 : Int) : Option Bool :=
 (cond (a1.Kind == 0) ((Ya false true true a1).bind fun y3 => some (.inr (.inl (cond (cond y3 (decide (1 ≤ a1.N)) false) (decide (a1.N ≤ 1048576)) false)))) (cond (a1.Kind == 1) (some (.inl ())) (cond (a1.Kind == 2) (some (.inl ())) (cond (a1.Kind == 3) (some (.inr (.inr (.inl ())))) (some (.inr (.inr (.inr ())))))))).bind fun (z1 : (Unit ⊕ (Bool ⊕ (Unit ⊕ Unit)))) => match z1 with | .inl z1 => ((Ya true false true a1).bind fun y13 => cond y13 (cond (decide (0 < (a1.L.length : Int))) ((Ze6 (⟨a0, [], a1.L⟩ : Zb)).bind fun y14 => some (cond (cond y13 (decide (0 < (a1.L.length : Int))) false) y14 false)) (some false)) (some false)).bind fun (z10 : Bool) => some z10 | .inr z1 => match z1 with | .inl z1 => some z1 | .inr z1 => match z1 with | .inl z1 => ((Ya true true false a1).bind fun y24 => cond y24 ((Zdm a0 a1.E).bind fun y25 => cond y25 ((Yr a1.E a2).bind fun y26 => some (cond (cond y24 y25 false) y26 false)) (some false)) (some false)).bind fun (z20 : Bool) => some z20 | .inr z1 => some false
noncomputable def Zcr (Yv : (Zc → Option Bool)) (Yr : (Zc → Int → Option Bool)) (Yd : ((List Zp) → Int → Option Bool)) (Yh : (Zc → Int → Option Bool)) (Yi : (Int → Zm → Int → Option Bool)) (Ya : (Bool → Bool → Bool → Zm → Option Bool)) (a0 : Bool) (a1 : Bool) (a2 : Bool) (a3 : Zm) : Option Bool :=
 (cond a0 (cond (a3.N != 0) (some false) (cond a1 (cond (decide (0 < (a3.L.length : Int))) (some false) (cond a2 (cond (a3.E.Kind != 0) (some (cond (cond (!(cond a0 (a3.N != 0) false)) (!(cond a1 (decide (0 < (a3.L.length : Int))) false)) false) (!(cond a2 true false)) false)) ((Yv a3.E).bind fun y10 => some (cond (cond (!(cond a0 (a3.N != 0) false)) (!(cond a1 (decide (0 < (a3.L.length : Int))) false)) false) (!(cond a2 (cond (a3.E.Kind != 0) true (!y10)) false)) false))) (some (cond (cond (!(cond a0 (a3.N != 0) false)) (!(cond a1 (decide (0 < (a3.L.length : Int))) false)) false) true false)))) (cond a2 (cond (a3.E.Kind != 0) (some (cond (cond (!(cond a0 (a3.N != 0) false)) (!(cond a1 (decide (0 < (a3.L.length : Int))) false)) false) (!(cond a2 true false)) false)) ((Yv a3.E).bind fun y11 => some (cond (cond (!(cond a0 (a3.N != 0) false)) (!(cond a1 (decide (0 < (a3.L.length : Int))) false)) false) (!(cond a2 (cond (a3.E.Kind != 0) true (!y11)) false)) false))) (some (cond (cond (!(cond a0 (a3.N != 0) false)) (!(cond a1 (decide (0 < (a3.L.length : Int))) false)) false) true false))))) (cond a1 (cond (decide (0 < (a3.L.length : Int))) (some false) (cond a2 (cond (a3.E.Kind != 0) (some (cond (cond (!(cond a0 (a3.N != 0) false)) (!(cond a1 (decide (0 < (a3.L.length : Int))) false)) false) (!(cond a2 true false)) false)) ((Yv a3.E).bind fun y12 => some (cond (cond (!(cond a0 (a3.N != 0) false)) (!(cond a1 (decide (0 < (a3.L.length : Int))) false)) false) (!(cond a2 (cond (a3.E.Kind != 0) true (!y12)) false)) false))) (some (cond (cond (!(cond a0 (a3.N != 0) false)) (!(cond a1 (decide (0 < (a3.L.length : Int))) false)) false) true false)))) (cond a2 (cond (a3.E.Kind != 0) (some (cond (cond (!(cond a0 (a3.N != 0) false)) (!(cond a1 (decide (0 < (a3.L.length : Int))) false)) false) (!(cond a2 true false)) false)) ((Yv a3.E).bind fun y13 => some (cond (cond (!(cond a0 (a3.N != 0) false)) (!(cond a1 (decide (0 < (a3.L.length : Int))) false)) false) (!(cond a2 (cond (a3.E.Kind != 0) true (!y13)) false)) false))) (some (cond (cond (!(cond a0 (a3.N != 0) false)) (!(cond a1 (decide (0 < (a3.L.length : Int))) false)) false) true false))))).bind fun (z5 : Bool) => some z5
noncomputable def Zn : Nat → ((Zc → Option Bool) × (Zc → Int → Option Bool) × ((List Zp) → Int → Option Bool) × (Zc → Int → Option Bool) × (Int → Zm → Int → Option Bool) × (Bool → Bool → Bool → Zm → Option Bool))
 | 0 => ((fun _ => none), (fun _ _ => none), (fun _ _ => none), (fun _ _ => none), (fun _ _ _ => none), (fun _ _ _ _ => none))
 | k + 1 => (Zgl ((Zn k).1) ((Zn k).2.1) ((Zn k).2.2.1) ((Zn k).2.2.2.1) ((Zn k).2.2.2.2.1) ((Zn k).2.2.2.2.2), Zgm ((Zn k).1) ((Zn k).2.1) ((Zn k).2.2.1) ((Zn k).2.2.2.1) ((Zn k).2.2.2.2.1) ((Zn k).2.2.2.2.2), Zcq ((Zn k).1) ((Zn k).2.1) ((Zn k).2.2.1) ((Zn k).2.2.2.1) ((Zn k).2.2.2.2.1) ((Zn k).2.2.2.2.2), Zdh ((Zn k).1) ((Zn k).2.1) ((Zn k).2.2.1) ((Zn k).2.2.2.1) ((Zn k).2.2.2.2.1) ((Zn k).2.2.2.2.2), Zee ((Zn k).1) ((Zn k).2.1) ((Zn k).2.2.1) ((Zn k).2.2.2.1) ((Zn k).2.2.2.2.1) ((Zn k).2.2.2.2.2), Zcr ((Zn k).1) ((Zn k).2.1) ((Zn k).2.2.1) ((Zn k).2.2.2.1) ((Zn k).2.2.2.2.1) ((Zn k).2.2.2.2.2))
noncomputable def Zmh (a0 : Zc) : Option Bool := lim fun k => (Zn k).1 a0
noncomputable def Qn (a0 : (List Int)) (a1 : (List Int)) (s0_ : Int) : Option (Int ⊕ (Unit ⊕ Unit)) :=
 cond (decide (s0_ < (a0.length : Int))) ((Xp a0 s0_).bind fun x3 => (Xp a1 s0_).bind fun x4 => cond (x3 != x4) (some (.inr (.inl ()))) (some (.inl (IntKind.i64.wrap (s0_ + 1))))) (some (.inr (.inr ())))
noncomputable def Qa (a0 : (List Int)) (a1 : (List Int)) : Option Bool :=
 cond ((a0.length : Int) != (a1.length : Int)) (some false) ((Zy (Qn a0 a1) 0).bind fun (z7 : (Unit ⊕ Unit)) => match z7 with | .inl z7 => some false | .inr z7 => some true)
noncomputable def Zgn (Kk : (Zb → Zb → Option Bool)) (Zw : ((List Zb) → (List Zb) → Option Bool)) (a0 : Zb) (a1 : Zb) : Option Bool :=
 cond (a0.Kind != a1.Kind) (some false) (cond (a0.Kind == 0) (some true) (cond (a0.Kind == 1) (((V3 a0.Words).bind fun y14 => (V3 a1.Words).bind fun y15 => (Qa y14 y15).bind fun y16 => cond y16 ((Ga a0.Kids).bind fun y17 => (Ga a1.Kids).bind fun y18 => (Zw y17 y18).bind fun y19 => some (cond y16 y19 false)) (some false)).bind fun (z7 : Bool) => some z7) (((Qa a0.Words a1.Words).bind fun y26 => cond y26 ((Zw a0.Kids a1.Kids).bind fun y27 => some (cond y26 y27 false)) (some false)).bind fun (z23 : Bool) => some z23)))
noncomputable def Yg (Kk : (Zb → Zb → Option Bool)) (a0 : (List Zb)) (a1 : (List Zb)) (s0_ : Int) : Option (Int ⊕ (Unit ⊕ Unit)) :=
 cond (decide (s0_ < (a0.length : Int))) ((Xp a0 s0_).bind fun x2 => (Xp a1 s0_).bind fun x4 => (Kk x2 x4).bind fun y6 => cond (!y6) (some (.inr (.inl ()))) (some (.inl (IntKind.i64.wrap (s0_ + 1))))) (some (.inr (.inr ())))
noncomputable def Ym (Kk : (Zb → Zb → Option Bool)) (Zw : ((List Zb) → (List Zb) → Option Bool)) (a0 : (List Zb)) (a1 : (List Zb)) : Option Bool :=
 cond ((a0.length : Int) != (a1.length : Int)) (some false) ((Zy (Yg Kk a0 a1) 0).bind fun (z9 : (Unit ⊕ Unit)) => match z9 with | .inl z9 => some false | .inr z9 => some true)
noncomputable def X4 : Nat → ((Zb → Zb → Option Bool) × ((List Zb) → (List Zb) → Option Bool))
 | 0 => ((fun _ _ => none), (fun _ _ => none))
 | k + 1 => (Zgn ((X4 k).1) ((X4 k).2), Ym ((X4 k).1) ((X4 k).2))
noncomputable def Zmi (a0 : Zb) (a1 : Zb) : Option Bool := lim fun k => (X4 k).1 a0 a1
noncomputable def Xk (a0 : (List Zb)) (a1 : (List Zb)) : Option Bool := lim fun k => (X4 k).2 a0 a1
noncomputable def U9 (a0 : List Int) : Option (List Int) :=
 Zcg 8 ([] : List Int) a0
noncomputable def Vd (a0 : List Zb) : Option (List Zb) :=
 Zcg 56 ([] : List Zb) a0
noncomputable def Zid (a0 : Zb) (a1 : Int) : Option Int :=
 cond (cond (decide (a1 < 0)) true (decide ((a0.Words.length : Int) ≤ a1))) (some 0) ((Xp a0.Words a1).bind fun x2 => some x2)
noncomputable def Za9 (a0 : Int) : Option Bool :=
 some (cond (decide (a0 < 0)) true (decide (65534 < a0)))
noncomputable def Zhw (a0 : Int) (a1 : Int) (a2 : Int) : Option Int :=
 (Zbt a2).bind fun y2 => some (IntKind.u64.wrap (Zy0 .u64 (IntKind.u64.wrap (Z0t .u64 a0 y2)) (IntKind.u64.wrap (Zgd .u64 a1 y2))))
noncomputable def Zag (a1 : Int) (a2 : Int) (s0_ : (List Int)) : Option ((List Int) ⊕ (List Int)) :=
 cond (cond (decide ((s0_.length : Int) ≤ a1)) (a2 != 0) false) ((Zcg 8 s0_ ([0] : List Int)).bind fun l1 => some (.inl l1)) (some (.inr s0_))
noncomputable def Zdl (a0 : Zb) (a1 : Int) (a2 : Int) : Option Zb :=
 (Zy (Zag a1 a2) a0.Words).bind fun (z3 : (List Int)) => cond (decide (a1 < (z3.length : Int))) ((Xp z3 a1).bind fun x4 => some (⟨a0.Kind, (Zh2 z3 a1 a2), a0.Kids⟩ : Zb)) (some (⟨a0.Kind, z3, a0.Kids⟩ : Zb))
noncomputable def Zje (a0 : Zb) (a1 : Int) : Option Zb :=
 cond (cond (decide (a1 < 0)) true (decide ((a0.Kids.length : Int) ≤ a1))) (some (⟨0, [], []⟩ : Zb)) ((Xp a0.Kids a1).bind fun x2 => some x2)
noncomputable def Zbm (a1 : Int) (a2 : Zb) (s0_ : (List Zb)) : Option ((List Zb) ⊕ (List Zb)) :=
 cond (cond (decide ((s0_.length : Int) ≤ a1)) (a2.Kind != 0) false) ((Zcg 56 s0_ ([(⟨0, [], []⟩ : Zb)] : List Zb)).bind fun l1 => (Xp l1 (s0_.length : Int)).bind fun x2 => some (.inl (s0_ ++ [(⟨0, [], []⟩ : Zb)]))) (some (.inr s0_))
noncomputable def Zel (a0 : Zb) (a1 : Int) (a2 : Zb) : Option Zb :=
 (Zy (Zbm a1 a2) a0.Kids).bind fun (z5 : (List Zb)) => cond (decide (a1 < (z5.length : Int))) ((Xp z5 a1).bind fun x6 => some (⟨a0.Kind, a0.Words, (Zh2 z5 a1 a2)⟩ : Zb)) (some (⟨a0.Kind, a0.Words, z5⟩ : Zb))
structure Zj where
 left : (List Zb)
 out : (List Zb)
noncomputable def Zbd (Y8 : (Zc → Zb → Option (Zb × Bool))) (Yk : (Zc → Zb → Option (Zb × Bool))) (Xi : (Zc → Zb → Option (Zb × Bool))) (Z7 : (Zj → Zm → Option (Bool × Zj))) (Z3 : (Zj → Zc → Option (Bool × Zj))) (a0 : Zc) (a1 : Zb) : Option (Zb × Bool) :=
 cond (a0.Kind == 0) (some (a1, true)) (cond (a0.Kind == 1) ((Zmi a1 a0.Old).bind fun y2 => some (a0.New, y2)) (cond (a0.Kind == 2) ((Yk a0 a1).bind fun y4 => some (y4.1, y4.2)) (cond (a0.Kind == 3) ((Xi a0 a1).bind fun y6 => some (y6.1, y6.2)) (some ((⟨0, [], []⟩ : Zb), false)))))
noncomputable def Jd (a0 : Zc) (a1 : Zb) (s0_ : (Int × Int × (List Int) × (List Zb))) : Option ((Int × Int × (List Int) × (List Zb)) ⊕ (Unit ⊕ (Int × (List Int) × (List Zb)))) :=
 cond (decide (s0_.1 < (a0.Words.length : Int))) ((Xp a0.Words s0_.1).bind fun x110 => (Zid a1 x110.At).bind fun y112 => ((Za9 x110.At).bind fun y118 => cond y118 (some true) ((Zbt x110.Mask).bind fun y119 => some (cond y118 true ((IntKind.u64.wrap (Zgd .u64 (IntKind.u64.wrap (Zic .u64 y112 x110.Old)) y119)) != 0)))).bind fun (z115 : Bool) => cond z115 (some (.inr (.inl ()))) ((Zhw y112 x110.New x110.Mask).bind fun y121 => (Zdl (⟨s0_.2.1, s0_.2.2.1, s0_.2.2.2⟩ : Zb) x110.At y121).bind fun y122 => some (.inl ((IntKind.i64.wrap (s0_.1 + 1)), y122.Kind, y122.Words, y122.Kids)))) (some (.inr (.inr (s0_.2.1, s0_.2.2.1, s0_.2.2.2))))
noncomputable def Qu (Y8 : (Zc → Zb → Option (Zb × Bool))) (a0 : Zc) (a1 : Zb) (s1_ : (Int × Int × (List Int) × (List Zb))) : Option ((Int × Int × (List Int) × (List Zb)) ⊕ (Unit ⊕ (Int × (List Int) × (List Zb)))) :=
 cond (decide (s1_.1 < (a0.Kids.length : Int))) ((Xp a0.Kids s1_.1).bind fun x127 => (Zje a1 x127.At).bind fun y130 => (Y8 x127.E y130).bind fun y131 => (Za9 x127.At).bind fun y133 => cond (cond y133 true (!y131.2)) (some (.inr (.inl ()))) ((Zel (⟨s1_.2.1, s1_.2.2.1, s1_.2.2.2⟩ : Zb) x127.At y131.1).bind fun y134 => some (.inl ((IntKind.i64.wrap (s1_.1 + 1)), y134.Kind, y134.Words, y134.Kids)))) (some (.inr (.inr (s1_.2.1, s1_.2.2.1, s1_.2.2.2))))
noncomputable def Ur (Y8 : (Zc → Zb → Option (Zb × Bool))) (Yk : (Zc → Zb → Option (Zb × Bool))) (Xi : (Zc → Zb → Option (Zb × Bool))) (Z7 : (Zj → Zm → Option (Bool × Zj))) (Z3 : (Zj → Zc → Option (Bool × Zj))) (a0 : Zc) (a1 : Zb) : Option (Zb × Bool) :=
 cond (a1.Kind != 1) (some ((⟨0, [], []⟩ : Zb), false)) ((U9 a1.Words).bind fun y25 => (Vd a1.Kids).bind fun y61 => (Zy (Jd a0 a1) (0, 1, y25, y61)).bind fun (z125 : (Unit ⊕ (Int × (List Int) × (List Zb)))) => match z125 with | .inl z125 => some ((⟨0, [], []⟩ : Zb), false) | .inr z125 => (Zy (Qu Y8 a0 a1) (0, z125.1, z125.2.1, z125.2.2)).bind fun (z137 : (Unit ⊕ (Int × (List Int) × (List Zb)))) => match z137 with | .inl z137 => some ((⟨0, [], []⟩ : Zb), false) | .inr z137 => some ((⟨z137.1, z137.2.1, z137.2.2⟩ : Zb), true))
noncomputable def Vk (Z7 : (Zj → Zm → Option (Bool × Zj))) (a0 : Zc) (s0_ : (Int × (List Zb) × (List Zb))) : Option ((Int × (List Zb) × (List Zb)) ⊕ (Unit ⊕ ((List Zb) × (List Zb)))) :=
 cond (decide (s0_.1 < (a0.Ops.length : Int))) ((Xp a0.Ops s0_.1).bind fun x7 => (Z7 (⟨s0_.2.1, s0_.2.2⟩ : Zj) x7).bind fun y9 => cond (!y9.1) (some (.inr (.inl ()))) (some (.inl ((IntKind.i64.wrap (s0_.1 + 1)), y9.2.left, y9.2.out)))) (some (.inr (.inr (s0_.2.1, s0_.2.2))))
noncomputable def Zez (Y8 : (Zc → Zb → Option (Zb × Bool))) (Yk : (Zc → Zb → Option (Zb × Bool))) (Xi : (Zc → Zb → Option (Zb × Bool))) (Z7 : (Zj → Zm → Option (Bool × Zj))) (Z3 : (Zj → Zc → Option (Bool × Zj))) (a0 : Zc) (a1 : Zb) : Option (Zb × Bool) :=
 (cond (a1.Kind != a0.List_) (some true) ((Zen a1.Kind).bind fun y4 => some (cond (a1.Kind != a0.List_) true (!y4)))).bind fun (z2 : Bool) => cond z2 (some ((⟨0, [], []⟩ : Zb), false)) ((Zy (Vk Z7 a0) (0, a1.Kids, ([] : List Zb))).bind fun (z12 : (Unit ⊕ ((List Zb) × (List Zb)))) => match z12 with | .inl z12 => some ((⟨0, [], []⟩ : Zb), false) | .inr z12 => some ((⟨a1.Kind, [], z12.2⟩ : Zb), ((z12.1.length : Int) == 0)))
noncomputable def Ge (Y8 : (Zc → Zb → Option (Zb × Bool))) (Yk : (Zc → Zb → Option (Zb × Bool))) (Xi : (Zc → Zb → Option (Zb × Bool))) (Z7 : (Zj → Zm → Option (Bool × Zj))) (Z3 : (Zj → Zc → Option (Bool × Zj))) (a0 : Zj) (a1 : Zm) : Option (Bool × Zj) :=
 cond (a1.Kind == 0) ((cond (decide (a1.N < 0)) (some true) (some (cond (decide (a1.N < 0)) true (decide ((a0.left.length : Int) < a1.N))))).bind fun (z1 : Bool) => cond z1 (some (false, (⟨a0.left, a0.out⟩ : Zj))) ((Zgi a0.left 0 a1.N).bind fun l5 => (Zcg 56 a0.out l5).bind fun l6 => (Zgi a0.left a1.N (a0.left.length : Int)).bind fun l8 => some (true, (⟨l8, l6⟩ : Zj)))) (cond (a1.Kind == 1) ((cond (decide ((a0.left.length : Int) < (a1.L.length : Int))) (some true) ((Zgi a0.left 0 (a1.L.length : Int)).bind fun l15 => (Xk l15 a1.L).bind fun y16 => some (cond (decide ((a0.left.length : Int) < (a1.L.length : Int))) true (!y16)))).bind fun (z12 : Bool) => cond z12 (some (false, (⟨a0.left, a0.out⟩ : Zj))) ((Zgi a0.left (a1.L.length : Int) (a0.left.length : Int)).bind fun l19 => some (true, (⟨l19, a0.out⟩ : Zj)))) (cond (a1.Kind == 2) ((Zcg 56 a0.out a1.L).bind fun l22 => some (true, (⟨a0.left, l22⟩ : Zj))) (cond (a1.Kind == 3) ((Z3 (⟨a0.left, a0.out⟩ : Zj) a1.E).bind fun y24 => some (y24.1, (⟨y24.2.left, y24.2.out⟩ : Zj))) (some (false, (⟨a0.left, a0.out⟩ : Zj))))))
noncomputable def Vc (Y8 : (Zc → Zb → Option (Zb × Bool))) (Yk : (Zc → Zb → Option (Zb × Bool))) (Xi : (Zc → Zb → Option (Zb × Bool))) (Z7 : (Zj → Zm → Option (Bool × Zj))) (Z3 : (Zj → Zc → Option (Bool × Zj))) (a0 : Zj) (a1 : Zc) : Option (Bool × Zj) :=
 cond ((a0.left.length : Int) == 0) (some (false, (⟨a0.left, a0.out⟩ : Zj))) ((Xp a0.left 0).bind fun x3 => (Y8 a1 x3).bind fun y4 => (Zcg 56 a0.out ([(⟨0, [], []⟩ : Zb)] : List Zb)).bind fun l8 => (Xp l8 (a0.out.length : Int)).bind fun x9 => (Zgi a0.left 1 (a0.left.length : Int)).bind fun l12 => some (y4.2, (⟨l12, (a0.out ++ [y4.1])⟩ : Zj)))
noncomputable def Zt : Nat → ((Zc → Zb → Option (Zb × Bool)) × (Zc → Zb → Option (Zb × Bool)) × (Zc → Zb → Option (Zb × Bool)) × (Zj → Zm → Option (Bool × Zj)) × (Zj → Zc → Option (Bool × Zj)))
 | 0 => ((fun _ _ => none), (fun _ _ => none), (fun _ _ => none), (fun _ _ => none), (fun _ _ => none))
 | k + 1 => (Zbd ((Zt k).1) ((Zt k).2.1) ((Zt k).2.2.1) ((Zt k).2.2.2.1) ((Zt k).2.2.2.2), Ur ((Zt k).1) ((Zt k).2.1) ((Zt k).2.2.1) ((Zt k).2.2.2.1) ((Zt k).2.2.2.2), Zez ((Zt k).1) ((Zt k).2.1) ((Zt k).2.2.1) ((Zt k).2.2.2.1) ((Zt k).2.2.2.2), Ge ((Zt k).1) ((Zt k).2.1) ((Zt k).2.2.1) ((Zt k).2.2.2.1) ((Zt k).2.2.2.2), Vc ((Zt k).1) ((Zt k).2.1) ((Zt k).2.2.1) ((Zt k).2.2.2.1) ((Zt k).2.2.2.2))
noncomputable def Zmg (a0 : Zc) (a1 : Zb) : Option (Zb × Bool) := lim fun k => (Zt k).1 a0 a1
noncomputable def Zg6 (a0 : Zc) (a1 : Zb) : Option (Zb × Bool) :=
 (Zmg a0 a1).bind fun y2 => cond (!y2.2) (some ((⟨0, [], []⟩ : Zb), false)) ((Zbr y2.1).bind fun y4 => some (y4, true))
noncomputable def Xt (a0 : Zo) (a1 : Zc) : Option (Int × Zo) :=
 (Zg6 a1 a0.now).bind fun y2 => cond (!y2.2) (some (13, (⟨a0.now, a0.done, a0.back⟩ : Zo))) ((Ze6 y2.1).bind fun y4 => cond (!y4) (some (3, (⟨a0.now, a0.done, a0.back⟩ : Zo))) (some (0, (⟨y2.1, a0.done, a0.back⟩ : Zo))))
noncomputable def Q5 (a0 : List Zu) : Option (List Zu) :=
 Zcg 32 ([] : List Zu) a0
structure Zx where
 out : (List Zm)
 kept : Int
 gone : (List Zb)
 come : (List Zb)
noncomputable def X5 (a0 : Zx) : Option Zx :=
 (cond (decide (0 < a0.kept)) ((Zcg 240 a0.out ([(⟨0, 0, [], ⟨0, ⟨0, [], []⟩, ⟨0, [], []⟩, [], [], 0, []⟩⟩ : Zm)] : List Zm)).bind fun l2 => (Xp l2 (a0.out.length : Int)).bind fun x3 => some (a0.out ++ [(⟨0, a0.kept, [], ⟨0, ⟨0, [], []⟩, ⟨0, [], []⟩, [], [], 0, []⟩⟩ : Zm)])) (some a0.out)).bind fun (z1 : (List Zm)) => (cond (decide (0 < (a0.gone.length : Int))) ((Zcg 240 z1 ([(⟨0, 0, [], ⟨0, ⟨0, [], []⟩, ⟨0, [], []⟩, [], [], 0, []⟩⟩ : Zm)] : List Zm)).bind fun l9 => (Xp l9 (z1.length : Int)).bind fun x10 => some ((z1 ++ [(⟨1, 0, a0.gone, ⟨0, ⟨0, [], []⟩, ⟨0, [], []⟩, [], [], 0, []⟩⟩ : Zm)]), a0.gone)) (some (z1, a0.gone))).bind fun (z6 : ((List Zm) × (List Zb))) => (cond (decide (0 < (a0.come.length : Int))) ((Zcg 240 z6.1 ([(⟨0, 0, [], ⟨0, ⟨0, [], []⟩, ⟨0, [], []⟩, [], [], 0, []⟩⟩ : Zm)] : List Zm)).bind fun l16 => (Xp l16 (z6.1.length : Int)).bind fun x17 => some ((z6.1 ++ [(⟨2, 0, a0.come, ⟨0, ⟨0, [], []⟩, ⟨0, [], []⟩, [], [], 0, []⟩⟩ : Zm)]), a0.come)) (some (z6.1, a0.come))).bind fun (z13 : ((List Zm) × (List Zb))) => some (⟨z13.1, 0, [], []⟩ : Zx)
noncomputable def Kv (a0 : Zx) (a1 : Int) : Option Zx :=
 (cond (a0.kept == 0) ((X5 (⟨a0.out, a0.kept, a0.gone, a0.come⟩ : Zx)).bind fun y2 => some (y2.out, y2.gone, y2.come, y2.kept)) (some (a0.out, a0.gone, a0.come, a0.kept))).bind fun (z1 : ((List Zm) × (List Zb) × (List Zb) × Int)) => some (⟨z1.1, (IntKind.i64.wrap (z1.2.2.2 + a1)), z1.2.1, z1.2.2.1⟩ : Zx)
noncomputable def Q7 (a2 : (List Zb)) (s0_ : (Int × (List Zb))) : Option ((Int × (List Zb)) ⊕ (List Zb)) :=
 cond (decide (s0_.1 < (a2.length : Int))) ((Xp a2 s0_.1).bind fun x5 => (Zbr x5).bind fun y6 => (Zcg 56 s0_.2 ([(⟨0, [], []⟩ : Zb)] : List Zb)).bind fun l7 => (Xp l7 (s0_.2.length : Int)).bind fun x8 => some (.inl ((IntKind.i64.wrap (s0_.1 + 1)), (s0_.2 ++ [y6])))) (some (.inr s0_.2))
noncomputable def Ke (a0 : Zx) (a2 : (List Zb)) : Option Zx :=
 (cond (decide (0 < a0.kept)) ((X5 (⟨a0.out, a0.kept, a0.gone, a0.come⟩ : Zx)).bind fun y2 => some (y2.out, y2.gone, y2.come, y2.kept)) (some (a0.out, a0.gone, a0.come, a0.kept))).bind fun (z1 : ((List Zm) × (List Zb) × (List Zb) × Int)) => (Zy (Q7 a2) (0, z1.2.1)).bind fun (z11 : (List Zb)) => some (⟨z1.1, z1.2.2.2, z11, z1.2.2.1⟩ : Zx)
noncomputable def Q8 (a2 : (List Zb)) (s0_ : (Int × (List Zb))) : Option ((Int × (List Zb)) ⊕ (List Zb)) :=
 cond (decide (s0_.1 < (a2.length : Int))) ((Xp a2 s0_.1).bind fun x5 => (Zbr x5).bind fun y6 => (Zcg 56 s0_.2 ([(⟨0, [], []⟩ : Zb)] : List Zb)).bind fun l7 => (Xp l7 (s0_.2.length : Int)).bind fun x8 => some (.inl ((IntKind.i64.wrap (s0_.1 + 1)), (s0_.2 ++ [y6])))) (some (.inr s0_.2))
noncomputable def Kf (a0 : Zx) (a2 : (List Zb)) : Option Zx :=
 (cond (decide (0 < a0.kept)) ((X5 (⟨a0.out, a0.kept, a0.gone, a0.come⟩ : Zx)).bind fun y2 => some (y2.out, y2.gone, y2.come, y2.kept)) (some (a0.out, a0.gone, a0.come, a0.kept))).bind fun (z1 : ((List Zm) × (List Zb) × (List Zb) × Int)) => (Zy (Q8 a2) (0, z1.2.2.1)).bind fun (z11 : (List Zb)) => some (⟨z1.1, z1.2.2.2, z1.2.1, z11⟩ : Zx)
noncomputable def Zfu (a0 : Int) (a1 : Zc) : Option Bool :=
 some (cond (a1.Kind == 0) true (cond (cond (a0 == 9) (a1.Kind == 2) false) ((IntKind.i64.wrap ((a1.Words.length : Int) + (a1.Kids.length : Int))) == 0) false))
noncomputable def Ku (a0 : Zx) (a1 : Int) (a2 : Zc) : Option Zx :=
 (Zfu a1 a2).bind fun y2 => cond y2 ((Kv (⟨a0.out, a0.kept, a0.gone, a0.come⟩ : Zx) 1).bind fun y4 => some (⟨y4.out, y4.kept, y4.gone, y4.come⟩ : Zx)) ((X5 (⟨a0.out, a0.kept, a0.gone, a0.come⟩ : Zx)).bind fun y6 => (Zcg 240 y6.out ([(⟨0, 0, [], ⟨0, ⟨0, [], []⟩, ⟨0, [], []⟩, [], [], 0, []⟩⟩ : Zm)] : List Zm)).bind fun l7 => (Xp l7 (y6.out.length : Int)).bind fun x8 => some (⟨(y6.out ++ [(⟨3, 0, [], a2⟩ : Zm)]), y6.kept, y6.gone, y6.come⟩ : Zx))
noncomputable def Zcs (Qm : (Zc → Option Zc)) (a0 : Zc) (s0_ : (Int × (List Zp))) : Option ((Int × (List Zp)) ⊕ (List Zp)) :=
 cond (decide (s0_.1 < (a0.Kids.length : Int))) ((Xp a0.Kids s0_.1).bind fun x8 => (Qm x8.E).bind fun y9 => (Zcg 208 s0_.2 ([(⟨x8.At, y9⟩ : Zp)] : List Zp)).bind fun l10 => some (.inl ((IntKind.i64.wrap (s0_.1 + 1)), l10))) (some (.inr s0_.2))
noncomputable def Zfq (Qm : (Zc → Option Zc)) (Ua : (Int → (List Zm) → Option (List Zm))) (a0 : Zc) : Option Zc :=
 cond (a0.Kind == 1) ((Zbr a0.Old).bind fun y3 => (Zbr a0.New).bind fun y4 => some (⟨1, y3, y4, [], [], 0, []⟩ : Zc)) (cond (a0.Kind == 2) ((Q5 a0.Words).bind fun y6 => (Zy (Zcs Qm a0) (0, ([] : List Zp))).bind fun (z12 : (List Zp)) => some (⟨2, ⟨0, [], []⟩, ⟨0, [], []⟩, y6, z12, 0, []⟩ : Zc)) (cond (a0.Kind == 3) ((Ua a0.List_ a0.Ops).bind fun y14 => some (⟨3, ⟨0, [], []⟩, ⟨0, [], []⟩, [], [], a0.List_, y14⟩ : Zc)) (some (⟨0, ⟨0, [], []⟩, ⟨0, [], []⟩, [], [], 0, []⟩ : Zc))))
noncomputable def U7 (Qm : (Zc → Option Zc)) (a0 : Int) (a1 : (List Zm)) (s0_ : (Int × Int × (List Zm) × (List Zb) × (List Zb))) : Option ((Int × Int × (List Zm) × (List Zb) × (List Zb)) ⊕ (Int × (List Zm) × (List Zb) × (List Zb))) :=
 cond (decide (s0_.1 < (a1.length : Int))) (((Xp a1 s0_.1).bind fun x3 => cond (x3.Kind == 0) ((Kv (⟨s0_.2.2.1, s0_.2.1, s0_.2.2.2.1, s0_.2.2.2.2⟩ : Zx) x3.N).bind fun y4 => some (y4.kept, y4.out, y4.gone, y4.come)) (cond (x3.Kind == 1) ((Ke (⟨s0_.2.2.1, s0_.2.1, s0_.2.2.2.1, s0_.2.2.2.2⟩ : Zx) x3.L).bind fun y5 => some (y5.kept, y5.out, y5.gone, y5.come)) (cond (x3.Kind == 2) ((Kf (⟨s0_.2.2.1, s0_.2.1, s0_.2.2.2.1, s0_.2.2.2.2⟩ : Zx) x3.L).bind fun y6 => some (y6.kept, y6.out, y6.gone, y6.come)) (cond (x3.Kind == 3) ((Qm x3.E).bind fun y7 => (Ku (⟨s0_.2.2.1, s0_.2.1, s0_.2.2.2.1, s0_.2.2.2.2⟩ : Zx) a0 y7).bind fun y8 => some (y8.kept, y8.out, y8.gone, y8.come)) (some (s0_.2.1, s0_.2.2.1, s0_.2.2.2.1, s0_.2.2.2.2)))))).bind fun (z1 : (Int × (List Zm) × (List Zb) × (List Zb))) => some (.inl ((IntKind.i64.wrap (s0_.1 + 1)), z1.1, z1.2.1, z1.2.2.1, z1.2.2.2))) (some (.inr (s0_.2.1, s0_.2.2.1, s0_.2.2.2.1, s0_.2.2.2.2)))
noncomputable def Ze0 (Qm : (Zc → Option Zc)) (Ua : (Int → (List Zm) → Option (List Zm))) (a0 : Int) (a1 : (List Zm)) : Option (List Zm) :=
 (Zy (U7 Qm a0 a1) (0, 0, ([] : List Zm), ([] : List Zb), ([] : List Zb))).bind fun (z14 : (Int × (List Zm) × (List Zb) × (List Zb))) => (X5 (⟨z14.2.1, z14.1, z14.2.2.1, z14.2.2.2⟩ : Zx)).bind fun y16 => some y16.out
noncomputable def Qd : Nat → ((Zc → Option Zc) × (Int → (List Zm) → Option (List Zm)))
 | 0 => ((fun _ => none), (fun _ _ => none))
 | k + 1 => (Zfq ((Qd k).1) ((Qd k).2), Ze0 ((Qd k).1) ((Qd k).2))
noncomputable def Zh5 (a0 : Zc) : Option Zc := lim fun k => (Qd k).1 a0
noncomputable def Xv (a0 : Zo) (a1 : Zc) : Option (Int × Zo) :=
 (Zmh a1).bind fun y2 => cond (!y2) (some (2, (⟨a0.now, a0.done, a0.back⟩ : Zo))) ((Xt (⟨a0.now, a0.done, a0.back⟩ : Zo) a1).bind fun y4 => cond (y4.1 != 0) (some (y4.1, (⟨y4.2.now, y4.2.done, y4.2.back⟩ : Zo))) ((Zh5 a1).bind fun y7 => (Zcg 200 y4.2.done ([y7] : List Zc)).bind fun l8 => some (0, (⟨y4.2.now, l8, []⟩ : Zo))))
noncomputable def Xu (a0 : Zo) : Option (Int × Int × Zo) :=
 some ((a0.done.length : Int), (a0.back.length : Int), (⟨a0.now, a0.done, a0.back⟩ : Zo))
noncomputable def G0 (a0 : Zc) (s0_ : (Int × (List Zu))) : Option ((Int × (List Zu)) ⊕ (List Zu)) :=
 cond (decide (s0_.1 < (a0.Words.length : Int))) ((Xp a0.Words s0_.1).bind fun x2 => (Zcg 32 s0_.2 ([(⟨x2.At, x2.Mask, x2.New, x2.Old⟩ : Zu)] : List Zu)).bind fun l3 => some (.inl ((IntKind.i64.wrap (s0_.1 + 1)), l3))) (some (.inr s0_.2))
noncomputable def Zaa (Qb : (Zc → Option Zc)) (a0 : Zc) (s1_ : (Int × (List Zp))) : Option ((Int × (List Zp)) ⊕ (List Zp)) :=
 cond (decide (s1_.1 < (a0.Kids.length : Int))) ((Xp a0.Kids s1_.1).bind fun x7 => (Qb x7.E).bind fun y8 => (Zcg 208 s1_.2 ([(⟨x7.At, y8⟩ : Zp)] : List Zp)).bind fun l9 => some (.inl ((IntKind.i64.wrap (s1_.1 + 1)), l9))) (some (.inr s1_.2))
noncomputable def Zab (Xx : (Zm → Option Zm)) (a0 : Zc) (s2_ : (Int × (List Zm))) : Option ((Int × (List Zm)) ⊕ (List Zm)) :=
 cond (decide (s2_.1 < (a0.Ops.length : Int))) ((Xp a0.Ops s2_.1).bind fun x13 => (Xx x13).bind fun y14 => (Zcg 240 s2_.2 ([y14] : List Zm)).bind fun l15 => some (.inl ((IntKind.i64.wrap (s2_.1 + 1)), l15))) (some (.inr s2_.2))
noncomputable def Zdi (Qb : (Zc → Option Zc)) (Xx : (Zm → Option Zm)) (a0 : Zc) : Option Zc :=
 (Zy (G0 a0) (0, ([] : List Zu))).bind fun (z5 : (List Zu)) => (Zy (Zaa Qb a0) (0, ([] : List Zp))).bind fun (z11 : (List Zp)) => (Zy (Zab Xx a0) (0, ([] : List Zm))).bind fun (z17 : (List Zm)) => some (⟨a0.Kind, a0.New, a0.Old, z5, z11, a0.List_, z17⟩ : Zc)
noncomputable def Zbg (Qb : (Zc → Option Zc)) (Xx : (Zm → Option Zm)) (a0 : Zm) : Option Zm :=
 (cond (a0.Kind == 1) (some (2, a0.E.Kind, a0.E.Old.Kind, a0.E.Old.Words, a0.E.Old.Kids, a0.E.New.Kind, a0.E.New.Words, a0.E.New.Kids, a0.E.Words, a0.E.Kids, a0.E.List_, a0.E.Ops)) (cond (a0.Kind == 2) (some (1, a0.E.Kind, a0.E.Old.Kind, a0.E.Old.Words, a0.E.Old.Kids, a0.E.New.Kind, a0.E.New.Words, a0.E.New.Kids, a0.E.Words, a0.E.Kids, a0.E.List_, a0.E.Ops)) (cond (a0.Kind == 3) ((Qb a0.E).bind fun y2 => some (a0.Kind, y2.Kind, y2.Old.Kind, y2.Old.Words, y2.Old.Kids, y2.New.Kind, y2.New.Words, y2.New.Kids, y2.Words, y2.Kids, y2.List_, y2.Ops)) (some (a0.Kind, a0.E.Kind, a0.E.Old.Kind, a0.E.Old.Words, a0.E.Old.Kids, a0.E.New.Kind, a0.E.New.Words, a0.E.New.Kids, a0.E.Words, a0.E.Kids, a0.E.List_, a0.E.Ops))))).bind fun (z1 : (Int × Int × Int × (List Int) × (List Zb) × Int × (List Int) × (List Zb) × (List Zu) × (List Zp) × Int × (List Zm))) => some (⟨z1.1, a0.N, a0.L, ⟨z1.2.1, ⟨z1.2.2.1, z1.2.2.2.1, z1.2.2.2.2.1⟩, ⟨z1.2.2.2.2.2.1, z1.2.2.2.2.2.2.1, z1.2.2.2.2.2.2.2.1⟩, z1.2.2.2.2.2.2.2.2.1, z1.2.2.2.2.2.2.2.2.2.1, z1.2.2.2.2.2.2.2.2.2.2.1, z1.2.2.2.2.2.2.2.2.2.2.2⟩⟩ : Zm)
noncomputable def Xj : Nat → ((Zc → Option Zc) × (Zm → Option Zm))
 | 0 => ((fun _ => none), (fun _ => none))
 | k + 1 => (Zdi ((Xj k).1) ((Xj k).2), Zbg ((Xj k).1) ((Xj k).2))
noncomputable def Zik (a0 : Zc) : Option Zc := lim fun k => (Xj k).1 a0
noncomputable def Zft (a0 : Zc) : Option Zc :=
 (Zik a0).bind fun y3 => (Zh5 y3).bind fun y4 => some y4
noncomputable def Qf (a0 : Zo) : Option (Bool × Zo) :=
 (Xu (⟨a0.now, a0.done, a0.back⟩ : Zo)).bind fun y2 => (cond (y2.1 == 0) (some (true, y2.2.2.done, y2.2.2.back, y2.2.2.now.Kind, y2.2.2.now.Words, y2.2.2.now.Kids)) ((Xp y2.2.2.done (IntKind.i64.wrap (y2.1 - 1))).bind fun x10 => (Zft x10).bind fun y11 => (Xt (⟨y2.2.2.now, y2.2.2.done, y2.2.2.back⟩ : Zo) y11).bind fun y12 => some ((cond (y2.1 == 0) true (y12.1 != 0)), y12.2.done, y12.2.back, y12.2.now.Kind, y12.2.now.Words, y12.2.now.Kids))).bind fun (z6 : (Bool × (List Zc) × (List Zc) × Int × (List Int) × (List Zb))) => cond z6.1 (some (false, (⟨⟨z6.2.2.2.1, z6.2.2.2.2.1, z6.2.2.2.2.2⟩, z6.2.1, z6.2.2.1⟩ : Zo))) ((Xp z6.2.1 (IntKind.i64.wrap (y2.1 - 1))).bind fun x16 => (Zcg 200 z6.2.2.1 ([x16] : List Zc)).bind fun l17 => (Zjc (0 < List.length z6.2.1 ∧ 0 ≤ (IntKind.i64.wrap (y2.1 - 1)) ∧ (IntKind.i64.wrap (y2.1 - 1)) ≤ (List.length z6.2.1 : Int))).bind fun u19 => some (true, (⟨⟨z6.2.2.2.1, z6.2.2.2.2.1, z6.2.2.2.2.2⟩, (List.take (Int.toNat (IntKind.i64.wrap (y2.1 - 1))) z6.2.1), l17⟩ : Zo)))
noncomputable def Qe (a0 : Zo) : Option (Bool × Zo) :=
 (Xu (⟨a0.now, a0.done, a0.back⟩ : Zo)).bind fun y2 => (cond (y2.2.1 == 0) (some (true, y2.2.2.done, y2.2.2.back, y2.2.2.now.Kind, y2.2.2.now.Words, y2.2.2.now.Kids)) ((Xp y2.2.2.back (IntKind.i64.wrap (y2.2.1 - 1))).bind fun x8 => (Xt (⟨y2.2.2.now, y2.2.2.done, y2.2.2.back⟩ : Zo) x8).bind fun y9 => some ((cond (y2.2.1 == 0) true (y9.1 != 0)), y9.2.done, y9.2.back, y9.2.now.Kind, y9.2.now.Words, y9.2.now.Kids))).bind fun (z5 : (Bool × (List Zc) × (List Zc) × Int × (List Int) × (List Zb))) => cond z5.1 (some (false, (⟨⟨z5.2.2.2.1, z5.2.2.2.2.1, z5.2.2.2.2.2⟩, z5.2.1, z5.2.2.1⟩ : Zo))) ((Xp z5.2.2.1 (IntKind.i64.wrap (y2.2.1 - 1))).bind fun x13 => (Zcg 200 z5.2.1 ([x13] : List Zc)).bind fun l14 => (Zjc (0 < List.length z5.2.2.1 ∧ 0 ≤ (IntKind.i64.wrap (y2.2.1 - 1)) ∧ (IntKind.i64.wrap (y2.2.1 - 1)) ≤ (List.length z5.2.2.1 : Int))).bind fun u16 => some (true, (⟨⟨z5.2.2.2.1, z5.2.2.2.2.1, z5.2.2.2.2.2⟩, l14, (List.take (Int.toNat (IntKind.i64.wrap (y2.2.1 - 1))) z5.2.2.1)⟩ : Zo)))
noncomputable def Ko  : Option Bool :=
 (Zdx (⟨1, ([1] : List Int), []⟩ : Zb)).bind fun y2 => (Xv (⟨y2.now, y2.done, y2.back⟩ : Zo) (⟨2, ⟨0, [], []⟩, ⟨0, [], []⟩, ([(⟨0, 1, 1, 2⟩ : Zu)] : List Zu), [], 0, []⟩ : Zc)).bind fun y4 => (Qf (⟨y4.2.now, y4.2.done, y4.2.back⟩ : Zo)).bind fun y6 => (Qe (⟨y6.2.now, y6.2.done, y6.2.back⟩ : Zo)).bind fun y8 => (cond (y4.1 == 0) (cond y6.1 (cond y8.1 (cond ((y6.2.now.Words.length : Int) == 1) ((Xp y6.2.now.Words 0).bind fun x14 => cond (x14 == 1) (cond ((y8.2.now.Words.length : Int) == 1) ((Xp y8.2.now.Words 0).bind fun x15 => some (cond (cond (cond (cond (cond (cond (y4.1 == 0) y6.1 false) y8.1 false) ((y6.2.now.Words.length : Int) == 1) false) (x14 == 1) false) ((y8.2.now.Words.length : Int) == 1) false) (x15 == 2) false)) (some false)) (some false)) (some false)) (some false)) (some false)) (some false)).bind fun (z11 : Bool) => some z11
noncomputable def Jf (Qi : (Zc → Int → Int → Option Int)) (a0 : Zc) (a1 : Int) (s0_ : (Int × Int)) : Option ((Int × Int) ⊕ Int) :=
 cond (cond (decide (s0_.2 < (a0.Kids.length : Int))) (decide (0 ≤ s0_.1)) false) ((Xp a0.Kids s0_.2).bind fun x6 => (Qi x6.E (IntKind.i64.wrap (a1 - 1)) s0_.1).bind fun y8 => some (.inl (y8, (IntKind.i64.wrap (s0_.2 + 1))))) (some (.inr s0_.1))
noncomputable def Ug (a0 : Zc) (s1_ : (Int × Int)) (s2_ : (Int × Int)) : Option ((Int × Int) ⊕ Int) :=
 (Xp a0.Ops s1_.2).bind fun x14 => cond (cond (decide (s2_.2 < (x14.L.length : Int))) (decide (0 ≤ s2_.1)) false) ((Xp a0.Ops s1_.2).bind fun x16 => (Xp x16.L s2_.2).bind fun x18 => (Qx x18 80 s2_.1).bind fun y19 => some (.inl (y19, (IntKind.i64.wrap (s2_.2 + 1))))) (some (.inr s2_.1))
noncomputable def Jg (Qi : (Zc → Int → Int → Option Int)) (a0 : Zc) (a1 : Int) (s1_ : (Int × Int)) : Option ((Int × Int) ⊕ Int) :=
 cond (cond (decide (s1_.2 < (a0.Ops.length : Int))) (decide (0 ≤ s1_.1)) false) (((Zy (Ug a0 s1_) (s1_.1, 0)).bind fun (z21 : Int) => cond (decide (0 ≤ z21)) ((Xp a0.Ops s1_.2).bind fun x22 => (Qi x22.E (IntKind.i64.wrap (a1 - 1)) z21).bind fun y24 => some y24) (some z21)).bind fun (z11 : Int) => some (.inl (z11, (IntKind.i64.wrap (s1_.2 + 1))))) (some (.inr s1_.1))
noncomputable def Jx (Qi : (Zc → Int → Int → Option Int)) (a0 : Zc) (a1 : Int) (a2 : Int) : Option Int :=
 cond (cond (a1 == 0) true (decide ((IntKind.i64.wrap ((IntKind.i64.wrap ((IntKind.i64.wrap (a2 - 1)) - (a0.Words.length : Int))) - (a0.Ops.length : Int))) < 0))) (some (-1)) ((Qx a0.Old 80 (IntKind.i64.wrap ((IntKind.i64.wrap ((IntKind.i64.wrap (a2 - 1)) - (a0.Words.length : Int))) - (a0.Ops.length : Int)))).bind fun y2 => (cond (decide (0 ≤ y2)) ((Qx a0.New 80 y2).bind fun y4 => some y4) (some y2)).bind fun (z3 : Int) => (Zy (Jf Qi a0 a1) (z3, 0)).bind fun (z10 : Int) => (Zy (Jg Qi a0 a1) (z10, 0)).bind fun (z27 : Int) => some z27)
noncomputable def Y0 : Nat → (Zc → Int → Int → Option Int)
 | 0 => (fun _ _ _ => none)
 | k + 1 => Jx ((Y0 k))
noncomputable def Zg8 (a0 : Zc) (a1 : Int) (a2 : Int) : Option Int := lim fun k => (Y0 k) a0 a1 a2
noncomputable def Zcv (a0 : Zc) : Option Bool :=
 (Zg8 a0 80 3000).bind fun y2 => some (decide (0 ≤ y2))
noncomputable def Jy (a0 : Zb) : Option Bool :=
 some (cond (a0.Kind == 0) ((IntKind.i64.wrap ((a0.Words.length : Int) + (a0.Kids.length : Int))) == 0) false)
noncomputable def Vx (s0_ : (Int × Int × (Arr Int 8))) : Option ((Int × Int × (Arr Int 8)) ⊕ (Arr Int 8)) :=
 cond (decide (s0_.2.1 < 8)) ((Xp s0_.2.2.1 s0_.2.1).bind fun x15 => some (.inl ((IntKind.u64.wrap (Int.tdiv s0_.1 256)), (IntKind.i64.wrap (s0_.2.1 + 1)), (Arr.put s0_.2.2 s0_.2.1 (IntKind.u8.wrap (Int.tmod s0_.1 256)))))) (some (.inr s0_.2.2))
noncomputable def V1 (a0 : Int) : Option (Arr Int 8) :=
 ((some (⟨[0, 0, 0, 0, 0, 0, 0, 0], rfl⟩ : (Arr Int 8)))).bind fun y3 => ((some (⟨[0, 0, 0, 0, 0, 0, 0, 0], rfl⟩ : (Arr Int 8)))).bind fun y9 => (Zy (Vx) (a0, 0, y9)).bind fun (z18 : (Arr Int 8)) => some z18
noncomputable def J8 (a1 : Int) (s0_ : (Int × Int)) : Option ((Int × Int) ⊕ Int) :=
 cond (decide (s0_.2 < a1)) (some (.inl ((IntKind.u8.wrap (Int.tdiv s0_.1 2)), (IntKind.i64.wrap (s0_.2 + 1))))) (some (.inr s0_.1))
noncomputable def Zai (a0 : Int) (a1 : Int) : Option Bool :=
 (Zy (J8 a1) (a0, 0)).bind fun (z2 : Int) => some ((Int.tmod z2 2) == 1)
noncomputable def Zaj (a0 : (List Int)) (a1 : Int) (s0_ : (Int × Int)) : Option ((Int × Int) ⊕ Int) :=
 cond (decide (0 ≤ s0_.2)) ((Xp a0 (IntKind.i64.wrap (a1 + s0_.2))).bind fun x1 => some (.inl ((IntKind.u64.wrap ((IntKind.u64.wrap (s0_.1 * 256)) + (IntKind.u64.wrap x1))), (IntKind.i64.wrap (s0_.2 - 1))))) (some (.inr s0_.1))
noncomputable def Zfy (a0 : (List Int)) (a1 : Int) : Option Int :=
 (Zy (Zaj a0 a1) (0, 7)).bind fun (z3 : Int) => some z3
noncomputable def Gg (a2 : Int) (y9 : (Arr Int 8)) (s0_ : (Int × (Arr Int 8))) : Option ((Int × (Arr Int 8)) ⊕ (Arr Int 8)) :=
 cond (decide (s0_.1 < 8)) (((Zai a2 s0_.1).bind fun y17 => cond y17 ((Xp y9.1 s0_.1).bind fun x18 => (Xp s0_.2.1 s0_.1).bind fun x19 => some (Arr.put s0_.2 s0_.1 x18)) (some s0_.2)).bind fun (z15 : (Arr Int 8)) => some (.inl ((IntKind.i64.wrap (s0_.1 + 1)), z15))) (some (.inr s0_.2))
noncomputable def Zcu (a0 : Int) (a1 : Int) (a2 : Int) : Option Int :=
 (V1 a0).bind fun y8 => (V1 a1).bind fun y9 => ((some (⟨[0, 0, 0, 0, 0, 0, 0, 0], rfl⟩ : (Arr Int 8)))).bind fun y10 => (Zy (Gg a2 y9) (0, y8)).bind fun (z23 : (Arr Int 8)) => (Zfy z23.1 0).bind fun y29 => some y29
noncomputable def Vi (a0 : Int) (a1 : Int) : Option Bool :=
 (Zcu a0 0 a1).bind fun y2 => some (y2 == 0)
noncomputable def Uu (a0 : Zc) : Option Bool :=
 (cond (a0.Kind == 0) ((Jy a0.Old).bind fun y6 => cond y6 ((Jy a0.New).bind fun y7 => some (cond (cond (cond (cond (a0.Kind == 0) y6 false) y7 false) ((IntKind.i64.wrap ((IntKind.i64.wrap ((a0.Words.length : Int) + (a0.Kids.length : Int))) + (a0.Ops.length : Int))) == 0) false) (a0.List_ == 0) false)) (some false)) (some false)).bind fun (z3 : Bool) => some z3
noncomputable def Kt (a0 : Zc) (s0_ : (Int × Int × Int)) : Option ((Int × Int × Int) ⊕ (Int × Int)) :=
 cond (decide (s0_.2.2 < (a0.Ops.length : Int))) (((Xp a0.Ops s0_.2.2).bind fun x3 => (cond (x3.Kind == 3) (some 1) (some (IntKind.i64.wrap (x3.N + (x3.L.length : Int))))).bind fun (z4 : Int) => (cond (x3.Kind != 2) (some (IntKind.i64.wrap (s0_.1 + z4))) (some s0_.1)).bind fun (z6 : Int) => (cond (x3.Kind != 1) (some (IntKind.i64.wrap (s0_.2.1 + z4))) (some s0_.2.1)).bind fun (z8 : Int) => (cond (decide (1048576 < z6)) (some 1048576) (some z6)).bind fun (z10 : Int) => cond (decide (1048576 < z8)) (some (z10, 1048576)) (some (z10, z8))).bind fun (z1 : (Int × Int)) => some (.inl (z1.1, z1.2, (IntKind.i64.wrap (s0_.2.2 + 1))))) (some (.inr (s0_.1, s0_.2.1)))
noncomputable def Ks (a0 : Zc) : Option (Int × Int) :=
 (Zy (Kt a0) (0, 0, 0)).bind fun (z14 : (Int × Int)) => some (z14.1, z14.2)
noncomputable def J6 (a0 : Zc) (s0_ : (Int × Int)) : Option ((Int × Int) ⊕ (Unit ⊕ Unit)) :=
 cond (decide (s0_.2 < (a0.Words.length : Int))) ((Xp a0.Words s0_.2).bind fun x19 => (cond (decide (x19.At ≤ s0_.1)) (some true) (cond (decide (65534 < x19.At)) (some true) (cond (x19.Mask == 0) (some true) ((Vi x19.Old x19.Mask).bind fun y25 => cond y25 ((Vi x19.New x19.Mask).bind fun y26 => some (cond (cond (cond (cond (decide (x19.At ≤ s0_.1)) true (decide (65534 < x19.At))) true (x19.Mask == 0)) true (!y25)) true (!y26))) (some true))))).bind fun (z22 : Bool) => cond z22 (some (.inr (.inl ()))) (some (.inl (x19.At, (IntKind.i64.wrap (s0_.2 + 1)))))) (some (.inr (.inr ())))
noncomputable def J7 (Xl : (Zc → Int → Option Bool)) (a0 : Zc) (a1 : Int) (s1_ : (Int × Int)) : Option ((Int × Int) ⊕ (Unit ⊕ Unit)) :=
 cond (decide (s1_.2 < (a0.Kids.length : Int))) ((Xp a0.Kids s1_.2).bind fun x35 => (cond (decide (x35.At ≤ s1_.1)) (some true) (cond (decide (65534 < x35.At)) (some true) (cond (x35.E.Kind == 0) (some true) ((Xl x35.E (IntKind.i64.wrap (a1 - 1))).bind fun y39 => some (cond (cond (cond (decide (x35.At ≤ s1_.1)) true (decide (65534 < x35.At))) true (x35.E.Kind == 0)) true (!y39)))))).bind fun (z37 : Bool) => cond z37 (some (.inr (.inl ()))) (some (.inl (x35.At, (IntKind.i64.wrap (s1_.2 + 1)))))) (some (.inr (.inr ())))
noncomputable def Q4 (Qo : (Int → Zm → Int → Option Bool)) (a0 : Zc) (a1 : Int) (s2_ : Int) : Option (Int ⊕ (Unit ⊕ Unit)) :=
 cond (decide (s2_ < (a0.Ops.length : Int))) ((Xp a0.Ops s2_).bind fun x48 => (Qo a0.List_ x48 (IntKind.i64.wrap (a1 - 1))).bind fun y49 => cond (!y49) (some (.inr (.inl ()))) (some (.inl (IntKind.i64.wrap (s2_ + 1))))) (some (.inr (.inr ())))
noncomputable def Gx (Xl : (Zc → Int → Option Bool)) (Qo : (Int → Zm → Int → Option Bool)) (a0 : Zc) (a1 : Int) : Option Bool :=
 cond (cond (cond (a1 == 0) true (decide (a0.Kind < 0))) true (decide (3 < a0.Kind))) (some false) ((cond (a0.Kind != 1) ((Jy a0.Old).bind fun y6 => cond y6 ((Jy a0.New).bind fun y7 => some (cond (cond (cond (a0.Kind != 1) (!(cond y6 y7 false)) false) true (cond (a0.Kind != 2) (decide (0 < (IntKind.i64.wrap ((a0.Words.length : Int) + (a0.Kids.length : Int))))) false)) true (cond (a0.Kind != 3) (cond (a0.List_ != 0) true (decide (0 < (a0.Ops.length : Int)))) false))) (some true)) (some (cond (cond (a0.Kind != 2) (decide (0 < (IntKind.i64.wrap ((a0.Words.length : Int) + (a0.Kids.length : Int))))) false) true (cond (a0.Kind != 3) (cond (a0.List_ != 0) true (decide (0 < (a0.Ops.length : Int)))) false)))).bind fun (z3 : Bool) => cond z3 (some false) (cond (a0.Kind == 1) (((V2 a0.Old 64).bind fun y15 => cond y15 ((V2 a0.New 64).bind fun y16 => some (cond (cond (cond y15 y16 false) (a0.Old.Kind != 10) false) (a0.New.Kind != 10) false)) (some false)).bind fun (z12 : Bool) => some z12) ((Zy (J6 a0) ((-1), 0)).bind fun (z33 : (Unit ⊕ Unit)) => match z33 with | .inl z33 => some false | .inr z33 => (Zy (J7 Xl a0 a1) ((-1), 0)).bind fun (z45 : (Unit ⊕ Unit)) => match z45 with | .inl z45 => some false | .inr z45 => cond (cond (a0.Kind == 3) (cond (decide (a0.List_ < 2)) true (decide (9 < a0.List_))) false) (some false) ((Zy (Q4 Qo a0 a1) 0).bind fun (z52 : (Unit ⊕ Unit)) => match z52 with | .inl z52 => some false | .inr z52 => (Ks a0).bind fun y54 => some (cond (decide (y54.1 < 1048576)) (decide (y54.2 < 1048576)) false)))))
noncomputable def Gy (a0 : Int) (a1 : Zm) (s0_ : Int) : Option (Int ⊕ (Unit ⊕ Unit)) :=
 cond (decide (s0_ < (a1.L.length : Int))) ((Zgi a1.L s0_ (IntKind.i64.wrap (s0_ + 1))).bind fun l10 => (V2 (⟨a0, [], l10⟩ : Zb) 64).bind fun y11 => cond (!y11) (some (.inr (.inl ()))) (some (.inl (IntKind.i64.wrap (s0_ + 1))))) (some (.inr (.inr ())))
noncomputable def Zdg (Xl : (Zc → Int → Option Bool)) (Qo : (Int → Zm → Int → Option Bool)) (a0 : Int) (a1 : Zm) (a2 : Int) : Option Bool :=
 cond (a1.Kind == 0) ((cond (decide (1 ≤ a1.N)) (cond (decide (a1.N ≤ 1048576)) (cond ((a1.L.length : Int) == 0) ((Uu a1.E).bind fun y4 => some (cond (cond (cond (decide (1 ≤ a1.N)) (decide (a1.N ≤ 1048576)) false) ((a1.L.length : Int) == 0) false) y4 false)) (some false)) (some false)) (some false)).bind fun (z2 : Bool) => some z2) (cond (cond (cond (a1.N != 0) true (decide (a1.Kind < 0))) true (decide (3 < a1.Kind))) (some false) (cond (decide (a1.Kind < 3)) ((Zy (Gy a0 a1) 0).bind fun (z14 : (Unit ⊕ Unit)) => match z14 with | .inl z14 => some false | .inr z14 => (cond (decide (0 < (a1.L.length : Int))) ((Uu a1.E).bind fun y18 => some (cond (decide (0 < (a1.L.length : Int))) y18 false)) (some false)).bind fun (z16 : Bool) => some z16) ((cond (decide (0 < (a1.L.length : Int))) (some true) (cond (a1.E.Kind == 0) (some true) (cond (decide (a0 ≤ 7)) (some true) ((Xl a1.E a2).bind fun y23 => some (cond (cond (cond (decide (0 < (a1.L.length : Int))) true (a1.E.Kind == 0)) true (decide (a0 ≤ 7))) true (!y23)))))).bind fun (z21 : Bool) => cond z21 (some false) (some (cond (cond (a0 == 8) true (a1.E.Kind == 2)) true (cond (cond (a1.E.Kind == 1) (a1.E.Old.Kind == 1) false) (a1.E.New.Kind == 1) false))))))
noncomputable def Yt : Nat → ((Zc → Int → Option Bool) × (Int → Zm → Int → Option Bool))
 | 0 => ((fun _ _ => none), (fun _ _ _ => none))
 | k + 1 => (Gx ((Yt k).1) ((Yt k).2), Zdg ((Yt k).1) ((Yt k).2))
noncomputable def Zf6 (a0 : Zc) (a1 : Int) : Option Bool := lim fun k => (Yt k).1 a0 a1
noncomputable def Vv (X0 : (Zc → Option Bool)) (a0 : Zc) (s0_ : Int) : Option (Int ⊕ (Unit ⊕ Unit)) :=
 cond (decide (s0_ < (a0.Kids.length : Int))) ((Xp a0.Kids s0_).bind fun x6 => (X0 x6.E).bind fun y8 => cond (!y8) (some (.inr (.inl ()))) (some (.inl (IntKind.i64.wrap (s0_ + 1))))) (some (.inr (.inr ())))
noncomputable def Vw (X0 : (Zc → Option Bool)) (a0 : Zc) (s1_ : Int) : Option (Int ⊕ (Unit ⊕ Unit)) :=
 cond (decide (s1_ < (a0.Ops.length : Int))) ((Xp a0.Ops s1_).bind fun x15 => (X0 x15.E).bind fun y17 => cond (!y17) (some (.inr (.inl ()))) (some (.inl (IntKind.i64.wrap (s1_ + 1))))) (some (.inr (.inr ())))
noncomputable def Gw (X0 : (Zc → Option Bool)) (a0 : Zc) : Option Bool :=
 (Ks a0).bind fun y2 => cond (cond (decide (2000 < y2.1)) true (decide (2000 < y2.2))) (some false) ((Zy (Vv X0 a0) 0).bind fun (z11 : (Unit ⊕ Unit)) => match z11 with | .inl z11 => some false | .inr z11 => (Zy (Vw X0 a0) 0).bind fun (z20 : (Unit ⊕ Unit)) => match z20 with | .inl z20 => some false | .inr z20 => some true)
noncomputable def Ju : Nat → (Zc → Option Bool)
 | 0 => (fun _ => none)
 | k + 1 => Gw ((Ju k))
noncomputable def Zf5 (a0 : Zc) : Option Bool := lim fun k => (Ju k) a0
structure Zbc where
 Kind : Int
 I : Int
 E : Zc
noncomputable def Zah (a0 : Zbc) (a1 : Zb) : Option Bool :=
 (cond (decide (a0.Kind < 0)) ((Jo a1).bind fun y16 => some y16) (cond (decide (3 < a0.Kind)) ((Jo a1).bind fun y17 => some y17) ((Zcv a0.E).bind fun y18 => cond y18 ((Zf6 a0.E 64).bind fun y19 => cond y19 ((Zf5 a0.E).bind fun y20 => cond y20 ((Jo a1).bind fun y21 => some (cond (cond (cond (decide (a0.Kind < 0)) true (decide (3 < a0.Kind))) true (cond y18 (cond (!y19) true y20) false)) y21 false)) (some false)) ((Jo a1).bind fun y22 => some (cond (cond (cond (decide (a0.Kind < 0)) true (decide (3 < a0.Kind))) true (cond y18 true false)) y22 false))) (some false)))).bind fun (z8 : Bool) => some z8
noncomputable def Uj (a0 : (List Int)) (s0_ : Int) : Option (Int ⊕ Int) :=
 (cond (decide (0 < s0_)) ((Xp a0 (IntKind.i64.wrap (s0_ - 1))).bind fun x4 => some (cond (decide (0 < s0_)) (x4 == 0) false)) (some false)).bind fun (z2 : Bool) => cond z2 (some (.inl (IntKind.i64.wrap (s0_ - 1)))) (some (.inr s0_))
noncomputable def Zbo (a0 : (List Int)) : Option (List Int) :=
 (Zy (Uj a0) (a0.length : Int)).bind fun (z7 : Int) => (Zgi a0 0 z7).bind fun l10 => (Zcg 8 ([] : List Int) l10).bind fun l11 => some l11
noncomputable def Je (J0 : (Zb → Option Zb)) (a0 : Zb) (s0_ : (Int × Int × (List Zb))) : Option ((Int × Int × (List Zb)) ⊕ (Int × (List Zb))) :=
 cond (decide (s0_.2.1 < (a0.Kids.length : Int))) (((Xp a0.Kids s0_.2.1).bind fun x4 => (J0 x4).bind fun y5 => (Zcg 56 s0_.2.2 ([y5] : List Zb)).bind fun l7 => cond (y5.Kind != 0) (some ((IntKind.i64.wrap (s0_.2.1 + 1)), l7)) (some (s0_.1, l7))).bind fun (z1 : (Int × (List Zb))) => some (.inl (z1.1, (IntKind.i64.wrap (s0_.2.1 + 1)), z1.2))) (some (.inr (s0_.1, s0_.2.2)))
noncomputable def Zbe (J0 : (Zb → Option Zb)) (a0 : Zb) : Option Zb :=
 cond (a0.Kind == 0) (some (⟨0, [], []⟩ : Zb)) ((Zy (Je J0 a0) (0, 0, ([] : List Zb))).bind fun (z10 : (Int × (List Zb))) => cond (a0.Kind == 1) ((Zbo a0.Words).bind fun y14 => (Zgi z10.2 0 z10.1).bind fun l15 => some (⟨1, y14, l15⟩ : Zb)) ((Zcg 8 ([] : List Int) a0.Words).bind fun l17 => some (⟨a0.Kind, l17, z10.2⟩ : Zb)))
noncomputable def Ql : Nat → (Zb → Option Zb)
 | 0 => (fun _ => none)
 | k + 1 => Zbe ((Ql k))
noncomputable def Zg7 (a0 : Zb) : Option Zb := lim fun k => (Ql k) a0
noncomputable def Ui (a0 : (List Int)) (a1 : (List Int)) (s0_ : Int) : Option (Int ⊕ (Unit ⊕ Unit)) :=
 cond (decide (s0_ < (a0.length : Int))) ((Xp a0 s0_).bind fun x3 => (Xp a1 s0_).bind fun x4 => cond (x3 != x4) (some (.inr (.inl ()))) (some (.inl (IntKind.i64.wrap (s0_ + 1))))) (some (.inr (.inr ())))
noncomputable def Zbn (a0 : (List Int)) (a1 : (List Int)) : Option Bool :=
 cond ((a0.length : Int) != (a1.length : Int)) (some false) ((Zy (Ui a0 a1) 0).bind fun (z7 : (Unit ⊕ Unit)) => match z7 with | .inl z7 => some false | .inr z7 => some true)
noncomputable def Uf (J3 : (Zb → Zb → Option Bool)) (a0 : Zb) (a1 : Zb) (s0_ : Int) : Option (Int ⊕ (Unit ⊕ Unit)) :=
 cond (decide (s0_ < (a0.Kids.length : Int))) ((Xp a0.Kids s0_).bind fun x9 => (Xp a1.Kids s0_).bind fun x10 => (J3 x9 x10).bind fun y11 => cond (!y11) (some (.inr (.inl ()))) (some (.inl (IntKind.i64.wrap (s0_ + 1))))) (some (.inr (.inr ())))
noncomputable def Zbf (J3 : (Zb → Zb → Option Bool)) (a0 : Zb) (a1 : Zb) : Option Bool :=
 (cond (a0.Kind != a1.Kind) (some true) ((Zbn a0.Words a1.Words).bind fun y4 => some (cond (cond (a0.Kind != a1.Kind) true (!y4)) true ((a0.Kids.length : Int) != (a1.Kids.length : Int))))).bind fun (z2 : Bool) => cond z2 (some false) ((Zy (Uf J3 a0 a1) 0).bind fun (z14 : (Unit ⊕ Unit)) => match z14 with | .inl z14 => some false | .inr z14 => some true)
noncomputable def Km : Nat → (Zb → Zb → Option Bool)
 | 0 => (fun _ _ => none)
 | k + 1 => Zbf ((Km k))
noncomputable def Zd3 (a0 : Zb) (a1 : Zb) : Option Bool := lim fun k => (Km k) a0 a1
noncomputable def K0 (a1 : (List Zc)) (s0_ : (Int × Int × (List Int) × (List Zb) × (List Zc) × (List Zc))) : Option ((Int × Int × (List Int) × (List Zb) × (List Zc) × (List Zc)) ⊕ (Bool ⊕ (Int × (List Int) × (List Zb) × (List Zc) × (List Zc)))) :=
 cond (cond (decide (s0_.1 < (a1.length : Int))) (decide (s0_.1 < 12)) false) ((Xp a1 s0_.1).bind fun x15 => (Zah (⟨0, 0, x15⟩ : Zbc) (⟨s0_.2.1, s0_.2.2.1, s0_.2.2.2.1⟩ : Zb)).bind fun y16 => cond (!y16) ((Ko).bind fun y18 => some (.inr (.inl y18))) ((Xp a1 s0_.1).bind fun x19 => (Xv (⟨⟨s0_.2.1, s0_.2.2.1, s0_.2.2.2.1⟩, s0_.2.2.2.2.1, s0_.2.2.2.2.2⟩ : Zo) x19).bind fun y20 => some (.inl ((IntKind.i64.wrap (s0_.1 + 1)), y20.2.now.Kind, y20.2.now.Words, y20.2.now.Kids, y20.2.done, y20.2.back)))) (some (.inr (.inr (s0_.2.1, s0_.2.2.1, s0_.2.2.2.1, s0_.2.2.2.2.1, s0_.2.2.2.2.2))))
noncomputable def K1 (y25 : (Int × Int × Zo)) (s1_ : (Int × Int × (List Int) × (List Zb) × (List Zc) × (List Zc))) : Option ((Int × Int × (List Int) × (List Zb) × (List Zc) × (List Zc)) ⊕ (Unit ⊕ (Int × (List Int) × (List Zb) × (List Zc) × (List Zc)))) :=
 cond (decide (s1_.1 < y25.1)) ((Qf (⟨⟨s1_.2.1, s1_.2.2.1, s1_.2.2.2.1⟩, s1_.2.2.2.2.1, s1_.2.2.2.2.2⟩ : Zo)).bind fun y27 => cond (!y27.1) (some (.inr (.inl ()))) (some (.inl ((IntKind.i64.wrap (s1_.1 + 1)), y27.2.now.Kind, y27.2.now.Words, y27.2.now.Kids, y27.2.done, y27.2.back)))) (some (.inr (.inr (s1_.2.1, s1_.2.2.1, s1_.2.2.2.1, s1_.2.2.2.2.1, s1_.2.2.2.2.2))))
noncomputable def K2 (y25 : (Int × Int × Zo)) (s2_ : (Int × Int × (List Int) × (List Zb) × (List Zc) × (List Zc))) : Option ((Int × Int × (List Int) × (List Zb) × (List Zc) × (List Zc)) ⊕ (Unit ⊕ (Int × (List Int) × (List Zb) × (List Zc) × (List Zc)))) :=
 cond (decide (s2_.1 < y25.1)) ((Qe (⟨⟨s2_.2.1, s2_.2.2.1, s2_.2.2.2.1⟩, s2_.2.2.2.2.1, s2_.2.2.2.2.2⟩ : Zo)).bind fun y43 => cond (!y43.1) (some (.inr (.inl ()))) (some (.inl ((IntKind.i64.wrap (s2_.1 + 1)), y43.2.now.Kind, y43.2.now.Words, y43.2.now.Kids, y43.2.done, y43.2.back)))) (some (.inr (.inr (s2_.2.1, s2_.2.2.1, s2_.2.2.2.1, s2_.2.2.2.2.1, s2_.2.2.2.2.2))))
noncomputable def V9 (a0 : Zb) (a1 : (List Zc)) : Option Bool :=
 ((Jo a0).bind fun y6 => cond y6 ((V2 a0 64).bind fun y7 => some (cond (cond (!y6) true (!y7)) true (a0.Kind == 10))) (some true)).bind fun (z3 : Bool) => cond z3 ((Ko).bind fun y10 => some y10) ((Zdx a0).bind fun y12 => (Zy (K0 a1) (0, y12.now.Kind, y12.now.Words, y12.now.Kids, y12.done, y12.back)).bind fun (z23 : (Bool ⊕ (Int × (List Int) × (List Zb) × (List Zc) × (List Zc)))) => match z23 with | .inl z23 => some z23 | .inr z23 => (Xu (⟨⟨z23.1, z23.2.1, z23.2.2.1⟩, z23.2.2.2.1, z23.2.2.2.2⟩ : Zo)).bind fun y25 => (Zy (K1 y25) (0, y25.2.2.now.Kind, y25.2.2.now.Words, y25.2.2.now.Kids, y25.2.2.done, y25.2.2.back)).bind fun (z30 : (Unit ⊕ (Int × (List Int) × (List Zb) × (List Zc) × (List Zc)))) => match z30 with | .inl z30 => some false | .inr z30 => ((Qf (⟨⟨z30.1, z30.2.1, z30.2.2.1⟩, z30.2.2.2.1, z30.2.2.2.2⟩ : Zo)).bind fun y38 => cond y38.1 (some (true, y38.2.now.Kind, y38.2.now.Words, y38.2.now.Kids, y38.2.done, y38.2.back)) ((Zg7 a0).bind fun y39 => (Zd3 (⟨z30.1, z30.2.1, z30.2.2.1⟩ : Zb) y39).bind fun y40 => some ((cond y38.1 true (!y40)), y38.2.now.Kind, y38.2.now.Words, y38.2.now.Kids, y38.2.done, y38.2.back))).bind fun (z34 : (Bool × Int × (List Int) × (List Zb) × (List Zc) × (List Zc))) => cond z34.1 (some false) ((Zy (K2 y25) (0, z34.2.1, z34.2.2.1, z34.2.2.2.1, z34.2.2.2.2.1, z34.2.2.2.2.2)).bind fun (z46 : (Unit ⊕ (Int × (List Int) × (List Zb) × (List Zc) × (List Zc)))) => match z46 with | .inl z46 => some false | .inr z46 => ((Qe (⟨⟨z46.1, z46.2.1, z46.2.2.1⟩, z46.2.2.2.1, z46.2.2.2.2⟩ : Zo)).bind fun y54 => cond y54.1 (some false) ((Zd3 y54.2.now (⟨z23.1, z23.2.1, z23.2.2.1⟩ : Zb)).bind fun y55 => cond y55 ((Ko).bind fun y56 => some (cond (cond (!y54.1) y55 false) y56 false)) (some false))).bind fun (z50 : Bool) => some z50))
end Go.Proofs.Ytgpaglmhkklneaa
