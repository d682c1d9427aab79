/- Part ND of this seat's mirrors: functions of the seat's program, and the plain functions that they are; each theorem bears its own conditions. -/
import Derived.Test.YtgpaglmhkklneaaGreatH26
namespace Go.Proofs.YtgpaglmhkklneaaGreat
open Go.RowKit
set_option linter.unusedVariables false
set_option linter.unusedSimpArgs false
set_option maxRecDepth 100000
set_option maxHeartbeats 4000000
structure Zb where
 Kind : Int
 Words : (List Int)
 Kids : (List Zb)
noncomputable def Qj (Qq : (Zb → Int → Int → Option Int)) (a0 : Zb) (a1 : Int) (s0_ : (Int × Int)) : Option ((Int × Int) ⊕ Int) :=
 cond (cond (decide (s0_.2 < (a0.Kids.length : Int))) (decide (0 ≤ s0_.1)) false) ((Qm a0.Kids s0_.2).bind fun x1 => (Qq x1 (IntKind.i64.wrap (a1 - 1)) s0_.1).bind fun y2 => some (.inl (y2, (IntKind.i64.wrap (s0_.2 + 1))))) (some (.inr s0_.1))
noncomputable def Qp (Qq : (Zb → Int → Int → Option Int)) (a0 : Zb) (a1 : Int) (a2 : Int) : Option Int :=
 cond (cond (a1 == 0) true (decide ((IntKind.i64.wrap ((IntKind.i64.wrap (a2 - 1)) - (a0.Words.length : Int))) < 0))) (some (-1)) ((Ya (Qj Qq a0 a1) ((IntKind.i64.wrap ((IntKind.i64.wrap (a2 - 1)) - (a0.Words.length : Int))), 0)).bind fun (z4 : Int) => some z4)
noncomputable def Y6 : Nat → (Zb → Int → Int → Option Int)
 | 0 => (fun _ _ _ => none)
 | k + 1 => Qp ((Y6 k))
noncomputable def Ka (a0 : Zb) (a1 : Int) (a2 : Int) : Option Int := lim fun k => (Y6 k) a0 a1 a2
structure Zs where
 At : Int
 Mask : Int
 Old : Int
 New : Int
mutual
structure Zc where
 Kind : Int
 Old : Zb
 New : Zb
 Words : (List Zs)
 Kids : (List Zp)
 List_ : Int
 Ops : (List Zj)
structure Zp where
 At : Int
 E : Zc
structure Zj where
 Kind : Int
 N : Int
 L : (List Zb)
 E : Zc
end
noncomputable def Jf (Qd : (Zc → Int → Int → Option Int)) (a0 : Zc) (a1 : Int) (s0_ : (Int × Int)) : Option ((Int × Int) ⊕ Int) :=
 cond (cond (decide (s0_.2 < (a0.Kids.length : Int))) (decide (0 ≤ s0_.1)) false) ((Qm a0.Kids s0_.2).bind fun x6 => (Qd x6.E (IntKind.i64.wrap (a1 - 1)) s0_.1).bind fun y8 => some (.inl (y8, (IntKind.i64.wrap (s0_.2 + 1))))) (some (.inr s0_.1))
noncomputable def Vf (a0 : Zc) (s1_ : (Int × Int)) (s2_ : (Int × Int)) : Option ((Int × Int) ⊕ Int) :=
 (Qm a0.Ops s1_.2).bind fun x14 => cond (cond (decide (s2_.2 < (x14.L.length : Int))) (decide (0 ≤ s2_.1)) false) ((Qm a0.Ops s1_.2).bind fun x16 => (Qm x16.L s2_.2).bind fun x18 => (Ka x18 80 s2_.1).bind fun y19 => some (.inl (y19, (IntKind.i64.wrap (s2_.2 + 1))))) (some (.inr s2_.1))
noncomputable def Jg (Qd : (Zc → Int → Int → Option Int)) (a0 : Zc) (a1 : Int) (s1_ : (Int × Int)) : Option ((Int × Int) ⊕ Int) :=
 cond (cond (decide (s1_.2 < (a0.Ops.length : Int))) (decide (0 ≤ s1_.1)) false) (((Ya (Vf a0 s1_) (s1_.1, 0)).bind fun (z21 : Int) => cond (decide (0 ≤ z21)) ((Qm a0.Ops s1_.2).bind fun x22 => (Qd x22.E (IntKind.i64.wrap (a1 - 1)) z21).bind fun y24 => some y24) (some z21)).bind fun (z11 : Int) => some (.inl (z11, (IntKind.i64.wrap (s1_.2 + 1))))) (some (.inr s1_.1))
noncomputable def Jq (Qd : (Zc → Int → Int → Option Int)) (a0 : Zc) (a1 : Int) (a2 : Int) : Option Int :=
 cond (cond (a1 == 0) true (decide ((IntKind.i64.wrap ((IntKind.i64.wrap ((IntKind.i64.wrap (a2 - 1)) - (a0.Words.length : Int))) - (a0.Ops.length : Int))) < 0))) (some (-1)) ((Ka a0.Old 80 (IntKind.i64.wrap ((IntKind.i64.wrap ((IntKind.i64.wrap (a2 - 1)) - (a0.Words.length : Int))) - (a0.Ops.length : Int)))).bind fun y2 => (cond (decide (0 ≤ y2)) ((Ka a0.New 80 y2).bind fun y4 => some y4) (some y2)).bind fun (z3 : Int) => (Ya (Jf Qd a0 a1) (z3, 0)).bind fun (z10 : Int) => (Ya (Jg Qd a0 a1) (z10, 0)).bind fun (z27 : Int) => some z27)
noncomputable def Y0 : Nat → (Zc → Int → Int → Option Int)
 | 0 => (fun _ _ _ => none)
 | k + 1 => Jq ((Y0 k))
noncomputable def Zfi (a0 : Zc) (a1 : Int) (a2 : Int) : Option Int := lim fun k => (Y0 k) a0 a1 a2
noncomputable def Zac (a0 : Zc) : Option Bool :=
 (Zfi a0 80 3000).bind fun y2 => some (decide (0 ≤ y2))
noncomputable def Zcn (a0 : Int) : Option Bool :=
 some (cond (decide (2 ≤ a0)) (decide (a0 ≤ 9)) false)
noncomputable def Vl (a0 : (List Zb)) (s0_ : Int) : Option (Int ⊕ (Unit ⊕ Unit)) :=
 cond (decide (s0_ < (a0.length : Int))) ((Qm a0 s0_).bind fun x2 => cond (x2.Kind != 1) (some (.inr (.inl ()))) (some (.inl (IntKind.i64.wrap (s0_ + 1))))) (some (.inr (.inr ())))
noncomputable def Gd (a0 : (List Zb)) : Option Bool :=
 (Ya (Vl a0) 0).bind fun (z5 : (Unit ⊕ Unit)) => match z5 with | .inl z5 => some false | .inr z5 => some true
noncomputable def Zkd (a0 : Int) : Option (Int × Bool) :=
 ((some (⟨[0, 1, 8, 16, 32, 64], rfl⟩ : (Arr Int 6)))).bind fun y6 => ((some (⟨[0, 0, 0, 0, 0, 0], rfl⟩ : (Arr Int 6)))).bind fun y8 => cond (cond (decide (a0 < 0)) true (decide (6 ≤ a0))) (some (0, false)) ((Qm y6.1 a0).bind fun x12 => some (x12, true))
noncomputable def Zg0 (a0 : Int) (a1 : Int) : Option Bool :=
 (Zkd a0).bind fun y2 => (cond y2.2 ((Zhy (0 ≤ y2.1)).bind fun u6 => some (cond y2.2 ((Int.fdiv a1 (2 ^ min (Int.toNat y2.1) 64)) == 0) false)) (some false)).bind fun (z4 : Bool) => some z4
noncomputable def Zfb (Xu : (Zb → Option Bool)) (Xs : (Zb → Int → Option Bool)) (Y5 : ((List Zb) → Int → Option Bool)) (Xa : ((List Zb) → Int → Option Bool)) (a0 : Zb) : Option Bool :=
 cond (a0.Kind == 10) (some (cond ((a0.Words.length : Int) == 1) ((a0.Kids.length : Int) == 0) false)) ((Xs a0 64).bind fun y2 => some y2)
noncomputable def Zfc (Xu : (Zb → Option Bool)) (Xs : (Zb → Int → Option Bool)) (Y5 : ((List Zb) → Int → Option Bool)) (Xa : ((List Zb) → Int → Option Bool)) (a0 : Zb) (a1 : Int) : Option Bool :=
 cond (a0.Kind == 0) (some (cond ((a0.Words.length : Int) == 0) ((a0.Kids.length : Int) == 0) false)) (cond (a1 == 0) (some false) (cond (a0.Kind == 1) ((cond (decide ((a0.Words.length : Int) < 65536)) (cond (decide ((a0.Kids.length : Int) < 65536)) ((Y5 a0.Kids (IntKind.i64.wrap (a1 - 1))).bind fun y4 => some (cond (cond (decide ((a0.Words.length : Int) < 65536)) (decide ((a0.Kids.length : Int) < 65536)) false) y4 false)) (some false)) (some false)).bind fun (z2 : Bool) => some z2) ((Zcn a0.Kind).bind fun y8 => cond (cond (cond (!y8) true (decide (0 < (a0.Words.length : Int)))) true (decide (1048576 ≤ (a0.Kids.length : Int)))) (some false) (cond (a0.Kind == 8) ((Y5 a0.Kids (IntKind.i64.wrap (a1 - 1))).bind fun y10 => some y10) (cond (a0.Kind == 9) (((Gd a0.Kids).bind fun y16 => cond y16 ((Y5 a0.Kids (IntKind.i64.wrap (a1 - 1))).bind fun y17 => some (cond y16 y17 false)) (some false)).bind fun (z13 : Bool) => some z13) ((Xa a0.Kids (IntKind.i64.wrap (a0.Kind - 2))).bind fun y20 => some y20))))))
noncomputable def Ul (Xs : (Zb → Int → Option Bool)) (a0 : (List Zb)) (a1 : Int) (s0_ : Int) : Option (Int ⊕ (Unit ⊕ Unit)) :=
 cond (decide (s0_ < (a0.length : Int))) ((Qm a0 s0_).bind fun x2 => (Xs x2 a1).bind fun y4 => cond (!y4) (some (.inr (.inl ()))) (some (.inl (IntKind.i64.wrap (s0_ + 1))))) (some (.inr (.inr ())))
noncomputable def Za9 (Xu : (Zb → Option Bool)) (Xs : (Zb → Int → Option Bool)) (Y5 : ((List Zb) → Int → Option Bool)) (Xa : ((List Zb) → Int → Option Bool)) (a0 : (List Zb)) (a1 : Int) : Option Bool :=
 (Ya (Ul Xs a0 a1) 0).bind fun (z7 : (Unit ⊕ Unit)) => match z7 with | .inl z7 => some false | .inr z7 => some true
noncomputable def Uk (Xu : (Zb → Option Bool)) (a0 : (List Zb)) (a1 : Int) (s0_ : Int) : Option (Int ⊕ (Unit ⊕ Unit)) :=
 cond (decide (s0_ < (a0.length : Int))) ((Qm a0 s0_).bind fun x2 => (cond (x2.Kind != 10) (some true) ((Xu x2).bind fun y10 => cond y10 ((Qm x2.Words 0).bind fun x11 => (Zg0 a1 x11).bind fun y12 => some (cond (cond (x2.Kind != 10) true (!y10)) true (!y12))) (some true))).bind fun (z6 : Bool) => cond z6 (some (.inr (.inl ()))) (some (.inl (IntKind.i64.wrap (s0_ + 1))))) (some (.inr (.inr ())))
noncomputable def Za8 (Xu : (Zb → Option Bool)) (Xs : (Zb → Int → Option Bool)) (Y5 : ((List Zb) → Int → Option Bool)) (Xa : ((List Zb) → Int → Option Bool)) (a0 : (List Zb)) (a1 : Int) : Option Bool :=
 (Ya (Uk Xu a0 a1) 0).bind fun (z17 : (Unit ⊕ Unit)) => match z17 with | .inl z17 => some false | .inr z17 => some true
noncomputable def Z0 : Nat → ((Zb → Option Bool) × (Zb → Int → Option Bool) × ((List Zb) → Int → Option Bool) × ((List Zb) → Int → Option Bool))
 | 0 => ((fun _ => none), (fun _ _ => none), (fun _ _ => none), (fun _ _ => none))
 | k + 1 => (Zfb ((Z0 k).1) ((Z0 k).2.1) ((Z0 k).2.2.1) ((Z0 k).2.2.2), Zfc ((Z0 k).1) ((Z0 k).2.1) ((Z0 k).2.2.1) ((Z0 k).2.2.2), Za9 ((Z0 k).1) ((Z0 k).2.1) ((Z0 k).2.2.1) ((Z0 k).2.2.2), Za8 ((Z0 k).1) ((Z0 k).2.1) ((Z0 k).2.2.1) ((Z0 k).2.2.2))
noncomputable def Zdt (a0 : Zb) : Option Bool := lim fun k => (Z0 k).1 a0
noncomputable def V7 (a0 : (List Int)) (s0_ : Int) : Option (Int ⊕ Int) :=
 (cond (decide (0 < s0_)) ((Qm a0 (IntKind.i64.wrap (s0_ - 1))).bind fun x4 => some (cond (decide (0 < s0_)) (x4 == 0) false)) (some false)).bind fun (z2 : Bool) => cond z2 (some (.inl (IntKind.i64.wrap (s0_ - 1)))) (some (.inr s0_))
noncomputable def K8 (a0 : (List Int)) : Option (List Int) :=
 (Ya (V7 a0) (a0.length : Int)).bind fun (z7 : Int) => (Zhf a0 0 z7).bind fun l9 => some l9
noncomputable def Uq (a0 : (List Zb)) (s0_ : Int) : Option (Int ⊕ Int) :=
 (cond (decide (0 < s0_)) ((Qm a0 (IntKind.i64.wrap (s0_ - 1))).bind fun x6 => some (cond (decide (0 < s0_)) (x6.Kind == 0) false)) (some false)).bind fun (z3 : Bool) => cond z3 (some (.inl (IntKind.i64.wrap (s0_ - 1)))) (some (.inr s0_))
noncomputable def V1 (a0 : (List Zb)) : Option (List Zb) :=
 (Ya (Uq a0) (a0.length : Int)).bind fun (z10 : Int) => (Zhf a0 0 z10).bind fun l12 => some l12
noncomputable def G0 (Zar : (Zb → Option Zb)) (z1 : ((List Int) × (List Zb))) (s0_ : (Int × (List Zb))) : Option ((Int × (List Zb)) ⊕ (List Zb)) :=
 cond (decide (s0_.1 < (z1.2.length : Int))) ((Qm z1.2 s0_.1).bind fun x9 => (Zar x9).bind fun y10 => (Qm s0_.2 s0_.1).bind fun x11 => some (.inl ((IntKind.i64.wrap (s0_.1 + 1)), (Zhe s0_.2 s0_.1 y10)))) (some (.inr s0_.2))
noncomputable def Zgp (Zar : (Zb → Option Zb)) (a0 : Zb) : Option Zb :=
 cond (a0.Kind == 0) (some (⟨0, [], []⟩ : Zb)) ((cond (a0.Kind == 1) ((K8 a0.Words).bind fun y2 => (V1 a0.Kids).bind fun y3 => some (y2, y3)) (some (a0.Words, a0.Kids))).bind fun (z1 : ((List Int) × (List Zb))) => (cond (decide (0 < (z1.2.length : Int))) ((Zli 56 (z1.2.length : Int) (⟨(0 : Int), [], []⟩ : Zb)).bind fun l6 => some l6) (some ([] : List Zb))).bind fun (z5 : (List Zb)) => (Ya (G0 Zar z1) (0, z5)).bind fun (z14 : (List Zb)) => some (⟨a0.Kind, z1.1, z14⟩ : Zb))
noncomputable def Ua : Nat → (Zb → Option Zb)
 | 0 => (fun _ => none)
 | k + 1 => Zgp ((Ua k))
noncomputable def Gc (a0 : Zb) : Option Zb := lim fun k => (Ua k) a0
structure Zn where
 now : Zb
 done : (List Zc)
 back : (List Zc)
noncomputable def Zen (a0 : Zb) : Option Zn :=
 (cond (a0.Kind == 10) (some true) ((Zdt a0).bind fun y4 => some (cond (a0.Kind == 10) true (!y4)))).bind fun (z2 : Bool) => cond z2 (none) ((Gc a0).bind fun y7 => some (⟨y7, [], []⟩ : Zn))
noncomputable def Ue (a0 : Zb) : Option Bool :=
 some (cond (a0.Kind != 0) true (decide (0 < (IntKind.i64.wrap ((a0.Words.length : Int) + (a0.Kids.length : Int))))))
noncomputable def Vj (a0 : Bool) (a1 : Bool) (a2 : Bool) (a3 : Zc) : Option Bool :=
 (cond a0 ((Ue a3.Old).bind fun y6 => cond y6 (some false) ((Ue a3.New).bind fun y7 => some (cond (cond (!(cond a0 (cond y6 true y7) false)) (!(cond a1 (decide (0 < (IntKind.i64.wrap ((a3.Words.length : Int) + (a3.Kids.length : Int))))) false)) false) (!(cond a2 (cond (a3.List_ != 0) true (decide (0 < (a3.Ops.length : Int)))) false)) false))) (some (cond (!(cond a1 (decide (0 < (IntKind.i64.wrap ((a3.Words.length : Int) + (a3.Kids.length : Int))))) false)) (!(cond a2 (cond (a3.List_ != 0) true (decide (0 < (a3.Ops.length : Int)))) false)) false))).bind fun (z3 : Bool) => some z3
noncomputable def Zds (a0 : Zb) : Option Bool :=
 (cond (a0.Kind != 10) ((Zdt a0).bind fun y4 => some (cond (a0.Kind != 10) y4 false)) (some false)).bind fun (z2 : Bool) => some z2
noncomputable def Zco (a0 : Int) (s0_ : (Int × Int)) : Option ((Int × Int) ⊕ Int) :=
 cond (decide (s0_.2 < 8)) (((Zhy (0 ≤ s0_.2)).bind fun u3 => cond ((IntKind.u8.wrap (Ze1 .u8 (Int.fdiv a0 (2 ^ min (Int.toNat s0_.2) 8)) 1)) == 1) ((Zhy (0 ≤ (IntKind.i64.wrap (8 * s0_.2)))).bind fun u4 => some (IntKind.u64.wrap (Zsv .u64 s0_.1 (IntKind.u64.wrap (255 * 2 ^ min (Int.toNat (IntKind.i64.wrap (8 * s0_.2))) 64))))) (some s0_.1)).bind fun (z1 : Int) => some (.inl (z1, (IntKind.i64.wrap (s0_.2 + 1))))) (some (.inr s0_.1))
noncomputable def Ge (a0 : Int) : Option Int :=
 (Ya (Zco a0) (0, 0)).bind fun (z7 : Int) => some z7
noncomputable def Vi (a0 : (List Zs)) (s0_ : (Int × Int)) : Option ((Int × Int) ⊕ (Unit ⊕ Unit)) :=
 cond (decide (s0_.2 < (a0.length : Int))) ((Qm a0 s0_.2).bind fun x2 => (Ge x2.Mask).bind fun y4 => cond (cond (cond (cond (cond (decide (x2.At ≤ s0_.1)) true (decide (65534 < x2.At))) true (x2.Mask == 0)) true ((IntKind.u64.wrap (Ze1 .u64 x2.Old (IntKind.u64.wrap (Zgy .u64 (if IntKind.signed .u64 = true then -1 else IntKind.max .u64) y4)))) != 0)) true ((IntKind.u64.wrap (Ze1 .u64 x2.New (IntKind.u64.wrap (Zgy .u64 (if IntKind.signed .u64 = true then -1 else IntKind.max .u64) y4)))) != 0)) (some (.inr (.inl ()))) (some (.inl (x2.At, (IntKind.i64.wrap (s0_.2 + 1)))))) (some (.inr (.inr ())))
noncomputable def Gb (a0 : (List Zs)) : Option Bool :=
 (Ya (Vi a0) ((-1), 0)).bind fun (z7 : (Unit ⊕ Unit)) => match z7 with | .inl z7 => some false | .inr z7 => some true
noncomputable def Zbc (a0 : Int) (a1 : Zc) : Option Bool :=
 cond (a0 == 8) (some (a1.Kind != 0)) (cond (a0 == 9) (some (cond (a1.Kind == 2) true (cond (cond (a1.Kind == 1) (a1.Old.Kind == 1) false) (a1.New.Kind == 1) false))) (some false))
noncomputable def Zad (a0 : Zj) : Option Int :=
 cond (a0.Kind == 0) (some (if 1048576 < (if a0.N < 0 then 0 else a0.N) then 1048576 else (if a0.N < 0 then 0 else a0.N))) ((cond (a0.Kind == 1) (some (a0.Kind == 1)) (some (a0.Kind == 2))).bind fun (z1 : Bool) => cond z1 (some (a0.L.length : Int)) (cond (a0.Kind == 3) (some 1) (some 0)))
noncomputable def Ga (a0 : Zc) (s0_ : (Int × Int × Int)) : Option ((Int × Int × Int) ⊕ (Int × Int)) :=
 cond (decide (s0_.2.2 < (a0.Ops.length : Int))) (((Qm a0.Ops s0_.2.2).bind fun x3 => (cond (x3.Kind != 2) ((Zad x3).bind fun y5 => some (if 1048576 < (IntKind.i64.wrap (s0_.1 + y5)) then 1048576 else (IntKind.i64.wrap (s0_.1 + y5)))) (some s0_.1)).bind fun (z4 : Int) => cond (x3.Kind != 1) ((Zad x3).bind fun y7 => some (z4, (if 1048576 < (IntKind.i64.wrap (s0_.2.1 + y7)) then 1048576 else (IntKind.i64.wrap (s0_.2.1 + y7))))) (some (z4, s0_.2.1))).bind fun (z1 : (Int × Int)) => some (.inl (z1.1, z1.2, (IntKind.i64.wrap (s0_.2.2 + 1))))) (some (.inr (s0_.1, s0_.2.1)))
noncomputable def Zcm (a0 : Zc) : Option (Int × Int) :=
 (Ya (Ga a0) (0, 0, 0)).bind fun (z10 : (Int × Int)) => some (z10.1, z10.2)
noncomputable def Ze8 (Yw : (Zc → Option Bool)) (Ys : (Zc → Int → Option Bool)) (Yd : ((List Zp) → Int → Option Bool)) (Yg : (Zc → Int → Option Bool)) (Yi : (Int → Zj → Int → Option Bool)) (Yb : (Bool → Bool → Bool → Zj → Option Bool)) (a0 : Zc) : Option Bool :=
 (Ys a0 64).bind fun y2 => some y2
noncomputable def Ze9 (Yw : (Zc → Option Bool)) (Ys : (Zc → Int → Option Bool)) (Yd : ((List Zp) → Int → Option Bool)) (Yg : (Zc → Int → Option Bool)) (Yi : (Int → Zj → Int → Option Bool)) (Yb : (Bool → Bool → Bool → Zj → Option Bool)) (a0 : Zc) (a1 : Int) : Option Bool :=
 cond (a1 == 0) (some false) (cond (a0.Kind == 0) ((Vj true true true a0).bind fun y2 => some y2) (cond (a0.Kind == 1) (((Vj false true true a0).bind fun y10 => cond y10 ((Zds a0.Old).bind fun y11 => cond y11 ((Zds a0.New).bind fun y12 => some (cond (cond y10 y11 false) y12 false)) (some false)) (some false)).bind fun (z6 : Bool) => some z6) (cond (a0.Kind == 2) (((Vj true false true a0).bind fun y22 => cond y22 ((Gb a0.Words).bind fun y23 => cond y23 ((Yd a0.Kids (IntKind.i64.wrap (a1 - 1))).bind fun y24 => some (cond (cond y22 y23 false) y24 false)) (some false)) (some false)).bind fun (z18 : Bool) => some z18) (cond (a0.Kind == 3) (((Vj true true false a0).bind fun y32 => cond y32 ((Yg a0 (IntKind.i64.wrap (a1 - 1))).bind fun y33 => some (cond y32 y33 false)) (some false)).bind fun (z29 : Bool) => some z29) (some false)))))
noncomputable def V5 (Ys : (Zc → Int → Option Bool)) (a0 : (List Zp)) (a1 : Int) (s0_ : (Int × Int)) : Option ((Int × Int) ⊕ (Unit ⊕ Unit)) :=
 cond (decide (s0_.2 < (a0.length : Int))) ((Qm a0 s0_.2).bind fun x2 => (cond (decide (x2.At ≤ s0_.1)) (some true) (cond (decide (65534 < x2.At)) (some true) (cond (x2.E.Kind == 0) (some true) ((Ys x2.E a1).bind fun y6 => some (cond (cond (cond (decide (x2.At ≤ s0_.1)) true (decide (65534 < x2.At))) true (x2.E.Kind == 0)) true (!y6)))))).bind fun (z4 : Bool) => cond z4 (some (.inr (.inl ()))) (some (.inl (x2.At, (IntKind.i64.wrap (s0_.2 + 1)))))) (some (.inr (.inr ())))
noncomputable def Gx (Yw : (Zc → Option Bool)) (Ys : (Zc → Int → Option Bool)) (Yd : ((List Zp) → Int → Option Bool)) (Yg : (Zc → Int → Option Bool)) (Yi : (Int → Zj → Int → Option Bool)) (Yb : (Bool → Bool → Bool → Zj → Option Bool)) (a0 : (List Zp)) (a1 : Int) : Option Bool :=
 (Ya (V5 Ys a0 a1) ((-1), 0)).bind fun (z12 : (Unit ⊕ Unit)) => match z12 with | .inl z12 => some false | .inr z12 => some true
noncomputable def Ug (Yi : (Int → Zj → Int → Option Bool)) (a0 : Zc) (a1 : Int) (s0_ : Int) : Option (Int ⊕ (Unit ⊕ Unit)) :=
 cond (decide (s0_ < (a0.Ops.length : Int))) ((Qm a0.Ops s0_).bind fun x4 => (Yi a0.List_ x4 a1).bind fun y6 => cond (!y6) (some (.inr (.inl ()))) (some (.inl (IntKind.i64.wrap (s0_ + 1))))) (some (.inr (.inr ())))
noncomputable def Za6 (Yw : (Zc → Option Bool)) (Ys : (Zc → Int → Option Bool)) (Yd : ((List Zp) → Int → Option Bool)) (Yg : (Zc → Int → Option Bool)) (Yi : (Int → Zj → Int → Option Bool)) (Yb : (Bool → Bool → Bool → Zj → Option Bool)) (a0 : Zc) (a1 : Int) : Option Bool :=
 (Zcn a0.List_).bind fun y2 => cond (!y2) (some false) ((Ya (Ug Yi a0 a1) 0).bind fun (z9 : (Unit ⊕ Unit)) => match z9 with | .inl z9 => some false | .inr z9 => (Zcm a0).bind fun y11 => some (cond (decide (y11.1 < 1048576)) (decide (y11.2 < 1048576)) false))
noncomputable def Zcc (Yw : (Zc → Option Bool)) (Ys : (Zc → Int → Option Bool)) (Yd : ((List Zp) → Int → Option Bool)) (Yg : (Zc → Int → Option Bool)) (Yi : (Int → Zj → Int → Option Bool)) (Yb : (Bool → Bool → Bool → Zj → Option Bool)) (a0 : Int) (a1 : Zj) (a2 : Int) : Option Bool :=
 (cond (a1.Kind == 0) ((Yb false true true a1).bind fun y3 => some (.inr (.inl (cond (cond y3 (decide (1 ≤ a1.N)) false) (decide (a1.N ≤ 1048576)) false)))) (cond (a1.Kind == 1) (some (.inl ())) (cond (a1.Kind == 2) (some (.inl ())) (cond (a1.Kind == 3) (some (.inr (.inr (.inl ())))) (some (.inr (.inr (.inr ())))))))).bind fun (z1 : (Unit ⊕ (Bool ⊕ (Unit ⊕ Unit)))) => match z1 with | .inl z1 => ((Yb true false true a1).bind fun y13 => cond y13 (cond (decide (0 < (a1.L.length : Int))) ((Zdt (⟨a0, [], a1.L⟩ : Zb)).bind fun y14 => some (cond (cond y13 (decide (0 < (a1.L.length : Int))) false) y14 false)) (some false)) (some false)).bind fun (z10 : Bool) => some z10 | .inr z1 => match z1 with | .inl z1 => some z1 | .inr z1 => match z1 with | .inl z1 => ((Yb true true false a1).bind fun y24 => cond y24 ((Zbc a0 a1.E).bind fun y25 => cond y25 ((Ys a1.E a2).bind fun y26 => some (cond (cond y24 y25 false) y26 false)) (some false)) (some false)).bind fun (z20 : Bool) => some z20 | .inr z1 => some false
noncomputable def Gy (Yw : (Zc → Option Bool)) (Ys : (Zc → Int → Option Bool)) (Yd : ((List Zp) → Int → Option Bool)) (Yg : (Zc → Int → Option Bool)) (Yi : (Int → Zj → Int → Option Bool)) (Yb : (Bool → Bool → Bool → Zj → Option Bool)) (a0 : Bool) (a1 : Bool) (a2 : Bool) (a3 : Zj) : Option Bool :=
 (cond a0 (cond (a3.N != 0) (some false) (cond a1 (cond (decide (0 < (a3.L.length : Int))) (some false) (cond a2 (cond (a3.E.Kind != 0) (some (cond (cond (!(cond a0 (a3.N != 0) false)) (!(cond a1 (decide (0 < (a3.L.length : Int))) false)) false) (!(cond a2 true false)) false)) ((Yw a3.E).bind fun y10 => some (cond (cond (!(cond a0 (a3.N != 0) false)) (!(cond a1 (decide (0 < (a3.L.length : Int))) false)) false) (!(cond a2 (cond (a3.E.Kind != 0) true (!y10)) false)) false))) (some (cond (cond (!(cond a0 (a3.N != 0) false)) (!(cond a1 (decide (0 < (a3.L.length : Int))) false)) false) true false)))) (cond a2 (cond (a3.E.Kind != 0) (some (cond (cond (!(cond a0 (a3.N != 0) false)) (!(cond a1 (decide (0 < (a3.L.length : Int))) false)) false) (!(cond a2 true false)) false)) ((Yw a3.E).bind fun y11 => some (cond (cond (!(cond a0 (a3.N != 0) false)) (!(cond a1 (decide (0 < (a3.L.length : Int))) false)) false) (!(cond a2 (cond (a3.E.Kind != 0) true (!y11)) false)) false))) (some (cond (cond (!(cond a0 (a3.N != 0) false)) (!(cond a1 (decide (0 < (a3.L.length : Int))) false)) false) true false))))) (cond a1 (cond (decide (0 < (a3.L.length : Int))) (some false) (cond a2 (cond (a3.E.Kind != 0) (some (cond (cond (!(cond a0 (a3.N != 0) false)) (!(cond a1 (decide (0 < (a3.L.length : Int))) false)) false) (!(cond a2 true false)) false)) ((Yw a3.E).bind fun y12 => some (cond (cond (!(cond a0 (a3.N != 0) false)) (!(cond a1 (decide (0 < (a3.L.length : Int))) false)) false) (!(cond a2 (cond (a3.E.Kind != 0) true (!y12)) false)) false))) (some (cond (cond (!(cond a0 (a3.N != 0) false)) (!(cond a1 (decide (0 < (a3.L.length : Int))) false)) false) true false)))) (cond a2 (cond (a3.E.Kind != 0) (some (cond (cond (!(cond a0 (a3.N != 0) false)) (!(cond a1 (decide (0 < (a3.L.length : Int))) false)) false) (!(cond a2 true false)) false)) ((Yw a3.E).bind fun y13 => some (cond (cond (!(cond a0 (a3.N != 0) false)) (!(cond a1 (decide (0 < (a3.L.length : Int))) false)) false) (!(cond a2 (cond (a3.E.Kind != 0) true (!y13)) false)) false))) (some (cond (cond (!(cond a0 (a3.N != 0) false)) (!(cond a1 (decide (0 < (a3.L.length : Int))) false)) false) true false))))).bind fun (z5 : Bool) => some z5
noncomputable def Zm : Nat → ((Zc → Option Bool) × (Zc → Int → Option Bool) × ((List Zp) → Int → Option Bool) × (Zc → Int → Option Bool) × (Int → Zj → Int → Option Bool) × (Bool → Bool → Bool → Zj → Option Bool))
 | 0 => ((fun _ => none), (fun _ _ => none), (fun _ _ => none), (fun _ _ => none), (fun _ _ _ => none), (fun _ _ _ _ => none))
 | k + 1 => (Ze8 ((Zm k).1) ((Zm k).2.1) ((Zm k).2.2.1) ((Zm k).2.2.2.1) ((Zm k).2.2.2.2.1) ((Zm k).2.2.2.2.2), Ze9 ((Zm k).1) ((Zm k).2.1) ((Zm k).2.2.1) ((Zm k).2.2.2.1) ((Zm k).2.2.2.2.1) ((Zm k).2.2.2.2.2), Gx ((Zm k).1) ((Zm k).2.1) ((Zm k).2.2.1) ((Zm k).2.2.2.1) ((Zm k).2.2.2.2.1) ((Zm k).2.2.2.2.2), Za6 ((Zm k).1) ((Zm k).2.1) ((Zm k).2.2.1) ((Zm k).2.2.2.1) ((Zm k).2.2.2.2.1) ((Zm k).2.2.2.2.2), Zcc ((Zm k).1) ((Zm k).2.1) ((Zm k).2.2.1) ((Zm k).2.2.2.1) ((Zm k).2.2.2.2.1) ((Zm k).2.2.2.2.2), Gy ((Zm k).1) ((Zm k).2.1) ((Zm k).2.2.1) ((Zm k).2.2.2.1) ((Zm k).2.2.2.2.1) ((Zm k).2.2.2.2.2))
noncomputable def Zkb (a0 : Zc) : Option Bool := lim fun k => (Zm k).1 a0
noncomputable def Qh (a0 : (List Int)) (a1 : (List Int)) (s0_ : Int) : Option (Int ⊕ (Unit ⊕ Unit)) :=
 cond (decide (s0_ < (a0.length : Int))) ((Qm a0 s0_).bind fun x3 => (Qm a1 s0_).bind fun x4 => cond (x3 != x4) (some (.inr (.inl ()))) (some (.inl (IntKind.i64.wrap (s0_ + 1))))) (some (.inr (.inr ())))
noncomputable def X9 (a0 : (List Int)) (a1 : (List Int)) : Option Bool :=
 cond ((a0.length : Int) != (a1.length : Int)) (some false) ((Ya (Qh a0 a1) 0).bind fun (z7 : (Unit ⊕ Unit)) => match z7 with | .inl z7 => some false | .inr z7 => some true)
noncomputable def Zfa (J4 : (Zb → Zb → Option Bool)) (Zr : ((List Zb) → (List Zb) → Option Bool)) (a0 : Zb) (a1 : Zb) : Option Bool :=
 cond (a0.Kind != a1.Kind) (some false) (cond (a0.Kind == 0) (some true) (cond (a0.Kind == 1) (((K8 a0.Words).bind fun y14 => (K8 a1.Words).bind fun y15 => (X9 y14 y15).bind fun y16 => cond y16 ((V1 a0.Kids).bind fun y17 => (V1 a1.Kids).bind fun y18 => (Zr y17 y18).bind fun y19 => some (cond y16 y19 false)) (some false)).bind fun (z7 : Bool) => some z7) (((X9 a0.Words a1.Words).bind fun y26 => cond y26 ((Zr a0.Kids a1.Kids).bind fun y27 => some (cond y26 y27 false)) (some false)).bind fun (z23 : Bool) => some z23)))
noncomputable def Yf (J4 : (Zb → Zb → Option Bool)) (a0 : (List Zb)) (a1 : (List Zb)) (s0_ : Int) : Option (Int ⊕ (Unit ⊕ Unit)) :=
 cond (decide (s0_ < (a0.length : Int))) ((Qm a0 s0_).bind fun x2 => (Qm a1 s0_).bind fun x4 => (J4 x2 x4).bind fun y6 => cond (!y6) (some (.inr (.inl ()))) (some (.inl (IntKind.i64.wrap (s0_ + 1))))) (some (.inr (.inr ())))
noncomputable def Yl (J4 : (Zb → Zb → Option Bool)) (Zr : ((List Zb) → (List Zb) → Option Bool)) (a0 : (List Zb)) (a1 : (List Zb)) : Option Bool :=
 cond ((a0.length : Int) != (a1.length : Int)) (some false) ((Ya (Yf J4 a0 a1) 0).bind fun (z9 : (Unit ⊕ Unit)) => match z9 with | .inl z9 => some false | .inr z9 => some true)
noncomputable def X6 : Nat → ((Zb → Zb → Option Bool) × ((List Zb) → (List Zb) → Option Bool))
 | 0 => ((fun _ _ => none), (fun _ _ => none))
 | k + 1 => (Zfa ((X6 k).1) ((X6 k).2), Yl ((X6 k).1) ((X6 k).2))
noncomputable def Zkc (a0 : Zb) (a1 : Zb) : Option Bool := lim fun k => (X6 k).1 a0 a1
noncomputable def Xo (a0 : (List Zb)) (a1 : (List Zb)) : Option Bool := lim fun k => (X6 k).2 a0 a1
noncomputable def V0 (a0 : List Int) : Option (List Int) :=
 Za5 8 ([] : List Int) a0
noncomputable def Kt (a0 : List Zb) : Option (List Zb) :=
 Za5 56 ([] : List Zb) a0
noncomputable def Zgz (a0 : Zb) (a1 : Int) : Option Int :=
 cond (cond (decide (a1 < 0)) true (decide ((a0.Words.length : Int) ≤ a1))) (some 0) ((Qm a0.Words a1).bind fun x2 => some x2)
noncomputable def U2 (a0 : Int) : Option Bool :=
 some (cond (decide (a0 < 0)) true (decide (65534 < a0)))
noncomputable def Zf6 (a0 : Int) (a1 : Int) (a2 : Int) : Option Int :=
 (Ge a2).bind fun y2 => some (IntKind.u64.wrap (Zsv .u64 (IntKind.u64.wrap (Zvm .u64 a0 y2)) (IntKind.u64.wrap (Ze1 .u64 a1 y2))))
noncomputable def Uo (a1 : Int) (a2 : Int) (s0_ : (List Int)) : Option ((List Int) ⊕ (List Int)) :=
 cond (cond (decide ((s0_.length : Int) ≤ a1)) (a2 != 0) false) ((Za5 8 s0_ ([0] : List Int)).bind fun l1 => some (.inl l1)) (some (.inr s0_))
noncomputable def Zbb (a0 : Zb) (a1 : Int) (a2 : Int) : Option Zb :=
 (Ya (Uo a1 a2) a0.Words).bind fun (z3 : (List Int)) => cond (decide (a1 < (z3.length : Int))) ((Qm z3 a1).bind fun x4 => some (⟨a0.Kind, (Zhe z3 a1 a2), a0.Kids⟩ : Zb)) (some (⟨a0.Kind, z3, a0.Kids⟩ : Zb))
noncomputable def Zh1 (a0 : Zb) (a1 : Int) : Option Zb :=
 cond (cond (decide (a1 < 0)) true (decide ((a0.Kids.length : Int) ≤ a1))) (some (⟨0, [], []⟩ : Zb)) ((Qm a0.Kids a1).bind fun x2 => some x2)
noncomputable def U9 (a1 : Int) (a2 : Zb) (s0_ : (List Zb)) : Option ((List Zb) ⊕ (List Zb)) :=
 cond (cond (decide ((s0_.length : Int) ≤ a1)) (a2.Kind != 0) false) ((Za5 56 s0_ ([(⟨0, [], []⟩ : Zb)] : List Zb)).bind fun l1 => (Qm l1 (s0_.length : Int)).bind fun x2 => some (.inl (s0_ ++ [(⟨0, [], []⟩ : Zb)]))) (some (.inr s0_))
noncomputable def Zcl (a0 : Zb) (a1 : Int) (a2 : Zb) : Option Zb :=
 (Ya (U9 a1 a2) a0.Kids).bind fun (z5 : (List Zb)) => cond (decide (a1 < (z5.length : Int))) ((Qm z5 a1).bind fun x6 => some (⟨a0.Kind, a0.Words, (Zhe z5 a1 a2)⟩ : Zb)) (some (⟨a0.Kind, a0.Words, z5⟩ : Zb))
structure Zh where
 left : (List Zb)
 out : (List Zb)
noncomputable def U6 (Y7 : (Zc → Zb → Option (Zb × Bool))) (Yj : (Zc → Zb → Option (Zb × Bool))) (Xl : (Zc → Zb → Option (Zb × Bool))) (Z8 : (Zh → Zj → Option (Bool × Zh))) (Z4 : (Zh → Zc → Option (Bool × Zh))) (a0 : Zc) (a1 : Zb) : Option (Zb × Bool) :=
 cond (a0.Kind == 0) (some (a1, true)) (cond (a0.Kind == 1) ((Zkc a1 a0.Old).bind fun y2 => some (a0.New, y2)) (cond (a0.Kind == 2) ((Yj a0 a1).bind fun y4 => some (y4.1, y4.2)) (cond (a0.Kind == 3) ((Xl a0 a1).bind fun y6 => some (y6.1, y6.2)) (some ((⟨0, [], []⟩ : Zb), false)))))
noncomputable def Je (a0 : Zc) (a1 : Zb) (s0_ : (Int × Int × (List Int) × (List Zb))) : Option ((Int × Int × (List Int) × (List Zb)) ⊕ (Unit ⊕ (Int × (List Int) × (List Zb)))) :=
 cond (decide (s0_.1 < (a0.Words.length : Int))) ((Qm a0.Words s0_.1).bind fun x110 => (Zgz a1 x110.At).bind fun y112 => ((U2 x110.At).bind fun y118 => cond y118 (some true) ((Ge x110.Mask).bind fun y119 => some (cond y118 true ((IntKind.u64.wrap (Ze1 .u64 (IntKind.u64.wrap (Zgy .u64 y112 x110.Old)) y119)) != 0)))).bind fun (z115 : Bool) => cond z115 (some (.inr (.inl ()))) ((Zf6 y112 x110.New x110.Mask).bind fun y121 => (Zbb (⟨s0_.2.1, s0_.2.2.1, s0_.2.2.2⟩ : Zb) x110.At y121).bind fun y122 => some (.inl ((IntKind.i64.wrap (s0_.1 + 1)), y122.Kind, y122.Words, y122.Kids)))) (some (.inr (.inr (s0_.2.1, s0_.2.2.1, s0_.2.2.2))))
noncomputable def Qo (Y7 : (Zc → Zb → Option (Zb × Bool))) (a0 : Zc) (a1 : Zb) (s1_ : (Int × Int × (List Int) × (List Zb))) : Option ((Int × Int × (List Int) × (List Zb)) ⊕ (Unit ⊕ (Int × (List Int) × (List Zb)))) :=
 cond (decide (s1_.1 < (a0.Kids.length : Int))) ((Qm a0.Kids s1_.1).bind fun x127 => (Zh1 a1 x127.At).bind fun y130 => (Y7 x127.E y130).bind fun y131 => (U2 x127.At).bind fun y133 => cond (cond y133 true (!y131.2)) (some (.inr (.inl ()))) ((Zcl (⟨s1_.2.1, s1_.2.2.1, s1_.2.2.2⟩ : Zb) x127.At y131.1).bind fun y134 => some (.inl ((IntKind.i64.wrap (s1_.1 + 1)), y134.Kind, y134.Words, y134.Kids)))) (some (.inr (.inr (s1_.2.1, s1_.2.2.1, s1_.2.2.2))))
noncomputable def Vu (Y7 : (Zc → Zb → Option (Zb × Bool))) (Yj : (Zc → Zb → Option (Zb × Bool))) (Xl : (Zc → Zb → Option (Zb × Bool))) (Z8 : (Zh → Zj → Option (Bool × Zh))) (Z4 : (Zh → Zc → Option (Bool × Zh))) (a0 : Zc) (a1 : Zb) : Option (Zb × Bool) :=
 cond (a1.Kind != 1) (some ((⟨0, [], []⟩ : Zb), false)) ((V0 a1.Words).bind fun y25 => (Kt a1.Kids).bind fun y61 => (Ya (Je a0 a1) (0, 1, y25, y61)).bind fun (z125 : (Unit ⊕ (Int × (List Int) × (List Zb)))) => match z125 with | .inl z125 => some ((⟨0, [], []⟩ : Zb), false) | .inr z125 => (Ya (Qo Y7 a0 a1) (0, z125.1, z125.2.1, z125.2.2)).bind fun (z137 : (Unit ⊕ (Int × (List Int) × (List Zb)))) => match z137 with | .inl z137 => some ((⟨0, [], []⟩ : Zb), false) | .inr z137 => some ((⟨z137.1, z137.2.1, z137.2.2⟩ : Zb), true))
noncomputable def Kx (Z8 : (Zh → Zj → Option (Bool × Zh))) (a0 : Zc) (s0_ : (Int × (List Zb) × (List Zb))) : Option ((Int × (List Zb) × (List Zb)) ⊕ (Unit ⊕ ((List Zb) × (List Zb)))) :=
 cond (decide (s0_.1 < (a0.Ops.length : Int))) ((Qm a0.Ops s0_.1).bind fun x7 => (Z8 (⟨s0_.2.1, s0_.2.2⟩ : Zh) x7).bind fun y9 => cond (!y9.1) (some (.inr (.inl ()))) (some (.inl ((IntKind.i64.wrap (s0_.1 + 1)), y9.2.left, y9.2.out)))) (some (.inr (.inr (s0_.2.1, s0_.2.2))))
noncomputable def Zdn (Y7 : (Zc → Zb → Option (Zb × Bool))) (Yj : (Zc → Zb → Option (Zb × Bool))) (Xl : (Zc → Zb → Option (Zb × Bool))) (Z8 : (Zh → Zj → Option (Bool × Zh))) (Z4 : (Zh → Zc → Option (Bool × Zh))) (a0 : Zc) (a1 : Zb) : Option (Zb × Bool) :=
 (cond (a1.Kind != a0.List_) (some true) ((Zcn a1.Kind).bind fun y4 => some (cond (a1.Kind != a0.List_) true (!y4)))).bind fun (z2 : Bool) => cond z2 (some ((⟨0, [], []⟩ : Zb), false)) ((Ya (Kx Z8 a0) (0, a1.Kids, ([] : List Zb))).bind fun (z12 : (Unit ⊕ ((List Zb) × (List Zb)))) => match z12 with | .inl z12 => some ((⟨0, [], []⟩ : Zb), false) | .inr z12 => some ((⟨a1.Kind, [], z12.2⟩ : Zb), ((z12.1.length : Int) == 0)))
noncomputable def V4 (Y7 : (Zc → Zb → Option (Zb × Bool))) (Yj : (Zc → Zb → Option (Zb × Bool))) (Xl : (Zc → Zb → Option (Zb × Bool))) (Z8 : (Zh → Zj → Option (Bool × Zh))) (Z4 : (Zh → Zc → Option (Bool × Zh))) (a0 : Zh) (a1 : Zj) : Option (Bool × Zh) :=
 cond (a1.Kind == 0) ((cond (decide (a1.N < 0)) (some true) (some (cond (decide (a1.N < 0)) true (decide ((a0.left.length : Int) < a1.N))))).bind fun (z1 : Bool) => cond z1 (some (false, (⟨a0.left, a0.out⟩ : Zh))) ((Zhf a0.left 0 a1.N).bind fun l5 => (Za5 56 a0.out l5).bind fun l6 => (Zhf a0.left a1.N (a0.left.length : Int)).bind fun l8 => some (true, (⟨l8, l6⟩ : Zh)))) (cond (a1.Kind == 1) ((cond (decide ((a0.left.length : Int) < (a1.L.length : Int))) (some true) ((Zhf a0.left 0 (a1.L.length : Int)).bind fun l15 => (Xo l15 a1.L).bind fun y16 => some (cond (decide ((a0.left.length : Int) < (a1.L.length : Int))) true (!y16)))).bind fun (z12 : Bool) => cond z12 (some (false, (⟨a0.left, a0.out⟩ : Zh))) ((Zhf a0.left (a1.L.length : Int) (a0.left.length : Int)).bind fun l19 => some (true, (⟨l19, a0.out⟩ : Zh)))) (cond (a1.Kind == 2) ((Za5 56 a0.out a1.L).bind fun l22 => some (true, (⟨a0.left, l22⟩ : Zh))) (cond (a1.Kind == 3) ((Z4 (⟨a0.left, a0.out⟩ : Zh) a1.E).bind fun y24 => some (y24.1, (⟨y24.2.left, y24.2.out⟩ : Zh))) (some (false, (⟨a0.left, a0.out⟩ : Zh))))))
noncomputable def Kq (Y7 : (Zc → Zb → Option (Zb × Bool))) (Yj : (Zc → Zb → Option (Zb × Bool))) (Xl : (Zc → Zb → Option (Zb × Bool))) (Z8 : (Zh → Zj → Option (Bool × Zh))) (Z4 : (Zh → Zc → Option (Bool × Zh))) (a0 : Zh) (a1 : Zc) : Option (Bool × Zh) :=
 cond ((a0.left.length : Int) == 0) (some (false, (⟨a0.left, a0.out⟩ : Zh))) ((Qm a0.left 0).bind fun x3 => (Y7 a1 x3).bind fun y4 => (Za5 56 a0.out ([(⟨0, [], []⟩ : Zb)] : List Zb)).bind fun l8 => (Qm l8 (a0.out.length : Int)).bind fun x9 => (Zhf a0.left 1 (a0.left.length : Int)).bind fun l12 => some (y4.2, (⟨l12, (a0.out ++ [y4.1])⟩ : Zh)))
noncomputable def Zq : Nat → ((Zc → Zb → Option (Zb × Bool)) × (Zc → Zb → Option (Zb × Bool)) × (Zc → Zb → Option (Zb × Bool)) × (Zh → Zj → Option (Bool × Zh)) × (Zh → Zc → Option (Bool × Zh)))
 | 0 => ((fun _ _ => none), (fun _ _ => none), (fun _ _ => none), (fun _ _ => none), (fun _ _ => none))
 | k + 1 => (U6 ((Zq k).1) ((Zq k).2.1) ((Zq k).2.2.1) ((Zq k).2.2.2.1) ((Zq k).2.2.2.2), Vu ((Zq k).1) ((Zq k).2.1) ((Zq k).2.2.1) ((Zq k).2.2.2.1) ((Zq k).2.2.2.2), Zdn ((Zq k).1) ((Zq k).2.1) ((Zq k).2.2.1) ((Zq k).2.2.2.1) ((Zq k).2.2.2.2), V4 ((Zq k).1) ((Zq k).2.1) ((Zq k).2.2.1) ((Zq k).2.2.2.1) ((Zq k).2.2.2.2), Kq ((Zq k).1) ((Zq k).2.1) ((Zq k).2.2.1) ((Zq k).2.2.2.1) ((Zq k).2.2.2.2))
noncomputable def Zka (a0 : Zc) (a1 : Zb) : Option (Zb × Bool) := lim fun k => (Zq k).1 a0 a1
noncomputable def Zfh (a0 : Zc) (a1 : Zb) : Option (Zb × Bool) :=
 (Zka a0 a1).bind fun y2 => cond (!y2.2) (some ((⟨0, [], []⟩ : Zb), false)) ((Gc y2.1).bind fun y4 => some (y4, true))
noncomputable def Qu (a0 : Zn) (a1 : Zc) : Option (Int × Zn) :=
 (Zfh a1 a0.now).bind fun y2 => cond (!y2.2) (some (13, (⟨a0.now, a0.done, a0.back⟩ : Zn))) ((Zdt y2.1).bind fun y4 => cond (!y4) (some (3, (⟨a0.now, a0.done, a0.back⟩ : Zn))) (some (0, (⟨y2.1, a0.done, a0.back⟩ : Zn))))
noncomputable def Q2 (a0 : List Zs) : Option (List Zs) :=
 Za5 32 ([] : List Zs) a0
structure Zt where
 out : (List Zj)
 kept : Int
 gone : (List Zb)
 come : (List Zb)
noncomputable def X7 (a0 : Zt) : Option Zt :=
 (cond (decide (0 < a0.kept)) ((Za5 240 a0.out ([(⟨0, 0, [], ⟨0, ⟨0, [], []⟩, ⟨0, [], []⟩, [], [], 0, []⟩⟩ : Zj)] : List Zj)).bind fun l2 => (Qm l2 (a0.out.length : Int)).bind fun x3 => some (a0.out ++ [(⟨0, a0.kept, [], ⟨0, ⟨0, [], []⟩, ⟨0, [], []⟩, [], [], 0, []⟩⟩ : Zj)])) (some a0.out)).bind fun (z1 : (List Zj)) => (cond (decide (0 < (a0.gone.length : Int))) ((Za5 240 z1 ([(⟨0, 0, [], ⟨0, ⟨0, [], []⟩, ⟨0, [], []⟩, [], [], 0, []⟩⟩ : Zj)] : List Zj)).bind fun l9 => (Qm l9 (z1.length : Int)).bind fun x10 => some ((z1 ++ [(⟨1, 0, a0.gone, ⟨0, ⟨0, [], []⟩, ⟨0, [], []⟩, [], [], 0, []⟩⟩ : Zj)]), a0.gone)) (some (z1, a0.gone))).bind fun (z6 : ((List Zj) × (List Zb))) => (cond (decide (0 < (a0.come.length : Int))) ((Za5 240 z6.1 ([(⟨0, 0, [], ⟨0, ⟨0, [], []⟩, ⟨0, [], []⟩, [], [], 0, []⟩⟩ : Zj)] : List Zj)).bind fun l16 => (Qm l16 (z6.1.length : Int)).bind fun x17 => some ((z6.1 ++ [(⟨2, 0, a0.come, ⟨0, ⟨0, [], []⟩, ⟨0, [], []⟩, [], [], 0, []⟩⟩ : Zj)]), a0.come)) (some (z6.1, a0.come))).bind fun (z13 : ((List Zj) × (List Zb))) => some (⟨z13.1, 0, [], []⟩ : Zt)
noncomputable def Kc (a0 : Zt) (a1 : Int) : Option Zt :=
 (cond (a0.kept == 0) ((X7 (⟨a0.out, a0.kept, a0.gone, a0.come⟩ : Zt)).bind fun y2 => some (y2.out, y2.gone, y2.come, y2.kept)) (some (a0.out, a0.gone, a0.come, a0.kept))).bind fun (z1 : ((List Zj) × (List Zb) × (List Zb) × Int)) => some (⟨z1.1, (IntKind.i64.wrap (z1.2.2.2 + a1)), z1.2.1, z1.2.2.1⟩ : Zt)
noncomputable def Q6 (a2 : (List Zb)) (s0_ : (Int × (List Zb))) : Option ((Int × (List Zb)) ⊕ (List Zb)) :=
 cond (decide (s0_.1 < (a2.length : Int))) ((Qm a2 s0_.1).bind fun x5 => (Gc x5).bind fun y6 => (Za5 56 s0_.2 ([(⟨0, [], []⟩ : Zb)] : List Zb)).bind fun l7 => (Qm l7 (s0_.2.length : Int)).bind fun x8 => some (.inl ((IntKind.i64.wrap (s0_.1 + 1)), (s0_.2 ++ [y6])))) (some (.inr s0_.2))
noncomputable def Jv (a0 : Zt) (a2 : (List Zb)) : Option Zt :=
 (cond (decide (0 < a0.kept)) ((X7 (⟨a0.out, a0.kept, a0.gone, a0.come⟩ : Zt)).bind fun y2 => some (y2.out, y2.gone, y2.come, y2.kept)) (some (a0.out, a0.gone, a0.come, a0.kept))).bind fun (z1 : ((List Zj) × (List Zb) × (List Zb) × Int)) => (Ya (Q6 a2) (0, z1.2.1)).bind fun (z11 : (List Zb)) => some (⟨z1.1, z1.2.2.2, z11, z1.2.2.1⟩ : Zt)
noncomputable def Q7 (a2 : (List Zb)) (s0_ : (Int × (List Zb))) : Option ((Int × (List Zb)) ⊕ (List Zb)) :=
 cond (decide (s0_.1 < (a2.length : Int))) ((Qm a2 s0_.1).bind fun x5 => (Gc x5).bind fun y6 => (Za5 56 s0_.2 ([(⟨0, [], []⟩ : Zb)] : List Zb)).bind fun l7 => (Qm l7 (s0_.2.length : Int)).bind fun x8 => some (.inl ((IntKind.i64.wrap (s0_.1 + 1)), (s0_.2 ++ [y6])))) (some (.inr s0_.2))
noncomputable def Jw (a0 : Zt) (a2 : (List Zb)) : Option Zt :=
 (cond (decide (0 < a0.kept)) ((X7 (⟨a0.out, a0.kept, a0.gone, a0.come⟩ : Zt)).bind fun y2 => some (y2.out, y2.gone, y2.come, y2.kept)) (some (a0.out, a0.gone, a0.come, a0.kept))).bind fun (z1 : ((List Zj) × (List Zb) × (List Zb) × Int)) => (Ya (Q7 a2) (0, z1.2.2.1)).bind fun (z11 : (List Zb)) => some (⟨z1.1, z1.2.2.2, z1.2.1, z11⟩ : Zt)
noncomputable def Zep (a0 : Int) (a1 : Zc) : Option Bool :=
 some (cond (a1.Kind == 0) true (cond (cond (a0 == 9) (a1.Kind == 2) false) ((IntKind.i64.wrap ((a1.Words.length : Int) + (a1.Kids.length : Int))) == 0) false))
noncomputable def Kb (a0 : Zt) (a1 : Int) (a2 : Zc) : Option Zt :=
 (Zep a1 a2).bind fun y2 => cond y2 ((Kc (⟨a0.out, a0.kept, a0.gone, a0.come⟩ : Zt) 1).bind fun y4 => some (⟨y4.out, y4.kept, y4.gone, y4.come⟩ : Zt)) ((X7 (⟨a0.out, a0.kept, a0.gone, a0.come⟩ : Zt)).bind fun y6 => (Za5 240 y6.out ([(⟨0, 0, [], ⟨0, ⟨0, [], []⟩, ⟨0, [], []⟩, [], [], 0, []⟩⟩ : Zj)] : List Zj)).bind fun l7 => (Qm l7 (y6.out.length : Int)).bind fun x8 => some (⟨(y6.out ++ [(⟨3, 0, [], a2⟩ : Zj)]), y6.kept, y6.gone, y6.come⟩ : Zt))
noncomputable def Gz (Qf : (Zc → Option Zc)) (a0 : Zc) (s0_ : (Int × (List Zp))) : Option ((Int × (List Zp)) ⊕ (List Zp)) :=
 cond (decide (s0_.1 < (a0.Kids.length : Int))) ((Qm a0.Kids s0_.1).bind fun x8 => (Qf x8.E).bind fun y9 => (Za5 208 s0_.2 ([(⟨x8.At, y9⟩ : Zp)] : List Zp)).bind fun l10 => some (.inl ((IntKind.i64.wrap (s0_.1 + 1)), l10))) (some (.inr s0_.2))
noncomputable def Zej (Qf : (Zc → Option Zc)) (Vd : (Int → (List Zj) → Option (List Zj))) (a0 : Zc) : Option Zc :=
 cond (a0.Kind == 1) ((Gc a0.Old).bind fun y3 => (Gc a0.New).bind fun y4 => some (⟨1, y3, y4, [], [], 0, []⟩ : Zc)) (cond (a0.Kind == 2) ((Q2 a0.Words).bind fun y6 => (Ya (Gz Qf a0) (0, ([] : List Zp))).bind fun (z12 : (List Zp)) => some (⟨2, ⟨0, [], []⟩, ⟨0, [], []⟩, y6, z12, 0, []⟩ : Zc)) (cond (a0.Kind == 3) ((Vd a0.List_ a0.Ops).bind fun y14 => some (⟨3, ⟨0, [], []⟩, ⟨0, [], []⟩, [], [], a0.List_, y14⟩ : Zc)) (some (⟨0, ⟨0, [], []⟩, ⟨0, [], []⟩, [], [], 0, []⟩ : Zc))))
noncomputable def Vz (Qf : (Zc → Option Zc)) (a0 : Int) (a1 : (List Zj)) (s0_ : (Int × Int × (List Zj) × (List Zb) × (List Zb))) : Option ((Int × Int × (List Zj) × (List Zb) × (List Zb)) ⊕ (Int × (List Zj) × (List Zb) × (List Zb))) :=
 cond (decide (s0_.1 < (a1.length : Int))) (((Qm a1 s0_.1).bind fun x3 => cond (x3.Kind == 0) ((Kc (⟨s0_.2.2.1, s0_.2.1, s0_.2.2.2.1, s0_.2.2.2.2⟩ : Zt) x3.N).bind fun y4 => some (y4.kept, y4.out, y4.gone, y4.come)) (cond (x3.Kind == 1) ((Jv (⟨s0_.2.2.1, s0_.2.1, s0_.2.2.2.1, s0_.2.2.2.2⟩ : Zt) x3.L).bind fun y5 => some (y5.kept, y5.out, y5.gone, y5.come)) (cond (x3.Kind == 2) ((Jw (⟨s0_.2.2.1, s0_.2.1, s0_.2.2.2.1, s0_.2.2.2.2⟩ : Zt) x3.L).bind fun y6 => some (y6.kept, y6.out, y6.gone, y6.come)) (cond (x3.Kind == 3) ((Qf x3.E).bind fun y7 => (Kb (⟨s0_.2.2.1, s0_.2.1, s0_.2.2.2.1, s0_.2.2.2.2⟩ : Zt) a0 y7).bind fun y8 => some (y8.kept, y8.out, y8.gone, y8.come)) (some (s0_.2.1, s0_.2.2.1, s0_.2.2.2.1, s0_.2.2.2.2)))))).bind fun (z1 : (Int × (List Zj) × (List Zb) × (List Zb))) => some (.inl ((IntKind.i64.wrap (s0_.1 + 1)), z1.1, z1.2.1, z1.2.2.1, z1.2.2.2))) (some (.inr (s0_.2.1, s0_.2.2.1, s0_.2.2.2.1, s0_.2.2.2.2)))
noncomputable def Zdo (Qf : (Zc → Option Zc)) (Vd : (Int → (List Zj) → Option (List Zj))) (a0 : Int) (a1 : (List Zj)) : Option (List Zj) :=
 (Ya (Vz Qf a0 a1) (0, 0, ([] : List Zj), ([] : List Zb), ([] : List Zb))).bind fun (z14 : (Int × (List Zj) × (List Zb) × (List Zb))) => (X7 (⟨z14.2.1, z14.1, z14.2.2.1, z14.2.2.2⟩ : Zt)).bind fun y16 => some y16.out
noncomputable def Qc : Nat → ((Zc → Option Zc) × (Int → (List Zj) → Option (List Zj)))
 | 0 => ((fun _ => none), (fun _ _ => none))
 | k + 1 => (Zej ((Qc k).1) ((Qc k).2), Zdo ((Qc k).1) ((Qc k).2))
noncomputable def Zgn (a0 : Zc) : Option Zc := lim fun k => (Qc k).1 a0
noncomputable def Vk (a0 : Zn) (a1 : Zc) : Option (Int × Zn) :=
 (Zkb a1).bind fun y2 => cond (!y2) (some (2, (⟨a0.now, a0.done, a0.back⟩ : Zn))) ((Qu (⟨a0.now, a0.done, a0.back⟩ : Zn) a1).bind fun y4 => cond (y4.1 != 0) (some (y4.1, (⟨y4.2.now, y4.2.done, y4.2.back⟩ : Zn))) ((Zgn a1).bind fun y7 => (Za5 200 y4.2.done ([y7] : List Zc)).bind fun l8 => some (0, (⟨y4.2.now, l8, []⟩ : Zn))))
noncomputable def Qx (a0 : Zn) : Option (Int × Int × Zn) :=
 some ((a0.done.length : Int), (a0.back.length : Int), (⟨a0.now, a0.done, a0.back⟩ : Zn))
noncomputable def Uh (a0 : Zc) (s0_ : (Int × (List Zs))) : Option ((Int × (List Zs)) ⊕ (List Zs)) :=
 cond (decide (s0_.1 < (a0.Words.length : Int))) ((Qm a0.Words s0_.1).bind fun x2 => (Za5 32 s0_.2 ([(⟨x2.At, x2.Mask, x2.New, x2.Old⟩ : Zs)] : List Zs)).bind fun l3 => some (.inl ((IntKind.i64.wrap (s0_.1 + 1)), l3))) (some (.inr s0_.2))
noncomputable def Ui (Qa : (Zc → Option Zc)) (a0 : Zc) (s1_ : (Int × (List Zp))) : Option ((Int × (List Zp)) ⊕ (List Zp)) :=
 cond (decide (s1_.1 < (a0.Kids.length : Int))) ((Qm a0.Kids s1_.1).bind fun x7 => (Qa x7.E).bind fun y8 => (Za5 208 s1_.2 ([(⟨x7.At, y8⟩ : Zp)] : List Zp)).bind fun l9 => some (.inl ((IntKind.i64.wrap (s1_.1 + 1)), l9))) (some (.inr s1_.2))
noncomputable def Uj (Xz : (Zj → Option Zj)) (a0 : Zc) (s2_ : (Int × (List Zj))) : Option ((Int × (List Zj)) ⊕ (List Zj)) :=
 cond (decide (s2_.1 < (a0.Ops.length : Int))) ((Qm a0.Ops s2_.1).bind fun x13 => (Xz x13).bind fun y14 => (Za5 240 s2_.2 ([y14] : List Zj)).bind fun l15 => some (.inl ((IntKind.i64.wrap (s2_.1 + 1)), l15))) (some (.inr s2_.2))
noncomputable def Za7 (Qa : (Zc → Option Zc)) (Xz : (Zj → Option Zj)) (a0 : Zc) : Option Zc :=
 (Ya (Uh a0) (0, ([] : List Zs))).bind fun (z5 : (List Zs)) => (Ya (Ui Qa a0) (0, ([] : List Zp))).bind fun (z11 : (List Zp)) => (Ya (Uj Xz a0) (0, ([] : List Zj))).bind fun (z17 : (List Zj)) => some (⟨a0.Kind, a0.New, a0.Old, z5, z11, a0.List_, z17⟩ : Zc)
noncomputable def U7 (Qa : (Zc → Option Zc)) (Xz : (Zj → Option Zj)) (a0 : Zj) : Option Zj :=
 (cond (a0.Kind == 1) (some (2, a0.E.Kind, a0.E.Old.Kind, a0.E.Old.Words, a0.E.Old.Kids, a0.E.New.Kind, a0.E.New.Words, a0.E.New.Kids, a0.E.Words, a0.E.Kids, a0.E.List_, a0.E.Ops)) (cond (a0.Kind == 2) (some (1, a0.E.Kind, a0.E.Old.Kind, a0.E.Old.Words, a0.E.Old.Kids, a0.E.New.Kind, a0.E.New.Words, a0.E.New.Kids, a0.E.Words, a0.E.Kids, a0.E.List_, a0.E.Ops)) (cond (a0.Kind == 3) ((Qa a0.E).bind fun y2 => some (a0.Kind, y2.Kind, y2.Old.Kind, y2.Old.Words, y2.Old.Kids, y2.New.Kind, y2.New.Words, y2.New.Kids, y2.Words, y2.Kids, y2.List_, y2.Ops)) (some (a0.Kind, a0.E.Kind, a0.E.Old.Kind, a0.E.Old.Words, a0.E.Old.Kids, a0.E.New.Kind, a0.E.New.Words, a0.E.New.Kids, a0.E.Words, a0.E.Kids, a0.E.List_, a0.E.Ops))))).bind fun (z1 : (Int × Int × Int × (List Int) × (List Zb) × Int × (List Int) × (List Zb) × (List Zs) × (List Zp) × Int × (List Zj))) => some (⟨z1.1, a0.N, a0.L, ⟨z1.2.1, ⟨z1.2.2.1, z1.2.2.2.1, z1.2.2.2.2.1⟩, ⟨z1.2.2.2.2.2.1, z1.2.2.2.2.2.2.1, z1.2.2.2.2.2.2.2.1⟩, z1.2.2.2.2.2.2.2.2.1, z1.2.2.2.2.2.2.2.2.2.1, z1.2.2.2.2.2.2.2.2.2.2.1, z1.2.2.2.2.2.2.2.2.2.2.2⟩⟩ : Zj)
noncomputable def Xn : Nat → ((Zc → Option Zc) × (Zj → Option Zj))
 | 0 => ((fun _ => none), (fun _ => none))
 | k + 1 => (Za7 ((Xn k).1) ((Xn k).2), U7 ((Xn k).1) ((Xn k).2))
noncomputable def Zg7 (a0 : Zc) : Option Zc := lim fun k => (Xn k).1 a0
noncomputable def Zeo (a0 : Zc) : Option Zc :=
 (Zg7 a0).bind fun y3 => (Zgn y3).bind fun y4 => some y4
noncomputable def Ks (a0 : Zn) : Option (Bool × Zn) :=
 (Qx (⟨a0.now, a0.done, a0.back⟩ : Zn)).bind fun y2 => (cond (y2.1 == 0) (some (true, y2.2.2.done, y2.2.2.back, y2.2.2.now.Kind, y2.2.2.now.Words, y2.2.2.now.Kids)) ((Qm y2.2.2.done (IntKind.i64.wrap (y2.1 - 1))).bind fun x10 => (Zeo x10).bind fun y11 => (Qu (⟨y2.2.2.now, y2.2.2.done, y2.2.2.back⟩ : Zn) y11).bind fun y12 => some ((cond (y2.1 == 0) true (y12.1 != 0)), y12.2.done, y12.2.back, y12.2.now.Kind, y12.2.now.Words, y12.2.now.Kids))).bind fun (z6 : (Bool × (List Zc) × (List Zc) × Int × (List Int) × (List Zb))) => cond z6.1 (some (false, (⟨⟨z6.2.2.2.1, z6.2.2.2.2.1, z6.2.2.2.2.2⟩, z6.2.1, z6.2.2.1⟩ : Zn))) ((Qm z6.2.1 (IntKind.i64.wrap (y2.1 - 1))).bind fun x16 => (Za5 200 z6.2.2.1 ([x16] : List Zc)).bind fun l17 => (Zhy (0 < List.length z6.2.1 ∧ 0 ≤ (IntKind.i64.wrap (y2.1 - 1)) ∧ (IntKind.i64.wrap (y2.1 - 1)) ≤ (List.length z6.2.1 : Int))).bind fun u19 => some (true, (⟨⟨z6.2.2.2.1, z6.2.2.2.2.1, z6.2.2.2.2.2⟩, (List.take (Int.toNat (IntKind.i64.wrap (y2.1 - 1))) z6.2.1), l17⟩ : Zn)))
noncomputable def Uy (a0 : Zn) : Option (Zb × Zn) :=
 some (a0.now, (⟨a0.now, a0.done, a0.back⟩ : Zn))
noncomputable def Kr (a0 : Zn) : Option (Bool × Zn) :=
 (Qx (⟨a0.now, a0.done, a0.back⟩ : Zn)).bind fun y2 => (cond (y2.2.1 == 0) (some (true, y2.2.2.done, y2.2.2.back, y2.2.2.now.Kind, y2.2.2.now.Words, y2.2.2.now.Kids)) ((Qm y2.2.2.back (IntKind.i64.wrap (y2.2.1 - 1))).bind fun x8 => (Qu (⟨y2.2.2.now, y2.2.2.done, y2.2.2.back⟩ : Zn) x8).bind fun y9 => some ((cond (y2.2.1 == 0) true (y9.1 != 0)), y9.2.done, y9.2.back, y9.2.now.Kind, y9.2.now.Words, y9.2.now.Kids))).bind fun (z5 : (Bool × (List Zc) × (List Zc) × Int × (List Int) × (List Zb))) => cond z5.1 (some (false, (⟨⟨z5.2.2.2.1, z5.2.2.2.2.1, z5.2.2.2.2.2⟩, z5.2.1, z5.2.2.1⟩ : Zn))) ((Qm z5.2.2.1 (IntKind.i64.wrap (y2.2.1 - 1))).bind fun x13 => (Za5 200 z5.2.1 ([x13] : List Zc)).bind fun l14 => (Zhy (0 < List.length z5.2.2.1 ∧ 0 ≤ (IntKind.i64.wrap (y2.2.1 - 1)) ∧ (IntKind.i64.wrap (y2.2.1 - 1)) ≤ (List.length z5.2.2.1 : Int))).bind fun u16 => some (true, (⟨⟨z5.2.2.2.1, z5.2.2.2.2.1, z5.2.2.2.2.2⟩, l14, (List.take (Int.toNat (IntKind.i64.wrap (y2.2.1 - 1))) z5.2.2.1)⟩ : Zn)))
noncomputable def K7  : Option Bool :=
 (Zen (⟨1, ([1] : List Int), []⟩ : Zb)).bind fun y2 => (Vk (⟨y2.now, y2.done, y2.back⟩ : Zn) (⟨2, ⟨0, [], []⟩, ⟨0, [], []⟩, ([(⟨0, 1, 1, 2⟩ : Zs)] : List Zs), [], 0, []⟩ : Zc)).bind fun y4 => (Ks (⟨y4.2.now, y4.2.done, y4.2.back⟩ : Zn)).bind fun y6 => (Uy (⟨y6.2.now, y6.2.done, y6.2.back⟩ : Zn)).bind fun y8 => (Kr (⟨y8.2.now, y8.2.done, y8.2.back⟩ : Zn)).bind fun y10 => (Uy (⟨y10.2.now, y10.2.done, y10.2.back⟩ : Zn)).bind fun y12 => (cond (y4.1 == 0) (cond y6.1 (cond y10.1 (cond ((y8.1.Words.length : Int) == 1) ((Qm y8.1.Words 0).bind fun x18 => cond (x18 == 1) (cond ((y12.1.Words.length : Int) == 1) ((Qm y12.1.Words 0).bind fun x19 => some (cond (cond (cond (cond (cond (cond (y4.1 == 0) y6.1 false) y10.1 false) ((y8.1.Words.length : Int) == 1) false) (x18 == 1) false) ((y12.1.Words.length : Int) == 1) false) (x19 == 2) false)) (some false)) (some false)) (some false)) (some false)) (some false)) (some false)).bind fun (z15 : Bool) => some z15
noncomputable def Jj  : Option (Int × Int) :=
 some (0, 0)
noncomputable def Zae  : Option Zb :=
 some (⟨0, [], []⟩ : Zb)
structure Ju where
 left : (List Zj)
 gone : Int
structure Jt where
 Of : Int
 P : Zj
 Q : Zj
noncomputable def Up  : Option Zc :=
 some (⟨0, ⟨0, [], []⟩, ⟨0, [], []⟩, [], [], 0, []⟩ : Zc)
noncomputable def Zax (a1 : Zc) : Option Int :=
 some 1
structure Jc where
 apart : Bool
 clash : Bool
structure Kl where
 mover : (Option Jc)
 left : Zc
 come : (List Zb)
noncomputable def Gl (a1 : Int) : Option Int :=
 some 1
noncomputable def Gn  : Option Bool :=
 (Jj).bind fun y2 => (cond (y2.1 == 0) (some ()) (none)).bind fun (z3 : Unit) => some false
noncomputable def Gm  : Option Bool :=
 (Jj).bind fun y2 => (cond (y2.2 == 0) (some ()) (none)).bind fun (z3 : Unit) => some false
structure Q3 where
 Kind : Int
 I : Int
 E : Zc
noncomputable def Vc (a0 : Q3) : Option Bool :=
 (Zac a0.E).bind fun y2 => cond (!y2) ((K7).bind fun y4 => some y4) ((Jj).bind fun y6 => (Zae).bind fun y8 => (Up).bind fun y10 => (cond ((IntKind.i64.wrap (y6.1 + y6.2)) == 0) (cond (y8.Kind == 0) (cond (y10.Kind == 0) ((Zax a0.E).bind fun y22 => cond (y22 == 1) ((Gl a0.I).bind fun y23 => cond (y23 == 1) ((Gn).bind fun y24 => cond y24 (some false) ((Gm).bind fun y25 => cond y25 (some false) ((K7).bind fun y26 => some (cond (cond (cond (cond (cond (cond (cond ((IntKind.i64.wrap (y6.1 + y6.2)) == 0) (y8.Kind == 0) false) (y10.Kind == 0) false) (y22 == 1) false) (y23 == 1) false) (!y24) false) (!y25) false) y26 false)))) (some false)) (some false)) (some false)) (some false)) (some false)).bind fun (z16 : Bool) => some z16)
end Go.Proofs.YtgpaglmhkklneaaGreat
