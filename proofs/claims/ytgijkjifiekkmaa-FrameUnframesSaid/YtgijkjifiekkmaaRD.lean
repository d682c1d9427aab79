/- Part RD of this seat's mirrors: functions of the seat's program, and the plain functions that they are; each theorem bears its own conditions. -/
import Derived.Test.YtgijkjifiekkmaaH25
namespace Go.Proofs.Ytgijkjifiekkmaa
open Go.RowKit
set_option linter.unusedVariables false
set_option linter.unusedSimpArgs false
set_option maxRecDepth 100000
set_option maxHeartbeats 4000000
noncomputable def Z4 (a0 : (List Int)) (a1 : Int) : Option Int :=
 (Xy a0 a1).bind fun x5 => (Xy a0 (IntKind.i64.wrap (a1 + 1))).bind fun x6 => (Xy a0 (IntKind.i64.wrap (a1 + 2))).bind fun x7 => (Xy a0 (IntKind.i64.wrap (a1 + 3))).bind fun x8 => some (IntKind.i64.wrap (Uw .i64 (IntKind.i64.wrap (Uw .i64 (IntKind.i64.wrap (Uw .i64 (IntKind.i64.wrap x5) (IntKind.i64.wrap ((IntKind.i64.wrap x6) * 2 ^ min (Int.toNat 8) 64)))) (IntKind.i64.wrap ((IntKind.i64.wrap x7) * 2 ^ min (Int.toNat 16) 64)))) (IntKind.i64.wrap ((IntKind.i64.wrap x8) * 2 ^ min (Int.toNat 24) 64))))
noncomputable def Yo (a0 : Int) : Option Int :=
 some (IntKind.i64.wrap ((IntKind.i64.wrap (Int.tdiv (IntKind.i64.wrap ((IntKind.i64.wrap (4 * (IntKind.i64.wrap (a0 + 1)))) + 7)) 8)) * 8))
noncomputable def Y3 (a0 : (List Int)) (y2 : Int) (s0_ : (Int × (List Int))) : Option ((Int × (List Int)) ⊕ (Unit ⊕ (List Int))) :=
 cond (decide (s0_.1 < (IntKind.i64.wrap (y2 + 1)))) ((Z4 a0 (IntKind.i64.wrap (4 * (IntKind.i64.wrap (s0_.1 + 1))))).bind fun y6 => cond (decide (65536 < y6)) (some (.inr (.inl ()))) ((Q8 8 s0_.2 ([y6] : List Int)).bind fun l7 => some (.inl ((IntKind.i64.wrap (s0_.1 + 1)), l7)))) (some (.inr (.inr s0_.2)))
noncomputable def Y4 (l14 : (List Int)) (s1_ : Int) : Option (Int ⊕ (Unit ⊕ Unit)) :=
 cond (decide (s1_ < (l14.length : Int))) ((Xy l14 s1_).bind fun x16 => cond (x16 != 0) (some (.inr (.inl ()))) (some (.inl (IntKind.i64.wrap (s1_ + 1))))) (some (.inr (.inr ())))
noncomputable def Qw (a0 : (List Int)) : Option ((List Int) × Int) :=
 cond (decide ((a0.length : Int) < 4)) (some (([] : (List Int)), 4)) ((Z4 a0 0).bind fun y2 => cond (decide (16 < (IntKind.i64.wrap (y2 + 1)))) (some (([] : (List Int)), 3)) ((Yo (IntKind.i64.wrap (y2 + 1))).bind fun y4 => cond (decide ((a0.length : Int) < y4)) (some (([] : (List Int)), 4)) ((Zj (Y3 a0 y2) (0, ([] : List Int))).bind fun (z10 : (Unit ⊕ (List Int))) => match z10 with | .inl z10 => some (([] : (List Int)), 3) | .inr z10 => (Yo (IntKind.i64.wrap (y2 + 1))).bind fun y13 => (Q3 a0 (IntKind.i64.wrap (4 * (IntKind.i64.wrap ((IntKind.i64.wrap (y2 + 1)) + 1)))) y13).bind fun l14 => (Zj (Y4 l14) 0).bind fun (z19 : (Unit ⊕ Unit)) => match z19 with | .inl z19 => some (([] : (List Int)), 5) | .inr z19 => some (z10, 0))))
noncomputable def Qb (a0 : (Arr Int 8)) (s0_ : (Int × Int)) : Option ((Int × Int) ⊕ Int) :=
 cond (decide (s0_.2 < 8)) ((Xy a0.1 s0_.2).bind fun x1 => (V9 (0 ≤ (IntKind.i64.wrap (8 * s0_.2)))).bind fun u2 => some (.inl ((IntKind.u64.wrap (Uw .u64 s0_.1 (IntKind.u64.wrap ((IntKind.u64.wrap x1) * 2 ^ min (Int.toNat (IntKind.i64.wrap (8 * s0_.2))) 64)))), (IntKind.i64.wrap (s0_.2 + 1))))) (some (.inr s0_.1))
noncomputable def Kl (a0 : (Arr Int 8)) : Option Int :=
 (Zj (Qb a0) (0, 0)).bind fun (z4 : Int) => some z4
noncomputable def Xi (a0 : (List Int)) (l2 : (List Int)) (s0_ : (Int × (List Int))) : Option ((Int × (List Int)) ⊕ (List Int)) :=
 cond (decide (s0_.1 < (l2.length : Int))) (((some (⟨[0, 0, 0, 0, 0, 0, 0, 0], rfl⟩ : (Arr Int 8)))).bind fun y5 => (Q3 a0 (IntKind.i64.wrap (8 * s0_.1)) (a0.length : Int)).bind fun l11 => (Kl (Arr.cpy y5 l11)).bind fun y14 => (Xy s0_.2 s0_.1).bind fun x15 => some (.inl ((IntKind.i64.wrap (s0_.1 + 1)), (Zcx s0_.2 s0_.1 y14)))) (some (.inr s0_.2))
noncomputable def Xm (a0 : (List Int)) : Option ((List Int) × Bool) :=
 cond ((Int.tmod (a0.length : Int) 8) != 0) (some (([] : (List Int)), false)) ((Vw 8 (IntKind.i64.wrap (Int.tdiv (a0.length : Int) 8)) (0 : Int)).bind fun l2 => (Zj (Xi a0 l2) (0, l2)).bind fun (z18 : (List Int)) => some (z18, true))
noncomputable def Yq (y2 : ((List Int) × Int)) (s0_ : (Int × Int)) : Option ((Int × Int) ⊕ Int) :=
 cond (decide (s0_.2 < (y2.1.length : Int))) ((Xy y2.1 s0_.2).bind fun x8 => some (.inl ((IntKind.i64.wrap (s0_.1 + x8)), (IntKind.i64.wrap (s0_.2 + 1))))) (some (.inr s0_.1))
noncomputable def Yr (y2 : ((List Int) × Int)) (s1_ : ((List Int) × Int × (List (List Int)))) : Option (((List Int) × Int × (List (List Int))) ⊕ (List (List Int))) :=
 cond (decide (s1_.2.1 < (y2.1.length : Int))) ((Xy y2.1 s1_.2.1).bind fun x12 => (Q3 s1_.1 0 (IntKind.i64.wrap (8 * x12))).bind fun l15 => (Xm l15).bind fun y16 => (Q8 24 s1_.2.2 ([y16.1] : List (List Int))).bind fun l18 => (Q3 s1_.1 (IntKind.i64.wrap (8 * x12)) (s1_.1.length : Int)).bind fun l19 => some (.inl (l19, (IntKind.i64.wrap (s1_.2.1 + 1)), l18))) (some (.inr s1_.2.2))
noncomputable def Y2 (a0 : (List Int)) : Option ((List (List Int)) × Int) :=
 (Qw a0).bind fun y2 => cond (y2.2 != 0) (some (([] : (List (List Int))), y2.2)) ((Yo (y2.1.length : Int)).bind fun y5 => (Q3 a0 y5 (a0.length : Int)).bind fun l6 => (Zj (Yq y2) (0, 0)).bind fun (z10 : Int) => cond (decide ((l6.length : Int) < (IntKind.i64.wrap (8 * z10)))) (some (([] : (List (List Int))), 4)) (cond (decide ((IntKind.i64.wrap (8 * z10)) < (l6.length : Int))) (some (([] : (List (List Int))), 6)) ((Zj (Yr y2) (l6, 0, ([] : List (List Int)))).bind fun (z21 : (List (List Int))) => some (z21, 0))))
noncomputable def Zu (a0 : (List Int)) (a1 : Int) (s0_ : (Int × Int)) : Option ((Int × Int) ⊕ Int) :=
 cond (decide (0 ≤ s0_.2)) ((Xy a0 (IntKind.i64.wrap (a1 + s0_.2))).bind fun x1 => some (.inl ((IntKind.i64.wrap ((IntKind.i64.wrap (256 * s0_.1)) + (IntKind.i64.wrap x1))), (IntKind.i64.wrap (s0_.2 - 1))))) (some (.inr s0_.1))
noncomputable def Ya (a0 : (List Int)) (a1 : Int) : Option Int :=
 (Zj (Zu a0 a1) (0, 3)).bind fun (z3 : Int) => some z3
noncomputable def Zp (a0 : (List Int)) (a1 : Int) (s0_ : (Int × Int)) : Option ((Int × Int) ⊕ Int) :=
 cond (decide (0 ≤ s0_.2)) ((Xy a0 (IntKind.i64.wrap (a1 + s0_.2))).bind fun x1 => some (.inl ((IntKind.u64.wrap ((IntKind.u64.wrap (s0_.1 * 256)) + (IntKind.u64.wrap x1))), (IntKind.i64.wrap (s0_.2 - 1))))) (some (.inr s0_.1))
noncomputable def X0 (a0 : (List Int)) (a1 : Int) : Option Int :=
 (Zj (Zp a0 a1) (0, 7)).bind fun (z3 : Int) => some z3
noncomputable def Yb (a0 : (List Int)) (s0_ : (Int × (List Int))) : Option ((Int × (List Int)) ⊕ (List Int)) :=
 cond (decide (s0_.1 < (a0.length : Int))) ((X0 a0 s0_.1).bind fun y1 => (Q8 8 s0_.2 ([y1] : List Int)).bind fun l2 => some (.inl ((IntKind.i64.wrap (s0_.1 + 8)), l2))) (some (.inr s0_.2))
noncomputable def Xa (a0 : (List Int)) : Option ((List Int) × Bool) :=
 cond (decide (0 < (Int.tmod (a0.length : Int) 8))) (some (([] : (List Int)), false)) ((Zj (Yb a0) (0, ([] : List Int))).bind fun (z4 : (List Int)) => some (z4, true))
noncomputable def Zy (a0 : (List Int)) (y2 : Int) (s0_ : Int) : Option (Int ⊕ (Unit ⊕ Unit)) :=
 cond (decide (s0_ < (IntKind.i64.wrap (y2 + 1)))) ((Ya a0 (IntKind.i64.wrap (4 + (IntKind.i64.wrap (4 * s0_))))).bind fun y6 => cond (decide (65536 < y6)) (some (.inr (.inl ()))) (some (.inl (IntKind.i64.wrap (s0_ + 1))))) (some (.inr (.inr ())))
noncomputable def Zz (a0 : (List Int)) (z3 : Int) (s1_ : Int) : Option (Int ⊕ (Unit ⊕ Unit)) :=
 cond (decide (s1_ < z3)) ((Xy a0 s1_).bind fun x11 => cond (x11 != 0) (some (.inr (.inl ()))) (some (.inl (IntKind.i64.wrap (s1_ + 1))))) (some (.inr (.inr ())))
noncomputable def Zv (a0 : (List Int)) (y2 : Int) (s2_ : (Int × Int × (List (List Int)))) : Option ((Int × Int × (List (List Int))) ⊕ (Unit ⊕ (Int × (List (List Int))))) :=
 cond (decide (s2_.2.1 < (IntKind.i64.wrap (y2 + 1)))) ((Ya a0 (IntKind.i64.wrap (4 + (IntKind.i64.wrap (4 * s2_.2.1))))).bind fun y16 => cond (decide ((IntKind.i64.wrap ((a0.length : Int) - s2_.1)) < (IntKind.i64.wrap (8 * y16)))) (some (.inr (.inl ()))) ((Q3 a0 s2_.1 (IntKind.i64.wrap (s2_.1 + (IntKind.i64.wrap (8 * y16))))).bind fun l19 => (Xa l19).bind fun y20 => (Q8 24 s2_.2.2 ([y20.1] : List (List Int))).bind fun l22 => some (.inl ((IntKind.i64.wrap (s2_.1 + (IntKind.i64.wrap (8 * y16)))), (IntKind.i64.wrap (s2_.2.1 + 1)), l22)))) (some (.inr (.inr (s2_.1, s2_.2.2))))
noncomputable def Yw (a0 : (List Int)) : Option ((List (List Int)) × Int) :=
 cond (decide ((a0.length : Int) < 4)) (some (([] : (List (List Int))), 4)) ((Ya a0 0).bind fun y2 => cond (decide (16 < (IntKind.i64.wrap (y2 + 1)))) (some (([] : (List (List Int))), 3)) ((cond (decide (0 < (Int.tmod (IntKind.i64.wrap (4 + (IntKind.i64.wrap (4 * (IntKind.i64.wrap (y2 + 1)))))) 8))) (some (IntKind.i64.wrap ((IntKind.i64.wrap (4 + (IntKind.i64.wrap (4 * (IntKind.i64.wrap (y2 + 1)))))) + 4))) (some (IntKind.i64.wrap (4 + (IntKind.i64.wrap (4 * (IntKind.i64.wrap (y2 + 1)))))))).bind fun (z3 : Int) => cond (decide ((a0.length : Int) < z3)) (some (([] : (List (List Int))), 4)) ((Zj (Zy a0 y2) 0).bind fun (z9 : (Unit ⊕ Unit)) => match z9 with | .inl z9 => some (([] : (List (List Int))), 3) | .inr z9 => (Zj (Zz a0 z3) (IntKind.i64.wrap (4 + (IntKind.i64.wrap (4 * (IntKind.i64.wrap (y2 + 1))))))).bind fun (z14 : (Unit ⊕ Unit)) => match z14 with | .inl z14 => some (([] : (List (List Int))), 5) | .inr z14 => (Zj (Zv a0 y2) (z3, 0, ([] : List (List Int)))).bind fun (z25 : (Unit ⊕ (Int × (List (List Int))))) => match z25 with | .inl z25 => some (([] : (List (List Int))), 4) | .inr z25 => cond (decide (z25.1 < (a0.length : Int))) (some (([] : (List (List Int))), 6)) (some (z25.2, 0)))))
noncomputable def Yu (a0 : (List Int)) (a1 : (List Int)) (s0_ : Int) : Option (Int ⊕ (Unit ⊕ Unit)) :=
 cond (decide (s0_ < (a0.length : Int))) ((Xy a0 s0_).bind fun x3 => (Xy a1 s0_).bind fun x4 => cond (x3 != x4) (some (.inr (.inl ()))) (some (.inl (IntKind.i64.wrap (s0_ + 1))))) (some (.inr (.inr ())))
noncomputable def Yz (a0 : (List Int)) (a1 : (List Int)) : Option Bool :=
 cond ((a0.length : Int) != (a1.length : Int)) (some false) ((Zj (Yu a0 a1) 0).bind fun (z7 : (Unit ⊕ Unit)) => match z7 with | .inl z7 => some false | .inr z7 => some true)
noncomputable def Yv (a0 : (List (List Int))) (a1 : (List (List Int))) (s0_ : Int) : Option (Int ⊕ (Unit ⊕ Unit)) :=
 cond (decide (s0_ < (a0.length : Int))) ((Xy a0 s0_).bind fun x4 => (Xy a1 s0_).bind fun x5 => (Yz x4 x5).bind fun y6 => cond (!y6) (some (.inr (.inl ()))) (some (.inl (IntKind.i64.wrap (s0_ + 1))))) (some (.inr (.inr ())))
noncomputable def Y0 (a0 : (List (List Int))) (a1 : (List (List Int))) : Option Bool :=
 cond ((a0.length : Int) != (a1.length : Int)) (some false) ((Zj (Yv a0 a1) 0).bind fun (z9 : (Unit ⊕ Unit)) => match z9 with | .inl z9 => some false | .inr z9 => some true)
noncomputable def Yx (a0 : (List (List Int))) (s0_ : Int) : Option (Int ⊕ (Unit ⊕ Unit)) :=
 cond (decide (s0_ < (a0.length : Int))) ((Xy a0 s0_).bind fun x2 => cond (decide (65536 < (x2.length : Int))) (some (.inr (.inl ()))) (some (.inl (IntKind.i64.wrap (s0_ + 1))))) (some (.inr (.inr ())))
noncomputable def Xl (a0 : (List (List Int))) : Option Bool :=
 cond (cond (decide ((a0.length : Int) < 1)) true (decide (16 < (a0.length : Int)))) (some false) ((Zj (Yx a0) 0).bind fun (z5 : (Unit ⊕ Unit)) => match z5 with | .inl z5 => some false | .inr z5 => some true)
noncomputable def Yy (a0 : (List Int)) (a1 : Int) : Option (List Int) :=
 (Q8 1 a0 ([(IntKind.u8.wrap a1), (IntKind.u8.wrap (Int.fdiv a1 (2 ^ min (Int.toNat 8) 64))), (IntKind.u8.wrap (Int.fdiv a1 (2 ^ min (Int.toNat 16) 64))), (IntKind.u8.wrap (Int.fdiv a1 (2 ^ min (Int.toNat 24) 64)))] : List Int)).bind fun l2 => some l2
noncomputable def Xh (a0 : Int) (s0_ : (Int × (Arr Int 8))) : Option ((Int × (Arr Int 8)) ⊕ (Arr Int 8)) :=
 cond (decide (s0_.1 < 8)) ((V9 (0 ≤ (IntKind.i64.wrap (8 * s0_.1)))).bind fun u9 => (Xy s0_.2.1 s0_.1).bind fun x10 => some (.inl ((IntKind.i64.wrap (s0_.1 + 1)), (Arr.put s0_.2 s0_.1 (IntKind.u8.wrap (Int.fdiv a0 (2 ^ min (Int.toNat (IntKind.i64.wrap (8 * s0_.1))) 64))))))) (some (.inr s0_.2))
noncomputable def Xw (a0 : Int) : Option (Arr Int 8) :=
 ((some (⟨[0, 0, 0, 0, 0, 0, 0, 0], rfl⟩ : (Arr Int 8)))).bind fun y3 => ((some (⟨[0, 0, 0, 0, 0, 0, 0, 0], rfl⟩ : (Arr Int 8)))).bind fun y7 => (Zj (Xh a0) (0, y7)).bind fun (z13 : (Arr Int 8)) => some z13
noncomputable def X8 (a0 : (List Int)) (s0_ : (Int × (List Int))) : Option ((Int × (List Int)) ⊕ (List Int)) :=
 cond (decide (s0_.1 < (a0.length : Int))) ((Xy a0 s0_.1).bind fun x4 => (Xw x4).bind fun y9 => ((some (⟨[0, 0, 0, 0, 0, 0, 0, 0], rfl⟩ : (Arr Int 8)))).bind fun y10 => (Q8 1 s0_.2 y9.1).bind fun l15 => some (.inl ((IntKind.i64.wrap (s0_.1 + 1)), l15))) (some (.inr s0_.2))
noncomputable def X7 (a0 : (List Int)) : Option (List Int) :=
 (Vw 1 (IntKind.i64.wrap (8 * (a0.length : Int))) (0 : Int)).bind fun l2 => (Zj (X8 a0) (0, ([] : List Int))).bind fun (z17 : (List Int)) => some z17
noncomputable def Y8 (a0 : (List (List Int))) (s0_ : (Int × (List Int))) : Option ((Int × (List Int)) ⊕ (List Int)) :=
 cond (decide (s0_.1 < (a0.length : Int))) ((Xy a0 s0_.1).bind fun x6 => (Yy s0_.2 (x6.length : Int)).bind fun y7 => some (.inl ((IntKind.i64.wrap (s0_.1 + 1)), y7))) (some (.inr s0_.2))
noncomputable def Qa (a0 : (List (List Int))) (s1_ : (List Int)) : Option ((List Int) ⊕ (List Int)) :=
 (Yo (a0.length : Int)).bind fun y11 => cond (decide ((s1_.length : Int) < y11)) ((Q8 1 s1_ ([0] : List Int)).bind fun l12 => some (.inl l12)) (some (.inr s1_))
noncomputable def Y9 (a0 : (List (List Int))) (s2_ : (Int × (List Int))) : Option ((Int × (List Int)) ⊕ (List Int)) :=
 cond (decide (s2_.1 < (a0.length : Int))) ((Xy a0 s2_.1).bind fun x16 => (X7 x16).bind fun y17 => (Q8 1 s2_.2 y17).bind fun l18 => some (.inl ((IntKind.i64.wrap (s2_.1 + 1)), l18))) (some (.inr s2_.2))
noncomputable def Xq (a0 : (List (List Int))) : Option ((List Int) × Bool) :=
 (Xl a0).bind fun y2 => cond (!y2) (some (([] : (List Int)), false)) ((Yy ([] : (List Int)) (IntKind.i64.wrap ((a0.length : Int) - 1))).bind fun y4 => (Zj (Y8 a0) (0, y4)).bind fun (z9 : (List Int)) => (Zj (Qa a0) z9).bind fun (z14 : (List Int)) => (Zj (Y9 a0) (0, z14)).bind fun (z20 : (List Int)) => some (z20, true))
noncomputable def Qf (a0 : (List Int)) (a1 : (List Int)) (s0_ : Int) : Option (Int ⊕ (Unit ⊕ Unit)) :=
 cond (decide (s0_ < (a0.length : Int))) ((Xy a0 s0_).bind fun x3 => (Xy a1 s0_).bind fun x4 => cond (x3 != x4) (some (.inr (.inl ()))) (some (.inl (IntKind.i64.wrap (s0_ + 1))))) (some (.inr (.inr ())))
noncomputable def Yk (a0 : (List Int)) (a1 : (List Int)) : Option Bool :=
 cond ((a0.length : Int) != (a1.length : Int)) (some false) ((Zj (Qf a0 a1) 0).bind fun (z7 : (Unit ⊕ Unit)) => match z7 with | .inl z7 => some false | .inr z7 => some true)
noncomputable def Yp  : Option Bool :=
 (Xq ([([7] : List Int)] : List (List Int))).bind fun y2 => (Y2 y2.1).bind fun y4 => (cond y2.2 ((Yk y2.1 ([0, 0, 0, 0, 1, 0, 0, 0, 7, 0, 0, 0, 0, 0, 0, 0] : List Int)).bind fun y10 => cond y10 (cond (y4.2 == 0) ((Y0 y4.1 ([([7] : List Int)] : List (List Int))).bind fun y11 => some (cond (cond (cond y2.2 y10 false) (y4.2 == 0) false) y11 false)) (some false)) (some false)) (some false)).bind fun (z7 : Bool) => some z7
noncomputable def Yj (a0 : (List Int)) : Option Bool :=
 (Y2 a0).bind fun y2 => (Yw a0).bind fun y4 => (Y0 y2.1 y4.1).bind fun y6 => cond (cond (!y6) true (y2.2 != y4.2)) (some false) (cond (y2.2 != 0) ((Yp).bind fun y8 => some y8) ((Xq y2.1).bind fun y10 => (cond y10.2 ((Yk y10.1 a0).bind fun y16 => cond y16 ((Yp).bind fun y17 => some (cond (cond y10.2 y16 false) y17 false)) (some false)) (some false)).bind fun (z13 : Bool) => some z13))
end Go.Proofs.Ytgijkjifiekkmaa
