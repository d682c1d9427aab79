/- Part RD of this seat's mirrors: functions of the seat's program, and the plain functions that they are; each theorem bears its own conditions. -/
import Derived.Test.YtgijkjifiekkmaaH25
namespace Go.Proofs.Ytgijkjifiekkmaa
open Go.RowKit
set_option linter.unusedVariables false
set_option linter.unusedSimpArgs false
set_option maxRecDepth 100000
set_option maxHeartbeats 4000000
noncomputable def Zw (a0 : (List Int)) (a1 : Int) : Option Int :=
 (Xq a0 a1).bind fun x5 => (Xq a0 (IntKind.i64.wrap (a1 + 1))).bind fun x6 => (Xq a0 (IntKind.i64.wrap (a1 + 2))).bind fun x7 => (Xq a0 (IntKind.i64.wrap (a1 + 3))).bind fun x8 => some (IntKind.i64.wrap (U6 .i64 (IntKind.i64.wrap (U6 .i64 (IntKind.i64.wrap (U6 .i64 (IntKind.i64.wrap x5) (IntKind.i64.wrap ((IntKind.i64.wrap x6) * 2 ^ min (Int.toNat 8) 64)))) (IntKind.i64.wrap ((IntKind.i64.wrap x7) * 2 ^ min (Int.toNat 16) 64)))) (IntKind.i64.wrap ((IntKind.i64.wrap x8) * 2 ^ min (Int.toNat 24) 64))))
noncomputable def Yl (a0 : Int) : Option Int :=
 some (IntKind.i64.wrap ((IntKind.i64.wrap (Int.tdiv (IntKind.i64.wrap ((IntKind.i64.wrap (4 * (IntKind.i64.wrap (a0 + 1)))) + 7)) 8)) * 8))
noncomputable def Y4 (a0 : (List Int)) (y2 : Int) (s0_ : (Int × (List Int))) : Option ((Int × (List Int)) ⊕ (Unit ⊕ (List Int))) :=
 cond (decide (s0_.1 < (IntKind.i64.wrap (y2 + 1)))) ((Zw a0 (IntKind.i64.wrap (4 * (IntKind.i64.wrap (s0_.1 + 1))))).bind fun y6 => cond (decide (65536 < y6)) (some (.inr (.inl ()))) ((X4 8 s0_.2 ([y6] : List Int)).bind fun l7 => some (.inl ((IntKind.i64.wrap (s0_.1 + 1)), l7)))) (some (.inr (.inr s0_.2)))
noncomputable def Y5 (l14 : (List Int)) (s1_ : Int) : Option (Int ⊕ (Unit ⊕ Unit)) :=
 cond (decide (s1_ < (l14.length : Int))) ((Xq l14 s1_).bind fun x16 => cond (x16 != 0) (some (.inr (.inl ()))) (some (.inl (IntKind.i64.wrap (s1_ + 1))))) (some (.inr (.inr ())))
noncomputable def Qx (a0 : (List Int)) : Option ((List Int) × Int) :=
 cond (decide ((a0.length : Int) < 4)) (some (([] : (List Int)), 4)) ((Zw a0 0).bind fun y2 => cond (decide (16 < (IntKind.i64.wrap (y2 + 1)))) (some (([] : (List Int)), 3)) ((Yl (IntKind.i64.wrap (y2 + 1))).bind fun y4 => cond (decide ((a0.length : Int) < y4)) (some (([] : (List Int)), 4)) ((Zj (Y4 a0 y2) (0, ([] : List Int))).bind fun (z10 : (Unit ⊕ (List Int))) => match z10 with | .inl z10 => some (([] : (List Int)), 3) | .inr z10 => (Yl (IntKind.i64.wrap (y2 + 1))).bind fun y13 => (Jd a0 (IntKind.i64.wrap (4 * (IntKind.i64.wrap ((IntKind.i64.wrap (y2 + 1)) + 1)))) y13).bind fun l14 => (Zj (Y5 l14) 0).bind fun (z19 : (Unit ⊕ Unit)) => match z19 with | .inl z19 => some (([] : (List Int)), 5) | .inr z19 => some (z10, 0))))
noncomputable def Qd (a0 : (Arr Int 8)) (s0_ : (Int × Int)) : Option ((Int × Int) ⊕ Int) :=
 cond (decide (s0_.2 < 8)) ((Xq a0.1 s0_.2).bind fun x1 => (Ug (0 ≤ (IntKind.i64.wrap (8 * s0_.2)))).bind fun u2 => some (.inl ((IntKind.u64.wrap (U6 .u64 s0_.1 (IntKind.u64.wrap ((IntKind.u64.wrap x1) * 2 ^ min (Int.toNat (IntKind.i64.wrap (8 * s0_.2))) 64)))), (IntKind.i64.wrap (s0_.2 + 1))))) (some (.inr s0_.1))
noncomputable def Kk (a0 : (Arr Int 8)) : Option Int :=
 (Zj (Qd a0) (0, 0)).bind fun (z4 : Int) => some z4
noncomputable def Xi (a0 : (List Int)) (l2 : (List Int)) (s0_ : (Int × (List Int))) : Option ((Int × (List Int)) ⊕ (List Int)) :=
 cond (decide (s0_.1 < (l2.length : Int))) (((some (⟨[0, 0, 0, 0, 0, 0, 0, 0], rfl⟩ : (Arr Int 8)))).bind fun y5 => (Jd a0 (IntKind.i64.wrap (8 * s0_.1)) (a0.length : Int)).bind fun l11 => (Kk (Arr.cpy y5 l11)).bind fun y14 => (Xq s0_.2 s0_.1).bind fun x15 => some (.inl ((IntKind.i64.wrap (s0_.1 + 1)), (Zcb s0_.2 s0_.1 y14)))) (some (.inr s0_.2))
noncomputable def Xm (a0 : (List Int)) : Option ((List Int) × Bool) :=
 cond ((Int.tmod (a0.length : Int) 8) != 0) (some (([] : (List Int)), false)) ((V1 8 (IntKind.i64.wrap (Int.tdiv (a0.length : Int) 8)) (0 : Int)).bind fun l2 => (Zj (Xi a0 l2) (0, l2)).bind fun (z18 : (List Int)) => some (z18, true))
noncomputable def Yn (y2 : ((List Int) × Int)) (s0_ : (Int × Int)) : Option ((Int × Int) ⊕ Int) :=
 cond (decide (s0_.2 < (y2.1.length : Int))) ((Xq y2.1 s0_.2).bind fun x8 => some (.inl ((IntKind.i64.wrap (s0_.1 + x8)), (IntKind.i64.wrap (s0_.2 + 1))))) (some (.inr s0_.1))
noncomputable def Yo (y2 : ((List Int) × Int)) (s1_ : ((List Int) × Int × (List (List Int)))) : Option (((List Int) × Int × (List (List Int))) ⊕ (List (List Int))) :=
 cond (decide (s1_.2.1 < (y2.1.length : Int))) ((Xq y2.1 s1_.2.1).bind fun x12 => (Jd s1_.1 0 (IntKind.i64.wrap (8 * x12))).bind fun l15 => (Xm l15).bind fun y16 => (X4 24 s1_.2.2 ([y16.1] : List (List Int))).bind fun l18 => (Jd s1_.1 (IntKind.i64.wrap (8 * x12)) (s1_.1.length : Int)).bind fun l19 => some (.inl (l19, (IntKind.i64.wrap (s1_.2.1 + 1)), l18))) (some (.inr s1_.2.2))
noncomputable def Y3 (a0 : (List Int)) : Option ((List (List Int)) × Int) :=
 (Qx a0).bind fun y2 => cond (y2.2 != 0) (some (([] : (List (List Int))), y2.2)) ((Yl (y2.1.length : Int)).bind fun y5 => (Jd a0 y5 (a0.length : Int)).bind fun l6 => (Zj (Yn y2) (0, 0)).bind fun (z10 : Int) => cond (decide ((l6.length : Int) < (IntKind.i64.wrap (8 * z10)))) (some (([] : (List (List Int))), 4)) (cond (decide ((IntKind.i64.wrap (8 * z10)) < (l6.length : Int))) (some (([] : (List (List Int))), 6)) ((Zj (Yo y2) (l6, 0, ([] : List (List Int)))).bind fun (z21 : (List (List Int))) => some (z21, 0))))
noncomputable def Yu (a0 : (List Int)) (a1 : (List Int)) (s0_ : Int) : Option (Int ⊕ (Unit ⊕ Unit)) :=
 cond (decide (s0_ < (a0.length : Int))) ((Xq a0 s0_).bind fun x3 => (Xq a1 s0_).bind fun x4 => cond (x3 != x4) (some (.inr (.inl ()))) (some (.inl (IntKind.i64.wrap (s0_ + 1))))) (some (.inr (.inr ())))
noncomputable def Yy (a0 : (List Int)) (a1 : (List Int)) : Option Bool :=
 cond ((a0.length : Int) != (a1.length : Int)) (some false) ((Zj (Yu a0 a1) 0).bind fun (z7 : (Unit ⊕ Unit)) => match z7 with | .inl z7 => some false | .inr z7 => some true)
noncomputable def Yv (a0 : (List (List Int))) (a1 : (List (List Int))) (s0_ : Int) : Option (Int ⊕ (Unit ⊕ Unit)) :=
 cond (decide (s0_ < (a0.length : Int))) ((Xq a0 s0_).bind fun x4 => (Xq a1 s0_).bind fun x5 => (Yy x4 x5).bind fun y6 => cond (!y6) (some (.inr (.inl ()))) (some (.inl (IntKind.i64.wrap (s0_ + 1))))) (some (.inr (.inr ())))
noncomputable def Yz (a0 : (List (List Int))) (a1 : (List (List Int))) : Option Bool :=
 cond ((a0.length : Int) != (a1.length : Int)) (some false) ((Zj (Yv a0 a1) 0).bind fun (z9 : (Unit ⊕ Unit)) => match z9 with | .inl z9 => some false | .inr z9 => some true)
noncomputable def Zv (a0 : (List (List Int))) (s0_ : Int) : Option (Int ⊕ (Unit ⊕ Unit)) :=
 cond (decide (s0_ < (a0.length : Int))) ((Xq a0 s0_).bind fun x2 => cond (decide (65536 < (x2.length : Int))) (some (.inr (.inl ()))) (some (.inl (IntKind.i64.wrap (s0_ + 1))))) (some (.inr (.inr ())))
noncomputable def Yh (a0 : (List (List Int))) : Option Bool :=
 cond (cond (decide ((a0.length : Int) < 1)) true (decide (16 < (a0.length : Int)))) (some false) ((Zj (Zv a0) 0).bind fun (z5 : (Unit ⊕ Unit)) => match z5 with | .inl z5 => some false | .inr z5 => some true)
noncomputable def Yw (a0 : (List Int)) (a1 : Int) : Option (List Int) :=
 (X4 1 a0 ([(IntKind.u8.wrap a1), (IntKind.u8.wrap (Int.fdiv a1 (2 ^ min (Int.toNat 8) 64))), (IntKind.u8.wrap (Int.fdiv a1 (2 ^ min (Int.toNat 16) 64))), (IntKind.u8.wrap (Int.fdiv a1 (2 ^ min (Int.toNat 24) 64)))] : List Int)).bind fun l2 => some l2
noncomputable def Xh (a0 : Int) (s0_ : (Int × (Arr Int 8))) : Option ((Int × (Arr Int 8)) ⊕ (Arr Int 8)) :=
 cond (decide (s0_.1 < 8)) ((Ug (0 ≤ (IntKind.i64.wrap (8 * s0_.1)))).bind fun u9 => (Xq s0_.2.1 s0_.1).bind fun x10 => some (.inl ((IntKind.i64.wrap (s0_.1 + 1)), (Arr.put s0_.2 s0_.1 (IntKind.u8.wrap (Int.fdiv a0 (2 ^ min (Int.toNat (IntKind.i64.wrap (8 * s0_.1))) 64))))))) (some (.inr s0_.2))
noncomputable def Xw (a0 : Int) : Option (Arr Int 8) :=
 ((some (⟨[0, 0, 0, 0, 0, 0, 0, 0], rfl⟩ : (Arr Int 8)))).bind fun y3 => ((some (⟨[0, 0, 0, 0, 0, 0, 0, 0], rfl⟩ : (Arr Int 8)))).bind fun y7 => (Zj (Xh a0) (0, y7)).bind fun (z13 : (Arr Int 8)) => some z13
noncomputable def Qa (a0 : (List Int)) (s0_ : (Int × (List Int))) : Option ((Int × (List Int)) ⊕ (List Int)) :=
 cond (decide (s0_.1 < (a0.length : Int))) ((Xq a0 s0_.1).bind fun x4 => (Xw x4).bind fun y9 => ((some (⟨[0, 0, 0, 0, 0, 0, 0, 0], rfl⟩ : (Arr Int 8)))).bind fun y10 => (X4 1 s0_.2 y9.1).bind fun l15 => some (.inl ((IntKind.i64.wrap (s0_.1 + 1)), l15))) (some (.inr s0_.2))
noncomputable def X9 (a0 : (List Int)) : Option (List Int) :=
 (V1 1 (IntKind.i64.wrap (8 * (a0.length : Int))) (0 : Int)).bind fun l2 => (Zj (Qa a0) (0, ([] : List Int))).bind fun (z17 : (List Int)) => some z17
noncomputable def Xa (a0 : (List (List Int))) (s0_ : (Int × (List Int))) : Option ((Int × (List Int)) ⊕ (List Int)) :=
 cond (decide (s0_.1 < (a0.length : Int))) ((Xq a0 s0_.1).bind fun x6 => (Yw s0_.2 (x6.length : Int)).bind fun y7 => some (.inl ((IntKind.i64.wrap (s0_.1 + 1)), y7))) (some (.inr s0_.2))
noncomputable def Qc (a0 : (List (List Int))) (s1_ : (List Int)) : Option ((List Int) ⊕ (List Int)) :=
 (Yl (a0.length : Int)).bind fun y11 => cond (decide ((s1_.length : Int) < y11)) ((X4 1 s1_ ([0] : List Int)).bind fun l12 => some (.inl l12)) (some (.inr s1_))
noncomputable def Xb (a0 : (List (List Int))) (s2_ : (Int × (List Int))) : Option ((Int × (List Int)) ⊕ (List Int)) :=
 cond (decide (s2_.1 < (a0.length : Int))) ((Xq a0 s2_.1).bind fun x16 => (X9 x16).bind fun y17 => (X4 1 s2_.2 y17).bind fun l18 => some (.inl ((IntKind.i64.wrap (s2_.1 + 1)), l18))) (some (.inr s2_.2))
noncomputable def Yr (a0 : (List (List Int))) : Option ((List Int) × Bool) :=
 (Yh a0).bind fun y2 => cond (!y2) (some (([] : (List Int)), false)) ((Yw ([] : (List Int)) (IntKind.i64.wrap ((a0.length : Int) - 1))).bind fun y4 => (Zj (Xa a0) (0, y4)).bind fun (z9 : (List Int)) => (Zj (Qc a0) z9).bind fun (z14 : (List Int)) => (Zj (Xb a0) (0, z14)).bind fun (z20 : (List Int)) => some (z20, true))
noncomputable def Qi (a0 : (List Int)) (a1 : (List Int)) (s0_ : Int) : Option (Int ⊕ (Unit ⊕ Unit)) :=
 cond (decide (s0_ < (a0.length : Int))) ((Xq a0 s0_).bind fun x3 => (Xq a1 s0_).bind fun x4 => cond (x3 != x4) (some (.inr (.inl ()))) (some (.inl (IntKind.i64.wrap (s0_ + 1))))) (some (.inr (.inr ())))
noncomputable def Yg (a0 : (List Int)) (a1 : (List Int)) : Option Bool :=
 cond ((a0.length : Int) != (a1.length : Int)) (some false) ((Zj (Qi a0 a1) 0).bind fun (z7 : (Unit ⊕ Unit)) => match z7 with | .inl z7 => some false | .inr z7 => some true)
noncomputable def Ym  : Option Bool :=
 (Yr ([([7] : List Int)] : List (List Int))).bind fun y2 => (Y3 y2.1).bind fun y4 => (cond y2.2 ((Yg y2.1 ([0, 0, 0, 0, 1, 0, 0, 0, 7, 0, 0, 0, 0, 0, 0, 0] : List Int)).bind fun y10 => cond y10 (cond (y4.2 == 0) ((Yz y4.1 ([([7] : List Int)] : List (List Int))).bind fun y11 => some (cond (cond (cond y2.2 y10 false) (y4.2 == 0) false) y11 false)) (some false)) (some false)) (some false)).bind fun (z7 : Bool) => some z7
noncomputable def Z4 (s0_ : (Int × Int × (List Int))) : Option ((Int × Int × (List Int)) ⊕ (List Int)) :=
 cond (decide (s0_.2.1 < 4)) ((X4 1 s0_.2.2 ([(IntKind.u8.wrap (Int.tmod s0_.1 256))] : List Int)).bind fun l2 => some (.inl ((IntKind.i64.wrap (Int.tdiv s0_.1 256)), (IntKind.i64.wrap (s0_.2.1 + 1)), l2))) (some (.inr s0_.2.2))
noncomputable def Zq (a0 : Int) : Option (List Int) :=
 (Zj (Z4) (a0, 0, ([] : List Int))).bind fun (z4 : (List Int)) => some z4
noncomputable def Z5 (s0_ : (Int × Int × (Arr Int 8))) : Option ((Int × Int × (Arr Int 8)) ⊕ (Arr Int 8)) :=
 cond (decide (s0_.2.1 < 8)) ((Xq s0_.2.2.1 s0_.2.1).bind fun x15 => some (.inl ((IntKind.u64.wrap (Int.tdiv s0_.1 256)), (IntKind.i64.wrap (s0_.2.1 + 1)), (Arr.put s0_.2.2 s0_.2.1 (IntKind.u8.wrap (Int.tmod s0_.1 256)))))) (some (.inr s0_.2.2))
noncomputable def Ya (a0 : Int) : Option (Arr Int 8) :=
 ((some (⟨[0, 0, 0, 0, 0, 0, 0, 0], rfl⟩ : (Arr Int 8)))).bind fun y3 => ((some (⟨[0, 0, 0, 0, 0, 0, 0, 0], rfl⟩ : (Arr Int 8)))).bind fun y9 => (Zj (Z5) (a0, 0, y9)).bind fun (z18 : (Arr Int 8)) => some z18
noncomputable def Yt (a0 : (List Int)) (s0_ : (Int × (List Int))) : Option ((Int × (List Int)) ⊕ (List Int)) :=
 cond (decide (s0_.1 < (a0.length : Int))) ((Xq a0 s0_.1).bind fun x6 => (Ya x6).bind fun y7 => ((some (⟨[0, 0, 0, 0, 0, 0, 0, 0], rfl⟩ : (Arr Int 8)))).bind fun y8 => (X4 1 s0_.2 y7.1).bind fun l13 => some (.inl ((IntKind.i64.wrap (s0_.1 + 1)), l13))) (some (.inr s0_.2))
noncomputable def Yf (a0 : (List Int)) : Option (List Int) :=
 (Zj (Yt a0) (0, ([] : List Int))).bind fun (z15 : (List Int)) => some z15
noncomputable def Zo (a0 : (List (List Int))) (s0_ : (Int × (List Int))) : Option ((Int × (List Int)) ⊕ (Unit ⊕ (List Int))) :=
 cond (decide (s0_.1 < (a0.length : Int))) ((Xq a0 s0_.1).bind fun x4 => cond (decide (65536 < (x4.length : Int))) (some (.inr (.inl ()))) ((Xq a0 s0_.1).bind fun x5 => (Zq (x5.length : Int)).bind fun y6 => (X4 1 s0_.2 y6).bind fun l7 => some (.inl ((IntKind.i64.wrap (s0_.1 + 1)), l7)))) (some (.inr (.inr s0_.2)))
noncomputable def Zy (s1_ : (List Int)) : Option ((List Int) ⊕ (List Int)) :=
 cond (decide (0 < (Int.tmod (s1_.length : Int) 8))) ((X4 1 s1_ ([0] : List Int)).bind fun l11 => some (.inl l11)) (some (.inr s1_))
noncomputable def Z6 (a0 : (List (List Int))) (s2_ : (Int × (List Int))) : Option ((Int × (List Int)) ⊕ (List Int)) :=
 cond (decide (s2_.1 < (a0.length : Int))) ((Xq a0 s2_.1).bind fun x14 => (Yf x14).bind fun y15 => (X4 1 s2_.2 y15).bind fun l16 => some (.inl ((IntKind.i64.wrap (s2_.1 + 1)), l16))) (some (.inr s2_.2))
noncomputable def Yb (a0 : (List (List Int))) : Option ((List Int) × Bool) :=
 cond (cond ((a0.length : Int) == 0) true (decide (16 < (a0.length : Int)))) (some (([] : (List Int)), false)) ((Zq (IntKind.i64.wrap ((a0.length : Int) - 1))).bind fun y2 => (Zj (Zo a0) (0, y2)).bind fun (z10 : (Unit ⊕ (List Int))) => match z10 with | .inl z10 => some (([] : (List Int)), false) | .inr z10 => (Zj (Zy) z10).bind fun (z13 : (List Int)) => (Zj (Z6 a0) (0, z13)).bind fun (z18 : (List Int)) => some (z18, true))
noncomputable def Yq (a0 : (List (List Int))) : Option Bool :=
 (Yr a0).bind fun y2 => (Yb a0).bind fun y4 => (Yg y2.1 y4.1).bind fun y6 => cond (cond (!y6) true (y2.2 != y4.2)) (some false) (cond (!y2.2) ((Ym).bind fun y8 => some y8) ((Y3 y2.1).bind fun y10 => (cond (y10.2 == 0) ((Yz y10.1 a0).bind fun y16 => cond y16 ((Ym).bind fun y17 => some (cond (cond (y10.2 == 0) y16 false) y17 false)) (some false)) (some false)).bind fun (z13 : Bool) => some z13))
end Go.Proofs.Ytgijkjifiekkmaa
