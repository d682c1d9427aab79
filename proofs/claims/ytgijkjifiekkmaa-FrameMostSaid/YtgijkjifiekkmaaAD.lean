/- Part AD of this seat's mirrors: functions of the seat's program, and the plain functions that they are; each theorem bears its own conditions. -/
import Derived.Test.YtgijkjifiekkmaaH14
namespace Go.Proofs.Ytgijkjifiekkmaa
open Go.RowKit
set_option linter.unusedVariables false
set_option linter.unusedSimpArgs false
set_option maxRecDepth 100000
noncomputable def m_frame_frameable_L0 (a0 : (List (List Int))) (s0_ : Int) : Option (Int ⊕ (Unit ⊕ Unit)) :=
  cond (decide (s0_ < (a0.length : Int))) ((getI a0 s0_).bind fun x2 => cond (decide (65536 < (x2.length : Int))) (some (.inr (.inl ()))) (some (.inl (IntKind.i64.wrap (s0_ + 1))))) (some (.inr (.inr ())))

noncomputable def m_frame_frameable (a0 : (List (List Int))) : Option Bool :=
  cond (cond (decide ((a0.length : Int) < 1)) true (decide (16 < (a0.length : Int)))) (some false) ((runLoop (m_frame_frameable_L0 a0) 0).bind fun (z5 : (Unit ⊕ Unit)) => match z5 with | .inl z5 => some false | .inr z5 => some true)

noncomputable def m_frame_number (a0 : (List Int)) (a1 : Int) : Option (List Int) :=
  (appI 1 a0 ([(IntKind.u8.wrap a1), (IntKind.u8.wrap (Int.fdiv a1 (2 ^ min (Int.toNat 8) 64))), (IntKind.u8.wrap (Int.fdiv a1 (2 ^ min (Int.toNat 16) 64))), (IntKind.u8.wrap (Int.fdiv a1 (2 ^ min (Int.toNat 24) 64)))] : List Int)).bind fun l2 => some l2

noncomputable def m_frame_headLen (a0 : Int) : Option Int :=
  some (IntKind.i64.wrap ((IntKind.i64.wrap (Int.tdiv (IntKind.i64.wrap ((IntKind.i64.wrap (4 * (IntKind.i64.wrap (a0 + 1)))) + 7)) 8)) * 8))

noncomputable def m_word_Bytes_L0 (a0 : Int) (s0_ : (Int × (Arr Int 8))) : Option ((Int × (Arr Int 8)) ⊕ (Arr Int 8)) :=
  cond (decide (s0_.1 < 8)) ((guardI (0 ≤ (IntKind.i64.wrap (8 * s0_.1)))).bind fun u9 => (getI s0_.2.1 s0_.1).bind fun x10 => some (.inl ((IntKind.i64.wrap (s0_.1 + 1)), (Arr.put s0_.2 s0_.1 (IntKind.u8.wrap (Int.fdiv a0 (2 ^ min (Int.toNat (IntKind.i64.wrap (8 * s0_.1))) 64))))))) (some (.inr s0_.2))

noncomputable def m_word_Bytes (a0 : Int) : Option (Arr Int 8) :=
  ((some (⟨[0, 0, 0, 0, 0, 0, 0, 0], rfl⟩ : (Arr Int 8)))).bind fun y3 => ((some (⟨[0, 0, 0, 0, 0, 0, 0, 0], rfl⟩ : (Arr Int 8)))).bind fun y7 => (runLoop (m_word_Bytes_L0 a0) (0, y7)).bind fun (z13 : (Arr Int 8)) => some z13

noncomputable def m_word_Flat_L0 (a0 : (List Int)) (s0_ : (Int × (List Int))) : Option ((Int × (List Int)) ⊕ (List Int)) :=
  cond (decide (s0_.1 < (a0.length : Int))) ((getI a0 s0_.1).bind fun x4 => (m_word_Bytes x4).bind fun y9 => ((some (⟨[0, 0, 0, 0, 0, 0, 0, 0], rfl⟩ : (Arr Int 8)))).bind fun y10 => (appI 1 s0_.2 y9.1).bind fun l15 => some (.inl ((IntKind.i64.wrap (s0_.1 + 1)), l15))) (some (.inr s0_.2))

noncomputable def m_word_Flat (a0 : (List Int)) : Option (List Int) :=
  (makeI 1 (IntKind.i64.wrap (8 * (a0.length : Int))) (0 : Int)).bind fun l2 => (runLoop (m_word_Flat_L0 a0) (0, ([] : List Int))).bind fun (z17 : (List Int)) => some z17

noncomputable def m_frame_Frame_L0 (a0 : (List (List Int))) (s0_ : (Int × (List Int))) : Option ((Int × (List Int)) ⊕ (List Int)) :=
  cond (decide (s0_.1 < (a0.length : Int))) ((getI a0 s0_.1).bind fun x6 => (m_frame_number s0_.2 (x6.length : Int)).bind fun y7 => some (.inl ((IntKind.i64.wrap (s0_.1 + 1)), y7))) (some (.inr s0_.2))

noncomputable def m_frame_Frame_L1 (a0 : (List (List Int))) (s1_ : (List Int)) : Option ((List Int) ⊕ (List Int)) :=
  (m_frame_headLen (a0.length : Int)).bind fun y11 => cond (decide ((s1_.length : Int) < y11)) ((appI 1 s1_ ([0] : List Int)).bind fun l12 => some (.inl l12)) (some (.inr s1_))

noncomputable def m_frame_Frame_L2 (a0 : (List (List Int))) (s2_ : (Int × (List Int))) : Option ((Int × (List Int)) ⊕ (List Int)) :=
  cond (decide (s2_.1 < (a0.length : Int))) ((getI a0 s2_.1).bind fun x16 => (m_word_Flat x16).bind fun y17 => (appI 1 s2_.2 y17).bind fun l18 => some (.inl ((IntKind.i64.wrap (s2_.1 + 1)), l18))) (some (.inr s2_.2))

noncomputable def m_frame_Frame (a0 : (List (List Int))) : Option ((List Int) × Bool) :=
  (m_frame_frameable a0).bind fun y2 => cond (!y2) (some (([] : (List Int)), false)) ((m_frame_number ([] : (List Int)) (IntKind.i64.wrap ((a0.length : Int) - 1))).bind fun y4 => (runLoop (m_frame_Frame_L0 a0) (0, y4)).bind fun (z9 : (List Int)) => (runLoop (m_frame_Frame_L1 a0) z9).bind fun (z14 : (List Int)) => (runLoop (m_frame_Frame_L2 a0) (0, z14)).bind fun (z20 : (List Int)) => some (z20, true))

noncomputable def m_centoref01_SameBytes_L0 (a0 : (List Int)) (a1 : (List Int)) (s0_ : Int) : Option (Int ⊕ (Unit ⊕ Unit)) :=
  cond (decide (s0_ < (a0.length : Int))) ((getI a0 s0_).bind fun x3 => (getI a1 s0_).bind fun x4 => cond (x3 != x4) (some (.inr (.inl ()))) (some (.inl (IntKind.i64.wrap (s0_ + 1))))) (some (.inr (.inr ())))

noncomputable def m_centoref01_SameBytes (a0 : (List Int)) (a1 : (List Int)) : Option Bool :=
  cond ((a0.length : Int) != (a1.length : Int)) (some false) ((runLoop (m_centoref01_SameBytes_L0 a0 a1) 0).bind fun (z7 : (Unit ⊕ Unit)) => match z7 with | .inl z7 => some false | .inr z7 => some true)

noncomputable def m_frame_numberAt (a0 : (List Int)) (a1 : Int) : Option Int :=
  (getI a0 a1).bind fun x5 => (getI a0 (IntKind.i64.wrap (a1 + 1))).bind fun x6 => (getI a0 (IntKind.i64.wrap (a1 + 2))).bind fun x7 => (getI a0 (IntKind.i64.wrap (a1 + 3))).bind fun x8 => some (IntKind.i64.wrap (lorI .i64 (IntKind.i64.wrap (lorI .i64 (IntKind.i64.wrap (lorI .i64 (IntKind.i64.wrap x5) (IntKind.i64.wrap ((IntKind.i64.wrap x6) * 2 ^ min (Int.toNat 8) 64)))) (IntKind.i64.wrap ((IntKind.i64.wrap x7) * 2 ^ min (Int.toNat 16) 64)))) (IntKind.i64.wrap ((IntKind.i64.wrap x8) * 2 ^ min (Int.toNat 24) 64))))

noncomputable def m_frame_head_L0 (a0 : (List Int)) (y2 : Int) (s0_ : (Int × (List Int))) : Option ((Int × (List Int)) ⊕ (Unit ⊕ (List Int))) :=
  cond (decide (s0_.1 < (IntKind.i64.wrap (y2 + 1)))) ((m_frame_numberAt a0 (IntKind.i64.wrap (4 * (IntKind.i64.wrap (s0_.1 + 1))))).bind fun y6 => cond (decide (65536 < y6)) (some (.inr (.inl ()))) ((appI 8 s0_.2 ([y6] : List Int)).bind fun l7 => some (.inl ((IntKind.i64.wrap (s0_.1 + 1)), l7)))) (some (.inr (.inr s0_.2)))

noncomputable def m_frame_head_L1 (l14 : (List Int)) (s1_ : Int) : Option (Int ⊕ (Unit ⊕ Unit)) :=
  cond (decide (s1_ < (l14.length : Int))) ((getI l14 s1_).bind fun x16 => cond (x16 != 0) (some (.inr (.inl ()))) (some (.inl (IntKind.i64.wrap (s1_ + 1))))) (some (.inr (.inr ())))

noncomputable def m_frame_head (a0 : (List Int)) : Option ((List Int) × Int) :=
  cond (decide ((a0.length : Int) < 4)) (some (([] : (List Int)), 4)) ((m_frame_numberAt a0 0).bind fun y2 => cond (decide (16 < (IntKind.i64.wrap (y2 + 1)))) (some (([] : (List Int)), 3)) ((m_frame_headLen (IntKind.i64.wrap (y2 + 1))).bind fun y4 => cond (decide ((a0.length : Int) < y4)) (some (([] : (List Int)), 4)) ((runLoop (m_frame_head_L0 a0 y2) (0, ([] : List Int))).bind fun (z10 : (Unit ⊕ (List Int))) => match z10 with | .inl z10 => some (([] : (List Int)), 3) | .inr z10 => (m_frame_headLen (IntKind.i64.wrap (y2 + 1))).bind fun y13 => (subI a0 (IntKind.i64.wrap (4 * (IntKind.i64.wrap ((IntKind.i64.wrap (y2 + 1)) + 1)))) y13).bind fun l14 => (runLoop (m_frame_head_L1 l14) 0).bind fun (z19 : (Unit ⊕ Unit)) => match z19 with | .inl z19 => some (([] : (List Int)), 5) | .inr z19 => some (z10, 0))))

noncomputable def m_word_Of_L0 (a0 : (Arr Int 8)) (s0_ : (Int × Int)) : Option ((Int × Int) ⊕ Int) :=
  cond (decide (s0_.2 < 8)) ((getI a0.1 s0_.2).bind fun x1 => (guardI (0 ≤ (IntKind.i64.wrap (8 * s0_.2)))).bind fun u2 => some (.inl ((IntKind.u64.wrap (lorI .u64 s0_.1 (IntKind.u64.wrap ((IntKind.u64.wrap x1) * 2 ^ min (Int.toNat (IntKind.i64.wrap (8 * s0_.2))) 64)))), (IntKind.i64.wrap (s0_.2 + 1))))) (some (.inr s0_.1))

noncomputable def m_word_Of (a0 : (Arr Int 8)) : Option Int :=
  (runLoop (m_word_Of_L0 a0) (0, 0)).bind fun (z4 : Int) => some z4

noncomputable def m_word_Words_L0 (a0 : (List Int)) (l2 : (List Int)) (s0_ : (Int × (List Int))) : Option ((Int × (List Int)) ⊕ (List Int)) :=
  cond (decide (s0_.1 < (l2.length : Int))) (((some (⟨[0, 0, 0, 0, 0, 0, 0, 0], rfl⟩ : (Arr Int 8)))).bind fun y5 => (subI a0 (IntKind.i64.wrap (8 * s0_.1)) (a0.length : Int)).bind fun l11 => (m_word_Of (Arr.cpy y5 l11)).bind fun y14 => (getI s0_.2 s0_.1).bind fun x15 => some (.inl ((IntKind.i64.wrap (s0_.1 + 1)), (setI s0_.2 s0_.1 y14)))) (some (.inr s0_.2))

noncomputable def m_word_Words (a0 : (List Int)) : Option ((List Int) × Bool) :=
  cond ((Int.tmod (a0.length : Int) 8) != 0) (some (([] : (List Int)), false)) ((makeI 8 (IntKind.i64.wrap (Int.tdiv (a0.length : Int) 8)) (0 : Int)).bind fun l2 => (runLoop (m_word_Words_L0 a0 l2) (0, l2)).bind fun (z18 : (List Int)) => some (z18, true))

noncomputable def m_frame_Unframe_L0 (y2 : ((List Int) × Int)) (s0_ : (Int × Int)) : Option ((Int × Int) ⊕ Int) :=
  cond (decide (s0_.2 < (y2.1.length : Int))) ((getI y2.1 s0_.2).bind fun x8 => some (.inl ((IntKind.i64.wrap (s0_.1 + x8)), (IntKind.i64.wrap (s0_.2 + 1))))) (some (.inr s0_.1))

noncomputable def m_frame_Unframe_L1 (y2 : ((List Int) × Int)) (s1_ : ((List Int) × Int × (List (List Int)))) : Option (((List Int) × Int × (List (List Int))) ⊕ (List (List Int))) :=
  cond (decide (s1_.2.1 < (y2.1.length : Int))) ((getI y2.1 s1_.2.1).bind fun x12 => (subI s1_.1 0 (IntKind.i64.wrap (8 * x12))).bind fun l15 => (m_word_Words l15).bind fun y16 => (appI 24 s1_.2.2 ([y16.1] : List (List Int))).bind fun l18 => (subI s1_.1 (IntKind.i64.wrap (8 * x12)) (s1_.1.length : Int)).bind fun l19 => some (.inl (l19, (IntKind.i64.wrap (s1_.2.1 + 1)), l18))) (some (.inr s1_.2.2))

noncomputable def m_frame_Unframe (a0 : (List Int)) : Option ((List (List Int)) × Int) :=
  (m_frame_head a0).bind fun y2 => cond (y2.2 != 0) (some (([] : (List (List Int))), y2.2)) ((m_frame_headLen (y2.1.length : Int)).bind fun y5 => (subI a0 y5 (a0.length : Int)).bind fun l6 => (runLoop (m_frame_Unframe_L0 y2) (0, 0)).bind fun (z10 : Int) => cond (decide ((l6.length : Int) < (IntKind.i64.wrap (8 * z10)))) (some (([] : (List (List Int))), 4)) (cond (decide ((IntKind.i64.wrap (8 * z10)) < (l6.length : Int))) (some (([] : (List (List Int))), 6)) ((runLoop (m_frame_Unframe_L1 y2) (l6, 0, ([] : List (List Int)))).bind fun (z21 : (List (List Int))) => some (z21, 0))))

noncomputable def m_centoref01_Same_L0 (a0 : (List Int)) (a1 : (List Int)) (s0_ : Int) : Option (Int ⊕ (Unit ⊕ Unit)) :=
  cond (decide (s0_ < (a0.length : Int))) ((getI a0 s0_).bind fun x3 => (getI a1 s0_).bind fun x4 => cond (x3 != x4) (some (.inr (.inl ()))) (some (.inl (IntKind.i64.wrap (s0_ + 1))))) (some (.inr (.inr ())))

noncomputable def m_centoref01_Same (a0 : (List Int)) (a1 : (List Int)) : Option Bool :=
  cond ((a0.length : Int) != (a1.length : Int)) (some false) ((runLoop (m_centoref01_Same_L0 a0 a1) 0).bind fun (z7 : (Unit ⊕ Unit)) => match z7 with | .inl z7 => some false | .inr z7 => some true)

noncomputable def m_centoref03_Same_L0 (a0 : (List (List Int))) (a1 : (List (List Int))) (s0_ : Int) : Option (Int ⊕ (Unit ⊕ Unit)) :=
  cond (decide (s0_ < (a0.length : Int))) ((getI a0 s0_).bind fun x4 => (getI a1 s0_).bind fun x5 => (m_centoref01_Same x4 x5).bind fun y6 => cond (!y6) (some (.inr (.inl ()))) (some (.inl (IntKind.i64.wrap (s0_ + 1))))) (some (.inr (.inr ())))

noncomputable def m_centoref03_Same (a0 : (List (List Int))) (a1 : (List (List Int))) : Option Bool :=
  cond ((a0.length : Int) != (a1.length : Int)) (some false) ((runLoop (m_centoref03_Same_L0 a0 a1) 0).bind fun (z9 : (Unit ⊕ Unit)) => match z9 with | .inl z9 => some false | .inr z9 => some true)

noncomputable def m_centolaw03_awake  : Option Bool :=
  (m_frame_Frame ([([7] : List Int)] : List (List Int))).bind fun y2 => (m_frame_Unframe y2.1).bind fun y4 => (cond y2.2 ((m_centoref01_SameBytes y2.1 ([0, 0, 0, 0, 1, 0, 0, 0, 7, 0, 0, 0, 0, 0, 0, 0] : List Int)).bind fun y8 => cond y8 (cond (y4.2 == 0) ((m_centoref03_Same y4.1 ([([7] : List Int)] : List (List Int))).bind fun y9 => some (cond (cond (cond y2.2 y8 false) (y4.2 == 0) false) y9 false)) (some false)) (some false)) (some false)).bind fun (z7 : Bool) => some z7

noncomputable def m_centoref03_read_L0 (a0 : (List Int)) (a1 : Int) (s0_ : (Int × Int)) : Option ((Int × Int) ⊕ Int) :=
  cond (decide (0 ≤ s0_.2)) ((getI a0 (IntKind.i64.wrap (a1 + s0_.2))).bind fun x1 => some (.inl ((IntKind.i64.wrap ((IntKind.i64.wrap (256 * s0_.1)) + (IntKind.i64.wrap x1))), (IntKind.i64.wrap (s0_.2 - 1))))) (some (.inr s0_.1))

noncomputable def m_centoref03_read (a0 : (List Int)) (a1 : Int) : Option Int :=
  (runLoop (m_centoref03_read_L0 a0 a1) (0, 3)).bind fun (z3 : Int) => some z3

noncomputable def m_centoref01_Of_L0 (a0 : (List Int)) (a1 : Int) (s0_ : (Int × Int)) : Option ((Int × Int) ⊕ Int) :=
  cond (decide (0 ≤ s0_.2)) ((getI a0 (IntKind.i64.wrap (a1 + s0_.2))).bind fun x1 => some (.inl ((IntKind.u64.wrap ((IntKind.u64.wrap (s0_.1 * 256)) + (IntKind.u64.wrap x1))), (IntKind.i64.wrap (s0_.2 - 1))))) (some (.inr s0_.1))

noncomputable def m_centoref01_Of (a0 : (List Int)) (a1 : Int) : Option Int :=
  (runLoop (m_centoref01_Of_L0 a0 a1) (0, 7)).bind fun (z3 : Int) => some z3

noncomputable def m_centoref01_Words_L0 (a0 : (List Int)) (s0_ : (Int × (List Int))) : Option ((Int × (List Int)) ⊕ (List Int)) :=
  cond (decide (s0_.1 < (a0.length : Int))) ((m_centoref01_Of a0 s0_.1).bind fun y1 => (appI 8 s0_.2 ([y1] : List Int)).bind fun l2 => some (.inl ((IntKind.i64.wrap (s0_.1 + 8)), l2))) (some (.inr s0_.2))

noncomputable def m_centoref01_Words (a0 : (List Int)) : Option ((List Int) × Bool) :=
  cond (decide (0 < (Int.tmod (a0.length : Int) 8))) (some (([] : (List Int)), false)) ((runLoop (m_centoref01_Words_L0 a0) (0, ([] : List Int))).bind fun (z4 : (List Int)) => some (z4, true))

noncomputable def m_centoref03_Unframe_L0 (a0 : (List Int)) (y2 : Int) (s0_ : Int) : Option (Int ⊕ (Unit ⊕ Unit)) :=
  cond (decide (s0_ < (IntKind.i64.wrap (y2 + 1)))) ((m_centoref03_read a0 (IntKind.i64.wrap (4 + (IntKind.i64.wrap (4 * s0_))))).bind fun y6 => cond (decide (65536 < y6)) (some (.inr (.inl ()))) (some (.inl (IntKind.i64.wrap (s0_ + 1))))) (some (.inr (.inr ())))

noncomputable def m_centoref03_Unframe_L1 (a0 : (List Int)) (z3 : Int) (s1_ : Int) : Option (Int ⊕ (Unit ⊕ Unit)) :=
  cond (decide (s1_ < z3)) ((getI a0 s1_).bind fun x11 => cond (x11 != 0) (some (.inr (.inl ()))) (some (.inl (IntKind.i64.wrap (s1_ + 1))))) (some (.inr (.inr ())))

noncomputable def m_centoref03_Unframe_L2 (a0 : (List Int)) (y2 : Int) (s2_ : (Int × Int × (List (List Int)))) : Option ((Int × Int × (List (List Int))) ⊕ (Unit ⊕ (Int × (List (List Int))))) :=
  cond (decide (s2_.2.1 < (IntKind.i64.wrap (y2 + 1)))) ((m_centoref03_read a0 (IntKind.i64.wrap (4 + (IntKind.i64.wrap (4 * s2_.2.1))))).bind fun y16 => cond (decide ((IntKind.i64.wrap ((a0.length : Int) - s2_.1)) < (IntKind.i64.wrap (8 * y16)))) (some (.inr (.inl ()))) ((subI a0 s2_.1 (IntKind.i64.wrap (s2_.1 + (IntKind.i64.wrap (8 * y16))))).bind fun l19 => (m_centoref01_Words l19).bind fun y20 => (appI 24 s2_.2.2 ([y20.1] : List (List Int))).bind fun l22 => some (.inl ((IntKind.i64.wrap (s2_.1 + (IntKind.i64.wrap (8 * y16)))), (IntKind.i64.wrap (s2_.2.1 + 1)), l22)))) (some (.inr (.inr (s2_.1, s2_.2.2))))

noncomputable def m_centoref03_Unframe (a0 : (List Int)) : Option ((List (List Int)) × Int) :=
  cond (decide ((a0.length : Int) < 4)) (some (([] : (List (List Int))), 4)) ((m_centoref03_read a0 0).bind fun y2 => cond (decide (16 < (IntKind.i64.wrap (y2 + 1)))) (some (([] : (List (List Int))), 3)) ((cond (decide (0 < (Int.tmod (IntKind.i64.wrap (4 + (IntKind.i64.wrap (4 * (IntKind.i64.wrap (y2 + 1)))))) 8))) (some (IntKind.i64.wrap ((IntKind.i64.wrap (4 + (IntKind.i64.wrap (4 * (IntKind.i64.wrap (y2 + 1)))))) + 4))) (some (IntKind.i64.wrap (4 + (IntKind.i64.wrap (4 * (IntKind.i64.wrap (y2 + 1)))))))).bind fun (z3 : Int) => cond (decide ((a0.length : Int) < z3)) (some (([] : (List (List Int))), 4)) ((runLoop (m_centoref03_Unframe_L0 a0 y2) 0).bind fun (z9 : (Unit ⊕ Unit)) => match z9 with | .inl z9 => some (([] : (List (List Int))), 3) | .inr z9 => (runLoop (m_centoref03_Unframe_L1 a0 z3) (IntKind.i64.wrap (4 + (IntKind.i64.wrap (4 * (IntKind.i64.wrap (y2 + 1))))))).bind fun (z14 : (Unit ⊕ Unit)) => match z14 with | .inl z14 => some (([] : (List (List Int))), 5) | .inr z14 => (runLoop (m_centoref03_Unframe_L2 a0 y2) (z3, 0, ([] : List (List Int)))).bind fun (z25 : (Unit ⊕ (Int × (List (List Int))))) => match z25 with | .inl z25 => some (([] : (List (List Int))), 4) | .inr z25 => cond (decide (z25.1 < (a0.length : Int))) (some (([] : (List (List Int))), 6)) (some (z25.2, 0)))))

noncomputable def m_centolaw03_FrameUnframes (a0 : (List Int)) : Option Bool :=
  (m_frame_Unframe a0).bind fun y2 => (m_centoref03_Unframe a0).bind fun y4 => (m_centoref03_Same y2.1 y4.1).bind fun y6 => cond (cond (!y6) true (y2.2 != y4.2)) (some false) (cond (y2.2 != 0) ((m_centolaw03_awake).bind fun y8 => some y8) ((m_frame_Frame y2.1).bind fun y10 => (cond y10.2 ((m_centoref01_SameBytes y10.1 a0).bind fun y14 => cond y14 ((m_centolaw03_awake).bind fun y15 => some (cond (cond y10.2 y14 false) y15 false)) (some false)) (some false)).bind fun (z13 : Bool) => some z13))

noncomputable def m_centolaw03_FrameMost (a0 : Int) : Option Bool :=
  (makeI 24 (IntKind.i64.wrap (landI .i64 a0 31)) ([] : (List Int))).bind fun l3 => (m_frame_Frame l3).bind fun y4 => (cond (y4.2 == (cond (decide (1 ≤ (IntKind.i64.wrap (landI .i64 a0 31)))) (decide ((IntKind.i64.wrap (landI .i64 a0 31)) ≤ 16)) false)) (cond y4.2 ((m_centolaw03_awake).bind fun y8 => some (cond (cond (y4.2 == (cond (decide (1 ≤ (IntKind.i64.wrap (landI .i64 a0 31)))) (decide ((IntKind.i64.wrap (landI .i64 a0 31)) ≤ 16)) false)) (cond y4.2 true ((y4.1.length : Int) == 0)) false) y8 false)) (cond ((y4.1.length : Int) == 0) ((m_centolaw03_awake).bind fun y9 => some (cond (cond (y4.2 == (cond (decide (1 ≤ (IntKind.i64.wrap (landI .i64 a0 31)))) (decide ((IntKind.i64.wrap (landI .i64 a0 31)) ≤ 16)) false)) (cond y4.2 true ((y4.1.length : Int) == 0)) false) y9 false)) (some false))) (some false)).bind fun (z7 : Bool) => some z7

end Go.Proofs.Ytgijkjifiekkmaa
