/- Part SD of this seat's mirrors: functions of the seat's program, and the plain functions that they are; each theorem bears its own conditions. -/
import Derived.Test.YtkdanjfmobibbaaH26
namespace Go.Proofs.Ytkdanjfmobibbaa
open Go.RowKit
set_option linter.unusedVariables false
set_option linter.unusedSimpArgs false
set_option maxRecDepth 100000
set_option maxHeartbeats 4000000
structure S_slots_slot where
  full : Bool
  words : (List Int)

structure S_slots_Slots where
  all : (Arr S_slots_slot 16)

noncomputable def m_slots_New  : Option S_slots_Slots :=
  ((some (⟨[(⟨false, ([] : (List Int))⟩ : S_slots_slot), (⟨false, ([] : (List Int))⟩ : S_slots_slot), (⟨false, ([] : (List Int))⟩ : S_slots_slot), (⟨false, ([] : (List Int))⟩ : S_slots_slot), (⟨false, ([] : (List Int))⟩ : S_slots_slot), (⟨false, ([] : (List Int))⟩ : S_slots_slot), (⟨false, ([] : (List Int))⟩ : S_slots_slot), (⟨false, ([] : (List Int))⟩ : S_slots_slot), (⟨false, ([] : (List Int))⟩ : S_slots_slot), (⟨false, ([] : (List Int))⟩ : S_slots_slot), (⟨false, ([] : (List Int))⟩ : S_slots_slot), (⟨false, ([] : (List Int))⟩ : S_slots_slot), (⟨false, ([] : (List Int))⟩ : S_slots_slot), (⟨false, ([] : (List Int))⟩ : S_slots_slot), (⟨false, ([] : (List Int))⟩ : S_slots_slot), (⟨false, ([] : (List Int))⟩ : S_slots_slot)], rfl⟩ : (Arr S_slots_slot 16)))).bind fun y2 => some (⟨y2⟩ : S_slots_Slots)

noncomputable def m_slots_Slots_there (a0 : S_slots_Slots) (a1 : Int) : Option (Bool × S_slots_Slots) :=
  some ((cond (decide (0 ≤ a1)) (decide (a1 < 16)) false), a0)

noncomputable def m_slices_Clone_uint64_uint64 (a0 : List Int) : Option (List Int) :=
  appI 8 ([] : List Int) a0

noncomputable def m_slots_Slots_Put_L0 (a1 : (List Int)) (s0_ : (Int × (Arr S_slots_slot 16))) : Option ((Int × (Arr S_slots_slot 16)) ⊕ ((Arr S_slots_slot 16) ⊕ (Arr S_slots_slot 16))) :=
  cond (decide (s0_.1 < (a1.length : Int))) ((getI a1 s0_.1).bind fun x2 => (m_slots_Slots_there (⟨s0_.2⟩ : S_slots_Slots) x2).bind fun y4 => cond (!y4.1) (some (.inr (.inl y4.2.all))) (some (.inl ((IntKind.i64.wrap (s0_.1 + 1)), y4.2.all)))) (some (.inr (.inr s0_.2)))

noncomputable def m_slots_Slots_Put_L1 (a1 : (List Int)) (a2 : (List (List Int))) (s1_ : (Int × (Arr S_slots_slot 16))) : Option ((Int × (Arr S_slots_slot 16)) ⊕ (Arr S_slots_slot 16)) :=
  cond (decide (s1_.1 < (a1.length : Int))) ((getI a1 s1_.1).bind fun x9 => (getI a2 s1_.1).bind fun x10 => (m_slices_Clone_uint64_uint64 x10).bind fun y11 => (getI s1_.2.1 x9).bind fun x12 => some (.inl ((IntKind.i64.wrap (s1_.1 + 1)), (Arr.put s1_.2 x9 (⟨true, y11⟩ : S_slots_slot))))) (some (.inr s1_.2))

noncomputable def m_slots_Slots_Put (a0 : S_slots_Slots) (a1 : (List Int)) (a2 : (List (List Int))) : Option (Int × S_slots_Slots) :=
  cond ((a1.length : Int) != (a2.length : Int)) (some (2, a0)) ((runLoop (m_slots_Slots_Put_L0 a1) (0, a0.all)).bind fun (z7 : ((Arr S_slots_slot 16) ⊕ (Arr S_slots_slot 16))) => match z7 with | .inl z7 => some (15, (⟨z7⟩ : S_slots_Slots)) | .inr z7 => (runLoop (m_slots_Slots_Put_L1 a1 a2) (0, z7)).bind fun (z15 : (Arr S_slots_slot 16)) => some (0, (⟨z15⟩ : S_slots_Slots)))

structure S_centoref35_Slots where
  L : (Arr (List Int) 16)
  On : (Arr Bool 16)

noncomputable def m_centoref35_Slots_Put_L0 (a1 : (List Int)) (s0_ : Int) : Option (Int ⊕ (Unit ⊕ Unit)) :=
  cond (decide (s0_ < (a1.length : Int))) (((getI a1 s0_).bind fun x6 => cond (decide (x6 < 0)) (some true) (some (cond (decide (x6 < 0)) true (decide (15 < x6))))).bind fun (z3 : Bool) => cond z3 (some (.inr (.inl ()))) (some (.inl (IntKind.i64.wrap (s0_ + 1))))) (some (.inr (.inr ())))

noncomputable def m_centoref35_Slots_Put_L1 (a1 : (List Int)) (a2 : (List (List Int))) (s1_ : (Int × (Arr (List Int) 16) × (Arr Bool 16))) : Option ((Int × (Arr (List Int) 16) × (Arr Bool 16)) ⊕ ((Arr (List Int) 16) × (Arr Bool 16))) :=
  cond (decide (s1_.1 < (a1.length : Int))) ((getI a1 s1_.1).bind fun x16 => (getI a2 s1_.1).bind fun x17 => (getI s1_.2.1.1 x16).bind fun x18 => (getI a1 s1_.1).bind fun x20 => (getI s1_.2.2.1 x20).bind fun x21 => some (.inl ((IntKind.i64.wrap (s1_.1 + 1)), (Arr.put s1_.2.1 x16 x17), (Arr.put s1_.2.2 x20 true)))) (some (.inr (s1_.2.1, s1_.2.2)))

noncomputable def m_centoref35_Slots_Put (a0 : S_centoref35_Slots) (a1 : (List Int)) (a2 : (List (List Int))) : Option (Int × S_centoref35_Slots) :=
  cond ((a1.length : Int) != (a2.length : Int)) (some (2, a0)) ((runLoop (m_centoref35_Slots_Put_L0 a1) 0).bind fun (z11 : (Unit ⊕ Unit)) => match z11 with | .inl z11 => some (15, a0) | .inr z11 => (runLoop (m_centoref35_Slots_Put_L1 a1 a2) (0, a0.L, a0.On)).bind fun (z24 : ((Arr (List Int) 16) × (Arr Bool 16))) => some (0, (⟨z24.1, z24.2⟩ : S_centoref35_Slots)))

noncomputable def m_slots_Slots_Has (a0 : S_slots_Slots) (a1 : Int) : Option (Bool × S_slots_Slots) :=
  ((m_slots_Slots_there a0 a1).bind fun y8 => cond y8.1 ((getI y8.2.all.1 a1).bind fun x9 => some ((cond y8.1 x9.full false), y8.2.all)) (some (false, y8.2.all))).bind fun (z4 : (Bool × (Arr S_slots_slot 16))) => some (z4.1, (⟨z4.2⟩ : S_slots_Slots))

noncomputable def m_slots_Slots_Drop (a0 : S_slots_Slots) (a1 : Int) : Option (Int × S_slots_Slots) :=
  (m_slots_Slots_Has a0 a1).bind fun y2 => cond (!y2.1) (some (15, y2.2)) ((getI y2.2.all.1 a1).bind fun x5 => some (0, (⟨(Arr.put y2.2.all a1 (⟨false, ([] : (List Int))⟩ : S_slots_slot))⟩ : S_slots_Slots)))

noncomputable def m_centoref35_Slots_Has (a0 : S_centoref35_Slots) (a1 : Int) : Option (Bool × S_centoref35_Slots) :=
  (cond (decide (0 ≤ a1)) (cond (decide (a1 < 16)) ((getI a0.On.1 a1).bind fun x4 => some (cond (cond (decide (0 ≤ a1)) (decide (a1 < 16)) false) x4 false)) (some false)) (some false)).bind fun (z2 : Bool) => some (z2, a0)

noncomputable def m_centoref35_Slots_Drop (a0 : S_centoref35_Slots) (a1 : Int) : Option (Int × S_centoref35_Slots) :=
  (m_centoref35_Slots_Has a0 a1).bind fun y2 => cond (!y2.1) (some (15, y2.2)) ((getI y2.2.L.1 a1).bind fun x5 => (getI y2.2.On.1 a1).bind fun x9 => some (0, (⟨(Arr.put y2.2.L a1 ([] : (List Int))), (Arr.put y2.2.On a1 false)⟩ : S_centoref35_Slots)))

structure S_centolaw35_Deed where
  Kind : Int
  I : Int
  At : (List Int)
  L : (List (List Int))

noncomputable def m_centolaw35_does (a0 : S_slots_Slots) (a1 : S_centoref35_Slots) (a2 : S_centolaw35_Deed) : Option (Bool × S_slots_Slots × S_centoref35_Slots) :=
  (cond (a2.Kind == 0) (some (a2.Kind == 0)) (cond (a2.Kind == 1) (some (a2.Kind == 1)) (cond (a2.Kind == 2) (some (a2.Kind == 2)) (some (a2.Kind == 3))))).bind fun (z1 : Bool) => cond z1 ((m_slots_Slots_Put a0 a2.At a2.L).bind fun y7 => (m_centoref35_Slots_Put a1 a2.At a2.L).bind fun y8 => some ((y7.1 == y8.1), y7.2, y8.2)) ((cond (a2.Kind == 4) (some (a2.Kind == 4)) (some (a2.Kind == 5))).bind fun (z9 : Bool) => cond z9 ((m_slots_Slots_Drop a0 a2.I).bind fun y13 => (m_centoref35_Slots_Drop a1 a2.I).bind fun y14 => some ((y13.1 == y14.1), y13.2, y14.2)) (some (true, a0, a1)))

noncomputable def m_slots_Slots_Full_L0 (s0_ : (Int × (List Int) × (Arr S_slots_slot 16))) : Option ((Int × (List Int) × (Arr S_slots_slot 16)) ⊕ ((List Int) × (Arr S_slots_slot 16))) :=
  cond (decide (s0_.1 < 16)) (((m_slots_Slots_Has (⟨s0_.2.2⟩ : S_slots_Slots) s0_.1).bind fun y3 => cond y3.1 ((appI 8 s0_.2.1 ([s0_.1] : List Int)).bind fun l4 => some (l4, y3.2.all)) (some (s0_.2.1, y3.2.all))).bind fun (z1 : ((List Int) × (Arr S_slots_slot 16))) => some (.inl ((IntKind.i64.wrap (s0_.1 + 1)), z1.1, z1.2))) (some (.inr (s0_.2.1, s0_.2.2)))

noncomputable def m_slots_Slots_Full (a0 : S_slots_Slots) : Option ((List Int) × S_slots_Slots) :=
  (runLoop (m_slots_Slots_Full_L0) (0, ([] : List Int), a0.all)).bind fun (z7 : ((List Int) × (Arr S_slots_slot 16))) => some (z7.1, (⟨z7.2⟩ : S_slots_Slots))

noncomputable def m_centoref35_Slots_Full_L0 (a0 : S_centoref35_Slots) (s0_ : (Int × (List Int))) : Option ((Int × (List Int)) ⊕ (List Int)) :=
  cond (decide (s0_.1 < 16)) (((getI a0.On.1 s0_.1).bind fun x3 => cond x3 ((appI 8 s0_.2 ([s0_.1] : List Int)).bind fun l4 => some l4) (some s0_.2)).bind fun (z1 : (List Int)) => some (.inl ((IntKind.i64.wrap (s0_.1 + 1)), z1))) (some (.inr s0_.2))

noncomputable def m_centoref35_Slots_Full (a0 : S_centoref35_Slots) : Option ((List Int) × S_centoref35_Slots) :=
  (runLoop (m_centoref35_Slots_Full_L0 a0) (0, ([] : List Int))).bind fun (z7 : (List Int)) => some (z7, a0)

noncomputable def m_centoref16_SameInts_L0 (a0 : (List Int)) (a1 : (List Int)) (s0_ : Int) : Option (Int ⊕ (Unit ⊕ Unit)) :=
  cond (decide (s0_ < (a0.length : Int))) ((getI a0 s0_).bind fun x3 => (getI a1 s0_).bind fun x4 => cond (x3 != x4) (some (.inr (.inl ()))) (some (.inl (IntKind.i64.wrap (s0_ + 1))))) (some (.inr (.inr ())))

noncomputable def m_centoref16_SameInts (a0 : (List Int)) (a1 : (List Int)) : Option Bool :=
  cond ((a0.length : Int) != (a1.length : Int)) (some false) ((runLoop (m_centoref16_SameInts_L0 a0 a1) 0).bind fun (z7 : (Unit ⊕ Unit)) => match z7 with | .inl z7 => some false | .inr z7 => some true)

noncomputable def m_slots_Slots_Get (a0 : S_slots_Slots) (a1 : Int) : Option ((List Int) × Int × S_slots_Slots) :=
  (m_slots_Slots_Has a0 a1).bind fun y2 => cond (!y2.1) (some (([] : (List Int)), 15, y2.2)) ((getI y2.2.all.1 a1).bind fun x6 => (m_slices_Clone_uint64_uint64 x6.words).bind fun y8 => some (y8, 0, y2.2))

noncomputable def m_centoref01_Same_L0 (a0 : (List Int)) (a1 : (List Int)) (s0_ : Int) : Option (Int ⊕ (Unit ⊕ Unit)) :=
  cond (decide (s0_ < (a0.length : Int))) ((getI a0 s0_).bind fun x3 => (getI a1 s0_).bind fun x4 => cond (x3 != x4) (some (.inr (.inl ()))) (some (.inl (IntKind.i64.wrap (s0_ + 1))))) (some (.inr (.inr ())))

noncomputable def m_centoref01_Same (a0 : (List Int)) (a1 : (List Int)) : Option Bool :=
  cond ((a0.length : Int) != (a1.length : Int)) (some false) ((runLoop (m_centoref01_Same_L0 a0 a1) 0).bind fun (z7 : (Unit ⊕ Unit)) => match z7 with | .inl z7 => some false | .inr z7 => some true)

noncomputable def m_centolaw35_same_L0 (s0_ : (Int × (Arr S_slots_slot 16) × (Arr (List Int) 16) × (Arr Bool 16))) : Option ((Int × (Arr S_slots_slot 16) × (Arr (List Int) 16) × (Arr Bool 16)) ⊕ (((Arr S_slots_slot 16) × (Arr (List Int) 16) × (Arr Bool 16)) ⊕ ((Arr S_slots_slot 16) × (Arr (List Int) 16) × (Arr Bool 16)))) :=
  cond (decide (s0_.1 < 17)) ((m_slots_Slots_Get (⟨s0_.2.1⟩ : S_slots_Slots) s0_.1).bind fun y8 => ((m_slots_Slots_Has y8.2.2 s0_.1).bind fun y24 => (m_centoref35_Slots_Has (⟨s0_.2.2.1, s0_.2.2.2⟩ : S_centoref35_Slots) s0_.1).bind fun y25 => cond (y24.1 != y25.1) (some (true, y24.2.all, y25.2.L, y25.2.On)) ((m_centoref35_Slots_Has y25.2 s0_.1).bind fun y26 => cond y26.1 (cond (y8.2.1 != 0) (some (true, y24.2.all, y26.2.L, y26.2.On)) ((getI y26.2.L.1 s0_.1).bind fun x27 => (m_centoref01_Same y8.1 x27).bind fun y28 => cond y28 ((m_centoref35_Slots_Has y26.2 s0_.1).bind fun y29 => some ((cond (cond (y24.1 != y25.1) true (cond y26.1 (cond (y8.2.1 != 0) true (!y28)) false)) true (cond (!y29.1) (cond (y8.2.1 != 15) true (decide (0 < (y8.1.length : Int)))) false)), y24.2.all, y29.2.L, y29.2.On)) (some (true, y24.2.all, y26.2.L, y26.2.On)))) ((m_centoref35_Slots_Has y26.2 s0_.1).bind fun y30 => some ((cond (cond (y24.1 != y25.1) true false) true (cond (!y30.1) (cond (y8.2.1 != 15) true (decide (0 < (y8.1.length : Int)))) false)), y24.2.all, y30.2.L, y30.2.On)))).bind fun (z16 : (Bool × (Arr S_slots_slot 16) × (Arr (List Int) 16) × (Arr Bool 16))) => cond z16.1 (some (.inr (.inl (z16.2.1, z16.2.2.1, z16.2.2.2)))) (some (.inl ((IntKind.i64.wrap (s0_.1 + 1)), z16.2.1, z16.2.2.1, z16.2.2.2)))) (some (.inr (.inr (s0_.2.1, s0_.2.2.1, s0_.2.2.2))))

noncomputable def m_centolaw35_same (a0 : S_slots_Slots) (a1 : S_centoref35_Slots) : Option (Bool × S_slots_Slots × S_centoref35_Slots) :=
  (m_slots_Slots_Full a0).bind fun y4 => (m_centoref35_Slots_Full a1).bind fun y5 => (m_centoref16_SameInts y4.1 y5.1).bind fun y6 => cond (!y6) (some (false, y4.2, y5.2)) ((runLoop (m_centolaw35_same_L0) ((-1), y4.2.all, y5.2.L, y5.2.On)).bind fun (z37 : (((Arr S_slots_slot 16) × (Arr (List Int) 16) × (Arr Bool 16)) ⊕ ((Arr S_slots_slot 16) × (Arr (List Int) 16) × (Arr Bool 16)))) => match z37 with | .inl z37 => some (false, (⟨z37.1⟩ : S_slots_Slots), (⟨z37.2.1, z37.2.2⟩ : S_centoref35_Slots)) | .inr z37 => some (true, (⟨z37.1⟩ : S_slots_Slots), (⟨z37.2.1, z37.2.2⟩ : S_centoref35_Slots)))

noncomputable def m_centolaw35_awake  : Option Bool :=
  (m_slots_New).bind fun y2 => (m_slots_Slots_Put y2 ([3] : List Int) ([([7] : List Int)] : List (List Int))).bind fun y4 => (m_slots_Slots_Get y4.2 3).bind fun y6 => (cond (y4.1 == 0) (cond (y6.2.1 == 0) ((m_centoref01_Same y6.1 ([7] : List Int)).bind fun y16 => cond y16 ((m_slots_Slots_Full y6.2.2).bind fun y17 => (m_centoref16_SameInts y17.1 ([3] : List Int)).bind fun y18 => cond y18 ((m_slots_Slots_Has y17.2 2).bind fun y19 => some (cond (cond (cond (cond (y4.1 == 0) (y6.2.1 == 0) false) y16 false) y18 false) (!y19.1) false)) (some false)) (some false)) (some false)) (some false)).bind fun (z11 : Bool) => some z11

noncomputable def m_centolaw35_SlotsPlay_L0 (a0 : (List S_centolaw35_Deed)) (s0_ : (Int × (Arr S_slots_slot 16) × (Arr (List Int) 16) × (Arr Bool 16))) : Option ((Int × (Arr S_slots_slot 16) × (Arr (List Int) 16) × (Arr Bool 16)) ⊕ (Unit ⊕ Unit)) :=
  cond (cond (decide (s0_.1 < (a0.length : Int))) (decide (s0_.1 < 60)) false) (((getI a0 s0_.1).bind fun x16 => (m_centolaw35_does (⟨s0_.2.1⟩ : S_slots_Slots) (⟨s0_.2.2.1, s0_.2.2.2⟩ : S_centoref35_Slots) x16).bind fun y17 => cond y17.1 ((m_centolaw35_same y17.2.1 y17.2.2).bind fun y18 => some ((cond (!y17.1) true (!y18.1)), y18.2.1.all, y18.2.2.L, y18.2.2.On)) (some (true, y17.2.1.all, y17.2.2.L, y17.2.2.On))).bind fun (z12 : (Bool × (Arr S_slots_slot 16) × (Arr (List Int) 16) × (Arr Bool 16))) => cond z12.1 (some (.inr (.inl ()))) (some (.inl ((IntKind.i64.wrap (s0_.1 + 1)), z12.2.1, z12.2.2.1, z12.2.2.2)))) (some (.inr (.inr ())))

noncomputable def m_centolaw35_SlotsPlay (a0 : (List S_centolaw35_Deed)) : Option Bool :=
  (m_slots_New).bind fun y2 => ((some (⟨[([] : (List Int)), ([] : (List Int)), ([] : (List Int)), ([] : (List Int)), ([] : (List Int)), ([] : (List Int)), ([] : (List Int)), ([] : (List Int)), ([] : (List Int)), ([] : (List Int)), ([] : (List Int)), ([] : (List Int)), ([] : (List Int)), ([] : (List Int)), ([] : (List Int)), ([] : (List Int))], rfl⟩ : (Arr (List Int) 16)))).bind fun y6 => ((some (⟨[false, false, false, false, false, false, false, false, false, false, false, false, false, false, false, false], rfl⟩ : (Arr Bool 16)))).bind fun y7 => (runLoop (m_centolaw35_SlotsPlay_L0 a0) (0, y2.all, y6, y7)).bind fun (z22 : (Unit ⊕ Unit)) => match z22 with | .inl z22 => some false | .inr z22 => (m_centolaw35_awake).bind fun y24 => some y24

noncomputable def m_slots_Slots_Twin (a0 : S_slots_Slots) : Option (S_slots_Slots × S_slots_Slots) :=
  some ((⟨a0.all⟩ : S_slots_Slots), a0)

noncomputable def m_centolaw35_SlotsTwin_L0 (a0 : (List S_centolaw35_Deed)) (s0_ : (Int × (Arr S_slots_slot 16) × (Arr (List Int) 16) × (Arr Bool 16))) : Option ((Int × (Arr S_slots_slot 16) × (Arr (List Int) 16) × (Arr Bool 16)) ⊕ ((Arr S_slots_slot 16) × (Arr (List Int) 16) × (Arr Bool 16))) :=
  cond (cond (decide (s0_.1 < (a0.length : Int))) (decide (s0_.1 < 60)) false) ((getI a0 s0_.1).bind fun x9 => (m_centolaw35_does (⟨s0_.2.1⟩ : S_slots_Slots) (⟨s0_.2.2.1, s0_.2.2.2⟩ : S_centoref35_Slots) x9).bind fun y10 => some (.inl ((IntKind.i64.wrap (s0_.1 + 1)), y10.2.1.all, y10.2.2.L, y10.2.2.On))) (some (.inr (s0_.2.1, s0_.2.2.1, s0_.2.2.2)))

noncomputable def m_centolaw35_SlotsTwin_L1 (a1 : (List S_centolaw35_Deed)) (s1_ : (Int × (Arr S_slots_slot 16) × (Arr (List Int) 16) × (Arr Bool 16))) : Option ((Int × (Arr S_slots_slot 16) × (Arr (List Int) 16) × (Arr Bool 16)) ⊕ ((Arr S_slots_slot 16) × (Arr (List Int) 16) × (Arr Bool 16))) :=
  cond (cond (decide (s1_.1 < (a1.length : Int))) (decide (s1_.1 < 60)) false) ((getI a1 s1_.1).bind fun x23 => (m_centolaw35_does (⟨s1_.2.1⟩ : S_slots_Slots) (⟨s1_.2.2.1, s1_.2.2.2⟩ : S_centoref35_Slots) x23).bind fun y24 => some (.inl ((IntKind.i64.wrap (s1_.1 + 1)), y24.2.1.all, y24.2.2.L, y24.2.2.On))) (some (.inr (s1_.2.1, s1_.2.2.1, s1_.2.2.2)))

noncomputable def m_centolaw35_SlotsTwin (a0 : (List S_centolaw35_Deed)) (a1 : (List S_centolaw35_Deed)) : Option Bool :=
  (m_slots_New).bind fun y2 => ((some (⟨[([] : (List Int)), ([] : (List Int)), ([] : (List Int)), ([] : (List Int)), ([] : (List Int)), ([] : (List Int)), ([] : (List Int)), ([] : (List Int)), ([] : (List Int)), ([] : (List Int)), ([] : (List Int)), ([] : (List Int)), ([] : (List Int)), ([] : (List Int)), ([] : (List Int)), ([] : (List Int))], rfl⟩ : (Arr (List Int) 16)))).bind fun y6 => ((some (⟨[false, false, false, false, false, false, false, false, false, false, false, false, false, false, false, false], rfl⟩ : (Arr Bool 16)))).bind fun y7 => (runLoop (m_centolaw35_SlotsTwin_L0 a0) (0, y2.all, y6, y7)).bind fun (z12 : ((Arr S_slots_slot 16) × (Arr (List Int) 16) × (Arr Bool 16))) => (m_slots_Slots_Twin (⟨z12.1⟩ : S_slots_Slots)).bind fun y14 => ((some (⟨[([] : (List Int)), ([] : (List Int)), ([] : (List Int)), ([] : (List Int)), ([] : (List Int)), ([] : (List Int)), ([] : (List Int)), ([] : (List Int)), ([] : (List Int)), ([] : (List Int)), ([] : (List Int)), ([] : (List Int)), ([] : (List Int)), ([] : (List Int)), ([] : (List Int)), ([] : (List Int))], rfl⟩ : (Arr (List Int) 16)))).bind fun y20 => ((some (⟨[false, false, false, false, false, false, false, false, false, false, false, false, false, false, false, false], rfl⟩ : (Arr Bool 16)))).bind fun y21 => (runLoop (m_centolaw35_SlotsTwin_L1 a1) (0, y14.2.all, z12.2.1, z12.2.2)).bind fun (z26 : ((Arr S_slots_slot 16) × (Arr (List Int) 16) × (Arr Bool 16))) => ((m_centolaw35_same y14.1 (⟨z12.2.1, z12.2.2⟩ : S_centoref35_Slots)).bind fun y34 => cond y34.1 ((m_centolaw35_same (⟨z26.1⟩ : S_slots_Slots) (⟨z26.2.1, z26.2.2⟩ : S_centoref35_Slots)).bind fun y35 => cond y35.1 ((m_centolaw35_awake).bind fun y36 => some (cond (cond y34.1 y35.1 false) y36 false)) (some false)) (some false)).bind fun (z30 : Bool) => some z30

end Go.Proofs.Ytkdanjfmobibbaa
