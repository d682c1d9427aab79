/- Part ND of this seat's mirrors: functions of the seat's program, and the plain functions that they are; each theorem bears its own conditions. -/
import Derived.Test.YtkdanjfmobibbaaH26
namespace Go.Proofs.Ytkdanjfmobibbaa
open Go.RowKit
set_option linter.unusedVariables false
set_option linter.unusedSimpArgs false
set_option maxRecDepth 100000
set_option maxHeartbeats 4000000
noncomputable def m_slots_Slots_there_n (a1 : Int) : Option Bool :=
  some false

noncomputable def m_slots_Slots_Has_n (a1 : Int) : Option Bool :=
  ((m_slots_Slots_there_n a1).bind fun y4 => cond y4 (none) (some ())).bind fun (z2 : Unit) => some false

noncomputable def m_slices_Clone_uint64_uint64 (a0 : List Int) : Option (List Int) :=
  appI 8 ([] : List Int) a0

noncomputable def m_slots_Slots_Get_n (a1 : Int) : Option ((List Int) × Int) :=
  (m_slots_Slots_Has_n a1).bind fun y2 => cond (!y2) (some (([] : (List Int)), 15)) (none)

noncomputable def m_slots_Slots_Put_n_L0 (a1 : (List Int)) (s0_ : Int) : Option (Int ⊕ (Unit ⊕ Unit)) :=
  cond (decide (s0_ < (a1.length : Int))) ((getI a1 s0_).bind fun x2 => (m_slots_Slots_there_n x2).bind fun y4 => cond (!y4) (some (.inr (.inl ()))) (some (.inl (IntKind.i64.wrap (s0_ + 1))))) (some (.inr (.inr ())))

noncomputable def m_slots_Slots_Put_n_L1 (a1 : (List Int)) (a2 : (List (List Int))) (s1_ : Unit) : Option (Unit ⊕ Unit) :=
  cond (decide (0 < (a1.length : Int))) ((getI a1 0).bind fun x9 => (getI a2 0).bind fun x10 => (m_slices_Clone_uint64_uint64 x10).bind fun y11 => none) (some (.inr ()))

noncomputable def m_slots_Slots_Put_n (a1 : (List Int)) (a2 : (List (List Int))) : Option Int :=
  cond ((a1.length : Int) != (a2.length : Int)) (some 2) ((runLoop (m_slots_Slots_Put_n_L0 a1) 0).bind fun (z7 : (Unit ⊕ Unit)) => match z7 with | .inl z7 => some 15 | .inr z7 => (runLoop (m_slots_Slots_Put_n_L1 a1 a2) ()).bind fun (z13 : Unit) => some 0)

noncomputable def m_slots_Slots_Drop_n (a1 : Int) : Option Int :=
  (m_slots_Slots_Has_n a1).bind fun y2 => cond (!y2) (some 15) (none)

noncomputable def m_slots_Slots_Full_n_L0 (s0_ : (Int × (List Int))) : Option ((Int × (List Int)) ⊕ (List Int)) :=
  cond (decide (s0_.1 < 16)) (((m_slots_Slots_Has_n s0_.1).bind fun y3 => cond y3 ((appI 8 s0_.2 ([s0_.1] : List Int)).bind fun l4 => some l4) (some s0_.2)).bind fun (z1 : (List Int)) => some (.inl ((IntKind.i64.wrap (s0_.1 + 1)), z1))) (some (.inr s0_.2))

noncomputable def m_slots_Slots_Full_n  : Option (List Int) :=
  (runLoop (m_slots_Slots_Full_n_L0) (0, ([] : List Int))).bind fun (z7 : (List Int)) => some z7

structure S_slots_slot where
  full : Bool
  words : (List Int)

structure S_slots_Slots where
  all : (Arr S_slots_slot 16)

noncomputable def m_slots_Slots_Twin_n  : Option (Option S_slots_Slots) :=
  some (none : (Option S_slots_Slots))

noncomputable def m_slots_New  : Option S_slots_Slots :=
  ((some (⟨[(⟨false, ([] : (List Int))⟩ : S_slots_slot), (⟨false, ([] : (List Int))⟩ : S_slots_slot), (⟨false, ([] : (List Int))⟩ : S_slots_slot), (⟨false, ([] : (List Int))⟩ : S_slots_slot), (⟨false, ([] : (List Int))⟩ : S_slots_slot), (⟨false, ([] : (List Int))⟩ : S_slots_slot), (⟨false, ([] : (List Int))⟩ : S_slots_slot), (⟨false, ([] : (List Int))⟩ : S_slots_slot), (⟨false, ([] : (List Int))⟩ : S_slots_slot), (⟨false, ([] : (List Int))⟩ : S_slots_slot), (⟨false, ([] : (List Int))⟩ : S_slots_slot), (⟨false, ([] : (List Int))⟩ : S_slots_slot), (⟨false, ([] : (List Int))⟩ : S_slots_slot), (⟨false, ([] : (List Int))⟩ : S_slots_slot), (⟨false, ([] : (List Int))⟩ : S_slots_slot), (⟨false, ([] : (List Int))⟩ : S_slots_slot)], rfl⟩ : (Arr S_slots_slot 16)))).bind fun y2 => some (⟨y2⟩ : S_slots_Slots)

noncomputable def m_slots_Slots_there (a0 : S_slots_Slots) (a1 : Int) : Option (Bool × S_slots_Slots) :=
  some ((cond (decide (0 ≤ a1)) (decide (a1 < 16)) false), a0)

noncomputable def m_slots_Slots_Put_L0 (a1 : (List Int)) (s0_ : (Int × (Arr S_slots_slot 16))) : Option ((Int × (Arr S_slots_slot 16)) ⊕ ((Arr S_slots_slot 16) ⊕ (Arr S_slots_slot 16))) :=
  cond (decide (s0_.1 < (a1.length : Int))) ((getI a1 s0_.1).bind fun x2 => (m_slots_Slots_there (⟨s0_.2⟩ : S_slots_Slots) x2).bind fun y4 => cond (!y4.1) (some (.inr (.inl y4.2.all))) (some (.inl ((IntKind.i64.wrap (s0_.1 + 1)), y4.2.all)))) (some (.inr (.inr s0_.2)))

noncomputable def m_slots_Slots_Put_L1 (a1 : (List Int)) (a2 : (List (List Int))) (s1_ : (Int × (Arr S_slots_slot 16))) : Option ((Int × (Arr S_slots_slot 16)) ⊕ (Arr S_slots_slot 16)) :=
  cond (decide (s1_.1 < (a1.length : Int))) ((getI a1 s1_.1).bind fun x9 => (getI a2 s1_.1).bind fun x10 => (m_slices_Clone_uint64_uint64 x10).bind fun y11 => (getI s1_.2.1 x9).bind fun x12 => some (.inl ((IntKind.i64.wrap (s1_.1 + 1)), (Arr.put s1_.2 x9 (⟨true, y11⟩ : S_slots_slot))))) (some (.inr s1_.2))

noncomputable def m_slots_Slots_Put (a0 : S_slots_Slots) (a1 : (List Int)) (a2 : (List (List Int))) : Option (Int × S_slots_Slots) :=
  cond ((a1.length : Int) != (a2.length : Int)) (some (2, a0)) ((runLoop (m_slots_Slots_Put_L0 a1) (0, a0.all)).bind fun (z7 : ((Arr S_slots_slot 16) ⊕ (Arr S_slots_slot 16))) => match z7 with | .inl z7 => some (15, (⟨z7⟩ : S_slots_Slots)) | .inr z7 => (runLoop (m_slots_Slots_Put_L1 a1 a2) (0, z7)).bind fun (z15 : (Arr S_slots_slot 16)) => some (0, (⟨z15⟩ : S_slots_Slots)))

noncomputable def m_slots_Slots_Has (a0 : S_slots_Slots) (a1 : Int) : Option (Bool × S_slots_Slots) :=
  ((m_slots_Slots_there a0 a1).bind fun y8 => cond y8.1 ((getI y8.2.all.1 a1).bind fun x9 => some ((cond y8.1 x9.full false), y8.2.all)) (some (false, y8.2.all))).bind fun (z4 : (Bool × (Arr S_slots_slot 16))) => some (z4.1, (⟨z4.2⟩ : S_slots_Slots))

noncomputable def m_slots_Slots_Get (a0 : S_slots_Slots) (a1 : Int) : Option ((List Int) × Int × S_slots_Slots) :=
  (m_slots_Slots_Has a0 a1).bind fun y2 => cond (!y2.1) (some (([] : (List Int)), 15, y2.2)) ((getI y2.2.all.1 a1).bind fun x6 => (m_slices_Clone_uint64_uint64 x6.words).bind fun y8 => some (y8, 0, y2.2))

noncomputable def m_centoref01_Same_L0 (a0 : (List Int)) (a1 : (List Int)) (s0_ : Int) : Option (Int ⊕ (Unit ⊕ Unit)) :=
  cond (decide (s0_ < (a0.length : Int))) ((getI a0 s0_).bind fun x3 => (getI a1 s0_).bind fun x4 => cond (x3 != x4) (some (.inr (.inl ()))) (some (.inl (IntKind.i64.wrap (s0_ + 1))))) (some (.inr (.inr ())))

noncomputable def m_centoref01_Same (a0 : (List Int)) (a1 : (List Int)) : Option Bool :=
  cond ((a0.length : Int) != (a1.length : Int)) (some false) ((runLoop (m_centoref01_Same_L0 a0 a1) 0).bind fun (z7 : (Unit ⊕ Unit)) => match z7 with | .inl z7 => some false | .inr z7 => some true)

noncomputable def m_slots_Slots_Full_L0 (s0_ : (Int × (List Int) × (Arr S_slots_slot 16))) : Option ((Int × (List Int) × (Arr S_slots_slot 16)) ⊕ ((List Int) × (Arr S_slots_slot 16))) :=
  cond (decide (s0_.1 < 16)) (((m_slots_Slots_Has (⟨s0_.2.2⟩ : S_slots_Slots) s0_.1).bind fun y3 => cond y3.1 ((appI 8 s0_.2.1 ([s0_.1] : List Int)).bind fun l4 => some (l4, y3.2.all)) (some (s0_.2.1, y3.2.all))).bind fun (z1 : ((List Int) × (Arr S_slots_slot 16))) => some (.inl ((IntKind.i64.wrap (s0_.1 + 1)), z1.1, z1.2))) (some (.inr (s0_.2.1, s0_.2.2)))

noncomputable def m_slots_Slots_Full (a0 : S_slots_Slots) : Option ((List Int) × S_slots_Slots) :=
  (runLoop (m_slots_Slots_Full_L0) (0, ([] : List Int), a0.all)).bind fun (z7 : ((List Int) × (Arr S_slots_slot 16))) => some (z7.1, (⟨z7.2⟩ : S_slots_Slots))

noncomputable def m_centoref16_SameInts_L0 (a0 : (List Int)) (a1 : (List Int)) (s0_ : Int) : Option (Int ⊕ (Unit ⊕ Unit)) :=
  cond (decide (s0_ < (a0.length : Int))) ((getI a0 s0_).bind fun x3 => (getI a1 s0_).bind fun x4 => cond (x3 != x4) (some (.inr (.inl ()))) (some (.inl (IntKind.i64.wrap (s0_ + 1))))) (some (.inr (.inr ())))

noncomputable def m_centoref16_SameInts (a0 : (List Int)) (a1 : (List Int)) : Option Bool :=
  cond ((a0.length : Int) != (a1.length : Int)) (some false) ((runLoop (m_centoref16_SameInts_L0 a0 a1) 0).bind fun (z7 : (Unit ⊕ Unit)) => match z7 with | .inl z7 => some false | .inr z7 => some true)

noncomputable def m_centolaw35_awake  : Option Bool :=
  (m_slots_New).bind fun y2 => (m_slots_Slots_Put y2 ([3] : List Int) ([([7] : List Int)] : List (List Int))).bind fun y4 => (m_slots_Slots_Get y4.2 3).bind fun y6 => (cond (y4.1 == 0) (cond (y6.2.1 == 0) ((m_centoref01_Same y6.1 ([7] : List Int)).bind fun y16 => cond y16 ((m_slots_Slots_Full y6.2.2).bind fun y17 => (m_centoref16_SameInts y17.1 ([3] : List Int)).bind fun y18 => cond y18 ((m_slots_Slots_Has y17.2 2).bind fun y19 => some (cond (cond (cond (cond (y4.1 == 0) (y6.2.1 == 0) false) y16 false) y18 false) (!y19.1) false)) (some false)) (some false)) (some false)) (some false)).bind fun (z11 : Bool) => some z11

structure S_centolaw35_Deed where
  Kind : Int
  I : Int
  At : (List Int)
  L : (List (List Int))

noncomputable def m_centolaw35_SlotsNone (a0 : S_centolaw35_Deed) : Option Bool :=
  (m_slots_Slots_Get_n a0.I).bind fun y2 => (m_slots_Slots_Put_n a0.At a0.L).bind fun y4 => (cond ((a0.At.length : Int) != (a0.L.length : Int)) (some 2) (cond ((a0.At.length : Int) == 0) (some 0) (some 15))).bind fun (z5 : Int) => (cond (y2.2 == 15) (cond (y4 == z5) ((m_slots_Slots_Drop_n a0.I).bind fun y21 => cond (y21 == 15) ((m_slots_Slots_Has_n a0.I).bind fun y22 => cond y22 (some false) ((m_slots_Slots_Full_n).bind fun y23 => cond ((y23.length : Int) == 0) ((m_slots_Slots_Twin_n).bind fun y24 => cond (Option.isNone y24) ((m_centolaw35_awake).bind fun y26 => some (cond (cond (cond (cond (cond (cond (y2.2 == 15) (y4 == z5) false) (y21 == 15) false) (!y22) false) ((y23.length : Int) == 0) false) (Option.isNone y24) false) y26 false)) (some false)) (some false))) (some false)) (some false)) (some false)).bind fun (z14 : Bool) => some z14

end Go.Proofs.Ytkdanjfmobibbaa
