/- Part ND of this seat's mirrors: functions of the seat's program, and the plain functions that they are; each theorem bears its own conditions. -/
import Derived.Test.YtpggbianhdebmaaH26
namespace Go.Proofs.Ytpggbianhdebmaa
open Go.RowKit
set_option linter.unusedVariables false
set_option linter.unusedSimpArgs false
set_option maxRecDepth 100000
set_option maxHeartbeats 4000000
noncomputable def m_arena_Arena_Len_n  : Option Int :=
  some 0

noncomputable def m_arena_Arena_there_n (a1 : Int) : Option Bool :=
  (cond (decide (0 ≤ a1)) ((m_arena_Arena_Len_n).bind fun y4 => some (cond (decide (0 ≤ a1)) (decide (a1 < y4)) false)) (some false)).bind fun (z2 : Bool) => some z2

noncomputable def m_arena_Arena_Size_n (a1 : Int) : Option Int :=
  (m_arena_Arena_there_n a1).bind fun y2 => cond (!y2) (some 0) (none)

noncomputable def m_arena_Arena_Has_n (a1 : Int) (a2 : Int) (a3 : Int) : Option Bool :=
  ((m_arena_Arena_there_n a1).bind fun y8 => cond y8 (cond (decide (0 ≤ a2)) (cond (decide (0 ≤ a3)) ((m_arena_Arena_Size_n a1).bind fun y9 => cond (decide (a3 ≤ y9)) ((m_arena_Arena_Size_n a1).bind fun y10 => some (cond (cond (cond (cond y8 (decide (0 ≤ a2)) false) (decide (0 ≤ a3)) false) (decide (a3 ≤ y9)) false) (decide (a2 ≤ (IntKind.i64.wrap (y10 - a3)))) false)) (some false)) (some false)) (some false)) (some false)).bind fun (z4 : Bool) => some z4

noncomputable def m_arena_Arena_Get_n (a1 : Int) (a2 : Int) : Option (Int × Bool) :=
  (m_arena_Arena_Has_n a1 a2 1).bind fun y2 => cond (!y2) (some (0, false)) (none)

noncomputable def m_slices_Clone_uint64_uint64 (a0 : List Int) : Option (List Int) :=
  appI 8 ([] : List Int) a0

noncomputable def m_arena_Arena_Part_n (a1 : Int) (a2 : Int) (a3 : Int) : Option ((List Int) × Bool) :=
  (m_arena_Arena_Has_n a1 a2 a3).bind fun y2 => cond (!y2) (some (([] : (List Int)), false)) (none)

noncomputable def m_arena_Arena_fits_n (a1 : Int) (a2 : Int) : Option Bool :=
  none

noncomputable def m_arena_Arena_grow_n (a1 : Int) (a2 : Int) : Option Int :=
  none

noncomputable def m_arena_Arena_In_n (a1 : Int) (a2 : Int) : Option (Int × Bool) :=
  ((m_arena_Arena_there_n a1).bind fun y4 => cond y4 (cond (decide (a2 < 0)) (some ()) (none)) (some ())).bind fun (z2 : Unit) => some (0, false)

noncomputable def m_arena_Arena_Give_n (a1 : Int) : Option (Int × Int × Bool) :=
  some (0, 0, false)

noncomputable def m_arena_Arena_Put_n (a1 : Int) (a2 : Int) (a3 : Int) : Option Bool :=
  (m_arena_Arena_Has_n a1 a2 1).bind fun y2 => cond (!y2) (some false) (none)

noncomputable def m_arena_Arena_Left_n  : Option Int :=
  some 0

noncomputable def m_arena_clone_L0 (a0 : (List (List Int))) (s0_ : (Int × (List (List Int)))) : Option ((Int × (List (List Int))) ⊕ (List (List Int))) :=
  cond (decide (s0_.1 < (a0.length : Int))) ((getI a0 s0_.1).bind fun x4 => (m_slices_Clone_uint64_uint64 x4).bind fun y5 => (getI s0_.2 s0_.1).bind fun x6 => some (.inl ((IntKind.i64.wrap (s0_.1 + 1)), (setI s0_.2 s0_.1 y5)))) (some (.inr s0_.2))

noncomputable def m_arena_clone (a0 : (List (List Int))) : Option (List (List Int)) :=
  (makeI 24 (a0.length : Int) ([] : (List Int))).bind fun l2 => (runLoop (m_arena_clone_L0 a0) (0, l2)).bind fun (z9 : (List (List Int))) => some z9

noncomputable def m_arena_Arena_Segments_n  : Option (List (List Int)) :=
  some ([] : (List (List Int)))

structure S_arena_Arena where
  segments : (List (List Int))
  size : Int
  left : Int

noncomputable def m_arena_New (a0 : Int) (a1 : Int) : Option S_arena_Arena :=
  some (⟨([] : (List (List Int))), (if a0 < 1 then 1 else a0), (if 131072 < (if a1 < 0 then 0 else a1) then 131072 else (if a1 < 0 then 0 else a1))⟩ : S_arena_Arena)

noncomputable def m_centolaw05_awake  : Option Bool :=
  some true

structure S_centolaw05_Deed where
  Kind : Int
  S : Int
  At : Int
  N : Int
  W : Int

noncomputable def m_centolaw05_ArenaNone (a0 : S_centolaw05_Deed) : Option Bool :=
  some true

end Go.Proofs.Ytpggbianhdebmaa
