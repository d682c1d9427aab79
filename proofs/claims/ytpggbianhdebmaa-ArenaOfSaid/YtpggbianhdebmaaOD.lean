/- Part OD of this seat's mirrors: functions of the seat's program, and the plain functions that they are; each theorem bears its own conditions. -/
import Derived.Test.YtpggbianhdebmaaH26
namespace Go.Proofs.Ytpggbianhdebmaa
open Go.RowKit
set_option linter.unusedVariables false
set_option linter.unusedSimpArgs false
set_option maxRecDepth 100000
set_option maxHeartbeats 4000000
noncomputable def m_slices_Clone_uint64_uint64 (a0 : List Int) : Option (List Int) :=
  appI 8 ([] : List Int) a0

noncomputable def m_arena_clone_L0 (a0 : (List (List Int))) (s0_ : (Int × (List (List Int)))) : Option ((Int × (List (List Int))) ⊕ (List (List Int))) :=
  cond (decide (s0_.1 < (a0.length : Int))) ((getI a0 s0_.1).bind fun x4 => (m_slices_Clone_uint64_uint64 x4).bind fun y5 => (getI s0_.2 s0_.1).bind fun x6 => some (.inl ((IntKind.i64.wrap (s0_.1 + 1)), (setI s0_.2 s0_.1 y5)))) (some (.inr s0_.2))

noncomputable def m_arena_clone (a0 : (List (List Int))) : Option (List (List Int)) :=
  (makeI 24 (a0.length : Int) ([] : (List Int))).bind fun l2 => (runLoop (m_arena_clone_L0 a0) (0, l2)).bind fun (z9 : (List (List Int))) => some z9

structure S_arena_Arena where
  segments : (List (List Int))
  size : Int
  left : Int

noncomputable def m_arena_Of (a0 : (List (List Int))) : Option S_arena_Arena :=
  (m_arena_clone a0).bind fun y2 => some (⟨y2, 0, 0⟩ : S_arena_Arena)

noncomputable def m_centoref01_Same_L0 (a0 : (List Int)) (a1 : (List Int)) (s0_ : Int) : Option (Int ⊕ (Unit ⊕ Unit)) :=
  cond (decide (s0_ < (a0.length : Int))) ((getI a0 s0_).bind fun x3 => (getI a1 s0_).bind fun x4 => cond (x3 != x4) (some (.inr (.inl ()))) (some (.inl (IntKind.i64.wrap (s0_ + 1))))) (some (.inr (.inr ())))

noncomputable def m_centoref01_Same (a0 : (List Int)) (a1 : (List Int)) : Option Bool :=
  cond ((a0.length : Int) != (a1.length : Int)) (some false) ((runLoop (m_centoref01_Same_L0 a0 a1) 0).bind fun (z7 : (Unit ⊕ Unit)) => match z7 with | .inl z7 => some false | .inr z7 => some true)

noncomputable def m_centoref03_Same_L0 (a0 : (List (List Int))) (a1 : (List (List Int))) (s0_ : Int) : Option (Int ⊕ (Unit ⊕ Unit)) :=
  cond (decide (s0_ < (a0.length : Int))) ((getI a0 s0_).bind fun x4 => (getI a1 s0_).bind fun x5 => (m_centoref01_Same x4 x5).bind fun y6 => cond (!y6) (some (.inr (.inl ()))) (some (.inl (IntKind.i64.wrap (s0_ + 1))))) (some (.inr (.inr ())))

noncomputable def m_centoref03_Same (a0 : (List (List Int))) (a1 : (List (List Int))) : Option Bool :=
  cond ((a0.length : Int) != (a1.length : Int)) (some false) ((runLoop (m_centoref03_Same_L0 a0 a1) 0).bind fun (z9 : (Unit ⊕ Unit)) => match z9 with | .inl z9 => some false | .inr z9 => some true)

noncomputable def m_arena_Arena_fits (a0 : S_arena_Arena) (a1 : Int) (a2 : Int) : Option (Bool × S_arena_Arena) :=
  (getI a0.segments a1).bind fun x2 => some ((decide (a2 ≤ (IntKind.i64.wrap (a0.size - (x2.length : Int))))), (⟨a0.segments, a0.size, a0.left⟩ : S_arena_Arena))

noncomputable def m_arena_Arena_grow (a0 : S_arena_Arena) (a1 : Int) (a2 : Int) : Option (Int × S_arena_Arena) :=
  if a2 = 0 then ((getI a0.segments a1).bind fun x2 => (getI a0.segments a1).bind fun x6 => some ((x2.length : Int), (⟨(setI a0.segments a1 x6), a0.size, (IntKind.i64.wrap (a0.left - a2))⟩ : S_arena_Arena))) else none

noncomputable def m_arena_Arena_Give (a0 : S_arena_Arena) (a1 : Int) : Option (Int × Int × Bool × S_arena_Arena) :=
  (cond (decide (a1 < 0)) (some true) (some (cond (decide (a1 < 0)) true (decide (a0.left < a1))))).bind fun (z1 : Bool) => cond z1 (some (0, 0, false, (⟨a0.segments, a0.size, a0.left⟩ : S_arena_Arena))) (((cond (decide ((IntKind.i64.wrap ((a0.segments.length : Int) - 1)) < 0)) (some (true, a0.segments, a0.size, a0.left)) ((m_arena_Arena_fits (⟨a0.segments, a0.size, a0.left⟩ : S_arena_Arena) (IntKind.i64.wrap ((a0.segments.length : Int) - 1)) a1).bind fun y7 => cond y7.1 (some ((cond (decide ((IntKind.i64.wrap ((a0.segments.length : Int) - 1)) < 0)) true false), y7.2.segments, y7.2.size, y7.2.left)) (some ((cond (decide ((IntKind.i64.wrap ((a0.segments.length : Int) - 1)) < 0)) true (cond (!y7.1) (decide ((y7.2.segments.length : Int) < 16)) false)), y7.2.segments, y7.2.size, y7.2.left)))).bind fun (z5 : (Bool × (List (List Int)) × Int × Int)) => cond z5.1 ((appI 24 z5.2.1 ([([] : (List Int))] : List (List Int))).bind fun l11 => some ((IntKind.i64.wrap ((IntKind.i64.wrap ((a0.segments.length : Int) - 1)) + 1)), l11, z5.2.2.1, z5.2.2.2)) (some ((IntKind.i64.wrap ((a0.segments.length : Int) - 1)), z5.2.1, z5.2.2.1, z5.2.2.2))).bind fun (z3 : (Int × (List (List Int)) × Int × Int)) => (m_arena_Arena_grow (⟨z3.2.1, z3.2.2.1, z3.2.2.2⟩ : S_arena_Arena) z3.1 a1).bind fun y14 => some (z3.1, y14.1, true, (⟨y14.2.segments, y14.2.size, y14.2.left⟩ : S_arena_Arena)))

noncomputable def m_arena_Arena_Len (a0 : S_arena_Arena) : Option (Int × S_arena_Arena) :=
  some ((a0.segments.length : Int), (⟨a0.segments, a0.size, a0.left⟩ : S_arena_Arena))

noncomputable def m_arena_Arena_there (a0 : S_arena_Arena) (a1 : Int) : Option (Bool × S_arena_Arena) :=
  (cond (decide (0 ≤ a1)) ((m_arena_Arena_Len (⟨a0.segments, a0.size, a0.left⟩ : S_arena_Arena)).bind fun y4 => some ((cond (decide (0 ≤ a1)) (decide (a1 < y4.1)) false), y4.2.segments, y4.2.size, y4.2.left)) (some (false, a0.segments, a0.size, a0.left))).bind fun (z2 : (Bool × (List (List Int)) × Int × Int)) => some (z2.1, (⟨z2.2.1, z2.2.2.1, z2.2.2.2⟩ : S_arena_Arena))

noncomputable def m_arena_Arena_In (a0 : S_arena_Arena) (a1 : Int) (a2 : Int) : Option (Int × Bool × S_arena_Arena) :=
  ((m_arena_Arena_there (⟨a0.segments, a0.size, a0.left⟩ : S_arena_Arena) a1).bind fun y6 => cond y6.1 (cond (decide (a2 < 0)) (some (true, y6.2.segments, y6.2.size, y6.2.left)) (cond (decide (y6.2.left < a2)) (some (true, y6.2.segments, y6.2.size, y6.2.left)) ((m_arena_Arena_fits (⟨y6.2.segments, y6.2.size, y6.2.left⟩ : S_arena_Arena) a1 a2).bind fun y7 => some ((cond (cond (cond (!y6.1) true (decide (a2 < 0))) true (decide (y6.2.left < a2))) true (!y7.1)), y7.2.segments, y7.2.size, y7.2.left)))) (some (true, y6.2.segments, y6.2.size, y6.2.left))).bind fun (z3 : (Bool × (List (List Int)) × Int × Int)) => cond z3.1 (some (0, false, (⟨z3.2.1, z3.2.2.1, z3.2.2.2⟩ : S_arena_Arena))) ((m_arena_Arena_grow (⟨z3.2.1, z3.2.2.1, z3.2.2.2⟩ : S_arena_Arena) a1 a2).bind fun y12 => some (y12.1, true, (⟨y12.2.segments, y12.2.size, y12.2.left⟩ : S_arena_Arena)))

noncomputable def m_arena_Arena_Left (a0 : (Option S_arena_Arena)) : Option Int :=
  cond (Option.isNone a0) (some 0) ((a0).bind fun x4 => some x4.left)

noncomputable def m_arena_New (a0 : Int) (a1 : Int) : Option S_arena_Arena :=
  some (⟨([] : (List (List Int))), (if a0 < 1 then 1 else a0), (if 131072 < (if a1 < 0 then 0 else a1) then 131072 else (if a1 < 0 then 0 else a1))⟩ : S_arena_Arena)

noncomputable def m_centolaw05_awake  : Option Bool :=
  some true

noncomputable def m_centolaw05_ArenaOf_L0 (a0 : (List (List Int))) (s0_ : (Int × (List (List Int)))) : Option ((Int × (List (List Int))) ⊕ (List (List Int))) :=
  cond (decide (s0_.1 < (a0.length : Int))) ((getI a0 s0_.1).bind fun x1 => (appI 8 ([] : List Int) x1).bind fun l2 => (appI 24 s0_.2 ([l2] : List (List Int))).bind fun l3 => some (.inl ((IntKind.i64.wrap (s0_.1 + 1)), l3))) (some (.inr s0_.2))

noncomputable def m_centolaw05_ArenaOf (a0 : (List (List Int))) (a1 : Int) (a2 : Int) (a3 : Int) : Option Bool :=
  (runLoop (m_centolaw05_ArenaOf_L0 a0) (0, ([] : List (List Int)))).bind fun (z5 : (List (List Int))) => (m_arena_Of z5).bind fun y7 => ((cond (decide (0 ≤ a1)) (cond (decide (a1 < (z5.length : Int))) (cond (decide (0 ≤ a2)) ((getI z5 a1).bind fun x12 => some (cond (cond (cond (decide (0 ≤ a1)) (decide (a1 < (z5.length : Int))) false) (decide (0 ≤ a2)) false) (decide (a2 < (x12.length : Int))) false)) (some false)) (some false)) (some false)).bind fun (z10 : Bool) => cond z10 ((getI z5 a1).bind fun x16 => (getI x16 a2).bind fun x18 => some ()) (some ())).bind fun (z8 : Unit) => (m_arena_clone y7.segments).bind fun y20 => (m_centoref03_Same y20 a0).bind fun y21 => (m_arena_Arena_Give (⟨y7.segments, y7.size, y7.left⟩ : S_arena_Arena) a3).bind fun y23 => (m_arena_Arena_In (⟨y23.2.2.2.segments, y23.2.2.2.size, y23.2.2.2.left⟩ : S_arena_Arena) a1 a3).bind fun y25 => (cond y21 ((m_arena_Arena_Left (some (⟨y25.2.2.segments, y25.2.2.size, y25.2.2.left⟩ : S_arena_Arena))).bind fun y37 => cond (y37 == 0) (cond y23.2.2.1 (cond (a3 == 0) (cond y25.2.1 ((m_centolaw05_awake).bind fun y38 => some (cond (cond (cond (cond y21 (y37 == 0) false) (cond (!y23.2.2.1) true (a3 == 0)) false) (cond (!y25.2.1) true (a3 == 0)) false) y38 false)) ((m_centolaw05_awake).bind fun y39 => some (cond (cond (cond (cond y21 (y37 == 0) false) (cond (!y23.2.2.1) true (a3 == 0)) false) (cond (!y25.2.1) true (a3 == 0)) false) y39 false))) (some false)) (cond y25.2.1 (cond (a3 == 0) ((m_centolaw05_awake).bind fun y40 => some (cond (cond (cond (cond y21 (y37 == 0) false) (cond (!y23.2.2.1) true (a3 == 0)) false) (cond (!y25.2.1) true (a3 == 0)) false) y40 false)) (some false)) ((m_centolaw05_awake).bind fun y41 => some (cond (cond (cond (cond y21 (y37 == 0) false) (cond (!y23.2.2.1) true (a3 == 0)) false) (cond (!y25.2.1) true (a3 == 0)) false) y41 false)))) (some false)) (some false)).bind fun (z31 : Bool) => some z31

end Go.Proofs.Ytpggbianhdebmaa
