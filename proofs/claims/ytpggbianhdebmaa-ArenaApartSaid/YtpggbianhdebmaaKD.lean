/- Part KD of this seat's mirrors: functions of the seat's program, and the plain functions that they are; each theorem bears its own conditions. -/
import Derived.Test.YtpggbianhdebmaaH26
namespace Go.Proofs.Ytpggbianhdebmaa
open Go.RowKit
set_option linter.unusedVariables false
set_option linter.unusedSimpArgs false
set_option maxRecDepth 100000
set_option maxHeartbeats 4000000
structure S_arena_Arena where
  segments : (List (List Int))
  size : Int
  left : Int

noncomputable def m_arena_New (a0 : Int) (a1 : Int) : Option S_arena_Arena :=
  some (⟨([] : (List (List Int))), (if a0 < 1 then 1 else a0), (if 131072 < (if a1 < 0 then 0 else a1) then 131072 else (if a1 < 0 then 0 else a1))⟩ : S_arena_Arena)

def zl (s : List Int) (k : Int) : List Int := s ++ List.replicate k.toNat 0
/-- what Give does -/
def lastS (segs : List (List Int)) : List Int := (segs[segs.length - 1]?).getD []
open Classical in
noncomputable def giveR (segs : List (List Int)) (size left k : Int) : Int × Int × Bool × List (List Int) × Int :=
  if k < 0 ∨ left < k then (0, 0, false, segs, left)
  else if segs.length = 0 ∨ segs.length < 16 ∧ ¬ k ≤ IntKind.i64.wrap (size - ((lastS segs).length : Int)) then ((segs.length : Int), 0, true, segs ++ [zl [] k], IntKind.i64.wrap (left - k))
  else ((segs.length : Int) - 1, ((lastS segs).length : Int), true, segs.set (segs.length - 1) (zl (lastS segs) k), IntKind.i64.wrap (left - k))
open Classical in
noncomputable def m_arena_Arena_Give (a0 : S_arena_Arena) (a1 : Int) : Option (Int × Int × Bool × S_arena_Arena) :=
  if a0.segments.length ≤ 16 ∧ (∀ s ∈ a0.segments, s.length ≤ 900000) ∧ a1 ≤ 100000 then
    some ((giveR a0.segments a0.size a0.left a1).1, (giveR a0.segments a0.size a0.left a1).2.1, (giveR a0.segments a0.size a0.left a1).2.2.1, ⟨(giveR a0.segments a0.size a0.left a1).2.2.2.1, a0.size, (giveR a0.segments a0.size a0.left a1).2.2.2.2⟩)
  else none

noncomputable def m_arena_Arena_Len (a0 : (Option S_arena_Arena)) : Option Int :=
  cond (Option.isNone a0) (some 0) ((a0).bind fun x4 => some (x4.segments.length : Int))

noncomputable def m_arena_Arena_there (a0 : (Option S_arena_Arena)) (a1 : Int) : Option Bool :=
  (cond (decide (0 ≤ a1)) ((m_arena_Arena_Len a0).bind fun y4 => some (cond (decide (0 ≤ a1)) (decide (a1 < y4)) false)) (some false)).bind fun (z2 : Bool) => some z2

noncomputable def m_arena_Arena_Size (a0 : (Option S_arena_Arena)) (a1 : Int) : Option Int :=
  (m_arena_Arena_there a0 a1).bind fun y2 => cond (!y2) (some 0) ((a0).bind fun x5 => (getI x5.segments a1).bind fun x6 => some (x6.length : Int))

noncomputable def m_arena_Arena_Has (a0 : (Option S_arena_Arena)) (a1 : Int) (a2 : Int) (a3 : Int) : Option Bool :=
  ((m_arena_Arena_there a0 a1).bind fun y8 => cond y8 (cond (decide (0 ≤ a2)) (cond (decide (0 ≤ a3)) ((m_arena_Arena_Size a0 a1).bind fun y9 => cond (decide (a3 ≤ y9)) ((m_arena_Arena_Size a0 a1).bind fun y10 => some (cond (cond (cond (cond y8 (decide (0 ≤ a2)) false) (decide (0 ≤ a3)) false) (decide (a3 ≤ y9)) false) (decide (a2 ≤ (IntKind.i64.wrap (y10 - a3)))) false)) (some false)) (some false)) (some false)) (some false)).bind fun (z4 : Bool) => some z4

noncomputable def m_centolaw05_awake  : Option Bool :=
  some true

structure S_Three where
  f0 : Int
  f1 : Int
  f2 : Int

noncomputable def m_centolaw05_ArenaApart_L1 (s0_ : (Int × Int × Int × (List S_Three) × (List (List Int)))) (x5 : Int) (y7 : (Int × Int × Bool × S_arena_Arena)) (s1_ : Int) : Option (Int ⊕ (Unit ⊕ Unit)) :=
  cond (decide (s1_ < (s0_.2.2.2.1.length : Int))) ((getI s0_.2.2.2.1 s1_).bind fun x9 => cond (cond (cond (cond (cond (x9.f0 == y7.1) (decide (0 < (IntKind.i64.wrap (landI .i64 x5 31)))) false) (decide (0 < x9.f2)) false) (decide (y7.2.1 < (IntKind.i64.wrap (x9.f1 + x9.f2)))) false) (decide (x9.f1 < (IntKind.i64.wrap (y7.2.1 + (IntKind.i64.wrap (landI .i64 x5 31)))))) false) (some (.inr (.inl ()))) (some (.inl (IntKind.i64.wrap (s1_ + 1))))) (some (.inr (.inr ())))

noncomputable def m_centolaw05_ArenaApart_L0 (a2 : (List Int)) (s0_ : (Int × Int × Int × (List S_Three) × (List (List Int)))) : Option ((Int × Int × Int × (List S_Three) × (List (List Int))) ⊕ (Unit ⊕ Unit)) :=
  cond (cond (decide (s0_.1 < (a2.length : Int))) (decide (s0_.1 < 60)) false) (((getI a2 s0_.1).bind fun x5 => (m_arena_Arena_Give (⟨s0_.2.2.2.2, s0_.2.1, s0_.2.2.1⟩ : S_arena_Arena) (IntKind.i64.wrap (landI .i64 x5 31))).bind fun y7 => cond (!y7.2.2.1) (some (.inl (y7.2.2.2.size, y7.2.2.2.left, s0_.2.2.2.1, y7.2.2.2.segments))) ((runLoop (m_centolaw05_ArenaApart_L1 s0_ x5 y7) 0).bind fun (z12 : (Unit ⊕ Unit)) => match z12 with | .inl z12 => some (.inr ()) | .inr z12 => ((m_arena_Arena_Has (some (⟨y7.2.2.2.segments, y7.2.2.2.size, y7.2.2.2.left⟩ : S_arena_Arena)) y7.1 y7.2.1 (IntKind.i64.wrap (landI .i64 x5 31))).bind fun y18 => cond y18 ((m_arena_Arena_Len (some (⟨y7.2.2.2.segments, y7.2.2.2.size, y7.2.2.2.left⟩ : S_arena_Arena))).bind fun y19 => some (cond (!y18) true (decide (16 < y19)))) (some true)).bind fun (z15 : Bool) => cond z15 (some (.inr ())) ((appI 24 s0_.2.2.2.1 ([(⟨y7.1, y7.2.1, (IntKind.i64.wrap (landI .i64 x5 31))⟩ : S_Three)] : List S_Three)).bind fun l21 => some (.inl (y7.2.2.2.size, y7.2.2.2.left, l21, y7.2.2.2.segments))))).bind fun (z3 : ((Int × Int × (List S_Three) × (List (List Int))) ⊕ Unit)) => match z3 with | .inl z3 => some (.inl ((IntKind.i64.wrap (s0_.1 + 1)), z3.1, z3.2.1, z3.2.2.1, z3.2.2.2)) | .inr z3 => some (.inr (.inl ()))) (some (.inr (.inr ())))

noncomputable def m_centolaw05_ArenaApart (a0 : Int) (a1 : Int) (a2 : (List Int)) : Option Bool :=
  (m_arena_New a0 a1).bind fun y2 => (runLoop (m_centolaw05_ArenaApart_L0 a2) (0, y2.size, y2.left, ([] : List S_Three), y2.segments)).bind fun (z25 : (Unit ⊕ Unit)) => match z25 with | .inl z25 => some false | .inr z25 => (m_centolaw05_awake).bind fun y27 => some y27

end Go.Proofs.Ytpggbianhdebmaa
