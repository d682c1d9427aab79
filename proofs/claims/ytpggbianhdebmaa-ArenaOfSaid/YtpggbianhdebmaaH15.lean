/- Part H15 of the ghost memory: lemmas and contracts used by the proofs of this seat's laws; each theorem bears its own conditions. -/
import Derived.Test.YtpggbianhdebmaaH14
import Derived.WalkKit
import Derived.WalkSpells
import Derived.WalkLawsBesides
import Derived.Lib.Hide
import Derived.BigQuiet
import Derived.StillTailTactics
import Derived.Deep.RegionHeld3
import Derived.Deep.AppendLies
import Derived.Laws.CopyOwn
import Derived.Deep.DeepCutAuto
import Derived.Deep.QuietTactic
import Derived.Maps.AppendAt
import Derived.Great.BuildSlice
import Derived.Laws.StructEq
import Derived.ChangeKeysEq
import Derived.IntWalk
import Derived.Lib.AppendZeros
import Derived.Lib.AppendZerosOnto
import Derived.ProofKit
import Derived.OpenShut
import Derived.SizedLaws
import Derived.Deep.Slices
namespace Go.Proofs.Ytpggbianhdebmaa
open Go.RowKit
set_option linter.unusedVariables false
set_option linter.unusedSimpArgs false
/-- what a rising row of answers comes to -/
noncomputable def lim {R : Type} (F : Nat → Option R) : Option R :=
  @dite _ (∃ r, ∃ K, ∀ k, K ≤ k → F k = some r) (Classical.propDecidable _) (fun h => some h.choose) (fun _ => none)
theorem lim_some {R : Type} {F : Nat → Option R} {r : R} (h : lim F = some r) : ∃ k, F k = some r := by
  unfold lim at h
  split at h
  · rename_i hx
    injection h with h
    obtain ⟨K, hK⟩ := hx.choose_spec
    exact ⟨K, by rw [← h]; exact hK K (Nat.le_refl _)⟩
  · cases h
theorem lim_eq {R : Type} {F : Nat → Option R} {r : R} (K : Nat) (h : ∀ k, K ≤ k → F k = some r) : lim F = some r := by
  have hx : ∃ r, ∃ K, ∀ k, K ≤ k → F k = some r := ⟨r, K, h⟩
  unfold lim
  rw [dif_pos hx]
  obtain ⟨K', hK'⟩ := hx.choose_spec
  have a := hK' (max K K') (Nat.le_max_right _ _)
  rw [h (max K K') (Nat.le_max_left _ _)] at a
  exact a.symm

end Go.Proofs.Ytpggbianhdebmaa
