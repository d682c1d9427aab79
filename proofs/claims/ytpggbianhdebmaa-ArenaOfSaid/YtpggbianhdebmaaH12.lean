/- Part H12 of the ghost memory: lemmas and contracts used by the proofs of this seat's laws; each theorem bears its own conditions. -/
import Derived.Test.YtpggbianhdebmaaH11
import Derived.WalkKit
import Derived.WalkSpells
import Derived.WalkLawsBesides
import Derived.Lib.Hide
import Derived.BigQuiet
import Derived.StillTailTactics
import Derived.Deep.RegionHeld3
import Derived.Deep.AppendLies
import Derived.Laws.CopyOwn
import Derived.Deep.DeepCutAuto
import Derived.Deep.QuietTactic
import Derived.Maps.AppendAt
import Derived.Great.BuildSlice
import Derived.Laws.StructEq
import Derived.ChangeKeysEq
import Derived.IntWalk
import Derived.Lib.AppendZeros
import Derived.Lib.AppendZerosOnto
import Derived.ProofKit
import Derived.OpenShut
import Derived.SizedLaws
import Derived.Deep.Slices
namespace Go.Proofs.Ytpggbianhdebmaa
open Go.RowKit
set_option linter.unusedVariables false
set_option linter.unusedSimpArgs false
/-- as many of a list's as there is room for, from the first on -/
def Arr.cpy {α : Type} {N : Nat} (a : Arr α N) (ys : List α) : Arr α N := ⟨ys.take N ++ a.1.drop (ys.take N).length, by
  rw [List.length_append, List.length_drop, a.2, List.length_take]; omega⟩
theorem gplace_cpy {α : Type} {N : Nat} {f : α → List G} (a : Arr α N) (ys : List α) (hf : ∀ x, (f x).length = 1) : gplace (fl f a.1) (List.take (min ys.length N) (fl f ys)) 0 = some (fl f (a.cpy ys).1) := by
  have e1 : List.take (min ys.length N) (fl f ys) = fl f (ys.take N) := by
    have := fl_take hf (min ys.length N) ys
    rw [Nat.mul_one] at this
    rw [this]
    congr 1
    rcases Nat.le_total ys.length N with h | h
    · rw [Nat.min_eq_left h, List.take_of_length_le h, List.take_of_length_le (Nat.le_refl _)]
    · rw [Nat.min_eq_right h]
  have e2 : (fl f (ys.take N)).length = (ys.take N).length := by rw [fl_length hf, Nat.mul_one]
  have e3 : (fl f a.1).drop (ys.take N).length = fl f (a.1.drop (ys.take N).length) := by
    have := fl_drop hf (ys.take N).length a.1
    rw [Nat.mul_one] at this
    exact this
  unfold gplace
  rw [e1, if_pos (by rw [fl_length hf a.1, a.2, Nat.mul_one, e2, List.length_take]; omega), Nat.zero_add, e2, e3, List.take_zero, List.nil_append, ← fl_append]
  rfl
theorem setI_len {α : Type} (xs : List α) (i : Int) (x : α) : (setI xs i x).length = xs.length := by rw [setI, List.length_set]

end Go.Proofs.Ytpggbianhdebmaa
