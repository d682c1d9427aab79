/- Part H26 of the ghost memory: lemmas and contracts used by the proofs of this seat's laws; each theorem bears its own conditions. -/
import Derived.Test.YtgffgbdnbjbmoaaH25
import Derived.WalkKit
import Derived.WalkSpells
import Derived.WalkLawsBesides
import Derived.Lib.Hide
import Derived.BigQuiet
import Derived.StillTailTactics
import Derived.Deep.RegionHeld3
import Derived.Deep.AppendLies
import Derived.Laws.CopyOwn
import Derived.Deep.DeepCutAuto
import Derived.Deep.QuietTactic
import Derived.Maps.AppendAt
import Derived.Great.BuildSlice
import Derived.Laws.StructEq
import Derived.ChangeKeysEq
import Derived.IntWalk
import Derived.Lib.AppendZeros
import Derived.Lib.AppendZerosOnto
import Derived.ProofKit
import Derived.OpenShut
import Derived.SizedLaws
import Derived.Deep.Slices
namespace Go.Proofs.Ytgffgbdnbjbmoaa
open Go.RowKit
set_option linter.unusedVariables false
set_option linter.unusedSimpArgs false
def Zz8 {α : Type} (xs : List α) (lo : Int) (ys : List α) : List α := xs.take lo.toNat ++ ys.take (xs.length - lo.toNat) ++ xs.drop (lo.toNat + ys.length)
theorem Zlt {α : Type} (xs : List α) (lo : Int) (ys : List α) : (Zz8 xs lo ys).length = xs.length := by
 unfold Zz8
 rw [List.length_append, List.length_append, List.length_take, List.length_take, List.length_drop]
 omega
end Go.Proofs.Ytgffgbdnbjbmoaa
