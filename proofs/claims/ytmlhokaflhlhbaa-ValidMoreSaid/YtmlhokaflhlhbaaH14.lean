/- Part H14 of the ghost memory: lemmas and contracts used by the proofs of this seat's laws; each theorem bears its own conditions. -/
import Derived.Test.YtmlhokaflhlhbaaH13
import Derived.WalkKit
import Derived.WalkSpells
import Derived.WalkLawsBesides
import Derived.Lib.Hide
import Derived.BigQuiet
import Derived.StillTailTactics
import Derived.Deep.RegionHeld3
import Derived.Deep.AppendLies
import Derived.Laws.CopyOwn
import Derived.Deep.DeepCutAuto
import Derived.Deep.QuietTactic
import Derived.Maps.AppendAt
import Derived.Great.BuildSlice
import Derived.Laws.StructEq
import Derived.IntWalk
import Derived.ProofKit
import Derived.OpenShut
import Derived.SizedLaws
import Derived.Deep.Slices
namespace Go.Proofs.Ytmlhokaflhlhbaa
open Go.RowKit
set_option linter.unusedVariables false
set_option linter.unusedSimpArgs false
theorem Zpu {α : Type} {xs : List α} {i : Nat} {x : α} (h : xs[i]? = some x) : K7 xs (i : Int) = some x := by
 unfold K7; rw [if_pos (Int.natCast_nonneg _), Int.toNat_natCast, h]
theorem Zsp {α : Type} {b : Nat} {xs ys : List α} (h1 : (xs.length + ys.length) * b ≤ 140737488355328) (h2 : xs.length + ys.length ≤ 140737488355328) : Zl4 b xs ys = some (xs ++ ys) := by
 unfold Zl4; rw [if_pos ⟨h1, h2⟩]
theorem Zrv {α : Type} {b : Nat} {i : Int} {x : α} (h0 : 0 ≤ i) (h1 : (b : Int) * i ≤ 140737488355328) (h2 : i ≤ 140737488355328) : Zgc b i x = some (List.replicate i.toNat x) := by
 unfold Zgc; rw [if_pos ⟨h0, h1, h2⟩]
theorem Zs7 {α : Type} {xs : List α} {lo hi : Int} (h0 : 0 ≤ lo) (h1 : lo ≤ hi) (h2 : hi ≤ xs.length) : Zfa xs lo hi = some ((xs.drop lo.toNat).take (hi - lo).toNat) := by
 unfold Zfa; rw [if_pos ⟨h0, h1, h2⟩]
end Go.Proofs.Ytmlhokaflhlhbaa
