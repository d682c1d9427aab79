/- Part H14 of the ghost memory: lemmas and contracts used by the proofs of this seat's laws; each theorem bears its own conditions. -/
import Derived.Test.YtmlhokaflhlhbaaH13
import Derived.WalkKit
import Derived.WalkSpells
import Derived.WalkLawsBesides
import Derived.Lib.Hide
import Derived.BigQuiet
import Derived.StillTailTactics
import Derived.Deep.RegionHeld3
import Derived.Deep.AppendLies
import Derived.Laws.CopyOwn
import Derived.Deep.DeepCutAuto
import Derived.Deep.QuietTactic
import Derived.Maps.AppendAt
import Derived.Great.BuildSlice
import Derived.Laws.StructEq
import Derived.IntWalk
import Derived.ProofKit
import Derived.OpenShut
import Derived.SizedLaws
import Derived.Deep.Slices
namespace Go.Proofs.Ytmlhokaflhlhbaa
open Go.RowKit
set_option linter.unusedVariables false
set_option linter.unusedSimpArgs false
theorem Gh {α : Type} {xs : List α} {i : Nat} {x : α} (h : xs[i]? = some x) : Q8 xs (i : Int) = some x := by
 unfold Q8; rw [if_pos (Int.natCast_nonneg _), Int.toNat_natCast, h]
theorem Zog {α : Type} {b : Nat} {xs ys : List α} (h1 : (xs.length + ys.length) * b ≤ 140737488355328) (h2 : xs.length + ys.length ≤ 140737488355328) : Zh3 b xs ys = some (xs ++ ys) := by
 unfold Zh3; rw [if_pos ⟨h1, h2⟩]
theorem Zmc {α : Type} {b : Nat} {i : Int} {x : α} (h0 : 0 ≤ i) (h1 : (b : Int) * i ≤ 140737488355328) (h2 : i ≤ 140737488355328) : Zdr b i x = some (List.replicate i.toNat x) := by
 unfold Zdr; rw [if_pos ⟨h0, h1, h2⟩]
theorem Zrq {α : Type} {xs : List α} {lo hi : Int} (h0 : 0 ≤ lo) (h1 : lo ≤ hi) (h2 : hi ≤ xs.length) : Zd8 xs lo hi = some ((xs.drop lo.toNat).take (hi - lo).toNat) := by
 unfold Zd8; rw [if_pos ⟨h0, h1, h2⟩]
theorem Kf {c : Prop} [Decidable c] (h : c) : Yn c = some () := by unfold Yn; rw [if_pos h]
end Go.Proofs.Ytmlhokaflhlhbaa
