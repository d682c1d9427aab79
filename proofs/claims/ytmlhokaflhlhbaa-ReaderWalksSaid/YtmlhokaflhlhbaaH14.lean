/- Part H14 of the ghost memory: lemmas and contracts used by the proofs of this seat's laws; each theorem bears its own conditions. -/
import Derived.Test.YtmlhokaflhlhbaaH13
import Derived.WalkKit
import Derived.WalkSpells
import Derived.WalkLawsBesides
import Derived.Lib.Hide
import Derived.BigQuiet
import Derived.StillTailTactics
import Derived.Deep.RegionHeld3
import Derived.Deep.AppendLies
import Derived.Laws.CopyOwn
import Derived.Deep.DeepCutAuto
import Derived.Deep.QuietTactic
import Derived.Maps.AppendAt
import Derived.Great.BuildSlice
import Derived.Laws.StructEq
import Derived.IntWalk
import Derived.ProofKit
import Derived.OpenShut
import Derived.SizedLaws
import Derived.Deep.Slices
namespace Go.Proofs.Ytmlhokaflhlhbaa
open Go.RowKit
set_option linter.unusedVariables false
set_option linter.unusedSimpArgs false
theorem Zf4 {α : Type} {xs : List α} {i : Nat} {x : α} (h : xs[i]? = some x) : Qf xs (i : Int) = some x := by
 unfold Qf; rw [if_pos (Int.natCast_nonneg _), Int.toNat_natCast, h]
theorem Zp6 {α : Type} {b : Nat} {xs ys : List α} (h1 : (xs.length + ys.length) * b ≤ 140737488355328) (h2 : xs.length + ys.length ≤ 140737488355328) : Zjk b xs ys = some (xs ++ ys) := by
 unfold Zjk; rw [if_pos ⟨h1, h2⟩]
theorem Zr4 {α : Type} {b : Nat} {i : Int} {x : α} (h0 : 0 ≤ i) (h1 : (b : Int) * i ≤ 140737488355328) (h2 : i ≤ 140737488355328) : Zgk b i x = some (List.replicate i.toNat x) := by
 unfold Zgk; rw [if_pos ⟨h0, h1, h2⟩]
theorem Zm8 {α : Type} {xs : List α} {lo hi : Int} (h0 : 0 ≤ lo) (h1 : lo ≤ hi) (h2 : hi ≤ xs.length) : Zd2 xs lo hi = some ((xs.drop lo.toNat).take (hi - lo).toNat) := by
 unfold Zd2; rw [if_pos ⟨h0, h1, h2⟩]
theorem Vb {c : Prop} [Decidable c] (h : c) : Yx c = some () := by unfold Yx; rw [if_pos h]
end Go.Proofs.Ytmlhokaflhlhbaa
