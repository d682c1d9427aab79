/- Part H18 of the ghost memory: lemmas and contracts used by the proofs of this seat's laws; each theorem bears its own conditions. -/
import Derived.Test.YtbcgiaijjaocdaaH17
import Derived.WalkKit
import Derived.WalkSpells
import Derived.WalkLawsBesides
import Derived.Lib.Hide
import Derived.BigQuiet
import Derived.StillTailTactics
import Derived.Deep.RegionHeld3
import Derived.Deep.AppendLies
import Derived.Laws.CopyOwn
import Derived.Deep.DeepCutAuto
import Derived.Deep.QuietTactic
import Derived.Maps.AppendAt
import Derived.Great.BuildSlice
import Derived.Laws.StructEq
import Derived.IntWalk
import Derived.ProofKit
import Derived.OpenShut
import Derived.SizedLaws
import Derived.Deep.Slices
namespace Go.Proofs.Ytbcgiaijjaocdaa
open Go.RowKit
set_option linter.unusedVariables false
set_option linter.unusedSimpArgs false
def gP {α : Type} (f : α → List G) : Option α → G
  | none => .val (.pointer none)
  | some x => .ip (f x) 0
def eP {α : Type} (f : α → List G) (x : Option α) : List G := [gP f x]
section
variable {α : Type} {f : α → List G} {T : Tab} {t e : TypeId} {O O' : Objs} {n' : Nat}
theorem gP_none : gP f none = .val (.pointer none) := rfl
theorem gP_some (x : α) : gP f (some x) = .ip (f x) 0 := rfl
theorem strip_gP (x : Option α) : strip (gP f x) = gP f x := by cases x <;> rfl
theorem wok_gP (x : Option α) (l : List G) : wok (gP f x :: l) = wok l := by cases x <;> rfl
theorem one_gP (x : Option α) : (gP f x).one = true := by cases x <;> rfl
theorem pure_gP (h : ∀ x, G.pures (f x) = true) (x : Option α) : (gP f x).pure = true := by
  cases x with
  | none => rfl
  | some x => simp only [gP, G.pure, h]
theorem under_gP (h : ∀ x, G.pures (f x) = true) (k : Nat) (x : Option α) : (gP f x).under k = true := pure_under k _ (pure_gP h x)
theorem wk_gP (h : ∀ x, G.pures (f x) = true) (x : Option α) : wk O O' n' (gP f x) (gP f x) = True := eq_true (wk_refl _ (under_gP h _ x))
end
end Go.Proofs.Ytbcgiaijjaocdaa
