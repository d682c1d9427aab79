/- Part H8 of the ghost memory: lemmas and contracts used by the proofs of this seat's laws; each theorem bears its own conditions. -/
import Derived.Test.YtgffgbdnbjbmoaaH6
import Derived.WalkKit
import Derived.WalkSpells
import Derived.WalkLawsBesides
import Derived.Lib.Hide
import Derived.BigQuiet
import Derived.StillTailTactics
import Derived.Deep.RegionHeld3
import Derived.Deep.AppendLies
import Derived.Laws.CopyOwn
import Derived.Deep.DeepCutAuto
import Derived.Deep.QuietTactic
import Derived.Maps.AppendAt
import Derived.Great.BuildSlice
import Derived.Laws.StructEq
import Derived.ChangeKeysEq
import Derived.IntWalk
import Derived.Lib.AppendZeros
import Derived.Lib.AppendZerosOnto
import Derived.ProofKit
import Derived.OpenShut
import Derived.SizedLaws
import Derived.Deep.Slices
namespace Go.Proofs.Ytgffgbdnbjbmoaa
open Go.RowKit
set_option linter.unusedVariables false
set_option linter.unusedSimpArgs false
open Go.ChangeShapes Go.WideShapes Go.ChangeAt
def Z15 (P : Program) (t : TypeId) {α : Type} (f : α → List G) (wf : α → Prop) (n : Nat) : Prop :=
 ∀ (H : Type) (enc : TypeId × Value → H) (W : World) (base : Nat) (spare : Nat → Bool) (held : Bool) (cs : List Value) (d : DataW H) (ps : List MemPlace),
  DataW.trod enc P W base spare held n t cs = some (d, ps) → (∀ x ∈ d.weights P t, x ≤ reachBytes) → ∃ x, wf x ∧ G.reps W Vh (fun _ => undef) 0 (f x) cs
def Zru (P : Program) (t : TypeId) {α : Type} (f : α → List G) (wf : α → Prop) : Prop := ∀ n, Z15 P t f wf n
theorem Zep {P : Program} {t : TypeId} {k : IntKind} (ht : P.underlying t = some (.int k)) : Zru P t (eI k) (fun x => (Lit.int k x).wf = true) := fun n H enc W base spare held cs d ps h _ => by
 cases n with
 | zero => simp [DataW.trod] at h
 | succ n =>
  unfold DataW.trod at h
  rw [ht] at h
  split at h <;> simp_all
  exact ⟨_, h.1.2, by simp [eI, G.reps, G.rep]⟩
theorem Zpw {P : Program} {t : TypeId} {α : Type} {f : α → List G} {wf : α → Prop} (ho : Zru P t f wf) {H : Type} {enc : TypeId × Value → H} {W : World} {held : Bool} {v : Value} {d : DataW H} {ps : List MemPlace} {base : Nat}
  (h : DataW.Trod enc P W base (fun _ => true) held t v d ps) (hw : ∀ x ∈ d.weights P t, x ≤ reachBytes) : ∃ x, wf x ∧ G.reps W Vh (fun _ => undef) 0 (f x) v.cells.toList := by
 obtain ⟨n, hn⟩ := h
 exact ho n H enc W base _ held _ d ps hn hw
section
variable {P : Program} {W : World} {r : Reach} {b : Nat} {t : TypeId} {v : Value}
theorem Zq6 {v : Value} (h : v.oneCell' = true) : v.cells.toList = [v] := by rw [Zlr h]
theorem Zs2 {k : IntKind} (ht : P.underlying t = some (.int k)) (h : Value.okWide P W r b t v) : v.oneCell' = true := by
 cases v <;> simp_all [Value.okWide, Cell.okWide, Cell.ok, Value.oneCell']
theorem Zrv {g : G} (h1 : v.oneCell' = true) (h : G.reps W Vh (fun _ => undef) 0 [g] v.cells.toList) : g.rep W Vh (fun _ => undef) 0 v := by
 rw [Zq6 h1] at h
 simp only [G.reps] at h
 obtain ⟨u, us, e, h1, h2⟩ := h
 injection e with e1 e2
 subst e1
 exact h1
theorem Zlp {H : Type} {ts : List TypeId} {ds : List (DataW H)} (h : (DataW.weightsEach P ts ds).all (· ≤ reachBytes) = true) {j : Nat} {d : DataW H} (ht : ts[j]? = some t) (hd : ds[j]? = some d) : ∀ x ∈ d.weights P t, x ≤ reachBytes := fun x hx => by
 have := List.all_eq_true.1 h _ (DataW.weights_mem_each ht hd x hx)
 simpa using this
end
end Go.Proofs.Ytgffgbdnbjbmoaa
