/- Part H24 of the ghost memory: lemmas and contracts used by the proofs of this seat's laws; each theorem bears its own conditions. -/
import Derived.Test.YtpggbianhdebmaaH23
import Derived.WalkKit
import Derived.WalkSpells
import Derived.WalkLawsBesides
import Derived.Lib.Hide
import Derived.BigQuiet
import Derived.StillTailTactics
import Derived.Deep.RegionHeld3
import Derived.Deep.AppendLies
import Derived.Laws.CopyOwn
import Derived.Deep.DeepCutAuto
import Derived.Deep.QuietTactic
import Derived.Maps.AppendAt
import Derived.Great.BuildSlice
import Derived.Laws.StructEq
import Derived.ChangeKeysEq
import Derived.IntWalk
import Derived.Lib.AppendZeros
import Derived.Lib.AppendZerosOnto
import Derived.ProofKit
import Derived.OpenShut
import Derived.SizedLaws
import Derived.Deep.Slices
namespace Go.Proofs.Ytpggbianhdebmaa
open Go.RowKit
set_option linter.unusedVariables false
set_option linter.unusedSimpArgs false
/-- objects that are let go -/
def dropM : List Bool → List (Option GObj) → List (Option GObj)
  | b :: ms, o :: l => (bif b then o else none) :: dropM ms l
  | _, l => l
theorem dropM_at : ∀ (ms : List Bool) (l : List (Option GObj)) (k : Nat) (o : GObj), ((dropM ms l)[k]?).join = some o → (l[k]?).join = some o
  | [], l, k, o, h => by simpa [dropM] using h
  | b :: ms, [], k, o, h => by simp [dropM] at h
  | b :: ms, x :: l, 0, o, h => by
    cases b with
    | true => simpa [dropM] using h
    | false => simp [dropM] at h
  | b :: ms, x :: l, k + 1, o, h => by
    simp only [dropM, List.getElem?_cons_succ] at h ⊢
    exact dropM_at ms l k o h
section
variable {P : Program} {X : Objs} {n n' ba : Nat} {E : Env} {Q : GQ} {c : Code}
/-- slots, and objects, are let go: nothing is to be shown -/
theorem W_drop (ks : List Nat) (ms : List Bool) {l : List (Option GObj)} (k : W P ba c Q ⟨E.n, E.keep, keepL E.l ks⟩ (Loc X n (dropM ms l)) n') : W P ba c Q E (Loc X n l) n' := fun hb w m a hM hE => by
  have hO : ∀ i o', Loc X n (dropM ms l) i = some o' → Loc X n l i = some o' := fun i o' h => by
    unfold Loc at h ⊢
    split
    · rename_i hi; rw [if_pos hi] at h; exact h
    · rename_i hi; rw [if_neg hi] at h; exact dropM_at ms l _ o' h
  have hf : ∀ i, n' ≤ i → Loc X n (dropM ms l) i = none := fun i hi => by
    cases h : Loc X n (dropM ms l) i with
    | none => rfl
    | some o' =>
      have h2 := hM.fresh i hi
      rw [hO i o' h] at h2
      cases h2
  have hL : LessO (Loc X n l) (Loc X n (dropM ms l)) n' := ⟨hf, fun i o' h => by
      obtain ⟨vs, hr, _⟩ := hM.obj i o' (hO i o' h)
      exact ⟨o', hO i o' h, rfl, rfl, rfl, rfl, wkl_refl _ (unders_of _ _ hr)⟩⟩
  have hE2 : Holds w (Loc X n l) m n' ⟨E.n, E.keep, keepL E.l ks⟩ a := hE.le ⟨rfl, keep_le _ _⟩
  refine k.then (hM.weak hL) ⟨hE2.size, fun t v hv => ?_, hE2.out, hE2.defers⟩ ((Ext.refl w _ m ba).weak hL hb)
  have := hE2.at_ t v hv
  exact rep_under hL.mini _ _ this (under_of _ _ this)
end

end Go.Proofs.Ytpggbianhdebmaa
