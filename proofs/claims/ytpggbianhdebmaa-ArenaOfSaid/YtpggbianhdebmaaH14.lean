/- Part H14 of the ghost memory: lemmas and contracts used by the proofs of this seat's laws; each theorem bears its own conditions. -/
import Derived.Test.YtpggbianhdebmaaH13
import Derived.WalkKit
import Derived.WalkSpells
import Derived.WalkLawsBesides
import Derived.Lib.Hide
import Derived.BigQuiet
import Derived.StillTailTactics
import Derived.Deep.RegionHeld3
import Derived.Deep.AppendLies
import Derived.Laws.CopyOwn
import Derived.Deep.DeepCutAuto
import Derived.Deep.QuietTactic
import Derived.Maps.AppendAt
import Derived.Great.BuildSlice
import Derived.Laws.StructEq
import Derived.ChangeKeysEq
import Derived.IntWalk
import Derived.Lib.AppendZeros
import Derived.Lib.AppendZerosOnto
import Derived.ProofKit
import Derived.OpenShut
import Derived.SizedLaws
import Derived.Deep.Slices
namespace Go.Proofs.Ytpggbianhdebmaa
open Go.RowKit
set_option linter.unusedVariables false
set_option linter.unusedSimpArgs false
/-- through a list's kids, one after the other, unless one ends it -/
def foldE {α σ R : Type} (g : σ → α → Option (σ ⊕ R)) (out : σ → R) : List α → σ → Option R
  | [], s => some (out s)
  | x :: xs, s => match g s x with
    | none => none
    | some (.inl s') => foldE g out xs s'
    | some (.inr r) => some r
theorem runLoop_none {S R : Type} {step : S → Option (S ⊕ R)} {s : S} (h : step s = none) : runLoop step s = none := by
  cases hr : runLoop step s with
  | none => rfl
  | some r =>
    obtain ⟨k, hk⟩ := runLoop_k hr
    cases k with
    | zero => simp [loopN] at hk
    | succ k => simp [loopN, h] at hk
theorem loop_each {α σ S R : Type} (xs : List α) (pack : Int → σ → S) (step : S → Option (S ⊕ R)) (g : σ → α → Option (σ ⊕ R)) (out : σ → R)
    (h1 : ∀ (i : Nat) (s : σ) (x : α), i < xs.length → xs[i]? = some x → step (pack i s) = match g s x with
      | none => none
      | some (.inl s') => some (.inl (pack ((i + 1 : Nat) : Int) s'))
      | some (.inr r) => some (.inr r))
    (h2 : ∀ s, step (pack xs.length s) = some (.inr (out s))) (s : σ) : runLoop step (pack 0 s) = foldE g out xs s := by
  have key : ∀ (l pre : List α) (s : σ), xs = pre ++ l → runLoop step (pack (pre.length : Nat) s) = foldE g out l s := fun l => by
    induction l with
    | nil =>
      intro pre s hp
      rw [List.append_nil] at hp
      subst hp
      exact runLoop_end (h2 s)
    | cons x l ih =>
      intro pre s hp
      have hx : xs[pre.length]? = some x := by rw [hp, List.getElem?_append_right (Nat.le_refl _), Nat.sub_self]; rfl
      have hi : pre.length < xs.length := by rw [hp]; simp
      have h := h1 pre.length s x hi hx
      unfold foldE
      cases hg : g s x with
      | none => rw [hg] at h; exact runLoop_none h
      | some y =>
        rw [hg] at h
        cases y with
        | inl s' =>
          have := ih (pre ++ [x]) s' (by rw [hp]; simp)
          rw [List.length_append, List.length_singleton] at this
          exact (runLoop_step h).trans this
        | inr r => exact runLoop_end h
  exact key xs [] s rfl
theorem getI_of {α : Type} {xs : List α} {i : Nat} {x : α} (h : xs[i]? = some x) : getI xs (i : Int) = some x := by
  unfold getI; rw [if_pos (Int.natCast_nonneg _), Int.toNat_natCast, h]
theorem appI_ok {α : Type} {b : Nat} {xs ys : List α} (h1 : (xs.length + ys.length) * b ≤ 140737488355328) (h2 : xs.length + ys.length ≤ 140737488355328) : appI b xs ys = some (xs ++ ys) := by
  unfold appI; rw [if_pos ⟨h1, h2⟩]
theorem makeI_ok {α : Type} {b : Nat} {i : Int} {x : α} (h0 : 0 ≤ i) (h1 : (b : Int) * i ≤ 140737488355328) (h2 : i ≤ 140737488355328) : makeI b i x = some (List.replicate i.toNat x) := by
  unfold makeI; rw [if_pos ⟨h0, h1, h2⟩]
theorem subI_ok {α : Type} {xs : List α} {lo hi : Int} (h0 : 0 ≤ lo) (h1 : lo ≤ hi) (h2 : hi ≤ xs.length) : subI xs lo hi = some ((xs.drop lo.toNat).take (hi - lo).toNat) := by
  unfold subI; rw [if_pos ⟨h0, h1, h2⟩]
theorem guardI_ok {c : Prop} [Decidable c] (h : c) : guardI c = some () := by unfold guardI; rw [if_pos h]
/-- kids that all go on -/
theorem foldE_map {α σ R : Type} {g : σ → α → Option (σ ⊕ R)} {out : σ → R} (f : σ → α → σ) (I : σ → Nat → Prop) (N : Nat) : ∀ (xs : List α) (s : σ) (k : Nat), k + xs.length ≤ N → I s k →
    (∀ s k x, x ∈ xs → k < N → I s k → g s x = some (.inl (f s x)) ∧ I (f s x) (k + 1)) → foldE g out xs s = some (out (xs.foldl f s))
  | [], s, k, _, _, _ => rfl
  | x :: xs, s, k, hN, hI, h => by
    rw [List.length_cons] at hN
    obtain ⟨h1, h2⟩ := h s k x (.head _) (by omega) hI
    unfold foldE
    rw [h1]
    exact foldE_map f I N xs _ (k + 1) (by omega) h2 fun s k y hy => h s k y (.tail _ hy)
/-- kids that go on till one of a kind ends it -/
theorem foldE_find {α σ R : Type} {g : σ → α → Option (σ ⊕ R)} {out : σ → R} (p : α → Bool) (f : σ → α → σ) (e : R) (I : σ → Nat → Prop) (N : Nat) : ∀ (xs : List α) (s : σ) (k : Nat), k + xs.length ≤ N → I s k →
    (∀ s k x, x ∈ xs → k < N → I s k → g s x = (if p x = true then some (.inr e) else some (.inl (f s x))) ∧ (p x = false → I (f s x) (k + 1))) → foldE g out xs s = some (if xs.any p = true then e else out (xs.foldl f s))
  | [], s, k, _, _, _ => rfl
  | x :: xs, s, k, hN, hI, h => by
    rw [List.length_cons] at hN
    obtain ⟨h1, h2⟩ := h s k x (.head _) (by omega) hI
    unfold foldE
    rw [h1]
    cases hp : p x with
    | true => simp [List.any_cons, hp]
    | false =>
      have := foldE_find (out := out) p f e I N xs (f s x) (k + 1) (by omega) (h2 hp) fun s k y hy => h s k y (.tail _ hy)
      simp only [Bool.false_eq_true, if_false]
      rw [this, List.any_cons, hp, Bool.false_or, List.foldl_cons]

end Go.Proofs.Ytpggbianhdebmaa
