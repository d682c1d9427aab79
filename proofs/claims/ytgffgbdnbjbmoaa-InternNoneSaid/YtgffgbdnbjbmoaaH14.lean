/- Part H14 of the ghost memory: lemmas and contracts used by the proofs of this seat's laws; each theorem bears its own conditions. -/
import Derived.Test.YtgffgbdnbjbmoaaH13
import Derived.WalkKit
import Derived.WalkSpells
import Derived.WalkLawsBesides
import Derived.Lib.Hide
import Derived.BigQuiet
import Derived.StillTailTactics
import Derived.Deep.RegionHeld3
import Derived.Deep.AppendLies
import Derived.Laws.CopyOwn
import Derived.Deep.DeepCutAuto
import Derived.Deep.QuietTactic
import Derived.Maps.AppendAt
import Derived.Great.BuildSlice
import Derived.Laws.StructEq
import Derived.ChangeKeysEq
import Derived.IntWalk
import Derived.Lib.AppendZeros
import Derived.Lib.AppendZerosOnto
import Derived.ProofKit
import Derived.OpenShut
import Derived.SizedLaws
import Derived.Deep.Slices
namespace Go.Proofs.Ytgffgbdnbjbmoaa
open Go.RowKit
set_option linter.unusedVariables false
set_option linter.unusedSimpArgs false
def Zmb {α σ R : Type} (g : σ → α → Option (σ ⊕ R)) (out : σ → R) : List α → σ → Option R
 | [], s => some (out s)
 | x :: xs, s => match g s x with
  | none => none
  | some (.inl s') => Zmb g out xs s'
  | some (.inr r) => some r
theorem Zot {S R : Type} {step : S → Option (S ⊕ R)} {s : S} (h : step s = none) : Z6 step s = none := by
 cases hr : Z6 step s with
 | none => rfl
 | some r =>
  obtain ⟨k, hk⟩ := Zcn hr
  cases k with
  | zero => simp [K9] at hk
  | succ k => simp [K9, h] at hk
theorem Zur {α σ S R : Type} (xs : List α) (pack : Int → σ → S) (step : S → Option (S ⊕ R)) (g : σ → α → Option (σ ⊕ R)) (out : σ → R)
  (h1 : ∀ (i : Nat) (s : σ) (x : α), i < xs.length → xs[i]? = some x → step (pack i s) = match g s x with
   | none => none
   | some (.inl s') => some (.inl (pack ((i + 1 : Nat) : Int) s'))
   | some (.inr r) => some (.inr r))
  (h2 : ∀ s, step (pack xs.length s) = some (.inr (out s))) (s : σ) : Z6 step (pack 0 s) = Zmb g out xs s := by
 have key : ∀ (l pre : List α) (s : σ), xs = pre ++ l → Z6 step (pack (pre.length : Nat) s) = Zmb g out l s := fun l => by
  induction l with
  | nil =>
   intro pre s hp
   rw [List.append_nil] at hp
   subst hp
   exact Xp (h2 s)
  | cons x l ih =>
   intro pre s hp
   have hx : xs[pre.length]? = some x := by rw [hp, List.getElem?_append_right (Nat.le_refl _), Nat.sub_self]; rfl
   have hi : pre.length < xs.length := by rw [hp]; simp
   have h := h1 pre.length s x hi hx
   unfold Zmb
   cases hg : g s x with
   | none => rw [hg] at h; exact Zot h
   | some y =>
    rw [hg] at h
    cases y with
    | inl s' =>
     have := ih (pre ++ [x]) s' (by rw [hp]; simp)
     rw [List.length_append, List.length_singleton] at this
     exact (Jc h).trans this
    | inr r => exact Xp h
 exact key xs [] s rfl
theorem Jz {α : Type} {xs : List α} {i : Nat} {x : α} (h : xs[i]? = some x) : Jf xs (i : Int) = some x := by
 unfold Jf; rw [if_pos (Int.natCast_nonneg _), Int.toNat_natCast, h]
theorem Ziy {α : Type} {b : Nat} {xs ys : List α} (h1 : (xs.length + ys.length) * b ≤ 140737488355328) (h2 : xs.length + ys.length ≤ 140737488355328) : Zgt b xs ys = some (xs ++ ys) := by
 unfold Zgt; rw [if_pos ⟨h1, h2⟩]
theorem Zq7 {α : Type} {b : Nat} {i : Int} {x : α} (h0 : 0 ≤ i) (h1 : (b : Int) * i ≤ 140737488355328) (h2 : i ≤ 140737488355328) : Zfa b i x = some (List.replicate i.toNat x) := by
 unfold Zfa; rw [if_pos ⟨h0, h1, h2⟩]
theorem Zyz {α : Type} {xs : List α} {lo hi : Int} (h0 : 0 ≤ lo) (h1 : lo ≤ hi) (h2 : hi ≤ xs.length) : Zgh xs lo hi = some ((xs.drop lo.toNat).take (hi - lo).toNat) := by
 unfold Zgh; rw [if_pos ⟨h0, h1, h2⟩]
theorem Zav {c : Prop} [Decidable c] (h : c) : Qb c = some () := by unfold Qb; rw [if_pos h]
theorem Zjw {α σ R : Type} {g : σ → α → Option (σ ⊕ R)} {out : σ → R} (p : α → Bool) (f : σ → α → σ) (e : R) (I : σ → Nat → Prop) (N : Nat) : ∀ (xs : List α) (s : σ) (k : Nat), k + xs.length ≤ N → I s k →
  (∀ s k x, x ∈ xs → k < N → I s k → g s x = (if p x = true then some (.inr e) else some (.inl (f s x))) ∧ (p x = false → I (f s x) (k + 1))) → Zmb g out xs s = some (if xs.any p = true then e else out (xs.foldl f s))
 | [], s, k, _, _, _ => rfl
 | x :: xs, s, k, hN, hI, h => by
  rw [List.length_cons] at hN
  obtain ⟨h1, h2⟩ := h s k x (.head _) (by omega) hI
  unfold Zmb
  rw [h1]
  cases hp : p x with
  | true => simp [List.any_cons, hp]
  | false =>
   have := Zjw (out := out) p f e I N xs (f s x) (k + 1) (by omega) (h2 hp) fun s k y hy => h s k y (.tail _ hy)
   simp only [Bool.false_eq_true, if_false]
   rw [this, List.any_cons, hp, Bool.false_or, List.foldl_cons]
end Go.Proofs.Ytgffgbdnbjbmoaa
