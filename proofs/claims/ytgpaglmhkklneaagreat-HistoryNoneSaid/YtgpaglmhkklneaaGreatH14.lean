/- Part H14 of the ghost memory: lemmas and contracts used by the proofs of this seat's laws; each theorem bears its own conditions. -/
import Derived.Test.YtgpaglmhkklneaaGreatH13
import Derived.WalkKit
import Derived.WalkSpells
import Derived.WalkLawsBesides
import Derived.Lib.Hide
import Derived.BigQuiet
import Derived.StillTailTactics
import Derived.Deep.RegionHeld3
import Derived.Deep.AppendLies
import Derived.Laws.CopyOwn
import Derived.Deep.DeepCutAuto
import Derived.Deep.QuietTactic
import Derived.Maps.AppendAt
import Derived.Great.BuildSlice
import Derived.Laws.StructEq
import Derived.ChangeKeysEq
import Derived.IntWalk
import Derived.Lib.AppendZeros
import Derived.Lib.AppendZerosOnto
import Derived.ProofKit
import Derived.OpenShut
import Derived.SizedLaws
import Derived.Deep.Slices
namespace Go.Proofs.YtgpaglmhkklneaaGreat
open Go.RowKit
set_option linter.unusedVariables false
set_option linter.unusedSimpArgs false
def Zvi {α σ R : Type} (g : σ → α → Option (σ ⊕ R)) (out : σ → R) : List α → σ → Option R
 | [], s => some (out s)
 | x :: xs, s => match g s x with
  | none => none
  | some (.inl s') => Zvi g out xs s'
  | some (.inr r) => some r
theorem Zx6 {S R : Type} {step : S → Option (S ⊕ R)} {s : S} (h : step s = none) : Ya step s = none := by
 cases hr : Ya step s with
 | none => rfl
 | some r =>
  obtain ⟨k, hk⟩ := Zj3 hr
  cases k with
  | zero => simp [Zck] at hk
  | succ k => simp [Zck, h] at hk
theorem Z4s {α σ S R : Type} (xs : List α) (pack : Int → σ → S) (step : S → Option (S ⊕ R)) (g : σ → α → Option (σ ⊕ R)) (out : σ → R)
  (h1 : ∀ (i : Nat) (s : σ) (x : α), i < xs.length → xs[i]? = some x → step (pack i s) = match g s x with
   | none => none
   | some (.inl s') => some (.inl (pack ((i + 1 : Nat) : Int) s'))
   | some (.inr r) => some (.inr r))
  (h2 : ∀ s, step (pack xs.length s) = some (.inr (out s))) (s : σ) : Ya step (pack 0 s) = Zvi g out xs s := by
 have key : ∀ (l pre : List α) (s : σ), xs = pre ++ l → Ya step (pack (pre.length : Nat) s) = Zvi g out l s := fun l => by
  induction l with
  | nil =>
   intro pre s hp
   rw [List.append_nil] at hp
   subst hp
   exact Xw (h2 s)
  | cons x l ih =>
   intro pre s hp
   have hx : xs[pre.length]? = some x := by rw [hp, List.getElem?_append_right (Nat.le_refl _), Nat.sub_self]; rfl
   have hi : pre.length < xs.length := by rw [hp]; simp
   have h := h1 pre.length s x hi hx
   unfold Zvi
   cases hg : g s x with
   | none => rw [hg] at h; exact Zx6 h
   | some y =>
    rw [hg] at h
    cases y with
    | inl s' =>
     have := ih (pre ++ [x]) s' (by rw [hp]; simp)
     rw [List.length_append, List.length_singleton] at this
     exact (J5 h).trans this
    | inr r => exact Xw h
 exact key xs [] s rfl
theorem Xq {α : Type} {xs : List α} {i : Nat} {x : α} (h : xs[i]? = some x) : Qm xs (i : Int) = some x := by
 unfold Qm; rw [if_pos (Int.natCast_nonneg _), Int.toNat_natCast, h]
theorem Vt {α : Type} {b : Nat} {xs ys : List α} (h1 : (xs.length + ys.length) * b ≤ 140737488355328) (h2 : xs.length + ys.length ≤ 140737488355328) : Za5 b xs ys = some (xs ++ ys) := by
 unfold Za5; rw [if_pos ⟨h1, h2⟩]
theorem Z6c {α : Type} {b : Nat} {i : Int} {x : α} (h0 : 0 ≤ i) (h1 : (b : Int) * i ≤ 140737488355328) (h2 : i ≤ 140737488355328) : Zli b i x = some (List.replicate i.toNat x) := by
 unfold Zli; rw [if_pos ⟨h0, h1, h2⟩]
theorem Zl9 {α : Type} {xs : List α} {lo hi : Int} (h0 : 0 ≤ lo) (h1 : lo ≤ hi) (h2 : hi ≤ xs.length) : Zhf xs lo hi = some ((xs.drop lo.toNat).take (hi - lo).toNat) := by
 unfold Zhf; rw [if_pos ⟨h0, h1, h2⟩]
theorem Zjq {c : Prop} [Decidable c] (h : c) : Zhy c = some () := by unfold Zhy; rw [if_pos h]
theorem Zr9 {α σ R : Type} {g : σ → α → Option (σ ⊕ R)} {out : σ → R} (p : α → Bool) (f : σ → α → σ) (e : R) (I : σ → Nat → Prop) (N : Nat) : ∀ (xs : List α) (s : σ) (k : Nat), k + xs.length ≤ N → I s k →
  (∀ s k x, x ∈ xs → k < N → I s k → g s x = (if p x = true then some (.inr e) else some (.inl (f s x))) ∧ (p x = false → I (f s x) (k + 1))) → Zvi g out xs s = some (if xs.any p = true then e else out (xs.foldl f s))
 | [], s, k, _, _, _ => rfl
 | x :: xs, s, k, hN, hI, h => by
  rw [List.length_cons] at hN
  obtain ⟨h1, h2⟩ := h s k x (.head _) (by omega) hI
  unfold Zvi
  rw [h1]
  cases hp : p x with
  | true => simp [List.any_cons, hp]
  | false =>
   have := Zr9 (out := out) p f e I N xs (f s x) (k + 1) (by omega) (h2 hp) fun s k y hy => h s k y (.tail _ hy)
   simp only [Bool.false_eq_true, if_false]
   rw [this, List.any_cons, hp, Bool.false_or, List.foldl_cons]
end Go.Proofs.YtgpaglmhkklneaaGreat
