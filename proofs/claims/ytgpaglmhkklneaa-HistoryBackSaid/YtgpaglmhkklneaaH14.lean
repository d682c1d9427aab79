/- Part H14 of the ghost memory: lemmas and contracts used by the proofs of this seat's laws; each theorem bears its own conditions. -/
import Derived.Test.YtgpaglmhkklneaaH13
import Derived.WalkKit
import Derived.WalkSpells
import Derived.WalkLawsBesides
import Derived.Lib.Hide
import Derived.BigQuiet
import Derived.StillTailTactics
import Derived.Deep.RegionHeld3
import Derived.Deep.AppendLies
import Derived.Laws.CopyOwn
import Derived.Deep.DeepCutAuto
import Derived.Deep.QuietTactic
import Derived.Maps.AppendAt
import Derived.Great.BuildSlice
import Derived.Laws.StructEq
import Derived.ChangeKeysEq
import Derived.IntWalk
import Derived.Lib.AppendZeros
import Derived.Lib.AppendZerosOnto
import Derived.ProofKit
import Derived.OpenShut
import Derived.SizedLaws
import Derived.Deep.Slices
namespace Go.Proofs.Ytgpaglmhkklneaa
open Go.RowKit
set_option linter.unusedVariables false
set_option linter.unusedSimpArgs false
def Z0r {α σ R : Type} (g : σ → α → Option (σ ⊕ R)) (out : σ → R) : List α → σ → Option R
 | [], s => some (out s)
 | x :: xs, s => match g s x with
  | none => none
  | some (.inl s') => Z0r g out xs s'
  | some (.inr r) => some r
theorem Z2v {S R : Type} {step : S → Option (S ⊕ R)} {s : S} (h : step s = none) : Zy step s = none := by
 cases hr : Zy step s with
 | none => rfl
 | some r =>
  obtain ⟨k, hk⟩ := Zlr hr
  cases k with
  | zero => simp [Zek] at hk
  | succ k => simp [Zek, h] at hk
theorem Z9b {α σ S R : Type} (xs : List α) (pack : Int → σ → S) (step : S → Option (S ⊕ R)) (g : σ → α → Option (σ ⊕ R)) (out : σ → R)
  (h1 : ∀ (i : Nat) (s : σ) (x : α), i < xs.length → xs[i]? = some x → step (pack i s) = match g s x with
   | none => none
   | some (.inl s') => some (.inl (pack ((i + 1 : Nat) : Int) s'))
   | some (.inr r) => some (.inr r))
  (h2 : ∀ s, step (pack xs.length s) = some (.inr (out s))) (s : σ) : Zy step (pack 0 s) = Z0r g out xs s := by
 have key : ∀ (l pre : List α) (s : σ), xs = pre ++ l → Zy step (pack (pre.length : Nat) s) = Z0r g out l s := fun l => by
  induction l with
  | nil =>
   intro pre s hp
   rw [List.append_nil] at hp
   subst hp
   exact Y7 (h2 s)
  | cons x l ih =>
   intro pre s hp
   have hx : xs[pre.length]? = some x := by rw [hp, List.getElem?_append_right (Nat.le_refl _), Nat.sub_self]; rfl
   have hi : pre.length < xs.length := by rw [hp]; simp
   have h := h1 pre.length s x hi hx
   unfold Z0r
   cases hg : g s x with
   | none => rw [hg] at h; exact Z2v h
   | some y =>
    rw [hg] at h
    cases y with
    | inl s' =>
     have := ih (pre ++ [x]) s' (by rw [hp]; simp)
     rw [List.length_append, List.length_singleton] at this
     exact (X2 h).trans this
    | inr r => exact Y7 h
 exact key xs [] s rfl
theorem Yz {α : Type} {xs : List α} {i : Nat} {x : α} (h : xs[i]? = some x) : Xp xs (i : Int) = some x := by
 unfold Xp; rw [if_pos (Int.natCast_nonneg _), Int.toNat_natCast, h]
theorem Vb {α : Type} {b : Nat} {xs ys : List α} (h1 : (xs.length + ys.length) * b ≤ 140737488355328) (h2 : xs.length + ys.length ≤ 140737488355328) : Zcg b xs ys = some (xs ++ ys) := by
 unfold Zcg; rw [if_pos ⟨h1, h2⟩]
theorem Yaz {α : Type} {b : Nat} {i : Int} {x : α} (h0 : 0 ≤ i) (h1 : (b : Int) * i ≤ 140737488355328) (h2 : i ≤ 140737488355328) : Zn7 b i x = some (List.replicate i.toNat x) := by
 unfold Zn7; rw [if_pos ⟨h0, h1, h2⟩]
theorem Zpx {α : Type} {xs : List α} {lo hi : Int} (h0 : 0 ≤ lo) (h1 : lo ≤ hi) (h2 : hi ≤ xs.length) : Zgi xs lo hi = some ((xs.drop lo.toNat).take (hi - lo).toNat) := by
 unfold Zgi; rw [if_pos ⟨h0, h1, h2⟩]
theorem Zld {c : Prop} [Decidable c] (h : c) : Zjc c = some () := by unfold Zjc; rw [if_pos h]
theorem Zyk {α σ R : Type} {g : σ → α → Option (σ ⊕ R)} {out : σ → R} (p : α → Bool) (f : σ → α → σ) (e : R) (I : σ → Nat → Prop) (N : Nat) : ∀ (xs : List α) (s : σ) (k : Nat), k + xs.length ≤ N → I s k →
  (∀ s k x, x ∈ xs → k < N → I s k → g s x = (if p x = true then some (.inr e) else some (.inl (f s x))) ∧ (p x = false → I (f s x) (k + 1))) → Z0r g out xs s = some (if xs.any p = true then e else out (xs.foldl f s))
 | [], s, k, _, _, _ => rfl
 | x :: xs, s, k, hN, hI, h => by
  rw [List.length_cons] at hN
  obtain ⟨h1, h2⟩ := h s k x (.head _) (by omega) hI
  unfold Z0r
  rw [h1]
  cases hp : p x with
  | true => simp [List.any_cons, hp]
  | false =>
   have := Zyk (out := out) p f e I N xs (f s x) (k + 1) (by omega) (h2 hp) fun s k y hy => h s k y (.tail _ hy)
   simp only [Bool.false_eq_true, if_false]
   rw [this, List.any_cons, hp, Bool.false_or, List.foldl_cons]
end Go.Proofs.Ytgpaglmhkklneaa
