/- Part H4 of the ghost memory: lemmas and contracts used by the proofs of this seat's laws; each theorem bears its own conditions. -/
import Derived.Test.YtgpaglmhkklneaaH3
import Derived.WalkKit
import Derived.WalkSpells
import Derived.WalkLawsBesides
import Derived.Lib.Hide
import Derived.BigQuiet
import Derived.StillTailTactics
import Derived.Deep.RegionHeld3
import Derived.Deep.AppendLies
import Derived.Laws.CopyOwn
import Derived.Deep.DeepCutAuto
import Derived.Deep.QuietTactic
import Derived.Maps.AppendAt
import Derived.Great.BuildSlice
import Derived.Laws.StructEq
import Derived.ChangeKeysEq
import Derived.IntWalk
import Derived.Lib.AppendZeros
import Derived.Lib.AppendZerosOnto
import Derived.ProofKit
import Derived.OpenShut
import Derived.SizedLaws
import Derived.Deep.Slices
namespace Go.Proofs.Ytgpaglmhkklneaa
open Go.RowKit
set_option linter.unusedVariables false
set_option linter.unusedSimpArgs false
def eI (k : IntKind) (x : Int) : List G := [.val (.int k x)]
def eB (x : Bool) : List G := [.val (.bool x)]
def eS (x : ByteArray) : List G := [.val (.string x)]
def eL {α : Type} (f : α → List G) (xs : List α) : List G := [.sl xs.length (fl f xs)]
def Xp {α : Type} (xs : List α) (i : Int) : Option α := if 0 ≤ i then xs[i.toNat]? else none
def Zh2 {α : Type} (xs : List α) (i : Int) (x : α) : List α := xs.set i.toNat x
def Zgi {α : Type} (xs : List α) (lo hi : Int) : Option (List α) := if 0 ≤ lo ∧ lo ≤ hi ∧ hi ≤ xs.length then some ((xs.drop lo.toNat).take (hi - lo).toNat) else none
def Zcg {α : Type} (b : Nat) (xs ys : List α) : Option (List α) := if (xs.length + ys.length) * b ≤ 140737488355328 ∧ xs.length + ys.length ≤ 140737488355328 then some (xs ++ ys) else none
def Zn7 {α : Type} (b : Nat) (n : Int) (x : α) : Option (List α) := if 0 ≤ n ∧ (b : Int) * n ≤ 140737488355328 ∧ n ≤ 140737488355328 then some (List.replicate n.toNat x) else none
def Zjc (c : Prop) [Decidable c] : Option Unit := if c then some () else none
theorem Zr {α : Type} {c : Bool} {x y r : α} (hc : c = true) (h : cond c x y = r) : x = r := by subst hc; exact h
theorem Zq {α : Type} {c : Bool} {x y r : α} (hc : c = false) (h : cond c x y = r) : y = r := by subst hc; exact h
theorem Yam {c : Prop} [Decidable c] {u : Unit} (h : Zjc c = some u) : c := by unfold Zjc at h; split at h <;> first | assumption | cases h
section
variable {α : Type} {xs ys zs : List α} {i lo hi : Int} {x : α} {f : α → List G} {T : Vt} {t : TypeId} {ti : TyI} {O : Objs} {n : Nat}
theorem Z6u (h : Xp xs i = some x) : 0 ≤ i := by unfold Xp at h; split at h <;> first | assumption | cases h
theorem Zrv (h : Xp xs i = some x) : xs[i.toNat]? = some x := by unfold Xp at h; split at h <;> first | assumption | cases h
theorem Zgz (h : Xp xs i = some x) : i.toNat < xs.length := by
 have := Zrv h
 rcases Nat.lt_or_ge i.toNat xs.length with h | h
 ·exact h
 rw [List.getElem?_eq_none h] at this; cases this
theorem Ycv (h : Xp xs i = some x) : i < (xs.length : Int) := by have := Zgz h; have := Z6u h; omega
theorem Z2z (h : Zgi xs lo hi = some ys) : 0 ≤ lo := by unfold Zgi at h; split at h <;> first | omega | cases h
theorem Z2y (h : Zgi xs lo hi = some ys) : lo ≤ hi := by unfold Zgi at h; split at h <;> first | omega | cases h
theorem Z2x (h : Zgi xs lo hi = some ys) : hi ≤ (xs.length : Int) := by unfold Zgi at h; split at h <;> first | omega | cases h
theorem Z7k (h : Zgi xs lo hi = some ys) : (xs.drop lo.toNat).take (hi - lo).toNat = ys := by unfold Zgi at h; split at h <;> first | (injection h) | cases h
theorem Z48 (h : Zgi xs lo hi = some ys) : ys.length = (hi - lo).toNat := by
 have h1 := Z2z h; have h2 := Z2y h; have h3 := Z2x h
 rw [← Z7k h, List.length_take, List.length_drop]; omega
theorem Zrj {b : Nat} (h : Zcg b xs ys = some zs) : zs = xs ++ ys := by unfold Zcg at h; split at h <;> first | (injection h with h; exact h.symm) | cases h
theorem Zx5 {b : Nat} (h : Zcg b xs ys = some zs) : (xs.length + ys.length) * b ≤ 140737488355328 := by unfold Zcg at h; split at h <;> first | omega | cases h
theorem Zx6 {b : Nat} (h : Zcg b xs ys = some zs) : xs.length + ys.length ≤ 140737488355328 := by unfold Zcg at h; split at h <;> first | omega | cases h
theorem Yay {b : Nat} (h : Zn7 b i x = some ys) : ys = List.replicate i.toNat x := by unfold Zn7 at h; split at h <;> first | (injection h with h; exact h.symm) | cases h
theorem Yc3 {b : Nat} (h : Zn7 b i x = some ys) : 0 ≤ i ∧ (b : Int) * i ≤ 140737488355328 ∧ i ≤ 140737488355328 := by unfold Zn7 at h; split at h <;> first | assumption | cases h
theorem Yal (ht : T t = some ti) (hf : ∀ x, (f x).length = ti.size) (h0s : 0 < ti.size) (hx : Xp xs i = some x) : Ziq T t (fl f xs) (i.toNat * ti.size) = if ti.k.isAgg then some (.agg (f x)) else (f x)[0]? := by
 unfold Ziq
 simp only [ht]
 have h0 := Zgz hx
 have h1 := Zrv hx
 split
 ·rename_i ha
  rw [if_pos ?_, Yec hf h1]
  rw [Jm hf, ← Nat.succ_mul]
  exact Nat.mul_le_mul_right _ h0
 have := Yec hf h1
 rw [← this, List.getElem?_take, if_pos h0s, List.getElem?_drop, Nat.add_zero]
theorem Zlc (hf : ∀ x, (f x).length = ti.size) (hx : i.toNat < xs.length) : Kc (fl f xs) (f x) (i.toNat * ti.size) = some (fl f (Zh2 xs i x)) := by
 unfold Kc Zh2
 rw [hf x, if_pos ?_, Ye7 hf hx]
 rw [Jm hf, ← Nat.succ_mul]
 exact Nat.mul_le_mul_right _ hx
end
end Go.Proofs.Ytgpaglmhkklneaa
