/- Part H4 of the ghost memory: lemmas and contracts used by the proofs of this seat's laws; each theorem bears its own conditions. -/
import Derived.Test.YtgpaglmhkklneaaGreatH3
import Derived.WalkKit
import Derived.WalkSpells
import Derived.WalkLawsBesides
import Derived.Lib.Hide
import Derived.BigQuiet
import Derived.StillTailTactics
import Derived.Deep.RegionHeld3
import Derived.Deep.AppendLies
import Derived.Laws.CopyOwn
import Derived.Deep.DeepCutAuto
import Derived.Deep.QuietTactic
import Derived.Maps.AppendAt
import Derived.Great.BuildSlice
import Derived.Laws.StructEq
import Derived.ChangeKeysEq
import Derived.IntWalk
import Derived.Lib.AppendZeros
import Derived.Lib.AppendZerosOnto
import Derived.ProofKit
import Derived.OpenShut
import Derived.SizedLaws
import Derived.Deep.Slices
namespace Go.Proofs.YtgpaglmhkklneaaGreat
open Go.RowKit
set_option linter.unusedVariables false
set_option linter.unusedSimpArgs false
def eI (k : IntKind) (x : Int) : List G := [.val (.int k x)]
def eB (x : Bool) : List G := [.val (.bool x)]
def eS (x : ByteArray) : List G := [.val (.string x)]
def eL {α : Type} (f : α → List G) (xs : List α) : List G := [.sl xs.length (fl f xs)]
def Qm {α : Type} (xs : List α) (i : Int) : Option α := if 0 ≤ i then xs[i.toNat]? else none
def Zhe {α : Type} (xs : List α) (i : Int) (x : α) : List α := xs.set i.toNat x
def Zhf {α : Type} (xs : List α) (lo hi : Int) : Option (List α) := if 0 ≤ lo ∧ lo ≤ hi ∧ hi ≤ xs.length then some ((xs.drop lo.toNat).take (hi - lo).toNat) else none
def Za5 {α : Type} (b : Nat) (xs ys : List α) : Option (List α) := if (xs.length + ys.length) * b ≤ 140737488355328 ∧ xs.length + ys.length ≤ 140737488355328 then some (xs ++ ys) else none
def Zli {α : Type} (b : Nat) (n : Int) (x : α) : Option (List α) := if 0 ≤ n ∧ (b : Int) * n ≤ 140737488355328 ∧ n ≤ 140737488355328 then some (List.replicate n.toNat x) else none
def Zhy (c : Prop) [Decidable c] : Option Unit := if c then some () else none
theorem Zx {α : Type} {c : Bool} {x y r : α} (hc : c = true) (h : cond c x y = r) : x = r := by subst hc; exact h
theorem Zw {α : Type} {c : Bool} {x y r : α} (hc : c = false) (h : cond c x y = r) : y = r := by subst hc; exact h
theorem Z5y {c : Prop} [Decidable c] {u : Unit} (h : Zhy c = some u) : c := by unfold Zhy at h; split at h <;> first | assumption | cases h
section
variable {α : Type} {xs ys zs : List α} {i lo hi : Int} {x : α} {f : α → List G} {T : K3} {t : TypeId} {ti : TyI} {O : Objs} {n : Nat}
theorem Z3j (h : Qm xs i = some x) : 0 ≤ i := by unfold Qm at h; split at h <;> first | assumption | cases h
theorem Zoc (h : Qm xs i = some x) : xs[i.toNat]? = some x := by unfold Qm at h; split at h <;> first | assumption | cases h
theorem Zhx (h : Qm xs i = some x) : i.toNat < xs.length := by
 have := Zoc h
 rcases Nat.lt_or_ge i.toNat xs.length with h | h
 ·exact h
 rw [List.getElem?_eq_none h] at this; cases this
theorem Z82 (h : Qm xs i = some x) : i < (xs.length : Int) := by have := Zhx h; have := Z3j h; omega
theorem Zyb (h : Zhf xs lo hi = some ys) : 0 ≤ lo := by unfold Zhf at h; split at h <;> first | omega | cases h
theorem Zya (h : Zhf xs lo hi = some ys) : lo ≤ hi := by unfold Zhf at h; split at h <;> first | omega | cases h
theorem Zx9 (h : Zhf xs lo hi = some ys) : hi ≤ (xs.length : Int) := by unfold Zhf at h; split at h <;> first | omega | cases h
theorem Z3z (h : Zhf xs lo hi = some ys) : (xs.drop lo.toNat).take (hi - lo).toNat = ys := by unfold Zhf at h; split at h <;> first | (injection h) | cases h
theorem Z0q (h : Zhf xs lo hi = some ys) : ys.length = (hi - lo).toNat := by
 have h1 := Zyb h; have h2 := Zya h; have h3 := Zx9 h
 rw [← Z3z h, List.length_take, List.length_drop]; omega
theorem Zra {b : Nat} (h : Za5 b xs ys = some zs) : zs = xs ++ ys := by unfold Za5 at h; split at h <;> first | (injection h with h; exact h.symm) | cases h
theorem Zv1 {b : Nat} (h : Za5 b xs ys = some zs) : (xs.length + ys.length) * b ≤ 140737488355328 := by unfold Za5 at h; split at h <;> first | omega | cases h
theorem Zv2 {b : Nat} (h : Za5 b xs ys = some zs) : xs.length + ys.length ≤ 140737488355328 := by unfold Za5 at h; split at h <;> first | omega | cases h
theorem Z6b {b : Nat} (h : Zli b i x = some ys) : ys = List.replicate i.toNat x := by unfold Zli at h; split at h <;> first | (injection h with h; exact h.symm) | cases h
theorem Z9b {b : Nat} (h : Zli b i x = some ys) : 0 ≤ i ∧ (b : Int) * i ≤ 140737488355328 ∧ i ≤ 140737488355328 := by unfold Zli at h; split at h <;> first | assumption | cases h
theorem Z5x (ht : T t = some ti) (hf : ∀ x, (f x).length = ti.size) (h0s : 0 < ti.size) (hx : Qm xs i = some x) : Ziv T t (fl f xs) (i.toNat * ti.size) = if ti.k.isAgg then some (.agg (f x)) else (f x)[0]? := by
 unfold Ziv
 simp only [ht]
 have h0 := Zhx hx
 have h1 := Zoc hx
 split
 ·rename_i ha
  rw [if_pos ?_, Z93 hf h1]
  rw [Qr hf, ← Nat.succ_mul]
  exact Nat.mul_le_mul_right _ h0
 have := Z93 hf h1
 rw [← this, List.getElem?_take, if_pos h0s, List.getElem?_drop, Nat.add_zero]
theorem Zpp (hf : ∀ x, (f x).length = ti.size) (hx : i.toNat < xs.length) : Kh (fl f xs) (f x) (i.toNat * ti.size) = some (fl f (Zhe xs i x)) := by
 unfold Kh Zhe
 rw [hf x, if_pos ?_, Yav hf hx]
 rw [Qr hf, ← Nat.succ_mul]
 exact Nat.mul_le_mul_right _ hx
end
end Go.Proofs.YtgpaglmhkklneaaGreat
