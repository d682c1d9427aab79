/- Part H4 of the ghost memory: lemmas and contracts used by the proofs of this seat's laws; each theorem bears its own conditions. -/
import Derived.Test.YtgijkjifiekkmaaH3
import Derived.WalkKit
import Derived.WalkSpells
import Derived.WalkLawsBesides
import Derived.Lib.Hide
import Derived.BigQuiet
import Derived.StillTailTactics
import Derived.Deep.RegionHeld3
import Derived.Deep.AppendLies
import Derived.Laws.CopyOwn
import Derived.Deep.DeepCutAuto
import Derived.Deep.QuietTactic
import Derived.Maps.AppendAt
import Derived.Great.BuildSlice
import Derived.Laws.StructEq
import Derived.IntWalk
import Derived.ProofKit
import Derived.OpenShut
import Derived.SizedLaws
import Derived.Deep.Slices
namespace Go.Proofs.Ytgijkjifiekkmaa
open Go.RowKit
set_option linter.unusedVariables false
set_option linter.unusedSimpArgs false
def eI (k : IntKind) (x : Int) : List G := [.val (.int k x)]
def eB (x : Bool) : List G := [.val (.bool x)]
def eS (x : ByteArray) : List G := [.val (.string x)]
def eL {α : Type} (f : α → List G) (xs : List α) : List G := [.sl xs.length (fl f xs)]
def Xy {α : Type} (xs : List α) (i : Int) : Option α := if 0 ≤ i then xs[i.toNat]? else none
def Zcx {α : Type} (xs : List α) (i : Int) (x : α) : List α := xs.set i.toNat x
def Q3 {α : Type} (xs : List α) (lo hi : Int) : Option (List α) := if 0 ≤ lo ∧ lo ≤ hi ∧ hi ≤ xs.length then some ((xs.drop lo.toNat).take (hi - lo).toNat) else none
def Q8 {α : Type} (b : Nat) (xs ys : List α) : Option (List α) := if (xs.length + ys.length) * b ≤ 140737488355328 ∧ xs.length + ys.length ≤ 140737488355328 then some (xs ++ ys) else none
def Vw {α : Type} (b : Nat) (n : Int) (x : α) : Option (List α) := if 0 ≤ n ∧ (b : Int) * n ≤ 140737488355328 ∧ n ≤ 140737488355328 then some (List.replicate n.toNat x) else none
def V9 (c : Prop) [Decidable c] : Option Unit := if c then some () else none
theorem Zx {α : Type} {c : Bool} {x y r : α} (hc : c = true) (h : cond c x y = r) : x = r := by subst hc; exact h
theorem Zw {α : Type} {c : Bool} {x y r : α} (hc : c = false) (h : cond c x y = r) : y = r := by subst hc; exact h
theorem Zlf {c : Prop} [Decidable c] {u : Unit} (h : V9 c = some u) : c := by unfold V9 at h; split at h <;> first | assumption | cases h
section
variable {α : Type} {xs ys zs : List α} {i lo hi : Int} {x : α} {f : α → List G} {T : Y5} {t : TypeId} {ti : TyI} {O : Objs} {n : Nat}
theorem Zif (h : Xy xs i = some x) : 0 ≤ i := by unfold Xy at h; split at h <;> first | assumption | cases h
theorem Zfs (h : Xy xs i = some x) : xs[i.toNat]? = some x := by unfold Xy at h; split at h <;> first | assumption | cases h
theorem Uq (h : Xy xs i = some x) : i.toNat < xs.length := by
 have := Zfs h
 rcases Nat.lt_or_ge i.toNat xs.length with h | h
 ·exact h
 rw [List.getElem?_eq_none h] at this; cases this
theorem Zmt (h : Xy xs i = some x) : i < (xs.length : Int) := by have := Uq h; have := Zif h; omega
theorem Zjj (h : Q3 xs lo hi = some ys) : 0 ≤ lo := by unfold Q3 at h; split at h <;> first | omega | cases h
theorem Zji (h : Q3 xs lo hi = some ys) : lo ≤ hi := by unfold Q3 at h; split at h <;> first | omega | cases h
theorem Zjh (h : Q3 xs lo hi = some ys) : hi ≤ (xs.length : Int) := by unfold Q3 at h; split at h <;> first | omega | cases h
theorem Zjg (h : Q3 xs lo hi = some ys) : (xs.drop lo.toNat).take (hi - lo).toNat = ys := by unfold Q3 at h; split at h <;> first | (injection h) | cases h
theorem Zlz (h : Q3 xs lo hi = some ys) : ys.length = (hi - lo).toNat := by
 have h1 := Zjj h; have h2 := Zji h; have h3 := Zjh h
 rw [← Zjg h, List.length_take, List.length_drop]; omega
theorem Zmo {b : Nat} (h : Q8 b xs ys = some zs) : zs = xs ++ ys := by unfold Q8 at h; split at h <;> first | (injection h with h; exact h.symm) | cases h
theorem Zoi {b : Nat} (h : Q8 b xs ys = some zs) : (xs.length + ys.length) * b ≤ 140737488355328 := by unfold Q8 at h; split at h <;> first | omega | cases h
theorem Zoj {b : Nat} (h : Q8 b xs ys = some zs) : xs.length + ys.length ≤ 140737488355328 := by unfold Q8 at h; split at h <;> first | omega | cases h
theorem Zll {b : Nat} (h : Vw b i x = some ys) : ys = List.replicate i.toNat x := by unfold Vw at h; split at h <;> first | (injection h with h; exact h.symm) | cases h
theorem Zm0 {b : Nat} (h : Vw b i x = some ys) : 0 ≤ i ∧ (b : Int) * i ≤ 140737488355328 ∧ i ≤ 140737488355328 := by unfold Vw at h; split at h <;> first | assumption | cases h
theorem Zld (ht : T t = some ti) (hf : ∀ x, (f x).length = ti.size) (h0s : 0 < ti.size) (hx : Xy xs i = some x) : Ki T t (fl f xs) (i.toNat * ti.size) = if ti.k.isAgg then some (.agg (f x)) else (f x)[0]? := by
 unfold Ki
 simp only [ht]
 have h0 := Uq hx
 have h1 := Zfs hx
 split
 ·rename_i ha
  rw [if_pos ?_, Znb hf h1]
  rw [Xg hf, ← Nat.succ_mul]
  exact Nat.mul_le_mul_right _ h0
 have := Znb hf h1
 rw [← this, List.getElem?_take, if_pos h0s, List.getElem?_drop, Nat.add_zero]
theorem Zdh (hf : ∀ x, (f x).length = ti.size) (hx : i.toNat < xs.length) : Qg (fl f xs) (f x) (i.toNat * ti.size) = some (fl f (Zcx xs i x)) := by
 unfold Qg Zcx
 rw [hf x, if_pos ?_, Zok hf hx]
 rw [Xg hf, ← Nat.succ_mul]
 exact Nat.mul_le_mul_right _ hx
end
end Go.Proofs.Ytgijkjifiekkmaa
