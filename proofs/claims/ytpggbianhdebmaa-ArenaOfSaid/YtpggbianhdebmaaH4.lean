/- Part H4 of the ghost memory: lemmas and contracts used by the proofs of this seat's laws; each theorem bears its own conditions. -/
import Derived.Test.YtpggbianhdebmaaH3
import Derived.WalkKit
import Derived.WalkSpells
import Derived.WalkLawsBesides
import Derived.Lib.Hide
import Derived.BigQuiet
import Derived.StillTailTactics
import Derived.Deep.RegionHeld3
import Derived.Deep.AppendLies
import Derived.Laws.CopyOwn
import Derived.Deep.DeepCutAuto
import Derived.Deep.QuietTactic
import Derived.Maps.AppendAt
import Derived.Great.BuildSlice
import Derived.Laws.StructEq
import Derived.ChangeKeysEq
import Derived.IntWalk
import Derived.Lib.AppendZeros
import Derived.Lib.AppendZerosOnto
import Derived.ProofKit
import Derived.OpenShut
import Derived.SizedLaws
import Derived.Deep.Slices
namespace Go.Proofs.Ytpggbianhdebmaa
open Go.RowKit
set_option linter.unusedVariables false
set_option linter.unusedSimpArgs false
/-- a number's cell -/
def eI (k : IntKind) (x : Int) : List G := [.val (.int k x)]
def eB (x : Bool) : List G := [.val (.bool x)]
def eS (x : ByteArray) : List G := [.val (.string x)]
/-- a list's cell -/
def eL {α : Type} (f : α → List G) (xs : List α) : List G := [.sl xs.length (fl f xs)]
/-- a list's kid -/
def getI {α : Type} (xs : List α) (i : Int) : Option α := if 0 ≤ i then xs[i.toNat]? else none
/-- a list, one of its kids being another one -/
def setI {α : Type} (xs : List α) (i : Int) (x : α) : List α := xs.set i.toNat x
/-- a part of a list -/
def subI {α : Type} (xs : List α) (lo hi : Int) : Option (List α) := if 0 ≤ lo ∧ lo ≤ hi ∧ hi ≤ xs.length then some ((xs.drop lo.toNat).take (hi - lo).toNat) else none
/-- lists, one behind the other, if there is room -/
def appI {α : Type} (b : Nat) (xs ys : List α) : Option (List α) := if (xs.length + ys.length) * b ≤ 140737488355328 ∧ xs.length + ys.length ≤ 140737488355328 then some (xs ++ ys) else none
/-- so many of one kid, if there is room -/
def makeI {α : Type} (b : Nat) (n : Int) (x : α) : Option (List α) := if 0 ≤ n ∧ (b : Int) * n ≤ 140737488355328 ∧ n ≤ 140737488355328 then some (List.replicate n.toNat x) else none
def guardI (c : Prop) [Decidable c] : Option Unit := if c then some () else none
theorem bif_t {α : Type} {c : Bool} {x y : α} {P : α → Prop} (hc : c = true) (h : P (cond c x y)) : P x := by subst hc; exact h
theorem bif_f {α : Type} {c : Bool} {x y : α} {P : α → Prop} (hc : c = false) (h : P (cond c x y)) : P y := by subst hc; exact h
theorem condT {α : Type} {c : Bool} {x y r : α} (hc : c = true) (h : cond c x y = r) : x = r := by subst hc; exact h
theorem condF {α : Type} {c : Bool} {x y r : α} (hc : c = false) (h : cond c x y = r) : y = r := by subst hc; exact h
theorem guardI_p {c : Prop} [Decidable c] {u : Unit} (h : guardI c = some u) : c := by unfold guardI at h; split at h <;> first | assumption | cases h
section
variable {α : Type} {xs ys zs : List α} {i lo hi : Int} {x : α} {f : α → List G} {T : Tab} {t : TypeId} {ti : TyI} {O : Objs} {n : Nat}
theorem getI_lo (h : getI xs i = some x) : 0 ≤ i := by unfold getI at h; split at h <;> first | assumption | cases h
theorem getI_get (h : getI xs i = some x) : xs[i.toNat]? = some x := by unfold getI at h; split at h <;> first | assumption | cases h
theorem getI_nat (h : getI xs i = some x) : i.toNat < xs.length := by
  have := getI_get h
  rcases Nat.lt_or_ge i.toNat xs.length with h | h
  · exact h
  · rw [List.getElem?_eq_none h] at this; cases this
theorem getI_hi (h : getI xs i = some x) : i < (xs.length : Int) := by have := getI_nat h; have := getI_lo h; omega
theorem subI_lo (h : subI xs lo hi = some ys) : 0 ≤ lo := by unfold subI at h; split at h <;> first | omega | cases h
theorem subI_le (h : subI xs lo hi = some ys) : lo ≤ hi := by unfold subI at h; split at h <;> first | omega | cases h
theorem subI_hi (h : subI xs lo hi = some ys) : hi ≤ (xs.length : Int) := by unfold subI at h; split at h <;> first | omega | cases h
theorem subI_eq (h : subI xs lo hi = some ys) : (xs.drop lo.toNat).take (hi - lo).toNat = ys := by unfold subI at h; split at h <;> first | (injection h) | cases h
theorem subI_len (h : subI xs lo hi = some ys) : ys.length = (hi - lo).toNat := by
  have h1 := subI_lo h; have h2 := subI_le h; have h3 := subI_hi h
  rw [← subI_eq h, List.length_take, List.length_drop]; omega
theorem appI_eq {b : Nat} (h : appI b xs ys = some zs) : zs = xs ++ ys := by unfold appI at h; split at h <;> first | (injection h with h; exact h.symm) | cases h
theorem appI_1 {b : Nat} (h : appI b xs ys = some zs) : (xs.length + ys.length) * b ≤ 140737488355328 := by unfold appI at h; split at h <;> first | omega | cases h
theorem appI_2 {b : Nat} (h : appI b xs ys = some zs) : xs.length + ys.length ≤ 140737488355328 := by unfold appI at h; split at h <;> first | omega | cases h
theorem makeI_eq {b : Nat} (h : makeI b i x = some ys) : ys = List.replicate i.toNat x := by unfold makeI at h; split at h <;> first | (injection h with h; exact h.symm) | cases h
theorem makeI_p {b : Nat} (h : makeI b i x = some ys) : 0 ≤ i ∧ (b : Int) * i ≤ 140737488355328 ∧ i ≤ 140737488355328 := by unfold makeI at h; split at h <;> first | assumption | cases h
/-- a kid as it is loaded -/
theorem gpart_el (ht : T t = some ti) (hf : ∀ x, (f x).length = ti.size) (h0s : 0 < ti.size) (hx : getI xs i = some x) : gpart T t (fl f xs) (i.toNat * ti.size) = if ti.k.isAgg then some (.agg (f x)) else (f x)[0]? := by
  unfold gpart
  simp only [ht]
  have h0 := getI_nat hx
  have h1 := getI_get hx
  split
  · rename_i ha
    rw [if_pos ?_, fl_at hf h1]
    rw [fl_length hf, ← Nat.succ_mul]
    exact Nat.mul_le_mul_right _ h0
  · have := fl_at hf h1
    rw [← this, List.getElem?_take, if_pos h0s, List.getElem?_drop, Nat.add_zero]
theorem gplace_el (hf : ∀ x, (f x).length = ti.size) (hx : i.toNat < xs.length) : gplace (fl f xs) (f x) (i.toNat * ti.size) = some (fl f (setI xs i x)) := by
  unfold gplace setI
  rw [hf x, if_pos ?_, fl_set hf hx]
  rw [fl_length hf, ← Nat.succ_mul]
  exact Nat.mul_le_mul_right _ hx
end

end Go.Proofs.Ytpggbianhdebmaa
