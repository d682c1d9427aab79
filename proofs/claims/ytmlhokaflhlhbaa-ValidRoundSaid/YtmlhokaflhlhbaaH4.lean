/- Part H4 of the ghost memory: lemmas and contracts used by the proofs of this seat's laws; each theorem bears its own conditions. -/
import Derived.Test.YtmlhokaflhlhbaaH3
import Derived.WalkKit
import Derived.WalkSpells
import Derived.WalkLawsBesides
import Derived.Lib.Hide
import Derived.BigQuiet
import Derived.StillTailTactics
import Derived.Deep.RegionHeld3
import Derived.Deep.AppendLies
import Derived.Laws.CopyOwn
import Derived.Deep.DeepCutAuto
import Derived.Deep.QuietTactic
import Derived.Maps.AppendAt
import Derived.Great.BuildSlice
import Derived.Laws.StructEq
import Derived.IntWalk
import Derived.ProofKit
import Derived.OpenShut
import Derived.SizedLaws
import Derived.Deep.Slices
namespace Go.Proofs.Ytmlhokaflhlhbaa
open Go.RowKit
set_option linter.unusedVariables false
set_option linter.unusedSimpArgs false
def eI (k : IntKind) (x : Int) : List G := [.val (.int k x)]
def eB (x : Bool) : List G := [.val (.bool x)]
def eS (x : ByteArray) : List G := [.val (.string x)]
def eL {α : Type} (f : α → List G) (xs : List α) : List G := [.sl xs.length (fl f xs)]
def Vb {α : Type} (xs : List α) (i : Int) : Option α := if 0 ≤ i then xs[i.toNat]? else none
def Zj3 {α : Type} (xs : List α) (i : Int) (x : α) : List α := xs.set i.toNat x
def Zfa {α : Type} (xs : List α) (lo hi : Int) : Option (List α) := if 0 ≤ lo ∧ lo ≤ hi ∧ hi ≤ xs.length then some ((xs.drop lo.toNat).take (hi - lo).toNat) else none
def Zlz {α : Type} (b : Nat) (xs ys : List α) : Option (List α) := if (xs.length + ys.length) * b ≤ 140737488355328 ∧ xs.length + ys.length ≤ 140737488355328 then some (xs ++ ys) else none
def Zf8 {α : Type} (b : Nat) (n : Int) (x : α) : Option (List α) := if 0 ≤ n ∧ (b : Int) * n ≤ 140737488355328 ∧ n ≤ 140737488355328 then some (List.replicate n.toNat x) else none
def Zh6 (c : Prop) [Decidable c] : Option Unit := if c then some () else none
theorem Z4 {α : Type} {c : Bool} {x y r : α} (hc : c = true) (h : cond c x y = r) : x = r := by subst hc; exact h
theorem Z3 {α : Type} {c : Bool} {x y r : α} (hc : c = false) (h : cond c x y = r) : y = r := by subst hc; exact h
theorem Zra {c : Prop} [Decidable c] {u : Unit} (h : Zh6 c = some u) : c := by unfold Zh6 at h; split at h <;> first | assumption | cases h
section
variable {α : Type} {xs ys zs : List α} {i lo hi : Int} {x : α} {f : α → List G} {T : Xr} {t : TypeId} {ti : TyI} {O : Objs} {n : Nat}
theorem Zpn (h : Vb xs i = some x) : 0 ≤ i := by unfold Vb at h; split at h <;> first | assumption | cases h
theorem Zm8 (h : Vb xs i = some x) : xs[i.toNat]? = some x := by unfold Vb at h; split at h <;> first | assumption | cases h
theorem Zje (h : Vb xs i = some x) : i.toNat < xs.length := by
 have := Zm8 h
 rcases Nat.lt_or_ge i.toNat xs.length with h | h
 ·exact h
 rw [List.getElem?_eq_none h] at this; cases this
theorem Zsh (h : Vb xs i = some x) : i < (xs.length : Int) := by have := Zje h; have := Zpn h; omega
theorem Zpz (h : Zfa xs lo hi = some ys) : 0 ≤ lo := by unfold Zfa at h; split at h <;> first | omega | cases h
theorem Zpy (h : Zfa xs lo hi = some ys) : lo ≤ hi := by unfold Zfa at h; split at h <;> first | omega | cases h
theorem Zpx (h : Zfa xs lo hi = some ys) : hi ≤ (xs.length : Int) := by unfold Zfa at h; split at h <;> first | omega | cases h
theorem Zpw (h : Zfa xs lo hi = some ys) : (xs.drop lo.toNat).take (hi - lo).toNat = ys := by unfold Zfa at h; split at h <;> first | (injection h) | cases h
theorem Zru (h : Zfa xs lo hi = some ys) : ys.length = (hi - lo).toNat := by
 have h1 := Zpz h; have h2 := Zpy h; have h3 := Zpx h
 rw [← Zpw h, List.length_take, List.length_drop]; omega
theorem Zsb {b : Nat} (h : Zlz b xs ys = some zs) : zs = xs ++ ys := by unfold Zlz at h; split at h <;> first | (injection h with h; exact h.symm) | cases h
theorem Zs3 {b : Nat} (h : Zlz b xs ys = some zs) : (xs.length + ys.length) * b ≤ 140737488355328 := by unfold Zlz at h; split at h <;> first | omega | cases h
theorem Zs4 {b : Nat} (h : Zlz b xs ys = some zs) : xs.length + ys.length ≤ 140737488355328 := by unfold Zlz at h; split at h <;> first | omega | cases h
theorem Zrj {b : Nat} (h : Zf8 b i x = some ys) : ys = List.replicate i.toNat x := by unfold Zf8 at h; split at h <;> first | (injection h with h; exact h.symm) | cases h
theorem Zsk {b : Nat} (h : Zf8 b i x = some ys) : 0 ≤ i ∧ (b : Int) * i ≤ 140737488355328 ∧ i ≤ 140737488355328 := by unfold Zf8 at h; split at h <;> first | assumption | cases h
theorem Zq9 (ht : T t = some ti) (hf : ∀ x, (f x).length = ti.size) (h0s : 0 < ti.size) (hx : Vb xs i = some x) : Zc4 T t (fl f xs) (i.toNat * ti.size) = if ti.k.isAgg then some (.agg (f x)) else (f x)[0]? := by
 unfold Zc4
 simp only [ht]
 have h0 := Zje hx
 have h1 := Zm8 hx
 split
 ·rename_i ha
  rw [if_pos ?_, Zsx hf h1]
  rw [Jr hf, ← Nat.succ_mul]
  exact Nat.mul_le_mul_right _ h0
 have := Zsx hf h1
 rw [← this, List.getElem?_take, if_pos h0s, List.getElem?_drop, Nat.add_zero]
theorem Zqf (hf : ∀ x, (f x).length = ti.size) (hx : i.toNat < xs.length) : Vo (fl f xs) (f x) (i.toNat * ti.size) = some (fl f (Zj3 xs i x)) := by
 unfold Vo Zj3
 rw [hf x, if_pos ?_, Zs8 hf hx]
 rw [Jr hf, ← Nat.succ_mul]
 exact Nat.mul_le_mul_right _ hx
end
end Go.Proofs.Ytmlhokaflhlhbaa
