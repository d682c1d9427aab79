/- Part H4 of the ghost memory: lemmas and contracts used by the proofs of this seat's laws; each theorem bears its own conditions. -/
import Derived.Test.YtmlhokaflhlhbaaH3
import Derived.WalkKit
import Derived.WalkSpells
import Derived.WalkLawsBesides
import Derived.Lib.Hide
import Derived.BigQuiet
import Derived.StillTailTactics
import Derived.Deep.RegionHeld3
import Derived.Deep.AppendLies
import Derived.Laws.CopyOwn
import Derived.Deep.DeepCutAuto
import Derived.Deep.QuietTactic
import Derived.Maps.AppendAt
import Derived.Great.BuildSlice
import Derived.Laws.StructEq
import Derived.IntWalk
import Derived.ProofKit
import Derived.OpenShut
import Derived.SizedLaws
import Derived.Deep.Slices
namespace Go.Proofs.Ytmlhokaflhlhbaa
open Go.RowKit
set_option linter.unusedVariables false
set_option linter.unusedSimpArgs false
def eI (k : IntKind) (x : Int) : List G := [.val (.int k x)]
def eB (x : Bool) : List G := [.val (.bool x)]
def eS (x : ByteArray) : List G := [.val (.string x)]
def eL {α : Type} (f : α → List G) (xs : List α) : List G := [.sl xs.length (fl f xs)]
def Q3 {α : Type} (xs : List α) (i : Int) : Option α := if 0 ≤ i then xs[i.toNat]? else none
def Zjt {α : Type} (xs : List α) (i : Int) (x : α) : List α := xs.set i.toNat x
def Zdb {α : Type} (xs : List α) (lo hi : Int) : Option (List α) := if 0 ≤ lo ∧ lo ≤ hi ∧ hi ≤ xs.length then some ((xs.drop lo.toNat).take (hi - lo).toNat) else none
def Zfl {α : Type} (b : Nat) (xs ys : List α) : Option (List α) := if (xs.length + ys.length) * b ≤ 140737488355328 ∧ xs.length + ys.length ≤ 140737488355328 then some (xs ++ ys) else none
def Zfu {α : Type} (b : Nat) (n : Int) (x : α) : Option (List α) := if 0 ≤ n ∧ (b : Int) * n ≤ 140737488355328 ∧ n ≤ 140737488355328 then some (List.replicate n.toNat x) else none
def Xx (c : Prop) [Decidable c] : Option Unit := if c then some () else none
theorem Zv {α : Type} {c : Bool} {x y r : α} (hc : c = true) (h : cond c x y = r) : x = r := by subst hc; exact h
theorem Zu {α : Type} {c : Bool} {x y r : α} (hc : c = false) (h : cond c x y = r) : y = r := by subst hc; exact h
theorem Zt7 {c : Prop} [Decidable c] {u : Unit} (h : Xx c = some u) : c := by unfold Xx at h; split at h <;> first | assumption | cases h
section
variable {α : Type} {xs ys zs : List α} {i lo hi : Int} {x : α} {f : α → List G} {T : Qe} {t : TypeId} {ti : TyI} {O : Objs} {n : Nat}
theorem Zsf (h : Q3 xs i = some x) : 0 ≤ i := by unfold Q3 at h; split at h <;> first | assumption | cases h
theorem Zo7 (h : Q3 xs i = some x) : xs[i.toNat]? = some x := by unfold Q3 at h; split at h <;> first | assumption | cases h
theorem Zit (h : Q3 xs i = some x) : i.toNat < xs.length := by
 have := Zo7 h
 rcases Nat.lt_or_ge i.toNat xs.length with h | h
 ·exact h
 rw [List.getElem?_eq_none h] at this; cases this
theorem Zwo (h : Q3 xs i = some x) : i < (xs.length : Int) := by have := Zit h; have := Zsf h; omega
theorem Zsr (h : Zdb xs lo hi = some ys) : 0 ≤ lo := by unfold Zdb at h; split at h <;> first | omega | cases h
theorem Zsq (h : Zdb xs lo hi = some ys) : lo ≤ hi := by unfold Zdb at h; split at h <;> first | omega | cases h
theorem Zsp (h : Zdb xs lo hi = some ys) : hi ≤ (xs.length : Int) := by unfold Zdb at h; split at h <;> first | omega | cases h
theorem Zso (h : Zdb xs lo hi = some ys) : (xs.drop lo.toNat).take (hi - lo).toNat = ys := by unfold Zdb at h; split at h <;> first | (injection h) | cases h
theorem Zu0 (h : Zdb xs lo hi = some ys) : ys.length = (hi - lo).toNat := by
 have h1 := Zsr h; have h2 := Zsq h; have h3 := Zsp h
 rw [← Zso h, List.length_take, List.length_drop]; omega
theorem Zlo {b : Nat} (h : Zfl b xs ys = some zs) : zs = xs ++ ys := by unfold Zfl at h; split at h <;> first | (injection h with h; exact h.symm) | cases h
theorem Zqd {b : Nat} (h : Zfl b xs ys = some zs) : (xs.length + ys.length) * b ≤ 140737488355328 := by unfold Zfl at h; split at h <;> first | omega | cases h
theorem Zqe {b : Nat} (h : Zfl b xs ys = some zs) : xs.length + ys.length ≤ 140737488355328 := by unfold Zfl at h; split at h <;> first | omega | cases h
theorem Zui {b : Nat} (h : Zfu b i x = some ys) : ys = List.replicate i.toNat x := by unfold Zfu at h; split at h <;> first | (injection h with h; exact h.symm) | cases h
theorem Zwr {b : Nat} (h : Zfu b i x = some ys) : 0 ≤ i ∧ (b : Int) * i ≤ 140737488355328 ∧ i ≤ 140737488355328 := by unfold Zfu at h; split at h <;> first | assumption | cases h
theorem Zt6 (ht : T t = some ti) (hf : ∀ x, (f x).length = ti.size) (h0s : 0 < ti.size) (hx : Q3 xs i = some x) : Zcq T t (fl f xs) (i.toNat * ti.size) = if ti.k.isAgg then some (.agg (f x)) else (f x)[0]? := by
 unfold Zcq
 simp only [ht]
 have h0 := Zit hx
 have h1 := Zo7 hx
 split
 ·rename_i ha
  rw [if_pos ?_, Zw6 hf h1]
  rw [Q5 hf, ← Nat.succ_mul]
  exact Nat.mul_le_mul_right _ h0
 have := Zw6 hf h1
 rw [← this, List.getElem?_take, if_pos h0s, List.getElem?_drop, Nat.add_zero]
theorem Zs6 (hf : ∀ x, (f x).length = ti.size) (hx : i.toNat < xs.length) : Um (fl f xs) (f x) (i.toNat * ti.size) = some (fl f (Zjt xs i x)) := by
 unfold Um Zjt
 rw [hf x, if_pos ?_, Zxj hf hx]
 rw [Q5 hf, ← Nat.succ_mul]
 exact Nat.mul_le_mul_right _ hx
end
end Go.Proofs.Ytmlhokaflhlhbaa
