/- Part H4 of the ghost memory: lemmas and contracts used by the proofs of this seat's laws; each theorem bears its own conditions. -/
import Derived.Test.YtmlhokaflhlhbaaH3
import Derived.WalkKit
import Derived.WalkSpells
import Derived.WalkLawsBesides
import Derived.Lib.Hide
import Derived.BigQuiet
import Derived.StillTailTactics
import Derived.Deep.RegionHeld3
import Derived.Deep.AppendLies
import Derived.Laws.CopyOwn
import Derived.Deep.DeepCutAuto
import Derived.Deep.QuietTactic
import Derived.Maps.AppendAt
import Derived.Great.BuildSlice
import Derived.Laws.StructEq
import Derived.IntWalk
import Derived.ProofKit
import Derived.OpenShut
import Derived.SizedLaws
import Derived.Deep.Slices
namespace Go.Proofs.Ytmlhokaflhlhbaa
open Go.RowKit
set_option linter.unusedVariables false
set_option linter.unusedSimpArgs false
def eI (k : IntKind) (x : Int) : List G := [.val (.int k x)]
def eB (x : Bool) : List G := [.val (.bool x)]
def eS (x : ByteArray) : List G := [.val (.string x)]
def eL {α : Type} (f : α → List G) (xs : List α) : List G := [.sl xs.length (fl f xs)]
def Qg {α : Type} (xs : List α) (i : Int) : Option α := if 0 ≤ i then xs[i.toNat]? else none
def Zij {α : Type} (xs : List α) (i : Int) (x : α) : List α := xs.set i.toNat x
def Zb2 {α : Type} (xs : List α) (lo hi : Int) : Option (List α) := if 0 ≤ lo ∧ lo ≤ hi ∧ hi ≤ xs.length then some ((xs.drop lo.toNat).take (hi - lo).toNat) else none
def Zeg {α : Type} (b : Nat) (xs ys : List α) : Option (List α) := if (xs.length + ys.length) * b ≤ 140737488355328 ∧ xs.length + ys.length ≤ 140737488355328 then some (xs ++ ys) else none
def Zfu {α : Type} (b : Nat) (n : Int) (x : α) : Option (List α) := if 0 ≤ n ∧ (b : Int) * n ≤ 140737488355328 ∧ n ≤ 140737488355328 then some (List.replicate n.toNat x) else none
def Qh (c : Prop) [Decidable c] : Option Unit := if c then some () else none
theorem Zy {α : Type} {c : Bool} {x y r : α} (hc : c = true) (h : cond c x y = r) : x = r := by subst hc; exact h
theorem Zx {α : Type} {c : Bool} {x y r : α} (hc : c = false) (h : cond c x y = r) : y = r := by subst hc; exact h
theorem Zx3 {c : Prop} [Decidable c] {u : Unit} (h : Qh c = some u) : c := by unfold Qh at h; split at h <;> first | assumption | cases h
section
variable {α : Type} {xs ys zs : List α} {i lo hi : Int} {x : α} {f : α → List G} {T : Qv} {t : TypeId} {ti : TyI} {O : Objs} {n : Nat}
theorem Zuv (h : Qg xs i = some x) : 0 ≤ i := by unfold Qg at h; split at h <;> first | assumption | cases h
theorem Zoc (h : Qg xs i = some x) : xs[i.toNat]? = some x := by unfold Qg at h; split at h <;> first | assumption | cases h
theorem Zdw (h : Qg xs i = some x) : i.toNat < xs.length := by
 have := Zoc h
 rcases Nat.lt_or_ge i.toNat xs.length with h | h
 ·exact h
 rw [List.getElem?_eq_none h] at this; cases this
theorem Zzo (h : Qg xs i = some x) : i < (xs.length : Int) := by have := Zdw h; have := Zuv h; omega
theorem Zra (h : Zb2 xs lo hi = some ys) : 0 ≤ lo := by unfold Zb2 at h; split at h <;> first | omega | cases h
theorem Zq9 (h : Zb2 xs lo hi = some ys) : lo ≤ hi := by unfold Zb2 at h; split at h <;> first | omega | cases h
theorem Zq8 (h : Zb2 xs lo hi = some ys) : hi ≤ (xs.length : Int) := by unfold Zb2 at h; split at h <;> first | omega | cases h
theorem Zu8 (h : Zb2 xs lo hi = some ys) : (xs.drop lo.toNat).take (hi - lo).toNat = ys := by unfold Zb2 at h; split at h <;> first | (injection h) | cases h
theorem Zti (h : Zb2 xs lo hi = some ys) : ys.length = (hi - lo).toNat := by
 have h1 := Zra h; have h2 := Zq9 h; have h3 := Zq8 h
 rw [← Zu8 h, List.length_take, List.length_drop]; omega
theorem Zp4 {b : Nat} (h : Zeg b xs ys = some zs) : zs = xs ++ ys := by unfold Zeg at h; split at h <;> first | (injection h with h; exact h.symm) | cases h
theorem Ztt {b : Nat} (h : Zeg b xs ys = some zs) : (xs.length + ys.length) * b ≤ 140737488355328 := by unfold Zeg at h; split at h <;> first | omega | cases h
theorem Ztu {b : Nat} (h : Zeg b xs ys = some zs) : xs.length + ys.length ≤ 140737488355328 := by unfold Zeg at h; split at h <;> first | omega | cases h
theorem Zyi {b : Nat} (h : Zfu b i x = some ys) : ys = List.replicate i.toNat x := by unfold Zfu at h; split at h <;> first | (injection h with h; exact h.symm) | cases h
theorem Zzq {b : Nat} (h : Zfu b i x = some ys) : 0 ≤ i ∧ (b : Int) * i ≤ 140737488355328 ∧ i ≤ 140737488355328 := by unfold Zfu at h; split at h <;> first | assumption | cases h
theorem Zx2 (ht : T t = some ti) (hf : ∀ x, (f x).length = ti.size) (h0s : 0 < ti.size) (hx : Qg xs i = some x) : Zc8 T t (fl f xs) (i.toNat * ti.size) = if ti.k.isAgg then some (.agg (f x)) else (f x)[0]? := by
 unfold Zc8
 simp only [ht]
 have h0 := Zdw hx
 have h1 := Zoc hx
 split
 ·rename_i ha
  rw [if_pos ?_, Z0g hf h1]
  rw [Ja hf, ← Nat.succ_mul]
  exact Nat.mul_le_mul_right _ h0
 have := Z0g hf h1
 rw [← this, List.getElem?_take, if_pos h0s, List.getElem?_drop, Nat.add_zero]
theorem Zpu (hf : ∀ x, (f x).length = ti.size) (hx : i.toNat < xs.length) : Gj (fl f xs) (f x) (i.toNat * ti.size) = some (fl f (Zij xs i x)) := by
 unfold Gj Zij
 rw [hf x, if_pos ?_, Z0o hf hx]
 rw [Ja hf, ← Nat.succ_mul]
 exact Nat.mul_le_mul_right _ hx
end
end Go.Proofs.Ytmlhokaflhlhbaa
