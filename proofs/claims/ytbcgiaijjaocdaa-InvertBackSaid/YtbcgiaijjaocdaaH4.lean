/- Part H4 of the ghost memory: lemmas and contracts used by the proofs of this seat's laws; each theorem bears its own conditions. -/
import Derived.Test.YtbcgiaijjaocdaaH3
import Derived.WalkKit
import Derived.WalkSpells
import Derived.WalkLawsBesides
import Derived.Lib.Hide
import Derived.BigQuiet
import Derived.StillTailTactics
import Derived.Deep.RegionHeld3
import Derived.Deep.AppendLies
import Derived.Laws.CopyOwn
import Derived.Deep.DeepCutAuto
import Derived.Deep.QuietTactic
import Derived.Maps.AppendAt
import Derived.Great.BuildSlice
import Derived.Laws.StructEq
import Derived.IntWalk
import Derived.ProofKit
import Derived.OpenShut
import Derived.SizedLaws
import Derived.Deep.Slices
namespace Go.Proofs.Ytbcgiaijjaocdaa
open Go.RowKit
set_option linter.unusedVariables false
set_option linter.unusedSimpArgs false
def eI (k : IntKind) (x : Int) : List G := [.val (.int k x)]
def eB (x : Bool) : List G := [.val (.bool x)]
def eS (x : ByteArray) : List G := [.val (.string x)]
def eL {α : Type} (f : α → List G) (xs : List α) : List G := [.sl xs.length (fl f xs)]
def Xi {α : Type} (xs : List α) (i : Int) : Option α := if 0 ≤ i then xs[i.toNat]? else none
def Zb7 {α : Type} (xs : List α) (i : Int) (x : α) : List α := xs.set i.toNat x
def Zce {α : Type} (xs : List α) (lo hi : Int) : Option (List α) := if 0 ≤ lo ∧ lo ≤ hi ∧ hi ≤ xs.length then some ((xs.drop lo.toNat).take (hi - lo).toNat) else none
def Gi {α : Type} (b : Nat) (xs ys : List α) : Option (List α) := if (xs.length + ys.length) * b ≤ 140737488355328 ∧ xs.length + ys.length ≤ 140737488355328 then some (xs ++ ys) else none
def Zig {α : Type} (b : Nat) (n : Int) (x : α) : Option (List α) := if 0 ≤ n ∧ (b : Int) * n ≤ 140737488355328 ∧ n ≤ 140737488355328 then some (List.replicate n.toNat x) else none
def Zj4 (c : Prop) [Decidable c] : Option Unit := if c then some () else none
theorem Zx {α : Type} {c : Bool} {x y r : α} (hc : c = true) (h : cond c x y = r) : x = r := by subst hc; exact h
theorem Zy {α : Type} {c : Bool} {x y r : α} (hc : c = false) (h : cond c x y = r) : y = r := by subst hc; exact h
theorem Z0q {c : Prop} [Decidable c] {u : Unit} (h : Zj4 c = some u) : c := by unfold Zj4 at h; split at h <;> first | assumption | cases h
section
variable {α : Type} {xs ys zs : List α} {i lo hi : Int} {x : α} {f : α → List G} {T : Kg} {t : TypeId} {ti : TyI} {O : Objs} {n : Nat}
theorem Zyx (h : Xi xs i = some x) : 0 ≤ i := by unfold Xi at h; split at h <;> first | assumption | cases h
theorem Zli (h : Xi xs i = some x) : xs[i.toNat]? = some x := by unfold Xi at h; split at h <;> first | assumption | cases h
theorem Zcl (h : Xi xs i = some x) : i.toNat < xs.length := by
 have := Zli h
 rcases Nat.lt_or_ge i.toNat xs.length with h | h
 ·exact h
 rw [List.getElem?_eq_none h] at this; cases this
theorem Z4e (h : Xi xs i = some x) : i < (xs.length : Int) := by have := Zcl h; have := Zyx h; omega
theorem Ztn (h : Zce xs lo hi = some ys) : 0 ≤ lo := by unfold Zce at h; split at h <;> first | omega | cases h
theorem Zt0 (h : Zce xs lo hi = some ys) : lo ≤ hi := by unfold Zce at h; split at h <;> first | omega | cases h
theorem Zus (h : Zce xs lo hi = some ys) : hi ≤ (xs.length : Int) := by unfold Zce at h; split at h <;> first | omega | cases h
theorem Zy6 (h : Zce xs lo hi = some ys) : (xs.drop lo.toNat).take (hi - lo).toNat = ys := by unfold Zce at h; split at h <;> first | (injection h) | cases h
theorem Zvy (h : Zce xs lo hi = some ys) : ys.length = (hi - lo).toNat := by
 have h1 := Ztn h; have h2 := Zt0 h; have h3 := Zus h
 rw [← Zy6 h, List.length_take, List.length_drop]; omega
theorem Zlk {b : Nat} (h : Gi b xs ys = some zs) : zs = xs ++ ys := by unfold Gi at h; split at h <;> first | (injection h with h; exact h.symm) | cases h
theorem Zpl {b : Nat} (h : Gi b xs ys = some zs) : (xs.length + ys.length) * b ≤ 140737488355328 := by unfold Gi at h; split at h <;> first | omega | cases h
theorem Zop {b : Nat} (h : Gi b xs ys = some zs) : xs.length + ys.length ≤ 140737488355328 := by unfold Gi at h; split at h <;> first | omega | cases h
theorem Z2r {b : Nat} (h : Zig b i x = some ys) : ys = List.replicate i.toNat x := by unfold Zig at h; split at h <;> first | (injection h with h; exact h.symm) | cases h
theorem Z4h {b : Nat} (h : Zig b i x = some ys) : 0 ≤ i ∧ (b : Int) * i ≤ 140737488355328 ∧ i ≤ 140737488355328 := by unfold Zig at h; split at h <;> first | assumption | cases h
theorem Z04 (ht : T t = some ti) (hf : ∀ x, (f x).length = ti.size) (h0s : 0 < ti.size) (hx : Xi xs i = some x) : Zek T t (fl f xs) (i.toNat * ti.size) = if ti.k.isAgg then some (.agg (f x)) else (f x)[0]? := by
 unfold Zek
 simp only [ht]
 have h0 := Zcl hx
 have h1 := Zli hx
 split
 ·rename_i ha
  rw [if_pos ?_, Z5e hf h1]
  rw [Jp hf, ← Nat.succ_mul]
  exact Nat.mul_le_mul_right _ h0
 have := Z5e hf h1
 rw [← this, List.getElem?_take, if_pos h0s, List.getElem?_drop, Nat.add_zero]
theorem Zgi (hf : ∀ x, (f x).length = ti.size) (hx : i.toNat < xs.length) : Jj (fl f xs) (f x) (i.toNat * ti.size) = some (fl f (Zb7 xs i x)) := by
 unfold Jj Zb7
 rw [hf x, if_pos ?_, Z5l hf hx]
 rw [Jp hf, ← Nat.succ_mul]
 exact Nat.mul_le_mul_right _ hx
end
end Go.Proofs.Ytbcgiaijjaocdaa
