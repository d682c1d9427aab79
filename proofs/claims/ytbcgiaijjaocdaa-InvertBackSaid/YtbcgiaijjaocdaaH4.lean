/- Part H4 of the ghost memory: lemmas and contracts used by the proofs of this seat's laws; each theorem bears its own conditions. -/
import Derived.Test.YtbcgiaijjaocdaaH3
import Derived.WalkKit
import Derived.WalkSpells
import Derived.WalkLawsBesides
import Derived.Lib.Hide
import Derived.BigQuiet
import Derived.StillTailTactics
import Derived.Deep.RegionHeld3
import Derived.Deep.AppendLies
import Derived.Laws.CopyOwn
import Derived.Deep.DeepCutAuto
import Derived.Deep.QuietTactic
import Derived.Maps.AppendAt
import Derived.Great.BuildSlice
import Derived.Laws.StructEq
import Derived.IntWalk
import Derived.ProofKit
import Derived.OpenShut
import Derived.SizedLaws
import Derived.Deep.Slices
namespace Go.Proofs.Ytbcgiaijjaocdaa
open Go.RowKit
set_option linter.unusedVariables false
set_option linter.unusedSimpArgs false
def eI (k : IntKind) (x : Int) : List G := [.val (.int k x)]
def eB (x : Bool) : List G := [.val (.bool x)]
def eS (x : ByteArray) : List G := [.val (.string x)]
def eL {α : Type} (f : α → List G) (xs : List α) : List G := [.sl xs.length (fl f xs)]
def Xf {α : Type} (xs : List α) (i : Int) : Option α := if 0 ≤ i then xs[i.toNat]? else none
def Zb7 {α : Type} (xs : List α) (i : Int) (x : α) : List α := xs.set i.toNat x
def Zcb {α : Type} (xs : List α) (lo hi : Int) : Option (List α) := if 0 ≤ lo ∧ lo ≤ hi ∧ hi ≤ xs.length then some ((xs.drop lo.toNat).take (hi - lo).toNat) else none
def U4 {α : Type} (b : Nat) (xs ys : List α) : Option (List α) := if (xs.length + ys.length) * b ≤ 140737488355328 ∧ xs.length + ys.length ≤ 140737488355328 then some (xs ++ ys) else none
def Zh0 {α : Type} (b : Nat) (n : Int) (x : α) : Option (List α) := if 0 ≤ n ∧ (b : Int) * n ≤ 140737488355328 ∧ n ≤ 140737488355328 then some (List.replicate n.toNat x) else none
def Zjw (c : Prop) [Decidable c] : Option Unit := if c then some () else none
theorem Zx {α : Type} {c : Bool} {x y r : α} (hc : c = true) (h : cond c x y = r) : x = r := by subst hc; exact h
theorem Zw {α : Type} {c : Bool} {x y r : α} (hc : c = false) (h : cond c x y = r) : y = r := by subst hc; exact h
theorem Z1c {c : Prop} [Decidable c] {u : Unit} (h : Zjw c = some u) : c := by unfold Zjw at h; split at h <;> first | assumption | cases h
section
variable {α : Type} {xs ys zs : List α} {i lo hi : Int} {x : α} {f : α → List G} {T : Ka} {t : TypeId} {ti : TyI} {O : Objs} {n : Nat}
theorem Zyz (h : Xf xs i = some x) : 0 ≤ i := by unfold Xf at h; split at h <;> first | assumption | cases h
theorem Zky (h : Xf xs i = some x) : xs[i.toNat]? = some x := by unfold Xf at h; split at h <;> first | assumption | cases h
theorem Zci (h : Xf xs i = some x) : i.toNat < xs.length := by
 have := Zky h
 rcases Nat.lt_or_ge i.toNat xs.length with h | h
 ·exact h
 rw [List.getElem?_eq_none h] at this; cases this
theorem Z39 (h : Xf xs i = some x) : i < (xs.length : Int) := by have := Zci h; have := Zyz h; omega
theorem Ztm (h : Zcb xs lo hi = some ys) : 0 ≤ lo := by unfold Zcb at h; split at h <;> first | omega | cases h
theorem Ztl (h : Zcb xs lo hi = some ys) : lo ≤ hi := by unfold Zcb at h; split at h <;> first | omega | cases h
theorem Ztk (h : Zcb xs lo hi = some ys) : hi ≤ (xs.length : Int) := by unfold Zcb at h; split at h <;> first | omega | cases h
theorem Zzm (h : Zcb xs lo hi = some ys) : (xs.drop lo.toNat).take (hi - lo).toNat = ys := by unfold Zcb at h; split at h <;> first | (injection h) | cases h
theorem Zv0 (h : Zcb xs lo hi = some ys) : ys.length = (hi - lo).toNat := by
 have h1 := Ztm h; have h2 := Ztl h; have h3 := Ztk h
 rw [← Zzm h, List.length_take, List.length_drop]; omega
theorem Zkp {b : Nat} (h : U4 b xs ys = some zs) : zs = xs ++ ys := by unfold U4 at h; split at h <;> first | (injection h with h; exact h.symm) | cases h
theorem Zn5 {b : Nat} (h : U4 b xs ys = some zs) : (xs.length + ys.length) * b ≤ 140737488355328 := by unfold U4 at h; split at h <;> first | omega | cases h
theorem Zn6 {b : Nat} (h : U4 b xs ys = some zs) : xs.length + ys.length ≤ 140737488355328 := by unfold U4 at h; split at h <;> first | omega | cases h
theorem Z1p {b : Nat} (h : Zh0 b i x = some ys) : ys = List.replicate i.toNat x := by unfold Zh0 at h; split at h <;> first | (injection h with h; exact h.symm) | cases h
theorem Z4j {b : Nat} (h : Zh0 b i x = some ys) : 0 ≤ i ∧ (b : Int) * i ≤ 140737488355328 ∧ i ≤ 140737488355328 := by unfold Zh0 at h; split at h <;> first | assumption | cases h
theorem Z1b (ht : T t = some ti) (hf : ∀ x, (f x).length = ti.size) (h0s : 0 < ti.size) (hx : Xf xs i = some x) : Zee T t (fl f xs) (i.toNat * ti.size) = if ti.k.isAgg then some (.agg (f x)) else (f x)[0]? := by
 unfold Zee
 simp only [ht]
 have h0 := Zci hx
 have h1 := Zky hx
 split
 ·rename_i ha
  rw [if_pos ?_, Z46 hf h1]
  rw [Jm hf, ← Nat.succ_mul]
  exact Nat.mul_le_mul_right _ h0
 have := Z46 hf h1
 rw [← this, List.getElem?_take, if_pos h0s, List.getElem?_drop, Nat.add_zero]
theorem Zgh (hf : ∀ x, (f x).length = ti.size) (hx : i.toNat < xs.length) : Ji (fl f xs) (f x) (i.toNat * ti.size) = some (fl f (Zb7 xs i x)) := by
 unfold Ji Zb7
 rw [hf x, if_pos ?_, Z5p hf hx]
 rw [Jm hf, ← Nat.succ_mul]
 exact Nat.mul_le_mul_right _ hx
end
end Go.Proofs.Ytbcgiaijjaocdaa
