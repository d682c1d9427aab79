/- Part H4 of the ghost memory: lemmas and contracts used by the proofs of this seat's laws; each theorem bears its own conditions. -/
import Derived.Test.YtgijkjifiekkmaaH3
import Derived.WalkKit
import Derived.WalkSpells
import Derived.WalkLawsBesides
import Derived.Lib.Hide
import Derived.BigQuiet
import Derived.StillTailTactics
import Derived.Deep.RegionHeld3
import Derived.Deep.AppendLies
import Derived.Laws.CopyOwn
import Derived.Deep.DeepCutAuto
import Derived.Deep.QuietTactic
import Derived.Maps.AppendAt
import Derived.Great.BuildSlice
import Derived.Laws.StructEq
import Derived.IntWalk
import Derived.ProofKit
import Derived.OpenShut
import Derived.SizedLaws
import Derived.Deep.Slices
namespace Go.Proofs.Ytgijkjifiekkmaa
open Go.RowKit
set_option linter.unusedVariables false
set_option linter.unusedSimpArgs false
def eI (k : IntKind) (x : Int) : List G := [.val (.int k x)]
def eB (x : Bool) : List G := [.val (.bool x)]
def eS (x : ByteArray) : List G := [.val (.string x)]
def eL {α : Type} (f : α → List G) (xs : List α) : List G := [.sl xs.length (fl f xs)]
def Xq {α : Type} (xs : List α) (i : Int) : Option α := if 0 ≤ i then xs[i.toNat]? else none
def Zcb {α : Type} (xs : List α) (i : Int) (x : α) : List α := xs.set i.toNat x
def Jd {α : Type} (xs : List α) (lo hi : Int) : Option (List α) := if 0 ≤ lo ∧ lo ≤ hi ∧ hi ≤ xs.length then some ((xs.drop lo.toNat).take (hi - lo).toNat) else none
def X4 {α : Type} (b : Nat) (xs ys : List α) : Option (List α) := if (xs.length + ys.length) * b ≤ 140737488355328 ∧ xs.length + ys.length ≤ 140737488355328 then some (xs ++ ys) else none
def V1 {α : Type} (b : Nat) (n : Int) (x : α) : Option (List α) := if 0 ≤ n ∧ (b : Int) * n ≤ 140737488355328 ∧ n ≤ 140737488355328 then some (List.replicate n.toNat x) else none
def Ug (c : Prop) [Decidable c] : Option Unit := if c then some () else none
theorem Z0 {α : Type} {c : Bool} {x y r : α} (hc : c = true) (h : cond c x y = r) : x = r := by subst hc; exact h
theorem Zz {α : Type} {c : Bool} {x y r : α} (hc : c = false) (h : cond c x y = r) : y = r := by subst hc; exact h
theorem Zlf {c : Prop} [Decidable c] {u : Unit} (h : Ug c = some u) : c := by unfold Ug at h; split at h <;> first | assumption | cases h
section
variable {α : Type} {xs ys zs : List α} {i lo hi : Int} {x : α} {f : α → List G} {T : Y6} {t : TypeId} {ti : TyI} {O : Objs} {n : Nat}
theorem Zij (h : Xq xs i = some x) : 0 ≤ i := by unfold Xq at h; split at h <;> first | assumption | cases h
theorem Zfu (h : Xq xs i = some x) : xs[i.toNat]? = some x := by unfold Xq at h; split at h <;> first | assumption | cases h
theorem K7 (h : Xq xs i = some x) : i.toNat < xs.length := by
 have := Zfu h
 rcases Nat.lt_or_ge i.toNat xs.length with h | h
 ·exact h
 rw [List.getElem?_eq_none h] at this; cases this
theorem Zmt (h : Xq xs i = some x) : i < (xs.length : Int) := by have := K7 h; have := Zij h; omega
theorem Zjl (h : Jd xs lo hi = some ys) : 0 ≤ lo := by unfold Jd at h; split at h <;> first | omega | cases h
theorem Zjk (h : Jd xs lo hi = some ys) : lo ≤ hi := by unfold Jd at h; split at h <;> first | omega | cases h
theorem Zjj (h : Jd xs lo hi = some ys) : hi ≤ (xs.length : Int) := by unfold Jd at h; split at h <;> first | omega | cases h
theorem Zji (h : Jd xs lo hi = some ys) : (xs.drop lo.toNat).take (hi - lo).toNat = ys := by unfold Jd at h; split at h <;> first | (injection h) | cases h
theorem Zl1 (h : Jd xs lo hi = some ys) : ys.length = (hi - lo).toNat := by
 have h1 := Zjl h; have h2 := Zjk h; have h3 := Zjj h
 rw [← Zji h, List.length_take, List.length_drop]; omega
theorem Zmo {b : Nat} (h : X4 b xs ys = some zs) : zs = xs ++ ys := by unfold X4 at h; split at h <;> first | (injection h with h; exact h.symm) | cases h
theorem Zok {b : Nat} (h : X4 b xs ys = some zs) : (xs.length + ys.length) * b ≤ 140737488355328 := by unfold X4 at h; split at h <;> first | omega | cases h
theorem Zol {b : Nat} (h : X4 b xs ys = some zs) : xs.length + ys.length ≤ 140737488355328 := by unfold X4 at h; split at h <;> first | omega | cases h
theorem Zll {b : Nat} (h : V1 b i x = some ys) : ys = List.replicate i.toNat x := by unfold V1 at h; split at h <;> first | (injection h with h; exact h.symm) | cases h
theorem Zm0 {b : Nat} (h : V1 b i x = some ys) : 0 ≤ i ∧ (b : Int) * i ≤ 140737488355328 ∧ i ≤ 140737488355328 := by unfold V1 at h; split at h <;> first | assumption | cases h
theorem Zld (ht : T t = some ti) (hf : ∀ x, (f x).length = ti.size) (h0s : 0 < ti.size) (hx : Xq xs i = some x) : Kg T t (fl f xs) (i.toNat * ti.size) = if ti.k.isAgg then some (.agg (f x)) else (f x)[0]? := by
 unfold Kg
 simp only [ht]
 have h0 := K7 hx
 have h1 := Zfu hx
 split
 ·rename_i ha
  rw [if_pos ?_, Znd hf h1]
  rw [Xg hf, ← Nat.succ_mul]
  exact Nat.mul_le_mul_right _ h0
 have := Znd hf h1
 rw [← this, List.getElem?_take, if_pos h0s, List.getElem?_drop, Nat.add_zero]
theorem Gr (hf : ∀ x, (f x).length = ti.size) (hx : i.toNat < xs.length) : X8 (fl f xs) (f x) (i.toNat * ti.size) = some (fl f (Zcb xs i x)) := by
 unfold X8 Zcb
 rw [hf x, if_pos ?_, Zom hf hx]
 rw [Xg hf, ← Nat.succ_mul]
 exact Nat.mul_le_mul_right _ hx
end
end Go.Proofs.Ytgijkjifiekkmaa
