/- Part H4 of the ghost memory: lemmas and contracts used by the proofs of this seat's laws; each theorem bears its own conditions. -/
import Derived.Test.YtpfbdlcnfekdkaaH3
import Derived.WalkKit
import Derived.WalkSpells
import Derived.WalkLawsBesides
import Derived.Lib.Hide
import Derived.BigQuiet
import Derived.StillTailTactics
import Derived.Deep.RegionHeld3
import Derived.Deep.AppendLies
import Derived.Laws.CopyOwn
import Derived.Deep.DeepCutAuto
import Derived.Deep.QuietTactic
import Derived.Maps.AppendAt
import Derived.Great.BuildSlice
import Derived.Laws.StructEq
import Derived.ChangeKeysEq
import Derived.IntWalk
import Derived.Lib.AppendZeros
import Derived.Lib.AppendZerosOnto
import Derived.ProofKit
import Derived.OpenShut
import Derived.SizedLaws
import Derived.Deep.Slices
namespace Go.Proofs.Ytpfbdlcnfekdkaa
open Go.RowKit
set_option linter.unusedVariables false
set_option linter.unusedSimpArgs false
def eI (k : IntKind) (x : Int) : List G := [.val (.int k x)]
def eB (x : Bool) : List G := [.val (.bool x)]
def eS (x : ByteArray) : List G := [.val (.string x)]
def eL {α : Type} (f : α → List G) (xs : List α) : List G := [.sl xs.length (fl f xs)]
def Y5 {α : Type} (xs : List α) (i : Int) : Option α := if 0 ≤ i then xs[i.toNat]? else none
def Qy {α : Type} (xs : List α) (i : Int) (x : α) : List α := xs.set i.toNat x
def Zif {α : Type} (xs : List α) (lo hi : Int) : Option (List α) := if 0 ≤ lo ∧ lo ≤ hi ∧ hi ≤ xs.length then some ((xs.drop lo.toNat).take (hi - lo).toNat) else none
def Zeq {α : Type} (b : Nat) (xs ys : List α) : Option (List α) := if (xs.length + ys.length) * b ≤ 140737488355328 ∧ xs.length + ys.length ≤ 140737488355328 then some (xs ++ ys) else none
def Zgl {α : Type} (b : Nat) (n : Int) (x : α) : Option (List α) := if 0 ≤ n ∧ (b : Int) * n ≤ 140737488355328 ∧ n ≤ 140737488355328 then some (List.replicate n.toNat x) else none
def Xi (c : Prop) [Decidable c] : Option Unit := if c then some () else none
theorem Zo {α : Type} {c : Bool} {x y r : α} (hc : c = true) (h : cond c x y = r) : x = r := by subst hc; exact h
theorem Zn {α : Type} {c : Bool} {x y r : α} (hc : c = false) (h : cond c x y = r) : y = r := by subst hc; exact h
theorem Z79 {c : Prop} [Decidable c] {u : Unit} (h : Xi c = some u) : c := by unfold Xi at h; split at h <;> first | assumption | cases h
section
variable {α : Type} {xs ys zs : List α} {i lo hi : Int} {x : α} {f : α → List G} {T : Kq} {t : TypeId} {ti : TyI} {O : Objs} {n : Nat}
theorem Z5g (h : Y5 xs i = some x) : 0 ≤ i := by unfold Y5 at h; split at h <;> first | assumption | cases h
theorem Zqc (h : Y5 xs i = some x) : xs[i.toNat]? = some x := by unfold Y5 at h; split at h <;> first | assumption | cases h
theorem Zd9 (h : Y5 xs i = some x) : i.toNat < xs.length := by
 have := Zqc h
 rcases Nat.lt_or_ge i.toNat xs.length with h | h
 ·exact h
 rw [List.getElem?_eq_none h] at this; cases this
theorem Yae (h : Y5 xs i = some x) : i < (xs.length : Int) := by have := Zd9 h; have := Z5g h; omega
theorem Z0b (h : Zif xs lo hi = some ys) : 0 ≤ lo := by unfold Zif at h; split at h <;> first | omega | cases h
theorem Z0a (h : Zif xs lo hi = some ys) : lo ≤ hi := by unfold Zif at h; split at h <;> first | omega | cases h
theorem Zz9 (h : Zif xs lo hi = some ys) : hi ≤ (xs.length : Int) := by unfold Zif at h; split at h <;> first | omega | cases h
theorem Z52 (h : Zif xs lo hi = some ys) : (xs.drop lo.toNat).take (hi - lo).toNat = ys := by unfold Zif at h; split at h <;> first | (injection h) | cases h
theorem Z2a (h : Zif xs lo hi = some ys) : ys.length = (hi - lo).toNat := by
 have h1 := Z0b h; have h2 := Z0a h; have h3 := Zz9 h
 rw [← Z52 h, List.length_take, List.length_drop]; omega
theorem Zy5 {b : Nat} (h : Zeq b xs ys = some zs) : zs = xs ++ ys := by unfold Zeq at h; split at h <;> first | (injection h with h; exact h.symm) | cases h
theorem Z3x {b : Nat} (h : Zeq b xs ys = some zs) : (xs.length + ys.length) * b ≤ 140737488355328 := by unfold Zeq at h; split at h <;> first | omega | cases h
theorem Z3y {b : Nat} (h : Zeq b xs ys = some zs) : xs.length + ys.length ≤ 140737488355328 := by unfold Zeq at h; split at h <;> first | omega | cases h
theorem Z8n {b : Nat} (h : Zgl b i x = some ys) : ys = List.replicate i.toNat x := by unfold Zgl at h; split at h <;> first | (injection h with h; exact h.symm) | cases h
theorem Yaq {b : Nat} (h : Zgl b i x = some ys) : 0 ≤ i ∧ (b : Int) * i ≤ 140737488355328 ∧ i ≤ 140737488355328 := by unfold Zgl at h; split at h <;> first | assumption | cases h
theorem Z78 (ht : T t = some ti) (hf : ∀ x, (f x).length = ti.size) (h0s : 0 < ti.size) (hx : Y5 xs i = some x) : Zim T t (fl f xs) (i.toNat * ti.size) = if ti.k.isAgg then some (.agg (f x)) else (f x)[0]? := by
 unfold Zim
 simp only [ht]
 have h0 := Zd9 hx
 have h1 := Zqc hx
 split
 ·rename_i ha
  rw [if_pos ?_, Ybj hf h1]
  rw [K2 hf, ← Nat.succ_mul]
  exact Nat.mul_le_mul_right _ h0
 have := Ybj hf h1
 rw [← this, List.getElem?_take, if_pos h0s, List.getElem?_drop, Nat.add_zero]
theorem Zjo (hf : ∀ x, (f x).length = ti.size) (hx : i.toNat < xs.length) : Un (fl f xs) (f x) (i.toNat * ti.size) = some (fl f (Qy xs i x)) := by
 unfold Un Qy
 rw [hf x, if_pos ?_, Ybz hf hx]
 rw [K2 hf, ← Nat.succ_mul]
 exact Nat.mul_le_mul_right _ hx
end
end Go.Proofs.Ytpfbdlcnfekdkaa
