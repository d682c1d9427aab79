/- Part H4 of the ghost memory: lemmas and contracts used by the proofs of this seat's laws; each theorem bears its own conditions. -/
import Derived.Test.YtmlhokaflhlhbaaH3
import Derived.WalkKit
import Derived.WalkSpells
import Derived.WalkLawsBesides
import Derived.Lib.Hide
import Derived.BigQuiet
import Derived.StillTailTactics
import Derived.Deep.RegionHeld3
import Derived.Deep.AppendLies
import Derived.Laws.CopyOwn
import Derived.Deep.DeepCutAuto
import Derived.Deep.QuietTactic
import Derived.Maps.AppendAt
import Derived.Great.BuildSlice
import Derived.Laws.StructEq
import Derived.IntWalk
import Derived.ProofKit
import Derived.OpenShut
import Derived.SizedLaws
import Derived.Deep.Slices
namespace Go.Proofs.Ytmlhokaflhlhbaa
open Go.RowKit
set_option linter.unusedVariables false
set_option linter.unusedSimpArgs false
def eI (k : IntKind) (x : Int) : List G := [.val (.int k x)]
def eB (x : Bool) : List G := [.val (.bool x)]
def eS (x : ByteArray) : List G := [.val (.string x)]
def eL {α : Type} (f : α → List G) (xs : List α) : List G := [.sl xs.length (fl f xs)]
def Q8 {α : Type} (xs : List α) (i : Int) : Option α := if 0 ≤ i then xs[i.toNat]? else none
def Zd7 {α : Type} (xs : List α) (i : Int) (x : α) : List α := xs.set i.toNat x
def Zd8 {α : Type} (xs : List α) (lo hi : Int) : Option (List α) := if 0 ≤ lo ∧ lo ≤ hi ∧ hi ≤ xs.length then some ((xs.drop lo.toNat).take (hi - lo).toNat) else none
def Zh3 {α : Type} (b : Nat) (xs ys : List α) : Option (List α) := if (xs.length + ys.length) * b ≤ 140737488355328 ∧ xs.length + ys.length ≤ 140737488355328 then some (xs ++ ys) else none
def Zdr {α : Type} (b : Nat) (n : Int) (x : α) : Option (List α) := if 0 ≤ n ∧ (b : Int) * n ≤ 140737488355328 ∧ n ≤ 140737488355328 then some (List.replicate n.toNat x) else none
def Yn (c : Prop) [Decidable c] : Option Unit := if c then some () else none
theorem Zu {α : Type} {c : Bool} {x y r : α} (hc : c = true) (h : cond c x y = r) : x = r := by subst hc; exact h
theorem Zt {α : Type} {c : Bool} {x y r : α} (hc : c = false) (h : cond c x y = r) : y = r := by subst hc; exact h
theorem Zqf {c : Prop} [Decidable c] {u : Unit} (h : Yn c = some u) : c := by unfold Yn at h; split at h <;> first | assumption | cases h
section
variable {α : Type} {xs ys zs : List α} {i lo hi : Int} {x : α} {f : α → List G} {T : Xk} {t : TypeId} {ti : TyI} {O : Objs} {n : Nat}
theorem Zoh (h : Q8 xs i = some x) : 0 ≤ i := by unfold Q8 at h; split at h <;> first | assumption | cases h
theorem Zl1 (h : Q8 xs i = some x) : xs[i.toNat]? = some x := by unfold Q8 at h; split at h <;> first | assumption | cases h
theorem Zeu (h : Q8 xs i = some x) : i.toNat < xs.length := by
 have := Zl1 h
 rcases Nat.lt_or_ge i.toNat xs.length with h | h
 ·exact h
 rw [List.getElem?_eq_none h] at this; cases this
theorem Zre (h : Q8 xs i = some x) : i < (xs.length : Int) := by have := Zeu h; have := Zoh h; omega
theorem Zot (h : Zd8 xs lo hi = some ys) : 0 ≤ lo := by unfold Zd8 at h; split at h <;> first | omega | cases h
theorem Zos (h : Zd8 xs lo hi = some ys) : lo ≤ hi := by unfold Zd8 at h; split at h <;> first | omega | cases h
theorem Zor (h : Zd8 xs lo hi = some ys) : hi ≤ (xs.length : Int) := by unfold Zd8 at h; split at h <;> first | omega | cases h
theorem Zoq (h : Zd8 xs lo hi = some ys) : (xs.drop lo.toNat).take (hi - lo).toNat = ys := by unfold Zd8 at h; split at h <;> first | (injection h) | cases h
theorem Zqr (h : Zd8 xs lo hi = some ys) : ys.length = (hi - lo).toNat := by
 have h1 := Zot h; have h2 := Zos h; have h3 := Zor h
 rw [← Zoq h, List.length_take, List.length_drop]; omega
theorem Zof {b : Nat} (h : Zh3 b xs ys = some zs) : zs = xs ++ ys := by unfold Zh3 at h; split at h <;> first | (injection h with h; exact h.symm) | cases h
theorem Zpw {b : Nat} (h : Zh3 b xs ys = some zs) : (xs.length + ys.length) * b ≤ 140737488355328 := by unfold Zh3 at h; split at h <;> first | omega | cases h
theorem Zpx {b : Nat} (h : Zh3 b xs ys = some zs) : xs.length + ys.length ≤ 140737488355328 := by unfold Zh3 at h; split at h <;> first | omega | cases h
theorem Zqi {b : Nat} (h : Zdr b i x = some ys) : ys = List.replicate i.toNat x := by unfold Zdr at h; split at h <;> first | (injection h with h; exact h.symm) | cases h
theorem Zrh {b : Nat} (h : Zdr b i x = some ys) : 0 ≤ i ∧ (b : Int) * i ≤ 140737488355328 ∧ i ≤ 140737488355328 := by unfold Zdr at h; split at h <;> first | assumption | cases h
theorem Zqe (ht : T t = some ti) (hf : ∀ x, (f x).length = ti.size) (h0s : 0 < ti.size) (hx : Q8 xs i = some x) : Zb0 T t (fl f xs) (i.toNat * ti.size) = if ti.k.isAgg then some (.agg (f x)) else (f x)[0]? := by
 unfold Zb0
 simp only [ht]
 have h0 := Zeu hx
 have h1 := Zl1 hx
 split
 ·rename_i ha
  rw [if_pos ?_, Zrv hf h1]
  rw [X4 hf, ← Nat.succ_mul]
  exact Nat.mul_le_mul_right _ h0
 have := Zrv hf h1
 rw [← this, List.getElem?_take, if_pos h0s, List.getElem?_drop, Nat.add_zero]
theorem Zki (hf : ∀ x, (f x).length = ti.size) (hx : i.toNat < xs.length) : Km (fl f xs) (f x) (i.toNat * ti.size) = some (fl f (Zd7 xs i x)) := by
 unfold Km Zd7
 rw [hf x, if_pos ?_, Zr5 hf hx]
 rw [X4 hf, ← Nat.succ_mul]
 exact Nat.mul_le_mul_right _ hx
end
end Go.Proofs.Ytmlhokaflhlhbaa
