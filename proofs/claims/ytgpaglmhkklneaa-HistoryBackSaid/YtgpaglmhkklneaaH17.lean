/- Part H17 of the ghost memory: lemmas and contracts used by the proofs of this seat's laws; each theorem bears its own conditions. -/
import Derived.Test.YtgpaglmhkklneaaH16
import Derived.WalkKit
import Derived.WalkSpells
import Derived.WalkLawsBesides
import Derived.Lib.Hide
import Derived.BigQuiet
import Derived.StillTailTactics
import Derived.Deep.RegionHeld3
import Derived.Deep.AppendLies
import Derived.Laws.CopyOwn
import Derived.Deep.DeepCutAuto
import Derived.Deep.QuietTactic
import Derived.Maps.AppendAt
import Derived.Great.BuildSlice
import Derived.Laws.StructEq
import Derived.ChangeKeysEq
import Derived.IntWalk
import Derived.Lib.AppendZeros
import Derived.Lib.AppendZerosOnto
import Derived.ProofKit
import Derived.OpenShut
import Derived.SizedLaws
import Derived.Deep.Slices
namespace Go.Proofs.Ytgpaglmhkklneaa
open Go.RowKit
set_option linter.unusedVariables false
set_option linter.unusedSimpArgs false
section
variable {α : Type} {xs : List α} {i : Int} {f : α → List G} {T : Vt} {t : TypeId} {ti : TyI} {x : α} {sz off : Nat}
theorem Z82 (hf : ∀ x, (f x).length = sz) (hx : Xp xs i = some x) : (fl f xs).drop (i.toNat * sz) = f x ++ fl f (xs.drop (i.toNat + 1)) := by
 have h1 := Zrv hx
 have hi := Zgz hx
 have : xs[i.toNat] = x := by rw [List.getElem?_eq_getElem hi] at h1; injection h1
 rw [Zrq hf, List.drop_eq_getElem_cons hi, Zar, this]
theorem Zhv (ht : T t = some ti) (hf : ∀ x, (f x).length = sz) (ho : off + ti.size ≤ sz) (h0 : 0 < ti.size) (hx : Xp xs i = some x) : Ziq T t (fl f xs) (i.toNat * sz + off) = if ti.k.isAgg then some (.agg (((f x).drop off).take ti.size)) else (f x)[off]? := by
 unfold Ziq
 simp only [ht]
 have hi := Zgz hx
 have hd := Z82 hf hx
 split
 ·rw [if_pos ?_, ← List.drop_drop, hd, List.drop_append_of_le_length (by rw [hf x]; omega), List.take_append_of_le_length (by rw [List.length_drop, hf x]; omega)]
  rw [Jm hf]
  have : (i.toNat + 1) * sz ≤ xs.length * sz := Nat.mul_le_mul_right _ hi
  rw [Nat.succ_mul] at this
  omega
 rw [← List.getElem?_drop, hd, List.getElem?_append_left (by rw [hf x]; omega)]
theorem Z5x (ht : T t = some ti) (hf : ∀ x, (f x).length = sz) (ho : ti.size ≤ sz) (h0 : 0 < ti.size) (hx : Xp xs i = some x) : Ziq T t (fl f xs) (i.toNat * sz) = if ti.k.isAgg then some (.agg ((f x).take ti.size)) else (f x)[0]? := by
 have := Zhv (off := 0) ht hf (by omega) h0 hx
 rw [Nat.add_zero, List.drop_zero] at this
 exact this
theorem Z5h {O O' : Objs} {n' : Nat} {zs : List G} {z : α} (h : wkl O O' n' zs (f z)) : ∀ k : Nat, wkl O O' n' (List.replicate k zs).flatten (fl f (List.replicate k z))
 | 0 => by simp [wkl, fl]
 | k + 1 => by
  rw [List.replicate_succ, List.replicate_succ, List.flatten_cons, Zar]
  exact Z8t _ _ _ _ h (Z5h h k)
end
theorem Zk2 {P : Program} {t e : TypeId} {α : Type} {f : α → List G} {wf : α → Prop} {sz : Nat} (n : Nat) (ht : P.underlying t = some (.slice e)) (hc : P.cellsOf e = sz) (hs : 0 < sz) (hf : ∀ x, (f x).length = sz) (he : ∀ m, m < n → Ue P e f wf m) :
  Ue P t (eL f) (fun xs => xs.length * P.bytesOf e ≤ reachBytes ∧ ∀ x ∈ xs, wf x) n := by
 cases n with
 | zero => exact Zes
 | succ n => exact Zsk ht hc hs hf (he n (Nat.lt_succ_self n))
end Go.Proofs.Ytgpaglmhkklneaa
