/- Part H17 of the ghost memory: lemmas and contracts used by the proofs of this seat's laws; each theorem bears its own conditions. -/
import Derived.Test.YtpggbianhdebmaaH16
import Derived.WalkKit
import Derived.WalkSpells
import Derived.WalkLawsBesides
import Derived.Lib.Hide
import Derived.BigQuiet
import Derived.StillTailTactics
import Derived.Deep.RegionHeld3
import Derived.Deep.AppendLies
import Derived.Laws.CopyOwn
import Derived.Deep.DeepCutAuto
import Derived.Deep.QuietTactic
import Derived.Maps.AppendAt
import Derived.Great.BuildSlice
import Derived.Laws.StructEq
import Derived.ChangeKeysEq
import Derived.IntWalk
import Derived.Lib.AppendZeros
import Derived.Lib.AppendZerosOnto
import Derived.ProofKit
import Derived.OpenShut
import Derived.SizedLaws
import Derived.Deep.Slices
namespace Go.Proofs.Ytpggbianhdebmaa
open Go.RowKit
set_option linter.unusedVariables false
set_option linter.unusedSimpArgs false
section
variable {α : Type} {xs : List α} {i : Int} {f : α → List G} {T : Tab} {t : TypeId} {ti : TyI} {x : α} {sz off : Nat}
theorem fl_dropAt (hf : ∀ x, (f x).length = sz) (hx : getI xs i = some x) : (fl f xs).drop (i.toNat * sz) = f x ++ fl f (xs.drop (i.toNat + 1)) := by
  have h1 := getI_get hx
  have hi := getI_nat hx
  have : xs[i.toNat] = x := by rw [List.getElem?_eq_getElem hi] at h1; injection h1
  rw [fl_drop hf, List.drop_eq_getElem_cons hi, fl_cons, this]
/-- a field of a kid, as it is loaded -/
theorem gpart_fld (ht : T t = some ti) (hf : ∀ x, (f x).length = sz) (ho : off + ti.size ≤ sz) (h0 : 0 < ti.size) (hx : getI xs i = some x) : gpart T t (fl f xs) (i.toNat * sz + off) = if ti.k.isAgg then some (.agg (((f x).drop off).take ti.size)) else (f x)[off]? := by
  unfold gpart
  simp only [ht]
  have hi := getI_nat hx
  have hd := fl_dropAt hf hx
  split
  · rw [if_pos ?_, ← List.drop_drop, hd, List.drop_append_of_le_length (by rw [hf x]; omega), List.take_append_of_le_length (by rw [List.length_drop, hf x]; omega)]
    rw [fl_length hf]
    have : (i.toNat + 1) * sz ≤ xs.length * sz := Nat.mul_le_mul_right _ hi
    rw [Nat.succ_mul] at this
    omega
  · rw [← List.getElem?_drop, hd, List.getElem?_append_left (by rw [hf x]; omega)]
theorem gpart_fld0 (ht : T t = some ti) (hf : ∀ x, (f x).length = sz) (ho : ti.size ≤ sz) (h0 : 0 < ti.size) (hx : getI xs i = some x) : gpart T t (fl f xs) (i.toNat * sz) = if ti.k.isAgg then some (.agg ((f x).take ti.size)) else (f x)[0]? := by
  have := gpart_fld (off := 0) ht hf (by omega) h0 hx
  rw [Nat.add_zero, List.drop_zero] at this
  exact this
/-- a field of a kid, as it is stored -/
theorem gplace_fld {y : α} {cs : List G} (hf : ∀ x, (f x).length = sz) (ho : off + cs.length ≤ sz) (hx : getI xs i = some x) (hy : f y = (f x).take off ++ cs ++ (f x).drop (off + cs.length)) : gplace (fl f xs) cs (i.toNat * sz + off) = some (fl f (setI xs i y)) := by
  have hi := getI_nat hx
  have h1 := getI_get hx
  have hxe : xs[i.toNat] = x := by rw [List.getElem?_eq_getElem hi] at h1; injection h1
  have hl : (i.toNat + 1) * sz ≤ xs.length * sz := Nat.mul_le_mul_right _ hi
  rw [Nat.succ_mul] at hl
  have hd := fl_dropAt hf hx
  have e := fl_set (x := y) hf hi
  unfold gplace setI
  rw [if_pos (by rw [fl_length hf]; omega), ← e, hy]
  congr 1
  have e1 : (fl f xs).take (i.toNat * sz + off) = (fl f xs).take (i.toNat * sz) ++ (f x).take off := by
    rw [List.take_add, hd, List.take_append_of_le_length (by rw [hf x]; omega)]
  have e2 : (fl f xs).drop (i.toNat * sz + off + cs.length) = (f x).drop (off + cs.length) ++ (fl f xs).drop (i.toNat * sz + sz) := by
    rw [Nat.add_assoc, ← List.drop_drop, hd, List.drop_append_of_le_length (by rw [hf x]; omega)]
    congr 1
    have e3 : i.toNat * sz + sz = (i.toNat + 1) * sz := by rw [Nat.succ_mul]
    rw [e3, fl_drop hf]
  rw [e1, e2]
  simp only [List.append_assoc]
theorem gplace_fld0 {y : α} {cs : List G} (hf : ∀ x, (f x).length = sz) (ho : cs.length ≤ sz) (hx : getI xs i = some x) (hy : f y = cs ++ (f x).drop cs.length) : gplace (fl f xs) cs (i.toNat * sz) = some (fl f (setI xs i y)) := by
  have := gplace_fld (off := 0) (cs := cs) hf (by omega) hx (by rw [List.take_zero, List.nil_append, Nat.zero_add]; exact hy)
  rw [Nat.add_zero] at this
  exact this
theorem wkl_repl {O O' : Objs} {n' : Nat} {zs : List G} {z : α} (h : wkl O O' n' zs (f z)) : ∀ k : Nat, wkl O O' n' (List.replicate k zs).flatten (fl f (List.replicate k z))
  | 0 => by simp [wkl, fl]
  | k + 1 => by
    rw [List.replicate_succ, List.replicate_succ, List.flatten_cons, fl_cons]
    exact wkl_app _ _ _ _ h (wkl_repl h k)
end
theorem opensF_sliceG {P : Program} {t e : TypeId} {α : Type} {f : α → List G} {wf : α → Prop} {sz : Nat} (n : Nat) (ht : P.underlying t = some (.slice e)) (hc : P.cellsOf e = sz) (hs : 0 < sz) (hf : ∀ x, (f x).length = sz) (he : ∀ m, m < n → OpensF P e f wf m) :
    OpensF P t (eL f) (fun xs => xs.length * P.bytesOf e ≤ reachBytes ∧ ∀ x ∈ xs, wf x) n := by
  cases n with
  | zero => exact opensF_zero
  | succ n => exact opensF_slice ht hc hs hf (he n (Nat.lt_succ_self n))

end Go.Proofs.Ytpggbianhdebmaa
