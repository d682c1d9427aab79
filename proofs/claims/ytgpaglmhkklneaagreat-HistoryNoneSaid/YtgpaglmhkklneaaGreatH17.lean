/- Part H17 of the ghost memory: lemmas and contracts used by the proofs of this seat's laws; each theorem bears its own conditions. -/
import Derived.Test.YtgpaglmhkklneaaGreatH16
import Derived.WalkKit
import Derived.WalkSpells
import Derived.WalkLawsBesides
import Derived.Lib.Hide
import Derived.BigQuiet
import Derived.StillTailTactics
import Derived.Deep.RegionHeld3
import Derived.Deep.AppendLies
import Derived.Laws.CopyOwn
import Derived.Deep.DeepCutAuto
import Derived.Deep.QuietTactic
import Derived.Maps.AppendAt
import Derived.Great.BuildSlice
import Derived.Laws.StructEq
import Derived.ChangeKeysEq
import Derived.IntWalk
import Derived.Lib.AppendZeros
import Derived.Lib.AppendZerosOnto
import Derived.ProofKit
import Derived.OpenShut
import Derived.SizedLaws
import Derived.Deep.Slices
namespace Go.Proofs.YtgpaglmhkklneaaGreat
open Go.RowKit
set_option linter.unusedVariables false
set_option linter.unusedSimpArgs false
section
variable {α : Type} {xs : List α} {i : Int} {f : α → List G} {T : K3} {t : TypeId} {ti : TyI} {x : α} {sz off : Nat}
theorem Z4j (hf : ∀ x, (f x).length = sz) (hx : Qm xs i = some x) : (fl f xs).drop (i.toNat * sz) = f x ++ fl f (xs.drop (i.toNat + 1)) := by
 have h1 := Zoc hx
 have hi := Zhx hx
 have : xs[i.toNat] = x := by rw [List.getElem?_eq_getElem hi] at h1; injection h1
 rw [Zn7 hf, List.drop_eq_getElem_cons hi, U8, this]
theorem Zjp (ht : T t = some ti) (hf : ∀ x, (f x).length = sz) (ho : off + ti.size ≤ sz) (h0 : 0 < ti.size) (hx : Qm xs i = some x) : Ziv T t (fl f xs) (i.toNat * sz + off) = if ti.k.isAgg then some (.agg (((f x).drop off).take ti.size)) else (f x)[off]? := by
 unfold Ziv
 simp only [ht]
 have hi := Zhx hx
 have hd := Z4j hf hx
 split
 ·rw [if_pos ?_, ← List.drop_drop, hd, List.drop_append_of_le_length (by rw [hf x]; omega), List.take_append_of_le_length (by rw [List.length_drop, hf x]; omega)]
  rw [Qr hf]
  have : (i.toNat + 1) * sz ≤ xs.length * sz := Nat.mul_le_mul_right _ hi
  rw [Nat.succ_mul] at this
  omega
 rw [← List.getElem?_drop, hd, List.getElem?_append_left (by rw [hf x]; omega)]
theorem Z1g (ht : T t = some ti) (hf : ∀ x, (f x).length = sz) (ho : ti.size ≤ sz) (h0 : 0 < ti.size) (hx : Qm xs i = some x) : Ziv T t (fl f xs) (i.toNat * sz) = if ti.k.isAgg then some (.agg ((f x).take ti.size)) else (f x)[0]? := by
 have := Zjp (off := 0) ht hf (by omega) h0 hx
 rw [Nat.add_zero, List.drop_zero] at this
 exact this
theorem Z0z {O O' : Objs} {n' : Nat} {zs : List G} {z : α} (h : Uz O O' n' zs (f z)) : ∀ k : Nat, Uz O O' n' (List.replicate k zs).flatten (fl f (List.replicate k z))
 | 0 => by simp [Uz, fl]
 | k + 1 => by
  rw [List.replicate_succ, List.replicate_succ, List.flatten_cons, U8]
  exact Z38 _ _ _ _ h (Z0z h k)
end
theorem Zje {P : Program} {t e : TypeId} {α : Type} {f : α → List G} {wf : α → Prop} {sz : Nat} (n : Nat) (ht : P.underlying t = some (.slice e)) (hc : P.cellsOf e = sz) (hs : 0 < sz) (hf : ∀ x, (f x).length = sz) (he : ∀ m, m < n → Ve P e f wf m) :
  Ve P t (eL f) (fun xs => xs.length * P.bytesOf e ≤ reachBytes ∧ ∀ x ∈ xs, wf x) n := by
 cases n with
 | zero => exact Zcv
 | succ n => exact Zor ht hc hs hf (he n (Nat.lt_succ_self n))
end Go.Proofs.YtgpaglmhkklneaaGreat
