/- Part H26 of the ghost memory: lemmas and contracts used by the proofs of this seat's laws; each theorem bears its own conditions. -/
import Derived.Test.YtgpaglmhkklneaaH25
import Derived.WalkKit
import Derived.WalkSpells
import Derived.WalkLawsBesides
import Derived.Lib.Hide
import Derived.BigQuiet
import Derived.StillTailTactics
import Derived.Deep.RegionHeld3
import Derived.Deep.AppendLies
import Derived.Laws.CopyOwn
import Derived.Deep.DeepCutAuto
import Derived.Deep.QuietTactic
import Derived.Maps.AppendAt
import Derived.Great.BuildSlice
import Derived.Laws.StructEq
import Derived.ChangeKeysEq
import Derived.IntWalk
import Derived.Lib.AppendZeros
import Derived.Lib.AppendZerosOnto
import Derived.ProofKit
import Derived.OpenShut
import Derived.SizedLaws
import Derived.Deep.Slices
namespace Go.Proofs.Ytgpaglmhkklneaa
open Go.RowKit
set_option linter.unusedVariables false
set_option linter.unusedSimpArgs false
def Yeb {α : Type} (xs : List α) (lo : Int) (ys : List α) : List α := xs.take lo.toNat ++ ys.take (xs.length - lo.toNat) ++ xs.drop (lo.toNat + ys.length)
theorem Zo9 {α : Type} (xs : List α) (lo : Int) (ys : List α) : (Yeb xs lo ys).length = xs.length := by
 unfold Yeb
 rw [List.length_append, List.length_append, List.length_take, List.length_take, List.length_drop]
 omega
theorem Zrx {T : Vt} {t e : TypeId} {ie : TyI} {j len : Nat} {a : Int} (ht : Y1 T t = some (.slice e)) (he : T e = some ie) (h : 0 < len ∧ 0 ≤ a ∧ a ≤ (len : Int)) (hs : 0 < ie.size := by decide) :
  Zg1 T t (.row j len) none (some (.i64, a)) none = some (True, .rl j len 0 a.toNat) := by
 unfold Zg1
 simp only [ht, he]
 rw [if_neg (by simp)]
 have e1 : (0 < ie.size ∧ 0 < len ∧ 0 ≤ bLo none ∧ bLo none ≤ bHi (some (.i64, a)) len ∧ bHi (some (.i64, a)) len ≤ (len : Int)) = True := by
  simp only [bLo, bHi, eq_iff_iff, iff_true]
  exact ⟨hs, h.1, Int.le_refl _, h.2.1, h.2.2⟩
 rw [e1]
 simp only [bLo, bHi, Int.toNat_zero, Nat.zero_mul, Int.sub_zero]
theorem Z9t {α : Type} {f : α → List G} {P : Program} {ba : Nat} {c : Code} {Q : GQ} {E : Env} {O : Objs} {n p j k t sz : Nat} {xs : List α} {a : Int} {q : GObj} (hf : ∀ x, (f x).length = sz) (hp : O p = some q)
  (hk : q.cells[k]? = some (.rl j xs.length 0 a.toNat)) (hj : O j = some ⟨true, t, sz, xs.length, fl f xs⟩) (ha : 0 ≤ a ∧ a ≤ (xs.length : Int)) (hij : 0 = 0 → p ≠ j)
  (h : W P ba c Q E (((O.upd j none).upd n (some ⟨true, t, sz, (xs.take a.toNat).length, fl f (xs.take a.toNat)⟩)).upd p (some ⟨q.row, q.ty, q.sz, q.n, q.cells.set k (.row n (xs.take a.toNat).length)⟩)) (n + 1)) : W P ba c Q E O n := fun hb => by
 have hl : (xs.take a.toNat).length = a.toNat := by rw [List.length_take]; omega
 have := Yaa (E := E) (qj := ⟨true, t, sz, xs.length, fl f xs⟩) (len := a.toNat) hp hk hj rfl (show a.toNat ≤ xs.length by omega) (hij rfl) hb
 rw [hl, ← Zvi hf] at h
 exact Qc this h hb
end Go.Proofs.Ytgpaglmhkklneaa
