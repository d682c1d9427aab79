/- Part H26 of the ghost memory: lemmas and contracts used by the proofs of this seat's laws; each theorem bears its own conditions. -/
import Derived.Test.YtmlcnhambfkjaaaGreatH25
import Derived.WalkKit
import Derived.WalkSpells
import Derived.WalkLawsBesides
import Derived.Lib.Hide
import Derived.BigQuiet
import Derived.StillTailTactics
import Derived.Deep.RegionHeld3
import Derived.Deep.AppendLies
import Derived.Laws.CopyOwn
import Derived.Deep.DeepCutAuto
import Derived.Deep.QuietTactic
import Derived.Maps.AppendAt
import Derived.Great.BuildSlice
import Derived.Laws.StructEq
import Derived.ChangeKeysEq
import Derived.IntWalk
import Derived.Lib.AppendZeros
import Derived.Lib.AppendZerosOnto
import Derived.ProofKit
import Derived.OpenShut
import Derived.SizedLaws
import Derived.Deep.Slices
namespace Go.Proofs.YtmlcnhambfkjaaaGreat
open Go.RowKit
set_option linter.unusedVariables false
set_option linter.unusedSimpArgs false
def Zot {α:Type} (xs:List α) (lo:Int) (ys:List α):List α:=xs.take lo.toNat++ys.take (xs.length - lo.toNat)++xs.drop (lo.toNat+ys.length)
theorem Zun {α:Type} (xs:List α) (lo:Int) (ys:List α):(Zot xs lo ys).length=xs.length:=by
 unfold Zot
 rw [List.length_append,List.length_append,List.length_take,List.length_take,List.length_drop]
 omega
theorem Znb {α:Type} {f:α→List G} (xs ys:List α) (lo:Int) (hf:∀ x,(f x).length=1) (h0:0≤lo) (h1:lo≤xs.length):Gg (fl f xs) (List.take (min ys.length ((xs.length:Int) - lo).toNat) (fl f ys)) (lo.toNat * 1)=some (fl f (Zot xs lo ys)):=by
 have e1:List.take (min ys.length ((xs.length:Int) - lo).toNat) (fl f ys)=fl f (ys.take (xs.length - lo.toNat)):=by
  have:=Zs5 (f:=f) (k:=1) hf (min ys.length ((xs.length:Int) - lo).toNat) ys
  rw [Nat.mul_one] at this
  rw [this]
  congr 1
  rw [show ((xs.length:Int) - lo).toNat=xs.length - lo.toNat by omega,Nat.min_comm,← List.take_take,List.take_of_length_le (Nat.le_refl ys.length)]
 have l1:=Jt (f:=f) (k:=1) hf
 rw [e1]
 unfold Gg
 have hl:(fl f (ys.take (xs.length - lo.toNat))).length=min (xs.length - lo.toNat) ys.length:=by rw [l1,List.length_take,Nat.mul_one]
 rw [if_pos (by rw [hl,l1,Nat.mul_one,Nat.mul_one];omega),Zs5 (f:=f) hf]
 congr 1
 unfold Zot
 rw [Zik,Zik,hl]
 congr 1
 rw [show lo.toNat * 1+min (xs.length - lo.toNat) ys.length=(lo.toNat+min (xs.length - lo.toNat) ys.length) * 1 by omega,Zp3 (f:=f) hf]
 congr 1
 by_cases q:ys.length≤xs.length - lo.toNat
 ·rw [Nat.min_eq_right q]
 rw [Nat.min_eq_left (by omega),List.drop_eq_nil_of_le (by omega),List.drop_eq_nil_of_le (by omega)]
theorem Znc {T:Vu} {t e:TypeId} {ie:TyI} {j len:Nat} {a:Int} (ht:Yd T t=some (.slice e)) (he:T e=some ie) (h:0 < len∧0≤a∧a≤(len:Int)) :
  Zhp T t (.row j len) (some (.i64,a)) none none=some (True,.rl j len (a.toNat * ie.size) ((len:Int) - a).toNat):=by
 unfold Zhp
 simp only [ht,he]
 rw [if_neg (by simp)]
 have e1:(0 < len∧0≤bLo (some (.i64,a))∧bLo (some (.i64,a))≤bHi none len∧bHi none len≤(len:Int))=True:=by
  simp only [bLo,bHi,eq_iff_iff,iff_true]
  exact ⟨h.1,h.2.1,h.2.2,Int.le_refl _⟩
 rw [e1]
 rfl
end Go.Proofs.YtmlcnhambfkjaaaGreat
