/- Part H17 of the ghost memory: lemmas and contracts used by the proofs of this seat's laws; each theorem bears its own conditions. -/
import Derived.Test.YtnapihlnlajlpaaH16
import Derived.WalkKit
import Derived.WalkSpells
import Derived.WalkLawsBesides
import Derived.Lib.Hide
import Derived.BigQuiet
import Derived.StillTailTactics
import Derived.Deep.RegionHeld3
import Derived.Deep.AppendLies
import Derived.Laws.CopyOwn
import Derived.Deep.DeepCutAuto
import Derived.Deep.QuietTactic
import Derived.Maps.AppendAt
import Derived.Great.BuildSlice
import Derived.Laws.StructEq
import Derived.ChangeKeysEq
import Derived.IntWalk
import Derived.Lib.AppendZeros
import Derived.Lib.AppendZerosOnto
import Derived.ProofKit
import Derived.OpenShut
import Derived.SizedLaws
import Derived.Deep.Slices
namespace Go.Proofs.Ytnapihlnlajlpaa
open Go.RowKit
set_option linter.unusedVariables false
set_option linter.unusedSimpArgs false
section
variable {α:Type} {xs:List α} {i:Int} {f:α→List G} {T:K2} {t:TypeId} {ti:TyI} {x:α} {sz off:Nat}
theorem Z51 (hf:∀ x,(f x).length=sz) (hx:Y2 xs i=some x):(fl f xs).drop (i.toNat * sz)=f x++fl f (xs.drop (i.toNat+1)):=by
 have h1:=Zv7 hx
 have hi:=Zad hx
 have:xs[i.toNat]=x:=by rw [List.getElem?_eq_getElem hi] at h1;injection h1
 rw [Zod hf,List.drop_eq_getElem_cons hi,Zac,this]
theorem Za2 (ht:T t=some ti) (hf:∀ x,(f x).length=sz) (ho:off+ti.size≤sz) (h0:0 < ti.size) (hx:Y2 xs i=some x):Zki T t (fl f xs) (i.toNat * sz+off)=if ti.k.isAgg then some (.agg (((f x).drop off).take ti.size)) else (f x)[off]? := by
 unfold Zki
 simp only [ht]
 have hi:=Zad hx
 have hd:=Z51 hf hx
 split
 ·rw [if_pos ?_,← List.drop_drop,hd,List.drop_append_of_le_length (by rw [hf x];omega),List.take_append_of_le_length (by rw [List.length_drop,hf x];omega)]
  rw [K9 hf]
  have:(i.toNat+1) * sz≤xs.length * sz:=Nat.mul_le_mul_right _ hi
  rw [Nat.succ_mul] at this
  omega
 rw [← List.getElem?_drop,hd,List.getElem?_append_left (by rw [hf x];omega)]
end
end Go.Proofs.Ytnapihlnlajlpaa
