/- Part H4 of the ghost memory: lemmas and contracts used by the proofs of this seat's laws; each theorem bears its own conditions. -/
import Derived.Test.YtbcgiaijjaocdaaH3
import Derived.WalkKit
import Derived.WalkSpells
import Derived.WalkLawsBesides
import Derived.Lib.Hide
import Derived.BigQuiet
import Derived.StillTailTactics
import Derived.Deep.RegionHeld3
import Derived.Deep.AppendLies
import Derived.Laws.CopyOwn
import Derived.Deep.DeepCutAuto
import Derived.Deep.QuietTactic
import Derived.Maps.AppendAt
import Derived.Great.BuildSlice
import Derived.Laws.StructEq
import Derived.IntWalk
import Derived.ProofKit
import Derived.OpenShut
import Derived.SizedLaws
import Derived.Deep.Slices
namespace Go.Proofs.Ytbcgiaijjaocdaa
open Go.RowKit
set_option linter.unusedVariables false
set_option linter.unusedSimpArgs false
def eI (k:IntKind) (x:Int):List G:=[.val (.int k x)]
def eB (x:Bool):List G:=[.val (.bool x)]
def eS (x:ByteArray):List G:=[.val (.string x)]
def eL {α:Type} (f:α→List G) (xs:List α):List G:=[.sl xs.length (fl f xs)]
def Yy {α:Type} (xs:List α) (i:Int):Option α:=if 0≤i then xs[i.toNat]? else none
def Zg9 {α:Type} (xs:List α) (i:Int) (x:α):List α:=xs.set i.toNat x
def Ze7 {α:Type} (xs:List α) (lo hi:Int):Option (List α):=if 0≤lo∧lo≤hi∧hi≤xs.length then some ((xs.drop lo.toNat).take (hi - lo).toNat) else none
def Uw {α:Type} (b:Nat) (xs ys:List α):Option (List α):=if (xs.length+ys.length) * b≤140737488355328∧xs.length+ys.length≤140737488355328 then some (xs++ys) else none
def Zip {α:Type} (b:Nat) (n:Int) (x:α):Option (List α):=if 0≤n∧(b:Int) * n≤140737488355328∧n≤140737488355328 then some (List.replicate n.toNat x) else none
def Zhg (c:Prop) [Decidable c]:Option Unit:=if c then some () else none
theorem Zs {α:Type} {c:Bool} {x y r:α} (hc:c=true) (h:cond c x y=r):x=r:=by subst hc;exact h
theorem Zr {α:Type} {c:Bool} {x y r:α} (hc:c=false) (h:cond c x y=r):y=r:=by subst hc;exact h
theorem Z1h {c:Prop} [Decidable c] {u:Unit} (h:Zhg c=some u):c:=by unfold Zhg at h;split at h <;> first | assumption | cases h
section
variable {α:Type} {xs ys zs:List α} {i lo hi:Int} {x:α} {f:α→List G} {T:Kb} {t:TypeId} {ti:TyI} {O:Objs} {n:Nat}
theorem Zza (h:Yy xs i=some x):0≤i:=by unfold Yy at h;split at h <;> first | assumption | cases h
theorem Zij (h:Yy xs i=some x):xs[i.toNat]? = some x:=by unfold Yy at h;split at h <;> first | assumption | cases h
theorem Zeh (h:Yy xs i=some x):i.toNat < xs.length:=by
 have:=Zij h
 rcases Nat.lt_or_ge i.toNat xs.length with h | h
 ·exact h
 rw [List.getElem?_eq_none h] at this;cases this
theorem Z4j (h:Yy xs i=some x):i < (xs.length:Int):=by have:=Zeh h;have:=Zza h;omega
theorem Zua (h:Ze7 xs lo hi=some ys):0≤lo:=by unfold Ze7 at h;split at h <;> first | omega | cases h
theorem Zt9 (h:Ze7 xs lo hi=some ys):lo≤hi:=by unfold Ze7 at h;split at h <;> first | omega | cases h
theorem Zt8 (h:Ze7 xs lo hi=some ys):hi≤(xs.length:Int):=by unfold Ze7 at h;split at h <;> first | omega | cases h
theorem Zzw (h:Ze7 xs lo hi=some ys):(xs.drop lo.toNat).take (hi - lo).toNat=ys:=by unfold Ze7 at h;split at h <;> first | (injection h) | cases h
theorem Zwl (h:Ze7 xs lo hi=some ys):ys.length=(hi - lo).toNat:=by
 have h1:=Zua h;have h2:=Zt9 h;have h3:=Zt8 h
 rw [← Zzw h,List.length_take,List.length_drop];omega
theorem Zsp {b:Nat} (h:Uw b xs ys=some zs):zs=xs++ys:=by unfold Uw at h;split at h <;> first | (injection h with h;exact h.symm) | cases h
theorem Zw0 {b:Nat} (h:Uw b xs ys=some zs):(xs.length+ys.length) * b≤140737488355328:=by unfold Uw at h;split at h <;> first | omega | cases h
theorem Zw1 {b:Nat} (h:Uw b xs ys=some zs):xs.length+ys.length≤140737488355328:=by unfold Uw at h;split at h <;> first | omega | cases h
theorem Z1t {b:Nat} (h:Zip b i x=some ys):ys=List.replicate i.toNat x:=by unfold Zip at h;split at h <;> first | (injection h with h;exact h.symm) | cases h
theorem Z4r {b:Nat} (h:Zip b i x=some ys):0≤i∧(b:Int) * i≤140737488355328∧i≤140737488355328:=by unfold Zip at h;split at h <;> first | assumption | cases h
theorem Z1g (ht:T t=some ti) (hf:∀ x,(f x).length=ti.size) (h0s:0 < ti.size) (hx:Yy xs i=some x):Zey T t (fl f xs) (i.toNat * ti.size)=if ti.k.isAgg then some (.agg (f x)) else (f x)[0]? := by
 unfold Zey
 simp only [ht]
 have h0:=Zeh hx
 have h1:=Zij hx
 split
 ·rename_i ha
  rw [if_pos ?_,Z5e hf h1]
  rw [Q1 hf,← Nat.succ_mul]
  exact Nat.mul_le_mul_right _ h0
 have:=Z5e hf h1
 rw [← this,List.getElem?_take,if_pos h0s,List.getElem?_drop,Nat.add_zero]
theorem Zm2 (hf:∀ x,(f x).length=ti.size) (hx:i.toNat < xs.length):J4 (fl f xs) (f x) (i.toNat * ti.size)=some (fl f (Zg9 xs i x)):=by
 unfold J4 Zg9
 rw [hf x,if_pos ?_,Z1c hf hx]
 rw [Q1 hf,← Nat.succ_mul]
 exact Nat.mul_le_mul_right _ hx
end
end Go.Proofs.Ytbcgiaijjaocdaa
