/- Part H4 of the ghost memory: lemmas and contracts used by the proofs of this seat's laws; each theorem bears its own conditions. -/
import Derived.Test.YtmpkfolcikhofaaH3
import Derived.WalkKit
import Derived.WalkSpells
import Derived.WalkLawsBesides
import Derived.Lib.Hide
import Derived.BigQuiet
import Derived.StillTailTactics
import Derived.Deep.RegionHeld3
import Derived.Deep.AppendLies
import Derived.Laws.CopyOwn
import Derived.Deep.DeepCutAuto
import Derived.Deep.QuietTactic
import Derived.Maps.AppendAt
import Derived.Great.BuildSlice
import Derived.Laws.StructEq
import Derived.IntWalk
import Derived.ProofKit
import Derived.OpenShut
import Derived.SizedLaws
import Derived.Deep.Slices
namespace Go.Proofs.Ytmpkfolcikhofaa
open Go.RowKit
set_option linter.unusedVariables false
set_option linter.unusedSimpArgs false
def eI (k:IntKind) (x:Int):List G:=[.val (.int k x)]
def eB (x:Bool):List G:=[.val (.bool x)]
def eS (x:ByteArray):List G:=[.val (.string x)]
def eL {α:Type} (f:α→List G) (xs:List α):List G:=[.sl xs.length (fl f xs)]
def Xc {α:Type} (xs:List α) (i:Int):Option α:=if 0≤i then xs[i.toNat]? else none
def Zbj {α:Type} (xs:List α) (i:Int) (x:α):List α:=xs.set i.toNat x
def Zbq {α:Type} (xs:List α) (lo hi:Int):Option (List α):=if 0≤lo∧lo≤hi∧hi≤xs.length then some ((xs.drop lo.toNat).take (hi - lo).toNat) else none
def Zbs {α:Type} (b:Nat) (xs ys:List α):Option (List α):=if (xs.length+ys.length) * b≤140737488355328∧xs.length+ys.length≤140737488355328 then some (xs++ys) else none
def Ziw {α:Type} (b:Nat) (n:Int) (x:α):Option (List α):=if 0≤n∧(b:Int) * n≤140737488355328∧n≤140737488355328 then some (List.replicate n.toNat x) else none
def Zk0 (c:Prop) [Decidable c]:Option Unit:=if c then some () else none
theorem Zu {α:Type} {c:Bool} {x y r:α} (hc:c=true) (h:cond c x y=r):x=r:=by subst hc;exact h
theorem Zt {α:Type} {c:Bool} {x y r:α} (hc:c=false) (h:cond c x y=r):y=r:=by subst hc;exact h
theorem Z02 {c:Prop} [Decidable c] {u:Unit} (h:Zk0 c=some u):c:=by unfold Zk0 at h;split at h <;> first | assumption | cases h
section
variable {α:Type} {xs ys zs:List α} {i lo hi:Int} {x:α} {f:α→List G} {T:Jy} {t:TypeId} {ti:TyI} {O:Objs} {n:Nat}
theorem Zyr (h:Xc xs i=some x):0≤i:=by unfold Xc at h;split at h <;> first | assumption | cases h
theorem Zlt (h:Xc xs i=some x):xs[i.toNat]? = some x:=by unfold Xc at h;split at h <;> first | assumption | cases h
theorem Zby (h:Xc xs i=some x):i.toNat < xs.length:=by
 have:=Zlt h
 rcases Nat.lt_or_ge i.toNat xs.length with h | h
 ·exact h
 rw [List.getElem?_eq_none h] at this;cases this
theorem Z2w (h:Xc xs i=some x):i < (xs.length:Int):=by have:=Zby h;have:=Zyr h;omega
theorem Zut (h:Zbq xs lo hi=some ys):0≤lo:=by unfold Zbq at h;split at h <;> first | omega | cases h
theorem Zus (h:Zbq xs lo hi=some ys):lo≤hi:=by unfold Zbq at h;split at h <;> first | omega | cases h
theorem Zur (h:Zbq xs lo hi=some ys):hi≤(xs.length:Int):=by unfold Zbq at h;split at h <;> first | omega | cases h
theorem Zzg (h:Zbq xs lo hi=some ys):(xs.drop lo.toNat).take (hi - lo).toNat=ys:=by unfold Zbq at h;split at h <;> first | (injection h) | cases h
theorem Zv4 (h:Zbq xs lo hi=some ys):ys.length=(hi - lo).toNat:=by
 have h1:=Zut h;have h2:=Zus h;have h3:=Zur h
 rw [← Zzg h,List.length_take,List.length_drop];omega
theorem Zo5 {b:Nat} (h:Zbs b xs ys=some zs):zs=xs++ys:=by unfold Zbs at h;split at h <;> first | (injection h with h;exact h.symm) | cases h
theorem Zti {b:Nat} (h:Zbs b xs ys=some zs):(xs.length+ys.length) * b≤140737488355328:=by unfold Zbs at h;split at h <;> first | omega | cases h
theorem Ztj {b:Nat} (h:Zbs b xs ys=some zs):xs.length+ys.length≤140737488355328:=by unfold Zbs at h;split at h <;> first | omega | cases h
theorem Z1d {b:Nat} (h:Ziw b i x=some ys):ys=List.replicate i.toNat x:=by unfold Ziw at h;split at h <;> first | (injection h with h;exact h.symm) | cases h
theorem Z24 {b:Nat} (h:Ziw b i x=some ys):0≤i∧(b:Int) * i≤140737488355328∧i≤140737488355328:=by unfold Ziw at h;split at h <;> first | assumption | cases h
theorem Z0z (ht:T t=some ti) (hf:∀ x,(f x).length=ti.size) (h0s:0 < ti.size) (hx:Xc xs i=some x):Zdq T t (fl f xs) (i.toNat * ti.size)=if ti.k.isAgg then some (.agg (f x)) else (f x)[0]? := by
 unfold Zdq
 simp only [ht]
 have h0:=Zby hx
 have h1:=Zlt hx
 split
 ·rename_i ha
  rw [if_pos ?_,Z3t hf h1]
  rw [Jp hf,← Nat.succ_mul]
  exact Nat.mul_le_mul_right _ h0
 have:=Z3t hf h1
 rw [← this,List.getElem?_take,if_pos h0s,List.getElem?_drop,Nat.add_zero]
theorem Zgh (hf:∀ x,(f x).length=ti.size) (hx:i.toNat < xs.length):Vt (fl f xs) (f x) (i.toNat * ti.size)=some (fl f (Zbj xs i x)):=by
 unfold Vt Zbj
 rw [hf x,if_pos ?_,Z37 hf hx]
 rw [Jp hf,← Nat.succ_mul]
 exact Nat.mul_le_mul_right _ hx
end
end Go.Proofs.Ytmpkfolcikhofaa
