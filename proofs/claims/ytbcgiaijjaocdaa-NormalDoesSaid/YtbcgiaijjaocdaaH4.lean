/- Part H4 of the ghost memory: lemmas and contracts used by the proofs of this seat's laws; each theorem bears its own conditions. -/
import Derived.Test.YtbcgiaijjaocdaaH3
import Derived.WalkKit
import Derived.WalkSpells
import Derived.WalkLawsBesides
import Derived.Lib.Hide
import Derived.BigQuiet
import Derived.StillTailTactics
import Derived.Deep.RegionHeld3
import Derived.Deep.AppendLies
import Derived.Laws.CopyOwn
import Derived.Deep.DeepCutAuto
import Derived.Deep.QuietTactic
import Derived.Maps.AppendAt
import Derived.Great.BuildSlice
import Derived.Laws.StructEq
import Derived.IntWalk
import Derived.ProofKit
import Derived.OpenShut
import Derived.SizedLaws
import Derived.Deep.Slices
namespace Go.Proofs.Ytbcgiaijjaocdaa
open Go.RowKit
set_option linter.unusedVariables false
set_option linter.unusedSimpArgs false
def eI (k:IntKind) (x:Int):List G:=[.val (.int k x)]
def eB (x:Bool):List G:=[.val (.bool x)]
def eS (x:ByteArray):List G:=[.val (.string x)]
def eL {α:Type} (f:α→List G) (xs:List α):List G:=[.sl xs.length (fl f xs)]
def Xn {α:Type} (xs:List α) (i:Int):Option α:=if 0≤i then xs[i.toNat]? else none
def Zc4 {α:Type} (xs:List α) (i:Int) (x:α):List α:=xs.set i.toNat x
def Zd5 {α:Type} (xs:List α) (lo hi:Int):Option (List α):=if 0≤lo∧lo≤hi∧hi≤xs.length then some ((xs.drop lo.toNat).take (hi - lo).toNat) else none
def Zch {α:Type} (b:Nat) (xs ys:List α):Option (List α):=if (xs.length+ys.length) * b≤140737488355328∧xs.length+ys.length≤140737488355328 then some (xs++ys) else none
def Zjc {α:Type} (b:Nat) (n:Int) (x:α):Option (List α):=if 0≤n∧(b:Int) * n≤140737488355328∧n≤140737488355328 then some (List.replicate n.toNat x) else none
def Zh3 (c:Prop) [Decidable c]:Option Unit:=if c then some () else none
theorem Zu {α:Type} {c:Bool} {x y r:α} (hc:c=true) (h:cond c x y=r):x=r:=by subst hc;exact h
theorem Zt {α:Type} {c:Bool} {x y r:α} (hc:c=false) (h:cond c x y=r):y=r:=by subst hc;exact h
theorem Z28 {c:Prop} [Decidable c] {u:Unit} (h:Zh3 c=some u):c:=by unfold Zh3 at h;split at h <;> first | assumption | cases h
section
variable {α:Type} {xs ys zs:List α} {i lo hi:Int} {x:α} {f:α→List G} {T:Kp} {t:TypeId} {ti:TyI} {O:Objs} {n:Nat}
theorem Z0s (h:Xn xs i=some x):0≤i:=by unfold Xn at h;split at h <;> first | assumption | cases h
theorem Zma (h:Xn xs i=some x):xs[i.toNat]? = some x:=by unfold Xn at h;split at h <;> first | assumption | cases h
theorem Zdo (h:Xn xs i=some x):i.toNat < xs.length:=by
 have:=Zma h
 rcases Nat.lt_or_ge i.toNat xs.length with h | h
 ·exact h
 rw [List.getElem?_eq_none h] at this;cases this
theorem Z6c (h:Xn xs i=some x):i < (xs.length:Int):=by have:=Zdo h;have:=Z0s h;omega
theorem Zvg (h:Zd5 xs lo hi=some ys):0≤lo:=by unfold Zd5 at h;split at h <;> first | omega | cases h
theorem Zvf (h:Zd5 xs lo hi=some ys):lo≤hi:=by unfold Zd5 at h;split at h <;> first | omega | cases h
theorem Zve (h:Zd5 xs lo hi=some ys):hi≤(xs.length:Int):=by unfold Zd5 at h;split at h <;> first | omega | cases h
theorem Z1j (h:Zd5 xs lo hi=some ys):(xs.drop lo.toNat).take (hi - lo).toNat=ys:=by unfold Zd5 at h;split at h <;> first | (injection h) | cases h
theorem Zx0 (h:Zd5 xs lo hi=some ys):ys.length=(hi - lo).toNat:=by
 have h1:=Zvg h;have h2:=Zvf h;have h3:=Zve h
 rw [← Z1j h,List.length_take,List.length_drop];omega
theorem Zov {b:Nat} (h:Zch b xs ys=some zs):zs=xs++ys:=by unfold Zch at h;split at h <;> first | (injection h with h;exact h.symm) | cases h
theorem Ztq {b:Nat} (h:Zch b xs ys=some zs):(xs.length+ys.length) * b≤140737488355328:=by unfold Zch at h;split at h <;> first | omega | cases h
theorem Ztr {b:Nat} (h:Zch b xs ys=some zs):xs.length+ys.length≤140737488355328:=by unfold Zch at h;split at h <;> first | omega | cases h
theorem Z3l {b:Nat} (h:Zjc b i x=some ys):ys=List.replicate i.toNat x:=by unfold Zjc at h;split at h <;> first | (injection h with h;exact h.symm) | cases h
theorem Z6k {b:Nat} (h:Zjc b i x=some ys):0≤i∧(b:Int) * i≤140737488355328∧i≤140737488355328:=by unfold Zjc at h;split at h <;> first | assumption | cases h
theorem Z27 (ht:T t=some ti) (hf:∀ x,(f x).length=ti.size) (h0s:0 < ti.size) (hx:Xn xs i=some x):Zfg T t (fl f xs) (i.toNat * ti.size)=if ti.k.isAgg then some (.agg (f x)) else (f x)[0]? := by
 unfold Zfg
 simp only [ht]
 have h0:=Zdo hx
 have h1:=Zma hx
 split
 ·rename_i ha
  rw [if_pos ?_,Z64 hf h1]
  rw [Jd hf,← Nat.succ_mul]
  exact Nat.mul_le_mul_right _ h0
 have:=Z64 hf h1
 rw [← this,List.getElem?_take,if_pos h0s,List.getElem?_drop,Nat.add_zero]
theorem Zhn (hf:∀ x,(f x).length=ti.size) (hx:i.toNat < xs.length):Js (fl f xs) (f x) (i.toNat * ti.size)=some (fl f (Zc4 xs i x)):=by
 unfold Js Zc4
 rw [hf x,if_pos ?_,Z7q hf hx]
 rw [Jd hf,← Nat.succ_mul]
 exact Nat.mul_le_mul_right _ hx
end
end Go.Proofs.Ytbcgiaijjaocdaa
