/- Part H4 of the ghost memory: lemmas and contracts used by the proofs of this seat's laws; each theorem bears its own conditions. -/
import Derived.Test.YtbkhdkfjabiocaaH3
namespace Go.Proofs.Ytbkhdkfjabiocaa
open Go.RowKit
set_option linter.unusedVariables false
set_option linter.unusedSimpArgs false
def eI (k:IntKind) (x:Int):List G:=[.val (.int k x)]
def eB (x:Bool):List G:=[.val (.bool x)]
def eS (x:ByteArray):List G:=[.val (.string x)]
def eL {α:Type} (f:α→List G) (xs:List α):List G:=[.sl xs.length (fl f xs)]
def Z6 {α:Type} (xs:List α) (i:Int):Option α:=if 0≤i then xs[i.toNat]? else none
def Xr {α:Type} (xs:List α) (i:Int) (x:α):List α:=xs.set i.toNat x
def Zhp {α:Type} (xs:List α) (lo hi:Int):Option (List α):=if 0≤lo∧lo≤hi∧hi≤xs.length then some ((xs.drop lo.toNat).take (hi - lo).toNat) else none
def Zhk {α:Type} (b:Nat) (xs ys:List α):Option (List α):=if (xs.length+ys.length) * b≤140737488355328∧xs.length+ys.length≤140737488355328 then some (xs++ys) else none
def Zi7 {α:Type} (b:Nat) (n:Int) (x:α):Option (List α):=if 0≤n∧(b:Int) * n≤140737488355328∧n≤140737488355328 then some (List.replicate n.toNat x) else none
def Ja (c:Prop) [Decidable c]:Option Unit:=if c then some () else none
theorem Z3 {α:Type} {c:Bool} {x y r:α} (hc:c=true) (h:cond c x y=r):x=r:=by subst hc;exact h
theorem Z0 {α:Type} {c:Bool} {x y r:α} (hc:c=false) (h:cond c x y=r):y=r:=by subst hc;exact h
theorem Z7b {c:Prop} [Decidable c] {u:Unit} (h:Ja c=some u):c:=by unfold Ja at h;split at h <;> first | assumption | cases h
section
variable {α:Type} {xs ys zs:List α} {i lo hi:Int} {x:α} {f:α→List G} {T:J9} {t:TypeId} {ti:TyI} {O:Objs} {n:Nat}
theorem Z31 (h:Z6 xs i=some x):0≤i:=by unfold Z6 at h;split at h <;> first | assumption | cases h
theorem Zql (h:Z6 xs i=some x):xs[i.toNat]? = some x:=by unfold Z6 at h;split at h <;> first | assumption | cases h
theorem Zc3 (h:Z6 xs i=some x):i.toNat < xs.length:=by
 have:=Zql h
 rcases Nat.lt_or_ge i.toNat xs.length with h | h
 ·exact h
 rw [List.getElem?_eq_none h] at this;cases this
theorem Z9p (h:Z6 xs i=some x):i < (xs.length:Int):=by have:=Zc3 h;have:=Z31 h;omega
theorem Zz3 (h:Zhp xs lo hi=some ys):0≤lo:=by unfold Zhp at h;split at h <;> first | omega | cases h
theorem Zz2 (h:Zhp xs lo hi=some ys):lo≤hi:=by unfold Zhp at h;split at h <;> first | omega | cases h
theorem Zz1 (h:Zhp xs lo hi=some ys):hi≤(xs.length:Int):=by unfold Zhp at h;split at h <;> first | omega | cases h
theorem Z4s (h:Zhp xs lo hi=some ys):(xs.drop lo.toNat).take (hi - lo).toNat=ys:=by unfold Zhp at h;split at h <;> first | (injection h) | cases h
theorem Z18 (h:Zhp xs lo hi=some ys):ys.length=(hi - lo).toNat:=by
 have h1:=Zz3 h;have h2:=Zz2 h;have h3:=Zz1 h
 rw [← Z4s h,List.length_take,List.length_drop];omega
theorem Zys {b:Nat} (h:Zhk b xs ys=some zs):zs=xs++ys:=by unfold Zhk at h;split at h <;> first | (injection h with h;exact h.symm) | cases h
theorem Z2s {b:Nat} (h:Zhk b xs ys=some zs):(xs.length+ys.length) * b≤140737488355328:=by unfold Zhk at h;split at h <;> first | omega | cases h
theorem Z2t {b:Nat} (h:Zhk b xs ys=some zs):xs.length+ys.length≤140737488355328:=by unfold Zhk at h;split at h <;> first | omega | cases h
theorem Z7u {b:Nat} (h:Zi7 b i x=some ys):ys=List.replicate i.toNat x:=by unfold Zi7 at h;split at h <;> first | (injection h with h;exact h.symm) | cases h
theorem Z9z {b:Nat} (h:Zi7 b i x=some ys):0≤i∧(b:Int) * i≤140737488355328∧i≤140737488355328:=by unfold Zi7 at h;split at h <;> first | assumption | cases h
theorem Z7a (ht:T t=some ti) (hf:∀ x,(f x).length=ti.size) (h0s:0 < ti.size) (hx:Z6 xs i=some x):Zhr T t (fl f xs) (i.toNat * ti.size)=if ti.k.isAgg then some (.agg (f x)) else (f x)[0]? := by
 unfold Zhr
 simp only [ht]
 have h0:=Zc3 hx
 have h1:=Zql hx
 split
 ·rename_i ha
  rw [if_pos ?_,Ya9 hf h1]
  rw [Ke hf,← Nat.succ_mul]
  exact Nat.mul_le_mul_right _ h0
 have:=Ya9 hf h1
 rw [← this,List.getElem?_take,if_pos h0s,List.getElem?_drop,Nat.add_zero]
theorem Zit (hf:∀ x,(f x).length=ti.size) (hx:i.toNat < xs.length):Uv (fl f xs) (f x) (i.toNat * ti.size)=some (fl f (Xr xs i x)):=by
 unfold Uv Xr
 rw [hf x,if_pos ?_,Ybw hf hx]
 rw [Ke hf,← Nat.succ_mul]
 exact Nat.mul_le_mul_right _ hx
end
end Go.Proofs.Ytbkhdkfjabiocaa
