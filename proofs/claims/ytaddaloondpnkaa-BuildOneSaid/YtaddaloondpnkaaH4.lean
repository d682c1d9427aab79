/- Part H4 of the ghost memory: lemmas and contracts used by the proofs of this seat's laws; each theorem bears its own conditions. -/
import Derived.Test.YtaddaloondpnkaaH3
namespace Go.Proofs.Ytaddaloondpnkaa
open Go.RowKit
set_option linter.unusedVariables false
set_option linter.unusedSimpArgs false
def eI (k:IntKind) (x:Int):List G:=[.val (.int k x)]
def eB (x:Bool):List G:=[.val (.bool x)]
def eS (x:ByteArray):List G:=[.val (.string x)]
def eL {α:Type} (f:α→List G) (xs:List α):List G:=[.sl xs.length (fl f xs)]
def Zx {α:Type} (xs:List α) (i:Int):Option α:=if 0≤i then xs[i.toNat]? else none
def Z9 {α:Type} (xs:List α) (i:Int) (x:α):List α:=xs.set i.toNat x
def Zlo {α:Type} (xs:List α) (lo hi:Int):Option (List α):=if 0≤lo∧lo≤hi∧hi≤xs.length then some ((xs.drop lo.toNat).take (hi - lo).toNat) else none
def Zkp {α:Type} (b:Nat) (xs ys:List α):Option (List α):=if (xs.length+ys.length) * b≤140737488355328∧xs.length+ys.length≤140737488355328 then some (xs++ys) else none
def Zdw {α:Type} (b:Nat) (n:Int) (x:α):Option (List α):=if 0≤n∧(b:Int) * n≤140737488355328∧n≤140737488355328 then some (List.replicate n.toNat x) else none
def Q9 (c:Prop) [Decidable c]:Option Unit:=if c then some () else none
theorem Yd {α:Type} {c:Bool} {x y r:α} (hc:c=true) (h:cond c x y=r):x=r:=by subst hc;exact h
theorem Yc {α:Type} {c:Bool} {x y r:α} (hc:c=false) (h:cond c x y=r):y=r:=by subst hc;exact h
theorem Z1o {c:Prop} [Decidable c] {u:Unit} (h:Q9 c=some u):c:=by unfold Q9 at h;split at h <;> first | assumption | cases h
section
variable {α:Type} {xs ys zs:List α} {i lo hi:Int} {x:α} {f:α→List G} {T:Ql} {t:TypeId} {ti:TyI} {O:Objs} {n:Nat}
theorem Zzg (h:Zx xs i=some x):0≤i:=by unfold Zx at h;split at h <;> first | assumption | cases h
theorem Zow (h:Zx xs i=some x):xs[i.toNat]? = some x:=by unfold Zx at h;split at h <;> first | assumption | cases h
theorem Vx (h:Zx xs i=some x):i.toNat < xs.length:=by
 have:=Zow h
 rcases Nat.lt_or_ge i.toNat xs.length with h | h
 ·exact h
 rw [List.getElem?_eq_none h] at this;cases this
theorem Z3e (h:Zx xs i=some x):i < (xs.length:Int):=by have:=Vx h;have:=Zzg h;omega
theorem Zz8 (h:Zlo xs lo hi=some ys):0≤lo:=by unfold Zlo at h;split at h <;> first | omega | cases h
theorem Zz7 (h:Zlo xs lo hi=some ys):lo≤hi:=by unfold Zlo at h;split at h <;> first | omega | cases h
theorem Zz6 (h:Zlo xs lo hi=some ys):hi≤(xs.length:Int):=by unfold Zlo at h;split at h <;> first | omega | cases h
theorem Zz5 (h:Zlo xs lo hi=some ys):(xs.drop lo.toNat).take (hi - lo).toNat=ys:=by unfold Zlo at h;split at h <;> first | (injection h) | cases h
theorem Z2v (h:Zlo xs lo hi=some ys):ys.length=(hi - lo).toNat:=by
 have h1:=Zz8 h;have h2:=Zz7 h;have h3:=Zz6 h
 rw [← Zz5 h,List.length_take,List.length_drop];omega
theorem Zuz {b:Nat} (h:Zkp b xs ys=some zs):zs=xs++ys:=by unfold Zkp at h;split at h <;> first | (injection h with h;exact h.symm) | cases h
theorem Zx4 {b:Nat} (h:Zkp b xs ys=some zs):(xs.length+ys.length) * b≤140737488355328:=by unfold Zkp at h;split at h <;> first | omega | cases h
theorem Z1d {b:Nat} (h:Zkp b xs ys=some zs):xs.length+ys.length≤140737488355328:=by unfold Zkp at h;split at h <;> first | omega | cases h
theorem Z1z {b:Nat} (h:Zdw b i x=some ys):ys=List.replicate i.toNat x:=by unfold Zdw at h;split at h <;> first | (injection h with h;exact h.symm) | cases h
theorem Z3s {b:Nat} (h:Zdw b i x=some ys):0≤i∧(b:Int) * i≤140737488355328∧i≤140737488355328:=by unfold Zdw at h;split at h <;> first | assumption | cases h
theorem Z1n (ht:T t=some ti) (hf:∀ x,(f x).length=ti.size) (h0s:0 < ti.size) (hx:Zx xs i=some x):Zgf T t (fl f xs) (i.toNat * ti.size)=if ti.k.isAgg then some (.agg (f x)) else (f x)[0]? := by
 unfold Zgf
 simp only [ht]
 have h0:=Vx hx
 have h1:=Zow hx
 split
 ·rename_i ha
  rw [if_pos ?_,Z4o hf h1]
  rw [Qq hf,← Nat.succ_mul]
  exact Nat.mul_le_mul_right _ h0
 have:=Z4o hf h1
 rw [← this,List.getElem?_take,if_pos h0s,List.getElem?_drop,Nat.add_zero]
theorem Za5 (hf:∀ x,(f x).length=ti.size) (hx:i.toNat < xs.length):Q8 (fl f xs) (f x) (i.toNat * ti.size)=some (fl f (Z9 xs i x)):=by
 unfold Q8 Z9
 rw [hf x,if_pos ?_,Z5k hf hx]
 rw [Qq hf,← Nat.succ_mul]
 exact Nat.mul_le_mul_right _ hx
end
end Go.Proofs.Ytaddaloondpnkaa
