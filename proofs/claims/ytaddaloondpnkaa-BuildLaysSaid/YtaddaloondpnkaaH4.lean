/- Part H4 of the ghost memory: lemmas and contracts used by the proofs of this seat's laws; each theorem bears its own conditions. -/
import Derived.Test.YtaddaloondpnkaaH3
namespace Go.Proofs.Ytaddaloondpnkaa
open Go.RowKit
set_option linter.unusedVariables false
set_option linter.unusedSimpArgs false
def eI (k:IntKind) (x:Int):List G:=[.val (.int k x)]
def eB (x:Bool):List G:=[.val (.bool x)]
def eS (x:ByteArray):List G:=[.val (.string x)]
def eL {α:Type} (f:α→List G) (xs:List α):List G:=[.sl xs.length (fl f xs)]
def Zv {α:Type} (xs:List α) (i:Int):Option α:=if 0≤i then xs[i.toNat]? else none
def Yc {α:Type} (xs:List α) (i:Int) (x:α):List α:=xs.set i.toNat x
def Zf2 {α:Type} (xs:List α) (lo hi:Int):Option (List α):=if 0≤lo∧lo≤hi∧hi≤xs.length then some ((xs.drop lo.toNat).take (hi - lo).toNat) else none
def Zkv {α:Type} (b:Nat) (xs ys:List α):Option (List α):=if (xs.length+ys.length) * b≤140737488355328∧xs.length+ys.length≤140737488355328 then some (xs++ys) else none
def Zfq {α:Type} (b:Nat) (n:Int) (x:α):Option (List α):=if 0≤n∧(b:Int) * n≤140737488355328∧n≤140737488355328 then some (List.replicate n.toNat x) else none
def Jr (c:Prop) [Decidable c]:Option Unit:=if c then some () else none
theorem Z0 {α:Type} {c:Bool} {x y r:α} (hc:c=true) (h:cond c x y=r):x=r:=by subst hc;exact h
theorem Zz {α:Type} {c:Bool} {x y r:α} (hc:c=false) (h:cond c x y=r):y=r:=by subst hc;exact h
theorem Z0j {c:Prop} [Decidable c] {u:Unit} (h:Jr c=some u):c:=by unfold Jr at h;split at h <;> first | assumption | cases h
section
variable {α:Type} {xs ys zs:List α} {i lo hi:Int} {x:α} {f:α→List G} {T:Qi} {t:TypeId} {ti:TyI} {O:Objs} {n:Nat}
theorem Zyb (h:Zv xs i=some x):0≤i:=by unfold Zv at h;split at h <;> first | assumption | cases h
theorem Znj (h:Zv xs i=some x):xs[i.toNat]? = some x:=by unfold Zv at h;split at h <;> first | assumption | cases h
theorem Kw (h:Zv xs i=some x):i.toNat < xs.length:=by
 have:=Znj h
 rcases Nat.lt_or_ge i.toNat xs.length with h | h
 ·exact h
 rw [List.getElem?_eq_none h] at this;cases this
theorem Z14 (h:Zv xs i=some x):i < (xs.length:Int):=by have:=Kw h;have:=Zyb h;omega
theorem Zur (h:Zf2 xs lo hi=some ys):0≤lo:=by unfold Zf2 at h;split at h <;> first | omega | cases h
theorem Zuq (h:Zf2 xs lo hi=some ys):lo≤hi:=by unfold Zf2 at h;split at h <;> first | omega | cases h
theorem Zup (h:Zf2 xs lo hi=some ys):hi≤(xs.length:Int):=by unfold Zf2 at h;split at h <;> first | omega | cases h
theorem Zyy (h:Zf2 xs lo hi=some ys):(xs.drop lo.toNat).take (hi - lo).toNat=ys:=by unfold Zf2 at h;split at h <;> first | (injection h) | cases h
theorem Zwk (h:Zf2 xs lo hi=some ys):ys.length=(hi - lo).toNat:=by
 have h1:=Zur h;have h2:=Zuq h;have h3:=Zup h
 rw [← Zyy h,List.length_take,List.length_drop];omega
theorem Zpl {b:Nat} (h:Zkv b xs ys=some zs):zs=xs++ys:=by unfold Zkv at h;split at h <;> first | (injection h with h;exact h.symm) | cases h
theorem Ztk {b:Nat} (h:Zkv b xs ys=some zs):(xs.length+ys.length) * b≤140737488355328:=by unfold Zkv at h;split at h <;> first | omega | cases h
theorem Zwy {b:Nat} (h:Zkv b xs ys=some zs):xs.length+ys.length≤140737488355328:=by unfold Zkv at h;split at h <;> first | omega | cases h
theorem Z0p {b:Nat} (h:Zfq b i x=some ys):ys=List.replicate i.toNat x:=by unfold Zfq at h;split at h <;> first | (injection h with h;exact h.symm) | cases h
theorem Z2f {b:Nat} (h:Zfq b i x=some ys):0≤i∧(b:Int) * i≤140737488355328∧i≤140737488355328:=by unfold Zfq at h;split at h <;> first | assumption | cases h
theorem Z0i (ht:T t=some ti) (hf:∀ x,(f x).length=ti.size) (h0s:0 < ti.size) (hx:Zv xs i=some x):Zc5 T t (fl f xs) (i.toNat * ti.size)=if ti.k.isAgg then some (.agg (f x)) else (f x)[0]? := by
 unfold Zc5
 simp only [ht]
 have h0:=Kw hx
 have h1:=Znj hx
 split
 ·rename_i ha
  rw [if_pos ?_,Z3f hf h1]
  rw [Q6 hf,← Nat.succ_mul]
  exact Nat.mul_le_mul_right _ h0
 have:=Z3f hf h1
 rw [← this,List.getElem?_take,if_pos h0s,List.getElem?_drop,Nat.add_zero]
theorem Ur (hf:∀ x,(f x).length=ti.size) (hx:i.toNat < xs.length):Q9 (fl f xs) (f x) (i.toNat * ti.size)=some (fl f (Yc xs i x)):=by
 unfold Q9 Yc
 rw [hf x,if_pos ?_,Z4d hf hx]
 rw [Q6 hf,← Nat.succ_mul]
 exact Nat.mul_le_mul_right _ hx
end
end Go.Proofs.Ytaddaloondpnkaa
