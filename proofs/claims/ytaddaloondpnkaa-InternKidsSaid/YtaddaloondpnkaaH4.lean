/- Part H4 of the ghost memory: lemmas and contracts used by the proofs of this seat's laws; each theorem bears its own conditions. -/
import Derived.Test.YtaddaloondpnkaaH3
namespace Go.Proofs.Ytaddaloondpnkaa
open Go.RowKit
set_option linter.unusedVariables false
set_option linter.unusedSimpArgs false
def eI (k:IntKind) (x:Int):List G:=[.val (.int k x)]
def eB (x:Bool):List G:=[.val (.bool x)]
def eS (x:ByteArray):List G:=[.val (.string x)]
def eL {α:Type} (f:α→List G) (xs:List α):List G:=[.sl xs.length (fl f xs)]
def Z9 {α:Type} (xs:List α) (i:Int):Option α:=if 0≤i then xs[i.toNat]? else none
def Y5 {α:Type} (xs:List α) (i:Int) (x:α):List α:=xs.set i.toNat x
def Zhj {α:Type} (xs:List α) (lo hi:Int):Option (List α):=if 0≤lo∧lo≤hi∧hi≤xs.length then some ((xs.drop lo.toNat).take (hi - lo).toNat) else none
def Zeu {α:Type} (b:Nat) (xs ys:List α):Option (List α):=if (xs.length+ys.length) * b≤140737488355328∧xs.length+ys.length≤140737488355328 then some (xs++ys) else none
def Zix {α:Type} (b:Nat) (n:Int) (x:α):Option (List α):=if 0≤n∧(b:Int) * n≤140737488355328∧n≤140737488355328 then some (List.replicate n.toNat x) else none
def Y7 (c:Prop) [Decidable c]:Option Unit:=if c then some () else none
theorem Zz {α:Type} {c:Bool} {x y r:α} (hc:c=true) (h:cond c x y=r):x=r:=by subst hc;exact h
theorem Zy {α:Type} {c:Bool} {x y r:α} (hc:c=false) (h:cond c x y=r):y=r:=by subst hc;exact h
theorem Z6f {c:Prop} [Decidable c] {u:Unit} (h:Y7 c=some u):c:=by unfold Y7 at h;split at h <;> first | assumption | cases h
section
variable {α:Type} {xs ys zs:List α} {i lo hi:Int} {x:α} {f:α→List G} {T:Kf} {t:TypeId} {ti:TyI} {O:Objs} {n:Nat}
theorem Z2u (h:Z9 xs i=some x):0≤i:=by unfold Z9 at h;split at h <;> first | assumption | cases h
theorem Zo3 (h:Z9 xs i=some x):xs[i.toNat]? = some x:=by unfold Z9 at h;split at h <;> first | assumption | cases h
theorem Zax (h:Z9 xs i=some x):i.toNat < xs.length:=by
 have:=Zo3 h
 rcases Nat.lt_or_ge i.toNat xs.length with h | h
 ·exact h
 rw [List.getElem?_eq_none h] at this;cases this
theorem Z8n (h:Z9 xs i=some x):i < (xs.length:Int):=by have:=Zax h;have:=Z2u h;omega
theorem Z3k (h:Zhj xs lo hi=some ys):0≤lo:=by unfold Zhj at h;split at h <;> first | omega | cases h
theorem Z3j (h:Zhj xs lo hi=some ys):lo≤hi:=by unfold Zhj at h;split at h <;> first | omega | cases h
theorem Z3i (h:Zhj xs lo hi=some ys):hi≤(xs.length:Int):=by unfold Zhj at h;split at h <;> first | omega | cases h
theorem Z3h (h:Zhj xs lo hi=some ys):(xs.drop lo.toNat).take (hi - lo).toNat=ys:=by unfold Zhj at h;split at h <;> first | (injection h) | cases h
theorem Z74 (h:Zhj xs lo hi=some ys):ys.length=(hi - lo).toNat:=by
 have h1:=Z3k h;have h2:=Z3j h;have h3:=Z3i h
 rw [← Z3h h,List.length_take,List.length_drop];omega
theorem Zxb {b:Nat} (h:Zeu b xs ys=some zs):zs=xs++ys:=by unfold Zeu at h;split at h <;> first | (injection h with h;exact h.symm) | cases h
theorem Z1b {b:Nat} (h:Zeu b xs ys=some zs):(xs.length+ys.length) * b≤140737488355328:=by unfold Zeu at h;split at h <;> first | omega | cases h
theorem Z1c {b:Nat} (h:Zeu b xs ys=some zs):xs.length+ys.length≤140737488355328:=by unfold Zeu at h;split at h <;> first | omega | cases h
theorem Z6q {b:Nat} (h:Zix b i x=some ys):ys=List.replicate i.toNat x:=by unfold Zix at h;split at h <;> first | (injection h with h;exact h.symm) | cases h
theorem Z8x {b:Nat} (h:Zix b i x=some ys):0≤i∧(b:Int) * i≤140737488355328∧i≤140737488355328:=by unfold Zix at h;split at h <;> first | assumption | cases h
theorem Z6d (ht:T t=some ti) (hf:∀ x,(f x).length=ti.size) (h0s:0 < ti.size) (hx:Z9 xs i=some x):Ze1 T t (fl f xs) (i.toNat * ti.size)=if ti.k.isAgg then some (.agg (f x)) else (f x)[0]? := by
 unfold Ze1
 simp only [ht]
 have h0:=Zax hx
 have h1:=Zo3 hx
 split
 ·rename_i ha
  rw [if_pos ?_,Z99 hf h1]
  rw [Gi hf,← Nat.succ_mul]
  exact Nat.mul_le_mul_right _ h0
 have:=Z99 hf h1
 rw [← this,List.getElem?_take,if_pos h0s,List.getElem?_drop,Nat.add_zero]
theorem Zeg (hf:∀ x,(f x).length=ti.size) (hx:i.toNat < xs.length):Uh (fl f xs) (f x) (i.toNat * ti.size)=some (fl f (Y5 xs i x)):=by
 unfold Uh Y5
 rw [hf x,if_pos ?_,Ybc hf hx]
 rw [Gi hf,← Nat.succ_mul]
 exact Nat.mul_le_mul_right _ hx
end
end Go.Proofs.Ytaddaloondpnkaa
