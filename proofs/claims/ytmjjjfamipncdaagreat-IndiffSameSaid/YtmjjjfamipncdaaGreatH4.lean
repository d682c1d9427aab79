/- Part H4 of the ghost memory: lemmas and contracts used by the proofs of this seat's laws; each theorem bears its own conditions. -/
import Derived.Test.YtmjjjfamipncdaaGreatH3
namespace Go.Proofs.YtmjjjfamipncdaaGreat
open Go.RowKit
set_option linter.unusedVariables false
set_option linter.unusedSimpArgs false
def eI (k:IntKind) (x:Int):List G:=[.val (.int k x)]
def eB (x:Bool):List G:=[.val (.bool x)]
def eS (x:ByteArray):List G:=[.val (.string x)]
def eL {α:Type} (f:α→List G) (xs:List α):List G:=[.sl xs.length (fl f xs)]
def Z5 {α:Type} (xs:List α) (i:Int):Option α:=if 0≤i then xs[i.toNat]? else none
def Xs {α:Type} (xs:List α) (i:Int) (x:α):List α:=xs.set i.toNat x
def Zg9 {α:Type} (xs:List α) (lo hi:Int):Option (List α):=if 0≤lo∧lo≤hi∧hi≤xs.length then some ((xs.drop lo.toNat).take (hi - lo).toNat) else none
def Zf5 {α:Type} (b:Nat) (xs ys:List α):Option (List α):=if (xs.length+ys.length) * b≤140737488355328∧xs.length+ys.length≤140737488355328 then some (xs++ys) else none
def Znf {α:Type} (b:Nat) (n:Int) (x:α):Option (List α):=if 0≤n∧(b:Int) * n≤140737488355328∧n≤140737488355328 then some (List.replicate n.toNat x) else none
def Xz (c:Prop) [Decidable c]:Option Unit:=if c then some () else none
theorem Zw {α:Type} {c:Bool} {x y r:α} (hc:c=true) (h:cond c x y=r):x=r:=by subst hc;exact h
theorem Zv {α:Type} {c:Bool} {x y r:α} (hc:c=false) (h:cond c x y=r):y=r:=by subst hc;exact h
theorem Z78 {c:Prop} [Decidable c] {u:Unit} (h:Xz c=some u):c:=by unfold Xz at h;split at h <;> first | assumption | cases h
section
variable {α:Type} {xs ys zs:List α} {i lo hi:Int} {x:α} {f:α→List G} {T:J0} {t:TypeId} {ti:TyI} {O:Objs} {n:Nat}
theorem Z31 (h:Z5 xs i=some x):0≤i:=by unfold Z5 at h;split at h <;> first | assumption | cases h
theorem Zox (h:Z5 xs i=some x):xs[i.toNat]? = some x:=by unfold Z5 at h;split at h <;> first | assumption | cases h
theorem Zbt (h:Z5 xs i=some x):i.toNat < xs.length:=by
 have:=Zox h
 rcases Nat.lt_or_ge i.toNat xs.length with h | h
 ·exact h
 rw [List.getElem?_eq_none h] at this;cases this
theorem Ya2 (h:Z5 xs i=some x):i < (xs.length:Int):=by have:=Zbt h;have:=Z31 h;omega
theorem Z4v (h:Zg9 xs lo hi=some ys):0≤lo:=by unfold Zg9 at h;split at h <;> first | omega | cases h
theorem Z4u (h:Zg9 xs lo hi=some ys):lo≤hi:=by unfold Zg9 at h;split at h <;> first | omega | cases h
theorem Z4t (h:Zg9 xs lo hi=some ys):hi≤(xs.length:Int):=by unfold Zg9 at h;split at h <;> first | omega | cases h
theorem Z4s (h:Zg9 xs lo hi=some ys):(xs.drop lo.toNat).take (hi - lo).toNat=ys:=by unfold Zg9 at h;split at h <;> first | (injection h) | cases h
theorem Yab (h:Zg9 xs lo hi=some ys):ys.length=(hi - lo).toNat:=by
 have h1:=Z4v h;have h2:=Z4u h;have h3:=Z4t h
 rw [← Z4s h,List.length_take,List.length_drop];omega
theorem Zsw {b:Nat} (h:Zf5 b xs ys=some zs):zs=xs++ys:=by unfold Zf5 at h;split at h <;> first | (injection h with h;exact h.symm) | cases h
theorem Zxr {b:Nat} (h:Zf5 b xs ys=some zs):(xs.length+ys.length) * b≤140737488355328:=by unfold Zf5 at h;split at h <;> first | omega | cases h
theorem Zxs {b:Nat} (h:Zf5 b xs ys=some zs):xs.length+ys.length≤140737488355328:=by unfold Zf5 at h;split at h <;> first | omega | cases h
theorem Z8p {b:Nat} (h:Znf b i x=some ys):ys=List.replicate i.toNat x:=by unfold Znf at h;split at h <;> first | (injection h with h;exact h.symm) | cases h
theorem Ybb {b:Nat} (h:Znf b i x=some ys):0≤i∧(b:Int) * i≤140737488355328∧i≤140737488355328:=by unfold Znf at h;split at h <;> first | assumption | cases h
theorem Z77 (ht:T t=some ti) (hf:∀ x,(f x).length=ti.size) (h0s:0 < ti.size) (hx:Z5 xs i=some x):Zc2 T t (fl f xs) (i.toNat * ti.size)=if ti.k.isAgg then some (.agg (f x)) else (f x)[0]? := by
 unfold Zc2
 simp only [ht]
 have h0:=Zbt hx
 have h1:=Zox hx
 split
 ·rename_i ha
  rw [if_pos ?_,Ycr hf h1]
  rw [Vo hf,← Nat.succ_mul]
  exact Nat.mul_le_mul_right _ h0
 have:=Ycr hf h1
 rw [← this,List.getElem?_take,if_pos h0s,List.getElem?_drop,Nat.add_zero]
theorem Zgd (hf:∀ x,(f x).length=ti.size) (hx:i.toNat < xs.length):Uj (fl f xs) (f x) (i.toNat * ti.size)=some (fl f (Xs xs i x)):=by
 unfold Uj Xs
 rw [hf x,if_pos ?_,Yef hf hx]
 rw [Vo hf,← Nat.succ_mul]
 exact Nat.mul_le_mul_right _ hx
end
end Go.Proofs.YtmjjjfamipncdaaGreat
