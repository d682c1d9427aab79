/- Part H4 of the ghost memory: lemmas and contracts used by the proofs of this seat's laws; each theorem bears its own conditions. -/
import Derived.Test.YtpfbdlcnfekdkaaGreatH3
import Derived.WalkKit
import Derived.WalkSpells
import Derived.WalkLawsBesides
import Derived.Lib.Hide
import Derived.BigQuiet
import Derived.StillTailTactics
import Derived.Deep.RegionHeld3
import Derived.Deep.AppendLies
import Derived.Laws.CopyOwn
import Derived.Deep.DeepCutAuto
import Derived.Deep.QuietTactic
import Derived.Maps.AppendAt
import Derived.Great.BuildSlice
import Derived.Laws.StructEq
import Derived.ChangeKeysEq
import Derived.IntWalk
import Derived.Lib.AppendZeros
import Derived.Lib.AppendZerosOnto
import Derived.ProofKit
import Derived.OpenShut
import Derived.SizedLaws
import Derived.Deep.Slices
namespace Go.Proofs.YtpfbdlcnfekdkaaGreat
open Go.RowKit
set_option linter.unusedVariables false
set_option linter.unusedSimpArgs false
def eI (k:IntKind) (x:Int):List G:=[.val (.int k x)]
def eB (x:Bool):List G:=[.val (.bool x)]
def eS (x:ByteArray):List G:=[.val (.string x)]
def eL {α:Type} (f:α→List G) (xs:List α):List G:=[.sl xs.length (fl f xs)]
def Y9 {α:Type} (xs:List α) (i:Int):Option α:=if 0≤i then xs[i.toNat]? else none
def Kc {α:Type} (xs:List α) (i:Int) (x:α):List α:=xs.set i.toNat x
def Zin {α:Type} (xs:List α) (lo hi:Int):Option (List α):=if 0≤lo∧lo≤hi∧hi≤xs.length then some ((xs.drop lo.toNat).take (hi - lo).toNat) else none
def Zhj {α:Type} (b:Nat) (xs ys:List α):Option (List α):=if (xs.length+ys.length) * b≤140737488355328∧xs.length+ys.length≤140737488355328 then some (xs++ys) else none
def Zic {α:Type} (b:Nat) (n:Int) (x:α):Option (List α):=if 0≤n∧(b:Int) * n≤140737488355328∧n≤140737488355328 then some (List.replicate n.toNat x) else none
def Xj (c:Prop) [Decidable c]:Option Unit:=if c then some () else none
theorem Zn {α:Type} {c:Bool} {x y r:α} (hc:c=true) (h:cond c x y=r):x=r:=by subst hc;exact h
theorem Zm {α:Type} {c:Bool} {x y r:α} (hc:c=false) (h:cond c x y=r):y=r:=by subst hc;exact h
theorem Z8s {c:Prop} [Decidable c] {u:Unit} (h:Xj c=some u):c:=by unfold Xj at h;split at h <;> first | assumption | cases h
section
variable {α:Type} {xs ys zs:List α} {i lo hi:Int} {x:α} {f:α→List G} {T:Vt} {t:TypeId} {ti:TyI} {O:Objs} {n:Nat}
theorem Z5r (h:Y9 xs i=some x):0≤i:=by unfold Y9 at h;split at h <;> first | assumption | cases h
theorem Zwx (h:Y9 xs i=some x):xs[i.toNat]? = some x:=by unfold Y9 at h;split at h <;> first | assumption | cases h
theorem Zat (h:Y9 xs i=some x):i.toNat < xs.length:=by
 have:=Zwx h
 rcases Nat.lt_or_ge i.toNat xs.length with h | h
 ·exact h
 rw [List.getElem?_eq_none h] at this;cases this
theorem Yau (h:Y9 xs i=some x):i < (xs.length:Int):=by have:=Zat h;have:=Z5r h;omega
theorem Z1t (h:Zin xs lo hi=some ys):0≤lo:=by unfold Zin at h;split at h <;> first | omega | cases h
theorem Z1s (h:Zin xs lo hi=some ys):lo≤hi:=by unfold Zin at h;split at h <;> first | omega | cases h
theorem Z1r (h:Zin xs lo hi=some ys):hi≤(xs.length:Int):=by unfold Zin at h;split at h <;> first | omega | cases h
theorem Z6g (h:Zin xs lo hi=some ys):(xs.drop lo.toNat).take (hi - lo).toNat=ys:=by unfold Zin at h;split at h <;> first | (injection h) | cases h
theorem Z3o (h:Zin xs lo hi=some ys):ys.length=(hi - lo).toNat:=by
 have h1:=Z1t h;have h2:=Z1s h;have h3:=Z1r h
 rw [← Z6g h,List.length_take,List.length_drop];omega
theorem Z0k {b:Nat} (h:Zhj b xs ys=some zs):zs=xs++ys:=by unfold Zhj at h;split at h <;> first | (injection h with h;exact h.symm) | cases h
theorem Z39 {b:Nat} (h:Zhj b xs ys=some zs):(xs.length+ys.length) * b≤140737488355328:=by unfold Zhj at h;split at h <;> first | omega | cases h
theorem Z4a {b:Nat} (h:Zhj b xs ys=some zs):xs.length+ys.length≤140737488355328:=by unfold Zhj at h;split at h <;> first | omega | cases h
theorem Z89 {b:Nat} (h:Zic b i x=some ys):ys=List.replicate i.toNat x:=by unfold Zic at h;split at h <;> first | (injection h with h;exact h.symm) | cases h
theorem Ya4 {b:Nat} (h:Zic b i x=some ys):0≤i∧(b:Int) * i≤140737488355328∧i≤140737488355328:=by unfold Zic at h;split at h <;> first | assumption | cases h
theorem Z8r (ht:T t=some ti) (hf:∀ x,(f x).length=ti.size) (h0s:0 < ti.size) (hx:Y9 xs i=some x):Zkl T t (fl f xs) (i.toNat * ti.size)=if ti.k.isAgg then some (.agg (f x)) else (f x)[0]? := by
 unfold Zkl
 simp only [ht]
 have h0:=Zat hx
 have h1:=Zwx hx
 split
 ·rename_i ha
  rw [if_pos ?_,Ybt hf h1]
  rw [V2 hf,← Nat.succ_mul]
  exact Nat.mul_le_mul_right _ h0
 have:=Ybt hf h1
 rw [← this,List.getElem?_take,if_pos h0s,List.getElem?_drop,Nat.add_zero]
theorem Zcs (hf:∀ x,(f x).length=ti.size) (hx:i.toNat < xs.length):Vs (fl f xs) (f x) (i.toNat * ti.size)=some (fl f (Kc xs i x)):=by
 unfold Vs Kc
 rw [hf x,if_pos ?_,Yb7 hf hx]
 rw [V2 hf,← Nat.succ_mul]
 exact Nat.mul_le_mul_right _ hx
end
end Go.Proofs.YtpfbdlcnfekdkaaGreat
