/- Part H4 of the ghost memory: lemmas and contracts used by the proofs of this seat's laws; each theorem bears its own conditions. -/
import Derived.Test.YtnapihlnlajlpaaH3
import Derived.WalkKit
import Derived.WalkSpells
import Derived.WalkLawsBesides
import Derived.Lib.Hide
import Derived.BigQuiet
import Derived.StillTailTactics
import Derived.Deep.RegionHeld3
import Derived.Deep.AppendLies
import Derived.Laws.CopyOwn
import Derived.Deep.DeepCutAuto
import Derived.Deep.QuietTactic
import Derived.Maps.AppendAt
import Derived.Great.BuildSlice
import Derived.Laws.StructEq
import Derived.ChangeKeysEq
import Derived.IntWalk
import Derived.Lib.AppendZeros
import Derived.Lib.AppendZerosOnto
import Derived.ProofKit
import Derived.OpenShut
import Derived.SizedLaws
import Derived.Deep.Slices
namespace Go.Proofs.Ytnapihlnlajlpaa
open Go.RowKit
set_option linter.unusedVariables false
set_option linter.unusedSimpArgs false
def eI (k:IntKind) (x:Int):List G:=[.val (.int k x)]
def eB (x:Bool):List G:=[.val (.bool x)]
def eS (x:ByteArray):List G:=[.val (.string x)]
def eL {α:Type} (f:α→List G) (xs:List α):List G:=[.sl xs.length (fl f xs)]
def Y2 {α:Type} (xs:List α) (i:Int):Option α:=if 0≤i then xs[i.toNat]? else none
def Xu {α:Type} (xs:List α) (i:Int) (x:α):List α:=xs.set i.toNat x
def Zjg {α:Type} (xs:List α) (lo hi:Int):Option (List α):=if 0≤lo∧lo≤hi∧hi≤xs.length then some ((xs.drop lo.toNat).take (hi - lo).toNat) else none
def Zhd {α:Type} (b:Nat) (xs ys:List α):Option (List α):=if (xs.length+ys.length) * b≤140737488355328∧xs.length+ys.length≤140737488355328 then some (xs++ys) else none
def Zfn {α:Type} (b:Nat) (n:Int) (x:α):Option (List α):=if 0≤n∧(b:Int) * n≤140737488355328∧n≤140737488355328 then some (List.replicate n.toNat x) else none
def Xe (c:Prop) [Decidable c]:Option Unit:=if c then some () else none
theorem Zr {α:Type} {c:Bool} {x y r:α} (hc:c=true) (h:cond c x y=r):x=r:=by subst hc;exact h
theorem Zq {α:Type} {c:Bool} {x y r:α} (hc:c=false) (h:cond c x y=r):y=r:=by subst hc;exact h
theorem Z7p {c:Prop} [Decidable c] {u:Unit} (h:Xe c=some u):c:=by unfold Xe at h;split at h <;> first | assumption | cases h
section
variable {α:Type} {xs ys zs:List α} {i lo hi:Int} {x:α} {f:α→List G} {T:K2} {t:TypeId} {ti:TyI} {O:Objs} {n:Nat}
theorem Z4l (h:Y2 xs i=some x):0≤i:=by unfold Y2 at h;split at h <;> first | assumption | cases h
theorem Zv7 (h:Y2 xs i=some x):xs[i.toNat]? = some x:=by unfold Y2 at h;split at h <;> first | assumption | cases h
theorem Zad (h:Y2 xs i=some x):i.toNat < xs.length:=by
 have:=Zv7 h
 rcases Nat.lt_or_ge i.toNat xs.length with h | h
 ·exact h
 rw [List.getElem?_eq_none h] at this;cases this
theorem Z9u (h:Y2 xs i=some x):i < (xs.length:Int):=by have:=Zad h;have:=Z4l h;omega
theorem Z5f (h:Zjg xs lo hi=some ys):0≤lo:=by unfold Zjg at h;split at h <;> first | omega | cases h
theorem Z5e (h:Zjg xs lo hi=some ys):lo≤hi:=by unfold Zjg at h;split at h <;> first | omega | cases h
theorem Z5d (h:Zjg xs lo hi=some ys):hi≤(xs.length:Int):=by unfold Zjg at h;split at h <;> first | omega | cases h
theorem Z5c (h:Zjg xs lo hi=some ys):(xs.drop lo.toNat).take (hi - lo).toNat=ys:=by unfold Zjg at h;split at h <;> first | (injection h) | cases h
theorem Z83 (h:Zjg xs lo hi=some ys):ys.length=(hi - lo).toNat:=by
 have h1:=Z5f h;have h2:=Z5e h;have h3:=Z5d h
 rw [← Z5c h,List.length_take,List.length_drop];omega
theorem Zzw {b:Nat} (h:Zhd b xs ys=some zs):zs=xs++ys:=by unfold Zhd at h;split at h <;> first | (injection h with h;exact h.symm) | cases h
theorem Z29 {b:Nat} (h:Zhd b xs ys=some zs):(xs.length+ys.length) * b≤140737488355328:=by unfold Zhd at h;split at h <;> first | omega | cases h
theorem Z3a {b:Nat} (h:Zhd b xs ys=some zs):xs.length+ys.length≤140737488355328:=by unfold Zhd at h;split at h <;> first | omega | cases h
theorem Z73 {b:Nat} (h:Zfn b i x=some ys):ys=List.replicate i.toNat x:=by unfold Zfn at h;split at h <;> first | (injection h with h;exact h.symm) | cases h
theorem Z95 {b:Nat} (h:Zfn b i x=some ys):0≤i∧(b:Int) * i≤140737488355328∧i≤140737488355328:=by unfold Zfn at h;split at h <;> first | assumption | cases h
theorem Z7o (ht:T t=some ti) (hf:∀ x,(f x).length=ti.size) (h0s:0 < ti.size) (hx:Y2 xs i=some x):Zki T t (fl f xs) (i.toNat * ti.size)=if ti.k.isAgg then some (.agg (f x)) else (f x)[0]? := by
 unfold Zki
 simp only [ht]
 have h0:=Zad hx
 have h1:=Zv7 hx
 split
 ·rename_i ha
  rw [if_pos ?_,Ya3 hf h1]
  rw [K9 hf,← Nat.succ_mul]
  exact Nat.mul_le_mul_right _ h0
 have:=Ya3 hf h1
 rw [← this,List.getElem?_take,if_pos h0s,List.getElem?_drop,Nat.add_zero]
theorem Zcb (hf:∀ x,(f x).length=ti.size) (hx:i.toNat < xs.length):Va (fl f xs) (f x) (i.toNat * ti.size)=some (fl f (Xu xs i x)):=by
 unfold Va Xu
 rw [hf x,if_pos ?_,Ybk hf hx]
 rw [K9 hf,← Nat.succ_mul]
 exact Nat.mul_le_mul_right _ hx
end
end Go.Proofs.Ytnapihlnlajlpaa
