/- Part H17 of the ghost memory: lemmas and contracts used by the proofs of this seat's laws; each theorem bears its own conditions. -/
import Derived.Test.YtbcgiaijjaocdaaH16
import Derived.WalkKit
import Derived.WalkSpells
import Derived.WalkLawsBesides
import Derived.Lib.Hide
import Derived.BigQuiet
import Derived.StillTailTactics
import Derived.Deep.RegionHeld3
import Derived.Deep.AppendLies
import Derived.Laws.CopyOwn
import Derived.Deep.DeepCutAuto
import Derived.Deep.QuietTactic
import Derived.Maps.AppendAt
import Derived.Great.BuildSlice
import Derived.Laws.StructEq
import Derived.IntWalk
import Derived.ProofKit
import Derived.OpenShut
import Derived.SizedLaws
import Derived.Deep.Slices
namespace Go.Proofs.Ytbcgiaijjaocdaa
open Go.RowKit
set_option linter.unusedVariables false
set_option linter.unusedSimpArgs false
section
variable {α:Type} {xs:List α} {i:Int} {f:α→List G} {T:Kb} {t:TypeId} {ti:TyI} {x:α} {sz off:Nat}
theorem Zr3 (hf:∀ x,(f x).length=sz) (hx:Yy xs i=some x):(fl f xs).drop (i.toNat * sz)=f x++fl f (xs.drop (i.toNat+1)):=by
 have h1:=Zij hx
 have hi:=Zeh hx
 have:xs[i.toNat]=x:=by rw [List.getElem?_eq_getElem hi] at h1;injection h1
 rw [Zjc hf,List.drop_eq_getElem_cons hi,Ud,this]
theorem J3 (ht:T t=some ti) (hf:∀ x,(f x).length=sz) (ho:off+ti.size≤sz) (h0:0 < ti.size) (hx:Yy xs i=some x):Zey T t (fl f xs) (i.toNat * sz+off)=if ti.k.isAgg then some (.agg (((f x).drop off).take ti.size)) else (f x)[off]? := by
 unfold Zey
 simp only [ht]
 have hi:=Zeh hx
 have hd:=Zr3 hf hx
 split
 ·rw [if_pos ?_,← List.drop_drop,hd,List.drop_append_of_le_length (by rw [hf x];omega),List.take_append_of_le_length (by rw [List.length_drop,hf x];omega)]
  rw [Q1 hf]
  have:(i.toNat+1) * sz≤xs.length * sz:=Nat.mul_le_mul_right _ hi
  rw [Nat.succ_mul] at this
  omega
 rw [← List.getElem?_drop,hd,List.getElem?_append_left (by rw [hf x];omega)]
theorem K4 (ht:T t=some ti) (hf:∀ x,(f x).length=sz) (ho:ti.size≤sz) (h0:0 < ti.size) (hx:Yy xs i=some x):Zey T t (fl f xs) (i.toNat * sz)=if ti.k.isAgg then some (.agg ((f x).take ti.size)) else (f x)[0]? := by
 have:=J3 (off:=0) ht hf (by omega) h0 hx
 rw [Nat.add_zero,List.drop_zero] at this
 exact this
theorem Zxd {y:α} {cs:List G} (hf:∀ x,(f x).length=sz) (ho:off+cs.length≤sz) (hx:Yy xs i=some x) (hy:f y=(f x).take off++cs++(f x).drop (off+cs.length)):J4 (fl f xs) cs (i.toNat * sz+off)=some (fl f (Zg9 xs i y)):=by
 have hi:=Zeh hx
 have h1:=Zij hx
 have hxe:xs[i.toNat]=x:=by rw [List.getElem?_eq_getElem hi] at h1;injection h1
 have hl:(i.toNat+1) * sz≤xs.length * sz:=Nat.mul_le_mul_right _ hi
 rw [Nat.succ_mul] at hl
 have hd:=Zr3 hf hx
 have e:=Z1c (x:=y) hf hi
 unfold J4 Zg9
 rw [if_pos (by rw [Q1 hf];omega),← e,hy]
 congr 1
 have e1:(fl f xs).take (i.toNat * sz+off)=(fl f xs).take (i.toNat * sz)++(f x).take off:=by
  rw [List.take_add,hd,List.take_append_of_le_length (by rw [hf x];omega)]
 have e2:(fl f xs).drop (i.toNat * sz+off+cs.length)=(f x).drop (off+cs.length)++(fl f xs).drop (i.toNat * sz+sz):=by
  rw [Nat.add_assoc,← List.drop_drop,hd,List.drop_append_of_le_length (by rw [hf x];omega)]
  congr 1
  have e3:i.toNat * sz+sz=(i.toNat+1) * sz:=by rw [Nat.succ_mul]
  rw [e3,Zjc hf]
 rw [e1,e2]
 simp only [List.append_assoc]
theorem Zwv {O O':Objs} {n':Nat} {zs:List G} {z:α} (h:wkl O O' n' zs (f z)):∀ k:Nat,wkl O O' n' (List.replicate k zs).flatten (fl f (List.replicate k z))
 | 0=>by simp [wkl,fl]
 | k+1=>by
  rw [List.replicate_succ,List.replicate_succ,List.flatten_cons,Ud]
  exact Zz1 _ _ _ _ h (Zwv h k)
end
theorem Zgo {P:Program} {t e:TypeId} {α:Type} {f:α→List G} {wf:α→Prop} {sz:Nat} (n:Nat) (ht:P.underlying t=some (.slice e)) (hc:P.cellsOf e=sz) (hs:0 < sz) (hf:∀ x,(f x).length=sz) (he:∀ m,m < n→Kf P e f wf m) :
  Kf P t (eL f) (fun xs=>xs.length * P.bytesOf e≤reachBytes∧∀ x∈xs,wf x) n:=by
 cases n with
 | zero=>exact Zbg
 | succ n=>exact Zl5 ht hc hs hf (he n (Nat.lt_succ_self n))
end Go.Proofs.Ytbcgiaijjaocdaa
