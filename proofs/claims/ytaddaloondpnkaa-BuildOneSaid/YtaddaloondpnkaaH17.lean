/- Part H17 of the ghost memory: lemmas and contracts used by the proofs of this seat's laws; each theorem bears its own conditions. -/
import Derived.Test.YtaddaloondpnkaaH16
namespace Go.Proofs.Ytaddaloondpnkaa
open Go.RowKit
set_option linter.unusedVariables false
set_option linter.unusedSimpArgs false
section
variable {α:Type} {xs:List α} {i:Int} {f:α→List G} {T:Ql} {t:TypeId} {ti:TyI} {x:α} {sz off:Nat}
theorem Z0p (hf:∀ x,(f x).length=sz) (hx:Zx xs i=some x):(fl f xs).drop (i.toNat * sz)=f x++fl f (xs.drop (i.toNat+1)):=by
 have h1:=Zow hx
 have hi:=Vx hx
 have:xs[i.toNat]=x:=by rw [List.getElem?_eq_getElem hi] at h1;injection h1
 rw [Zlw hf,List.drop_eq_getElem_cons hi,Jn,this]
theorem Z0s (ht:T t=some ti) (hf:∀ x,(f x).length=sz) (ho:off+ti.size≤sz) (h0:0 < ti.size) (hx:Zx xs i=some x):Zgf T t (fl f xs) (i.toNat * sz+off)=if ti.k.isAgg then some (.agg (((f x).drop off).take ti.size)) else (f x)[off]? := by
 unfold Zgf
 simp only [ht]
 have hi:=Vx hx
 have hd:=Z0p hf hx
 split
 ·rw [if_pos ?_,← List.drop_drop,hd,List.drop_append_of_le_length (by rw [hf x];omega),List.take_append_of_le_length (by rw [List.length_drop,hf x];omega)]
  rw [Qq hf]
  have:(i.toNat+1) * sz≤xs.length * sz:=Nat.mul_le_mul_right _ hi
  rw [Nat.succ_mul] at this
  omega
 rw [← List.getElem?_drop,hd,List.getElem?_append_left (by rw [hf x];omega)]
theorem Zyg (ht:T t=some ti) (hf:∀ x,(f x).length=sz) (ho:ti.size≤sz) (h0:0 < ti.size) (hx:Zx xs i=some x):Zgf T t (fl f xs) (i.toNat * sz)=if ti.k.isAgg then some (.agg ((f x).take ti.size)) else (f x)[0]? := by
 have:=Z0s (off:=0) ht hf (by omega) h0 hx
 rw [Nat.add_zero,List.drop_zero] at this
 exact this
theorem Zxw {O O':Objs} {n':Nat} {zs:List G} {z:α} (h:Kt O O' n' zs (f z)):∀ k:Nat,Kt O O' n' (List.replicate k zs).flatten (fl f (List.replicate k z))
 | 0=>by simp [Kt,fl]
 | k+1=>by
  rw [List.replicate_succ,List.replicate_succ,List.flatten_cons,Jn]
  exact Z0e _ _ _ _ h (Zxw h k)
end
theorem Zt4 {P:Program} {t e:TypeId} {α:Type} {f:α→List G} {wf:α→Prop} {sz:Nat} (n:Nat) (ht:P.underlying t=some (.slice e)) (hc:P.cellsOf e=sz) (hs:0 < sz) (hf:∀ x,(f x).length=sz) (he:∀ m,m < n→Zce P e f wf m) :
  Zce P t (eL f) (fun xs=>xs.length * P.bytesOf e≤reachBytes∧∀ x∈xs,wf x) n:=by
 cases n with
 | zero=>exact Zlf
 | succ n=>exact Zo6 ht hc hs hf (he n (Nat.lt_succ_self n))
end Go.Proofs.Ytaddaloondpnkaa
