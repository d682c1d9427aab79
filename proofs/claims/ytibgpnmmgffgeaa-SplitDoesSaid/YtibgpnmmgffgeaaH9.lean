/- Part H9 of the ghost memory: lemmas and contracts used by the proofs of this seat's laws; each theorem bears its own conditions. -/
import Derived.Test.YtibgpnmmgffgeaaH8
namespace Go.Proofs.Ytibgpnmmgffgeaa
open Go.RowKit
set_option linter.unusedVariables false
set_option linter.unusedSimpArgs false
abbrev Arr (α:Type) (N:Nat):={xs:List α // xs.length=N}
def Arr.put {α:Type} {N:Nat} (a:Arr α N) (i:Int) (x:α):Arr α N:=⟨Zgr a.1 i x,by rw [Zgr,List.length_set,a.2]⟩
section
variable {α ρ:Type} {N s:Nat} {i:Int} {f:α→List G} {T:Kv} {t e:TypeId} {ti:TyI} {r:ρ}
theorem Arr.len (a:Arr α N):a.1.length=N:=a.2
theorem Arr.put_eq (a:Arr α N) (i:Int) (x:α):Zgr a.1 i x=(a.put i x).1:=rfl
theorem Zrj (a:Arr α N) (hf:∀ x,(f x).length=s):(fl f a.1).length=N * s:=by rw [Q7 hf,a.2]
theorem Ycn (a:Arr α N) (hf:∀ x,(f x).length=s) (k:Nat) (hk:N * s=k):List.take k (fl f a.1)=fl f a.1 :=
 List.take_of_length_le (by rw [Zrj a hf,hk];exact Nat.le_refl _)
theorem Zxr (a:Arr α N) (ht:T t=some ti) (hk:ti.k.isAgg=true) (hf:∀ x,(f x).length=s) (hs:N * s=ti.size):Zhy T t (fl f a.1) 0=some (.agg (fl f a.1)):=by
 unfold Zhy
 simp only [ht,hk,if_true]
 rw [if_pos (by rw [Zrj a hf,hs,Nat.zero_add];exact Nat.le_refl _),List.drop_zero,Ycn a hf _ hs]
theorem Zkm (a b:Arr α N) (hf:∀ x,(f x).length=s):Jq (fl f a.1) (fl f b.1) 0=some (fl f b.1):=by
 unfold Jq
 rw [if_pos (by rw [Zrj a hf,Zrj b hf,Nat.zero_add];exact Nat.le_refl _),List.drop_of_length_le (by rw [Zrj a hf,Zrj b hf,Nat.zero_add];exact Nat.le_refl _)]
 simp
theorem Z4n {j len:Nat} (ht:Yu T t=some (.arr len e)) (he:T e=some ti) (h0:0 < len):Zhp T t (.ref j 0) none none none=some (True,.rs j 0 len):=by
 unfold Zhp
 simp only [ht,he]
 rw [if_neg (by simp)]
 have hl:(bMx none len=bLo none)=False:=by simp only [bMx,bLo,eq_iff_iff,iff_false];omega
 simp only [hl,if_false,Option.some.injEq,Prod.mk.injEq,G.rs.injEq,true_and]
 refine ⟨?_,?_,?_⟩
 ·simp only [bLo,bHi,bMx,eq_iff_iff,iff_true];omega
 ·simp [bLo]
 simp [bLo,bHi]
theorem bEA {a:Arr α N} {b:Int} {K:α→Option ρ} (hb:(N:Int)=b) (ht:T t=some ti) (hf:∀ x,(f x).length=ti.size) (h0:0 < ti.size) (h:(Xj a.1 i).bind K=some r) :
  ∃ x,Xj a.1 i=some x∧0≤i∧i < b∧Zhy T t (fl f a.1) (i.toNat * ti.size)=(if ti.k.isAgg then some (.agg (f x)) else (f x)[0]?)∧K x=some r:=by
 obtain ⟨x,hx,h1,h2,h3,h⟩:=bE ht hf h0 h
 exact ⟨x,hx,h1,by rw [a.2,hb] at h2;exact h2,h3,h⟩
theorem bY {a:Arr α N} {cs:List G} {K:Arr α N→Option ρ} (hc:cs=fl f a.1) (h:(some a).bind K=some r):∃ y:Arr α N,some a=some y∧cs=fl f y.1∧K y=some r:=⟨a,rfl,hc,h⟩
end
theorem Zi (k:Nat):((no_index (OfNat.ofNat k:Nat)):Int)=(OfNat.ofNat k:Int):=rfl
theorem bM2 {α ρ:Type} {r:ρ} {i:Int} {b:Nat} {c:Int} {x:α} {K:List α→Option ρ} (hc:(b:Int)=c) (h:(Zl5 b i x).bind K=some r):∃ zs,0≤i∧c * i≤140737488355328∧i≤140737488355328∧zs=List.replicate i.toNat x∧K zs=some r:=by
 subst hc;exact bM h
end Go.Proofs.Ytibgpnmmgffgeaa
