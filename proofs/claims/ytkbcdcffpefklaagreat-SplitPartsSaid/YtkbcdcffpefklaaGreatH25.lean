/- Part H25 of the ghost memory: lemmas and contracts used by the proofs of this seat's laws; each theorem bears its own conditions. -/
import Derived.Test.YtkbcdcffpefklaaGreatH22
namespace Go.Proofs.YtkbcdcffpefklaaGreat
open Go.RowKit
set_option linter.unusedVariables false
set_option linter.unusedSimpArgs false
section
variable {P:Program} {T:K4}
inductive FT where
 | seq (L:List Nat)
 | one (i:Nat) (a:FT)
 | alt (i:Nat) (a:FT) (r:FT)
def Yi7 (ops:List Oper) (M:List Nat) (k:Nat):Prop:=∃ l∈M,l∈(Zgg ops []).getD k []
def Z4n:FT→List (Nat×FT)
 | .seq _=>[]
 | .one i a=>[(i,a)]
 | .alt i a r=>(i,a)::Z4n r
def Yf9 (ops:List Oper) (S:List Nat) (t:FT) (M:List Nat):Prop:=(∃ L,t = .seq L)∨∀ k∈M++S,k∈(Z4n t).map (·.1)∨Yi7 ops M k
def OkA (ops:List Oper) (ks:List Kd) (Pl S:List Nat):FT→List Nat→Prop
 | .seq L,M=>L.Perm M∧(Pl++(L++S)).Pairwise (fun j i=>Ziq ops ks j i=true)
 | .one i a,M=>i∈M∧(∀ p∈Pl,Ziq ops ks p i=true)∧Yf9 ops S a (M.erase i)∧OkA ops ks Pl S a (M.erase i)
 | .alt i a r,M=>(i∈M∧(∀ p∈Pl,Ziq ops ks p i=true)∧Yf9 ops S a (M.erase i)∧OkA ops ks Pl S a (M.erase i))∧OkA ops ks Pl S r M
def OkT (ops:List Oper) (ks:List Kd) (Pl S:List Nat) (t:FT) (M:List Nat):Prop:=Yf9 ops S t M∧OkA ops ks Pl S t M
theorem OkA.sub {ops:List Oper} {ks:List Kd} {Pl Pl' S:List Nat} (hs:Pl'.Sublist Pl):∀ (t:FT) (M:List Nat),OkA ops ks Pl S t M→OkA ops ks Pl' S t M
 | .seq L,M,h=>⟨h.1,h.2.sublist (hs.append (List.Sublist.refl _))⟩
 | .one i a,M,h=>⟨h.1,fun p hp=>h.2.1 p (hs.subset hp),h.2.2.1,OkA.sub hs a _ h.2.2.2⟩
 | .alt i a r,M,h=>⟨⟨h.1.1,fun p hp=>h.1.2.1 p (hs.subset hp),h.1.2.2.1,OkA.sub hs a _ h.1.2.2.2⟩,OkA.sub hs r _ h.2⟩
theorem OkT.sub {ops:List Oper} {ks:List Kd} {Pl Pl' S:List Nat} (hs:Pl'.Sublist Pl) (t:FT) (M:List Nat) (h:OkT ops ks Pl S t M):OkT ops ks Pl' S t M:=⟨h.1,OkA.sub hs t M h.2⟩
theorem OkA.mem {ops:List Oper} {ks:List Kd} {Pl S M:List Nat} {i:Nat} {a:FT}:∀ (t:FT),OkA ops ks Pl S t M→(i,a)∈Z4n t→i∈M∧(∀ p∈Pl,Ziq ops ks p i=true)∧OkT ops ks Pl S a (M.erase i)
 | .seq L,_,h=>by cases h
 | .one x b,k,h=>by
  simp only [Z4n,List.mem_singleton,Prod.mk.injEq] at h
  obtain ⟨rfl,rfl⟩:=h
  exact ⟨k.1,k.2.1,k.2.2.1,k.2.2.2⟩
 | .alt x b r,k,h=>by
  simp only [Z4n,List.mem_cons,Prod.mk.injEq] at h
  rcases h with ⟨rfl,rfl⟩ | h
  ·exact ⟨k.1.1,k.1.2.1,k.1.2.2.1,k.1.2.2.2⟩
  exact OkA.mem r k.2 h
def prT (P:Program) (T:K4) (ops:List Oper) (ks:List Kd) (n0:Nat→Prop) (S:List Nat) (K:GK):FT→GK
 | .seq L=>fun E O n=>Qa P T ops n0 ((L++S).map (Zhq ks)) [] (U6 ops (L++S)) E O n K
 | .one i a=>fun E O n=>Qa P T ops n0 [Zhq ks i] [] (U6 ops [i]) E O n (prT P T ops ks n0 S K a)
 | .alt i a r=>fun E O n=>Qa P T ops n0 [Zhq ks i] [] (U6 ops [i]) E O n (prT P T ops ks n0 S K a)∧prT P T ops ks n0 S K r E O n
end
end Go.Proofs.YtkbcdcffpefklaaGreat
