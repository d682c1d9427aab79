/- Part H25 of the ghost memory: lemmas and contracts used by the proofs of this seat's laws; each theorem bears its own conditions. -/
import Derived.Test.YtibgpnmmgffgeaaH22
namespace Go.Proofs.Ytibgpnmmgffgeaa
open Go.RowKit
set_option linter.unusedVariables false
set_option linter.unusedSimpArgs false
section
variable {P:Program} {T:Kv}
inductive FT where
 | seq (L:List Nat)
 | one (i:Nat) (a:FT)
 | alt (i:Nat) (a:FT) (r:FT)
def Zv4 (P:Program) (T:Kv) (ops:List Oper) (ks:List Kd) (n0:Nat→Prop) (S:List Nat) (K:GK):FT→GK
 | .seq L=>fun E O n=>Zc4 P T ops ks n0 (L++S) E O n K
 | .one i a=>fun E O n=>Zc4 P T ops ks n0 [i] E O n (Zv4 P T ops ks n0 S K a)
 | .alt i a r=>fun E O n=>Zc4 P T ops ks n0 [i] E O n (Zv4 P T ops ks n0 S K a)∧Zv4 P T ops ks n0 S K r E O n
theorem Zmm {ops:List Oper} {ks:List Kd} {n0:Nat→Prop} {S:List Nat} {K:GK} (hK:EqK K):∀ t:FT,EqK (Zv4 P T ops ks n0 S K t)
 | .seq L=>Zhm hK (L++S)
 | .one i a=>Zhm (Zmm hK a) [i]
 | .alt i a r=>fun E E' O n hE h=>⟨Zhm (Zmm hK a) [i] E E' O n hE h.1,Zmm hK r E E' O n hE h.2⟩
def Yg9 (ops:List Oper) (M:List Nat) (k:Nat):Prop:=∃ l∈M,l∈(Zei ops []).getD k []
def Zi7:FT→List (Nat×FT)
 | .seq _=>[]
 | .one i a=>[(i,a)]
 | .alt i a r=>(i,a)::Zi7 r
def Z9r (ops:List Oper) (S:List Nat) (t:FT) (M:List Nat):Prop:=(∃ L,t = .seq L)∨∀ k∈M++S,k∈(Zi7 t).map (·.1)∨Yg9 ops M k
def OkA (ops:List Oper) (ks:List Kd) (Pl S:List Nat):FT→List Nat→Prop
 | .seq L,M=>L.Perm M∧(Pl++(L++S)).Pairwise (fun j i=>Zbz ops ks j i=true)
 | .one i a,M=>i∈M∧(∀ p∈Pl,Zbz ops ks p i=true)∧Z9r ops S a (M.erase i)∧OkA ops ks Pl S a (M.erase i)
 | .alt i a r,M=>(i∈M∧(∀ p∈Pl,Zbz ops ks p i=true)∧Z9r ops S a (M.erase i)∧OkA ops ks Pl S a (M.erase i))∧OkA ops ks Pl S r M
def OkT (ops:List Oper) (ks:List Kd) (Pl S:List Nat) (t:FT) (M:List Nat):Prop:=Z9r ops S t M∧OkA ops ks Pl S t M
theorem OkA.sub {ops:List Oper} {ks:List Kd} {Pl Pl' S:List Nat} (hs:Pl'.Sublist Pl):∀ (t:FT) (M:List Nat),OkA ops ks Pl S t M→OkA ops ks Pl' S t M
 | .seq L,M,h=>⟨h.1,h.2.sublist (hs.append (List.Sublist.refl _))⟩
 | .one i a,M,h=>⟨h.1,fun p hp=>h.2.1 p (hs.subset hp),h.2.2.1,OkA.sub hs a _ h.2.2.2⟩
 | .alt i a r,M,h=>⟨⟨h.1.1,fun p hp=>h.1.2.1 p (hs.subset hp),h.1.2.2.1,OkA.sub hs a _ h.1.2.2.2⟩,OkA.sub hs r _ h.2⟩
theorem OkT.sub {ops:List Oper} {ks:List Kd} {Pl Pl' S:List Nat} (hs:Pl'.Sublist Pl) (t:FT) (M:List Nat) (h:OkT ops ks Pl S t M):OkT ops ks Pl' S t M:=⟨h.1,OkA.sub hs t M h.2⟩
def Ydb (ops:List Oper) (S:List Nat) (t:FT) (M:List Nat):Bool:=match t with
 | .seq _=>true
 | t=>(M++S).all fun k=>((Zi7 t).map (·.1)).contains k || M.any fun l=>((Zei ops []).getD k []).contains l
def okA (ops:List Oper) (ks:List Kd) (Pl S:List Nat):FT→List Nat→Bool
 | .seq L,M=>L.isPerm M && Zvv ops ks (Pl++(L++S))
 | .one i a,M=>M.contains i && (Pl.all (fun p=>Zbz ops ks p i) && (Ydb ops S a (M.erase i) && okA ops ks Pl S a (M.erase i)))
 | .alt i a r,M=>(M.contains i && (Pl.all (fun p=>Zbz ops ks p i) && (Ydb ops S a (M.erase i) && okA ops ks Pl S a (M.erase i)))) && okA ops ks Pl S r M
def okT (ops:List Oper) (ks:List Kd) (Pl S:List Nat) (t:FT) (M:List Nat):Bool:=Ydb ops S t M && okA ops ks Pl S t M
theorem Zrf {ops:List Oper} {S:List Nat} {t:FT} {M:List Nat} (h:Ydb ops S t M=true):Z9r ops S t M:=by
 have key:((M++S).all fun k=>((Zi7 t).map (·.1)).contains k || M.any fun l=>((Zei ops []).getD k []).contains l)=true→Z9r ops S t M:=fun h=>by
  simp only [List.all_eq_true,Bool.or_eq_true,List.any_eq_true,List.contains_iff_mem] at h
  exact .inr h
 cases t with
 | seq L=>exact .inl ⟨L,rfl⟩
 | one i a=>exact key h
 | alt i a r=>exact key h
theorem Zpr {ops:List Oper} {ks:List Kd} {Pl S:List Nat}:∀ (t:FT) (M:List Nat),okA ops ks Pl S t M=true→OkA ops ks Pl S t M
 | .seq L,M,h=>by
  simp only [okA,Bool.and_eq_true] at h
  exact ⟨List.isPerm_iff.1 h.1,Zm3 h.2⟩
 | .one i a,M,h=>by
  simp only [okA,Bool.and_eq_true,List.all_eq_true,List.contains_iff_mem] at h
  exact ⟨h.1,h.2.1,Zrf h.2.2.1,Zpr a _ h.2.2.2⟩
 | .alt i a r,M,h=>by
  simp only [okA,Bool.and_eq_true,List.all_eq_true,List.contains_iff_mem] at h
  exact ⟨⟨h.1.1,h.1.2.1,Zrf h.1.2.2.1,Zpr a _ h.1.2.2.2⟩,Zpr r _ h.2⟩
theorem Yav {ops:List Oper} {ks:List Kd} {Pl S:List Nat} (t:FT) (M:List Nat) (h:okT ops ks Pl S t M=true):OkT ops ks Pl S t M:=by
 unfold okT at h
 rw [Bool.and_eq_true] at h
 exact ⟨Zrf h.1,Zpr t M h.2⟩
theorem Z3i {ops:List Oper} {ks:List Kd} {n0:Nat→Prop} {S:List Nat} {K:GK} {i:Nat} {a:FT}:∀ (t:FT),(i,a)∈Zi7 t→∀ E O n,Zv4 P T ops ks n0 S K t E O n→Zc4 P T ops ks n0 [i] E O n (Zv4 P T ops ks n0 S K a)
 | .seq L,h=>by cases h
 | .one x b,h=>fun E O n q=>by
  simp only [Zi7,List.mem_singleton,Prod.mk.injEq] at h
  obtain ⟨rfl,rfl⟩:=h
  exact q
 | .alt x b r,h=>fun E O n q=>by
  simp only [Zi7,List.mem_cons,Prod.mk.injEq] at h
  rcases h with ⟨rfl,rfl⟩ | h
  ·exact q.1
  exact Z3i r h E O n q.2
theorem OkA.mem {ops:List Oper} {ks:List Kd} {Pl S M:List Nat} {i:Nat} {a:FT}:∀ (t:FT),OkA ops ks Pl S t M→(i,a)∈Zi7 t→i∈M∧(∀ p∈Pl,Zbz ops ks p i=true)∧OkT ops ks Pl S a (M.erase i)
 | .seq L,_,h=>by cases h
 | .one x b,k,h=>by
  simp only [Zi7,List.mem_singleton,Prod.mk.injEq] at h
  obtain ⟨rfl,rfl⟩:=h
  exact ⟨k.1,k.2.1,k.2.2.1,k.2.2.2⟩
 | .alt x b r,k,h=>by
  simp only [Zi7,List.mem_cons,Prod.mk.injEq] at h
  rcases h with ⟨rfl,rfl⟩ | h
  ·exact ⟨k.1.1,k.1.2.1,k.1.2.2.1,k.1.2.2.2⟩
  exact OkA.mem r k.2 h
theorem OkT.alts {ops:List Oper} {ks:List Kd} {Pl S M:List Nat} (t:FT) (hs:∀ L,t ≠ .seq L) (h:OkT ops ks Pl S t M):M≠[]∧(∀ k∈M++S,(∃ a,(k,a)∈Zi7 t)∨Yg9 ops M k)∧∀ i a,(i,a)∈Zi7 t→i∈M∧(∀ p∈Pl,Zbz ops ks p i=true)∧OkT ops ks Pl S a (M.erase i):=by
 refine ⟨fun e => ?_,fun k hk => ?_,fun i a hi=>OkA.mem t h.2 hi⟩
 ·have:∃ x,x∈Zi7 t:=by
   cases t with
   | seq L=>exact absurd rfl (hs L)
   | one i a=>exact ⟨_,.head _⟩
   | alt i a r=>exact ⟨_,.head _⟩
  obtain ⟨⟨i,a⟩,hx⟩:=this
  have:=(OkA.mem t h.2 hx).1
  rw [e] at this
  cases this
 rcases h.1 with ⟨L,q⟩ | q
 ·exact absurd q (hs L)
 rcases q k hk with q | q
 ·obtain ⟨x,hx,e⟩:=List.mem_map.1 q
  exact .inl ⟨x.2,by rw [← e];exact hx⟩
 exact .inr q
theorem Z9f (hT:Qo P T) {ops:List Oper} {ks:List Kd} {n0:Nat→Prop} {S:List Nat} (hb:∀ i o,ops[i]? = some o→∀ e∈o.after.toList,Region.binds .any e=true→e.on < i) {Q:Exit→Act→World→Prop} {K:GK} (hK:EqK K) :
  ∀ (fuel:Nat) (listed:Array Bool) (Pl M:List Nat) (t:FT) (w:World) (O:Objs) (m:Hands) (n:Nat) (E:Env) (a:Act),listed.size=ops.length→(∀ i,i∈Pl++(M++S)↔i < ops.length∧listed.getD i true=false)→(Pl++(M++S)).Nodup→Pl.Pairwise (fun j i=>Zbz ops ks j i=true)→OkT ops ks Pl S t M→(Pl++(M++S)).length≤fuel →
  (∀ i o,ops[i]? = some o→listed.getD i true=true→∀ e∈o.after.toList,Region.binds .any e=true→listed.getD e.on false=true) →
  Zc4 P T ops ks n0 Pl E O n (Zv4 P T ops ks n0 S K t)→Mem w O m n→Holds w O m n E a →
  (∀ w' O' m' n' E' a',K E' O' n'→Mem w' O' m' n'→Holds w' O' m' n' E' a'→Ext w O m n w' O' m' n'→Q .normal a' w')→wpAny P .any ops.toArray Q fuel listed a w:=by
 have seqs:∀ (fuel:Nat) (listed:Array Bool) (Pl M L:List Nat) (w:World) (O:Objs) (m:Hands) (n:Nat) (E:Env) (a:Act),listed.size=ops.length→(∀ i,i∈Pl++(M++S)↔i < ops.length∧listed.getD i true=false)→(Pl++(M++S)).Nodup→OkT ops ks Pl S (.seq L) M→(Pl++(M++S)).length≤fuel →
   (∀ i o,ops[i]? = some o→listed.getD i true=true→∀ e∈o.after.toList,Region.binds .any e=true→listed.getD e.on false=true) →
   Zc4 P T ops ks n0 Pl E O n (Zv4 P T ops ks n0 S K (.seq L))→Mem w O m n→Holds w O m n E a →
   (∀ w' O' m' n' E' a',K E' O' n'→Mem w' O' m' n'→Holds w' O' m' n' E' a'→Ext w O m n w' O' m' n'→Q .normal a' w')→wpAny P .any ops.toArray Q fuel listed a w:=fun fuel listed Pl M L w O m n E a hsz hmem hnd hok hlen hdown hrun hM hE hQ=>by
  obtain ⟨_,h1,h2⟩:=hok
  have hp:(Pl++(L++S)).Perm (Pl++(M++S)):=(h1.append_right S).append_left Pl
  exact Zkj hT hb hK fuel listed (Pl++(L++S)) w O m n E a hsz (fun i=>(hp.mem_iff).trans (hmem i)) (hp.nodup_iff.2 hnd) h2 (by rw [hp.length_eq];exact hlen) hdown (Ze5 (L++S) Pl E O n hrun) hM hE hQ
 intro fuel
 induction fuel with
 | zero =>
  intro listed Pl M t w O m n E a hsz hmem hnd hpl hok hlen hdown hrun hM hE hQ
  by_cases hs:∃ L,t = .seq L
  ·obtain ⟨L,rfl⟩:=hs
   exact seqs 0 listed Pl M L w O m n E a hsz hmem hnd hok hlen hdown hrun hM hE hQ
  obtain ⟨h1,_⟩:=OkT.alts t (fun L e=>hs ⟨L,e⟩) hok
  cases M with
  | nil=>exact absurd rfl h1
  | cons x M=>simp at hlen
 | succ fuel ih =>
  intro listed Pl M t w O m n E a hsz hmem hnd hpl hok hlen hdown hrun hM hE hQ
  by_cases hs:∃ L,t = .seq L
  ·obtain ⟨L,rfl⟩:=hs
   exact seqs (fuel+1) listed Pl M L w O m n E a hsz hmem hnd hok hlen hdown hrun hM hE hQ
  obtain ⟨h1,h2,h3⟩:=OkT.alts t (fun L e=>hs ⟨L,e⟩) hok
  refine ⟨fun hnil => ?_,fun i hi => ?_⟩
  ·have hR:=Zr9 hb hsz hmem hnil
   cases M with
   | nil=>exact absurd rfl h1
   | cons x M=>simp at hR
  obtain ⟨o,ho,hil,hun,haft,notbef⟩:=Zot hb hsz hdown hi
  have hin:i < listed.size:=by omega
  have hiR:=(hmem i).2 ⟨hil,hun⟩
  have clear:∀ j,j∈Pl→Zbz ops ks j i=true→∀ z,ops[j]? = some z→Zje ops o z=true∧Ze0 (Zff ks i) (Zff ks j) z=true:=fun j hj hp z hjz=>by
   obtain ⟨hjl,hul⟩:=(hmem j).1 (List.mem_append.2 (.inl hj))
   unfold Zbz at hp
   simp only [ho,hjz,Bool.or_eq_true,Bool.and_eq_true,List.contains_iff_mem] at hp
   rcases hp with h | h
   ·exact h
   exact absurd h (notbef j hul hjl)
  rcases List.mem_append.1 hiR with hiP | hiT
  ·obtain ⟨P1,P2,rfl⟩:=List.append_of_mem hiP
   have hst:=Zc5 (Zmm hK t) ho P2 P1 E O n hrun fun j hj z hjz=>clear j (List.mem_append.2 (.inl hj)) ((List.pairwise_append.1 hpl).2.2 j hj i (.head _)) z hjz
   have hsub:(P1++P2).Sublist (P1++i::P2):=List.Sublist.append_left (List.sublist_cons_self i _) P1
   refine Zgo hT ho hM hE hst fun w' O' m' n' E' a' hr hM' hE' hX => ?_
   have ea:∀ L:List Nat,(P1++i::P2)++L=P1++i::(P2++L):=fun L=>by simp
   have eb:∀ L:List Nat,(P1++P2)++L=P1++(P2++L):=fun L=>by simp
   rw [ea] at hmem hnd hlen
   refine ih _ (P1++P2) M t w' O' m' n' E' a' (by simpa using hsz) ?_ ?_ (hpl.sublist hsub) (OkT.sub hsub t M hok) ?_ (Zj0 hin ho haft hdown) hr hM' hE' fun w2 O2 m2 n2 E2 a2 k0 k1 k2 k3=>hQ w2 O2 m2 n2 E2 a2 k0 k1 k2 (hX.trans k3)
   ·rw [eb];exact Zm0 hin hmem hnd
   ·rw [eb];exact hnd.sublist (List.Sublist.append_left (List.sublist_cons_self i _) P1)
   rw [eb];simp at hlen ⊢;omega
  have hal:∃ a',(i,a')∈Zi7 t:=by
   rcases h2 i hiT with h | ⟨l,hl,hlb⟩
   ·exact h
   obtain ⟨q1,q2⟩:=(hmem l).1 (List.mem_append.2 (.inr (List.mem_append.2 (.inl hl))))
   exact absurd hlb (notbef l q2 q1)
  obtain ⟨t',ht'⟩:=hal
  obtain ⟨q1,q2,q3⟩:=h3 i t' ht'
  obtain ⟨M1,M2,hni,e1,e2⟩:=List.exists_erase_eq q1
  have h':=Ze5 [i] Pl E O n (V0 (Z3i t ht') Pl E O n hrun)
  have hst:=Zc5 (Zmm hK t') ho [] Pl E O n h' fun j hj z hjz=>clear j hj (q2 j hj) z hjz
  refine Zgo hT ho hM hE hst fun w' O' m' n' E' a' hr hM' hE' hX => ?_
  rw [List.append_nil] at hr
  subst e1
  have ea:Pl++(M1++i::M2++S)=(Pl++M1)++i::(M2++S):=by simp
  have eb:Pl++(M1++M2++S)=(Pl++M1)++(M2++S):=by simp
  rw [ea] at hmem hnd hlen
  rw [e2] at q3
  refine ih _ Pl (M1++M2) t' w' O' m' n' E' a' (by simpa using hsz) ?_ ?_ hpl q3 ?_ (Zj0 hin ho haft hdown) hr hM' hE' fun w2 O2 m2 n2 E2 a2 k0 k1 k2 k3=>hQ w2 O2 m2 n2 E2 a2 k0 k1 k2 (hX.trans k3)
  ·rw [eb];exact Zm0 hin hmem hnd
  ·rw [eb];exact hnd.sublist (List.Sublist.append_left (List.sublist_cons_self i _) (Pl++M1))
  rw [eb];simp at hlen ⊢;omega
def prT (P:Program) (T:Kv) (ops:List Oper) (ks:List Kd) (n0:Nat→Prop) (S:List Nat) (K:GK):FT→GK
 | .seq L=>fun E O n=>X4 P T ops n0 ((L++S).map (Zff ks)) [] (Vy ops (L++S)) E O n K
 | .one i a=>fun E O n=>X4 P T ops n0 [Zff ks i] [] (Vy ops [i]) E O n (prT P T ops ks n0 S K a)
 | .alt i a r=>fun E O n=>X4 P T ops n0 [Zff ks i] [] (Vy ops [i]) E O n (prT P T ops ks n0 S K a)∧prT P T ops ks n0 S K r E O n
def ltT (k:Nat):FT→Bool
 | .seq L=>L.all fun i=>decide (i < k)
 | .one i a=>decide (i < k) && ltT k a
 | .alt i a r=>(decide (i < k) && ltT k a) && ltT k r
theorem Zto {ops:List Oper} {ks:List Kd} {n0:Nat→Prop} {S:List Nat} {K:GK} (hS:∀ i∈S,i < ops.length):∀ (t:FT),ltT ops.length t=true→∀ E O n,prT P T ops ks n0 S K t E O n→Zv4 P T ops ks n0 S K t E O n
 | .seq L,h=>fun E O n q=>by
  simp only [ltT,List.all_eq_true,decide_eq_true_eq] at h
  exact Zdw _ (L++S) _ [] E O n (Zfp fun i hi=>(List.mem_append.1 hi).elim (h i) (hS i)) rfl q
 | .one i a,h=>fun E O n q=>by
  simp only [ltT,Bool.and_eq_true,decide_eq_true_eq] at h
  exact V0 (Zto hS a h.2) _ _ _ _ (Zdw _ [i] _ [] E O n (Zfp fun k hk=>by rw [List.mem_singleton.1 hk];exact h.1) rfl q)
 | .alt i a r,h=>fun E O n q=>by
  simp only [ltT,Bool.and_eq_true,decide_eq_true_eq] at h
  exact ⟨V0 (Zto hS a h.1.2) _ _ _ _ (Zdw _ [i] _ [] E O n (Zfp fun k hk=>by rw [List.mem_singleton.1 hk];exact h.1.1) rfl q.1),Zto hS r h.2 E O n q.2⟩
theorem Yc7 {ba:Nat} (hT:Qo P T) (hm:P.follows .mixedOrders=true) (ks:List Kd) (n0:Nat→Prop) (Pl M S:List Nat) (t:FT) (kp:List Kd) (ds:List (Option Bool)) {id:Nat} {ops:Array Oper} {O:Objs} {n:Nat} {E:Env} {Q:GQ}
  (h1:(Zrb ops.toList && Zon (Pl++(M++S)) ops.toList.length && Zvv ops.toList ks Pl && okT ops.toList ks Pl S t M && ltT ops.toList.length t)=true) (e1:Pl.map (Zff ks)=kp)
  (h:X4 P T ops.toList n0 kp ds (Vy ops.toList Pl) E O n (prT P T ops.toList ks n0 S (Q .normal) t)):W P ba (.region id ops true) Q E O n:=fun hb w m a hM hE=>by
 rw [Bool.and_eq_true,Bool.and_eq_true,Bool.and_eq_true,Bool.and_eq_true] at h1
 obtain ⟨⟨⟨⟨b1,b2⟩,b3⟩,b4⟩,b5⟩:=h1
 obtain ⟨c1,c2,c3⟩:=Zkc b2
 subst e1
 have hlt:∀ i∈Pl++(M++S),i < ops.toList.length:=fun i hi=>((c1 i).1 hi).1
 have hp:Pl.map (ops.toList[·]?)=(Vy ops.toList Pl).map some:=Zfp fun i hi=>hlt i (List.mem_append.2 (.inl hi))
 have up:∀ t E O n,Zv4 P T ops.toList ks n0 S (Q .normal) t E O n→Zv4 P T ops.toList ks n0 S (fun E' O' n'=>∃ E0,EqE E' E0∧Q .normal E0 O' n') t E O n:=fun t=>by
  induction t with
  | seq L=>exact fun E O n q=>V0 (fun E O n hk=>⟨E,EqE.refl E,hk⟩) _ _ _ _ q
  | one i a ih=>exact fun E O n q=>V0 ih _ _ _ _ q
  | alt i a r ih1 ih2=>exact fun E O n q=>⟨V0 ih1 _ _ _ _ q.1,ih2 E O n q.2⟩
 have hr:=V0 (fun E O n q=>up t E O n (Zto (fun i hi=>hlt i (List.mem_append.2 (.inr (List.mem_append.2 (.inr hi))))) t b5 E O n q)) _ _ _ _ (Zdw _ Pl _ ds E O n hp rfl h)
 have hK:EqK fun E' O' n'=>∃ E0,EqE E' E0∧Q .normal E0 O' n':=fun E1 E2 O n hE ⟨E0,h1,h2⟩=>⟨E0,EqE.trans ⟨hE.1.symm,fun t=>(hE.2 t).symm⟩ h1,h2⟩
 refine wp_region_any hm ?_
 have hX:Ext w O m n { w with drawn:=w.drawn+1 } O m n:=⟨rfl,rfl,rfl,Nat.le_refl _,Nat.le_refl _,fun b _ ho=>⟨rfl,ho⟩,fun i _ o ho=>⟨o,ho,rfl,Nat.le_refl _,fun _=>rfl⟩⟩
 have hM':Mem { w with drawn:=w.drawn+1 } O m n:=⟨hM.fresh,fun i o hi=>Zgf hM hi hX fun _ _=>rfl,hM.apart⟩
 have e:ops.toList.toArray=ops:=by simp
 have hz:∀ i,(Array.replicate ops.size false).getD i true=true→¬ i < ops.size:=fun i h hi=>by simp [Array.getD,hi] at h
 have hlen:(Pl++(M++S)).length≤ops.size:=by simpa using c3
 have key:=Z9f hT (Zrc b1) (Q:=lift w O m ba Q) hK ops.size (Array.replicate ops.size false) Pl M t { w with drawn:=w.drawn+1 } O m n E a (by simp) (by simpa using c1) c2 (Zm3 b3) (Yav t M b4) hlen (fun i o ho hl=>absurd (by
   rcases Nat.lt_or_ge i ops.toList.length with h | h
   ·simpa using h
   rw [List.getElem?_eq_none h] at ho;cases ho) (hz i hl)) hr hM' (hE.ext hX)
  fun w' O' m' n' E' a' ⟨E0,k0,k1⟩ k2 k3 k4=>⟨E0,O',n',m',k1,k2,k3.eqE k0,(hX.trans k4).base hb⟩
 rw [e] at key
 exact key
end
end Go.Proofs.Ytibgpnmmgffgeaa
