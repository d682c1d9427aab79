/- Part H25 of the ghost memory: lemmas and contracts used by the proofs of this seat's laws; each theorem bears its own conditions. -/
import Derived.Test.YtocpndlnbmjpmaaH22
namespace Go.Proofs.Ytocpndlnbmjpmaa
open Go.RowKit
set_option linter.unusedVariables false
set_option linter.unusedSimpArgs false
section
variable {P:Program} {T:gZ}
inductive FT where
 | seq (L:List Nat)
 | one (i:Nat) (a:FT)
 | alt (i:Nat) (a:FT) (r:FT)
def Zl3 (P:Program) (T:gZ) (ops:List Oper) (ks:List Kd) (n0:Nat→Prop) (S:List Nat) (K:GK):FT→GK
 | .seq L=>fun E O n=>lA P T ops ks n0 (L++S) E O n K
 | .one i a=>fun E O n=>lA P T ops ks n0 [i] E O n (Zl3 P T ops ks n0 S K a)
 | .alt i a r=>fun E O n=>lA P T ops ks n0 [i] E O n (Zl3 P T ops ks n0 S K a)∧Zl3 P T ops ks n0 S K r E O n
theorem Zbu {ops:List Oper} {ks:List Kd} {n0:Nat→Prop} {S:List Nat} {K:GK} (hK:EqK K):∀ t:FT,EqK (Zl3 P T ops ks n0 S K t)
 | .seq L=>qH hK (L++S)
 | .one i a=>qH (Zbu hK a) [i]
 | .alt i a r=>fun E E' O n hE h=>⟨qH (Zbu hK a) [i] E E' O n hE h.1,Zbu hK r E E' O n hE h.2⟩
def Z76 (ops:List Oper) (M:List Nat) (k:Nat):Prop:=∃ l∈M,l∈(oB ops []).getD k []
def nR:FT→List (Nat×FT)
 | .seq _=>[]
 | .one i a=>[(i,a)]
 | .alt i a r=>(i,a)::nR r
def Zy9 (ops:List Oper) (S:List Nat) (t:FT) (M:List Nat):Prop:=(∃ L,t = .seq L)∨∀ k∈M++S,k∈(nR t).map (·.1)∨Z76 ops M k
def OkA (ops:List Oper) (ks:List Kd) (Pl S:List Nat):FT→List Nat→Prop
 | .seq L,M=>L.Perm M∧(Pl++(L++S)).Pairwise (fun j i=>gG ops ks j i=true)
 | .one i a,M=>i∈M∧(∀ p∈Pl,gG ops ks p i=true)∧Zy9 ops S a (M.erase i)∧OkA ops ks Pl S a (M.erase i)
 | .alt i a r,M=>(i∈M∧(∀ p∈Pl,gG ops ks p i=true)∧Zy9 ops S a (M.erase i)∧OkA ops ks Pl S a (M.erase i))∧OkA ops ks Pl S r M
def OkT (ops:List Oper) (ks:List Kd) (Pl S:List Nat) (t:FT) (M:List Nat):Prop:=Zy9 ops S t M∧OkA ops ks Pl S t M
theorem OkA.sub {ops:List Oper} {ks:List Kd} {Pl Pl' S:List Nat} (hs:Pl'.Sublist Pl):∀ (t:FT) (M:List Nat),OkA ops ks Pl S t M→OkA ops ks Pl' S t M
 | .seq L,M,h=>⟨h.1,h.2.sublist (hs.append (List.Sublist.refl _))⟩
 | .one i a,M,h=>⟨h.1,fun p hp=>h.2.1 p (hs.subset hp),h.2.2.1,OkA.sub hs a _ h.2.2.2⟩
 | .alt i a r,M,h=>⟨⟨h.1.1,fun p hp=>h.1.2.1 p (hs.subset hp),h.1.2.2.1,OkA.sub hs a _ h.1.2.2.2⟩,OkA.sub hs r _ h.2⟩
theorem OkT.sub {ops:List Oper} {ks:List Kd} {Pl Pl' S:List Nat} (hs:Pl'.Sublist Pl) (t:FT) (M:List Nat) (h:OkT ops ks Pl S t M):OkT ops ks Pl' S t M:=⟨h.1,OkA.sub hs t M h.2⟩
def Z2i (ops:List Oper) (S:List Nat) (t:FT) (M:List Nat):Bool:=match t with
 | .seq _=>true
 | t=>(M++S).all fun k=>((nR t).map (·.1)).contains k || M.any fun l=>((oB ops []).getD k []).contains l
def okA (ops:List Oper) (ks:List Kd) (Pl S:List Nat):FT→List Nat→Bool
 | .seq L,M=>L.isPerm M && Zls ops ks (Pl++(L++S))
 | .one i a,M=>M.contains i && (Pl.all (fun p=>gG ops ks p i) && (Z2i ops S a (M.erase i) && okA ops ks Pl S a (M.erase i)))
 | .alt i a r,M=>(M.contains i && (Pl.all (fun p=>gG ops ks p i) && (Z2i ops S a (M.erase i) && okA ops ks Pl S a (M.erase i)))) && okA ops ks Pl S r M
def okT (ops:List Oper) (ks:List Kd) (Pl S:List Nat) (t:FT) (M:List Nat):Bool:=Z2i ops S t M && okA ops ks Pl S t M
theorem Zhp {ops:List Oper} {S:List Nat} {t:FT} {M:List Nat} (h:Z2i ops S t M=true):Zy9 ops S t M:=by
 have key:((M++S).all fun k=>((nR t).map (·.1)).contains k || M.any fun l=>((oB ops []).getD k []).contains l)=true→Zy9 ops S t M:=fun h=>by
  simp only [List.all_eq_true,Bool.or_eq_true,List.any_eq_true,List.contains_iff_mem] at h
  exact .inr h
 cases t with
 | seq L=>exact .inl ⟨L,rfl⟩
 | one i a=>exact key h
 | alt i a r=>exact key h
theorem Zfs {ops:List Oper} {ks:List Kd} {Pl S:List Nat}:∀ (t:FT) (M:List Nat),okA ops ks Pl S t M=true→OkA ops ks Pl S t M
 | .seq L,M,h=>by
  simp only [okA,Bool.and_eq_true] at h
  exact ⟨List.isPerm_iff.1 h.1,Zcz h.2⟩
 | .one i a,M,h=>by
  simp only [okA,Bool.and_eq_true,List.all_eq_true,List.contains_iff_mem] at h
  exact ⟨h.1,h.2.1,Zhp h.2.2.1,Zfs a _ h.2.2.2⟩
 | .alt i a r,M,h=>by
  simp only [okA,Bool.and_eq_true,List.all_eq_true,List.contains_iff_mem] at h
  exact ⟨⟨h.1.1,h.1.2.1,Zhp h.1.2.2.1,Zfs a _ h.1.2.2.2⟩,Zfs r _ h.2⟩
theorem Z0n {ops:List Oper} {ks:List Kd} {Pl S:List Nat} (t:FT) (M:List Nat) (h:okT ops ks Pl S t M=true):OkT ops ks Pl S t M:=by
 unfold okT at h
 rw [Bool.and_eq_true] at h
 exact ⟨Zhp h.1,Zfs t M h.2⟩
theorem Zr8 {ops:List Oper} {ks:List Kd} {n0:Nat→Prop} {S:List Nat} {K:GK} {i:Nat} {a:FT}:∀ (t:FT),(i,a)∈nR t→∀ E O n,Zl3 P T ops ks n0 S K t E O n→lA P T ops ks n0 [i] E O n (Zl3 P T ops ks n0 S K a)
 | .seq L,h=>by cases h
 | .one x b,h=>fun E O n q=>by
  simp only [nR,List.mem_singleton,Prod.mk.injEq] at h
  obtain ⟨rfl,rfl⟩:=h
  exact q
 | .alt x b r,h=>fun E O n q=>by
  simp only [nR,List.mem_cons,Prod.mk.injEq] at h
  rcases h with ⟨rfl,rfl⟩ | h
  ·exact q.1
  exact Zr8 r h E O n q.2
theorem OkA.mem {ops:List Oper} {ks:List Kd} {Pl S M:List Nat} {i:Nat} {a:FT}:∀ (t:FT),OkA ops ks Pl S t M→(i,a)∈nR t→i∈M∧(∀ p∈Pl,gG ops ks p i=true)∧OkT ops ks Pl S a (M.erase i)
 | .seq L,_,h=>by cases h
 | .one x b,k,h=>by
  simp only [nR,List.mem_singleton,Prod.mk.injEq] at h
  obtain ⟨rfl,rfl⟩:=h
  exact ⟨k.1,k.2.1,k.2.2.1,k.2.2.2⟩
 | .alt x b r,k,h=>by
  simp only [nR,List.mem_cons,Prod.mk.injEq] at h
  rcases h with ⟨rfl,rfl⟩ | h
  ·exact ⟨k.1.1,k.1.2.1,k.1.2.2.1,k.1.2.2.2⟩
  exact OkA.mem r k.2 h
theorem OkT.alts {ops:List Oper} {ks:List Kd} {Pl S M:List Nat} (t:FT) (hs:∀ L,t ≠ .seq L) (h:OkT ops ks Pl S t M):M≠[]∧(∀ k∈M++S,(∃ a,(k,a)∈nR t)∨Z76 ops M k)∧∀ i a,(i,a)∈nR t→i∈M∧(∀ p∈Pl,gG ops ks p i=true)∧OkT ops ks Pl S a (M.erase i):=by
 refine ⟨fun e => ?_,fun k hk => ?_,fun i a hi=>OkA.mem t h.2 hi⟩
 ·have:∃ x,x∈nR t:=by
   cases t with
   | seq L=>exact absurd rfl (hs L)
   | one i a=>exact ⟨_,.head _⟩
   | alt i a r=>exact ⟨_,.head _⟩
  obtain ⟨⟨i,a⟩,hx⟩:=this
  have:=(OkA.mem t h.2 hx).1
  rw [e] at this
  cases this
 rcases h.1 with ⟨L,q⟩ | q
 ·exact absurd q (hs L)
 rcases q k hk with q | q
 ·obtain ⟨x,hx,e⟩:=List.mem_map.1 q
  exact .inl ⟨x.2,by rw [← e];exact hx⟩
 exact .inr q
theorem Zyn (hT:Vd P T) {ops:List Oper} {ks:List Kd} {n0:Nat→Prop} {S:List Nat} (hb:∀ i o,ops[i]? = some o→∀ e∈o.after.toList,Region.binds .any e=true→e.on < i) {Q:Exit→Act→World→Prop} {K:GK} (hK:EqK K) :
  ∀ (fuel:Nat) (listed:Array Bool) (Pl M:List Nat) (t:FT) (w:World) (O:Objs) (m:Hands) (n:Nat) (E:Env) (a:Act),listed.size=ops.length→(∀ i,i∈Pl++(M++S)↔i < ops.length∧listed.getD i true=false)→(Pl++(M++S)).Nodup→Pl.Pairwise (fun j i=>gG ops ks j i=true)→OkT ops ks Pl S t M→(Pl++(M++S)).length≤fuel →
  (∀ i o,ops[i]? = some o→listed.getD i true=true→∀ e∈o.after.toList,Region.binds .any e=true→listed.getD e.on false=true) →
  lA P T ops ks n0 Pl E O n (Zl3 P T ops ks n0 S K t)→Mem w O m n→Holds w O m n E a →
  (∀ w' O' m' n' E' a',K E' O' n'→Mem w' O' m' n'→Holds w' O' m' n' E' a'→Ext w O m n w' O' m' n'→Q .normal a' w')→wpAny P .any ops.toArray Q fuel listed a w:=by
 have seqs:∀ (fuel:Nat) (listed:Array Bool) (Pl M L:List Nat) (w:World) (O:Objs) (m:Hands) (n:Nat) (E:Env) (a:Act),listed.size=ops.length→(∀ i,i∈Pl++(M++S)↔i < ops.length∧listed.getD i true=false)→(Pl++(M++S)).Nodup→OkT ops ks Pl S (.seq L) M→(Pl++(M++S)).length≤fuel →
   (∀ i o,ops[i]? = some o→listed.getD i true=true→∀ e∈o.after.toList,Region.binds .any e=true→listed.getD e.on false=true) →
   lA P T ops ks n0 Pl E O n (Zl3 P T ops ks n0 S K (.seq L))→Mem w O m n→Holds w O m n E a →
   (∀ w' O' m' n' E' a',K E' O' n'→Mem w' O' m' n'→Holds w' O' m' n' E' a'→Ext w O m n w' O' m' n'→Q .normal a' w')→wpAny P .any ops.toArray Q fuel listed a w:=fun fuel listed Pl M L w O m n E a hsz hmem hnd hok hlen hdown hrun hM hE hQ=>by
  obtain ⟨_,h1,h2⟩:=hok
  have hp:(Pl++(L++S)).Perm (Pl++(M++S)):=(h1.append_right S).append_left Pl
  exact mO hT hb hK fuel listed (Pl++(L++S)) w O m n E a hsz (fun i=>(hp.mem_iff).trans (hmem i)) (hp.nodup_iff.2 hnd) h2 (by rw [hp.length_eq];exact hlen) hdown (rC (L++S) Pl E O n hrun) hM hE hQ
 intro fuel
 induction fuel with
 | zero =>
  intro listed Pl M t w O m n E a hsz hmem hnd hpl hok hlen hdown hrun hM hE hQ
  by_cases hs:∃ L,t = .seq L
  ·obtain ⟨L,rfl⟩:=hs
   exact seqs 0 listed Pl M L w O m n E a hsz hmem hnd hok hlen hdown hrun hM hE hQ
  obtain ⟨h1,_⟩:=OkT.alts t (fun L e=>hs ⟨L,e⟩) hok
  cases M with
  | nil=>exact absurd rfl h1
  | cons x M=>simp at hlen
 | succ fuel ih =>
  intro listed Pl M t w O m n E a hsz hmem hnd hpl hok hlen hdown hrun hM hE hQ
  by_cases hs:∃ L,t = .seq L
  ·obtain ⟨L,rfl⟩:=hs
   exact seqs (fuel+1) listed Pl M L w O m n E a hsz hmem hnd hok hlen hdown hrun hM hE hQ
  obtain ⟨h1,h2,h3⟩:=OkT.alts t (fun L e=>hs ⟨L,e⟩) hok
  refine ⟨fun hnil => ?_,fun i hi => ?_⟩
  ·have hR:=Zh9 hb hsz hmem hnil
   cases M with
   | nil=>exact absurd rfl h1
   | cons x M=>simp at hR
  obtain ⟨o,ho,hil,hun,haft,notbef⟩:=Zd4 hb hsz hdown hi
  have hin:i < listed.size:=by omega
  have hiR:=(hmem i).2 ⟨hil,hun⟩
  have clear:∀ j,j∈Pl→gG ops ks j i=true→∀ z,ops[j]? = some z→gS ops o z=true∧kC (cC ks i) (cC ks j) z=true:=fun j hj hp z hjz=>by
   obtain ⟨hjl,hul⟩:=(hmem j).1 (List.mem_append.2 (.inl hj))
   unfold gG at hp
   simp only [ho,hjz,Bool.or_eq_true,Bool.and_eq_true,List.contains_iff_mem] at hp
   rcases hp with h | h
   ·exact h
   exact absurd h (notbef j hul hjl)
  rcases List.mem_append.1 hiR with hiP | hiT
  ·obtain ⟨P1,P2,rfl⟩:=List.append_of_mem hiP
   have hst:=mA (Zbu hK t) ho P2 P1 E O n hrun fun j hj z hjz=>clear j (List.mem_append.2 (.inl hj)) ((List.pairwise_append.1 hpl).2.2 j hj i (.head _)) z hjz
   have hsub:(P1++P2).Sublist (P1++i::P2):=List.Sublist.append_left (List.sublist_cons_self i _) P1
   refine wE hT ho hM hE hst fun w' O' m' n' E' a' hr hM' hE' hX => ?_
   have ea:∀ L:List Nat,(P1++i::P2)++L=P1++i::(P2++L):=fun L=>by simp
   have eb:∀ L:List Nat,(P1++P2)++L=P1++(P2++L):=fun L=>by simp
   rw [ea] at hmem hnd hlen
   refine ih _ (P1++P2) M t w' O' m' n' E' a' (by simpa using hsz) ?_ ?_ (hpl.sublist hsub) (OkT.sub hsub t M hok) ?_ (qT hin ho haft hdown) hr hM' hE' fun w2 O2 m2 n2 E2 a2 k0 k1 k2 k3=>hQ w2 O2 m2 n2 E2 a2 k0 k1 k2 (hX.trans k3)
   ·rw [eb];exact Zcw hin hmem hnd
   ·rw [eb];exact hnd.sublist (List.Sublist.append_left (List.sublist_cons_self i _) P1)
   rw [eb];simp at hlen ⊢;omega
  have hal:∃ a',(i,a')∈nR t:=by
   rcases h2 i hiT with h | ⟨l,hl,hlb⟩
   ·exact h
   obtain ⟨q1,q2⟩:=(hmem l).1 (List.mem_append.2 (.inr (List.mem_append.2 (.inl hl))))
   exact absurd hlb (notbef l q2 q1)
  obtain ⟨t',ht'⟩:=hal
  obtain ⟨q1,q2,q3⟩:=h3 i t' ht'
  obtain ⟨M1,M2,hni,e1,e2⟩:=List.exists_erase_eq q1
  have h':=rC [i] Pl E O n (eX (Zr8 t ht') Pl E O n hrun)
  have hst:=mA (Zbu hK t') ho [] Pl E O n h' fun j hj z hjz=>clear j hj (q2 j hj) z hjz
  refine wE hT ho hM hE hst fun w' O' m' n' E' a' hr hM' hE' hX => ?_
  rw [List.append_nil] at hr
  subst e1
  have ea:Pl++(M1++i::M2++S)=(Pl++M1)++i::(M2++S):=by simp
  have eb:Pl++(M1++M2++S)=(Pl++M1)++(M2++S):=by simp
  rw [ea] at hmem hnd hlen
  rw [e2] at q3
  refine ih _ Pl (M1++M2) t' w' O' m' n' E' a' (by simpa using hsz) ?_ ?_ hpl q3 ?_ (qT hin ho haft hdown) hr hM' hE' fun w2 O2 m2 n2 E2 a2 k0 k1 k2 k3=>hQ w2 O2 m2 n2 E2 a2 k0 k1 k2 (hX.trans k3)
  ·rw [eb];exact Zcw hin hmem hnd
  ·rw [eb];exact hnd.sublist (List.Sublist.append_left (List.sublist_cons_self i _) (Pl++M1))
  rw [eb];simp at hlen ⊢;omega
def prT (P:Program) (T:gZ) (ops:List Oper) (ks:List Kd) (n0:Nat→Prop) (S:List Nat) (K:GK):FT→GK
 | .seq L=>fun E O n=>Kb P T ops n0 ((L++S).map (cC ks)) [] (G8 ops (L++S)) E O n K
 | .one i a=>fun E O n=>Kb P T ops n0 [cC ks i] [] (G8 ops [i]) E O n (prT P T ops ks n0 S K a)
 | .alt i a r=>fun E O n=>Kb P T ops n0 [cC ks i] [] (G8 ops [i]) E O n (prT P T ops ks n0 S K a)∧prT P T ops ks n0 S K r E O n
def ltT (k:Nat):FT→Bool
 | .seq L=>L.all fun i=>decide (i < k)
 | .one i a=>decide (i < k) && ltT k a
 | .alt i a r=>(decide (i < k) && ltT k a) && ltT k r
theorem Zjx {ops:List Oper} {ks:List Kd} {n0:Nat→Prop} {S:List Nat} {K:GK} (hS:∀ i∈S,i < ops.length):∀ (t:FT),ltT ops.length t=true→∀ E O n,prT P T ops ks n0 S K t E O n→Zl3 P T ops ks n0 S K t E O n
 | .seq L,h=>fun E O n q=>by
  simp only [ltT,List.all_eq_true,decide_eq_true_eq] at h
  exact yA _ (L++S) _ [] E O n (qD fun i hi=>(List.mem_append.1 hi).elim (h i) (hS i)) rfl q
 | .one i a,h=>fun E O n q=>by
  simp only [ltT,Bool.and_eq_true,decide_eq_true_eq] at h
  exact eX (Zjx hS a h.2) _ _ _ _ (yA _ [i] _ [] E O n (qD fun k hk=>by rw [List.mem_singleton.1 hk];exact h.1) rfl q)
 | .alt i a r,h=>fun E O n q=>by
  simp only [ltT,Bool.and_eq_true,decide_eq_true_eq] at h
  exact ⟨eX (Zjx hS a h.1.2) _ _ _ _ (yA _ [i] _ [] E O n (qD fun k hk=>by rw [List.mem_singleton.1 hk];exact h.1.1) rfl q.1),Zjx hS r h.2 E O n q.2⟩
theorem Zed {ba:Nat} (hT:Vd P T) (hm:P.follows .mixedOrders=true) (ks:List Kd) (n0:Nat→Prop) (Pl M S:List Nat) (t:FT) (kp:List Kd) (ds:List (Option Bool)) {id:Nat} {ops:Array Oper} {O:Objs} {n:Nat} {E:Env} {Q:GQ}
  (h1:(Zhk ops.toList && Zd1 (Pl++(M++S)) ops.toList.length && Zls ops.toList ks Pl && okT ops.toList ks Pl S t M && ltT ops.toList.length t)=true) (e1:Pl.map (cC ks)=kp)
  (h:Kb P T ops.toList n0 kp ds (G8 ops.toList Pl) E O n (prT P T ops.toList ks n0 S (Q .normal) t)):W P ba (.region id ops true) Q E O n:=fun hb w m a hM hE=>by
 rw [Bool.and_eq_true,Bool.and_eq_true,Bool.and_eq_true,Bool.and_eq_true] at h1
 obtain ⟨⟨⟨⟨b1,b2⟩,b3⟩,b4⟩,b5⟩:=h1
 obtain ⟨c1,c2,c3⟩:=jW b2
 subst e1
 have hlt:∀ i∈Pl++(M++S),i < ops.toList.length:=fun i hi=>((c1 i).1 hi).1
 have hp:Pl.map (ops.toList[·]?)=(G8 ops.toList Pl).map some:=qD fun i hi=>hlt i (List.mem_append.2 (.inl hi))
 have up:∀ t E O n,Zl3 P T ops.toList ks n0 S (Q .normal) t E O n→Zl3 P T ops.toList ks n0 S (fun E' O' n'=>∃ E0,EqE E' E0∧Q .normal E0 O' n') t E O n:=fun t=>by
  induction t with
  | seq L=>exact fun E O n q=>eX (fun E O n hk=>⟨E,EqE.refl E,hk⟩) _ _ _ _ q
  | one i a ih=>exact fun E O n q=>eX ih _ _ _ _ q
  | alt i a r ih1 ih2=>exact fun E O n q=>⟨eX ih1 _ _ _ _ q.1,ih2 E O n q.2⟩
 have hr:=eX (fun E O n q=>up t E O n (Zjx (fun i hi=>hlt i (List.mem_append.2 (.inr (List.mem_append.2 (.inr hi))))) t b5 E O n q)) _ _ _ _ (yA _ Pl _ ds E O n hp rfl h)
 have hK:EqK fun E' O' n'=>∃ E0,EqE E' E0∧Q .normal E0 O' n':=fun E1 E2 O n hE ⟨E0,h1,h2⟩=>⟨E0,EqE.trans ⟨hE.1.symm,fun t=>(hE.2 t).symm⟩ h1,h2⟩
 refine wp_region_any hm ?_
 have hX:Ext w O m n { w with drawn:=w.drawn+1 } O m n:=⟨rfl,rfl,rfl,Nat.le_refl _,Nat.le_refl _,fun b _ ho=>⟨rfl,ho⟩,fun i _ o ho=>⟨o,ho,rfl,Nat.le_refl _,fun _=>rfl⟩⟩
 have hM':Mem { w with drawn:=w.drawn+1 } O m n:=⟨hM.fresh,fun i o hi=>oE hM hi hX fun _ _=>rfl,hM.apart⟩
 have e:ops.toList.toArray=ops:=by simp
 have hz:∀ i,(Array.replicate ops.size false).getD i true=true→¬ i < ops.size:=fun i h hi=>by simp [Array.getD,hi] at h
 have hlen:(Pl++(M++S)).length≤ops.size:=by simpa using c3
 have key:=Zyn hT (Zhl b1) (Q:=lift w O m ba Q) hK ops.size (Array.replicate ops.size false) Pl M t { w with drawn:=w.drawn+1 } O m n E a (by simp) (by simpa using c1) c2 (Zcz b3) (Z0n t M b4) hlen (fun i o ho hl=>absurd (by
   rcases Nat.lt_or_ge i ops.toList.length with h | h
   ·simpa using h
   rw [List.getElem?_eq_none h] at ho;cases ho) (hz i hl)) hr hM' (hE.ext hX)
  fun w' O' m' n' E' a' ⟨E0,k0,k1⟩ k2 k3 k4=>⟨E0,O',n',m',k1,k2,k3.eqE k0,(hX.trans k4).base hb⟩
 rw [e] at key
 exact key
end
end Go.Proofs.Ytocpndlnbmjpmaa
