/- Part H25 of the ghost memory: lemmas and contracts used by the proofs of this seat's laws; each theorem bears its own conditions. -/
import Derived.Test.YtfjkcekfifobpaaH22
import Derived.WalkKit
import Derived.WalkSpells
import Derived.WalkLawsBesides
import Derived.Lib.Hide
import Derived.BigQuiet
import Derived.StillTailTactics
import Derived.Deep.RegionHeld3
import Derived.Deep.AppendLies
import Derived.Laws.CopyOwn
import Derived.Deep.DeepCutAuto
import Derived.Deep.QuietTactic
import Derived.Maps.AppendAt
import Derived.Great.BuildSlice
import Derived.Laws.StructEq
import Derived.IntWalk
import Derived.ProofKit
import Derived.OpenShut
import Derived.SizedLaws
import Derived.Deep.Slices
namespace Go.Proofs.Ytfjkcekfifobpaa
open Go.RowKit
set_option linter.unusedVariables false
set_option linter.unusedSimpArgs false
section
variable {P:Program} {T:V3}
inductive FT where
 | seq (L:List Nat)
 | one (i:Nat) (a:FT)
 | two (i:Nat) (a:FT) (j:Nat) (b:FT)
def Z06 (P:Program) (T:V3) (ops:List Oper) (ks:List Kd) (n0:Nat→Prop) (S:List Nat) (K:GK):FT→GK
 | .seq L=>fun E O n=>Ze1 P T ops ks n0 (L++S) E O n K
 | .one i a=>fun E O n=>Ze1 P T ops ks n0 [i] E O n (Z06 P T ops ks n0 S K a)
 | .two i a j b=>fun E O n=>Ze1 P T ops ks n0 [i] E O n (Z06 P T ops ks n0 S K a)∧Ze1 P T ops ks n0 [j] E O n (Z06 P T ops ks n0 S K b)
theorem Zpp {ops:List Oper} {ks:List Kd} {n0:Nat→Prop} {S:List Nat} {K:GK} (hK:EqK K):∀ t:FT,EqK (Z06 P T ops ks n0 S K t)
 | .seq L=>Zh4 hK (L++S)
 | .one i a=>Zh4 (Zpp hK a) [i]
 | .two i a j b=>fun E E' O n hE h=>⟨Zh4 (Zpp hK a) [i] E E' O n hE h.1,Zh4 (Zpp hK b) [j] E E' O n hE h.2⟩
def Yhn (ops:List Oper) (M:List Nat) (k:Nat):Prop:=∃ l∈M,l∈(Zgc ops []).getD k []
def OkT (ops:List Oper) (ks:List Kd) (Pl S:List Nat):FT→List Nat→Prop
 | .seq L,M=>L.Perm M∧(Pl++(L++S)).Pairwise (fun j i=>Zdz ops ks j i=true)
 | .one i a,M=>i∈M∧(∀ k∈M++S,k=i∨Yhn ops M k)∧(∀ p∈Pl,Zdz ops ks p i=true)∧OkT ops ks Pl S a (M.erase i)
 | .two i a j b,M=>(i∈M∧j∈M)∧(∀ k∈M++S,k=i∨k=j∨Yhn ops M k)∧(∀ p∈Pl,Zdz ops ks p i=true∧Zdz ops ks p j=true)∧OkT ops ks Pl S a (M.erase i)∧OkT ops ks Pl S b (M.erase j)
theorem OkT.sub {ops:List Oper} {ks:List Kd} {Pl Pl' S:List Nat} (hs:Pl'.Sublist Pl):∀ (t:FT) (M:List Nat),OkT ops ks Pl S t M→OkT ops ks Pl' S t M
 | .seq L,M,h=>⟨h.1,h.2.sublist (hs.append (List.Sublist.refl _))⟩
 | .one i a,M,h=>⟨h.1,h.2.1,fun p hp=>h.2.2.1 p (hs.subset hp),OkT.sub hs a _ h.2.2.2⟩
 | .two i a j b,M,h=>⟨h.1,h.2.1,fun p hp=>h.2.2.1 p (hs.subset hp),OkT.sub hs a _ h.2.2.2.1,OkT.sub hs b _ h.2.2.2.2⟩
def okT (ops:List Oper) (ks:List Kd) (Pl S:List Nat):FT→List Nat→Bool
 | .seq L,M=>L.isPerm M && Z0z ops ks (Pl++(L++S))
 | .one i a,M=>M.contains i && ((M++S).all (fun k=>k == i || M.any fun l=>((Zgc ops []).getD k []).contains l) && (Pl.all (fun p=>Zdz ops ks p i) && okT ops ks Pl S a (M.erase i)))
 | .two i a j b,M=>(M.contains i && M.contains j) && ((M++S).all (fun k=>k == i || (k == j || M.any fun l=>((Zgc ops []).getD k []).contains l)) && (Pl.all (fun p=>Zdz ops ks p i && Zdz ops ks p j) && (okT ops ks Pl S a (M.erase i) && okT ops ks Pl S b (M.erase j))))
theorem Zta {ops:List Oper} {ks:List Kd} {Pl S:List Nat}:∀ (t:FT) (M:List Nat),okT ops ks Pl S t M=true→OkT ops ks Pl S t M
 | .seq L,M,h=>by
  simp only [okT,Bool.and_eq_true] at h
  exact ⟨List.isPerm_iff.1 h.1,Zqi h.2⟩
 | .one i a,M,h=>by
  simp only [okT,Bool.and_eq_true,List.all_eq_true,Bool.or_eq_true,beq_iff_eq,List.any_eq_true,List.contains_iff_mem] at h
  exact ⟨h.1,h.2.1,h.2.2.1,Zta a _ h.2.2.2⟩
 | .two i a j b,M,h=>by
  simp only [okT,Bool.and_eq_true,List.all_eq_true,Bool.or_eq_true,beq_iff_eq,List.any_eq_true,List.contains_iff_mem] at h
  exact ⟨h.1,h.2.1,h.2.2.1,Zta a _ h.2.2.2.1,Zta b _ h.2.2.2.2⟩
def Zoz:FT→List (Nat×FT)
 | .seq _=>[]
 | .one i a=>[(i,a)]
 | .two i a j b=>[(i,a),(j,b)]
theorem Yeo {ops:List Oper} {ks:List Kd} {n0:Nat→Prop} {S:List Nat} {K:GK} {i:Nat} {a:FT}:∀ (t:FT),(i,a)∈Zoz t→∀ E O n,Z06 P T ops ks n0 S K t E O n→Ze1 P T ops ks n0 [i] E O n (Z06 P T ops ks n0 S K a)
 | .seq L,h=>by cases h
 | .one x b,h=>fun E O n q=>by
  simp only [Zoz,List.mem_singleton,Prod.mk.injEq] at h
  obtain ⟨rfl,rfl⟩:=h
  exact q
 | .two x b y c,h=>fun E O n q=>by
  simp only [Zoz,List.mem_cons,List.not_mem_nil,or_false,Prod.mk.injEq] at h
  rcases h with ⟨rfl,rfl⟩ | ⟨rfl,rfl⟩
  ·exact q.1
  exact q.2
theorem OkT.alts {ops:List Oper} {ks:List Kd} {Pl S M:List Nat}:∀ (t:FT),(∀ L,t ≠ .seq L)→OkT ops ks Pl S t M→M≠[]∧(∀ k∈M++S,(∃ a,(k,a)∈Zoz t)∨Yhn ops M k)∧∀ i a,(i,a)∈Zoz t→i∈M∧(∀ p∈Pl,Zdz ops ks p i=true)∧OkT ops ks Pl S a (M.erase i)
 | .seq L,h,_=>absurd rfl (h L)
 | .one x b,_,h=>by
  obtain ⟨k1,k2,k3,k4⟩:=h
  refine ⟨fun e=>by rw [e] at k1;(cases k1),fun k hk=>(k2 k hk).imp (fun e=>⟨b,by rw [e];simp [Zoz]⟩) id,fun i a hi => ?_⟩
  simp only [Zoz,List.mem_singleton,Prod.mk.injEq] at hi
  obtain ⟨rfl,rfl⟩:=hi
  exact ⟨k1,k3,k4⟩
 | .two x b y c,_,h=>by
  obtain ⟨⟨k1,k1'⟩,k2,k3,k4,k5⟩:=h
  refine ⟨fun e=>by rw [e] at k1;(cases k1),fun k hk => ?_,fun i a hi => ?_⟩
  ·rcases k2 k hk with e | e | e
   ·exact .inl ⟨b,by rw [e];simp [Zoz]⟩
   ·exact .inl ⟨c,by rw [e];simp [Zoz]⟩
   exact .inr e
  simp only [Zoz,List.mem_cons,List.not_mem_nil,or_false,Prod.mk.injEq] at hi
  rcases hi with ⟨rfl,rfl⟩ | ⟨rfl,rfl⟩
  ·exact ⟨k1,fun p hp=>(k3 p hp).1,k4⟩
  exact ⟨k1',fun p hp=>(k3 p hp).2,k5⟩
theorem Ycu (hT:Jd P T) {ops:List Oper} {ks:List Kd} {n0:Nat→Prop} {S:List Nat} (hb:∀ i o,ops[i]? = some o→∀ e∈o.after.toList,Region.binds .any e=true→e.on < i) {Q:Exit→Act→World→Prop} {K:GK} (hK:EqK K) :
  ∀ (fuel:Nat) (listed:Array Bool) (Pl M:List Nat) (t:FT) (w:World) (O:Objs) (m:Hands) (n:Nat) (E:Env) (a:Act),listed.size=ops.length→(∀ i,i∈Pl++(M++S)↔i < ops.length∧listed.getD i true=false)→(Pl++(M++S)).Nodup→Pl.Pairwise (fun j i=>Zdz ops ks j i=true)→OkT ops ks Pl S t M→(Pl++(M++S)).length≤fuel →
  (∀ i o,ops[i]? = some o→listed.getD i true=true→∀ e∈o.after.toList,Region.binds .any e=true→listed.getD e.on false=true) →
  Ze1 P T ops ks n0 Pl E O n (Z06 P T ops ks n0 S K t)→Mem w O m n→Holds w O m n E a →
  (∀ w' O' m' n' E' a',K E' O' n'→Mem w' O' m' n'→Holds w' O' m' n' E' a'→Ext w O m n w' O' m' n'→Q .normal a' w')→wpAny P .any ops.toArray Q fuel listed a w:=by
 have seqs:∀ (fuel:Nat) (listed:Array Bool) (Pl M L:List Nat) (w:World) (O:Objs) (m:Hands) (n:Nat) (E:Env) (a:Act),listed.size=ops.length→(∀ i,i∈Pl++(M++S)↔i < ops.length∧listed.getD i true=false)→(Pl++(M++S)).Nodup→OkT ops ks Pl S (.seq L) M→(Pl++(M++S)).length≤fuel →
   (∀ i o,ops[i]? = some o→listed.getD i true=true→∀ e∈o.after.toList,Region.binds .any e=true→listed.getD e.on false=true) →
   Ze1 P T ops ks n0 Pl E O n (Z06 P T ops ks n0 S K (.seq L))→Mem w O m n→Holds w O m n E a →
   (∀ w' O' m' n' E' a',K E' O' n'→Mem w' O' m' n'→Holds w' O' m' n' E' a'→Ext w O m n w' O' m' n'→Q .normal a' w')→wpAny P .any ops.toArray Q fuel listed a w:=fun fuel listed Pl M L w O m n E a hsz hmem hnd hok hlen hdown hrun hM hE hQ=>by
  obtain ⟨h1,h2⟩:=hok
  have hp:(Pl++(L++S)).Perm (Pl++(M++S)):=(h1.append_right S).append_left Pl
  exact Zmt hT hb hK fuel listed (Pl++(L++S)) w O m n E a hsz (fun i=>(hp.mem_iff).trans (hmem i)) (hp.nodup_iff.2 hnd) h2 (by rw [hp.length_eq];exact hlen) hdown (Zhe (L++S) Pl E O n hrun) hM hE hQ
 intro fuel
 induction fuel with
 | zero =>
  intro listed Pl M t w O m n E a hsz hmem hnd hpl hok hlen hdown hrun hM hE hQ
  by_cases hs:∃ L,t = .seq L
  ·obtain ⟨L,rfl⟩:=hs
   exact seqs 0 listed Pl M L w O m n E a hsz hmem hnd hok hlen hdown hrun hM hE hQ
  obtain ⟨h1,_⟩:=OkT.alts t (fun L e=>hs ⟨L,e⟩) hok
  cases M with
  | nil=>exact absurd rfl h1
  | cons x M=>simp at hlen
 | succ fuel ih =>
  intro listed Pl M t w O m n E a hsz hmem hnd hpl hok hlen hdown hrun hM hE hQ
  by_cases hs:∃ L,t = .seq L
  ·obtain ⟨L,rfl⟩:=hs
   exact seqs (fuel+1) listed Pl M L w O m n E a hsz hmem hnd hok hlen hdown hrun hM hE hQ
  obtain ⟨h1,h2,h3⟩:=OkT.alts t (fun L e=>hs ⟨L,e⟩) hok
  refine ⟨fun hnil => ?_,fun i hi => ?_⟩
  ·have hR:=Zvv hb hsz hmem hnil
   cases M with
   | nil=>exact absurd rfl h1
   | cons x M=>simp at hR
  obtain ⟨o,ho,hil,hun,haft,notbef⟩:=Zr4 hb hsz hdown hi
  have hin:i < listed.size:=by omega
  have hiR:=(hmem i).2 ⟨hil,hun⟩
  have clear:∀ j,j∈Pl→Zdz ops ks j i=true→∀ z,ops[j]? = some z→Zk4 ops o z=true∧Zg5 (Zgz ks i) (Zgz ks j) z=true:=fun j hj hp z hjz=>by
   obtain ⟨hjl,hul⟩:=(hmem j).1 (List.mem_append.2 (.inl hj))
   unfold Zdz at hp
   simp only [ho,hjz,Bool.or_eq_true,Bool.and_eq_true,List.contains_iff_mem] at hp
   rcases hp with h | h
   ·exact h
   exact absurd h (notbef j hul hjl)
  rcases List.mem_append.1 hiR with hiP | hiT
  ·obtain ⟨P1,P2,rfl⟩:=List.append_of_mem hiP
   have hst:=Zfl (Zpp hK t) ho P2 P1 E O n hrun fun j hj z hjz=>clear j (List.mem_append.2 (.inl hj)) ((List.pairwise_append.1 hpl).2.2 j hj i (.head _)) z hjz
   have hsub:(P1++P2).Sublist (P1++i::P2):=List.Sublist.append_left (List.sublist_cons_self i _) P1
   refine Zin hT ho hM hE hst fun w' O' m' n' E' a' hr hM' hE' hX => ?_
   have ea:∀ L:List Nat,(P1++i::P2)++L=P1++i::(P2++L):=fun L=>by simp
   have eb:∀ L:List Nat,(P1++P2)++L=P1++(P2++L):=fun L=>by simp
   rw [ea] at hmem hnd hlen
   refine ih _ (P1++P2) M t w' O' m' n' E' a' (by simpa using hsz) ?_ ?_ (hpl.sublist hsub) (OkT.sub hsub t M hok) ?_ (Zly hin ho haft hdown) hr hM' hE' fun w2 O2 m2 n2 E2 a2 k0 k1 k2 k3=>hQ w2 O2 m2 n2 E2 a2 k0 k1 k2 (hX.trans k3)
   ·rw [eb];exact Zqa hin hmem hnd
   ·rw [eb];exact hnd.sublist (List.Sublist.append_left (List.sublist_cons_self i _) P1)
   rw [eb];simp at hlen ⊢;omega
  have hal:∃ a',(i,a')∈Zoz t:=by
   rcases h2 i hiT with h | ⟨l,hl,hlb⟩
   ·exact h
   obtain ⟨q1,q2⟩:=(hmem l).1 (List.mem_append.2 (.inr (List.mem_append.2 (.inl hl))))
   exact absurd hlb (notbef l q2 q1)
  obtain ⟨t',ht'⟩:=hal
  obtain ⟨q1,q2,q3⟩:=h3 i t' ht'
  obtain ⟨M1,M2,hni,e1,e2⟩:=List.exists_erase_eq q1
  have h':=Zhe [i] Pl E O n (Vm (Yeo t ht') Pl E O n hrun)
  have hst:=Zfl (Zpp hK t') ho [] Pl E O n h' fun j hj z hjz=>clear j hj (q2 j hj) z hjz
  refine Zin hT ho hM hE hst fun w' O' m' n' E' a' hr hM' hE' hX => ?_
  rw [List.append_nil] at hr
  subst e1
  have ea:Pl++(M1++i::M2++S)=(Pl++M1)++i::(M2++S):=by simp
  have eb:Pl++(M1++M2++S)=(Pl++M1)++(M2++S):=by simp
  rw [ea] at hmem hnd hlen
  rw [e2] at q3
  refine ih _ Pl (M1++M2) t' w' O' m' n' E' a' (by simpa using hsz) ?_ ?_ hpl q3 ?_ (Zly hin ho haft hdown) hr hM' hE' fun w2 O2 m2 n2 E2 a2 k0 k1 k2 k3=>hQ w2 O2 m2 n2 E2 a2 k0 k1 k2 (hX.trans k3)
  ·rw [eb];exact Zqa hin hmem hnd
  ·rw [eb];exact hnd.sublist (List.Sublist.append_left (List.sublist_cons_self i _) (Pl++M1))
  rw [eb];simp at hlen ⊢;omega
def prT (P:Program) (T:V3) (ops:List Oper) (ks:List Kd) (n0:Nat→Prop) (S:List Nat) (K:GK):FT→GK
 | .seq L=>fun E O n=>Ql P T ops n0 ((L++S).map (Zgz ks)) [] (Vv ops (L++S)) E O n K
 | .one i a=>fun E O n=>Ql P T ops n0 [Zgz ks i] [] (Vv ops [i]) E O n (prT P T ops ks n0 S K a)
 | .two i a j b=>fun E O n=>Ql P T ops n0 [Zgz ks i] [] (Vv ops [i]) E O n (prT P T ops ks n0 S K a)∧Ql P T ops n0 [Zgz ks j] [] (Vv ops [j]) E O n (prT P T ops ks n0 S K b)
def ltT (k:Nat):FT→Bool
 | .seq L=>L.all fun i=>decide (i < k)
 | .one i a=>decide (i < k) && ltT k a
 | .two i a j b=>(decide (i < k) && decide (j < k)) && (ltT k a && ltT k b)
theorem Zxy {ops:List Oper} {ks:List Kd} {n0:Nat→Prop} {S:List Nat} {K:GK} (hS:∀ i∈S,i < ops.length):∀ (t:FT),ltT ops.length t=true→∀ E O n,prT P T ops ks n0 S K t E O n→Z06 P T ops ks n0 S K t E O n
 | .seq L,h=>fun E O n q=>by
  simp only [ltT,List.all_eq_true,decide_eq_true_eq] at h
  exact Zem _ (L++S) _ [] E O n (Zgj fun i hi=>(List.mem_append.1 hi).elim (h i) (hS i)) rfl q
 | .one i a,h=>fun E O n q=>by
  simp only [ltT,Bool.and_eq_true,decide_eq_true_eq] at h
  exact Vm (Zxy hS a h.2) _ _ _ _ (Zem _ [i] _ [] E O n (Zgj fun k hk=>by rw [List.mem_singleton.1 hk];exact h.1) rfl q)
 | .two i a j b,h=>fun E O n q=>by
  simp only [ltT,Bool.and_eq_true,decide_eq_true_eq] at h
  exact ⟨Vm (Zxy hS a h.2.1) _ _ _ _ (Zem _ [i] _ [] E O n (Zgj fun k hk=>by rw [List.mem_singleton.1 hk];exact h.1.1) rfl q.1),Vm (Zxy hS b h.2.2) _ _ _ _ (Zem _ [j] _ [] E O n (Zgj fun k hk=>by rw [List.mem_singleton.1 hk];exact h.1.2) rfl q.2)⟩
theorem Yfe {ba:Nat} (hT:Jd P T) (hm:P.follows .mixedOrders=true) (ks:List Kd) (n0:Nat→Prop) (Pl M S:List Nat) (t:FT) (kp:List Kd) (ds:List (Option Bool)) {id:Nat} {ops:Array Oper} {O:Objs} {n:Nat} {E:Env} {Q:GQ}
  (h1:(Zu8 ops.toList && Zr3 (Pl++(M++S)) ops.toList.length && Z0z ops.toList ks Pl && okT ops.toList ks Pl S t M && ltT ops.toList.length t)=true) (e1:Pl.map (Zgz ks)=kp)
  (h:Ql P T ops.toList n0 kp ds (Vv ops.toList Pl) E O n (prT P T ops.toList ks n0 S (Q .normal) t)):W P ba (.region id ops true) Q E O n:=fun hb w m a hM hE=>by
 rw [Bool.and_eq_true,Bool.and_eq_true,Bool.and_eq_true,Bool.and_eq_true] at h1
 obtain ⟨⟨⟨⟨b1,b2⟩,b3⟩,b4⟩,b5⟩:=h1
 obtain ⟨c1,c2,c3⟩:=Zmf b2
 subst e1
 have hlt:∀ i∈Pl++(M++S),i < ops.toList.length:=fun i hi=>((c1 i).1 hi).1
 have hp:Pl.map (ops.toList[·]?)=(Vv ops.toList Pl).map some:=Zgj fun i hi=>hlt i (List.mem_append.2 (.inl hi))
 have up:∀ t E O n,Z06 P T ops.toList ks n0 S (Q .normal) t E O n→Z06 P T ops.toList ks n0 S (fun E' O' n'=>∃ E0,EqE E' E0∧Q .normal E0 O' n') t E O n:=fun t=>by
  induction t with
  | seq L=>exact fun E O n q=>Vm (fun E O n hk=>⟨E,EqE.refl E,hk⟩) _ _ _ _ q
  | one i a ih=>exact fun E O n q=>Vm ih _ _ _ _ q
  | two i a j b ih1 ih2=>exact fun E O n q=>⟨Vm ih1 _ _ _ _ q.1,Vm ih2 _ _ _ _ q.2⟩
 have hr:=Vm (fun E O n q=>up t E O n (Zxy (fun i hi=>hlt i (List.mem_append.2 (.inr (List.mem_append.2 (.inr hi))))) t b5 E O n q)) _ _ _ _ (Zem _ Pl _ ds E O n hp rfl h)
 have hK:EqK fun E' O' n'=>∃ E0,EqE E' E0∧Q .normal E0 O' n':=fun E1 E2 O n hE ⟨E0,h1,h2⟩=>⟨E0,EqE.trans ⟨hE.1.symm,fun t=>(hE.2 t).symm⟩ h1,h2⟩
 refine wp_region_any hm ?_
 have hX:Ext w O m n { w with drawn:=w.drawn+1 } O m n:=⟨rfl,rfl,rfl,Nat.le_refl _,Nat.le_refl _,fun b _ ho=>⟨rfl,ho⟩,fun i _ o ho=>⟨o,ho,rfl,Nat.le_refl _,fun _=>rfl⟩⟩
 have hM':Mem { w with drawn:=w.drawn+1 } O m n:=⟨hM.fresh,fun i o hi=>Zii hM hi hX fun _ _=>rfl,hM.apart⟩
 have e:ops.toList.toArray=ops:=by simp
 have hz:∀ i,(Array.replicate ops.size false).getD i true=true→¬ i < ops.size:=fun i h hi=>by simp [Array.getD,hi] at h
 have hlen:(Pl++(M++S)).length≤ops.size:=by simpa using c3
 have key:=Ycu hT (Zu9 b1) (Q:=lift w O m ba Q) hK ops.size (Array.replicate ops.size false) Pl M t { w with drawn:=w.drawn+1 } O m n E a (by simp) (by simpa using c1) c2 (Zqi b3) (Zta t M b4) hlen (fun i o ho hl=>absurd (by
   rcases Nat.lt_or_ge i ops.toList.length with h | h
   ·simpa using h
   rw [List.getElem?_eq_none h] at ho;cases ho) (hz i hl)) hr hM' (hE.ext hX)
  fun w' O' m' n' E' a' ⟨E0,k0,k1⟩ k2 k3 k4=>⟨E0,O',n',m',k1,k2,k3.eqE k0,(hX.trans k4).base hb⟩
 rw [e] at key
 exact key
end
end Go.Proofs.Ytfjkcekfifobpaa
