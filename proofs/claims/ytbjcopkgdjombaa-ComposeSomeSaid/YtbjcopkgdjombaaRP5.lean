/- Plain facts on this seat's mirrors (part RP5); each theorem bears its own conditions. -/
import Derived.Test.YtbjcopkgdjombaaRP3
import Derived.IntWalk
namespace Go.Proofs.Ytbjcopkgdjombaa
open Go.RowKit
set_option linter.unusedVariables false
set_option linter.unusedSimpArgs false
theorem Z9i {f4:Zl→EO→Option (Bool×Zl)} {e:Ed} {K:List Tr} (hlen:e.Ops.length≤1048576) (ih:∀ o∈e.Ops,∀ left out,(∀ x∈left,x∈K)→left.length≤5000000→(∀ x∈out,Bd x)→out.length≤2000000000→SOk f4 o left out):∀ (os:List EO) (i:Nat) (left out:List Tr),e.Ops.drop i=os→i≤e.Ops.length→(∀ x∈left,x∈K)→left.length≤5000000→(∀ x∈out,Bd x)→out.length+Qw os≤2000000000 →
  ∃ r,Zw (Uh f4 e) ((i:Int),left,out)=some r∧(rnO (apO os) (left.map nrm,out.map nrm)=none→r = .inl ())∧∀ l' o',rnO (apO os) (left.map nrm,out.map nrm)=some (l',o')→∃ left' out',r = .inr (left',out')∧left'.map nrm=l'∧out'.map nrm=o'∧(∀ x∈out',Bd x)∧out'.length≤2000000000
 | [],i,left,out,hd,hi,hk,hl,hb,ho=>by
  obtain rfl:=drop_nil hd hi
  refine ⟨.inr (left,out),Z8 ?_,fun h=>(by cases h),fun l' o' h => ?_⟩
  ·unfold Uh
   simp only
   rw [Zd1,cond_false]
  injection h with h
  injection h with e1 e2
  have:Qw []=0:=rfl
  exact ⟨left,out,rfl,e1,e2,hb,by omega⟩
 | o::os,i,left,out,hd,hi,hk,hl,hb,ho=>by
  obtain ⟨hi',hx,hd'⟩:=Zob hd
  have hm:=List.mem_of_getElem? hx
  rw [Zch] at ho
  obtain ⟨b,st,h1,h2,h3⟩:=ih o hm left out hk hl hb (by omega)
  show ∃ r,Zw (Uh f4 e) ((i:Int),left,out)=some r∧(rnO ((o,ap o.E)::apO os) (left.map nrm,out.map nrm)=none→r = .inl ())∧∀ l' o',rnO ((o,ap o.E)::apO os) (left.map nrm,out.map nrm)=some (l',o')→_
  rw [rnO]
  cases hs:stO o (ap o.E) (left.map nrm,out.map nrm) with
  | none =>
   refine ⟨.inl (),Z8 ?_,fun _=>rfl,fun l' o' h=>by cases h⟩
   unfold Uh
   simp only
   rw [Zbe hi',cond_true,Yw hx,Option.bind_some,h1,Option.bind_some,h2 hs]
   rfl
  | some s' =>
   obtain ⟨g1,g2,g3,g4,g5,g6,g7⟩:=h3 s' hs
   have hstep:Uh f4 e ((i:Int),left,out)=some (.inl (((i+1:Nat):Int),st.left,st.out)):=by
    unfold Uh
    simp only
    rw [Zbe hi',cond_true,Yw hx,Option.bind_some,h1,Option.bind_some,g1,Bool.not_true,cond_false,Ul (by omega) (by omega)]
    rfl
   rw [Yr hstep,Option.bind_some]
   have:=Z9i hlen ih os (i+1) st.left st.out hd' (by omega) (fun x hx=>hk x (g4 x hx)) (by omega) g5 (by omega)
   rw [g2,g3] at this
   exact this
theorem Ycc {f1 f2 f3:Ed→Tr→Option (Tr×Bool)} {f4:Zl→EO→Option (Bool×Zl)} {f5:Zl→Ed→Option (Bool×Zl)} {e:Ed} {t:Tr} (k3:e.Kind=3) (hg:GN e) (hl:2≤e.List_∧e.List_≤9) (ht:Bd t) (hp:pt t≤1000000)
  (ih:∀ o∈e.Ops,∀ left out,(∀ x∈left,x∈t.Kids)→left.length≤5000000→(∀ x∈out,Bd x)→out.length≤2000000000→SOk f4 o left out):AOk (Zf4 f1 f2 f3 f4 f5) e t:=by
 have hpt:=hp
 rw [Zym] at hpt
 have hkl:t.Kids.length≤(t.Kids.map pt).sum:=Zoj fun x _=>by rw [Zym];omega
 unfold AOk Zf4
 rw [Zb4,if_neg (by omega),if_neg (by omega),if_neg (by omega),if_pos k3,Za3]
 by_cases h1:t.Kind=e.List_
 ·have e1:(t.Kind != e.List_)=false:=by rw [h1];exact bne_self_eq_false _
  rw [if_pos h1,e1,cond_false,Z2s,Option.bind_some,Option.bind_some,cond_false,show decide (2≤t.Kind)=true from by rw [decide_eq_true_eq];omega,show decide (t.Kind≤9)=true from by rw [decide_eq_true_eq];omega]
  simp only [Bool.and_self,Bool.not_true,cond_false]
  have hs:=hg.s
  obtain ⟨r,r1,r2,r3⟩:=Z9i (K:=t.Kids) hg.o ih e.Ops 0 t.Kids [] rfl (Nat.zero_le _) (fun x hx=>hx) (by omega) (fun x hx=>by cases hx) (by simp only [List.length_nil];omega)
  rw [show (((0:Nat):Int))=0 from rfl] at r1
  rw [r1,Option.bind_some]
  have nk:(nrm t).Kids=t.Kids.map nrm:=by rw [Ze4 (by omega) (by omega)]
  rw [nk]
  rw [List.map_nil] at r2 r3
  cases hr:rnO (apO e.Ops) (t.Kids.map nrm,[]) with
  | none =>
   rw [r2 hr]
   exact ⟨_,_,rfl,rfl,fun u h=>by cases h⟩
  | some s' =>
   obtain ⟨l',o'⟩:=s'
   obtain ⟨left',out',q1,q2,q3,q4,q5⟩:=r3 l' o' hr
   rw [q1]
   cases left' with
   | nil =>
    rw [List.map_nil] at q2
    subst q2
    refine ⟨_,_,rfl,rfl,fun u h => ?_⟩
    have h2:(⟨t.Kind,[],o'⟩:Tr)=u:=by injection h
    subst h2
    refine ⟨?_,.mk _ (by simp) (by simp only;omega) (by simp) q4⟩
    rw [Ze4 (by simp only;omega) (by simp only;omega)]
    simp only
    rw [q3]
   | cons x left' =>
    rw [List.map_cons] at q2
    subst q2
    refine ⟨_,_,rfl,?_,fun u h=>by cases h⟩
    show ((((x::left').length:Nat):Int) == 0)=false
    rw [beq_eq_false_iff_ne,List.length_cons]
    omega
 have e1:(t.Kind != e.List_)=true:=bne_iff_ne.2 h1
 rw [if_neg h1,e1,cond_true,Option.bind_some,cond_true]
 exact ⟨_,_,rfl,rfl,fun u h=>by cases h⟩
structure CA (e:Ed) (t:Tr):Prop where
 x:RX e
 b:BE e
 g:GN e
 p:pt t≤1000000
 t:Bd t
theorem Zwx:∀ (k:Nat),(∀ e t,CA e t→4 * SizeOf.sizeOf e < k→AOk (Zu k).1 e t)∧(∀ e t,CA e t→e.Kind=2→4 * SizeOf.sizeOf e≤k→AOk (Zu k).2.1 e t)∧(∀ e t,CA e t→e.Kind=3→4 * SizeOf.sizeOf e≤k→AOk (Zu k).2.2.1 e t) ∧
  (∀ o left out,opk o→(∀ t∈o.L,Bd t)→o.L.length≤1073741824→(o.Kind=3→(∀ x∈left,CA o.E x)∧4 * SizeOf.sizeOf o.E+3≤k)→(∀ x∈left,Bd x)→left.length≤5000000→(∀ x∈out,Bd x)→out.length≤2000000000→1≤k→SOk (Zu k).2.2.2.1 o left out) ∧
  (∀ E left out,(∀ x∈left,CA E x)→4 * SizeOf.sizeOf E+2≤k→left.length≤5000000→out.length≤2000000000→Yfv (Zu k).2.2.2.2 E left out)
 | 0=>⟨fun e t _ h=>by omega,fun e t _ _ h=>by have:=Zjg e;omega,fun e t _ _ h=>by have:=Zjg e;omega,fun o left out _ _ _ _ _ _ _ _ h=>by omega,fun E left out _ h=>by omega⟩
 | k+1=>by
  obtain ⟨i1,i2,i3,i4,i5⟩:=Zwx k
  refine ⟨fun e t h hk => ?_,fun e t h k2 hk => ?_,fun e t h k3 hk => ?_,fun o left out h1 h3 h4 h5 h6 h7 h8 h9 hk => ?_,fun E left out h hk hl ho => ?_⟩
  ·show AOk (Zbl (Zu k).1 (Zu k).2.1 (Zu k).2.2.1 (Zu k).2.2.2.1 (Zu k).2.2.2.2) e t
   rcases h.x.kind with k0 | k1 | k2 | k3
   ·refine ⟨t,true,?_,?_,fun u hu => ?_⟩
    ·unfold Zbl;rw [show (e.Kind == 0)=true from by rw [k0];rfl];rfl
    ·rw [Zb4,if_pos k0];rfl
    rw [Zb4,if_pos k0] at hu
    injection hu with hu
    exact ⟨hu,h.t⟩
   ·refine ⟨e.New,eqT (nrm t) (nrm e.Old),?_,?_,fun u hu => ?_⟩
    ·unfold Zbl
     rw [show (e.Kind == 0)=false from by rw [k1];rfl,show (e.Kind == 1)=true from by rw [k1];rfl,cond_false,cond_true,Ycs h.t h.b.old,Option.bind_some]
    ·rw [Zb4,if_neg (by omega),if_pos k1]
     by_cases he:nrm t=nrm e.Old
     ·rw [if_pos he,eqT_iff.2 he];rfl
     rw [if_neg he]
     cases hq:eqT (nrm t) (nrm e.Old) with
     | false=>rfl
     | true=>exact absurd (eqT_iff.1 hq) he
    rw [Zb4,if_neg (by omega),if_pos k1] at hu
    split at hu
    ·injection hu with hu
     exact ⟨hu,h.b.new⟩
    cases hu
   ·obtain ⟨v,b,q1,q2,q3⟩:=i2 e t h k2 (by omega)
    refine ⟨v,b,?_,q2,q3⟩
    unfold Zbl
    rw [show (e.Kind == 0)=false from by rw [k2];rfl,show (e.Kind == 1)=false from by rw [k2];rfl,show (e.Kind == 2)=true from by rw [k2];rfl,cond_false,cond_false,cond_true,q1,Option.bind_some]
   obtain ⟨v,b,q1,q2,q3⟩:=i3 e t h k3 (by omega)
   refine ⟨v,b,?_,q2,q3⟩
   unfold Zbl
   rw [show (e.Kind == 0)=false from by rw [k3];rfl,show (e.Kind == 1)=false from by rw [k3];rfl,show (e.Kind == 2)=false from by rw [k3];rfl,show (e.Kind == 3)=true from by rw [k3];rfl,cond_false,cond_false,cond_false,cond_true,q1,Option.bind_some]
  ·show AOk (Gk (Zu k).1 (Zu k).2.1 (Zu k).2.2.1 (Zu k).2.2.2.1 (Zu k).2.2.2.2) e t
   cases h.x with
   | same _ q=>omega
   | repl _ q=>omega
   | li _ q=>omega
   | st _ q hw hw2 hkk hk2 ih =>
    exact Z67 k2 h.b hw hw2 hkk hk2 h.t h.p fun c hc x hx hpx=>i1 c.E x ⟨ih c hc,h.b.ks c hc,h.g.ks c hc,hpx,hx⟩ (by have:=Je hc;omega)
  ·show AOk (Zf4 (Zu k).1 (Zu k).2.1 (Zu k).2.2.1 (Zu k).2.2.2.1 (Zu k).2.2.2.2) e t
   cases h.x with
   | same _ q=>omega
   | repl _ q=>omega
   | st _ q=>omega
   | li _ q hl ho hN ih =>
    refine Ycc k3 h.g hl h.t h.p fun o hom left out hk2 hl2 hob hol => ?_
    have hsz:=Kw hom
    have hpos:=Zjg o.E
    have hlen:o.L.length≤1073741824:=by
     have h1:X3 o≤Qw e.Ops:=Zku (f:=X3) hom
     have h2:=h.g.s
     by_cases kk:o.Kind=1∨o.Kind=2
     ·unfold X3 at h1;rw [if_neg (by omega),if_neg (by omega)] at h1;omega
     rw [hN o hom (by rcases ho o hom with ⟨q,_⟩ | ⟨q,_⟩ | ⟨q,_⟩ | q <;> omega)];simp
    exact i4 o left out (ho o hom) (h.b.l o hom).2 hlen (fun kk=>⟨fun x hx=>⟨ih o hom kk,h.b.os o hom,h.g.os o hom,by have:=Z7r (hk2 x hx);have:=h.p;omega,h.t.all x (hk2 x hx)⟩,by omega⟩) (fun x hx=>h.t.all x (hk2 x hx)) hl2 hob hol (by omega)
  ·exact Ycd (f1:=(Zu k).1) (f2:=(Zu k).2.1) (f3:=(Zu k).2.2.1) (f4:=(Zu k).2.2.2.1) h1 h3 h4 h7 h9 h6 h8 fun kk=>i5 o.E left out (h5 kk).1 (by have:=(h5 kk).2;omega) h7 h9
  exact Ycb (f2:=(Zu k).2.1) (f3:=(Zu k).2.2.1) (f4:=(Zu k).2.2.2.1) (f5:=(Zu k).2.2.2.2) hl ho fun x hx=>i1 E x (h x hx) (by omega)
theorem Z5v {S R:Type} {s1 s2:S→Option (S ⊕ R)} (h:∀ s x,s1 s=some x→s2 s=some x):∀ (k:Nat) (s:S) (r:R),Zex s1 k s=some r→Zex s2 k s=some r
 | 0,s,r,q=>by simp [Zex] at q
 | k+1,s,r,q=>by
  simp only [Zex] at q ⊢
  cases hs:s1 s with
  | none=>rw [hs] at q;cases q
  | some x =>
   rw [hs] at q
   rw [h s x hs]
   cases x with
   | inl s'=>exact Z5v h k s' r q
   | inr r'=>exact q
theorem Znf {S R:Type} {s1 s2:S→Option (S ⊕ R)} (h:∀ s x,s1 s=some x→s2 s=some x) {s:S} {r:R} (q:Zw s1 s=some r):Zw s2 s=some r:=by
 obtain ⟨k,hk⟩:=Zmq q
 exact Zng (Z5v h k s r hk)
theorem Ql {α β:Type} {o o':Option α} {f f':α→Option β} (h:∀ x,o=some x→o'=some x) (hf:∀ x y,f x=some y→f' x=some y) {r:β} (q:o.bind f=some r):o'.bind f'=some r:=by
 obtain ⟨x,h1,h2⟩:=Option.bind_eq_some_iff.1 q
 rw [h x h1]
 exact hf x r h2
theorem J5 {α:Type} (c:Bool) {a a' b b':Option α} (h1:∀ r,a=some r→a'=some r) (h2:∀ r,b=some r→b'=some r) (r:α) (q:cond c a b=some r):cond c a' b'=some r:=by
 cases c with
 | true=>exact h1 r q
 | false=>exact h2 r q
theorem Zxp {R:Type} {F:Nat→Option R} {r:R} (hm:∀ k r,F k=some r→F (k+1)=some r) {K:Nat} (h:F K=some r):lim F=some r:=by
 refine Zgc K fun k hk => ?_
 obtain ⟨d,rfl⟩:∃ d,k=K+d:=⟨k - K,by omega⟩
 clear hk
 induction d with
 | zero=>exact h
 | succ d ih=>exact hm _ _ ih
def LE2 {α β γ:Type} (f g:α→β→Option γ):Prop:=∀ x y r,f x y=some r→g x y=some r
theorem Zwy:∀ (k:Nat),LE2 (Zu k).1 (Zu (k+1)).1∧LE2 (Zu k).2.1 (Zu (k+1)).2.1∧LE2 (Zu k).2.2.1 (Zu (k+1)).2.2.1∧LE2 (Zu k).2.2.2.1 (Zu (k+1)).2.2.2.1∧LE2 (Zu k).2.2.2.2 (Zu (k+1)).2.2.2.2
 | 0=>⟨fun x y r h=>(by cases h),fun x y r h=>(by cases h),fun x y r h=>(by cases h),fun x y r h=>(by cases h),fun x y r h=>by cases h⟩
 | k+1=>by
  obtain ⟨i1,i2,i3,i4,i5⟩:=Zwy k
  refine ⟨fun e t r h => ?_,fun e t r h => ?_,fun e t r h => ?_,fun s o r h => ?_,fun s e r h => ?_⟩
  ·refine J5 _ (fun _ q=>q) (J5 _ (fun _ q=>q) (J5 _ (fun _ => ?_) (J5 _ (fun _ => ?_) (fun _ q=>q)))) r h
   ·exact Ql (fun x q=>i2 _ _ x q) (fun _ _ q=>q)
   exact Ql (fun x q=>i3 _ _ x q) (fun _ _ q=>q)
  ·refine J5 _ (fun _ q=>q) (fun _=>Ql (fun _ q=>q) fun w _=>Ql (fun _ q=>q) fun ks _=>Ql (fun _ q=>q) fun z r q => ?_) r h
   cases z with
   | inl z=>exact q
   | inr z =>
    refine Ql (fun x=>Znf fun s y q => ?_) (fun _ _ q=>q) q
    exact J5 _ (fun _=>Ql (fun _ q=>q) fun _ _=>Ql (fun _ q=>q) fun _ _=>Ql (fun x q=>i1 _ _ x q) fun _ _ q=>q) (fun _ q=>q) y q
  ·refine Ql (fun _ q=>q) (fun z=>J5 _ (fun _ q=>q) (fun _=>Ql (fun x=>Znf fun s y q => ?_) fun _ _ q=>q)) h
   exact J5 _ (fun _=>Ql (fun _ q=>q) fun _ _=>Ql (fun x q=>i4 _ _ x q) fun _ _ q=>q) (fun _ q=>q) y q
  ·exact J5 _ (fun _ q=>q) (J5 _ (fun _ q=>q) (J5 _ (fun _ q=>q) (J5 _ (fun _=>Ql (fun x q=>i5 _ _ x q) fun _ _ q=>q) (fun _ q=>q)))) r h
  exact J5 _ (fun _ q=>q) (fun _=>Ql (fun _ q=>q) fun _ _=>Ql (fun x q=>i1 _ _ x q) fun _ _ q=>q) r h
theorem Zwz {e:Ed} {t:Tr} (h:CA e t):Qa e t=some (match ap e (nrm t) with | some u=>(u,true) | none=>(Ja,false)):=by
 obtain ⟨v,b,h1,h2,h3⟩:=(Zwx (4 * SizeOf.sizeOf e+1)).1 e t h (by omega)
 have hd:Zm4 e t=some (v,b):=Zxp (fun k r=>(Zwy k).1 e t r) h1
 unfold Qa
 rw [hd,Option.bind_some,h2]
 cases hu:ap e (nrm t) with
 | none=>rfl
 | some u =>
  obtain ⟨g1,g2⟩:=h3 u hu
  simp only [Option.isSome_some,Bool.not_true,cond_false]
  rw [Zv4 g2,Option.bind_some,g1]
theorem Yas:∀ (a b:List (EO×(Tr→Option Tr))) (s:List Tr×List Tr),rnO (a++b) s=(rnO a s).bind (rnO b)
 | [],b,s=>rfl
 | (o,f)::a,b,s=>by
  rw [List.cons_append,rnO,rnO,Option.bind_assoc]
  congr 1
  funext x
  exact Yas a b x
theorem Yf0 (a b:List EO):apO (a++b)=apO a++apO b:=by unfold apO;rw [List.map_append]
def RO (os:List EO) (s:List Tr×List Tr):Option (List Tr×List Tr):=rnO (apO os) s
theorem Zqg (a b:List EO) (s:List Tr×List Tr):RO (a++b) s=(RO a s).bind (RO b):=by unfold RO;rw [Yf0,Yas]
theorem Zir (o:EO) (s:List Tr×List Tr):RO [o] s=stO o (ap o.E) s:=by
 unfold RO apO
 rw [List.map_cons,List.map_nil,rnO]
 cases stO o (ap o.E) s <;> rfl
theorem Zmu (s:List Tr×List Tr):RO [] s=some s:=rfl
def Zis (g:List Tr) (s:List Tr×List Tr):Option (List Tr×List Tr):=if s.1.take g.length=g.map nrm then some (s.1.drop g.length,s.2) else none
def Zjy (g:List Tr) (s:List Tr×List Tr):Option (List Tr×List Tr):=some (s.1,s.2++g.map nrm)
def Zh0 (n:Int) (s:List Tr×List Tr):Option (List Tr×List Tr):=if 0≤n∧n.toNat≤s.1.length then some (s.1.drop n.toNat,s.2++s.1.take n.toNat) else none
theorem Yh4 (g:List Tr) (s:List Tr×List Tr):RO (Zde g) s=Zis g s:=by
 by_cases h:g=[]
 ·subst h;rw [Z5c,Zmu];unfold Zis;simp
 rw [Zgw h,Zir];unfold stO Zis;simp
theorem Yh5 (g:List Tr) (s:List Tr×List Tr):RO (Zet g) s=Zjy g s:=by
 by_cases h:g=[]
 ·subst h;rw [Zxl,Zmu];unfold Zjy;simp
 rw [Zgx h,Zir];unfold stO Zjy;simp
theorem Z1p (n:Int) (L:List Tr) (E:Ed) (s:List Tr×List Tr):RO [⟨0,n,L,E⟩] s=Zh0 n s:=by rw [Zir];unfold stO Zh0;simp
theorem Z03 {a b:Int} (ha:0≤a) (hb:0≤b) (s:List Tr×List Tr):Zh0 (a+b) s=(Zh0 a s).bind (Zh0 b):=by
 have e:(a+b).toNat=a.toNat+b.toNat:=by omega
 unfold Zh0
 rw [e]
 by_cases h:a.toNat≤s.1.length
 ·rw [if_pos (c:=0≤a∧a.toNat≤s.1.length) ⟨ha,h⟩,Option.bind_some]
  simp only [List.length_drop]
  by_cases h2:a.toNat+b.toNat≤s.1.length
  ·rw [if_pos ⟨by omega,h2⟩,if_pos ⟨hb,by omega⟩,List.drop_drop,List.append_assoc,List.take_add]
  rw [if_neg (by omega),if_neg (by omega)]
 rw [if_neg (c:=0≤a∧a.toNat≤s.1.length) (by omega),if_neg (by omega)]
 rfl
theorem Z5d (g h:List Tr) (s:List Tr×List Tr):Zis (g++h) s=(Zis g s).bind (Zis h):=by
 unfold Zis
 rw [List.length_append,List.map_append,List.take_add]
 by_cases h1:s.1.take g.length=g.map nrm
 ·rw [if_pos h1,Option.bind_some,h1]
  simp only [List.append_cancel_left_eq,List.drop_drop]
 rw [if_neg h1]
 have:¬ (s.1.take g.length++(s.1.drop g.length).take h.length=g.map nrm++h.map nrm):=fun q=>by
  have hl:=congrArg List.length q
  simp only [List.length_append,List.length_take,List.length_drop,List.length_map] at hl
  exact h1 (List.append_inj_left q (by rw [List.length_take,List.length_map];omega))
 rw [if_neg this]
 rfl
theorem Yc6 (c h:List Tr) (s:List Tr×List Tr):(Zjy c s).bind (Zis h)=(Zis h s).bind (Zjy c):=by
 unfold Zjy Zis
 rw [Option.bind_some]
 simp only
 split <;> rfl
theorem Z5s (c h:List Tr) (s:List Tr×List Tr):Zjy (c++h) s=(Zjy c s).bind (Zjy h):=by
 unfold Zjy
 rw [Option.bind_some,List.map_append,List.append_assoc]
theorem Ydk (L:List Tr):(L.map nrm).map nrm=L.map nrm:=NT.map fun k hk=>by obtain ⟨y,_,rfl⟩:=List.mem_map.1 hk;exact NT.of y
theorem Yih (L:List Tr) (s:List Tr×List Tr):Zis (L.map nrm) s=Zis L s:=by unfold Zis;rw [Ydk,List.length_map]
theorem Yil (L:List Tr) (s:List Tr×List Tr):Zjy (L.map nrm) s=Zjy L s:=by unfold Zjy;rw [Ydk]
theorem Zr5 (s:NW) (x:List Tr×List Tr):RO s.flush x=((RO s.out x).bind (Zis s.gone)).bind (Zjy s.come):=by
 unfold NW.flush
 rw [Zqg,Option.bind_assoc]
 congr 1
 funext y
 rw [Zqg,Yh4]
 congr 1
 funext z
 exact Yh5 _ _
def KP (os:List EO):Prop:=∀ o∈os,o.Kind=0→0≤o.N
theorem KP.push {F:List EO} {n:Int} (h:KP F) (hn:0≤n):KP (Uc F n)∧∀ s,RO (Uc F n) s=(RO F s).bind (Zh0 n):=by
 by_cases hk:∃ o,F.getLast? = some o∧o.Kind=0
 ·obtain ⟨o,ho,hk0⟩:=hk
  obtain ⟨o',ho'⟩:=List.getLast?_eq_some_iff.1 ho
  subst ho'
  have hN:=h o (by simp) hk0
  obtain ⟨k,N,L,E⟩:=o
  simp only at hk0 hN
  subst hk0
  rw [Za7]
  refine ⟨fun x hx => ?_,fun s => ?_⟩
  ·rcases List.mem_append.1 hx with hx | hx
   ·exact h x (by simp [hx])
   rw [List.mem_singleton.1 hx];intro _;simp only;omega
  rw [Zqg,Zqg,Option.bind_assoc]
  congr 1
  funext y
  rw [Z1p,Z1p,Z03 hN hn]
 rw [Zfe fun o ho h0=>hk ⟨o,ho,h0⟩]
 refine ⟨fun x hx => ?_,fun s => ?_⟩
 ·rcases List.mem_append.1 hx with hx | hx
  ·exact h x hx
  rw [List.mem_singleton.1 hx];intro _;exact hn
 rw [Zqg]
 congr 1
 funext y
 exact Z1p _ _ _ _
theorem KP.fl {s:NW} (h:KP s.out):KP s.flush:=fun o ho hk=>by
 unfold NW.flush at ho
 rcases List.mem_append.1 ho with ho | ho
 ·exact h o ho hk
 unfold Zde Zet at ho
 rcases List.mem_append.1 ho with ho | ho
 ·split at ho
  ·cases ho
  rw [List.mem_singleton.1 ho] at hk;simp at hk
 split at ho
 ·cases ho
 rw [List.mem_singleton.1 ho] at hk;simp at hk
theorem Zrl:∀ (os:List (EO×(Tr→Option Tr))) (s s':List Tr×List Tr),rnO os s=some s'→∀ x∈s'.1,x∈s.1
 | [],s,s',h=>by rw [rnO] at h;injection h with h;subst h;exact fun x hx=>hx
 | (o,f)::os,s,s',h=>by
  rw [rnO] at h
  obtain ⟨s1,hs,hr⟩:=Option.bind_eq_some_iff.1 h
  have ih:=Zrl os s1 s' hr
  have key:∀ x∈s1.1,x∈s.1:=by
   unfold stO at hs
   split at hs
   ·split at hs
    ·injection hs with hs;subst hs;exact fun x hx=>List.mem_of_mem_drop hx
    cases hs
   split at hs
   ·split at hs
    ·injection hs with hs;subst hs;exact fun x hx=>List.mem_of_mem_drop hx
    cases hs
   split at hs
   ·injection hs with hs;subst hs;exact fun x hx=>hx
   split at hs
   ·obtain ⟨l,out⟩:=s
    cases l with
    | nil=>cases hs
    | cons x0 l =>
     simp only at hs
     obtain ⟨u,_,e⟩:=Option.map_eq_some_iff.1 hs
     subst e
     exact fun x hx=>List.mem_cons_of_mem _ hx
   cases hs
  exact fun x hx=>key x (ih x hx)
def GL (l:Int) (s:List Tr×List Tr):Prop:=∀ x∈s.1,NT x∧TX x∧(l=9→x.Kind=1)
theorem Ygd {l:Int} {e:Ed} {x:Tr} (hi:Zka l e=true) (hx:NT x) (h9:l=9→x.Kind=1):ap e x=some x:=by
 unfold Zka at hi
 rw [Bool.or_eq_true,beq_iff_eq] at hi
 rw [Zb4]
 rcases hi with h0 | hi
 ·rw [if_pos h0]
 simp only [Bool.and_eq_true,beq_iff_eq] at hi
 obtain ⟨hl,h2,hw,hk⟩:=hi
 have h1:=h9 hl
 rw [if_neg (by omega),if_neg (by omega),if_pos h2,if_pos h1,List.eq_nil_of_length_eq_zero hw,List.eq_nil_of_length_eq_zero hk]
 show some (⟨1,tr p0 x.Words,tr pT x.Kids⟩:Tr)=some x
 rw [(hx.words h1).1,(hx.words h1).2,← h1,Yfa]
theorem Yg7 {l:Int} {s:NW} {o:EO} (hs:KP s.out) (ho:opk o) (x:List Tr×List Tr) (hx:GL l x) (hE:o.Kind=3→∀ y,NT y→TX y→ap (nE o.E) y=ap o.E y) :
  KP (stN l s (o,nE o.E)).out∧RO (stN l s (o,nE o.E)).flush x=(RO s.flush x).bind (stO o (ap o.E)):=by
 have hp:∀ n:Int,0≤n→KP (⟨Uc s.flush n,[],[]⟩:NW).out∧RO (⟨Uc s.flush n,[],[]⟩:NW).flush x=(RO s.flush x).bind (Zh0 n):=fun n hn=>by
  obtain ⟨p1,p2⟩:=KP.push hs.fl hn
  rw [Zbp,p2]
  exact ⟨p1,rfl⟩
 rcases ho with ⟨k,h1⟩ | ⟨k,h1⟩ | ⟨k,h1⟩ | k
 ·have e:stN l s (o,nE o.E)=⟨Uc s.flush o.N,[],[]⟩:=by
   unfold stN
   simp only
   rw [if_neg (by omega),if_neg (by omega),if_pos k]
  obtain ⟨q1,q2⟩:=hp o.N (by omega)
  rw [e,q2]
  refine ⟨q1,?_⟩
  congr 1
  funext y
  unfold stO Zh0
  rw [if_pos k]
 ·have e:stN l s (o,nE o.E)=⟨s.out,s.gone++o.L.map nrm,s.come⟩:=by
   unfold stN
   simp only
   rw [if_pos k]
  have es:stO o (ap o.E)=Zis o.L:=by
   funext y
   unfold stO Zis
   rw [if_neg (by omega),if_pos k]
  rw [e,Zr5,Zr5,es]
  refine ⟨hs,?_⟩
  simp only
  rw [Option.bind_assoc,Option.bind_assoc,Option.bind_assoc]
  congr 1
  funext y
  rw [Z5d,Option.bind_assoc]
  congr 1
  funext z
  rw [Yih,Yc6]
 ·have e:stN l s (o,nE o.E)=⟨s.out,s.gone,s.come++o.L.map nrm⟩:=by
   unfold stN
   simp only
   rw [if_neg (by omega),if_pos k]
  have es:stO o (ap o.E)=Zjy o.L:=by
   funext y
   unfold stO Zjy
   rw [if_neg (by omega),if_neg (by omega),if_pos k]
  rw [e,Zr5,Zr5,es]
  refine ⟨hs,?_⟩
  simp only
  rw [Option.bind_assoc,Option.bind_assoc,Option.bind_assoc]
  congr 1
  funext y
  congr 1
  funext z
  rw [Z5s]
  congr 1
  funext v
  exact Yil _ _
 have hgl:∀ s',RO s.flush x=some s'→GL l s':=fun s' hs' y hy=>hx y (Zrl _ _ _ hs' y hy)
 by_cases hi:Zka l (nE o.E)=true
 ·have e:stN l s (o,nE o.E)=⟨Uc s.flush 1,[],[]⟩:=by
   unfold stN
   simp only
   rw [if_neg (by omega),if_neg (by omega),if_neg (by omega),if_pos hi]
  obtain ⟨q1,q2⟩:=hp 1 (by decide)
  rw [e,q2]
  refine ⟨q1,?_⟩
  cases hf:RO s.flush x with
  | none=>rfl
  | some s' =>
   rw [Option.bind_some,Option.bind_some]
   obtain ⟨l',out'⟩:=s'
   rw [Zle k]
   unfold Zh0
   cases l' with
   | nil=>rfl
   | cons y l' =>
    have hy:=hgl _ hf y (.head _)
    simp only
    rw [if_pos ⟨by decide,by simp⟩,← hE k y hy.1 hy.2.1,Ygd hi hy.1 hy.2.2]
    rfl
 have e:stN l s (o,nE o.E)=⟨s.flush++[⟨3,0,[],nE o.E⟩],[],[]⟩:=by
  unfold stN
  simp only
  rw [if_neg (by omega),if_neg (by omega),if_neg (by omega),if_neg hi]
 rw [e,Zbp]
 refine ⟨fun y hy hk => ?_,?_⟩
 ·rcases List.mem_append.1 hy with hy | hy
  ·exact hs.fl y hy hk
  rw [List.mem_singleton.1 hy] at hk;simp at hk
 rw [Zqg]
 cases hf:RO s.flush x with
 | none=>rfl
 | some s' =>
  rw [Option.bind_some,Option.bind_some,Zir]
  obtain ⟨l',out'⟩:=s'
  unfold stO
  rw [if_neg (by simp),if_neg (by simp),if_neg (by simp),if_pos rfl,if_neg (by omega),if_neg (by omega),if_neg (by omega),if_pos k]
  cases l' with
  | nil=>rfl
  | cons y l' =>
   have hy:=hgl _ hf y (.head _)
   simp only
   rw [hE k y hy.1 hy.2.1]
theorem Z9x {l:Int} (x:List Tr×List Tr) (hx:GL l x):∀ (os:List EO) (s:NW),KP s.out→(∀ o∈os,opk o∧(o.Kind=3→∀ y,NT y→TX y→ap (nE o.E) y=ap o.E y))→RO ((Uu os).foldl (stN l) s).flush x=(RO s.flush x).bind (RO os)
 | [],s,_,_=>by
  show RO s.flush x=_
  cases RO s.flush x <;> rfl
 | o::os,s,hs,h=>by
  obtain ⟨h1,h2⟩:=h o (.head _)
  obtain ⟨q1,q2⟩:=Yg7 hs h1 x hx h2
  show RO ((Uu os).foldl (stN l) (stN l s (o,nE o.E))).flush x=_
  rw [Z9x x hx os _ q1 fun y hy=>h y (.tail _ hy),q2,Option.bind_assoc]
  try rfl
theorem Z1e (o:List Tr):∀ (ks:List Zd) (c:List Tr),(∀ k∈ks,ap (nE k.E) (Kx Ja o k.At.toNat)=ap k.E (Kx Ja o k.At.toNat))→rnK o (apK (ks.map fun k=>(⟨k.At,nE k.E⟩:Zd))) c=rnK o (apK ks) c
 | [],c,_=>rfl
 | k::ks,c,h=>by
  have h0:=h k (.head _)
  show rnK o ((k.At.toNat,ap (nE k.E))::apK (ks.map _)) c=rnK o ((k.At.toNat,ap k.E)::apK ks) c
  rw [rnK,rnK,h0]
  cases ap k.E (Kx Ja o k.At.toNat) with
  | none=>rfl
  | some u=>exact Z1e o ks _ fun x hx=>h x (.tail _ hx)
theorem Z9m:∀ (n:Nat) (e:Ed) (t:Tr),SizeOf.sizeOf e < n→RX e→NT t→TX t→ap (nE e) t=ap e t
 | 0,_,_,h,_,_,_=>by omega
 | n+1,e,t,hn,hx,nt,tx=>by
  cases hx with
  | same _ k0 =>
   have e1:nE e=eS0:=by rw [Zgs,if_neg (by omega),if_neg (by omega),if_neg (by omega)]
   rw [e1,Zb4 e,if_pos k0,Zb4]
   rfl
  | repl _ k1 =>
   have e1:nE e=⟨1,nrm e.Old,nrm e.New,[],[],0,[]⟩:=by rw [Zgs,if_pos k1]
   rw [e1,Zb4 e,if_neg (by omega),if_pos k1,Zb4]
   simp only
   rw [if_neg (by decide),if_pos trivial,Zpo,Zpo]
  | st _ k2 hw hw2 hk hk2 ih =>
   have e1:nE e=⟨2,Ja,Ja,e.Words,e.Kids.map fun k=>⟨k.At,nE k.E⟩,0,[]⟩:=by rw [Zgs,if_neg (by omega),if_pos k2]
   rw [e1,Zb4 e,if_neg (by omega),if_neg (by omega),if_pos k2,Zb4]
   simp only
   rw [if_neg (by decide),if_neg (by decide),if_pos trivial]
   by_cases ht:t.Kind=1
   ·rw [if_pos ht,if_pos ht,Z1e t.Kids e.Kids t.Kids fun k hkm=>Z9m n k.E _ (by have:=Je hkm;omega) (ih k hkm) (Zhn nt.kids NT.z _) (Zhn tx.all TX.z _)]
   rw [if_neg ht,if_neg ht]
  | li _ k3 hl ho hN ih =>
   have e1:nE e=⟨3,Ja,Ja,[],[],e.List_,Zp1 e.List_ (Uu e.Ops)⟩:=by rw [Zgs,if_neg (by omega),if_neg (by omega),if_pos k3]
   rw [e1,Zb4 e,if_neg (by omega),if_neg (by omega),if_neg (by omega),if_pos k3,Zb4]
   simp only
   rw [if_neg (by decide),if_neg (by decide),if_neg (by decide),if_pos trivial]
   by_cases ht:t.Kind=e.List_
   ·rw [if_pos ht,if_pos ht]
    congr 1
    have hg:GL e.List_ (t.Kids,[]):=fun x hx=>⟨nt.kids x hx,tx.all x hx,fun h9=>tx.s (by omega) x hx⟩
    have:=Z9x (t.Kids,[]) hg e.Ops s0N (fun o ho=>by cases ho) fun o hom=>⟨ho o hom,fun k y hy ty=>Z9m n o.E y (by have:=Kw hom;omega) (ih o hom k) hy ty⟩
    exact this
   rw [if_neg ht,if_neg ht]
def OX (o:EO):Prop:=(o.Kind=0∨o.Kind=3→o.L=[])∧(o.Kind=3→RX o.E)
theorem Z57 {F:List EO} {n:Int} (hF:∀ o∈F,OX o):∀ o∈Uc F n,OX o:=by
 have hq:OX (⟨0,n,[],eS0⟩:EO):=⟨fun _=>rfl,fun h=>by cases h⟩
 by_cases hk:∃ o,F.getLast? = some o∧o.Kind=0
 ·obtain ⟨o,ho,hk0⟩:=hk
  obtain ⟨o',ho'⟩:=List.getLast?_eq_some_iff.1 ho
  subst ho'
  have hoq:=hF o (by simp)
  obtain ⟨k,N,L,E⟩:=o
  simp only at hk0
  subst hk0
  rw [Za7]
  intro x hx
  rcases List.mem_append.1 hx with hx | hx
  ·exact hF x (by simp [hx])
  rw [List.mem_singleton.1 hx]
  exact ⟨fun _=>hoq.1 (.inl rfl),fun h=>by cases h⟩
 rw [Zfe fun o ho h0=>hk ⟨o,ho,h0⟩]
 intro x hx
 rcases List.mem_append.1 hx with hx | hx
 ·exact hF x hx
 rw [List.mem_singleton.1 hx];exact hq
theorem Zsf {s:NW} (h:∀ o∈s.out,OX o):∀ o∈s.flush,OX o:=by
 intro o ho
 unfold NW.flush at ho
 rw [List.mem_append] at ho
 rcases ho with ho | ho
 ·exact h o ho
 have hk:o.Kind=1∨o.Kind=2:=by
  rw [List.mem_append] at ho
  rcases ho with ho | ho
  ·by_cases hg:s.gone=[]
   ·rw [hg] at ho;simp [Zde] at ho
   rw [Zgw hg,List.mem_singleton] at ho
   subst ho;exact .inl rfl
  by_cases hg:s.come=[]
  ·rw [hg] at ho;simp [Zet] at ho
  rw [Zgx hg,List.mem_singleton] at ho
  subst ho;exact .inr rfl
 exact ⟨fun h=>by omega,fun h=>by omega⟩
theorem Yiz {l:Int} {s:NW} {p:EO×Ed} (h:∀ o∈s.out,OX o) (hp:opk p.1) (hE:p.1.Kind=3→RX p.2):∀ o∈(stN l s p).out,OX o:=by
 unfold stN
 split
 ·exact h
 split
 ·exact h
 split
 ·exact Z57 (Zsf h)
 split
 ·exact Z57 (Zsf h)
 intro x hx
 rcases List.mem_append.1 hx with hx | hx
 ·exact Zsf h x hx
 rw [List.mem_singleton.1 hx]
 exact ⟨fun _=>rfl,fun _=>hE (by rcases hp with ⟨q,_⟩ | ⟨q,_⟩ | ⟨q,_⟩ | q <;> first | exact q | contradiction)⟩
theorem Z9w {l:Int}:∀ (os:List EO) (s:NW),(∀ o∈s.out,OX o)→(∀ o∈os,opk o∧(o.Kind=3→RX (nE o.E)))→∀ o∈((Uu os).foldl (stN l) s).out,OX o
 | [],_,h,_=>h
 | o::os,s,h,hq=>Z9w os _ (Yiz (l:=l) (p:=(o,nE o.E)) h (hq o (by simp)).1 (hq o (by simp)).2) fun x hx=>hq x (by simp [hx])
theorem RX.nE {e:Ed} (hx:RX e) (hb:BE e) (hg:GN e):RX (nE e):=by
 induction hx with
 | same e h=>rw [Zgs,if_neg (by omega),if_neg (by omega),if_neg (by omega)];exact .same _ rfl
 | repl e h=>rw [Zgs,if_pos h];exact .repl _ rfl
 | st e h hw hw2 hk hk2 ih ih2 =>
  rw [Zgs,if_neg (by omega),if_pos h]
  refine .st _ rfl hw hw2 ?_ (fun k hk' => ?_) (fun k hk' => ?_)
  ·rw [List.pairwise_map];exact hk
  ·obtain ⟨x,hx,rfl⟩:=List.mem_map.1 hk'
   exact hk2 x hx
  obtain ⟨x,hx,rfl⟩:=List.mem_map.1 hk'
  exact ih2 x hx (hb.ks x hx) (hg.ks x hx)
 | li e h hl ho hN ih ih2 =>
  have hp:=(GN.nE hb hg).p
  rw [Zgs,if_neg (by omega),if_neg (by omega),if_pos h] at hp
  rw [Zgs,if_neg (by omega),if_neg (by omega),if_pos h]
  have hf:=Zsf (Z9w (l:=e.List_) e.Ops s0N (by simp [s0N]) fun o hom=>⟨ho o hom,fun k=>ih2 o hom k (hb.os o hom) (hg.os o hom)⟩)
  exact .li _ rfl hl hp (fun o hom=>(hf o hom).1) (fun o hom=>(hf o hom).2)
theorem Zs9 {o:EO} (h:opk o):((tO o).Kind=0∨(tO o).Kind=3→o.Kind=0∨o.Kind=3)∧((tO o).Kind=3→o.Kind=3):=by
 rcases h with ⟨k,_⟩ | ⟨k,_⟩ | ⟨k,_⟩ | k
 ·rw [Z34 (by omega) (by omega) (by omega)];exact ⟨fun q=>q,fun q=>q⟩
 ·rw [Z6l k];exact ⟨fun q=>by simp at q,fun q=>by simp at q⟩
 ·rw [Z6m k];exact ⟨fun q=>by simp at q,fun q=>by simp at q⟩
 exact ⟨fun _ => .inr k,fun _=>k⟩
theorem RX.tE {e:Ed} (hx:RX e):RX (tE e):=by
 induction hx with
 | same e h=>rw [Zjw];exact .same _ h
 | repl e h=>rw [Zjw];exact .repl _ h
 | st e h hw hw2 hk hk2 ih ih2 =>
  rw [Zjw]
  refine .st _ h ?_ (fun w hw' => ?_) ?_ (fun k hk' => ?_) (fun k hk' => ?_)
  ·rw [List.pairwise_map];exact hw
  ·obtain ⟨x,hx,rfl⟩:=List.mem_map.1 hw'
   exact hw2 x hx
  ·rw [List.pairwise_map];exact hk
  ·obtain ⟨x,hx,rfl⟩:=List.mem_map.1 hk'
   exact hk2 x hx
  obtain ⟨x,hx,rfl⟩:=List.mem_map.1 hk'
  exact ih2 x hx
 | li e h hl ho hN ih ih2 =>
  rw [Zjw]
  refine .li _ h hl (fun o hom => ?_) (fun o hom => ?_) (fun o hom => ?_) <;> obtain ⟨x,hx,rfl⟩:=List.mem_map.1 hom
  ·exact Z70 (ho x hx)
  ·intro q;rw [Yeh];exact hN x hx ((Zs9 (ho x hx)).1 q)
  intro q
  have k3:=(Zs9 (ho x hx)).2 q
  rw [Zy6 k3]
  exact ih2 x hx k3
theorem Z48 {e:Ed} {t u:Tr} (h:CA e t) (hu:ap e (nrm t)=some u):Bd u:=by
 obtain ⟨v,b,h1,h2,h3⟩:=(Zwx (4 * SizeOf.sizeOf e+1)).1 e t h (by omega)
 obtain ⟨g1,g2⟩:=h3 u hu
 rw [← g1];exact g2.nrm
theorem CA.of {e:Ed} {t:Tr} (hb:BE e) (hr:rE e 64=true) (hc:ce e≤3000) (ht:Bd t) (hp:pt t≤3000):CA e t :=
 ⟨Yd3 _ e 64 (Nat.lt_succ_self _) hr,hb,Z9z _ e 64 (Nat.lt_succ_self _) hb (by omega) hr,by omega,ht⟩
theorem Zm0 {o:EO} (h:opk o):Zh3 o=some ((X3 o:Nat):Int)∧1≤X3 o:=by
 unfold Zh3 X3
 rcases h with ⟨k,h⟩ | ⟨k,h⟩ | ⟨k,h⟩ | k
 ·rw [if_pos k,show (o.Kind == 0)=true from by rw [k];rfl,cond_true]
  exact ⟨by congr 1;omega,by omega⟩
 ·have:=List.length_pos_iff.2 h
  rw [if_neg (by omega),if_neg (by omega),show (o.Kind == 0)=false from by rw [k];rfl,show (o.Kind == 1)=true from by rw [k];rfl]
  exact ⟨rfl,by omega⟩
 ·have:=List.length_pos_iff.2 h
  rw [if_neg (by omega),if_neg (by omega),show (o.Kind == 0)=false from by rw [k];rfl,show (o.Kind == 1)=false from by rw [k];rfl,show (o.Kind == 2)=true from by rw [k];rfl]
  exact ⟨rfl,by omega⟩
 rw [if_neg (by omega),if_pos k,show (o.Kind == 0)=false from by rw [k];rfl,show (o.Kind == 1)=false from by rw [k];rfl,show (o.Kind == 2)=false from by rw [k];rfl]
 exact ⟨rfl,by omega⟩
def Yci (a:List EO) (g:Nat):Prop:=match a with
 | []=>g=0
 | o::_=>g≤X3 o
structure CI (a:List EO) (g:Nat):Prop where
 p:∀ o∈a,opk o
 s:Qw a≤1073741824
 g:Yci a g
def nxA (a:List EO) (g:Nat):List EO:=match a with
 | []=>[]
 | o::r=>if g < X3 o then o::r else r
def nxG (a:List EO) (g:Nat):Nat:=match a with
 | []=>0
 | o::_=>if g < X3 o then g else 0
def kdA (a:List EO):Int:=match a with
 | []=>0
 | o::_=>o.Kind
def lfA (a:List EO) (g:Nat):Int:=match a with
 | []=>0
 | o::_=>((X3 o - g:Nat):Int)
def mu (a:List EO) (g:Nat):Nat:=match a with
 | []=>0
 | o::r=>r.length+(if g < X3 o then 1 else 0)
theorem Yho (a:List EO) (g:Nat):mu a g≤a.length:=by
 unfold mu
 split
 ·simp
 rename_i o r
 rw [List.length_cons]
 split <;> omega
theorem Yhq {a:List EO} {g:Nat} (h:CI a g):CI (nxA a g) (nxG a g)∧(∀ o r,nxA a g=o::r→nxG a g < X3 o)∧mu (nxA a g) (nxG a g)=mu a g:=by
 cases a with
 | nil=>exact ⟨⟨h.p,h.s,rfl⟩,fun o r e=>by simp [nxA] at e,rfl⟩
 | cons o r =>
  have hs:=h.s
  rw [Zch] at hs
  by_cases hg:g < X3 o
  ·have e1:nxA (o::r) g=o::r:=if_pos hg
   have e2:nxG (o::r) g=g:=if_pos hg
   rw [e1,e2]
   exact ⟨h,fun o' r' e=>by injection e with e _;rw [← e];exact hg,rfl⟩
  have e1:nxA (o::r) g=r:=if_neg hg
  have e2:nxG (o::r) g=0:=if_neg hg
  have e3:mu (o::r) g=r.length:=by show r.length+(if g < X3 o then 1 else 0)=_;rw [if_neg hg,Nat.add_zero]
  rw [e1,e2,e3]
  have hp:∀ x∈r,opk x:=fun x hx=>h.p x (by simp [hx])
  cases r with
  | nil=>exact ⟨⟨hp,by omega,rfl⟩,fun o' r' e=>by simp at e,rfl⟩
  | cons o' r' =>
   have:=(Zm0 (hp o' (by simp))).2
   refine ⟨⟨hp,by omega,Nat.zero_le _⟩,fun x y e=>by injection e with e _;rw [← e];omega,?_⟩
   show r'.length+(if 0 < X3 o' then 1 else 0)=_
   rw [if_pos (by omega)];rfl
theorem Yc7 (g:Int):Jr ([],g)=some (.inr (.inr ([],g))):=rfl
theorem Z96 {o:EO} {r:List EO} {g:Nat} (ho:opk o) (hs:X3 o≤1073741824) (hg:g < X3 o):Jr (o::r,((g:Nat):Int))=some (.inr (.inl (o.Kind,((X3 o - g:Nat):Int),o::r,((g:Nat):Int)))):=by
 unfold Jr
 have e0:Xr (o::r) 0=some o:=Yw (i:=0) rfl
 have e1:decide (0 < ((o::r).length:Int))=true:=by rw [decide_eq_true_eq,List.length_cons];omega
 have e2:IntKind.i64.wrap (((X3 o:Nat):Int) - ((g:Nat):Int))=((X3 o - g:Nat):Int):=by rw [Ul (by omega) (by omega)];omega
 have e3:decide (0 < ((X3 o - g:Nat):Int))=true:=by rw [decide_eq_true_eq];omega
 simp only
 rw [e1,cond_true,e0,Option.bind_some,(Zm0 ho).1,Option.bind_some,e2,e3,cond_true,Option.bind_some]
theorem Ygh {o:EO} {r:List EO} (ho:opk o) (hs:X3 o≤1073741824):Jr (o::r,((X3 o:Nat):Int))=some (.inl (r,0)):=by
 unfold Jr
 have e0:Xr (o::r) 0=some o:=Yw (i:=0) rfl
 have e1:decide (0 < ((o::r).length:Int))=true:=by rw [decide_eq_true_eq,List.length_cons];omega
 have e2:IntKind.i64.wrap (((X3 o:Nat):Int) - ((X3 o:Nat):Int))=0:=by rw [Int.sub_self];rfl
 have e4:Zcl (o::r) 1 ((o::r).length:Int)=some r:=by
  rw [Zjd (by omega) (by rw [List.length_cons];omega) (Int.le_refl _)]
  simp
 simp only
 rw [e1,cond_true,e0,Option.bind_some,(Zm0 ho).1,Option.bind_some,e2,show decide ((0:Int) < 0)=false from rfl,cond_false,e4,Option.bind_some]
theorem Yaf {a:List EO} {g:Nat} (h:CI a g):Yx ⟨a,((g:Nat):Int)⟩=some (kdA (nxA a g),lfA (nxA a g) (nxG a g),⟨nxA a g,((nxG a g:Nat):Int)⟩):=by
 unfold Yx
 simp only
 cases a with
 | nil =>
  have hg:g=0:=h.g
  subst hg
  rw [Z8 (Yc7 _),Option.bind_some]
  rfl
 | cons o r =>
  have hs:=h.s
  rw [Zch] at hs
  have ho:=h.p o (by simp)
  by_cases hg:g < X3 o
  ·have e1:nxA (o::r) g=o::r:=if_pos hg
   have e2:nxG (o::r) g=g:=if_pos hg
   rw [e1,e2,Z8 (Z96 ho (by omega) hg),Option.bind_some]
   rfl
  have hgg:g=X3 o:=by have:g≤X3 o:=h.g;omega
  have e1:nxA (o::r) g=r:=if_neg hg
  have e2:nxG (o::r) g=0:=if_neg hg
  rw [e1,e2,hgg,Yr (Ygh ho (by omega))]
  cases r with
  | nil=>rw [Z8 (Yc7 _),Option.bind_some];rfl
  | cons o' r' =>
   have ho':=h.p o' (by simp)
   have:=(Zm0 ho').2
   rw [Zch] at hs
   have:=Z8 (Z96 (r:=r') (g:=0) ho' (by omega) (by omega))
   rw [show (((0:Nat):Int))=0 from rfl] at this
   rw [this,Option.bind_some]
   rfl
theorem eat {o:EO} {r:List EO} {g n:Nat} (h:CI (o::r) g) (hn:g+n≤X3 o):CI (o::r) (g+n)∧mu (o::r) (g+n)≤mu (o::r) g∧(g < X3 o→g+n=X3 o→mu (o::r) (g+n)+1≤mu (o::r) g):=by
 refine ⟨⟨h.p,h.s,hn⟩,?_,fun h1 h2 => ?_⟩
 ·show r.length+(if g+n < X3 o then 1 else 0)≤r.length+(if g < X3 o then 1 else 0)
  split <;> split <;> omega
 show r.length+(if g+n < X3 o then 1 else 0)+1≤r.length+(if g < X3 o then 1 else 0)
 rw [if_neg (by omega),if_pos h1];omega
theorem Zbk (x:EO) (p:List EO) (s:List Tr×List Tr):RO (x::p) s=(stO x (ap x.E) s).bind (RO p):=rfl
theorem Zj6 {o:EO} (k:o.Kind=0) (f:Tr→Option Tr) (s:List Tr×List Tr):stO o f s=Zh0 o.N s:=by unfold stO Zh0;rw [if_pos k]
theorem Zhc {o:EO} (k:o.Kind=1) (f:Tr→Option Tr) (s:List Tr×List Tr):stO o f s=Zis o.L s:=by unfold stO Zis;rw [if_neg (by omega),if_pos k]
theorem Zj7 {o:EO} (k:o.Kind=2) (f:Tr→Option Tr) (s:List Tr×List Tr):stO o f s=Zjy o.L s:=by unfold stO Zjy;rw [if_neg (by omega),if_neg (by omega),if_pos k]
theorem Zib {o:EO} (h:opk o):o.Kind=0∨o.Kind=1∨o.Kind=2∨o.Kind=3:=by
 rcases h with ⟨k,_⟩ | ⟨k,_⟩ | ⟨k,_⟩ | k
 ·exact .inl k
 ·exact .inr (.inl k)
 ·exact .inr (.inr (.inl k))
 exact .inr (.inr (.inr k))
theorem Yau {x:EO} (hx:opk x) (f:Tr→Option Tr) (l o:List Tr):stO x f (l,o)=(stO x f (l,[])).map fun y=>(y.1,o++y.2):=by
 rcases Zib hx with k | k | k | k
 ·rw [Zj6 k,Zj6 k]
  unfold Zh0
  simp only
  split <;> simp
 ·rw [Zhc k,Zhc k]
  unfold Zis
  simp only
  split <;> simp
 ·rw [Zj7 k,Zj7 k]
  unfold Zjy
  simp
 rw [Zle k,Zle k]
 cases l with
 | nil=>rfl
 | cons y l =>
  simp only
  cases f y <;> simp
theorem Z64:∀ (p:List EO),(∀ o∈p,opk o)→∀ (l o:List Tr),RO p (l,o)=(RO p (l,[])).map fun y=>(y.1,o++y.2)
 | [],_,l,o=>by rw [Zmu,Zmu];simp
 | x::p,hp,l,o=>by
  rw [Zbk,Zbk,Yau (hp x (.head _))]
  cases h:stO x (ap x.E) (l,[]) with
  | none=>rfl
  | some y =>
   obtain ⟨l1,xs⟩:=y
   simp only [Option.map_some,Option.bind_some]
   have ih:=Z64 p fun z hz=>hp z (.tail _ hz)
   rw [ih l1 (o++xs),ih l1 xs,Option.map_map]
   congr 1
   funext y
   simp
def CC (p q:List EO) (s:List Tr×List Tr):Option (List Tr×List Tr):=(RO p (s.1,[])).bind fun x=>(RO q (x.2,s.2)).bind fun y=>if y.1.length=0 then some (x.1,y.2) else none
theorem Zr3 {p p' q q':List EO} (h1:∀ s,RO p s=RO p' s) (h2:∀ s,RO q s=RO q' s) (s:List Tr×List Tr):CC p q s=CC p' q' s:=by
 unfold CC
 rw [h1]
 congr 1
 funext x
 rw [h2]
theorem Yh2 (s:List Tr×List Tr):CC [] [] s=some s:=rfl
theorem Yb4 {x:EO} (k:x.Kind=1) (p q:List EO) (s:List Tr×List Tr):CC (x::p) q s=(stO x (ap x.E) s).bind (CC p q):=by
 unfold CC
 rw [Zbk,Zhc k,Zhc k]
 unfold Zis
 simp only
 split <;> rfl
theorem Z0n {y:EO} (k:y.Kind=2) (p q:List EO) (s:List Tr×List Tr):CC p (y::q) s=(stO y (ap y.E) s).bind (CC p q):=by
 unfold CC
 rw [Zj7 k]
 unfold Zjy
 simp only [Option.bind_some]
 congr 1
 funext x
 rw [Zbk,Zj7 k]
 rfl
theorem Yd0 {x:EO} (hx:opk x) (k1:x.Kind≠1) {f:Tr→Option Tr} {l l1 xs:List Tr} (h:stO x f (l,[])=some (l1,xs)):xs.length=X3 x:=by
 unfold X3
 rcases Zib hx with k | k | k | k
 ·rw [Zj6 k] at h
  unfold Zh0 at h
  simp only at h
  split at h
  ·injection h with h
   injection h with _ h
   rw [← h,if_pos k]
   simp only [List.nil_append,List.length_take]
   omega
  cases h
 ·exact absurd k k1
 ·rw [Zj7 k] at h
  unfold Zjy at h
  injection h with h
  injection h with _ h
  rw [← h,if_neg (by omega),if_neg (by omega)]
  simp
 rw [Zle k] at h
 cases l with
 | nil=>cases h
 | cons y l =>
  simp only at h
  cases hf:f y with
  | none=>rw [hf] at h;cases h
  | some u =>
   rw [hf] at h
   simp only [Option.map_some,Option.some.injEq,Prod.mk.injEq] at h
   rw [← h.2,if_neg (by omega),if_pos k]
   rfl
theorem Z9q {y:EO} (hy:opk y) (k2:y.Kind≠2) (f:Tr→Option Tr) {xs:List Tr} (hl:xs.length=X3 y) (mm out:List Tr):stO y f (xs++mm,out)=(stO y f (xs,out)).map (fun z=>(z.1++mm,z.2))∧∀ z,stO y f (xs,out)=some z→z.1=[]:=by
 unfold X3 at hl
 rcases Zib hy with k | k | k | k
 ·rw [if_pos k] at hl
  have hn:0≤y.N:=by
   rcases hy with ⟨_,h⟩ | ⟨k',_⟩ | ⟨k',_⟩ | k' <;> omega
  rw [Zj6 k,Zj6 k]
  unfold Zh0
  simp only
  rw [if_pos ⟨hn,by rw [List.length_append];omega⟩,if_pos ⟨hn,by omega⟩]
  refine ⟨?_,fun z hz => ?_⟩
  ·simp only [Option.map_some,Option.some.injEq,Prod.mk.injEq]
   rw [← hl,List.drop_left,List.take_left,List.drop_length,List.take_length,List.nil_append]
   exact ⟨rfl,rfl⟩
  injection hz with hz
  rw [← hz]
  simp only
  rw [← hl,List.drop_length]
 ·rw [if_neg (by omega),if_neg (by omega)] at hl
  rw [Zhc k,Zhc k]
  unfold Zis
  simp only
  rw [← hl,List.take_left,List.take_length,List.drop_left,List.drop_length]
  refine ⟨?_,fun z hz => ?_⟩
  ·split <;> simp
  split at hz
  ·injection hz with hz
   rw [← hz]
  cases hz
 ·exact absurd k k2
 rw [if_neg (by omega),if_pos k] at hl
 rw [Zle k,Zle k]
 obtain ⟨x,rfl⟩:=List.length_eq_one_iff.1 hl
 simp only [List.cons_append,List.nil_append]
 refine ⟨?_,fun z hz => ?_⟩
 ·cases f x <;> simp
 cases hf:f x with
 | none=>rw [hf] at hz;cases hz
 | some u =>
  rw [hf] at hz
  simp only [Option.map_some,Option.some.injEq] at hz
  rw [← hz]
theorem Yfs {y:EO} (hy:opk y) (k2:y.Kind≠2) (q:List EO) (s:List Tr×List Tr):CC [] (y::q) s=none:=by
 unfold CC
 rw [Zmu,Option.bind_some,Zbk]
 have:stO y (ap y.E) ([],s.2)=none:=by
  rcases hy with ⟨k,h⟩ | ⟨k,h⟩ | ⟨k,h⟩ | k
  ·rw [Zj6 k];unfold Zh0;rw [if_neg (by simp only [List.length_nil];omega)]
  ·rw [Zhc k];unfold Zis;rw [if_neg]
   simp only [List.take_nil]
   intro e
   have:=congrArg List.length e
   simp only [List.length_nil,List.length_map] at this
   exact h (List.eq_nil_of_length_eq_zero this.symm)
  ·exact absurd k k2
  rw [Zle k]
 rw [this]
 rfl
theorem Yft {x:EO} (hx:opk x) (k1:x.Kind≠1) {p:List EO} (hp:∀ o∈p,opk o) (s:List Tr×List Tr):CC (x::p) [] s=none:=by
 unfold CC
 rw [Zbk]
 cases h:stO x (ap x.E) (s.1,[]) with
 | none=>rfl
 | some y =>
  obtain ⟨l1,xs⟩:=y
  have hn:=Yd0 hx k1 h
  have h1:=(Zm0 hx).2
  rw [Option.bind_some,Z64 p hp]
  cases RO p (l1,[]) with
  | none=>rfl
  | some z =>
   simp only [Option.map_some,Option.bind_some]
   rw [Zmu,Option.bind_some]
   simp only [List.length_append]
   rw [if_neg (by omega)]
theorem Yfu {x y:EO} (hx:opk x) (hy:opk y) (k1:x.Kind≠1) (k2:y.Kind≠2) (hxy:X3 x=X3 y) {p q:List EO} (hp:∀ o∈p,opk o) (s:List Tr×List Tr):CC (x::p) (y::q) s=(CC [x] [y] s).bind (CC p q):=by
 unfold CC
 rw [Zbk,Zbk]
 cases h:stO x (ap x.E) (s.1,[]) with
 | none=>rfl
 | some z =>
  obtain ⟨l1,xs⟩:=z
  have hn:=Yd0 hx k1 h
  rw [Option.bind_some,Option.bind_some,Z64 p hp,Zmu,Option.bind_some]
  simp only
  rw [Zbk]
  have e0:=(Z9q hy k2 (ap y.E) (xs:=xs) (by omega) [] s.2).2
  cases hy':stO y (ap y.E) (xs,s.2) with
  | none =>
   simp only [Option.bind_none]
   cases RO p (l1,[]) with
   | none=>rfl
   | some w =>
    simp only [Option.map_some,Option.bind_some]
    rw [Zbk,(Z9q hy k2 (ap y.E) (by omega) w.2 s.2).1,hy']
    rfl
  | some z =>
   have ez:=e0 z hy'
   rw [Option.bind_some,Zmu,Option.bind_some,ez]
   simp only [List.length_nil,if_true,Option.bind_some]
   cases RO p (l1,[]) with
   | none=>rfl
   | some w =>
    simp only [Option.map_some,Option.bind_some]
    rw [Zbk,(Z9q hy k2 (ap y.E) (by omega) w.2 s.2).1,hy',Option.map_some,Option.bind_some,ez,List.nil_append]
def ctO (o:EO) (g:Nat):EO:=if o.Kind=0 then ⟨o.Kind,o.N - (g:Int),o.L,o.E⟩ else if o.Kind=3 then o else ⟨o.Kind,o.N,o.L.drop g,o.E⟩
def tkO (o:EO) (g n:Nat):EO:=if o.Kind=0 then ⟨o.Kind,(n:Int),o.L,o.E⟩ else if o.Kind=3 then o else ⟨o.Kind,o.N,(o.L.drop g).take n,o.E⟩
theorem Zpa (o:EO) (g n:Nat):(tkO o g n).Kind=o.Kind∧(tkO o g n).E=o.E∧(∀ t∈(tkO o g n).L,t∈o.L):=by
 unfold tkO
 split
 ·exact ⟨rfl,rfl,fun t h=>h⟩
 split
 ·exact ⟨rfl,rfl,fun t h=>h⟩
 exact ⟨rfl,rfl,fun t h=>List.mem_of_mem_drop (List.mem_of_mem_take h)⟩
theorem Yhl (o:EO) (g:Nat):(ctO o g).Kind=o.Kind∧(ctO o g).E=o.E∧(∀ t∈(ctO o g).L,t∈o.L):=by
 unfold ctO
 split
 ·exact ⟨rfl,rfl,fun t h=>h⟩
 split
 ·exact ⟨rfl,rfl,fun t h=>h⟩
 exact ⟨rfl,rfl,fun t h=>List.mem_of_mem_drop h⟩
theorem Zrs {o:EO} (ho:opk o) {g n:Nat} (hn:1≤n) (h:g+n≤X3 o):X3 (tkO o g n)=n∧opk (tkO o g n):=by
 unfold X3 at h
 rcases ho with ⟨k,h1⟩ | ⟨k,h1⟩ | ⟨k,h1⟩ | k
 ·have e:tkO o g n=⟨o.Kind,(n:Int),o.L,o.E⟩:=by unfold tkO;rw [if_pos k]
  rw [e]
  unfold X3
  rw [if_pos k]
  exact ⟨by simp,.inl ⟨k,by simp only;omega⟩⟩
 ·have e:tkO o g n=⟨o.Kind,o.N,(o.L.drop g).take n,o.E⟩:=by unfold tkO;rw [if_neg (by omega),if_neg (by omega)]
  rw [if_neg (by omega),if_neg (by omega)] at h
  have hl:((o.L.drop g).take n).length=n:=by rw [List.length_take,List.length_drop];omega
  rw [e]
  unfold X3
  rw [if_neg (by simp only;omega),if_neg (by simp only;omega)]
  exact ⟨hl,.inr (.inl ⟨k,fun q=>by simp only at q;rw [q] at hl;simp at hl;omega⟩)⟩
 ·have e:tkO o g n=⟨o.Kind,o.N,(o.L.drop g).take n,o.E⟩:=by unfold tkO;rw [if_neg (by omega),if_neg (by omega)]
  rw [if_neg (by omega),if_neg (by omega)] at h
  have hl:((o.L.drop g).take n).length=n:=by rw [List.length_take,List.length_drop];omega
  rw [e]
  unfold X3
  rw [if_neg (by simp only;omega),if_neg (by simp only;omega)]
  exact ⟨hl,.inr (.inr (.inl ⟨k,fun q=>by simp only at q;rw [q] at hl;simp at hl;omega⟩))⟩
 have e:tkO o g n=o:=by unfold tkO;rw [if_neg (by omega),if_pos k]
 rw [if_neg (by omega),if_pos k] at h
 rw [e]
 unfold X3
 rw [if_neg (by omega),if_pos k]
 exact ⟨by omega,.inr (.inr (.inr k))⟩
theorem Zw4 {o:EO} (ho:opk o) {g:Nat} (h:g < X3 o):X3 (ctO o g)=X3 o - g∧opk (ctO o g):=by
 have e:ctO o g=tkO o g (X3 o - g):=by
  unfold X3 at h ⊢
  unfold ctO tkO
  rcases Zib ho with k | k | k | k
  ·rw [if_pos k,if_pos k]
   rw [if_pos k] at h
   rw [if_pos k]
   congr 1
   omega
  ·rw [if_neg (by omega),if_neg (by omega),if_neg (by omega),if_neg (by omega),if_neg (by omega),if_neg (by omega),List.take_of_length_le (by rw [List.length_drop];omega)]
  ·rw [if_neg (by omega),if_neg (by omega),if_neg (by omega),if_neg (by omega),if_neg (by omega),if_neg (by omega),List.take_of_length_le (by rw [List.length_drop];omega)]
  rw [if_neg (by omega),if_pos k,if_neg (by omega),if_pos k]
 rw [e]
 exact Zrs ho (by omega) (by omega)
def Zff (a:List EO) (g:Nat):List EO:=match a with
 | []=>[]
 | o::r=>if g < X3 o then ctO o g::r else r
theorem Yg0 {a:List EO} {g:Nat} (hp:∀ o∈a,opk o):∀ o∈Zff a g,opk o:=fun o ho=>by
 cases a with
 | nil=>cases ho
 | cons x r =>
  unfold Zff at ho
  simp only at ho
  split at ho
  ·rename_i hg
   rcases List.mem_cons.1 ho with rfl | ho
   ·exact (Zw4 (hp x (.head _)) hg).2
   exact hp o (.tail _ ho)
  exact hp o (.tail _ ho)
theorem Yaq {a:List EO} (hp:∀ o∈a,opk o) (g:Nat):Zff (nxA a g) (nxG a g)=Zff a g:=by
 cases a with
 | nil=>rfl
 | cons o r =>
  by_cases hg:g < X3 o
  ·rw [show nxA (o::r) g=o::r from if_pos hg,show nxG (o::r) g=g from if_pos hg]
  rw [show nxA (o::r) g=r from if_neg hg,show nxG (o::r) g=0 from if_neg hg,show Zff (o::r) g=r from if_neg hg]
  cases r with
  | nil=>rfl
  | cons x r =>
   have:=(Zm0 (hp x (by simp))).2
   show (if 0 < X3 x then ctO x 0::r else r)=x::r
   rw [if_pos (by omega)]
   congr 1
   unfold ctO
   split
   ·cases x;simp
   split
   ·rfl
   cases x;simp
theorem Zo0 {o:EO} {r:List EO} (ho:opk o) {g n:Nat} (hn:1≤n) (h:g+n≤X3 o) (s:List Tr×List Tr):RO (Zff (o::r) g) s=RO (tkO o g n::Zff (o::r) (g+n)) s:=by
 have e1:Zff (o::r) g=ctO o g::r:=if_pos (by omega)
 rw [e1,Zbk,Zbk]
 unfold Zff
 simp only
 rcases ho with ⟨k,h1⟩ | ⟨k,h1⟩ | ⟨k,h1⟩ | k
 ·have et:X3 o=o.N.toNat:=if_pos k
  rw [et] at h ⊢
  have c1:∀ g:Nat,ctO o g=⟨o.Kind,o.N - (g:Int),o.L,o.E⟩:=fun g=>by unfold ctO;rw [if_pos k]
  have c2:tkO o g n=⟨o.Kind,(n:Int),o.L,o.E⟩:=by unfold tkO;rw [if_pos k]
  rw [c1,c2,Zj6 (o:=⟨o.Kind,o.N - (g:Int),o.L,o.E⟩) k,Zj6 (o:=⟨o.Kind,(n:Int),o.L,o.E⟩) k]
  simp only
  by_cases hq:g+n < o.N.toNat
  ·rw [if_pos hq,c1,show o.N - (g:Int)=(n:Int)+(o.N - ((g+n:Nat):Int)) by omega,Z03 (by omega) (by omega),Option.bind_assoc]
   congr 1
   funext x
   rw [Zbk,Zj6 (o:=⟨o.Kind,o.N - ((g+n:Nat):Int),o.L,o.E⟩) k]
  rw [if_neg hq,show o.N - (g:Int)=(n:Int) by omega]
 ·have et:X3 o=o.L.length:=by unfold X3;rw [if_neg (by omega),if_neg (by omega)]
  rw [et] at h ⊢
  have c1:∀ g:Nat,ctO o g=⟨o.Kind,o.N,o.L.drop g,o.E⟩:=fun g=>by unfold ctO;rw [if_neg (by omega),if_neg (by omega)]
  have c2:tkO o g n=⟨o.Kind,o.N,(o.L.drop g).take n,o.E⟩:=by unfold tkO;rw [if_neg (by omega),if_neg (by omega)]
  rw [c1,c2,Zhc (o:=⟨o.Kind,o.N,o.L.drop g,o.E⟩) k,Zhc (o:=⟨o.Kind,o.N,(o.L.drop g).take n,o.E⟩) k]
  simp only
  have es:o.L.drop g=(o.L.drop g).take n++o.L.drop (g+n):=by rw [← List.drop_drop,List.take_append_drop]
  by_cases hq:g+n < o.L.length
  ·rw [if_pos hq,c1]
   conv=>lhs;rw [es]
   rw [Z5d,Option.bind_assoc]
   congr 1
   funext x
   rw [Zbk,Zhc (o:=⟨o.Kind,o.N,o.L.drop (g+n),o.E⟩) k]
  rw [if_neg hq,List.take_of_length_le (by rw [List.length_drop];omega)]
 ·have et:X3 o=o.L.length:=by unfold X3;rw [if_neg (by omega),if_neg (by omega)]
  rw [et] at h ⊢
  have c1:∀ g:Nat,ctO o g=⟨o.Kind,o.N,o.L.drop g,o.E⟩:=fun g=>by unfold ctO;rw [if_neg (by omega),if_neg (by omega)]
  have c2:tkO o g n=⟨o.Kind,o.N,(o.L.drop g).take n,o.E⟩:=by unfold tkO;rw [if_neg (by omega),if_neg (by omega)]
  rw [c1,c2,Zj7 (o:=⟨o.Kind,o.N,o.L.drop g,o.E⟩) k,Zj7 (o:=⟨o.Kind,o.N,(o.L.drop g).take n,o.E⟩) k]
  simp only
  have es:o.L.drop g=(o.L.drop g).take n++o.L.drop (g+n):=by rw [← List.drop_drop,List.take_append_drop]
  by_cases hq:g+n < o.L.length
  ·rw [if_pos hq,c1]
   conv=>lhs;rw [es]
   rw [Z5s,Option.bind_assoc]
   congr 1
   funext x
   rw [Zbk,Zj7 (o:=⟨o.Kind,o.N,o.L.drop (g+n),o.E⟩) k]
  rw [if_neg hq,List.take_of_length_le (by rw [List.length_drop];omega)]
 have et:X3 o=1:=by unfold X3;rw [if_neg (by omega),if_pos k]
 rw [et] at h ⊢
 have c1:ctO o g=o:=by unfold ctO;rw [if_neg (by omega),if_pos k]
 have c2:tkO o g n=o:=by unfold tkO;rw [if_neg (by omega),if_pos k]
 rw [c1,c2,if_neg (by omega)]
theorem Zs2 {o:EO} {r:List EO} (ho:opk o) {g n:Nat} (hn:1≤n) (h:g+n≤X3 o):n+Qw (Zff (o::r) (g+n))=Qw (Zff (o::r) g):=by
 have e1:Zff (o::r) g=ctO o g::r:=if_pos (by omega)
 rw [e1,Zch,(Zw4 ho (by omega)).1]
 by_cases hq:g+n < X3 o
 ·rw [show Zff (o::r) (g+n)=ctO o (g+n)::r from if_pos hq,Zch,(Zw4 ho hq).1]
  omega
 rw [show Zff (o::r) (g+n)=r from if_neg hq]
 omega
theorem Zo9 {o:EO} {r:List EO} {g n:Nat} (ho:opk o) (hs:X3 o≤1073741824) (hn:1≤n) (h:g+n≤X3 o):J0 ⟨o::r,((g:Nat):Int)⟩ ((n:Nat):Int)=some (tkO o g n,⟨o::r,((g+n:Nat):Int)⟩):=by
 unfold J0 tkO
 have e0:Xr (o::r) 0=some o:=Yw (i:=0) rfl
 have e2:IntKind.i64.wrap (((g:Nat):Int)+((n:Nat):Int))=((g+n:Nat):Int):=by rw [Ul (by omega) (by omega)];omega
 simp only
 rw [e0,Option.bind_some,e2]
 rcases Zib ho with k | k | k | k
 ·rw [if_pos k,show (o.Kind == 0)=true from by rw [k];rfl,cond_true,Option.bind_some]
 ·have et:X3 o=o.L.length:=by unfold X3;rw [if_neg (by omega),if_neg (by omega)]
  rw [et] at h
  rw [if_neg (by omega),if_neg (by omega),show (o.Kind == 0)=false from by rw [k];rfl,show (o.Kind == 1)=true from by rw [k];rfl,cond_false,cond_true,Option.bind_some,cond_true,Zjd (by omega) (by omega) (by omega),Option.bind_some,Option.bind_some,Int.toNat_natCast,show (((g+n:Nat):Int) - ((g:Nat):Int)).toNat=n by omega]
 ·have et:X3 o=o.L.length:=by unfold X3;rw [if_neg (by omega),if_neg (by omega)]
  rw [et] at h
  rw [if_neg (by omega),if_neg (by omega),show (o.Kind == 0)=false from by rw [k];rfl,show (o.Kind == 1)=false from by rw [k];rfl,show (o.Kind == 2)=true from by rw [k];rfl,cond_false,cond_false,Option.bind_some,cond_true,Zjd (by omega) (by omega) (by omega),Option.bind_some,Option.bind_some,Int.toNat_natCast,show (((g+n:Nat):Int) - ((g:Nat):Int)).toNat=n by omega]
 rw [if_neg (by omega),if_pos k,show (o.Kind == 0)=false from by rw [k];rfl,show (o.Kind == 1)=false from by rw [k];rfl,show (o.Kind == 2)=false from by rw [k];rfl,cond_false,cond_false,Option.bind_some,cond_false,Option.bind_some]
 cases o
 rfl
abbrev Pc:=Zy
def PM (c:Pc) (s:List Tr×List Tr):Option (List Tr×List Tr):=if c.Of=1 then stO c.P (ap c.P.E) s else if c.Of=2 then stO c.Q (ap c.Q.E) s else CC [c.P] [c.Q] s
def PMs:List Pc→List Tr×List Tr→Option (List Tr×List Tr)
 | [],s=>some s
 | c::r,s=>(PM c s).bind (PMs r)
def thP (c:Pc):Nat:=if c.Of=2 then X3 c.Q else X3 c.P
structure Fr (a:List EO) (x:EO):Prop where
 k:opk x
 o:∃ y∈a,x.Kind=y.Kind∧x.E=y.E∧∀ t∈x.L,t∈y.L
theorem Fr.tk {a:List EO} {o:EO} (hm:o∈a) (ho:opk o) {g n:Nat} (hn:1≤n) (h:g+n≤X3 o):Fr a (tkO o g n):=⟨(Zrs ho hn h).2,o,hm,Zpa o g n⟩
theorem Fr.sub {a b:List EO} {x:EO} (h:Fr a x) (hs:∀ o∈a,o∈b):Fr b x:=⟨h.k,by obtain ⟨y,h1,h2⟩:=h.o;exact ⟨y,hs y h1,h2⟩⟩
def PG (a b:List EO) (c:Pc):Prop:=(c.Of=1∧c.P.Kind=1∧Fr a c.P)∨(c.Of=2∧c.Q.Kind=2∧Fr b c.Q)∨(c.Of=0∧c.P.Kind≠1∧c.Q.Kind≠2∧X3 c.P=X3 c.Q∧Fr a c.P∧Fr b c.Q)
theorem PG.sub {a a' b b':List EO} {c:Pc} (h:PG a b c) (ha:∀ o∈a,o∈a') (hb:∀ o∈b,o∈b'):PG a' b' c:=by
 rcases h with ⟨h1,h2,h3⟩ | ⟨h1,h2,h3⟩ | ⟨h1,h2,h3,h4,h5,h6⟩
 ·exact .inl ⟨h1,h2,h3.sub ha⟩
 ·exact .inr (.inl ⟨h1,h2,h3.sub hb⟩)
 exact .inr (.inr ⟨h1,h2,h3,h4,h5.sub ha,h6.sub hb⟩)
theorem Yaj (a:List EO) (g:Nat):∀ o∈nxA a g,o∈a:=fun o ho=>by
 cases a with
 | nil=>exact ho
 | cons x r =>
  unfold nxA at ho
  simp only at ho
  split at ho
  ·exact ho
  exact .tail _ ho
def Rnd (a:List EO) (g:Nat) (b:List EO) (h:Nat) (out:List Pc) (r:((List Zh)×Int×(List Zh)×Int×(List Zy)) ⊕ ((List Zy)×Bool)):Prop :=
 (r = .inr (out,true)∧∀ s,CC (Zff a g) (Zff b h) s=some s)∨(r = .inr ([],false)∧∀ s,CC (Zff a g) (Zff b h) s=none) ∨
  ∃ a' g' b' h' c,r = .inl (a',((g':Nat):Int),b',((h':Nat):Int),out++[c])∧CI a' g'∧CI b' h'∧mu a' g'+mu b' h'+1≤mu a g+mu b h∧(∀ o∈a',o∈a)∧(∀ o∈b',o∈b)∧PG a b c ∧
   (∀ s,CC (Zff a g) (Zff b h) s=(PM c s).bind (CC (Zff a' g') (Zff b' h')))∧thP c+(Qw (Zff a' g')+Qw (Zff b' h'))≤Qw (Zff a g)+Qw (Zff b h)
theorem Yd7 {a:List EO} {g:Nat} {b:List EO} {h:Nat} {out:List Zy} (ha:CI a g) (hb:CI b h) (ho:out.length≤4194304):∃ r,Jf 1 2 (a,((g:Nat):Int),b,((h:Nat):Int),out)=some r∧Rnd a g b h out r:=by
 obtain ⟨a1,a2,a3⟩:=Yhq ha
 obtain ⟨b1,b2,b3⟩:=Yhq hb
 have ea:=Yaf ha
 have eb:=Yaf hb
 have sa:=Yaj a g
 have sb:=Yaj b h
 unfold Jf
 simp only
 unfold Rnd
 rw [← a3,← b3,← Yaq ha.p g,← Yaq hb.p h]
 generalize nxA a g=a' at *
 generalize nxG a g=g' at *
 generalize nxA b h=b' at *
 generalize nxG b h=h' at *
 have ap:∀ x:Zy,Vx 488 out [x]=some (out++[x]):=fun x=>Kb (by simp only [List.length_singleton];omega) (by simp only [List.length_singleton];omega)
 cases a' with
 | nil =>
  have hg':g'=0:=a1.g
  subst hg'
  have ea':Yx ⟨a,((g:Nat):Int)⟩=some (0,0,⟨[],((0:Nat):Int)⟩):=ea
  cases b' with
  | nil =>
   have hh':h'=0:=b1.g
   subst hh'
   have eb':Yx ⟨b,((h:Nat):Int)⟩=some (0,0,⟨[],((0:Nat):Int)⟩):=eb
   rw [ea',Option.bind_some,eb',Option.bind_some]
   refine ⟨.inr (out,true),?_,.inl ⟨rfl,fun s=>Yh2 s⟩⟩
   rfl
  | cons o' r' =>
   have q:=b2 o' r' rfl
   have hs:=b1.s
   rw [Zch] at hs
   have hop:=b1.p o' (by simp)
   have e3:decide (0 < ((X3 o' - h':Nat):Int))=true:=by rw [decide_eq_true_eq];omega
   have e4:(((X3 o' - h':Nat):Int) == 0)=false:=by rw [beq_eq_false_iff_ne];omega
   have hx:=Zo9 (r:=r') (g:=h') (n:=X3 o' - h') hop (by omega) (by omega) (by omega)
   obtain ⟨t1,t2,t3⟩:=eat (n:=X3 o' - h') b1 (by omega)
   have eb':Yx ⟨b,((h:Nat):Int)⟩=some (o'.Kind,((X3 o' - h':Nat):Int),⟨o'::r',((h':Nat):Int)⟩):=eb
   rw [ea',Option.bind_some,eb',Option.bind_some]
   simp only
   rw [show decide ((0:Int) < 0)=false from rfl,cond_false,cond_false,e3,cond_true,show ((0:Int) == 0)=true from rfl,cond_true,e4,cond_false,cond_true,cond_true]
   cases hk:o'.Kind == 2 with
   | true =>
    have hk2:o'.Kind=2:=beq_iff_eq.1 hk
    rw [cond_true,hx,Option.bind_some,ap,Option.bind_some]
    refine ⟨_,rfl,.inr (.inr ⟨_,_,_,_,_,rfl,a1,t1,by have:=t3 q (by omega);(try simp only);omega,sa,sb,.inr (.inl ⟨rfl,(Zpa o' _ _).1.trans hk2,Fr.tk (sb _ (.head _)) hop (by omega) (by omega)⟩),fun s => ?_,?_⟩)⟩
    ·rw [Zr3 (fun _=>rfl) (Zo0 hop (r:=r') (g:=h') (n:=X3 o' - h') (by omega) (by omega)),Z0n (y:=tkO o' h' (X3 o' - h')) ((Zpa o' _ _).1.trans hk2)]
     rfl
    have:=Zs2 hop (r:=r') (g:=h') (n:=X3 o' - h') (by omega) (by omega)
    have:=(Zrs hop (g:=h') (n:=X3 o' - h') (by omega) (by omega)).1
    unfold thP
    simp only [if_true]
    omega
   | false =>
    have hk2:o'.Kind≠2:=beq_eq_false_iff_ne.1 hk
    refine ⟨_,rfl,.inr (.inl ⟨rfl,fun s => ?_⟩)⟩
    rw [show Zff (o'::r') h'=ctO o' h'::r' from if_pos q]
    exact Yfs (Zw4 hop q).2 (by rw [(Yhl o' h').1];exact hk2) r' s
 | cons o r =>
  have p:=a2 o r rfl
  have hs:=a1.s
  rw [Zch] at hs
  have hop:=a1.p o (by simp)
  have e1:decide (0 < ((X3 o - g':Nat):Int))=true:=by rw [decide_eq_true_eq];omega
  have e2:(((X3 o - g':Nat):Int) == 0)=false:=by rw [beq_eq_false_iff_ne];omega
  have ea':Yx ⟨a,((g:Nat):Int)⟩=some (o.Kind,((X3 o - g':Nat):Int),⟨o::r,((g':Nat):Int)⟩):=ea
  rw [ea',Option.bind_some]
  simp only
  rw [e1,cond_true]
  cases hk:o.Kind == 1 with
  | true =>
   have hk1:o.Kind=1:=beq_iff_eq.1 hk
   have hx:=Zo9 (r:=r) (g:=g') (n:=X3 o - g') hop (by omega) (by omega) (by omega)
   obtain ⟨t1,t2,t3⟩:=eat (n:=X3 o - g') a1 (by omega)
   have eb':Yx ⟨b,((h:Nat):Int)⟩=some (kdA b',lfA b' h',⟨b',((h':Nat):Int)⟩):=eb
   rw [eb',Option.bind_some,cond_true,hx,Option.bind_some]
   simp only
   rw [ap,Option.bind_some]
   refine ⟨_,rfl,.inr (.inr ⟨_,_,_,_,_,rfl,t1,b1,by have:=t3 p (by omega);(try simp only);omega,sa,sb,.inl ⟨rfl,(Zpa o _ _).1.trans hk1,Fr.tk (sa _ (.head _)) hop (by omega) (by omega)⟩,fun s => ?_,?_⟩)⟩
   ·rw [Zr3 (Zo0 hop (r:=r) (g:=g') (n:=X3 o - g') (by omega) (by omega)) (fun _=>rfl),Yb4 (x:=tkO o g' (X3 o - g')) ((Zpa o _ _).1.trans hk1)]
    rfl
   have:=Zs2 hop (r:=r) (g:=g') (n:=X3 o - g') (by omega) (by omega)
   have:=(Zrs hop (g:=g') (n:=X3 o - g') (by omega) (by omega)).1
   unfold thP
   simp only [show ¬ (1:Int)=2 by decide,if_false]
   omega
  | false =>
   have hk1:o.Kind≠1:=beq_eq_false_iff_ne.1 hk
   cases b' with
   | nil =>
    have eb':Yx ⟨b,((h:Nat):Int)⟩=some (0,0,⟨[],((h':Nat):Int)⟩):=eb
    rw [eb',Option.bind_some]
    simp only
    rw [cond_false,e2,cond_false,cond_false]
    refine ⟨_,rfl,.inr (.inl ⟨rfl,fun s => ?_⟩)⟩
    rw [show Zff (o::r) g'=ctO o g'::r from if_pos p]
    exact Yft (Zw4 hop p).2 (by rw [(Yhl o g').1];exact hk1) (fun x hx=>a1.p x (.tail _ hx)) s
   | cons o' r' =>
    have q:=b2 o' r' rfl
    have hs':=b1.s
    rw [Zch] at hs'
    have hop':=b1.p o' (by simp)
    have e3:decide (0 < ((X3 o' - h':Nat):Int))=true:=by rw [decide_eq_true_eq];omega
    have e4:(((X3 o' - h':Nat):Int) == 0)=false:=by rw [beq_eq_false_iff_ne];omega
    have eb':Yx ⟨b,((h:Nat):Int)⟩=some (o'.Kind,((X3 o' - h':Nat):Int),⟨o'::r',((h':Nat):Int)⟩):=eb
    rw [eb',Option.bind_some]
    simp only
    rw [cond_false,e2,cond_false,cond_false,e3,cond_true]
    cases hk':o'.Kind == 2 with
    | true =>
     have hk2:o'.Kind=2:=beq_iff_eq.1 hk'
     have hx:=Zo9 (r:=r') (g:=h') (n:=X3 o' - h') hop' (by omega) (by omega) (by omega)
     obtain ⟨t1,t2,t3⟩:=eat (n:=X3 o' - h') b1 (by omega)
     rw [cond_true,hx,Option.bind_some,ap,Option.bind_some]
     refine ⟨_,rfl,.inr (.inr ⟨_,_,_,_,_,rfl,a1,t1,by have:=t3 q (by omega);(try simp only);omega,sa,sb,.inr (.inl ⟨rfl,(Zpa o' _ _).1.trans hk2,Fr.tk (sb _ (.head _)) hop' (by omega) (by omega)⟩),fun s => ?_,?_⟩)⟩
     ·rw [Zr3 (fun _=>rfl) (Zo0 hop' (r:=r') (g:=h') (n:=X3 o' - h') (by omega) (by omega)),Z0n (y:=tkO o' h' (X3 o' - h')) ((Zpa o' _ _).1.trans hk2)]
      rfl
     have:=Zs2 hop' (r:=r') (g:=h') (n:=X3 o' - h') (by omega) (by omega)
     have:=(Zrs hop' (g:=h') (n:=X3 o' - h') (by omega) (by omega)).1
     unfold thP
     simp only [if_true]
     omega
    | false =>
     have hk2:o'.Kind≠2:=beq_eq_false_iff_ne.1 hk'
     have em:(if ((X3 o' - h':Nat):Int) < ((X3 o - g':Nat):Int) then ((X3 o' - h':Nat):Int) else ((X3 o - g':Nat):Int))=((min (X3 o - g') (X3 o' - h'):Nat):Int):=by split <;> omega
     have hx:=Zo9 (r:=r) (g:=g') (n:=min (X3 o - g') (X3 o' - h')) hop (by omega) (by omega) (by omega)
     have hy:=Zo9 (r:=r') (g:=h') (n:=min (X3 o - g') (X3 o' - h')) hop' (by omega) (by omega) (by omega)
     obtain ⟨t1,t2,t3⟩:=eat (n:=min (X3 o - g') (X3 o' - h')) a1 (by omega)
     obtain ⟨u1,u2,u3⟩:=eat (n:=min (X3 o - g') (X3 o' - h')) b1 (by omega)
     have x1:=Zrs hop (g:=g') (n:=min (X3 o - g') (X3 o' - h')) (by omega) (by omega)
     have y1:=Zrs hop' (g:=h') (n:=min (X3 o - g') (X3 o' - h')) (by omega) (by omega)
     rw [cond_false,e4,cond_false,em,hx,Option.bind_some,hy,Option.bind_some,ap,Option.bind_some]
     refine ⟨_,rfl,.inr (.inr ⟨_,_,_,_,_,rfl,t1,u1,?_,sa,sb,.inr (.inr ⟨rfl,by rw [(Zpa o _ _).1];exact hk1,by rw [(Zpa o' _ _).1];exact hk2,x1.1.trans y1.1.symm,Fr.tk (sa _ (.head _)) hop (by omega) (by omega),Fr.tk (sb _ (.head _)) hop' (by omega) (by omega)⟩),fun s => ?_,?_⟩)⟩
     ·try simp only
      by_cases hm:X3 o - g'≤X3 o' - h'
      ·have:=t3 p (by omega);omega
      have:=u3 q (by omega);omega
     ·rw [Zr3 (Zo0 hop (r:=r) (g:=g') (n:=min (X3 o - g') (X3 o' - h')) (by omega) (by omega)) (Zo0 hop' (r:=r') (g:=h') (n:=min (X3 o - g') (X3 o' - h')) (by omega) (by omega)),
       Yfu x1.2 y1.2 (by rw [(Zpa o _ _).1];exact hk1) (by rw [(Zpa o' _ _).1];exact hk2) (x1.1.trans y1.1.symm) (Yg0 a1.p)]
      rfl
     have:=Zs2 hop (r:=r) (g:=g') (n:=min (X3 o - g') (X3 o' - h')) (by omega) (by omega)
     have:=Zs2 hop' (r:=r') (g:=h') (n:=min (X3 o - g') (X3 o' - h')) (by omega) (by omega)
     unfold thP
     simp only [show ¬ (0:Int)=2 by decide,if_false]
     omega
theorem Z6e:∀ (m:Nat) (a:List EO) (g:Nat) (b:List EO) (h:Nat) (out:List Zy),mu a g+mu b h≤m→CI a g→CI b h→out.length+m≤4194304 →
  (∃ L,Zw (Jf 1 2) (a,((g:Nat):Int),b,((h:Nat):Int),out)=some (out++L,true)∧L.length≤m∧(∀ c∈L,PG a b c)∧(∀ s,CC (Zff a g) (Zff b h) s=PMs L s)∧(L.map thP).sum≤Qw (Zff a g)+Qw (Zff b h)) ∨
  (Zw (Jf 1 2) (a,((g:Nat):Int),b,((h:Nat):Int),out)=some ([],false)∧∀ s,CC (Zff a g) (Zff b h) s=none)
 | m,a,g,b,h,out,hm,ha,hb,ho=>by
  obtain ⟨r,h1,h2⟩:=Yd7 ha hb (out:=out) (by omega)
  rcases h2 with ⟨rfl,h2⟩ | ⟨rfl,h2⟩ | ⟨a',g',b',h',c,rfl,c1,c2,c3,s1,s2,c4,c5,c6⟩
  ·exact .inl ⟨[],by rw [List.append_nil];exact Z8 h1,Nat.zero_le _,by simp,fun s=>by rw [h2 s];rfl,by simp⟩
  ·exact .inr ⟨Z8 h1,h2⟩
  cases m with
  | zero=>omega
  | succ m =>
   rw [Yr h1]
   rcases Z6e m a' g' b' h' (out++[c]) (by omega) c1 c2 (by rw [List.length_append,List.length_singleton];omega) with ⟨L,q1,q2,q3,q4,q5⟩ | ⟨q1,q2⟩
   ·refine .inl ⟨c::L,by rw [q1,List.append_assoc];rfl,by rw [List.length_cons];omega,fun d hd => ?_,fun s => ?_,?_⟩
    ·rcases List.mem_cons.1 hd with rfl | hd
     ·exact c4
     exact (q3 d hd).sub s1 s2
    ·rw [c5,PMs]
     congr 1
     funext x
     exact q4 x
    rw [List.map_cons,List.sum_cons]
    omega
   refine .inr ⟨q1,fun s => ?_⟩
   rw [c5]
   cases PM c s with
   | none=>rfl
   | some x=>exact q2 x
theorem Yht {a:List EO} (hp:∀ o∈a,opk o):Zff a 0=a:=by
 cases a with
 | nil=>rfl
 | cons x r =>
  have:=(Zm0 (hp x (by simp))).2
  show (if 0 < X3 x then ctO x 0::r else r)=x::r
  rw [if_pos (by omega)]
  congr 1
  unfold ctO
  split
  ·cases x;simp
  split
  ·rfl
  cases x;simp
theorem Yba {a b:List EO} (ha:CI a 0) (hb:CI b 0) (h1:a.length≤2097152) (h2:b.length≤2097152) :
  (∃ L,Zay a b=some (L,true)∧L.length≤a.length+b.length∧(∀ c∈L,PG a b c)∧(∀ s,CC a b s=PMs L s)∧(L.map thP).sum≤Qw a+Qw b)∨(Zay a b=some ([],false)∧∀ s,CC a b s=none):=by
 have m1:=Yho a 0
 have m2:=Yho b 0
 have h:=Z6e (a.length+b.length) a 0 b 0 [] (by omega) ha hb (by simp only [List.length_nil];omega)
 rw [Yht ha.p,Yht hb.p,show (((0:Nat)):Int)=0 from rfl] at h
 unfold Zay Zh4
 rcases h with ⟨L,q1,q2,q3,q4,q5⟩ | ⟨q1,q2⟩
 ·exact .inl ⟨L,by rw [q1];rfl,q2,q3,q4,q5⟩
 exact .inr ⟨by rw [q1];rfl,q2⟩
inductive ST:Ed→Prop
 | mk (e:Ed) (ho:pt e.Old≤1000000) (hn:pt e.New≤1000000) (hl:∀ o∈e.Ops,∀ t∈o.L,pt t≤1000000) (ik:∀ k∈e.Kids,ST k.E) (io:∀ o∈e.Ops,ST o.E):ST e
theorem ST.old {e:Ed} (h:ST e):pt e.Old≤1000000:=by cases h;assumption
theorem ST.new {e:Ed} (h:ST e):pt e.New≤1000000:=by cases h;assumption
theorem ST.l {e:Ed} (h:ST e):∀ o∈e.Ops,∀ t∈o.L,pt t≤1000000:=by cases h;assumption
theorem ST.ks {e:Ed} (h:ST e):∀ k∈e.Kids,ST k.E:=by cases h;assumption
theorem ST.os {e:Ed} (h:ST e):∀ o∈e.Ops,ST o.E:=by cases h;assumption
theorem Zxn:∀ (k:Nat) (e:Ed) (d left:Int),BE e→SizeOf.sizeOf e < k→0≤d→d≤100→0≤left→left≤1000000→∃ r,Ym k e d left=some r∧-1≤r∧r≤1000000∧(0≤r→r+(ce e:Nat)≤left∧ST e)
 | 0,e,_,_,_,h,_,_,_,_=>by omega
 | k+1,e,d,left,hb,hk,hd0,hd1,hl0,hl1=>by
  have hw:=hb.w
  have ho:=hb.o
  show ∃ r,Jd (Ym k) e d left=some r∧_
  unfold Jd
  rw [Ul (x:=left - 1) (by omega) (by omega),Ul (x:=left - 1 - (e.Words.length:Int)) (by omega) (by omega),Ul (by omega) (by omega),Z5b]
  cases hc:cond (d == 0) true (decide (left - 1 - (e.Words.length:Int) - (e.Ops.length:Int) < 0)) with
  | true=>exact ⟨-1,rfl,by omega,by omega,fun h=>by omega⟩
  | false =>
   rw [cond_false]
   have hd:¬ d=0∧0≤left - 1 - (e.Words.length:Int) - (e.Ops.length:Int):=by
    by_cases h:d=0
    ·simp [h] at hc
    have e:(d == 0)=false:=by simp [h]
    rw [e,cond_false,decide_eq_false_iff_not] at hc
    exact ⟨h,by omega⟩
   obtain ⟨r1,g1,g2,g3,g4⟩:=Zpy hb.old hd.2 (by omega)
   have hz:∃ z,cond (decide (0≤r1)) ((Q0 e.New 80 r1).bind fun y4=>some y4) (some r1)=some z∧-1≤z∧z≤1000000∧(0≤z→z≤left - 1 - (e.Words.length:Int) - (e.Ops.length:Int)∧pt e.Old≤1000000∧pt e.New≤1000000):=by
    by_cases h:0≤r1
    ·obtain ⟨r2,f1,f2,f3,f4⟩:=Zpy hb.new h g3
     refine ⟨r2,by rw [decide_eq_true h,f1];rfl,f2,f3,fun h2 => ?_⟩
     have:=f4 h2
     have:=g4 h
     omega
    exact ⟨r1,by rw [decide_eq_false h];rfl,g2,g3,fun h2=>absurd h2 h⟩
   obtain ⟨z,z1,z2,z3,z4⟩:=hz
   rw [g1,Option.bind_some,z1,Option.bind_some]
   obtain ⟨r,h1,h2⟩:=Zbx (step:=Qx (Ym k) e d)
    (fun s=>∃ j:Nat,s.2=j∧j≤e.Kids.length∧-1≤s.1∧s.1≤1000000∧(0≤s.1→s.1+((((e.Kids.take j).map fun k=>ce k.E)).sum:Nat)≤left - 1 - (e.Words.length:Int) - (e.Ops.length:Int)∧(pt e.Old≤1000000∧pt e.New≤1000000)∧∀ k∈e.Kids.take j,ST k.E))
    (fun s=>e.Kids.length - s.2.toNat) (fun r=>-1≤r∧r≤1000000∧(0≤r→r+((e.Kids.map fun k=>ce k.E).sum:Nat)≤left - 1 - (e.Words.length:Int) - (e.Ops.length:Int)∧(pt e.Old≤1000000∧pt e.New≤1000000)∧∀ k∈e.Kids,ST k.E)) (fun s hI=>by
     obtain ⟨l,i⟩:=s
     obtain ⟨j,rfl,hj,g1,g2,g3⟩:=hI
     have hkl:=hb.k
     simp only at g1 g2 g3 ⊢
     unfold Qx
     simp only
     by_cases hji:j < e.Kids.length
     ·rw [Zbe hji,cond_true]
      by_cases hl:0≤l
      ·have e1:decide (0≤l)=true:=by simp [hl]
       have hx:e.Kids[j]? = some e.Kids[j]:=List.getElem?_eq_getElem hji
       have hm:e.Kids[j]∈e.Kids:=List.getElem_mem hji
       obtain ⟨r,q1,q2,q3,q4⟩:=Zxn k e.Kids[j].E (d - 1) l (hb.ks _ hm) (by have:=Je hm;omega) (by omega) (by omega) hl g2
       rw [e1,cond_true,Yw hx,Option.bind_some,Ul (x:=d - 1) (by omega) (by omega),q1,Option.bind_some,Ul (by omega) (by omega)]
       refine .inl ⟨_,rfl,⟨j+1,by simp only;omega,by omega,q2,q3,fun hr => ?_⟩,by simp only;omega⟩
       obtain ⟨w1,w2⟩:=q4 hr
       obtain ⟨w3,w4,w5⟩:=g3 hl
       rw [List.take_add_one,hx]
       simp only [Option.toList_some,List.map_append,List.map_cons,List.map_nil,List.sum_append,List.sum_cons,List.sum_nil]
       simp only at hr
       refine ⟨by omega,w4,fun y hy => ?_⟩
       rcases List.mem_append.1 hy with hy | hy
       ·exact w5 y hy
       rw [List.mem_singleton] at hy;subst hy;exact w2
      have e1:decide (0≤l)=false:=by simp [hl]
      rw [e1,cond_false]
      exact .inr ⟨l,rfl,g1,g2,fun h=>absurd h hl⟩
     have hj':j=e.Kids.length:=by omega
     subst hj'
     rw [Zd1,cond_false]
     rw [List.take_length] at g3
     exact .inr ⟨l,rfl,g1,g2,g3⟩) (z,0) ⟨0,rfl,Nat.zero_le _,z2,z3,fun h=>⟨by simpa using (z4 h).1,(z4 h).2,by simp⟩⟩
   rw [h1,Option.bind_some]
   have inner:∀ (j:Nat) (hj:j < e.Ops.length) (l:Int),0≤l→l≤1000000→∃ r,Zw (Jk e (l,(j:Int))) (l,0)=some r∧-1≤r∧r≤1000000∧r≤l∧(0≤r→∀ t∈e.Ops[j].L,pt t≤1000000):=fun j hj l hl hl'=>by
    have hx:e.Ops[j]? = some e.Ops[j]:=List.getElem?_eq_getElem hj
    have hm:e.Ops[j]∈e.Ops:=List.getElem_mem hj
    have hL:=(hb.l _ hm).1
    obtain ⟨r,h1,h2⟩:=Zbx (step:=Jk e (l,(j:Int)))
     (fun s=>∃ i:Nat,s.2=i∧i≤e.Ops[j].L.length∧-1≤s.1∧s.1≤1000000∧s.1≤l∧(0≤s.1→∀ t∈e.Ops[j].L.take i,pt t≤1000000))
     (fun s=>e.Ops[j].L.length - s.2.toNat) (fun r=>-1≤r∧r≤1000000∧r≤l∧(0≤r→∀ t∈e.Ops[j].L,pt t≤1000000)) (fun s hI=>by
      obtain ⟨l',i'⟩:=s
      obtain ⟨i,rfl,hi,g1,g2,g3,g4⟩:=hI
      simp only at g1 g2 g3 g4 ⊢
      unfold Jk
      simp only
      rw [Yw hx,Option.bind_some,Option.bind_some]
      by_cases hii:i < e.Ops[j].L.length
      ·rw [Zbe hii,cond_true]
       by_cases hl2:0≤l'
       ·have e1:decide (0≤l')=true:=by simp [hl2]
        have hx2:e.Ops[j].L[i]? = some e.Ops[j].L[i]:=List.getElem?_eq_getElem hii
        have hm2:e.Ops[j].L[i]∈e.Ops[j].L:=List.getElem_mem hii
        obtain ⟨r,q1,q2,q3,q4⟩:=Zpy ((hb.l _ hm).2 _ hm2) hl2 g2
        rw [e1,cond_true,Yw hx2,Option.bind_some,q1,Option.bind_some,Ul (by omega) (by omega)]
        refine .inl ⟨_,rfl,⟨i+1,by simp only;omega,by omega,q2,q3,?_⟩,by simp only;omega⟩
        simp only
        refine ⟨?_,fun hr t ht => ?_⟩
        ·by_cases hr:0≤r
         ·have:=q4 hr;omega
         omega
        rw [List.take_add_one,hx2] at ht
        rcases List.mem_append.1 ht with ht | ht
        ·exact g4 hl2 t ht
        simp only [Option.toList_some,List.mem_singleton] at ht
        subst ht
        have:=q4 hr
        omega
       have e1:decide (0≤l')=false:=by simp [hl2]
       rw [e1,cond_false]
       exact .inr ⟨l',rfl,g1,g2,g3,fun h=>absurd h hl2⟩
      have hi':i=e.Ops[j].L.length:=by omega
      subst hi'
      rw [Zd1,cond_false]
      rw [List.take_length] at g4
      exact .inr ⟨l',rfl,g1,g2,g3,g4⟩) (l,0) ⟨0,rfl,Nat.zero_le _,by simp only;omega,by simp only;omega,by simp only;omega,fun _=>by simp⟩
    exact ⟨r,h1,h2⟩
   obtain ⟨r',h1',h2'⟩:=Zbx (step:=Qy (Ym k) e d)
    (fun s=>∃ j:Nat,s.2=j∧j≤e.Ops.length∧-1≤s.1∧s.1≤1000000∧(0≤s.1→0≤r∧s.1+((((e.Ops.take j).map fun o=>ce o.E)).sum:Nat)≤r∧∀ o∈e.Ops.take j,ST o.E∧∀ t∈o.L,pt t≤1000000))
    (fun s=>e.Ops.length - s.2.toNat) (fun q=>-1≤q∧q≤1000000∧(0≤q→0≤r∧q+((e.Ops.map fun o=>ce o.E).sum:Nat)≤r∧∀ o∈e.Ops,ST o.E∧∀ t∈o.L,pt t≤1000000)) (fun s hI=>by
     obtain ⟨l,i⟩:=s
     obtain ⟨j,rfl,hj,g1,g2,g3⟩:=hI
     simp only at g1 g2 g3 ⊢
     unfold Qy
     simp only
     by_cases hji:j < e.Ops.length
     ·rw [Zbe hji,cond_true]
      by_cases hl:0≤l
      ·have e1:decide (0≤l)=true:=by simp [hl]
       have hx:e.Ops[j]? = some e.Ops[j]:=List.getElem?_eq_getElem hji
       have hm:e.Ops[j]∈e.Ops:=List.getElem_mem hji
       obtain ⟨t,t1,t2,t3,t4,t5⟩:=inner j hji l hl g2
       rw [e1,cond_true,t1,Option.bind_some,Ul (x:=(j:Int)+1) (by omega) (by omega)]
       by_cases ht:0≤t
       ·obtain ⟨r,q1,q2,q3,q4⟩:=Zxn k e.Ops[j].E (d - 1) t (hb.os _ hm) (by have:=Kw hm;omega) (by omega) (by omega) ht t3
        rw [decide_eq_true ht,cond_true,Yw hx,Option.bind_some,Ul (x:=d - 1) (by omega) (by omega),q1]
        refine .inl ⟨_,rfl,⟨j+1,by simp only;omega,by omega,q2,q3,fun hr => ?_⟩,by simp only;omega⟩
        obtain ⟨w1,w2⟩:=q4 hr
        obtain ⟨w3,w4,w5⟩:=g3 hl
        rw [List.take_add_one,hx]
        simp only [Option.toList_some,List.map_append,List.map_cons,List.map_nil,List.sum_append,List.sum_cons,List.sum_nil]
        simp only at hr
        refine ⟨w3,by omega,fun y hy => ?_⟩
        rcases List.mem_append.1 hy with hy | hy
        ·exact w5 y hy
        rw [List.mem_singleton] at hy;subst hy;exact ⟨w2,t5 ht⟩
       rw [decide_eq_false ht]
       exact .inl ⟨_,rfl,⟨j+1,by simp only;omega,by omega,t2,t3,fun hr=>absurd hr ht⟩,by simp only;omega⟩
      have e1:decide (0≤l)=false:=by simp [hl]
      rw [e1,cond_false]
      exact .inr ⟨l,rfl,g1,g2,fun h=>absurd h hl⟩
     have hj':j=e.Ops.length:=by omega
     subst hj'
     rw [Zd1,cond_false]
     rw [List.take_length] at g3
     exact .inr ⟨l,rfl,g1,g2,g3⟩) (r,0) ⟨0,rfl,Nat.zero_le _,h2.1,h2.2.1,fun h=>⟨h,by simp,by simp⟩⟩
   rw [h1']
   refine ⟨r',rfl,h2'.1,h2'.2.1,fun hr => ?_⟩
   obtain ⟨p1,p2,p3⟩:=h2'.2.2 hr
   obtain ⟨p4,p5,p6⟩:=h2.2.2 p1
   exact ⟨by omega,.mk e p5.1 p5.2 (fun o ho=>(p3 o ho).2) p6 fun o ho=>(p3 o ho).1⟩
theorem Yii {e:Ed} (h:BE e) (hq:U1 e=some true):ce e≤3000∧ST e:=by
 obtain ⟨r,h1,h2,h3,h4⟩:=Zxn (SizeOf.sizeOf e+1) e 80 3000 h (by omega) (by omega) (by omega) (by omega) (by omega)
 have hr:Zej e 80 3000=some r:=Zgc (SizeOf.sizeOf e+1) fun k hk=>by rw [Zpm k (SizeOf.sizeOf e+1) e 80 3000 (by omega) (by omega)];exact h1
 unfold U1 at hq
 rw [hr,Option.bind_some] at hq
 have hp:0≤r:=by simpa using hq
 have:=h4 hp
 exact ⟨by omega,this.2⟩
structure GT (t:Tr):Prop where
 n:NT t
 g:Rg t
 x:TX t
theorem GT.z:GT Ja:=⟨NT.z,Rg.z,TX.z⟩
theorem GT.all {t:Tr} (h:GT t):∀ k∈t.Kids,GT k:=fun k hk=>⟨h.n.kids k hk,h.g.all k hk,h.x.all k hk⟩
theorem GT.at_ {t:Tr} (h:GT t) (i:Nat):GT (Kx Ja t.Kids i):=⟨Zhn h.n.kids NT.z i,Zhn h.g.all Rg.z i,Zhn h.x.all TX.z i⟩
theorem GT.of {t:Tr} (hb:Bd t) (hx:TX t):GT (nrm t):=⟨NT.of t,hb.nrm.rg,hx.n⟩
def D9 (e:Ed):Prop:=e.Kind=2∨(e.Kind=1∧e.Old.Kind=1∧e.New.Kind=1)
inductive RZ:Ed→Prop
 | same (e:Ed) (h:e.Kind=0):RZ e
 | repl (e:Ed) (h:e.Kind=1) (ho:TX e.Old) (hn:TX e.New):RZ e
 | st (e:Ed) (h:e.Kind=2) (hw:e.Words.Pairwise (fun a b=>a.At < b.At)) (hw2:∀ w∈e.Words,0≤w.At∧w.At≤65534) (hk:e.Kids.Pairwise (fun a b=>a.At < b.At)) (hk2:∀ k∈e.Kids,0≤k.At∧k.At≤65534) (ih:∀ k∈e.Kids,RZ k.E):RZ e
 | li (e:Ed) (h:e.Kind=3) (hl:2≤e.List_∧e.List_≤9) (ho:∀ o∈e.Ops,opk o) (hN:∀ o∈e.Ops,o.Kind=0∨o.Kind=3→o.L=[]) (hT:∀ o∈e.Ops,∀ t∈o.L,TX t∧(e.List_=9→t.Kind=1)) (h9:∀ o∈e.Ops,o.Kind=3→e.List_=9→D9 o.E) (ih:∀ o∈e.Ops,o.Kind=3→RZ o.E):RZ e
theorem Zpv {α:Type} {f:α→Int} {l:List α} (h:l.Pairwise (fun a b=>f a < f b)) (h2:∀ x∈l,0≤f x∧f x≤65534):l.Pairwise (fun a b=>(f a).toNat≠(f b).toNat) :=
 h.imp_of_mem fun {a b} ha hb hab=>by have:=h2 a ha;have:=h2 b hb;omega
theorem RZ.rx {e:Ed} (h:RZ e):RX e:=by
 induction h with
 | same e h=>exact .same e h
 | repl e h _ _=>exact .repl e h
 | st e h hw hw2 hk hk2 _ ih=>exact .st e h (Zpv hw hw2) hw2 (Zpv hk hk2) hk2 ih
 | li e h hl ho hN hT h9 _ ih=>exact .li e h hl ho hN ih
theorem Yap:∀ (n:Nat) (e:Ed) (d:Nat),SizeOf.sizeOf e < n→rE e d=true→RZ e
 | 0,_,_,h,_=>by omega
 | n+1,e,d,hn,h=>by
  rw [Zqf] at h
  by_cases hd:d=0
  ·rw [if_pos hd] at h;cases h
  rw [if_neg hd] at h
  by_cases h0:e.Kind=0
  ·exact .same e h0
  rw [if_neg h0] at h
  by_cases h1:e.Kind=1
  ·rw [if_pos h1] at h
   simp only [Bool.and_eq_true] at h
   exact .repl e h1 (Z6f _ _ 64 (Nat.lt_succ_self _) h.2.1.1) (Z6f _ _ 64 (Nat.lt_succ_self _) h.2.2.1)
  rw [if_neg h1] at h
  by_cases h2:e.Kind=2
  ·rw [if_pos h2] at h
   simp only [Bool.and_eq_true] at h
   obtain ⟨w1,w2⟩:=Zr9 Z51 e.Words (-1) h.2.1
   obtain ⟨k1,k2⟩:=Zr9 (Z50 (d - 1)) e.Kids (-1) h.2.2
   refine .st e h2 w2 (fun w hw=>by have:=w1 w hw;omega) k2 (fun k hk=>by have:=k1 k hk;omega) fun k hk=>Yap n k.E (d - 1) (by have:=Je hk;omega) ?_
   exact Zph (Q:=fun k:Zd=>rE k.E (d - 1)=true) (fun p x hx=>by
    unfold okK okP at hx
    simp only [Bool.and_eq_true] at hx
    exact hx.2.2) e.Kids (-1) h.2.2 k hk
  rw [if_neg h2] at h
  by_cases h3:e.Kind=3
  ·rw [if_pos h3] at h
   simp only [Bool.and_eq_true,decide_eq_true_eq,List.all_eq_true] at h
   have ho:=h.2.2.1
   have hL:∀ o∈e.Ops,o.Kind=0∨o.Kind=3→o.L=[]:=fun o hx k03=>by
    have:=ho o hx
    unfold okO at this
    rcases k03 with k0 | k3
    ·rw [if_pos k0] at this
     simp only [Bool.and_eq_true,beq_iff_eq] at this
     exact List.eq_nil_of_length_eq_zero this.2.1
    rw [if_neg (by omega),if_neg (by omega),if_pos k3] at this
    simp only [Bool.and_eq_true,beq_iff_eq] at this
    exact List.eq_nil_of_length_eq_zero this.2.1
   refine .li e h3 h.2.1 (fun o hx=>Zv6 (ho o hx)) hL (fun o hx t ht => ?_) (fun o hx k3 h9 => ?_) fun o hx k3=>Yap n o.E (d - 1) (by have:=Kw hx;omega) ?_
   ·have hk:=Zib (Zv6 (ho o hx))
    by_cases k12:o.Kind=1∨o.Kind=2
    ·have:=ho o hx
     unfold okO at this
     rw [if_neg (by omega),if_pos k12] at this
     simp only [Bool.and_eq_true,List.all_eq_true] at this
     obtain ⟨q1,q2⟩:=this.2.2.1 t ht
     refine ⟨Z6f _ t 63 (Nat.lt_succ_self _) q1,fun h9 => ?_⟩
     unfold okk at q2
     rw [if_neg (by omega),h9] at q2
     simp only [Bool.and_eq_true,Bool.or_eq_true,bne_self_eq_false,Bool.false_eq_true,false_or,beq_iff_eq] at q2
     exact q2.2
    rw [hL o hx (by omega)] at ht
    cases ht
   ·have:=ho o hx
    unfold okO at this
    rw [if_neg (by omega),if_neg (by omega),if_pos k3] at this
    simp only [Bool.and_eq_true] at this
    have q:=this.2.2.2.1
    unfold Zno at q
    rw [if_neg (by omega),if_pos h9] at q
    simp only [Bool.or_eq_true,Bool.and_eq_true,beq_iff_eq] at q
    exact q
   have:=ho o hx
   unfold okO at this
   rw [if_neg (by omega),if_neg (by omega),if_pos k3] at this
   simp only [Bool.and_eq_true] at this
   exact this.2.2.2.2
  rw [if_neg h3] at h;cases h
theorem Zwu:∀ (n:Nat) (e:Ed) (t u:Tr),SizeOf.sizeOf e < n→RZ e→BE e→GT t→ap e t=some u→GT u∧(D9 e→u.Kind=1)
 | 0,_,_,_,h,_,_,_,_=>by omega
 | n+1,e,t,u,hn,hz,hb,gt,h=>by
  obtain ⟨q1,q2,_⟩:=Ztn _ e t u (Nat.lt_succ_self _) hz.rx hb gt.n gt.g gt.x h
  have key:TX u∧(D9 e→u.Kind=1)→GT u∧(D9 e→u.Kind=1):=fun k=>⟨⟨q1,q2,k.1⟩,k.2⟩
  refine key ?_
  rw [Zb4] at h
  cases hz with
  | same _ k0 =>
   rw [if_pos k0] at h
   injection h with h
   subst h
   exact ⟨gt.x,fun d=>by unfold D9 at d;omega⟩
  | repl _ k1 ho hn' =>
   rw [if_neg (by omega),if_pos k1] at h
   split at h
   ·injection h with h
    subst h
    exact ⟨hn'.n,fun d=>by rw [Za3];unfold D9 at d;omega⟩
   cases h
  | st _ k2 hw hw2 hk hk2 ih =>
   rw [if_neg (by omega),if_neg (by omega),if_pos k2] at h
   split at h
   ·obtain ⟨ws,e1,h⟩:=Option.bind_eq_some_iff.1 h
    obtain ⟨ks,e2,h⟩:=Option.bind_eq_some_iff.1 h
    injection h with h
    subst h
    have hm:=Zpw t.Kids TX TX.z (apK e.Kids) t.Kids ks (fun w hw v hv=>by
     obtain ⟨k,hkm,rfl⟩:=List.mem_map.1 hw
     exact (Zwu n k.E _ v (by have:=Je hkm;omega) (ih k hkm) (hb.ks k hkm) (gt.at_ _) hv).1.x) gt.x.all e2
    exact ⟨.mk _ (fun q=>by simp only at q;omega) (fun q=>by simp at q) fun k hk=>hm k (Zhe hk),fun _=>rfl⟩
   cases h
  | li _ k3 hl ho hN hT h9 ih =>
   rw [if_neg (by omega),if_neg (by omega),if_neg (by omega),if_pos k3] at h
   split at h
   ·rename_i ht
    obtain ⟨out,e1,rfl⟩:=Zw5 h
    have hm:=Z3w (fun x=>GT x∧(e.List_=9→x.Kind=1)) (fun x=>TX x∧(e.List_=9→x.Kind=1)) (fun x q=>⟨q.1.x,q.2⟩) (apO e.Ops) t.Kids [] [] out (fun x hx=>⟨gt.all x hx,fun q=>gt.x.s (by omega) x hx⟩) (fun x hx=>by cases hx) (fun o hom hk x hx=>by
     obtain ⟨q,hq,rfl⟩:=List.mem_map.1 hom
     obtain ⟨r1,r2⟩:=hT q hq x hx
     exact ⟨r1.n,fun q9=>by rw [Za3];exact r2 q9⟩) (fun o hom hk x v hx hv=>by
     obtain ⟨q,hq,rfl⟩:=List.mem_map.1 hom
     obtain ⟨r1,r2⟩:=Zwu n q.E x v (by have:=Kw hq;omega) (ih q hq hk) (hb.os q hq) hx.1 hv
     exact ⟨r1.x,fun q9=>r2 (h9 q hq hk q9)⟩) e1
    refine ⟨.mk _ (fun _=>rfl) (fun q9 k hk=>(hm.2 k hk).2 (by simp only at q9;omega)) fun k hk=>(hm.2 k hk).1,fun d=>by unfold D9 at d;omega⟩
   cases h
theorem Zhu (m i:Nat):Zn4 m i=Nat.testBit m i:=by unfold Zn4;rw [Nat.testBit_eq_decide_div_mod_eq]
theorem Z24 (a:Nat) (h:a < 256):(BitVec.ofInt (IntKind.bits .u8) (a:Int)).toNat=a:=by
 show (BitVec.ofInt 8 (a:Int)).toNat=a
 rw [BitVec.ofInt_natCast,BitVec.toNat_ofNat]
 exact Nat.mod_eq_of_lt h
theorem Yjk {a b:Nat} (ha:a < 256) (hb:b < 256):Zdg .u8 (a:Int) (b:Int)=((a &&& b:Nat):Int):=by
 unfold Zdg
 rw [BitVec.toNat_and,Z24 a ha,Z24 b hb]
theorem Ykz {a b:Nat} (ha:a < 256) (hb:b < 256):Zq3 .u8 (a:Int) (b:Int)=((a ||| b:Nat):Int):=by
 unfold Zq3
 rw [BitVec.toNat_or,Z24 a ha,Z24 b hb]
abbrev WE:=Zj
def Zop (w:WE):Prop:=(0≤w.Mask∧w.Mask < 256)∧(0≤w.Old∧w.Old < 18446744073709551616)∧(0≤w.New∧w.New < 18446744073709551616)
def agW (p q:WE):Bool:=decide (Zlm p.New.toNat q.Old.toNat (p.Mask.toNat &&& q.Mask.toNat)=p.New.toNat)
def mkW (p q:WE):WE:=⟨p.At,((p.Mask.toNat ||| q.Mask.toNat:Nat):Int),((Zlm q.Old.toNat p.Old.toNat p.Mask.toNat:Nat):Int),((Zlm p.New.toNat q.New.toNat q.Mask.toNat:Nat):Int)⟩
theorem Yiw {p q:WE} (hp:Zop p) (hq:Zop q):Zop (mkW p q):=by
 have h1:=Zgz q.Old.toNat p.Old.toNat p.Mask.toNat
 have h2:=Zgz p.New.toNat q.New.toNat q.Mask.toNat
 have h3:p.Mask.toNat ||| q.Mask.toNat < 2 ^ 8:=Nat.or_lt_two_pow (by have:=hp.1;omega) (by have:=hq.1;omega)
 unfold mkW Zop
 simp only
 omega
theorem Yf3 {p q:WE} (hp:Zop p) (hq:Zop q):Zez p q=some (if agW p q=true then (mkW p q,true) else (⟨0,0,0,0⟩,false)):=by
 obtain ⟨a,m,o,n⟩:=p
 obtain ⟨a',m',o',n'⟩:=q
 obtain ⟨⟨p1,p2⟩,⟨p3,p4⟩,p5,p6⟩:=hp
 obtain ⟨⟨q1,q2⟩,⟨q3,q4⟩,q5,q6⟩:=hq
 simp only at p1 p2 p3 p4 p5 p6 q1 q2 q3 q4 q5 q6
 obtain ⟨m,rfl⟩:=Int.eq_ofNat_of_zero_le p1
 obtain ⟨o,rfl⟩:=Int.eq_ofNat_of_zero_le p3
 obtain ⟨n,rfl⟩:=Int.eq_ofNat_of_zero_le p5
 obtain ⟨m',rfl⟩:=Int.eq_ofNat_of_zero_le q1
 obtain ⟨o',rfl⟩:=Int.eq_ofNat_of_zero_le q3
 obtain ⟨n',rfl⟩:=Int.eq_ofNat_of_zero_le q5
 have ha:m &&& m' < 256:=Nat.lt_of_le_of_lt Nat.and_le_left (by omega)
 have ho:m ||| m' < 256:=Nat.or_lt_two_pow (n:=8) (by omega) (by omega)
 unfold Zez agW mkW
 simp only [Int.toNat_natCast]
 rw [Yjk (by omega) (by omega),u8n _ ha,Zwf _ ha,Option.bind_some,Ya0 (by omega) (by omega),Z4y (by omega) (by omega) (by omega),Option.bind_some,Z4y (by omega) (by omega) (by omega),Option.bind_some,Ykz (by omega) (by omega),u8n _ ho]
 cases decide (Zlm n o' (m &&& m')=n) <;> rfl
theorem Z22 {a b m:Nat} (ha:a < 2 ^ 64):Zlm a b m=a↔∀ i,i < 64→Nat.testBit m (i / 8)=true→Nat.testBit a i=Nat.testBit b i:=by
 refine ⟨fun h i hi hb => ?_,fun h=>Zsc (Zgz _ _ _) ha fun i hi => ?_⟩
 ·have:=Ut a b m i hi
  rw [h,Zhu,hb,if_pos rfl] at this
  exact this
 rw [Ut a b m i hi,Zhu]
 split
 ·rename_i q
  exact (h i hi q).symm
 rfl
theorem Z60 {p q:WE} (hp:Zop p) (hq:Zop q) {x:Int} (hx:0≤x∧x < 18446744073709551616):(cW x p=true∧cW (Zj0 x p) q=true↔agW p q=true∧cW x (mkW p q)=true)∧Zj0 x (mkW p q)=Zj0 (Zj0 x p) q:=by
 obtain ⟨X,rfl⟩:=Int.eq_ofNat_of_zero_le hx.1
 have hX:X < 2 ^ 64:=by omega
 have hN:p.New.toNat < 2 ^ 64:=by have:=hp.2.2;omega
 have hY:=Zgz X p.New.toNat p.Mask.toNat
 unfold cW agW Zj0 mkW
 simp only [Int.toNat_natCast,decide_eq_true_eq]
 rw [Z22 hX,Z22 hY,Z22 hN,Z22 hX]
 refine ⟨⟨fun ⟨h1,h2⟩=>⟨fun i hi hb => ?_,fun i hi hb => ?_⟩,fun ⟨h1,h2⟩=>⟨fun i hi hb => ?_,fun i hi hb => ?_⟩⟩,?_⟩
 ·rw [Nat.testBit_and,Bool.and_eq_true] at hb
  have:=h2 i hi hb.2
  rw [Ut _ _ _ i hi,Zhu,hb.1,if_pos rfl] at this
  exact this
 ·rw [Ut _ _ _ i hi,Zhu]
  by_cases hP:Nat.testBit p.Mask.toNat (i / 8)=true
  ·rw [if_pos hP];exact h1 i hi hP
  rw [if_neg hP]
  rw [Nat.testBit_or,Bool.or_eq_true] at hb
  have:=h2 i hi (hb.resolve_left hP)
  rw [Ut _ _ _ i hi,Zhu,if_neg hP] at this
  exact this
 ·have:=h2 i hi (by rw [Nat.testBit_or,hb];rfl)
  rw [Ut _ _ _ i hi,Zhu,if_pos hb] at this
  exact this
 ·rw [Ut _ _ _ i hi,Zhu]
  by_cases hP:Nat.testBit p.Mask.toNat (i / 8)=true
  ·rw [if_pos hP]
   exact h1 i hi (by rw [Nat.testBit_and,hP,hb];rfl)
  rw [if_neg hP]
  have:=h2 i hi (by rw [Nat.testBit_or,hb,Bool.or_true])
  rw [Ut _ _ _ i hi,Zhu,if_neg hP] at this
  exact this
 congr 1
 refine Zsc (Zgz _ _ _) (Zgz _ _ _) fun i hi => ?_
 rw [Ut _ _ _ i hi,Ut _ _ _ i hi,Ut _ _ _ i hi,Ut _ _ _ i hi,Zhu,Zhu,Zhu,Nat.testBit_or]
 cases Nat.testBit p.Mask.toNat (i / 8) <;> cases Nat.testBit q.Mask.toNat (i / 8) <;> rfl
def mg {α:Type} (pl:α→Int) (f:α→α→Option α):List α→List α→Option (List α)
 | [],q=>some q
 | x::p,[]=>some (x::p)
 | x::p,y::q=>if pl x < pl y then (mg pl f p (y::q)).map (x::·) else if pl y < pl x then (mg pl f (x::p) q).map (y::·) else match f x y with
  | none=>none
  | some z=>(mg pl f p q).map (z::·)
termination_by p q=>p.length+q.length
def fd {α:Type} (pl:α→Int) (l:List α) (j:Nat):Option α:=l.find? fun w=>(pl w).toNat == j
theorem Zf7 {α:Type} {pl:α→Int} (x:α) (l:List α) (j:Nat):fd pl (x::l) j=if (pl x).toNat=j then some x else fd pl l j:=by
 unfold fd
 rw [List.find?_cons]
 by_cases h:(pl x).toNat=j
 ·rw [if_pos h,show ((pl x).toNat == j)=true from beq_iff_eq.2 h]
 rw [if_neg h,show ((pl x).toNat == j)=false from beq_eq_false_iff_ne.2 h]
theorem Z9u {α:Type} {pl:α→Int} {l:List α} {j:Nat} (h:∀ x∈l,(pl x).toNat≠j):fd pl l j=none:=by
 unfold fd
 rw [List.find?_eq_none]
 intro x hx
 rw [beq_iff_eq]
 exact h x hx
theorem Zg1 {α:Type} {pl:α→Int} {l:List α} {j:Nat} {x:α} (h:fd pl l j=some x):x∈l∧(pl x).toNat=j:=by
 unfold fd at h
 exact ⟨List.mem_of_find?_eq_some h,by have:=List.find?_some h;simpa using this⟩
def Ycm {α:Type} (f:α→α→Option α):Option α→Option α→Option α
 | some x,some y=>f x y
 | some x,none=>some x
 | none,y=>y
def Rise {α:Type} (pl:α→Int) (l:List α):Prop:=l.Pairwise (fun a b=>pl a < pl b)∧∀ x∈l,0≤pl x
theorem Rise.tail {α:Type} {pl:α→Int} {x:α} {l:List α} (h:Rise pl (x::l)):Rise pl l:=⟨(List.pairwise_cons.1 h.1).2,fun y hy=>h.2 y (.tail _ hy)⟩
theorem Zkf {α:Type} {pl:α→Int} {f:α→α→Option α} (hf:∀ x y z,f x y=some z→pl z=pl x):∀ (n:Nat) (p q:List α),p.length+q.length≤n→Rise pl p→Rise pl q →
  (∀ l,mg pl f p q=some l→Rise pl l∧(∀ z∈l,(z∈p)∨(z∈q)∨∃ x∈p,∃ y∈q,f x y=some z)∧(∀ z∈l,(∃ x∈p,pl z=pl x)∨∃ y∈q,pl z=pl y)∧l.length≤p.length+q.length∧∀ j,fd pl l j=Ycm f (fd pl p j) (fd pl q j)) ∧
  (mg pl f p q=none→∃ j x y,fd pl p j=some x∧fd pl q j=some y∧f x y=none)
 | n,[],q,hn,hp,hq=>by
  refine ⟨fun l h => ?_,fun h => ?_⟩
  ·rw [mg] at h
   injection h with h
   subst h
   exact ⟨hq,fun z hz => .inr (.inl hz),fun z hz => .inr ⟨z,hz,rfl⟩,by simp,fun j=>rfl⟩
  rw [mg] at h;cases h
 | n,x::p,[],hn,hp,hq=>by
  refine ⟨fun l h => ?_,fun h => ?_⟩
  ·rw [mg] at h
   injection h with h
   subst h
   refine ⟨hp,fun z hz => .inl hz,fun z hz => .inl ⟨z,hz,rfl⟩,by simp,fun j => ?_⟩
   cases fd pl (x::p) j <;> rfl
  rw [mg] at h;cases h
 | 0,x::p,y::q,hn,hp,hq=>by simp at hn
 | n+1,x::p,y::q,hn,hp,hq=>by
  simp only [List.length_cons] at hn
  have hpx:=(List.pairwise_cons.1 hp.1).1
  have hqy:=(List.pairwise_cons.1 hq.1).1
  have x0:=hp.2 x (.head _)
  have y0:=hq.2 y (.head _)
  rw [mg]
  by_cases h1:pl x < pl y
  ·rw [if_pos h1]
   obtain ⟨i1,i2⟩:=Zkf hf n p (y::q) (by simp only [List.length_cons];omega) hp.tail hq
   refine ⟨fun l h => ?_,fun h => ?_⟩
   ·obtain ⟨l',e,rfl⟩:=Option.map_eq_some_iff.1 h
    obtain ⟨a1,a2,a3,a4,a5⟩:=i1 l' e
    refine ⟨⟨List.pairwise_cons.2 ⟨fun z hz => ?_,a1.1⟩,fun z hz => ?_⟩,fun z hz => ?_,fun z hz => ?_,by simp only [List.length_cons] at a4 ⊢;omega,fun j => ?_⟩
    ·rcases a3 z hz with ⟨w,hw,e⟩ | ⟨w,hw,e⟩
     ·rw [e];exact hpx w hw
     rw [e]
     rcases List.mem_cons.1 hw with rfl | hw
     ·exact h1
     have:=hqy w hw;omega
    ·rcases List.mem_cons.1 hz with rfl | hz
     ·exact x0
     exact a1.2 z hz
    ·rcases List.mem_cons.1 hz with rfl | hz
     ·exact .inl (.head _)
     rcases a2 z hz with h | h | ⟨u,hu,v,hv,e⟩
     ·exact .inl (.tail _ h)
     ·exact .inr (.inl h)
     exact .inr (.inr ⟨u,.tail _ hu,v,hv,e⟩)
    ·rcases List.mem_cons.1 hz with rfl | hz
     ·exact .inl ⟨z,.head _,rfl⟩
     rcases a3 z hz with ⟨w,hw,e⟩ | h
     ·exact .inl ⟨w,.tail _ hw,e⟩
     exact .inr h
    rw [Zf7,Zf7]
    by_cases hj:(pl x).toNat=j
    ·rw [if_pos hj,if_pos hj,Z9u (l:=y::q) fun w hw=>by
      have:=hq.2 w hw
      rcases List.mem_cons.1 hw with rfl | hw
      ·omega
      have:=hqy w hw;omega]
     rfl
    rw [if_neg hj,if_neg hj]
    exact a5 j
   have e:mg pl f p (y::q)=none:=by
    cases hm:mg pl f p (y::q) with
    | none=>rfl
    | some l=>rw [hm] at h;cases h
   obtain ⟨j,u,v,e1,e2,e3⟩:=i2 e
   refine ⟨j,u,v,?_,e2,e3⟩
   rw [Zf7,if_neg,e1]
   have:=Zg1 e1
   have:=hpx u this.1
   omega
  rw [if_neg h1]
  by_cases h2:pl y < pl x
  ·rw [if_pos h2]
   obtain ⟨i1,i2⟩:=Zkf hf n (x::p) q (by simp only [List.length_cons];omega) hp hq.tail
   refine ⟨fun l h => ?_,fun h => ?_⟩
   ·obtain ⟨l',e,rfl⟩:=Option.map_eq_some_iff.1 h
    obtain ⟨a1,a2,a3,a4,a5⟩:=i1 l' e
    refine ⟨⟨List.pairwise_cons.2 ⟨fun z hz => ?_,a1.1⟩,fun z hz => ?_⟩,fun z hz => ?_,fun z hz => ?_,by simp only [List.length_cons] at a4 ⊢;omega,fun j => ?_⟩
    ·rcases a3 z hz with ⟨w,hw,e⟩ | ⟨w,hw,e⟩
     ·rw [e]
      rcases List.mem_cons.1 hw with rfl | hw
      ·exact h2
      have:=hpx w hw;omega
     rw [e];exact hqy w hw
    ·rcases List.mem_cons.1 hz with rfl | hz
     ·exact y0
     exact a1.2 z hz
    ·rcases List.mem_cons.1 hz with rfl | hz
     ·exact .inr (.inl (.head _))
     rcases a2 z hz with h | h | ⟨u,hu,v,hv,e⟩
     ·exact .inl h
     ·exact .inr (.inl (.tail _ h))
     exact .inr (.inr ⟨u,hu,v,.tail _ hv,e⟩)
    ·rcases List.mem_cons.1 hz with rfl | hz
     ·exact .inr ⟨z,.head _,rfl⟩
     rcases a3 z hz with h | ⟨w,hw,e⟩
     ·exact .inl h
     exact .inr ⟨w,.tail _ hw,e⟩
    rw [Zf7,Zf7 y]
    by_cases hj:(pl y).toNat=j
    ·rw [if_pos hj,if_pos hj,Z9u (l:=x::p) fun w hw=>by
      have:=hp.2 w hw
      rcases List.mem_cons.1 hw with rfl | hw
      ·omega
      have:=hpx w hw;omega]
     rfl
    rw [if_neg hj,if_neg hj]
    exact a5 j
   have e:mg pl f (x::p) q=none:=by
    cases hm:mg pl f (x::p) q with
    | none=>rfl
    | some l=>rw [hm] at h;cases h
   obtain ⟨j,u,v,e1,e2,e3⟩:=i2 e
   refine ⟨j,u,v,e1,?_,e3⟩
   rw [Zf7,if_neg,e2]
   have:=Zg1 e2
   have:=hqy v this.1
   omega
  rw [if_neg h2]
  cases hz:f x y with
  | none =>
   refine ⟨fun l h=>(by cases h),fun _=>⟨(pl x).toNat,x,y,?_,?_,hz⟩⟩
   ·rw [Zf7,if_pos rfl]
   rw [Zf7,if_pos (by omega)]
  | some z =>
   have ez:=hf x y z hz
   obtain ⟨i1,i2⟩:=Zkf hf n p q (by omega) hp.tail hq.tail
   simp only
   refine ⟨fun l h => ?_,fun h => ?_⟩
   ·obtain ⟨l',e,rfl⟩:=Option.map_eq_some_iff.1 h
    obtain ⟨a1,a2,a3,a4,a5⟩:=i1 l' e
    refine ⟨⟨List.pairwise_cons.2 ⟨fun w hw => ?_,a1.1⟩,fun w hw => ?_⟩,fun w hw => ?_,fun w hw => ?_,by simp only [List.length_cons] at a4 ⊢;omega,fun j => ?_⟩
    ·rcases a3 w hw with ⟨v,hv,e⟩ | ⟨v,hv,e⟩
     ·rw [e];have:=hpx v hv;omega
     rw [e];have:=hqy v hv;omega
    ·rcases List.mem_cons.1 hw with rfl | hw
     ·omega
     exact a1.2 w hw
    ·rcases List.mem_cons.1 hw with rfl | hw
     ·exact .inr (.inr ⟨x,.head _,y,.head _,hz⟩)
     rcases a2 w hw with h | h | ⟨u,hu,v,hv,e⟩
     ·exact .inl (.tail _ h)
     ·exact .inr (.inl (.tail _ h))
     exact .inr (.inr ⟨u,.tail _ hu,v,.tail _ hv,e⟩)
    ·rcases List.mem_cons.1 hw with rfl | hw
     ·exact .inl ⟨x,.head _,ez⟩
     rcases a3 w hw with ⟨v,hv,e⟩ | ⟨v,hv,e⟩
     ·exact .inl ⟨v,.tail _ hv,e⟩
     exact .inr ⟨v,.tail _ hv,e⟩
    rw [Zf7,Zf7,Zf7]
    by_cases hj:(pl x).toNat=j
    ·rw [if_pos (by omega),if_pos hj,if_pos (by omega)]
     exact hz.symm
    rw [if_neg (by omega),if_neg hj,if_neg (by omega)]
    exact a5 j
   have e:mg pl f p q=none:=by
    cases hm:mg pl f p q with
    | none=>rfl
    | some l=>rw [hm] at h;cases h
   obtain ⟨j,u,v,e1,e2,e3⟩:=i2 e
   have f1:=Zg1 e1
   have:=hpx u f1.1
   refine ⟨j,u,v,?_,?_,e3⟩
   ·rw [Zf7,if_neg (by omega),e1]
   rw [Zf7,if_neg (by omega),e2]
theorem Zsm {α:Type} {pl:α→Int} {f:α→α→Option α} {P Q:List α} {step:List α×List α×List α→Option ((List α×List α×List α) ⊕ (Unit ⊕ (List α×List α×List α)))} (B:Nat)
  (H0:∀ p q out,p=[]∨q=[]→step (p,q,out)=some (.inr (.inr (p,q,out))))
  (H1:∀ x p y q out,pl x < pl y→out.length≤B→(x::p).length≤B→(y::q).length≤B→step (x::p,y::q,out)=some (.inl (p,y::q,out++[x])))
  (H2:∀ x p y q out,pl y < pl x→out.length≤B→(x::p).length≤B→(y::q).length≤B→step (x::p,y::q,out)=some (.inl (x::p,q,out++[y])))
  (H3:∀ x p y q out,x∈P→y∈Q→pl x=pl y→out.length≤B→(x::p).length≤B→(y::q).length≤B→step (x::p,y::q,out)=some (match f x y with | some z => .inl (p,q,out++[z]) | none => .inr (.inl ()))) :
  ∀ (n:Nat) (p q out:List α),p.length+q.length≤n→(∀ x∈p,x∈P)→(∀ y∈q,y∈Q)→out.length+n≤B →
   (∀ l,mg pl f p q=some l→∃ p' q' out',Zw step (p,q,out)=some (.inr (p',q',out'))∧out'++p'++q'=out++l)∧(mg pl f p q=none→Zw step (p,q,out)=some (.inl ()))
 | n,[],q,out,hn,hp,hq,hB=>by
  refine ⟨fun l h => ?_,fun h => ?_⟩
  ·rw [mg] at h
   injection h with h
   subst h
   exact ⟨_,_,_,Z8 (H0 _ _ _ (.inl rfl)),by rw [List.append_nil]⟩
  rw [mg] at h;cases h
 | n,x::p,[],out,hn,hp,hq,hB=>by
  refine ⟨fun l h => ?_,fun h => ?_⟩
  ·rw [mg] at h
   injection h with h
   subst h
   exact ⟨_,_,_,Z8 (H0 _ _ _ (.inr rfl)),by rw [List.append_nil]⟩
  rw [mg] at h;cases h
 | 0,x::p,y::q,out,hn,hp,hq,hB=>by simp at hn
 | n+1,x::p,y::q,out,hn,hp,hq,hB=>by
  simp only [List.length_cons] at hn
  have lx:(x::p).length≤B:=by simp only [List.length_cons];omega
  have ly:(y::q).length≤B:=by simp only [List.length_cons];omega
  rw [mg]
  by_cases h1:pl x < pl y
  ·rw [if_pos h1,Yr (H1 x p y q out h1 (by omega) lx ly)]
   obtain ⟨i1,i2⟩:=Zsm B H0 H1 H2 H3 n p (y::q) (out++[x]) (by simp only [List.length_cons];omega) (fun z hz=>hp z (.tail _ hz)) hq (by simp only [List.length_append,List.length_singleton];omega)
   refine ⟨fun l h => ?_,fun h => ?_⟩
   ·obtain ⟨l',e,rfl⟩:=Option.map_eq_some_iff.1 h
    obtain ⟨p',q',o',e1,e2⟩:=i1 l' e
    exact ⟨p',q',o',e1,by rw [e2,List.append_assoc];rfl⟩
   exact i2 (by cases hm:mg pl f p (y::q) with
    | none=>rfl
    | some l=>rw [hm] at h;cases h)
  rw [if_neg h1]
  by_cases h2:pl y < pl x
  ·rw [if_pos h2,Yr (H2 x p y q out h2 (by omega) lx ly)]
   obtain ⟨i1,i2⟩:=Zsm B H0 H1 H2 H3 n (x::p) q (out++[y]) (by simp only [List.length_cons];omega) hp (fun z hz=>hq z (.tail _ hz)) (by simp only [List.length_append,List.length_singleton];omega)
   refine ⟨fun l h => ?_,fun h => ?_⟩
   ·obtain ⟨l',e,rfl⟩:=Option.map_eq_some_iff.1 h
    obtain ⟨p',q',o',e1,e2⟩:=i1 l' e
    exact ⟨p',q',o',e1,by rw [e2,List.append_assoc];rfl⟩
   exact i2 (by cases hm:mg pl f (x::p) q with
    | none=>rfl
    | some l=>rw [hm] at h;cases h)
  rw [if_neg h2]
  have hs:=H3 x p y q out (hp x (.head _)) (hq y (.head _)) (by omega) (by omega) lx ly
  cases hz:f x y with
  | none =>
   rw [hz] at hs
   exact ⟨fun l h=>(by cases h),fun _=>Z8 hs⟩
  | some z =>
   rw [hz] at hs
   simp only at hs ⊢
   rw [Yr hs]
   obtain ⟨i1,i2⟩:=Zsm B H0 H1 H2 H3 n p q (out++[z]) (by omega) (fun z hz=>hp z (.tail _ hz)) (fun z hz=>hq z (.tail _ hz)) (by simp only [List.length_append,List.length_singleton];omega)
   refine ⟨fun l h => ?_,fun h => ?_⟩
   ·obtain ⟨l',e,rfl⟩:=Option.map_eq_some_iff.1 h
    obtain ⟨p',q',o',e1,e2⟩:=i1 l' e
    exact ⟨p',q',o',e1,by rw [e2,List.append_assoc];rfl⟩
   exact i2 (by cases hm:mg pl f p q with
    | none=>rfl
    | some l=>rw [hm] at h;cases h)
theorem Zx0 {α:Type} {pl:α→Int} {f:α→α→Option α}:∀ (n:Nat) (p q l:List α),p.length+q.length≤n→mg pl f p q=some l→l.length≤p.length+q.length
 | n,[],q,l,hn,h=>by rw [mg] at h;injection h with h;subst h;simp
 | n,x::p,[],l,hn,h=>by rw [mg] at h;injection h with h;subst h;simp
 | 0,x::p,y::q,l,hn,h=>by simp at hn
 | n+1,x::p,y::q,l,hn,h=>by
  simp only [List.length_cons] at hn ⊢
  rw [mg] at h
  split at h
  ·obtain ⟨l',e,rfl⟩:=Option.map_eq_some_iff.1 h
   have:=Zx0 n p (y::q) l' (by simp only [List.length_cons];omega) e
   simp only [List.length_cons] at this ⊢
   omega
  split at h
  ·obtain ⟨l',e,rfl⟩:=Option.map_eq_some_iff.1 h
   have:=Zx0 n (x::p) q l' (by simp only [List.length_cons];omega) e
   simp only [List.length_cons] at this ⊢
   omega
  split at h
  ·cases h
  obtain ⟨l',e,rfl⟩:=Option.map_eq_some_iff.1 h
  have:=Zx0 n p q l' (by omega) e
  simp only [List.length_cons]
  omega
theorem Zjv {α:Type} {x:α} {p:List α} (h:((x::p).length:Int)≤140737488355328):Zcl (x::p) 1 ((x::p).length:Int)=some p:=by
 rw [Zjd (by omega) (by rw [List.length_cons];omega) (Int.le_refl _)]
 simp
def fW (x y:WE):Option WE:=if agW x y=true then some (mkW x y) else none
theorem Zg0 {α:Type} (x:α) (p:List α):decide (0 < ((x::p).length:Int))=true:=by rw [decide_eq_true_eq,List.length_cons];omega
theorem Ybs {P Q:List WE} (hP:∀ w∈P,Zop w) (hQ:∀ w∈Q,Zop w) (lP:P.length≤1000000) (lQ:Q.length≤1000000) :
  Qc P Q=some (match mg (·.At) fW P Q with | some l=>(l,true) | none=>([],false)):=by
 have g0:∀ (x:WE) (p:List WE),Xr (x::p) 0=some x:=fun x p=>Yw (i:=0) rfl
 have ap:∀ (out l:List WE),out.length+l.length≤6000000→Vx 32 out l=some (out++l):=fun out l h=>Kb (by omega) (by omega)
 obtain ⟨h1,h2⟩:=Zsm (pl:=fun w:WE=>w.At) (f:=fW) (P:=P) (Q:=Q) (step:=Y5) 2000000
  (fun p q out h=>by
   unfold Y5
   simp only
   rcases h with rfl | rfl
   ·rfl
   cases p <;> simp)
  (fun x p y q out h b1 b2 b3=>by
   unfold Y5 Qi
   simp only
   rw [Zg0,Zg0,cond_true,cond_true,g0,Option.bind_some,Option.bind_some,g0,Option.bind_some,Option.bind_some,decide_eq_true h,cond_true,Option.bind_some,Zjv (by omega),Option.bind_some,ap _ _ (by simp only [List.length_singleton];omega)]
   rfl)
  (fun x p y q out h b1 b2 b3=>by
   unfold Y5 Qi
   simp only
   rw [Zg0,Zg0,cond_true,cond_true,g0,Option.bind_some,Option.bind_some,g0,Option.bind_some,Option.bind_some,decide_eq_false (show ¬ x.At < y.At by omega),cond_false,Option.bind_some,Option.bind_some,Option.bind_some,Option.bind_some,decide_eq_true h,cond_true,Option.bind_some,Zjv (by omega),Option.bind_some,ap _ _ (by simp only [List.length_singleton];omega)]
   rfl)
  (fun x p y q out hx hy h b1 b2 b3=>by
   unfold Y5 Qi
   simp only
   rw [Zg0,Zg0,cond_true,cond_true,g0,Option.bind_some,Option.bind_some,g0,Option.bind_some,Option.bind_some,decide_eq_false (show ¬ x.At < y.At by omega),cond_false,Option.bind_some,Option.bind_some,Option.bind_some,Option.bind_some,decide_eq_false (show ¬ y.At < x.At by omega),cond_false,Option.bind_some,Option.bind_some,Yf3 (hP x hx) (hQ y hy),Option.bind_some]
   unfold fW
   by_cases q:agW x y=true
   ·rw [if_pos q,if_pos q]
    simp only [Bool.not_true,cond_false]
    rw [Zjv (by omega),Option.bind_some,Zjv (by omega),Option.bind_some,ap _ _ (by simp only [List.length_singleton];omega)]
    rfl
   rw [if_neg q,if_neg q]
   rfl)
  (P.length+Q.length) P Q [] (Nat.le_refl _) (fun _ h=>h) (fun _ h=>h) (by simp only [List.length_nil];omega)
 unfold Qc
 cases hm:mg (fun w:WE=>w.At) fW P Q with
 | none=>rw [h2 hm];rfl
 | some l =>
  obtain ⟨p',q',o',e1,e2⟩:=h1 l hm
  have hl:=Zx0 _ P Q l (Nat.le_refl _) hm
  rw [List.nil_append] at e2
  have hle:=congrArg List.length e2
  simp only [List.length_append] at hle
  rw [e1,Option.bind_some]
  simp only
  rw [ap _ _ (by omega),Option.bind_some,ap _ _ (by simp only [List.length_append];omega),Option.bind_some,e2]
abbrev KE:=Zd
theorem Ybr {F:KE→KE→Option (KE×Bool)} {r1 r2 r3:Ed→Ed→Option (Ed×Bool)} {r4:List KE→List KE→Option (List KE×Bool)} {r6:Pc→Option (List EO×Bool)} {f:KE→KE→Option KE} {P Q:List KE} (hF:∀ x∈P,∀ y∈Q,x.At=y.At→∃ z b,F x y=some (z,b)∧f x y=if b=true then some z else none) (lP:P.length≤250000) (lQ:Q.length≤250000) :
  Qf r1 r2 r3 r4 F r6 P Q=some (match mg (·.At) f P Q with | some l=>(l,true) | none=>([],false)):=by
 have g0:∀ (x:KE) (p:List KE),Xr (x::p) 0=some x:=fun x p=>Yw (i:=0) rfl
 have ap:∀ (out l:List KE),out.length+l.length≤1500000→Vx 208 out l=some (out++l):=fun out l h=>Kb (by omega) (by omega)
 obtain ⟨h1,h2⟩:=Zsm (pl:=fun w:KE=>w.At) (f:=f) (P:=P) (Q:=Q) (step:=Y9 F) 500000
  (fun p q out h=>by
   unfold Y9
   simp only
   rcases h with rfl | rfl
   ·rfl
   cases p <;> simp)
  (fun x p y q out h b1 b2 b3=>by
   unfold Y9 Qj
   simp only
   rw [Zg0,Zg0,cond_true,cond_true,g0,Option.bind_some,Option.bind_some,g0,Option.bind_some,Option.bind_some,decide_eq_true h,cond_true,Option.bind_some,Zjv (by omega),Option.bind_some,ap _ _ (by simp only [List.length_singleton];omega)]
   rfl)
  (fun x p y q out h b1 b2 b3=>by
   unfold Y9 Qj
   simp only
   rw [Zg0,Zg0,cond_true,cond_true,g0,Option.bind_some,Option.bind_some,g0,Option.bind_some,Option.bind_some,decide_eq_false (show ¬ x.At < y.At by omega),cond_false,Option.bind_some,Option.bind_some,Option.bind_some,Option.bind_some,decide_eq_true h,cond_true,Option.bind_some,Zjv (by omega),Option.bind_some,ap _ _ (by simp only [List.length_singleton];omega)]
   rfl)
  (fun x p y q out hx hy h b1 b2 b3=>by
   obtain ⟨z,b,e1,e2⟩:=hF x hx y hy h
   unfold Y9 Qj
   simp only
   rw [Zg0,Zg0,cond_true,cond_true,g0,Option.bind_some,Option.bind_some,g0,Option.bind_some,Option.bind_some,decide_eq_false (show ¬ x.At < y.At by omega),cond_false,Option.bind_some,Option.bind_some,Option.bind_some,Option.bind_some,decide_eq_false (show ¬ y.At < x.At by omega),cond_false,Option.bind_some,Option.bind_some,e1,Option.bind_some,e2]
   cases b with
   | true =>
    simp only [Bool.not_true,cond_false,if_true]
    rw [Zjv (by omega),Option.bind_some,Zjv (by omega),Option.bind_some,ap _ _ (by simp only [List.length_singleton];omega)]
    rfl
   | false=>rfl)
  (P.length+Q.length) P Q [] (Nat.le_refl _) (fun _ h=>h) (fun _ h=>h) (by simp only [List.length_nil];omega)
 unfold Qf
 cases hm:mg (fun w:KE=>w.At) f P Q with
 | none=>rw [h2 hm];rfl
 | some l =>
  obtain ⟨p',q',o',e1,e2⟩:=h1 l hm
  have hl:=Zx0 _ P Q l (Nat.le_refl _) hm
  rw [List.nil_append] at e2
  have hle:=congrArg List.length e2
  simp only [List.length_append] at hle
  rw [e1,Option.bind_some]
  simp only
  rw [ap _ _ (by omega),Option.bind_some,ap _ _ (by simp only [List.length_append];omega),Option.bind_some,e2]
def EF (e p q:Ed):Prop:=∀ t,GT t→ap e t=(ap p t).bind (ap q)
def NE (p q:Ed):Prop:=∀ t,GT t→(ap p t).bind (ap q)=none
def stW (ws:List WE) (j:Nat) (x:Int):Option Int:=match fd (·.At) ws j with
 | none=>some x
 | some w=>if cW x w=true then some (Zj0 x w) else none
def stK (ks:List KE) (j:Nat) (x:Tr):Option Tr:=match fd (·.At) ks j with
 | none=>some x
 | some k=>ap k.E x
theorem Z9v {α:Type} {pl:α→Int} {l:List α} (h:l.Pairwise (fun a b=>(pl a).toNat≠(pl b).toNat)) {w:α} (hw:w∈l):fd pl l (pl w).toNat=some w:=by
 cases hf:fd pl l (pl w).toNat with
 | none =>
  unfold fd at hf
  have:=List.find?_eq_none.1 hf w hw
  simp at this
 | some x =>
  obtain ⟨h1,h2⟩:=Zg1 hf
  rw [Z3s (f:=fun a=>(pl a).toNat) h x h1 w hw h2]
theorem Ygv {o:List Int} {ws:List WE} (h:ws.Pairwise (fun a b=>a.At.toNat≠b.At.toNat)) (q:∀ j,stW ws j (Kx 0 o j)≠none):Z0b o ws:=fun w hw=>by
 have:=q w.At.toNat
 unfold stW at this
 rw [Z9v (pl:=fun w:WE=>w.At) h hw] at this
 simp only at this
 exact Classical.byContradiction fun c=>this (by rw [if_neg c])
theorem Yi0 {o:List Int} {ws:List WE} (q:Z0b o ws) (j:Nat):stW ws j (Kx 0 o j)=some (upW o ws (Kx 0 o) j):=by
 unfold stW upW fd
 cases hf:ws.find? (fun w=>w.At.toNat == j) with
 | none=>rfl
 | some w =>
  have h2:=List.find?_some hf
  rw [beq_iff_eq] at h2
  have:=q w (List.mem_of_find?_eq_some hf)
  rw [h2] at this
  simp only
  rw [if_pos this]
theorem Yh8 (ks:List KE) (j:Nat):(apK ks).find? (fun k=>k.1 == j)=(fd (·.At) ks j).map fun k=>(k.At.toNat,ap k.E):=by
 unfold apK fd
 rw [List.find?_map]
 rfl
theorem Ygu {o:List Tr} {ks:List KE} (h:ks.Pairwise (fun a b=>a.At.toNat≠b.At.toNat)) (q:∀ j,stK ks j (Kx Ja o j)≠none):Ybt o (apK ks):=fun w hw=>by
 obtain ⟨k,hk,rfl⟩:=List.mem_map.1 hw
 have:=q k.At.toNat
 unfold stK at this
 rw [Z9v (pl:=fun w:KE=>w.At) h hk] at this
 simp only at this ⊢
 exact Option.isSome_iff_ne_none.2 this
theorem Yiy {o:List Tr} {ks:List KE} (q:Ybt o (apK ks)) (j:Nat):stK ks j (Kx Ja o j)=some (upK o (apK ks) (Kx Ja o) j):=by
 unfold stK upK
 rw [Yh8]
 cases hf:fd (fun k:KE=>k.At) ks j with
 | none=>rfl
 | some k =>
  obtain ⟨h1,h2⟩:=Zg1 hf
  have:=q (k.At.toNat,ap k.E) (List.mem_map.2 ⟨k,h1,rfl⟩)
  simp only at this
  rw [h2] at this
  obtain ⟨u,hu⟩:=Option.isSome_iff_exists.1 this
  simp only [Option.map_some]
  rw [hu]
  rfl
theorem Zni {e:Ed} {t:Tr} (k2:e.Kind=2) (hz:RZ e) (hb:BE e) (gt:GT t) (k1:t.Kind=1) :
  (∃ u,ap e t=some u∧GT u∧u.Kind=1∧(∀ j,stW e.Words j (Kx 0 t.Words j)=some (Kx 0 u.Words j))∧∀ j,stK e.Kids j (Kx Ja t.Kids j)=some (Kx Ja u.Kids j)) ∨
  (ap e t=none∧((∃ j,stW e.Words j (Kx 0 t.Words j)=none)∨∃ j,stK e.Kids j (Kx Ja t.Kids j)=none)):=by
 have hz':=hz
 cases hz with
 | same _ k=>omega
 | repl _ k=>omega
 | li _ k=>omega
 | st _ _ hw hw2 hk hk2 ih =>
  have nw:=Zpv hw hw2
  have nk:=Zpv hk hk2
  have e0:ap e t=(rnW t.Words e.Words t.Words).bind fun ws=>(rnK t.Kids (apK e.Kids) t.Kids).bind fun ks=>some ⟨1,tr p0 ws,tr pT ks⟩:=by
   rw [Zb4,if_neg (by omega),if_neg (by omega),if_pos k2,if_pos k1]
  have hnt:∀ w∈apK e.Kids,∀ v,w.2 (Kx Ja t.Kids w.1)=some v→NT v:=fun w hwm v hv=>by
   obtain ⟨k,hkm,rfl⟩:=List.mem_map.1 hwm
   exact (Zwu _ k.E _ v (Nat.lt_succ_self _) (ih k hkm) (hb.ks k hkm) (gt.at_ _) hv).1.n
  obtain ⟨s1,s2⟩:=Zld t.Words e.Words t.Words nw
  obtain ⟨r1,r2⟩:=Zo6 t.Kids (apK e.Kids) t.Kids (List.pairwise_map.2 nk) hnt
  by_cases okw:Z0b t.Words e.Words
  ·by_cases okk:Ybt t.Kids (apK e.Kids)
   ·obtain ⟨ws,f1,f2⟩:=s1 okw
    obtain ⟨ks,g1,g2⟩:=r1 okk
    have hm:=Zpw t.Kids NT NT.z (apK e.Kids) t.Kids ks hnt gt.n.kids g1
    rw [f1,Option.bind_some,g1,Option.bind_some] at e0
    refine .inl ⟨_,e0,(Zwu _ e t _ (Nat.lt_succ_self _) hz' hb gt e0).1,rfl,fun j => ?_,fun j => ?_⟩
    ·rw [Yi0 okw]
     simp only
     rw [Zta ws fun x _ hx=>Z0h hx,f2 j]
    rw [Yiy okk]
    simp only
    rw [Zta ks fun x hx hp=>(hm x hx).null hp,g2 j]
   refine .inr ⟨?_,.inr (Classical.byContradiction fun c=>okk (Ygu nk fun j h=>c ⟨j,h⟩))⟩
   rw [e0,r2 okk]
   cases rnW t.Words e.Words t.Words <;> rfl
  refine .inr ⟨?_,.inl (Classical.byContradiction fun c=>okw (Ygv nw fun j h=>c ⟨j,h⟩))⟩
  rw [e0,s2 okw]
  rfl
theorem Yi1 {t u:Tr} (ht:NT t) (hu:NT u) (k1:t.Kind=1) (k2:u.Kind=1) (hw:∀ j,Kx 0 t.Words j=Kx 0 u.Words j) (hk:∀ j,Kx Ja t.Kids j=Kx Ja u.Kids j):t=u:=by
 have h1:=Z6u hu k2 hw
 have h2:=Yaz hu k2 ht.kids hk
 rw [(ht.words k1).1] at h1
 rw [(ht.words k1).2] at h2
 obtain ⟨a,b,c⟩:=t
 obtain ⟨a',b',c'⟩:=u
 simp only at h1 h2 k1 k2
 rw [h1,h2,k1,k2]
theorem Zwa {e:Ed} {t:Tr} (k2:e.Kind=2) (k1:¬ t.Kind=1):ap e t=none:=by rw [Zb4,if_neg (by omega),if_neg (by omega),if_pos k2,if_neg k1]
theorem GT.w {t:Tr} (h:GT t) (j:Nat):0≤Kx 0 t.Words j∧Kx 0 t.Words j < 18446744073709551616:=Z69 h.g.u j
theorem Ybe {e p q:Ed} (ke:e.Kind=2) (kp:p.Kind=2) (kq:q.Kind=2) (ze:RZ e) (zp:RZ p) (zq:RZ q) (be:BE e) (bp:BE p) (bq:BE q)
  (hW:∀ j x,0≤x∧x < 18446744073709551616→stW e.Words j x=(stW p.Words j x).bind (stW q.Words j)) (hK:∀ j x,GT x→stK e.Kids j x=(stK p.Kids j x).bind (stK q.Kids j)):EF e p q:=fun t gt=>by
 by_cases k1:t.Kind=1
 ·rcases Zni kp zp bp gt k1 with ⟨v,p1,p2,p3,p4,p5⟩ | ⟨p1,p2⟩
  ·have W:∀ j,stW e.Words j (Kx 0 t.Words j)=stW q.Words j (Kx 0 v.Words j):=fun j=>by rw [hW j _ (gt.w j),p4 j];rfl
   have K:∀ j,stK e.Kids j (Kx Ja t.Kids j)=stK q.Kids j (Kx Ja v.Kids j):=fun j=>by rw [hK j _ (gt.at_ j),p5 j];rfl
   rw [p1,Option.bind_some]
   rcases Zni ke ze be gt k1 with ⟨u,e1,e2,e3,e4,e5⟩ | ⟨e1,e2⟩
   ·rcases Zni kq zq bq p2 p3 with ⟨w,q1,q2,q3,q4,q5⟩ | ⟨q1,q2⟩
    ·rw [e1,q1,Yi1 e2.n q2.n e3 q3 (fun j=>Option.some.inj (by rw [← e4 j,W j,q4 j])) fun j=>Option.some.inj (by rw [← e5 j,K j,q5 j])]
    rcases q2 with ⟨j,h⟩ | ⟨j,h⟩
    ·have:=e4 j
     rw [W j,h] at this
     cases this
    have:=e5 j
    rw [K j,h] at this
    cases this
   rcases Zni kq zq bq p2 p3 with ⟨w,q1,q2,q3,q4,q5⟩ | ⟨q1,q2⟩
   ·rcases e2 with ⟨j,h⟩ | ⟨j,h⟩
    ·rw [W j,q4 j] at h
     cases h
    rw [K j,q5 j] at h
    cases h
   rw [e1,q1]
  rw [p1,Option.bind_none]
  rcases Zni ke ze be gt k1 with ⟨u,e1,e2,e3,e4,e5⟩ | ⟨e1,e2⟩
  ·rcases p2 with ⟨j,h⟩ | ⟨j,h⟩
   ·have:=e4 j
    rw [hW j _ (gt.w j),h] at this
    cases this
   have:=e5 j
   rw [hK j _ (gt.at_ j),h] at this
   cases this
  exact e1
 rw [Zwa ke k1,Zwa kp k1]
 rfl
theorem Z08 {p q:Ed} (kp:p.Kind=2) (kq:q.Kind=2) (zp:RZ p) (zq:RZ q) (bp:BE p) (bq:BE q)
  (h:(∃ j,∀ x,0≤x∧x < 18446744073709551616→(stW p.Words j x).bind (stW q.Words j)=none)∨∃ j,∀ x,GT x→(stK p.Kids j x).bind (stK q.Kids j)=none):NE p q:=fun t gt=>by
 by_cases k1:t.Kind=1
 ·rcases Zni kp zp bp gt k1 with ⟨v,p1,p2,p3,p4,p5⟩ | ⟨p1,p2⟩
  ·rw [p1,Option.bind_some]
   rcases Zni kq zq bq p2 p3 with ⟨w,q1,q2,q3,q4,q5⟩ | ⟨q1,q2⟩
   ·rcases h with ⟨j,h⟩ | ⟨j,h⟩
    ·have:=h _ (gt.w j)
     rw [p4 j,Option.bind_some,q4 j] at this
     cases this
    have:=h _ (gt.at_ j)
    rw [p5 j,Option.bind_some,q5 j] at this
    cases this
   exact q1
  rw [p1];rfl
 rw [Zwa kp k1]
 rfl
theorem Zxz {α:Type} {pl:α→Int} {f:α→α→Option α}:∀ (n:Nat) (p q l:List α),p.length+q.length≤n→Rise pl p→Rise pl q→mg pl f p q=some l→∀ x∈p,∀ y∈q,pl x=pl y→(f x y).isSome=true
 | n,[],q,l,hn,hp,hq,h=>fun x hx=>by cases hx
 | n,a::p,[],l,hn,hp,hq,h=>fun x hx y hy=>by cases hy
 | 0,a::p,b::q,l,hn,hp,hq,h=>by simp at hn
 | n+1,a::p,b::q,l,hn,hp,hq,h=>by
  simp only [List.length_cons] at hn
  have hpx:=(List.pairwise_cons.1 hp.1).1
  have hqy:=(List.pairwise_cons.1 hq.1).1
  rw [mg] at h
  intro x hx y hy hxy
  split at h
  ·obtain ⟨l',e,rfl⟩:=Option.map_eq_some_iff.1 h
   rcases List.mem_cons.1 hx with rfl | hx
   ·rcases List.mem_cons.1 hy with rfl | hy
    ·omega
    have:=hqy y hy;omega
   exact Zxz n p (b::q) l' (by simp only [List.length_cons];omega) hp.tail hq e x hx y hy hxy
  split at h
  ·obtain ⟨l',e,rfl⟩:=Option.map_eq_some_iff.1 h
   rcases List.mem_cons.1 hy with rfl | hy
   ·rcases List.mem_cons.1 hx with rfl | hx
    ·omega
    have:=hpx x hx;omega
   exact Zxz n (a::p) q l' (by simp only [List.length_cons];omega) hp hq.tail e x hx y hy hxy
  split at h
  ·cases h
  rename_i z hz
  obtain ⟨l',e,rfl⟩:=Option.map_eq_some_iff.1 h
  rcases List.mem_cons.1 hx with rfl | hx
  ·rcases List.mem_cons.1 hy with rfl | hy
   ·rw [hz];rfl
   have:=hqy y hy;omega
  rcases List.mem_cons.1 hy with rfl | hy
  ·have:=hpx x hx;omega
  exact Zxz n p q l' (by omega) hp.tail hq.tail e x hx y hy hxy
theorem Ycw (x y z:WE) (h:fW x y=some z):z.At=x.At:=by
 unfold fW at h
 split at h
 ·injection h with h
  rw [← h]
  rfl
 cases h
theorem Ycx {α:Type} {pl:α→Int} {p q:List α} (hp:Rise pl p) (hq:Rise pl q) {j:Nat} {x y:α} (h1:fd pl p j=some x) (h2:fd pl q j=some y):pl x=pl y:=by
 have a:=Zg1 h1
 have b:=Zg1 h2
 have:=hp.2 x a.1
 have:=hq.2 y b.1
 omega
theorem Yfp {p q l:List WE} (hP:∀ w∈p,Zop w) (hQ:∀ w∈q,Zop w) (rp:Rise (·.At) p) (rq:Rise (·.At) q) (h:mg (·.At) fW p q=some l) (j:Nat) (x:Int) (hx:0≤x∧x < 18446744073709551616):stW l j x=(stW p j x).bind (stW q j):=by
 have hs:=((Zkf (pl:=fun w:WE=>w.At) Ycw _ p q (Nat.le_refl _) rp rq).1 l h).2.2.2.2 j
 unfold stW
 rw [hs]
 cases h1:fd (fun w:WE=>w.At) p j with
 | none=>rfl
 | some w =>
  cases h2:fd (fun w:WE=>w.At) q j with
  | none =>
   simp only [Ycm]
   cases cW x w <;> rfl
  | some w' =>
   have m1:=Zg1 h1
   have m2:=Zg1 h2
   have:=Zxz _ p q l (Nat.le_refl _) rp rq h w m1.1 w' m2.1 (Ycx rp rq h1 h2)
   simp only [Ycm]
   obtain ⟨t1,t2⟩:=Z60 (hP w m1.1) (hQ w' m2.1) hx
   have ag:agW w w'=true:=by
    unfold fW at this
    split at this
    ·assumption
    cases this
   unfold fW
   rw [if_pos ag]
   simp only
   by_cases c:cW x (mkW w w')=true
   ·obtain ⟨c1,c2⟩:=t1.2 ⟨ag,c⟩
    rw [if_pos c,if_pos c1,Option.bind_some,if_pos c2,t2]
   rw [if_neg c]
   by_cases c1:cW x w=true
   ·rw [if_pos c1,Option.bind_some,if_neg fun c2=>c (t1.1 ⟨c1,c2⟩).2]
   rw [if_neg c1]
   rfl
theorem Yfq {p q:List WE} (hP:∀ w∈p,Zop w) (hQ:∀ w∈q,Zop w) (rp:Rise (·.At) p) (rq:Rise (·.At) q) (h:mg (·.At) fW p q=none):∃ j,∀ x,0≤x∧x < 18446744073709551616→(stW p j x).bind (stW q j)=none:=by
 obtain ⟨j,w,w',h1,h2,h3⟩:=(Zkf (pl:=fun w:WE=>w.At) Ycw _ p q (Nat.le_refl _) rp rq).2 h
 refine ⟨j,fun x hx => ?_⟩
 have m1:=Zg1 h1
 have m2:=Zg1 h2
 obtain ⟨t1,_⟩:=Z60 (hP w m1.1) (hQ w' m2.1) hx
 unfold stW
 rw [h1,h2]
 simp only
 by_cases c1:cW x w=true
 ·rw [if_pos c1,Option.bind_some,if_neg fun c2 => ?_]
  have:=(t1.1 ⟨c1,c2⟩).1
  unfold fW at h3
  rw [if_pos this] at h3
  cases h3
 rw [if_neg c1]
 rfl
theorem Ygf {f:KE→KE→Option KE} {p q l:List KE} (hf:∀ x y z,f x y=some z→z.At=x.At) (rp:Rise (·.At) p) (rq:Rise (·.At) q) (hd:∀ x∈p,∀ y∈q,x.At=y.At→∀ z,f x y=some z→EF z.E x.E y.E) (h:mg (·.At) f p q=some l) (j:Nat) (x:Tr) (hx:GT x):stK l j x=(stK p j x).bind (stK q j):=by
 have hs:=((Zkf (pl:=fun w:KE=>w.At) hf _ p q (Nat.le_refl _) rp rq).1 l h).2.2.2.2 j
 unfold stK
 rw [hs]
 cases h1:fd (fun w:KE=>w.At) p j with
 | none=>rfl
 | some w =>
  cases h2:fd (fun w:KE=>w.At) q j with
  | none =>
   simp only [Ycm]
   cases ap w.E x <;> rfl
  | some w' =>
   have m1:=Zg1 h1
   have m2:=Zg1 h2
   have ht:=Ycx rp rq h1 h2
   have:=Zxz _ p q l (Nat.le_refl _) rp rq h w m1.1 w' m2.1 ht
   obtain ⟨z,hz⟩:=Option.isSome_iff_exists.1 this
   simp only [Ycm]
   rw [hz]
   exact hd w m1.1 w' m2.1 ht z hz x hx
theorem Ygg {f:KE→KE→Option KE} {p q:List KE} (hf:∀ x y z,f x y=some z→z.At=x.At) (rp:Rise (·.At) p) (rq:Rise (·.At) q) (hd:∀ x∈p,∀ y∈q,x.At=y.At→f x y=none→NE x.E y.E) (h:mg (·.At) f p q=none):∃ j,∀ x,GT x→(stK p j x).bind (stK q j)=none:=by
 obtain ⟨j,w,w',h1,h2,h3⟩:=(Zkf (pl:=fun w:KE=>w.At) hf _ p q (Nat.le_refl _) rp rq).2 h
 refine ⟨j,fun x hx => ?_⟩
 unfold stK
 rw [h1,h2]
 exact hd w (Zg1 h1).1 w' (Zg1 h2).1 (Ycx rp rq h1 h2) h3 x hx
theorem D9.tE {e:Ed} (h:D9 e):D9 (tE e):=by
 rw [Zjw]
 rcases h with h | ⟨h,h1,h2⟩
 ·exact .inl h
 exact .inr ⟨h,h2,h1⟩
theorem RZ.tE {e:Ed} (hx:RZ e):RZ (tE e):=by
 induction hx with
 | same e h=>rw [Zjw];exact .same _ h
 | repl e h ho hn=>rw [Zjw];exact .repl _ h hn ho
 | st e h hw hw2 hk hk2 ih ih2 =>
  rw [Zjw]
  refine .st _ h ?_ (fun w hw' => ?_) ?_ (fun k hk' => ?_) (fun k hk' => ?_)
  ·rw [List.pairwise_map];exact hw
  ·obtain ⟨x,hx,rfl⟩:=List.mem_map.1 hw'
   exact hw2 x hx
  ·rw [List.pairwise_map];exact hk
  ·obtain ⟨x,hx,rfl⟩:=List.mem_map.1 hk'
   exact hk2 x hx
  obtain ⟨x,hx,rfl⟩:=List.mem_map.1 hk'
  exact ih2 x hx
 | li e h hl ho hN hT h9 ih ih2 =>
  rw [Zjw]
  refine .li _ h hl (fun o hom => ?_) (fun o hom => ?_) (fun o hom => ?_) (fun o hom => ?_) (fun o hom => ?_) <;> obtain ⟨x,hx,rfl⟩:=List.mem_map.1 hom
  ·exact Z70 (ho x hx)
  ·intro q;rw [Yeh];exact hN x hx ((Zs9 (ho x hx)).1 q)
  ·rw [Yeh];exact hT x hx
  ·intro q q9
   have k3:=(Zs9 (ho x hx)).2 q
   rw [Zy6 k3]
   exact (h9 x hx k3 q9).tE
  intro q
  have k3:=(Zs9 (ho x hx)).2 q
  rw [Zy6 k3]
  exact ih2 x hx k3
inductive LM:Ed→Prop
 | mk (e:Ed) (hw:e.Words.length≤250000) (hk:e.Kids.length≤250000) (ho:e.Ops.length≤250000) (hs:Qw e.Ops≤4000000) (ik:∀ k∈e.Kids,LM k.E) (io:∀ o∈e.Ops,LM o.E):LM e
theorem LM.w {e:Ed} (h:LM e):e.Words.length≤250000:=by cases h;assumption
theorem LM.k {e:Ed} (h:LM e):e.Kids.length≤250000:=by cases h;assumption
theorem LM.o {e:Ed} (h:LM e):e.Ops.length≤250000:=by cases h;assumption
theorem LM.s {e:Ed} (h:LM e):Qw e.Ops≤4000000:=by cases h;assumption
theorem LM.ks {e:Ed} (h:LM e):∀ k∈e.Kids,LM k.E:=by cases h;assumption
theorem LM.os {e:Ed} (h:LM e):∀ o∈e.Ops,LM o.E:=by cases h;assumption
structure MC (e:Ed):Prop where
 z:RZ e
 b:BE e
 g:GN e
 s:ST e
 m:LM e
theorem MC.ca {e:Ed} (h:MC e) {t:Tr} (ht:Bd t) (hp:pt t≤1000000):CA e t:=⟨h.z.rx,h.b,h.g,hp,ht⟩
theorem RZ.kid {e:Ed} (h:RZ e) (k2:e.Kind=2):∀ k∈e.Kids,RZ k.E:=by
 cases h with
 | st _ _ _ _ _ _ ih=>exact ih
 | same _ k=>omega
 | repl _ k=>omega
 | li _ k=>omega
theorem RZ.op {e:Ed} (h:RZ e) (k3:e.Kind=3):∀ o∈e.Ops,o.Kind=3→RZ o.E:=by
 cases h with
 | li _ _ _ _ _ _ _ ih=>exact ih
 | same _ k=>omega
 | repl _ k=>omega
 | st _ k=>omega
theorem MC.kid {e:Ed} (h:MC e) (k2:e.Kind=2):∀ k∈e.Kids,MC k.E:=fun k hk=>⟨h.z.kid k2 k hk,h.b.ks k hk,h.g.ks k hk,h.s.ks k hk,h.m.ks k hk⟩
theorem MC.op {e:Ed} (h:MC e) (k3:e.Kind=3):∀ o∈e.Ops,o.Kind=3→MC o.E:=fun o ho k=>⟨h.z.op k3 o ho k,h.b.os o ho,h.g.os o ho,h.s.os o ho,h.m.os o ho⟩
structure RS (e p q:Ed):Prop where
 z:RZ e
 b:BE e
 g:GN e
 d:D9 p→D9 q→D9 e
 f:EF e p q
def CMP (p q:Ed) (r:Option (Ed×Bool)):Prop:=∃ e b,r=some (e,b)∧(b=true→RS e p q)∧(b=false→NE p q)
theorem Yhi {e:Ed} (k:e.Kind=0) (t:Tr):ap e t=some t:=by rw [Zb4,if_pos k]
theorem Zwv {e:Ed} (k:e.Kind=1) (t:Tr):ap e t=if t=nrm e.Old then some (nrm e.New) else none:=by rw [Zb4,if_neg (by omega),if_pos k]
theorem Z9o {a b:Tr} (ha:Bd a) (hb:Bd b):BE ⟨1,a,b,[],[],0,[]⟩ := .mk _ ha hb (by simp) (by simp) (by simp) (by simp) (by simp) (by simp) (by simp)
theorem Z90 {a b:Tr}:GN ⟨1,a,b,[],[],0,[]⟩ := .mk _ (by simp) (by simp) (by simp) (by simp [Qw]) (by simp) (by simp) (by simp)
theorem RZ.tr {e:Ed} (h:RZ e) (k1:e.Kind=1):TX e.Old∧TX e.New:=by
 cases h with
 | repl _ _ ho hn=>exact ⟨ho,hn⟩
 | same _ k=>omega
 | st _ k=>omega
 | li _ k=>omega
theorem Z1s {e:Ed} (h:MC e) {t:Tr} (ht:Bd t) (hx:TX t) (hp:pt t≤1000000) :
  (∃ u,Qa e t=some (u,true)∧ap e (nrm t)=some u∧GT u∧Bd u∧(D9 e→u.Kind=1))∨(Qa e t=some (Ja,false)∧ap e (nrm t)=none):=by
 have ca:=h.ca ht hp
 rw [Zwz ca]
 cases hu:ap e (nrm t) with
 | none=>exact .inr ⟨rfl,rfl⟩
 | some u =>
  obtain ⟨g1,g2⟩:=Zwu _ e _ u (Nat.lt_succ_self _) h.z h.b (GT.of ht hx) hu
  exact .inl ⟨u,rfl,rfl,g1,Z48 ca hu,g2⟩
theorem Z46 {e:Ed} (h:MC e) {t:Tr} (ht:Bd t) (hx:TX t) (hp:pt t≤1000000) :
  (∃ u,((Jw e).bind fun y=>Qa y t)=some (u,true)∧GT u∧Bd u∧(D9 e→u.Kind=1)∧∀ x,GT x→(ap e x=some (nrm t)↔x=u))∨(((Jw e).bind fun y=>Qa y t)=some (Ja,false)∧∀ x,GT x→ap e x≠some (nrm t)):=by
 have bT:=h.b.tE h.g
 have gT:=GN.tE h.b h.g
 have zT:=h.z.tE
 have hg:=GT.of ht hx
 have ca:CA (nE (tE e)) t:=⟨zT.rx.nE bT gT,bT.nE gT,GN.nE bT gT,hp,ht⟩
 have hn:=Z9m _ (tE e) (nrm t) (Nat.lt_succ_self _) zT.rx hg.n hg.x
 rw [Ybo h.b h.g,Option.bind_some,Zwz ca]
 have back:∀ x,GT x→ap e x=some (nrm t)→ap (tE e) (nrm t)=some x:=fun x gx hx=>(Ztn _ e x _ (Nat.lt_succ_self _) h.z.rx h.b gx.n gx.g gx.x hx).2.2
 rw [hn]
 cases hu:ap (tE e) (nrm t) with
 | none=>exact .inr ⟨rfl,fun x gx q=>by rw [back x gx q] at hu;cases hu⟩
 | some u =>
  obtain ⟨g1,g2⟩:=Zwu _ (tE e) _ u (Nat.lt_succ_self _) zT bT hg hu
  refine .inl ⟨u,rfl,g1,Z48 ca (by rw [hn];exact hu),fun d=>g2 d.tE,fun x gx=>⟨fun q => ?_,fun q => ?_⟩⟩
  ·have:=back x gx q
   rw [hu] at this
   injection this with this
   exact this.symm
  have:=(Ztn _ (tE e) (nrm t) u (Nat.lt_succ_self _) zT.rx bT hg.n hg.g hg.x hu).2.2
  rw [Yjz] at this
  rw [q]
  exact this
theorem Ygo {p q:Ed} (hp:MC p) (hq:MC q) (k:p.Kind=1):CMP p q ((Qa q p.New).bind fun y2=>some ((⟨1,p.Old,y2.1,[],[],0,[]⟩:Zc),y2.2)):=by
 obtain ⟨xo,xn⟩:=hp.z.tr k
 rcases Z1s hq hp.b.new xn hp.s.new with ⟨u,h1,h2,h3,h4,h5⟩ | ⟨h1,h2⟩
 ·rw [h1]
  refine ⟨_,_,rfl,fun _=>⟨.repl _ rfl xo h3.x,Z9o hp.b.old h4,Z90,fun d1 d2 => .inr ⟨rfl,?_,h5 d2⟩,fun t gt => ?_⟩,fun h=>by cases h⟩
  ·rcases d1 with d | ⟨_,d,_⟩
   ·omega
   exact d
  rw [Zwv rfl,Zwv k]
  simp only
  split
  ·rw [Option.bind_some,h2,show nrm u=u from h3.n]
  rfl
 rw [h1]
 refine ⟨_,_,rfl,fun h=>(by cases h),fun _ t gt => ?_⟩
 rw [Zwv k]
 split
 ·rw [Option.bind_some,h2]
 rfl
theorem Ygp {p q:Ed} (hp:MC p) (hq:MC q) (k:q.Kind=1):CMP p q ((Jw p).bind fun y5=>(Qa y5 q.Old).bind fun y6=>some ((⟨1,y6.1,q.New,[],[],0,[]⟩:Zc),y6.2)):=by
 obtain ⟨xo,xn⟩:=hq.z.tr k
 have e0:((Jw p).bind fun y5=>(Qa y5 q.Old).bind fun y6=>some ((⟨1,y6.1,q.New,[],[],0,[]⟩:Zc),y6.2))=((Jw p).bind fun y=>Qa y q.Old).bind fun y6=>some ((⟨1,y6.1,q.New,[],[],0,[]⟩:Zc),y6.2):=by rw [Option.bind_assoc]
 rw [e0]
 rcases Z46 hp hq.b.old xo hq.s.old with ⟨u,h1,h3,h4,h5,h6⟩ | ⟨h1,h2⟩
 ·rw [h1]
  refine ⟨_,_,rfl,fun _=>⟨.repl _ rfl h3.x xn,Z9o h4 hq.b.new,Z90,fun d1 d2 => .inr ⟨rfl,h5 d1,?_⟩,fun t gt => ?_⟩,fun h=>by cases h⟩
  ·rcases d2 with d | ⟨_,_,d⟩
   ·omega
   exact d
  rw [Zwv rfl]
  simp only
  rw [show nrm u=u from h3.n]
  by_cases ht:t=u
  ·rw [if_pos ht,(h6 t gt).2 ht,Option.bind_some,Zwv k,if_pos rfl]
  rw [if_neg ht]
  cases hv:ap p t with
  | none=>rfl
  | some v =>
   rw [Option.bind_some,Zwv k,if_neg fun q=>ht ((h6 t gt).1 (by rw [hv,q]))]
 rw [h1]
 refine ⟨_,_,rfl,fun h=>(by cases h),fun _ t gt => ?_⟩
 cases hv:ap p t with
 | none=>rfl
 | some v =>
  rw [Option.bind_some,Zwv k,if_neg fun q=>h2 t gt (by rw [hv,q])]
theorem Yir {p q:Ed} (hq:MC q) (k:p.Kind=0):CMP p q (some (q,true)):=⟨q,true,rfl,fun _=>⟨hq.z,hq.b,hq.g,fun _ d=>d,fun t _=>by rw [Yhi k];rfl⟩,fun h=>by cases h⟩
theorem Yis {p q:Ed} (hp:MC p) (k:q.Kind=0):CMP p q (some (p,true)):=⟨p,true,rfl,fun _=>⟨hp.z,hp.b,hp.g,fun d _=>d,fun t _=>by
 cases ap p t with
 | none=>rfl
 | some u=>rw [Option.bind_some,Yhi k]⟩,fun h=>by cases h⟩
def fK (F:Ed→Ed→Option (Ed×Bool)) (x y:KE):Option KE:=match F x.E y.E with
 | some (e,true)=>some ⟨x.At,e⟩
 | _=>none
theorem Yct {F:Ed→Ed→Option (Ed×Bool)} (x y z:KE) (h:fK F x y=some z):z.At=x.At:=by
 unfold fK at h
 split at h
 ·injection h with h
  rw [← h]
 cases h
theorem Z9t {F:Ed→Ed→Option (Ed×Bool)} {x y z:KE} (hc:CMP x.E y.E (F x.E y.E)) (h:fK F x y=some z):RS z.E x.E y.E:=by
 obtain ⟨e,b,h1,h2,h3⟩:=hc
 unfold fK at h
 rw [h1] at h
 cases b with
 | true =>
  injection h with h
  rw [← h]
  exact h2 rfl
 | false=>cases h
theorem Yf8 {F:Ed→Ed→Option (Ed×Bool)} {x y:KE} (hc:CMP x.E y.E (F x.E y.E)) (h:fK F x y=none):NE x.E y.E:=by
 obtain ⟨e,b,h1,h2,h3⟩:=hc
 unfold fK at h
 rw [h1] at h
 cases b with
 | true=>cases h
 | false=>exact h3 rfl
theorem RZ.rise {e:Ed} (h:RZ e) (k2:e.Kind=2):(Rise (·.At) e.Words∧∀ w∈e.Words,w.At≤65534)∧Rise (·.At) e.Kids∧∀ w∈e.Kids,w.At≤65534:=by
 cases h with
 | st _ _ hw hw2 hk hk2 ih=>exact ⟨⟨⟨hw,fun w h=>(hw2 w h).1⟩,fun w h=>(hw2 w h).2⟩,⟨hk,fun w h=>(hk2 w h).1⟩,fun w h=>(hk2 w h).2⟩
 | same _ k=>omega
 | repl _ k=>omega
 | li _ k=>omega
theorem Ygq {r1 r2 r3:Ed→Ed→Option (Ed×Bool)} {r4:List KE→List KE→Option (List KE×Bool)} {r5:KE→KE→Option (KE×Bool)} {r6:Pc→Option (List EO×Bool)} {F:Ed→Ed→Option (Ed×Bool)} {p q:Ed} (hp:MC p) (hq:MC q) (kp:p.Kind=2) (kq:q.Kind=2)
  (h4:r4 p.Kids q.Kids=some (match mg (·.At) (fK F) p.Kids q.Kids with | some l=>(l,true) | none=>([],false))) (hF:∀ x∈p.Kids,∀ y∈q.Kids,CMP x.E y.E (F x.E y.E)):CMP p q (Gd r1 r2 r3 r4 r5 r6 p q):=by
 have oP:∀ w∈p.Words,Zop w:=hp.b.ws
 have oQ:∀ w∈q.Words,Zop w:=hq.b.ws
 obtain ⟨⟨rwp,lwp⟩,rkp,lkp⟩:=hp.z.rise kp
 obtain ⟨⟨rwq,lwq⟩,rkq,lkq⟩:=hq.z.rise kq
 unfold Gd
 rw [Ybs oP oQ (by have:=hp.m.w;omega) (by have:=hq.m.w;omega),Option.bind_some,h4,Option.bind_some]
 cases hw:mg (fun w:WE=>w.At) fW p.Words q.Words with
 | none=>exact ⟨_,_,rfl,fun h=>(by cases h),fun _=>Z08 kp kq hp.z hq.z hp.b hq.b (.inl (Yfq oP oQ rwp rwq hw))⟩
 | some W =>
  cases hk:mg (fun w:KE=>w.At) (fK F) p.Kids q.Kids with
  | none=>exact ⟨_,_,rfl,fun h=>(by cases h),fun _=>Z08 kp kq hp.z hq.z hp.b hq.b (.inr (Ygg Yct rkp rkq (fun x hx y hy _ h=>Yf8 (hF x hx y hy) h) hk))⟩
  | some K =>
   obtain ⟨w1,w2,w3,w4,_⟩:=(Zkf (pl:=fun w:WE=>w.At) Ycw _ p.Words q.Words (Nat.le_refl _) rwp rwq).1 W hw
   obtain ⟨k1,k2,k3,k4,_⟩:=(Zkf (pl:=fun w:KE=>w.At) Yct _ p.Kids q.Kids (Nat.le_refl _) rkp rkq).1 K hk
   have lm:=hp.m
   have lm':=hq.m
   have oW:∀ w∈W,Zop w:=fun w hw=>by
    rcases w2 w hw with h | h | ⟨x,hx,y,hy,h⟩
    ·exact oP w h
    ·exact oQ w h
    unfold fW at h
    split at h
    ·injection h with h
     rw [← h]
     exact Yiw (oP x hx) (oQ y hy)
    cases h
   have hK:∀ k∈K,RZ k.E∧BE k.E∧GN k.E:=fun k hk=>by
    rcases k2 k hk with h | h | ⟨x,hx,y,hy,h⟩
    ·have:=hp.kid kp k h
     exact ⟨this.z,this.b,this.g⟩
    ·have:=hq.kid kq k h
     exact ⟨this.z,this.b,this.g⟩
    have:=Z9t (hF x hx y hy) h
    exact ⟨this.z,this.b,this.g⟩
   have ze:RZ ⟨2,⟨0,[],[]⟩,⟨0,[],[]⟩,W,K,0,[]⟩ := .st _ rfl w1.1 (fun w hw=>⟨w1.2 w hw,by
     rcases w3 w hw with ⟨x,hx,h⟩ | ⟨x,hx,h⟩
     ·have:=lwp x hx;omega
     ·have:=lwq x hx;omega⟩) k1.1 (fun w hw=>⟨k1.2 w hw,by
     rcases k3 w hw with ⟨x,hx,h⟩ | ⟨x,hx,h⟩
     ·have:=lkp x hx;omega
     have:=lkq x hx;omega⟩) fun k hk=>(hK k hk).1
   have be:BE ⟨2,⟨0,[],[]⟩,⟨0,[],[]⟩,W,K,0,[]⟩ := .mk _ Zht Zht (by have:=lm.w;have:=lm'.w;simp only;omega) oW (by have:=lm.k;have:=lm'.k;simp only;omega) (fun k hk=>(hK k hk).2.1) (by simp) (by simp) (by simp)
   refine ⟨_,_,rfl,fun _=>⟨ze,be,.mk _ (by have:=lm.w;have:=lm'.w;simp only;omega) (by have:=lm.k;have:=lm'.k;simp only;omega) (by simp) (by simp [Qw]) (by simp) (fun k hk=>(hK k hk).2.2) (by simp),fun _ _ => .inl rfl,
    Ybe rfl kp kq ze hp.z hq.z be hp.b hq.b (fun j x hx=>Yfp oP oQ rwp rwq hw j x hx) fun j x hx=>Ygf Yct rkp rkq (fun x hx y hy _ z h=>(Z9t (hF x hx y hy) h).f) hk j x hx⟩,fun h=>by cases h⟩
structure OO (l:Int) (o:EO):Prop where
 k:opk o
 n:o.Kind=0∨o.Kind=3→o.L=[]
 t:∀ t∈o.L,TX t∧(l=9→t.Kind=1)
 d:o.Kind=3→l=9→D9 o.E
 z:o.Kind=3→RZ o.E
 l:o.L.length * 56≤140737488355328∧∀ t∈o.L,Bd t
 b:BE o.E
 g:GN o.E
def GL9 (l:Int) (s:List Tr×List Tr):Prop:=∀ x∈s.1,GT x∧(l=9→x.Kind=1)
structure LI (l:Int) (p:Ed):Prop where
 m:MC p
 k:p.Kind=3
 l:p.List_=l
theorem LI.rz {l:Int} {p:Ed} (h:LI l p):(∀ o∈p.Ops,opk o)∧(∀ o∈p.Ops,o.Kind=0∨o.Kind=3→o.L=[])∧(∀ o∈p.Ops,∀ t∈o.L,TX t∧(l=9→t.Kind=1))∧(∀ o∈p.Ops,o.Kind=3→l=9→D9 o.E)∧2≤l∧l≤9:=by
 have hk:=h.k
 have hl:=h.l
 cases h.m.z with
 | li _ _ hl' ho hN hT h9 ih=>rw [hl] at hl' hT h9;exact ⟨ho,hN,hT,h9,hl'⟩
 | same _ k=>omega
 | repl _ k=>omega
 | st _ k=>omega
theorem Yag {α:Type} {l m:List α} (h:∀ x∈l,x∈m) (hm:m=[]):l=[]:=by
 cases l with
 | nil=>rfl
 | cons x l =>
  have:=h x (.head _)
  rw [hm] at this
  cases this
theorem LI.oo {l:Int} {p:Ed} (h:LI l p) {x:EO} (hx:Fr p.Ops x) (hn:X3 x≤1000000000):OO l x:=by
 obtain ⟨hk,y,hy,h1,h2,h3⟩:=hx
 obtain ⟨a1,a2,a3,a4,_⟩:=h.rz
 have hb:=h.m.b
 refine ⟨hk,fun k=>Yag h3 (a2 y hy (by omega)),fun t ht=>a3 y hy t (h3 t ht),fun k h9 => ?_,fun k => ?_,⟨?_,fun t ht=>(hb.l y hy).2 t (h3 t ht)⟩,?_,?_⟩
 ·rw [h2];exact a4 y hy (by omega) h9
 ·rw [h2];exact h.m.z.op h.k y hy (by omega)
 ·by_cases k03:x.Kind=0∨x.Kind=3
  ·rw [Yag h3 (a2 y hy (by omega))];simp
  unfold X3 at hn
  rw [if_neg (by omega),if_neg (by omega)] at hn
  omega
 ·rw [h2];exact hb.os y hy
 rw [h2];exact h.m.g.os y hy
theorem LI.mc {l:Int} {p:Ed} (h:LI l p) {x:EO} (hx:Fr p.Ops x) (k:x.Kind=3):MC x.E:=by
 obtain ⟨hk,y,hy,h1,h2,h3⟩:=hx
 rw [h2]
 exact h.m.op h.k y hy (by omega)
theorem LI.tl {l:Int} {p:Ed} (h:LI l p) {x:EO} (hx:Fr p.Ops x):∀ t∈x.L,TX t∧Bd t∧pt t≤1000000∧(l=9→t.Kind=1):=fun t ht=>by
 obtain ⟨hk,y,hy,h1,h2,h3⟩:=hx
 obtain ⟨a1,a2,a3,a4,_⟩:=h.rz
 have:=a3 y hy t (h3 t ht)
 exact ⟨this.1,(h.m.b.l y hy).2 t (h3 t ht),h.m.s.l y hy t (h3 t ht),this.2⟩
def SO (l:Int) (c:Pc) (r:Option (List EO×Bool)):Prop:=∃ ops b,r=some (ops,b)∧(b=true→(∀ o∈ops,OO l o)∧Qw ops≤thP c∧ops.length≤1∧∀ s,GL9 l s→RO ops s=PM c s)∧(b=false→∀ s,GL9 l s→PM c s=none)
theorem Zte (x y:EO) (s:List Tr×List Tr):CC [x] [y] s=(stO x (ap x.E) (s.1,[])).bind fun z=>(stO y (ap y.E) (z.2,s.2)).bind fun w=>if w.1.length=0 then some (z.1,w.2) else none:=by
 unfold CC
 rw [Zir]
 congr 1
 funext z
 rw [Zir]
theorem Yb6 {x y:EO} (hx:opk x) (k1:x.Kind≠1) (ky:y.Kind=0) (hy:opk y) (hn:X3 x=X3 y) (s:List Tr×List Tr):CC [x] [y] s=stO x (ap x.E) s:=by
 obtain ⟨l,o⟩:=s
 rw [Zte,Yau hx (ap x.E) l o]
 simp only
 cases h:stO x (ap x.E) (l,[]) with
 | none=>rfl
 | some z =>
  obtain ⟨l1,xs⟩:=z
  have e:=Yd0 hx k1 h
  have en:X3 y=y.N.toNat:=if_pos ky
  have hN:1≤y.N:=by
   rcases hy with ⟨_,h⟩ | ⟨k,_⟩ | ⟨k,_⟩ | k <;> omega
  rw [Option.bind_some,Zj6 ky]
  unfold Zh0
  simp only
  rw [if_pos ⟨by omega,by omega⟩,Option.bind_some,List.drop_of_length_le (by omega),List.take_of_length_le (by omega)]
  rfl
theorem Yb5 {x y:EO} (hx:opk x) (kx:x.Kind=0) (k2:y.Kind≠2) (k0:y.Kind≠0) (hy:opk y) (hn:X3 x=X3 y) (s:List Tr×List Tr):CC [x] [y] s=stO y (ap y.E) s:=by
 obtain ⟨l,o⟩:=s
 have en:X3 x=x.N.toNat:=if_pos kx
 have hN:1≤x.N:=by
  rcases hx with ⟨_,h⟩ | ⟨k,_⟩ | ⟨k,_⟩ | k <;> omega
 rw [Zte,Zj6 kx]
 unfold Zh0
 simp only
 by_cases h:x.N.toNat≤l.length
 ·rw [if_pos ⟨by omega,h⟩,Option.bind_some]
  simp only [List.nil_append]
  obtain ⟨e1,e2⟩:=Z9q hy k2 (ap y.E) (xs:=l.take x.N.toNat) (by rw [List.length_take];omega) (l.drop x.N.toNat) o
  rw [List.take_append_drop] at e1
  rw [e1]
  cases hs:stO y (ap y.E) (l.take x.N.toNat,o) with
  | none=>rfl
  | some z =>
   have:=e2 z hs
   obtain ⟨z1,z2⟩:=z
   simp only at this
   subst this
   rfl
 rw [if_neg (fun q=>h q.2),Option.bind_none]
 have e1:y.Kind=1∨y.Kind=3:=by have:=Zib hy;omega
 rcases e1 with k | k
 ·rw [Zhc k]
  unfold Zis
  rw [if_neg]
  intro q
  have:=congrArg List.length q
  unfold X3 at hn
  rw [if_pos kx,if_neg (by omega),if_neg (by omega)] at hn
  rw [List.length_map,List.length_take] at this
  simp only at this
  omega
 unfold X3 at hn
 rw [if_pos kx,if_neg (by omega),if_pos k] at hn
 have:l=[]:=List.eq_nil_of_length_eq_zero (by omega)
 subst this
 rw [Zle k]
theorem Ykx {c:Pc} (h:c.Of=1) (s:List Tr×List Tr):PM c s=stO c.P (ap c.P.E) s:=if_pos h
theorem Yky {c:Pc} (h:c.Of=2) (s:List Tr×List Tr):PM c s=stO c.Q (ap c.Q.E) s:=by unfold PM;rw [if_neg (by omega),if_pos h]
theorem Ya5 {c:Pc} (h:c.Of=0) (s:List Tr×List Tr):PM c s=CC [c.P] [c.Q] s:=by unfold PM;rw [if_neg (by omega),if_neg (by omega)]
theorem Zrq (o:EO):Qw [o]=X3 o:=by unfold Qw;simp
theorem bq {a b:Int} (h:a=b):(a == b)=true:=beq_iff_eq.2 h
theorem bn {a b:Int} (h:¬ a=b):(a == b)=false:=beq_eq_false_iff_ne.2 h
theorem Ygx {t:Tr} {k:Int} (h:k=1∨k=2):opk ⟨k,0,[t],eS0⟩:=by
 rcases h with rfl | rfl
 ·exact .inr (.inl ⟨rfl,by simp⟩)
 exact .inr (.inr (.inl ⟨rfl,by simp⟩))
theorem OO.ins {l:Int} {u:Tr} {k:Int} (h:k=1∨k=2) (hu:GT u) (hb:Bd u) (h9:l=9→u.Kind=1):OO l ⟨k,0,[u],eS0⟩ :=
 ⟨Ygx h,fun q=>by simp only at q;omega,fun t ht=>by rw [List.mem_singleton.1 ht];exact ⟨hu.x,h9⟩,fun q=>by simp only at q;omega,fun q=>by simp only at q;omega,⟨by simp,fun t ht=>by rw [List.mem_singleton.1 ht];exact hb⟩,Z0s,Z00⟩
theorem Ye9 {u:Tr} {k:Int} (h:k=1∨k=2):X3 ⟨k,0,[u],eS0⟩=1:=by
 unfold X3
 rw [if_neg (by simp only;omega),if_neg (by simp only;omega)]
 rfl
theorem Ybc {r1 r2 r3:Ed→Ed→Option (Ed×Bool)} {r4:List KE→List KE→Option (List KE×Bool)} {r5:KE→KE→Option (KE×Bool)} {r6:Pc→Option (List EO×Bool)} {l:Int} {p q:Ed} (hp:LI l p) (hq:LI l q) {c:Pc} (hc:PG p.Ops q.Ops c) (hn:thP c≤1000000000)
  (hM:c.P.Kind=3→c.Q.Kind=3→MC c.P.E→MC c.Q.E→Fr p.Ops c.P→Fr q.Ops c.Q→CMP c.P.E c.Q.E (r1 c.P.E c.Q.E)):SO l c (Zc8 r1 r2 r3 r4 r5 r6 c):=by
 unfold Zc8
 rcases hc with ⟨h1,h2,h3⟩ | ⟨h1,h2,h3⟩ | ⟨h1,h2,h3,h4,h5,h6⟩
 ·rw [bq h1,cond_true,cond_true]
  have e:thP c=X3 c.P:=if_neg (by omega)
  exact ⟨_,_,rfl,fun _=>⟨fun o ho=>by rw [List.mem_singleton.1 ho];exact hp.oo h3 (by omega),by rw [Zrq];omega,Nat.le_refl _,fun s _=>by rw [Zir,Ykx h1]⟩,fun h=>by cases h⟩
 ·rw [bn (by omega),bn (by omega),bq h1,cond_false,cond_false,cond_false,cond_true,cond_true]
  have e:thP c=X3 c.Q:=if_pos h1
  exact ⟨_,_,rfl,fun _=>⟨fun o ho=>by rw [List.mem_singleton.1 ho];exact hq.oo h3 (by omega),by rw [Zrq];omega,Nat.le_refl _,fun s _=>by rw [Zir,Yky h1]⟩,fun h=>by cases h⟩
 have e:thP c=X3 c.P:=if_neg (by omega)
 have kP:=Zib h5.k
 have kQ:=Zib h6.k
 rw [bn (show ¬ c.Of=1 by omega),bq h1,cond_false,cond_true]
 by_cases q0:c.Q.Kind=0
 ·rw [bq q0,cond_true]
  exact ⟨_,_,rfl,fun _=>⟨fun o ho=>by rw [List.mem_singleton.1 ho];exact hp.oo h5 (by omega),by rw [Zrq];omega,Nat.le_refl _,fun s _=>by rw [Zir,Ya5 h1,Yb6 h5.k h2 q0 h6.k h4]⟩,fun h=>by cases h⟩
 rw [bn q0,cond_false,bn (show ¬ c.Of=2 by omega),cond_false]
 by_cases p0:c.P.Kind=0
 ·rw [bq p0,cond_true]
  exact ⟨_,_,rfl,fun _=>⟨fun o ho=>by rw [List.mem_singleton.1 ho];exact hq.oo h6 (by omega),by rw [Zrq];omega,Nat.le_refl _,fun s _=>by rw [Zir,Ya5 h1,Yb5 h5.k p0 h3 q0 h6.k h4]⟩,fun h=>by cases h⟩
 rw [bn p0,cond_false]
 by_cases p2:c.P.Kind=2
 ·have tP:X3 c.P=c.P.L.length:=by unfold X3;rw [if_neg (by omega),if_neg (by omega)]
  rw [bq p2,cond_true,cond_true]
  by_cases q1:c.Q.Kind=1
  ·have tQ:X3 c.Q=c.Q.L.length:=by unfold X3;rw [if_neg (by omega),if_neg (by omega)]
   rw [bq q1,cond_true,Z7c (fun t ht=>(hp.tl h5 t ht).2.1) (fun t ht=>(hq.tl h6 t ht).2.1) (by omega),Option.bind_some]
   have eP:∀ s,PM c s=if c.P.L.map nrm=c.Q.L.map nrm then some s else none:=fun s=>by
    obtain ⟨l1,o1⟩:=s
    rw [Ya5 h1,Zte,Zj7 p2]
    unfold Zjy
    rw [Option.bind_some,Zhc q1]
    unfold Zis
    simp only [List.nil_append]
    rw [List.take_of_length_le (by rw [List.length_map];omega)]
    split
    ·rw [Option.bind_some,List.drop_of_length_le (by rw [List.length_map];omega)]
     rfl
    rfl
   refine ⟨_,_,rfl,fun h=>⟨fun o ho=>(by cases ho),by unfold Qw;simp,Nat.zero_le _,fun s _ => ?_⟩,fun h s _ => ?_⟩
   ·rw [Zsb] at h
    rw [eP,if_pos h,Zmu]
   rw [eP,if_neg]
   intro q
   rw [(Zsb _ _).2 q] at h
   cases h
  have q3:c.Q.Kind=3:=by omega
  have tQ:X3 c.Q=1:=by unfold X3;rw [if_neg (by omega),if_pos q3]
  obtain ⟨x,hx⟩:=List.length_eq_one_iff.1 (show c.P.L.length=1 by omega)
  obtain ⟨x1,x2,x3,x4⟩:=hp.tl h5 x (by rw [hx];exact .head _)
  have g0:Xr [x] 0=some x:=Yw (i:=0) rfl
  rw [bn q1,cond_false,hx,g0,Option.bind_some]
  have eP:∀ s:List Tr×List Tr,PM c s=(ap c.Q.E (nrm x)).map fun u=>(s.1,s.2++[u]):=fun s=>by
   obtain ⟨l1,o1⟩:=s
   rw [Ya5 h1,Zte,Zj7 p2]
   unfold Zjy
   rw [Option.bind_some,Zle q3,hx]
   simp only [List.nil_append,List.map_cons,List.map_nil]
   cases ap c.Q.E (nrm x) <;> rfl
  rcases Z1s (hq.mc h6 q3) x2 x1 x3 with ⟨u,u1,u2,u3,u4,u5⟩ | ⟨u1,u2⟩
  ·rw [u1]
   refine ⟨_,_,rfl,fun _=>⟨fun o ho => ?_,?_,Nat.le_refl _,fun s _ => ?_⟩,fun h=>by cases h⟩
   ·rw [List.mem_singleton.1 ho]
    exact .ins (.inr rfl) u3 u4 fun h9=>u5 ((hq.oo h6 (by omega)).d q3 h9)
   ·rw [Zrq,show (⟨2,0,[u],⟨0,⟨0,[],[]⟩,⟨0,[],[]⟩,[],[],0,[]⟩⟩:EO)=⟨2,0,[u],eS0⟩ from rfl,Ye9 (.inr rfl)]
    omega
   rw [eP,u2,Zir,Zj7 rfl]
   unfold Zjy
   simp only [List.map_cons,List.map_nil,Option.map_some]
   rw [show nrm u=u from u3.n]
  rw [u1]
  exact ⟨_,_,rfl,fun h=>(by cases h),fun _ s _=>by rw [eP,u2];rfl⟩
 have p3:c.P.Kind=3:=by omega
 have tP:X3 c.P=1:=by unfold X3;rw [if_neg (by omega),if_pos p3]
 rw [bn p2,cond_false,cond_false,cond_false]
 have mP:=hp.mc h5 p3
 by_cases q1:c.Q.Kind=1
 ·have tQ:X3 c.Q=c.Q.L.length:=by unfold X3;rw [if_neg (by omega),if_neg (by omega)]
  obtain ⟨x,hx⟩:=List.length_eq_one_iff.1 (show c.Q.L.length=1 by omega)
  obtain ⟨x1,x2,x3,x4⟩:=hq.tl h6 x (by rw [hx];exact .head _)
  have g0:Xr [x] 0=some x:=Yw (i:=0) rfl
  rw [bq q1,cond_true,hx,g0]
  simp only [Option.bind_some]
  have e0:((Jw c.P.E).bind fun y10=>(Qa y10 x).bind fun y12=>some (([(⟨1,0,([y12.1]:List Zb),⟨0,⟨0,[],[]⟩,⟨0,[],[]⟩,[],[],0,[]⟩⟩:Zh)]:List Zh),y12.2))=((Jw c.P.E).bind fun y=>Qa y x).bind fun y12=>some (([(⟨1,0,([y12.1]:List Zb),eS0⟩:Zh)]:List Zh),y12.2):=by rw [Option.bind_assoc];rfl
  rw [e0]
  have eP:∀ s:List Tr×List Tr,PM c s=match s.1 with | []=>none | y::m=>if ap c.P.E y=some (nrm x) then some (m,s.2) else none:=fun s=>by
   obtain ⟨l1,o1⟩:=s
   rw [Ya5 h1,Zte,Zle p3]
   cases l1 with
   | nil=>rfl
   | cons y m =>
    simp only
    cases hy:ap c.P.E y with
    | none=>rfl
    | some v =>
     rw [Option.map_some,Option.bind_some,Zhc q1,hx]
     unfold Zis
     simp only [List.nil_append,List.length_singleton,List.map_cons,List.map_nil,List.take_succ_cons,List.take_zero,Option.some.injEq,List.cons.injEq,and_true]
     split <;> rfl
  rcases Z46 mP x2 x1 x3 with ⟨u,u1,u3,u4,u5,u6⟩ | ⟨u1,u2⟩
  ·rw [u1]
   refine ⟨_,_,rfl,fun _=>⟨fun o ho => ?_,?_,Nat.le_refl _,fun s hs => ?_⟩,fun h=>by cases h⟩
   ·rw [List.mem_singleton.1 ho]
    exact .ins (.inl rfl) u3 u4 fun h9=>u5 ((hp.oo h5 (by omega)).d p3 h9)
   ·rw [Zrq,Ye9 (.inl rfl)]
    omega
   obtain ⟨l1,o1⟩:=s
   rw [eP,Zir,Zhc rfl]
   unfold Zis
   simp only [List.map_cons,List.map_nil,List.length_singleton]
   rw [show nrm u=u from u3.n]
   cases l1 with
   | nil=>rfl
   | cons y m =>
    simp only [List.take_succ_cons,List.take_zero,List.cons.injEq,and_true,List.drop_succ_cons,List.drop_zero]
    by_cases hy:y=u
    ·rw [if_pos hy,if_pos ((u6 y (hs y (.head _)).1).2 hy)]
    rw [if_neg hy,if_neg fun q=>hy ((u6 y (hs y (.head _)).1).1 q)]
  rw [u1]
  refine ⟨_,_,rfl,fun h=>(by cases h),fun _ s hs => ?_⟩
  rw [eP]
  obtain ⟨l1,o1⟩:=s
  cases l1 with
  | nil=>rfl
  | cons y m =>
   simp only
   rw [if_neg (u2 y (hs y (.head _)).1)]
 have q3:c.Q.Kind=3:=by omega
 have mQ:=hq.mc h6 q3
 rw [bn q1,cond_false]
 obtain ⟨e',b,g1,g2,g3⟩:=hM p3 q3 mP mQ h5 h6
 rw [g1]
 have eP:∀ s:List Tr×List Tr,PM c s=match s.1 with | []=>none | y::m=>((ap c.P.E y).bind (ap c.Q.E)).map fun u=>(m,s.2++[u]):=fun s=>by
  obtain ⟨l1,o1⟩:=s
  rw [Ya5 h1,Zte,Zle p3]
  cases l1 with
  | nil=>rfl
  | cons y m =>
   simp only
   cases hy:ap c.P.E y with
   | none=>rfl
   | some v =>
    rw [Option.map_some,Option.bind_some,Zle q3]
    simp only [List.nil_append,Option.bind_some]
    cases ap c.Q.E v <;> rfl
 refine ⟨_,_,rfl,fun h => ?_,fun h s hs => ?_⟩
 ·have rs:=g2 h
  refine ⟨fun o ho => ?_,?_,Nat.le_refl _,fun s hs => ?_⟩
  ·rw [List.mem_singleton.1 ho]
   exact ⟨.inr (.inr (.inr rfl)),fun _=>rfl,fun t ht=>(by cases ht),fun _ h9=>rs.d ((hp.oo h5 (by omega)).d p3 h9) ((hq.oo h6 (by omega)).d q3 h9),fun _=>rs.z,⟨by simp,fun t ht=>by cases ht⟩,rs.b,rs.g⟩
  ·rw [Zrq]
   unfold X3
   rw [if_neg (by simp only;omega),if_pos rfl]
   omega
  obtain ⟨l1,o1⟩:=s
  rw [eP,Zir,Zle rfl]
  cases l1 with
  | nil=>rfl
  | cons y m =>
   simp only
   rw [rs.f y (hs y (.head _)).1]
 obtain ⟨l1,o1⟩:=s
 rw [eP]
 cases l1 with
 | nil=>rfl
 | cons y m =>
  simp only
  rw [g3 h y (hs y (.head _)).1]
  rfl
theorem Yb7 {os:List EO} {s s':List Tr×List Tr} (h:RO os s=some s'):∀ x∈s'.1,x∈s.1:=Zrl _ s s' h
theorem Z99 {l:Int} {S:Pc→Option (List EO×Bool)} {L:List Pc} (hL:L.length≤500000) (hS:∀ c∈L,SO l c (S c)):∀ (rest:List Pc) (i:Nat) (out:List EO),L.drop i=rest→i≤L.length→out.length≤i →
  (∃ E,Zw (Qe S (L,true)) ((i:Int),out)=some (.inr (out++E))∧(∀ o∈E,OO l o)∧Qw E≤(rest.map thP).sum∧E.length≤rest.length∧∀ s,GL9 l s→RO E s=PMs rest s) ∨
  (Zw (Qe S (L,true)) ((i:Int),out)=some (.inl ())∧∀ s,GL9 l s→PMs rest s=none)
 | [],i,out,hd,hi,ho=>by
  have e:=drop_nil hd hi
  refine .inl ⟨[],?_,fun o h=>(by cases h),by simp [Qw],Nat.le_refl _,fun s _=>rfl⟩
  rw [List.append_nil]
  refine Z8 ?_
  unfold Qe
  simp only
  rw [e,Zd1,cond_false]
 | c::rest,i,out,hd,hi,ho=>by
  obtain ⟨hi',hg,hd'⟩:=Zob hd
  obtain ⟨ops,b,h1,h2,h3⟩:=hS c (List.mem_of_getElem? hg)
  cases b with
  | false =>
   refine .inr ⟨Z8 ?_,fun s hs => ?_⟩
   ·unfold Qe
    simp only
    rw [Zbe hi',cond_true,Yw hg,Option.bind_some,h1]
    rfl
   rw [PMs,h3 rfl s hs]
   rfl
  | true =>
   obtain ⟨a1,a2,a3,a4⟩:=h2 rfl
   have st:Qe S (L,true) ((i:Int),out)=some (.inl (((i+1:Nat):Int),out++ops)):=by
    unfold Qe
    simp only
    rw [Zbe hi',cond_true,Yw hg,Option.bind_some,h1,Option.bind_some]
    simp only [Bool.not_true,cond_false]
    rw [Kb (by omega) (by omega),Option.bind_some,Ul (by omega) (by omega)]
    rfl
   rw [Yr st]
   rcases Z99 hL hS rest (i+1) (out++ops) hd' (by omega) (by rw [List.length_append];omega) with ⟨E,q1,q2,q3,q4,q5⟩ | ⟨q1,q2⟩
   ·refine .inl ⟨ops++E,by rw [q1,List.append_assoc],fun o h => ?_,?_,by rw [List.length_append,List.length_cons];omega,fun s hs => ?_⟩
    ·rcases List.mem_append.1 h with h | h
     ·exact a1 o h
     exact q2 o h
    ·unfold Qw at a2 q3 ⊢
     rw [List.map_append,List.sum_append,List.map_cons,List.sum_cons]
     omega
    rw [Zqg,PMs,a4 s hs]
    cases hp:PM c s with
    | none=>rfl
    | some s' =>
     rw [Option.bind_some,Option.bind_some]
     exact q5 s' fun x hx=>hs x (Yb7 (by rw [a4 s hs];exact hp) x hx)
   refine .inr ⟨q1,fun s hs => ?_⟩
   rw [PMs]
   cases hp:PM c s with
   | none=>rfl
   | some s' =>
    rw [Option.bind_some]
    exact q2 s' fun x hx=>hs x (Yb7 (by rw [a4 s hs];exact hp) x hx)
theorem Zu8 {e:Ed} (k:e.Kind=3) (t:Tr):ap e t=if t.Kind=e.List_ then Z5f t.Kind (RO e.Ops (t.Kids,[])) else none:=by
 rw [Zb4,if_neg (by omega),if_neg (by omega),if_neg (by omega),if_pos k]
 rfl
theorem Z88 {p q:Ed} (kp:p.Kind=3) (kq:q.Kind=3) (hl:p.List_=q.List_) {t:Tr} (ht:t.Kind=p.List_):(ap p t).bind (ap q)=Z5f t.Kind (CC p.Ops q.Ops (t.Kids,[])):=by
 rw [Zu8 kp,if_pos ht]
 unfold CC
 cases h:RO p.Ops (t.Kids,[]) with
 | none=>rfl
 | some x =>
  obtain ⟨x1,x2⟩:=x
  rw [Option.bind_some]
  cases x1 with
  | nil =>
   simp only [Z5f,Option.bind_some]
   rw [Zu8 kq]
   simp only
   rw [if_pos (by omega)]
   cases h2:RO q.Ops (x2,[]) with
   | none=>rfl
   | some y =>
    obtain ⟨y1,y2⟩:=y
    cases y1 with
    | nil=>rfl
    | cons z y1=>rfl
  | cons a x1 =>
   simp only [Z5f,Option.bind_none]
   cases h2:RO q.Ops (x2,[]) with
   | none=>rfl
   | some y =>
    obtain ⟨y1,y2⟩:=y
    cases y1 with
    | nil=>rfl
    | cons z y1=>rfl
theorem CI.of {a:List EO} (hp:∀ o∈a,opk o) (hs:Qw a≤1073741824):CI a 0:=⟨hp,hs,by unfold Yci;split <;> omega⟩
theorem Ygm {r1 r2 r3:Ed→Ed→Option (Ed×Bool)} {r4:List KE→List KE→Option (List KE×Bool)} {r5:KE→KE→Option (KE×Bool)} {r6:Pc→Option (List EO×Bool)} {l:Int} {p q:Ed} (hp:LI l p) (hq:LI l q) (hS:∀ c,PG p.Ops q.Ops c→thP c≤1000000000→SO l c (r6 c)):CMP p q (Zc7 r1 r2 r3 r4 r5 r6 p q):=by
 have mp:=hp.m.m
 have mq:=hq.m.m
 have o1:=mp.o
 have o2:=mq.o
 have s1:=mp.s
 have s2:=mq.s
 have hl:p.List_=q.List_:=by rw [hp.l,hq.l]
 have gl:∀ t,GT t→t.Kind=p.List_→GL9 l (t.Kids,[]):=fun t gt ht x hx=>⟨gt.all x hx,fun h9=>gt.x.s (by have:=hp.l;omega) x hx⟩
 have no:∀ t:Tr,¬ t.Kind=p.List_→ap p t=none:=fun t ht=>by rw [Zu8 hp.k,if_neg ht]
 unfold Zc7
 rcases Yba (CI.of hp.rz.1 (by omega)) (CI.of hq.rz.1 (by omega)) (by omega) (by omega) with ⟨L,a1,a2,a3,a4,a5⟩ | ⟨a1,a2⟩
 ·rw [a1,Option.bind_some]
  simp only [Bool.not_true,cond_false]
  rcases Z99 (l:=l) (S:=r6) (L:=L) (by omega) (fun c hc=>hS c (a3 c hc) (by have:=Zku (f:=thP) hc;omega)) L 0 [] rfl (Nat.zero_le _) (Nat.le_refl _) with ⟨E,q1,q2,q3,q4,q5⟩ | ⟨q1,q2⟩
  ·rw [show ((0:Nat):Int)=0 from rfl] at q1
   rw [q1,Option.bind_some,List.nil_append]
   refine ⟨_,_,rfl,fun _=>⟨.li _ rfl (by have:=hp.rz.2.2.2.2;have:=hp.l;simp only;omega) (fun o ho=>(q2 o ho).k) (fun o ho=>(q2 o ho).n) (fun o ho t ht=>by rw [show (⟨3,⟨0,[],[]⟩,⟨0,[],[]⟩,[],[],p.List_,E⟩:Ed).List_=l from hp.l];exact (q2 o ho).t t ht) (fun o ho k h9=>(q2 o ho).d k (by rw [← hp.l];exact h9)) (fun o ho=>(q2 o ho).z),
    .mk _ Zht Zht (by simp) (by simp) (by simp) (by simp) (by simp only;omega) (fun o ho=>(q2 o ho).l) (fun o ho=>(q2 o ho).b),.mk _ (by simp) (by simp) (by simp only;omega) (by simp only;omega) (fun o ho=>(q2 o ho).k) (by simp) (fun o ho=>(q2 o ho).g),fun d=>by unfold D9 at d;have:=hp.k;omega,fun t gt => ?_⟩,fun h=>by cases h⟩
   rw [Zu8 rfl]
   simp only
   by_cases ht:t.Kind=p.List_
   ·rw [if_pos ht,q5 _ (gl t gt ht),← a4,Z88 hp.k hq.k hl ht]
   rw [if_neg ht,no t ht]
   rfl
  rw [show ((0:Nat):Int)=0 from rfl] at q1
  rw [q1]
  refine ⟨_,_,rfl,fun h=>(by cases h),fun _ t gt => ?_⟩
  by_cases ht:t.Kind=p.List_
  ·rw [Z88 hp.k hq.k hl ht,a4,q2 _ (gl t gt ht)]
   rfl
  rw [no t ht]
  rfl
 rw [a1]
 refine ⟨_,_,rfl,fun h=>(by cases h),fun _ t gt => ?_⟩
 by_cases ht:t.Kind=p.List_
 ·rw [Z88 hp.k hq.k hl ht,a2]
  rfl
 rw [no t ht]
 rfl
theorem Z1b {α β:Type} (r:Option (α×β)):(r.bind fun y=>some (y.1,y.2))=r:=by cases r <;> rfl
theorem RZ.kinds {e:Ed} (h:RZ e):e.Kind=0∨e.Kind=1∨e.Kind=2∨e.Kind=3:=h.rx.kind
theorem RZ.list {e:Ed} (h:RZ e) (k:e.Kind=3):2≤e.List_:=by
 cases h with
 | li _ _ hl=>exact hl.1
 | same _ k=>omega
 | repl _ k=>omega
 | st _ k=>omega
theorem Yf1 {e:Ed} {t u:Tr} (h:ap e t=some u):(e.Kind=2→u.Kind=1)∧(e.Kind=3→u.Kind=e.List_):=by
 refine ⟨fun k => ?_,fun k => ?_⟩
 ·rw [Zb4,if_neg (by omega),if_neg (by omega),if_pos k] at h
  split at h
  ·obtain ⟨ws,e1,h⟩:=Option.bind_eq_some_iff.1 h
   obtain ⟨ks,e2,h⟩:=Option.bind_eq_some_iff.1 h
   injection h with h
   rw [← h]
  cases h
 rw [Zu8 k] at h
 split at h
 ·rename_i ht
  obtain ⟨out,e1,rfl⟩:=Zw5 h
  exact ht
 cases h
theorem Z20 {p q:Ed} (hp:RZ p) (hq:RZ q) (h:(p.Kind=2∧q.Kind=3)∨(p.Kind=3∧q.Kind=2)∨(p.Kind=3∧q.Kind=3∧¬ p.List_=q.List_)):NE p q:=fun t _=>by
 cases hv:ap p t with
 | none=>rfl
 | some v =>
  obtain ⟨v2,v3⟩:=Yf1 hv
  rw [Option.bind_some]
  rcases h with ⟨h1,h2⟩ | ⟨h1,h2⟩ | ⟨h1,h2,h3⟩
  ·have:=v2 h1
   have:=hq.list h2
   rw [Zu8 h2,if_neg (by omega)]
  ·have:=v3 h1
   have:=hp.list h1
   exact Zwa h2 (by omega)
  have:=v3 h1
  rw [Zu8 h2,if_neg (by omega)]
theorem Ygn (k:Nat):∀ p q,MC p→MC q→4 * SizeOf.sizeOf p < k→CMP p q ((Zm k).1 p q):=by
 induction k using Nat.strongRecOn with
 | ind k ih =>
  intro p q hp hq hk
  have:1≤SizeOf.sizeOf p:=by cases p;simp only [Zc.mk.sizeOf_spec];omega
  obtain ⟨m,rfl⟩:∃ m,k=m+4:=⟨k - 4,by omega⟩
  show CMP p q (Zeo (Zm (m+3)).1 (Zm (m+3)).2.1 (Zm (m+3)).2.2.1 (Zm (m+3)).2.2.2.1 (Zm (m+3)).2.2.2.2.1 (Zm (m+3)).2.2.2.2.2 p q)
  unfold Zeo
  by_cases p0:p.Kind=0
  ·rw [bq p0];exact Yir hq p0
  rw [bn p0,cond_false]
  by_cases q0:q.Kind=0
  ·rw [bq q0];exact Yis hp q0
  rw [bn q0,cond_false]
  by_cases p1:p.Kind=1
  ·rw [bq p1];exact Ygo hp hq p1
  rw [bn p1,cond_false]
  by_cases q1:q.Kind=1
  ·rw [bq q1];exact Ygp hp hq q1
  rw [bn q1,cond_false,Z1b,Z1b]
  have pk:=hp.z.kinds
  have qk:=hq.z.kinds
  by_cases p2:p.Kind=2
  ·rw [bq p2,cond_true]
   by_cases q2:q.Kind=2
   ·rw [bq q2,cond_true]
    have hF:∀ x∈p.Kids,∀ y∈q.Kids,CMP x.E y.E ((Zm m).1 x.E y.E):=fun x hx y hy=>ih m (by omega) x.E y.E (hp.kid p2 x hx) (hq.kid q2 y hy) (by have:=Je hx;omega)
    refine Ygq (r1:=(Zm (m+2)).1) (r2:=(Zm (m+2)).2.1) (r3:=(Zm (m+2)).2.2.1) (r4:=(Zm (m+2)).2.2.2.1) (r5:=(Zm (m+2)).2.2.2.2.1) (r6:=(Zm (m+2)).2.2.2.2.2) (F:=(Zm m).1) hp hq p2 q2 ?_ hF
    refine Ybr (r1:=(Zm (m+1)).1) (r2:=(Zm (m+1)).2.1) (r3:=(Zm (m+1)).2.2.1) (r4:=(Zm (m+1)).2.2.2.1) (r6:=(Zm (m+1)).2.2.2.2.2) (F:=(Zm (m+1)).2.2.2.2.1) (fun x hx y hy _ => ?_) hp.m.k hq.m.k
    obtain ⟨e,b,h1,_,_⟩:=hF x hx y hy
    refine ⟨⟨x.At,e⟩,b,?_,?_⟩
    ·show ((Zm m).1 x.E y.E).bind _=_
     rw [h1]
     rfl
    unfold fK
    rw [h1]
    cases b <;> rfl
   rw [bn q2,cond_false,bn (show ¬ p.Kind=3 by omega),cond_false,cond_false,cond_false]
   exact ⟨_,_,rfl,fun h=>(by cases h),fun _=>Z20 hp.z hq.z (.inl ⟨p2,by omega⟩)⟩
  have p3:p.Kind=3:=by omega
  rw [bn p2,cond_false,cond_false,bq p3,cond_true]
  by_cases q3:q.Kind=3
  ·rw [bq q3,cond_true]
   by_cases hl:p.List_=q.List_
   ·rw [bq hl,cond_true]
    have lp:LI q.List_ p:=⟨hp,p3,hl⟩
    have lq:LI q.List_ q:=⟨hq,q3,rfl⟩
    refine Ygm (r1:=(Zm (m+2)).1) (r2:=(Zm (m+2)).2.1) (r3:=(Zm (m+2)).2.2.1) (r4:=(Zm (m+2)).2.2.2.1) (r5:=(Zm (m+2)).2.2.2.2.1) (r6:=(Zm (m+2)).2.2.2.2.2) lp lq fun c hc hn=>Ybc (r1:=(Zm (m+1)).1) (r2:=(Zm (m+1)).2.1) (r3:=(Zm (m+1)).2.2.1) (r4:=(Zm (m+1)).2.2.2.1) (r5:=(Zm (m+1)).2.2.2.2.1) (r6:=(Zm (m+1)).2.2.2.2.2) lp lq hc hn fun _ _ m1 m2 f1 _=>ih (m+1) (by omega) c.P.E c.Q.E m1 m2 ?_
    obtain ⟨_,y,hy,_,h2,_⟩:=f1
    rw [h2]
    have:=Kw hy
    omega
   rw [bn hl]
   exact ⟨_,_,rfl,fun h=>(by cases h),fun _=>Z20 hp.z hq.z (.inr (.inr ⟨p3,q3,hl⟩))⟩
  rw [bn q3]
  exact ⟨_,_,rfl,fun h=>(by cases h),fun _=>Z20 hp.z hq.z (.inr (.inl ⟨p3,by omega⟩))⟩
theorem Zt6:∀ (k:Nat),LE2 (Zm k).1 (Zm (k+1)).1∧LE2 (Zm k).2.1 (Zm (k+1)).2.1∧LE2 (Zm k).2.2.1 (Zm (k+1)).2.2.1∧LE2 (Zm k).2.2.2.1 (Zm (k+1)).2.2.2.1∧LE2 (Zm k).2.2.2.2.1 (Zm (k+1)).2.2.2.2.1∧∀ c r,(Zm k).2.2.2.2.2 c=some r→(Zm (k+1)).2.2.2.2.2 c=some r
 | 0=>⟨fun x y r h=>(by cases h),fun x y r h=>(by cases h),fun x y r h=>(by cases h),fun x y r h=>(by cases h),fun x y r h=>(by cases h),fun c r h=>by cases h⟩
 | k+1=>by
  obtain ⟨i1,i2,i3,i4,i5,i6⟩:=Zt6 k
  have I:∀ {α:Type} {o:Option α} (r:α),o=some r→o=some r:=fun _ q=>q
  refine ⟨fun e t r h => ?_,fun e t r h => ?_,fun e t r h => ?_,fun s o r h => ?_,fun s e r h => ?_,fun c r h => ?_⟩
  ·refine J5 _ I (J5 _ I (J5 _ I (J5 _ I (J5 _ (fun _ => ?_) (J5 _ (fun _ => ?_) I))))) r h
   ·exact Ql (fun x q=>i2 _ _ x q) (fun _ _ q=>q)
   exact Ql (fun x q=>i3 _ _ x q) (fun _ _ q=>q)
  ·exact Ql (fun _ q=>q) (fun _ _=>Ql (fun x q=>i4 _ _ x q) fun _ _ q=>q) h
  ·refine Ql (fun _ q=>q) (fun z=>J5 _ I (fun _=>Ql (fun x=>Znf fun s y q => ?_) fun _ _ q=>q)) h
   exact J5 _ (fun _=>Ql (fun _ q=>q) fun _ _=>Ql (fun x q=>i6 _ x q) fun _ _ q=>q) I y q
  ·refine Ql (fun x=>Znf fun s y q => ?_) (fun _ _ q=>q) h
   exact J5 _ (fun _=>Ql (fun _ q=>q) fun _ _=>Ql (fun _ q=>q) fun _ _=>Ql (fun _ q=>q) fun _ _=>Ql (fun _ q=>q) fun _=>J5 _ I (fun _=>Ql (fun _ q=>q) fun _ _=>Ql (fun _ q=>q) fun _ _=>Ql (fun _ q=>q) fun _ _=>Ql (fun _ q=>q) fun _=>J5 _ I (fun _=>Ql (fun _ q=>q) fun _ _=>Ql (fun _ q=>q) fun _ _=>Ql (fun x q=>i5 _ _ x q) fun _ _ q=>q))) I y q
  ·exact Ql (fun x q=>i1 _ _ x q) (fun _ _ q=>q) h
  exact J5 _ I (J5 _ I (J5 _ I (J5 _ I (J5 _ I (fun _=>Ql (fun x q=>i1 _ _ x q) fun _ _ q=>q))))) r h
theorem Z7a {p q:Ed} (hp:MC p) (hq:MC q):(∃ e,V6 p q=some (nE e,true)∧RS e p q)∨(V6 p q=some (eS0,false)∧NE p q):=by
 obtain ⟨e,b,h1,h2,h3⟩:=Ygn (4 * SizeOf.sizeOf p+1) p q hp hq (by omega)
 have hm:Zh5 p q=some (e,b):=Zxp (fun k r=>(Zt6 k).1 p q r) h1
 unfold V6
 rw [hm,Option.bind_some]
 cases b with
 | true =>
  have rs:=h2 rfl
  refine .inl ⟨e,?_,rs⟩
  simp only [Bool.not_true,cond_false]
  rw [Ydn rs.b rs.g]
  rfl
 | false=>exact .inr ⟨rfl,h3 rfl⟩
def QS (Q:Ed→Prop) (o:EO):Prop:=(∀ t∈o.L,pt t≤1000000)∧Q o.E
structure SI (Q:Ed→Prop) (s:NW):Prop where
 out:∀ o∈s.out,QS Q o
 gone:∀ t∈s.gone,pt t≤1000000
 come:∀ t∈s.come,pt t≤1000000
theorem SI.fl {Q:Ed→Prop} (q0:Q eS0) {s:NW} (h:SI Q s):∀ o∈s.flush,QS Q o:=fun o ho=>by
 unfold NW.flush at ho
 rcases List.mem_append.1 ho with ho | ho
 ·exact h.out o ho
 rcases List.mem_append.1 ho with ho | ho
 ·by_cases hg:s.gone=[]
  ·rw [hg] at ho;simp [Zde] at ho
  rw [Zgw hg,List.mem_singleton] at ho
  subst ho;exact ⟨h.gone,q0⟩
 by_cases hg:s.come=[]
 ·rw [hg] at ho;simp [Zet] at ho
 rw [Zgx hg,List.mem_singleton] at ho
 subst ho;exact ⟨h.come,q0⟩
theorem Yjn:LM eS0 := .mk _ (by simp [eS0]) (by simp [eS0]) (by simp [eS0]) (by simp [eS0,Qw]) (by simp [eS0]) (by simp [eS0])
theorem Yg9 (os:List EO):Qw (os.map tO)=Qw os:=by
 unfold Qw
 rw [List.map_map]
 congr 1
 exact List.map_congr_left fun o _=>Ye8 o
theorem Yj0 (o:EO):(tO o).E=o.E∨(tO o).E=tE o.E:=by
 unfold tO
 split
 ·exact .inl rfl
 split
 ·exact .inl rfl
 split
 ·exact .inr rfl
 exact .inl rfl
theorem ST.tE {e:Ed} (h:ST e):ST (tE e):=by
 induction h with
 | mk e ho hn hl ik io jk jo =>
  rw [Zjw]
  refine .mk _ hn ho (fun o hm => ?_) (fun k hk => ?_) (fun o hm => ?_)
  ·obtain ⟨x,hx,rfl⟩:=List.mem_map.1 hm
   rw [Yeh]
   exact hl x hx
  ·obtain ⟨x,hx,rfl⟩:=List.mem_map.1 hk
   exact jk x hx
  obtain ⟨x,hx,rfl⟩:=List.mem_map.1 hm
  rcases Yj0 x with h | h
  ·rw [h];exact io x hx
  rw [h];exact jo x hx
theorem LM.tE {e:Ed} (h:LM e):LM (tE e):=by
 induction h with
 | mk e hw hk ho hs ik io jk jo =>
  rw [Zjw]
  refine .mk _ (by simp only [List.length_map];exact hw) (by simp only [List.length_map];exact hk) (by simp only [List.length_map];exact ho) (by rw [show (Qw (e.Ops.map tO))=Qw e.Ops from Yg9 _];exact hs) (fun k hm => ?_) (fun o hm => ?_)
  ·obtain ⟨x,hx,rfl⟩:=List.mem_map.1 hm
   exact jk x hx
  obtain ⟨x,hx,rfl⟩:=List.mem_map.1 hm
  rcases Yj0 x with h | h
  ·rw [h];exact io x hx
  rw [h];exact jo x hx
theorem Z2z {e:Ed} (h:Zcq e=true):LM e:=by rw [Yg4 h];exact Yjn
theorem Ydb:∀ (n:Nat) (e:Ed) (d:Nat),SizeOf.sizeOf e < n→BE e→GN e→ce e≤3000→rE e d=true→LM e
 | 0,_,_,h,_,_,_,_=>by omega
 | n+1,e,d,hn,hb,hg,hc,h=>by
  have hc':=hc
  rw [Z5b] at hc'
  have hk1:e.Kids.length≤(e.Kids.map fun k=>ce k.E).sum:=Zoj fun x _=>Yco _
  have kk:∀ k∈e.Kids,∀ d',rE k.E d'=true→LM k.E:=fun k hk d' hd'=>by
   have:=Zku (f:=fun k:Zd=>ce k.E) hk
   exact Ydb n k.E d' (by have:=Je hk;omega) (hb.ks k hk) (hg.ks k hk) (by omega) hd'
  have oo:∀ o∈e.Ops,∀ d',rE o.E d'=true→LM o.E:=fun o ho d' hd'=>by
   have:=Zku (f:=fun o:Zh=>ce o.E) ho
   exact Ydb n o.E d' (by have:=Kw ho;omega) (hb.os o ho) (hg.os o ho) (by omega) hd'
  have hlens:=Z3t hb h
  rw [Zqf] at h
  by_cases hd:d=0
  ·rw [if_pos hd] at h;cases h
  rw [if_neg hd] at h
  by_cases h0:e.Kind=0
  ·rw [if_pos h0] at h
   exact Z2z h
  rw [if_neg h0] at h
  by_cases h1:e.Kind=1
  ·rw [if_pos h1] at h
   unfold Zix Zij at h
   simp only [Bool.and_eq_true,beq_iff_eq] at h
   have e1:=List.eq_nil_of_length_eq_zero h.1.1.2
   have e2:=List.eq_nil_of_length_eq_zero h.1.2.2
   exact .mk _ (by omega) (by omega) (by omega) (by rw [e2];simp [Qw]) (by rw [e1];simp) (by rw [e2];simp)
  rw [if_neg h1] at h
  by_cases h2:e.Kind=2
  ·rw [if_pos h2] at h
   unfold Zij at h
   simp only [Bool.and_eq_true,beq_iff_eq] at h
   have e2:=List.eq_nil_of_length_eq_zero h.1.2.2
   refine .mk _ (by omega) (by omega) (by omega) (by rw [e2];simp [Qw]) (fun k hk=>kk k hk (d - 1) ?_) (by rw [e2];simp)
   exact Zph (Q:=fun k:Zd=>rE k.E (d - 1)=true) (fun p x hx=>by
    unfold okK okP at hx
    simp only [Bool.and_eq_true] at hx
    exact hx.2.2) e.Kids (-1) h.2.2 k hk
  rw [if_neg h2] at h
  by_cases h3:e.Kind=3
  ·rw [if_pos h3] at h
   unfold Zix at h
   rw [Bool.and_eq_true,Bool.and_eq_true,Bool.and_eq_true,Bool.and_eq_true,Bool.and_eq_true,Bool.and_eq_true,beq_iff_eq,beq_iff_eq,List.all_eq_true] at h
   obtain ⟨⟨_,_,hk⟩,_,hall,hB⟩:=h
   have e1:=List.eq_nil_of_length_eq_zero hk
   refine .mk _ (by omega) (by omega) (by omega) ?_ (by rw [e1];simp) fun o ho => ?_
   ·rw [hlens] at hB
    have:=Zy5 (l:=e.List_) (fun o=>rE o.E (d - 1)) e.Ops (0,0) ⟨⟨by decide,by decide⟩,by decide,by decide⟩ hall (fun o ho=>(hb.l o ho).1) hB
    unfold Zjm at hB
    rw [Bool.and_eq_true,decide_eq_true_eq,decide_eq_true_eq] at hB
    simp only at this
    omega
   have:=hall o ho
   unfold okO at this
   by_cases k0:o.Kind=0
   ·rw [if_pos k0] at this
    simp only [Bool.and_eq_true] at this
    exact Z2z this.2.2
   rw [if_neg k0] at this
   by_cases k12:o.Kind=1∨o.Kind=2
   ·rw [if_pos k12] at this
    simp only [Bool.and_eq_true] at this
    exact Z2z this.2.2.2
   rw [if_neg k12] at this
   by_cases k3:o.Kind=3
   ·rw [if_pos k3] at this
    simp only [Bool.and_eq_true] at this
    exact oo o ho (d - 1) this.2.2.2.2
   rw [if_neg k3] at this;cases this
  rw [if_neg h3] at h;cases h
theorem Z91 {e:Ed} (hb:BE e):∃ b,Gn e=some b∧(b=true→MC e∧rE e 64=true):=by
 obtain ⟨b,h1,h2⟩:=Yjh hb
 have h3:=Yf7 hb (d:=64) (by decide)
 rw [show ((64:Nat):Int)=64 from rfl] at h3
 unfold Gn
 rw [h1,Option.bind_some,h3,Yda hb]
 refine ⟨b && (rE e 64 && lgt e),?_,fun h => ?_⟩
 ·cases b <;> cases rE e 64 <;> cases lgt e <;> rfl
 simp only [Bool.and_eq_true] at h
 rw [h.1] at h1
 obtain ⟨hc,hs⟩:=Yii hb h1
 have hr:=h.2.1
 have hg:=Z9z _ e 64 (Nat.lt_succ_self _) hb (by omega) hr
 exact ⟨⟨Yap _ e 64 (Nat.lt_succ_self _) hr,hb,hg,hs,Ydb _ e 64 (Nat.lt_succ_self _) hb hg hc hr⟩,hr⟩
theorem RS.ca {e p q:Ed} (h:RS e p q) {t:Tr} (ht:Bd t) (hp:pt t≤1000000):CA (nE e) t:=⟨h.z.rx.nE h.b h.g,h.b.nE h.g,GN.nE h.b h.g,hp,ht⟩
theorem RS.on {e p q:Ed} (h:RS e p q) {t:Tr} (gt:GT t):ap (nE e) t=(ap p t).bind (ap q):=by rw [Z9m _ e t (Nat.lt_succ_self _) h.z.rx gt.n gt.x,h.f t gt]
def awP:List EO:=[⟨2,0,[⟨10,[1],[]⟩],eS0⟩,⟨0,1,[],eS0⟩]
def awQ:List EO:=[⟨1,0,[⟨10,[1],[]⟩],eS0⟩,⟨0,1,[],eS0⟩]
theorem Yhj:Bd ⟨10,[1],[]⟩ := .mk _ (by simp) (by simp) (by simp) (fun k h=>by simp at h)
set_option maxRecDepth 20000 in
theorem Yh9:V6 ⟨3,Ja,Ja,[],[],4,awP⟩ ⟨3,Ja,Ja,[],[],4,awQ⟩=some (⟨3,Ja,Ja,[],[],4,[⟨0,1,[],eS0⟩]⟩,true):=by
 let k1:List EO:=[⟨0,1,[],eS0⟩]
 have a1:Yx ⟨awP,0⟩=some (2,1,⟨awP,0⟩):=Option.bind_eq_some_iff.2 ⟨.inl (2,1,awP,0),Z8 rfl,rfl⟩
 have a2:Yx ⟨awP,1⟩=some (0,1,⟨k1,0⟩):=Option.bind_eq_some_iff.2 ⟨.inl (0,1,k1,0),(Yr (s':=(k1,0)) rfl).trans (Z8 rfl),rfl⟩
 have a3:Yx ⟨k1,1⟩=some (0,0,⟨[],0⟩):=Option.bind_eq_some_iff.2 ⟨.inr ([],0),(Yr (s':=([],0)) rfl).trans (Z8 rfl),rfl⟩
 have b1:Yx ⟨awQ,0⟩=some (1,1,⟨awQ,0⟩):=Option.bind_eq_some_iff.2 ⟨.inl (1,1,awQ,0),Z8 rfl,rfl⟩
 have b2:Yx ⟨awQ,1⟩=some (0,1,⟨k1,0⟩):=Option.bind_eq_some_iff.2 ⟨.inl (0,1,k1,0),(Yr (s':=(k1,0)) rfl).trans (Z8 rfl),rfl⟩
 let x1:Pc:=⟨0,⟨2,0,[⟨10,[1],[]⟩],eS0⟩,⟨1,0,[⟨10,[1],[]⟩],eS0⟩⟩
 let x2:Pc:=⟨0,⟨0,1,[],eS0⟩,⟨0,1,[],eS0⟩⟩
 have s1:Jf 1 2 (awP,0,awQ,0,[])=some (.inl (awP,1,awQ,1,[x1])):=Option.bind_eq_some_iff.2 ⟨_,a1,Option.bind_eq_some_iff.2 ⟨_,b1,rfl⟩⟩
 have s2:Jf 1 2 (awP,1,awQ,1,[x1])=some (.inl (k1,1,k1,1,[x1,x2])):=Option.bind_eq_some_iff.2 ⟨_,a2,Option.bind_eq_some_iff.2 ⟨_,b2,rfl⟩⟩
 have s3:Jf 1 2 (k1,1,k1,1,[x1,x2])=some (.inr ([x1,x2],true)):=Option.bind_eq_some_iff.2 ⟨_,a3,Option.bind_eq_some_iff.2 ⟨_,a3,rfl⟩⟩
 have hl:Zw (Jf 1 2) (awP,0,awQ,0,[])=some ([x1,x2],true):=by rw [Yr s1,Yr s2,Z8 s3]
 have hB:Zay awP awQ=some ([x1,x2],true):=Option.bind_eq_some_iff.2 ⟨_,Option.bind_eq_some_iff.2 ⟨_,hl,rfl⟩,rfl⟩
 have hE:=Z7c (l:=[⟨10,[1],[]⟩]) (m:=[⟨10,[1],[]⟩]) (by simpa using Yhj) (by simpa using Yhj) (by simp)
 rw [(Zsb _ _).2 rfl] at hE
 have c1:(Zm 1).2.2.2.2.2 x1=some ([],true):=Option.bind_eq_some_iff.2 ⟨_,hE,rfl⟩
 have d1:Qe (Zm 1).2.2.2.2.2 ([x1,x2],true) (0,[])=some (.inl (1,[])):=Option.bind_eq_some_iff.2 ⟨_,c1,rfl⟩
 have d2:Qe (Zm 1).2.2.2.2.2 ([x1,x2],true) (1,[])=some (.inl (2,k1)):=rfl
 have d3:Qe (Zm 1).2.2.2.2.2 ([x1,x2],true) (2,k1)=some (.inr (.inr k1)):=rfl
 have d:Zw (Qe (Zm 1).2.2.2.2.2 ([x1,x2],true)) (0,[])=some (.inr k1):=by rw [Yr d1,Yr d2,Z8 d3]
 have f:(Zm 2).2.2.1 ⟨3,Ja,Ja,[],[],4,awP⟩ ⟨3,Ja,Ja,[],[],4,awQ⟩=some (⟨3,Ja,Ja,[],[],4,k1⟩,true):=Option.bind_eq_some_iff.2 ⟨_,hB,Option.bind_eq_some_iff.2 ⟨_,d,rfl⟩⟩
 have f2:(Zm 3).1 ⟨3,Ja,Ja,[],[],4,awP⟩ ⟨3,Ja,Ja,[],[],4,awQ⟩=some (⟨3,Ja,Ja,[],[],4,k1⟩,true):=Option.bind_eq_some_iff.2 ⟨_,f,rfl⟩
 have hm:Zh5 ⟨3,Ja,Ja,[],[],4,awP⟩ ⟨3,Ja,Ja,[],[],4,awQ⟩=some (⟨3,Ja,Ja,[],[],4,k1⟩,true):=Zxp (fun k r=>(Zt6 k).1 _ _ r) f2
 have bk:BE ⟨3,Ja,Ja,[],[],4,k1⟩ := .mk _ Zht Zht (by simp) (by simp) (by simp) (by simp) (by simp [k1]) (by simp [k1]) (by simp [k1,Z0s])
 have gk:GN ⟨3,Ja,Ja,[],[],4,k1⟩ := .mk _ (by simp) (by simp) (by simp [k1]) (by simp [k1,Qw,X3]) (by simp [k1,opk]) (by simp) (by simp [k1,Z00])
 have hn:nE ⟨3,Ja,Ja,[],[],4,k1⟩=⟨3,Ja,Ja,[],[],4,k1⟩:=by
  rw [Zgs]
  simp [k1,Zp1,Uu,stN,s0N,NW.flush,Zde,Zet,Uc]
 have hq:=Ydn bk gk
 rw [hn] at hq
 exact Option.bind_eq_some_iff.2 ⟨_,hm,Option.bind_eq_some_iff.2 ⟨_,hq,rfl⟩⟩
def Zt5 (m:Int):Nat:=(if 65534 < m then (65534:Int) else m).toNat
def Z3e {α:Type} (z:α) (l:List α) (m:Int):List α:=l++List.replicate (Zt5 m - l.length) z
def fS {α:Type} (z:α) (l:List α) (x:Int×α):List α:=Z3e z l x.1++[x.2]
def Ybb (l:Int):Tr:=if l=8 then ⟨0,[],[]⟩ else if l=9 then ⟨1,[],[]⟩ else ⟨10,[0],[]⟩
def Zvd (o:EO):Nat:=(if 1048576 < o.N then (1048576:Int) else o.N).toNat
def Zik (l:Int) (o:EO) (t:Tr):List Tr:=if o.Kind=0 then List.replicate (Zvd o) (Ybb l) else if o.Kind=1 then o.L else if o.Kind=3 then [t] else []
def Zab (e:Ed):Tr :=
 if e.Kind=1 then e.Old
 else if e.Kind=2 then ⟨1,(e.Words.map fun w=>(w.At,w.Old)).foldl (fS 0) [],(e.Kids.attach.map fun k=>(k.1.At,Zab k.1.E)).foldl (fS Ja) []⟩
 else if e.Kind=3 then ⟨e.List_,[],(e.Ops.attach.map fun o=>Zik e.List_ o.1 (Zab o.1.E)).flatten⟩
 else Ja
termination_by SizeOf.sizeOf e
decreasing_by
 ·exact Je k.2
 exact Kw o.2
theorem Zki (e:Ed):Zab e=if e.Kind=1 then e.Old
 else if e.Kind=2 then ⟨1,(e.Words.map fun w=>(w.At,w.Old)).foldl (fS 0) [],(e.Kids.map fun k=>(k.At,Zab k.E)).foldl (fS Ja) []⟩
 else if e.Kind=3 then ⟨e.List_,[],(e.Ops.map fun o=>Zik e.List_ o (Zab o.E)).flatten⟩
 else Ja:=by
 rw [Zab]
 have h1:(e.Kids.attach.map fun k=>(k.1.At,Zab k.1.E))=e.Kids.map fun k=>(k.At,Zab k.E):=List.attach_map_val (l:=e.Kids) (f:=fun k:KE=>(k.At,Zab k.E))
 have h2:(e.Ops.attach.map fun o=>Zik e.List_ o.1 (Zab o.1.E))=e.Ops.map fun o=>Zik e.List_ o (Zab o.E):=List.attach_map_val (l:=e.Ops) (f:=fun o:EO=>Zik e.List_ o (Zab o.E))
 rw [h1,h2]
theorem Zv0 (m:Int):Zt5 m≤65534:=by unfold Zt5;split <;> omega
theorem Ygl {m:Int} (h:0≤m∧m≤65534):Zt5 m=m.toNat:=by unfold Zt5;rw [if_neg (by omega)]
theorem Zic {α:Type} (z:α) (l:List α) (m:Int):(Z3e z l m).length=max l.length (Zt5 m):=by
 unfold Z3e
 rw [List.length_append,List.length_replicate]
 omega
theorem Z7f {α:Type} (z:α):∀ (xs:List (Int×α)) (l:List α),(xs.foldl (fS z) l).length≤max l.length 65534+xs.length
 | [],l=>by simp only [List.foldl_nil,List.length_nil];omega
 | x::xs,l=>by
  rw [List.foldl_cons]
  have:=Z7f z xs (fS z l x)
  have h2:(fS z l x).length=max l.length (Zt5 x.1)+1:=by unfold fS;rw [List.length_append,Zic];rfl
  have:=Zv0 x.1
  rw [List.length_cons]
  omega
theorem Z7g {α:Type} (z:α):∀ (xs:List (Int×α)) (l:List α) (y:α),y∈xs.foldl (fS z) l→y=z∨y∈l∨∃ x∈xs,y=x.2
 | [],l,y,h => .inr (.inl h)
 | x::xs,l,y,h=>by
  rw [List.foldl_cons] at h
  rcases Z7g z xs (fS z l x) y h with h | h | ⟨q,h1,h2⟩
  ·exact .inl h
  ·unfold fS Z3e at h
   rw [List.mem_append,List.mem_append] at h
   rcases h with (h | h) | h
   ·exact .inr (.inl h)
   ·exact .inl (List.eq_of_mem_replicate h)
   exact .inr (.inr ⟨x,.head _,List.mem_singleton.1 h⟩)
  exact .inr (.inr ⟨q,.tail _ h1,h2⟩)
theorem Ycv {α:Type} (z:α):∀ (xs:List (Int×α)) (l:List α) (i:Nat),i < l.length→(xs.foldl (fS z) l)[i]? = l[i]?
 | [],l,i,h=>rfl
 | x::xs,l,i,h=>by
  rw [List.foldl_cons,Ycv z xs (fS z l x) i (by unfold fS;rw [List.length_append,Zic];omega)]
  unfold fS Z3e
  rw [List.append_assoc,List.getElem?_append_left h]
theorem Ycu {α:Type} (z:α):∀ (xs:List (Int×α)) (l:List α),xs.Pairwise (fun a b=>a.1 < b.1)→(∀ x∈xs,(l.length:Int)≤x.1∧x.1≤65534)→∀ x∈xs,Kx z (xs.foldl (fS z) l) x.1.toNat=x.2
 | [],_,_,_,x,hx=>by cases hx
 | y::xs,l,hp,hb,x,hx=>by
  obtain ⟨p1,p2⟩:=List.pairwise_cons.1 hp
  obtain ⟨b1,b2⟩:=hb y (.head _)
  have hm:=Ygl (m:=y.1) (by omega)
  have hl:(Z3e z l y.1).length=y.1.toNat:=by rw [Zic,hm];omega
  have hl2:(fS z l y).length=y.1.toNat+1:=by unfold fS;rw [List.length_append,hl];rfl
  rw [List.foldl_cons]
  rcases List.mem_cons.1 hx with rfl | hx
  ·unfold Kx
   rw [Ycv z xs _ _ (by omega)]
   unfold fS
   rw [List.getElem?_append_right (by omega),hl,Nat.sub_self]
   rfl
  refine Ycu z xs (fS z l y) p2 (fun q hq => ?_) x hx
  have h1:=p1 q hq
  have h2:=(hb q (.tail _ hq)).2
  omega
theorem Zq2 {α S R σ:Type} (xs:List α) (mk:S→Int→σ) (f:S→α→S) (out:S→R) (I:S→Nat→Prop) (step:σ→Option (σ ⊕ R)) (hl:(xs.length:Int)≤140737488355328)
  (h1:∀ (s:S) (i:Nat) (x:α),I s i→i < xs.length→xs.drop i=x::xs.drop (i+1)→x∈xs→I (f s x) (i+1)∧Xr xs (i:Int)=some x∧step (mk s (i:Int))=some (.inl (mk (f s x) (IntKind.i64.wrap ((i:Int)+1))))) (h2:∀ s,I s xs.length→step (mk s (xs.length:Int))=some (.inr (out s))) (s:S) (hs:I s 0):Zw step (mk s 0)=some (out (xs.foldl f s))∧I (xs.foldl f s) xs.length:=by
 have key:∀ (ys:List α) (i:Nat) (s:S),I s i→xs.drop i=ys→i≤xs.length→Zw step (mk s (i:Int))=some (out (ys.foldl f s))∧I (ys.foldl f s) xs.length:=fun ys=>by
  induction ys with
  | nil =>
   intro i s hI h hi
   have:i=xs.length:=by
    have:=congrArg List.length h
    rw [List.length_drop,List.length_nil] at this
    omega
   subst this
   exact ⟨Z8 (h2 s hI),hI⟩
  | cons x ys ih =>
   intro i s hI h hi
   have hlt:i < xs.length:=by
    have:=congrArg List.length h
    rw [List.length_drop,List.length_cons] at this
    omega
   have hd:xs.drop (i+1)=ys:=by
    rw [← List.drop_drop,h]
    rfl
   have hx:x∈xs:=List.mem_of_mem_drop (by rw [h];exact .head _)
   obtain ⟨q1,_,q2⟩:=h1 s i x hI hlt (by rw [h,hd]) hx
   rw [Ul (by omega) (by omega),show (i:Int)+1=((i+1:Nat):Int) by omega] at q2
   rw [Yr q2]
   exact ih (i+1) _ q1 hd (by omega)
 exact key xs 0 s hs rfl (by omega)
theorem Zyf {α:Type} (z:α) (m:Int) (step:List α→Option (List α ⊕ List α)) (hs:∀ s:List α,s.length≤3000000→step s=if (s.length:Int) < (if 65534 < m then (65534:Int) else m) then some (.inl (s++[z])) else some (.inr s)) :
  ∀ (k:Nat) (s:List α),s.length≤2000000→Zt5 m - s.length=k→Zw step s=some (Z3e z s m)
 | 0,s,hl,hk=>by
  have h:¬ (s.length:Int) < (if 65534 < m then (65534:Int) else m):=by unfold Zt5 at hk;omega
  rw [Z8 (r:=s) (by rw [hs s (by omega),if_neg h])]
  unfold Z3e
  rw [hk]
  simp
 | k+1,s,hl,hk=>by
  have hp:=Zv0 m
  have h:(s.length:Int) < (if 65534 < m then (65534:Int) else m):=by unfold Zt5 at hk;omega
  rw [Yr (s':=s++[z]) (by rw [hs s (by omega),if_pos h]),Zyf z m step hs k (s++[z]) (by rw [List.length_append,List.length_singleton];omega) (by rw [List.length_append,List.length_singleton];omega)]
  unfold Z3e
  rw [List.length_append,List.length_singleton,hk,show Zt5 m - (s.length+1)=k by omega,List.append_assoc]
  rfl
theorem Z04 (b:Tr) (M:Int) (step:Int×List Tr→Option ((Int×List Tr) ⊕ List Tr)) (hM:M≤1048576) (hs:∀ (i:Int) (s:List Tr),0≤i→i≤1048576→s.length≤1100000000000→step (i,s)=if i < M then some (.inl (i+1,s++[b])) else some (.inr s)) :
  ∀ (k:Nat) (i:Int) (s:List Tr),0≤i→i≤1048576→s.length+k≤1100000000000→(M - i).toNat=k→Zw step (i,s)=some (s++List.replicate k b)
 | 0,i,s,h0,h1,hl,hk=>by
  rw [Z8 (r:=s) (by rw [hs i s h0 h1 (by omega),if_neg (by omega)])]
  simp
 | k+1,i,s,h0,h1,hl,hk=>by
  rw [Yr (s':=(i+1,s++[b])) (by rw [hs i s h0 h1 (by omega),if_pos (by omega)]),Z04 b M step hM hs k (i+1) (s++[b]) (by omega) (by omega) (by rw [List.length_append,List.length_singleton];omega) (by omega)]
  rw [List.append_assoc]
  rfl
theorem Yia (l:Int):Bd (Ybb l):=by
 unfold Ybb
 split
 ·exact Zht
 split
 ·exact .mk _ (by simp) (by simp) (by simp) (by simp)
 exact .mk _ (by simp) (by simp) (by simp) (by simp)
theorem Ycl (l:Int):Zdi l=some (Ybb l):=by
 unfold Zdi Ybb
 simp only [Zdd]
 split
 ·rfl
 split <;> rfl
theorem Z6i {o:EO} (ho:opk o) (l:Int) (t:Tr):(Zik l o t).length≤X3 o:=by
 unfold Zik X3 Zvd
 split
 ·rw [List.length_replicate];split <;> omega
 split
 ·rename_i h;rw [if_neg (by omega)];omega
 split
 ·exact Nat.le_refl _
 exact Nat.zero_le _
theorem Z5h {l:Int} {f:EO→Tr}:∀ (os:List EO),(∀ o∈os,opk o)→((os.map fun o=>Zik l o (f o)).flatten).length≤Qw os
 | [],_=>by simp
 | o::os,h=>by
  rw [List.map_cons,List.flatten_cons,List.length_append,Zch]
  have:=Z6i (h o (.head _)) l (f o)
  have:=Z5h (l:=l) (f:=f) os fun x hx=>h x (.tail _ hx)
  omega
theorem Z76:∀ (n:Nat) (e:Ed),SizeOf.sizeOf e < n→RX e→BE e→GN e→Bd (Zab e)
 | 0,_,h,_,_,_=>by omega
 | n+1,e,hn,hx,hb,hg=>by
  rw [Zki]
  split
  ·exact hb.old
  split
  ·rename_i k2
   have hk:∀ k∈e.Kids,Bd (Zab k.E):=fun k hk=>by
    cases hx with
    | same _ h=>omega
    | repl _ h=>omega
    | li _ h=>omega
    | st _ _ _ _ _ _ ih=>exact Z76 n k.E (by have:=Je hk;omega) (ih k hk) (hb.ks k hk) (hg.ks k hk)
   have l1:=Z7f (0:Int) (e.Words.map fun w=>(w.At,w.Old)) []
   have l2:=Z7f Ja (e.Kids.map fun k=>(k.At,Zab k.E)) []
   have g1:=hg.w
   have g2:=hg.k
   simp only [List.length_map,List.length_nil] at l1 l2
   refine .mk _ (by simp only;omega) (by simp only;omega) (fun w hw => ?_) fun k hk' => ?_
   ·rcases Z7g (0:Int) _ _ _ hw with h | h | ⟨x,h1,h2⟩
    ·omega
    ·cases h
    obtain ⟨w',hw',rfl⟩:=List.mem_map.1 h1
    rw [h2]
    exact (hb.ws w' hw').2.1
   rcases Z7g Ja _ _ _ hk' with h | h | ⟨x,h1,h2⟩
   ·rw [h];exact Zht
   ·cases h
   obtain ⟨k',hk',rfl⟩:=List.mem_map.1 h1
   rw [h2]
   exact hk k' hk'
  split
  ·rename_i k3
   have hk:∀ o∈e.Ops,o.Kind=3→Bd (Zab o.E):=fun o ho k=>by
    cases hx with
    | same _ h=>omega
    | repl _ h=>omega
    | st _ h=>omega
    | li _ _ _ _ _ ih=>exact Z76 n o.E (by have:=Kw ho;omega) (ih o ho k) (hb.os o ho) (hg.os o ho)
   have l1:=Z5h (l:=e.List_) (f:=fun o=>Zab o.E) e.Ops hg.p
   have g1:=hg.s
   refine .mk _ (by simp) (by simp only;omega) (by simp) fun t ht => ?_
   simp only [List.mem_flatten,List.mem_map] at ht
   obtain ⟨_,⟨o,ho,rfl⟩,ht⟩:=ht
   unfold Zik at ht
   split at ht
   ·rw [List.eq_of_mem_replicate ht];exact Yia _
   split at ht
   ·exact (hb.l o ho).2 t ht
   split at ht
   ·rename_i k3'
    rw [List.mem_singleton.1 ht]
    exact hk o ho k3'
   cases ht
  exact Zht
theorem Zw3 {α:Type} (p:Prop) [Decidable p] (x y:α):cond (decide p) x y=if p then x else y:=by by_cases h:p <;> simp [h]
theorem Zkk {α:Type} {xs:List α} {i:Nat} {x:α} {ys:List α} (h:xs.drop i=x::ys):Xr xs (i:Int)=some x:=Yw (Zob h).2.1
theorem Yat:∀ k:Nat,(∀ e,RX e→BE e→GN e→2 * SizeOf.sizeOf e < k→(Yc k).1 e=some (Zab e))∧(∀ e,RX e→BE e→GN e→e.Kind=2→2 * SizeOf.sizeOf e≤k→(Yc k).2.1 e=some (Zab e))∧(∀ e,RX e→BE e→GN e→e.Kind=3→2 * SizeOf.sizeOf e≤k→(Yc k).2.2 e=some (Zab e))
 | 0=>⟨fun e _ _ _ h=>by omega,fun e _ _ _ _ h=>by have:=Zjg e;omega,fun e _ _ _ _ h=>by have:=Zjg e;omega⟩
 | k+1=>by
  obtain ⟨i1,i2,i3⟩:=Yat k
  refine ⟨fun e hx hb hg hk => ?_,fun e hx hb hg k2 hk => ?_,fun e hx hb hg k3 hk => ?_⟩
  ·show Zen (Yc k).1 (Yc k).2.1 (Yc k).2.2 e=_
   unfold Zen
   rw [Zki]
   simp only [Zdd]
   by_cases h1:e.Kind=1
   ·rw [if_pos h1,if_pos h1]
   rw [if_neg h1,if_neg h1]
   by_cases h2:e.Kind=2
   ·rw [if_pos h2,if_pos h2,i2 e hx hb hg h2 (by omega),Option.bind_some,Zki,if_neg h1,if_pos h2]
   rw [if_neg h2,if_neg h2]
   by_cases h3:e.Kind=3
   ·rw [if_pos h3,if_pos h3,i3 e hx hb hg h3 (by omega),Option.bind_some,Zki,if_neg h1,if_neg h2,if_pos h3]
   rw [if_neg h3,if_neg h3]
   rfl
  ·show Gc (Yc k).1 (Yc k).2.1 (Yc k).2.2 e=_
   unfold Gc
   have hks:∀ x∈e.Kids,(Yc k).1 x.E=some (Zab x.E):=fun x hx'=>by
    cases hx with
    | same _ h=>omega
    | repl _ h=>omega
    | li _ h=>omega
    | st _ _ _ _ _ _ ih=>exact i1 x.E (ih x hx') (hb.ks x hx') (hg.ks x hx') (by have:=Je hx';omega)
   have g1:=hg.w
   have g2:=hg.k
   have L0:=Zq2 e.Words (fun (s:List Int) (i:Int)=>((i,s):Int×List Int)) (fun s w=>fS 0 s (w.At,w.Old)) (fun s=>s) (fun s i=>s.length≤65534+i) (Vm e) (by omega) (fun s i x hI hi hd hx'=>by
    have hl:(fS 0 s (x.At,x.Old)).length=max s.length (Zt5 x.At)+1:=by unfold fS;rw [List.length_append,Zic];rfl
    have hp:=Zv0 x.At
    refine ⟨by omega,Zkk hd,?_⟩
    unfold Vm
    simp only
    rw [decide_eq_true (by omega),cond_true,Zkk hd,Option.bind_some]
    rw [Zyf (0:Int) x.At _ (fun s hs=>by
     unfold Zb5
     rw [Zw3,Kb (by simp only [List.length_singleton];omega) (by simp only [List.length_singleton];omega),Option.bind_some]) _ s (by omega) rfl,Option.bind_some]
    rw [Kb (by rw [Zic];simp only [List.length_singleton];omega) (by rw [Zic];simp only [List.length_singleton];omega),Option.bind_some]
    rfl) (fun s hI=>by
    unfold Vm
    simp only
    rw [decide_eq_false (by omega),cond_false]) [] (by simp)
   have L2:=Zq2 e.Kids (fun (s:List Tr) (i:Int)=>((i,s):Int×List Tr)) (fun s w=>fS Ja s (w.At,Zab w.E)) (fun s=>s) (fun s i=>s.length≤65534+i) (Vn (Yc k).1 e) (by omega) (fun s i x hI hi hd hx'=>by
    have hl:(fS Ja s (x.At,Zab x.E)).length=max s.length (Zt5 x.At)+1:=by unfold fS;rw [List.length_append,Zic];rfl
    have hp:=Zv0 x.At
    refine ⟨by omega,Zkk hd,?_⟩
    unfold Vn
    simp only
    rw [decide_eq_true (by omega),cond_true,Zkk hd,Option.bind_some]
    rw [Zyf Ja x.At _ (fun s hs=>by
     unfold Zb6
     rw [Zw3,Kb (by simp only [List.length_singleton];omega) (by simp only [List.length_singleton];omega),Option.bind_some]
     rfl) _ s (by omega) rfl,Option.bind_some,hks x hx',Option.bind_some]
    rw [Kb (by rw [Zic];simp only [List.length_singleton];omega) (by rw [Zic];simp only [List.length_singleton];omega),Option.bind_some]
    rfl) (fun s hI=>by
    unfold Vn
    simp only
    rw [decide_eq_false (by omega),cond_false]) [] (by simp)
   rw [L0.1,Option.bind_some,L2.1,Option.bind_some,Zki,if_neg (by omega),if_pos k2,List.foldl_map,List.foldl_map]
  show Zam (Yc k).1 (Yc k).2.1 (Yc k).2.2 e=_
  unfold Zam
  have hks:∀ x∈e.Ops,x.Kind=3→(Yc k).1 x.E=some (Zab x.E):=fun x hx' kx=>by
   cases hx with
   | same _ h=>omega
   | repl _ h=>omega
   | st _ h=>omega
   | li _ _ _ _ _ ih=>exact i1 x.E (ih x hx' kx) (hb.os x hx') (hg.os x hx') (by have:=Kw hx';omega)
  have g1:=hg.o
  have g2:=hg.s
  have L0:=Zq2 e.Ops (fun (s:List Tr) (i:Int)=>((i,s):Int×List Tr)) (fun s o=>s++Zik e.List_ o (Zab o.E)) (fun s=>s) (fun s i=>s.length+Qw (e.Ops.drop i)≤1073741824) (Ur (Yc k).1 e) (by omega) (fun s i x hI hi hd hx'=>by
   have hp:=hg.p x hx'
   have hl:=Z6i hp e.List_ (Zab x.E)
   rw [hd,Zch] at hI
   refine ⟨by rw [List.length_append];omega,Zkk hd,?_⟩
   unfold Ur
   simp only
   rw [decide_eq_true (by omega),cond_true,Zkk hd,Option.bind_some]
   have key:(cond (x.Kind == 0) ((Zw (Za9 e x) (0,s)).bind fun (z7:(List Zb))=>some z7) (cond (x.Kind == 1) ((Vx 56 s x.L).bind fun l8=>some l8) (cond (x.Kind == 3) (((Yc k).1 x.E).bind fun y9=>(Vx 56 s ([y9]:List Zb)).bind fun l10=>some l10) (some s))))=some (s++Zik e.List_ x (Zab x.E)):=by
    simp only [Zdd]
    unfold Zik at hl ⊢
    by_cases h0:x.Kind=0
    ·rw [if_pos h0] at hl ⊢
     rw [if_pos h0]
     rw [Z04 (Ybb e.List_) (if 1048576 < x.N then (1048576:Int) else x.N) _ (by split <;> omega) (fun i s q0 q1 q2=>by
      unfold Za9
      simp only
      rw [Zw3,Ycl,Option.bind_some,Kb (by simp only [List.length_singleton];omega) (by simp only [List.length_singleton];omega),Option.bind_some,Ul (by omega) (by omega)]) (Zvd x) 0 s (by omega) (by omega) (by have:Zvd x≤1048576:=(by unfold Zvd;split <;> omega);omega) (by unfold Zvd;rw [Int.sub_zero])]
     rfl
    rw [if_neg h0] at hl ⊢
    rw [if_neg h0]
    by_cases h1:x.Kind=1
    ·rw [if_pos h1] at hl ⊢
     rw [if_pos h1,Kb (by omega) (by omega)]
     rfl
    rw [if_neg h1] at hl ⊢
    rw [if_neg h1]
    by_cases h3:x.Kind=3
    ·rw [if_pos h3] at hl ⊢
     rw [if_pos h3,hks x hx' h3,Option.bind_some,Kb (by simp only [List.length_singleton];omega) (by simp only [List.length_singleton];omega)]
     rfl
    rw [if_neg h3,if_neg h3,List.append_nil]
   rw [key]
   rfl) (fun s hI=>by
   unfold Ur
   simp only
   rw [decide_eq_false (by omega),cond_false]) [] (by simp only [List.drop_zero,List.length_nil];omega)
  have hf:∀ (os:List EO) (s:List Tr),os.foldl (fun s o=>s++Zik e.List_ o (Zab o.E)) s=s++(os.map fun o=>Zik e.List_ o (Zab o.E)).flatten:=fun os=>by
   induction os with
   | nil=>intro s;simp
   | cons o os ih=>intro s;rw [List.foldl_cons,ih,List.map_cons,List.flatten_cons,List.append_assoc]
  rw [L0.1,Option.bind_some,hf,List.nil_append,Zki,if_neg (by omega),if_neg (by omega),if_pos k3]
theorem Yg5 {e:Ed} (hx:RX e) (hb:BE e) (hg:GN e):Zkw e=some (Zab e):=Zgc (2 * SizeOf.sizeOf e+1) fun k hk=>(Yat k).1 e hx hb hg (by omega)
theorem Z02:∀ (os:List EO) (s:Int×Int),Sm s→(∀ o∈os,o.L.length * 56≤140737488355328)→Zjm (os.foldl stI s)=true→∀ o∈os,o.Kind=0→o.N≤1048576
 | [],_,_,_,_,o,ho,_=>by cases ho
 | x::os,s,hs,hl,hb,o,ho,k0=>by
  have hsm:=Zur hs (hl x (.head _))
  rw [List.foldl_cons] at hb
  rcases List.mem_cons.1 ho with rfl | ho
  ·have hup:=(Zvz os (stI s o) hsm (fun x hx=>hl x (.tail _ hx))).1
   unfold Zjm at hb
   rw [Bool.and_eq_true,decide_eq_true_eq,decide_eq_true_eq] at hb
   have n1:(stI s o).1≠1048576:=fun he=>by have:=hup he;omega
   unfold stI Zpz thr at n1
   simp only at n1
   rw [if_neg (by omega),if_pos k0] at n1
   have h0:=hs.1.1
   by_cases hN:o.N≤1048576
   ·exact hN
   rw [if_pos (by rw [if_neg (by omega)];omega)] at n1
   exact absurd rfl n1
  exact Z02 os (stI s x) hsm (fun x hx=>hl x (.tail _ hx)) hb o ho k0
theorem Ydh {o:EO} (h:o.N≤1048576):Zvd o=o.N.toNat:=by unfold Zvd;rw [if_neg (by omega)]
theorem Z9g {l:Int} {f:EO→Tr}:∀ (os:List EO),(∀ o∈os,opk o)→(∀ o∈os,o.Kind=0→o.N≤1048576)→(∀ o∈os,o.Kind=3→(ap o.E (nrm (f o))).isSome=true) →
  ∀ rest out,∃ out',RO os ((os.map fun o=>Zik l o (f o)).flatten.map nrm++rest,out)=some (rest,out')
 | [],_,_,_,rest,out=>⟨out,rfl⟩
 | o::os,hp,hN,hD,rest,out=>by
  have ih:=Z9g (l:=l) (f:=f) os (fun x hx=>hp x (.tail _ hx)) (fun x hx=>hN x (.tail _ hx)) fun x hx=>hD x (.tail _ hx)
  have e1:((List.map (fun o=>Zik l o (f o)) (o::os)).flatten.map nrm++rest)=(Zik l o (f o)).map nrm++((os.map fun o=>Zik l o (f o)).flatten.map nrm++rest):=by
   rw [List.map_cons,List.flatten_cons,List.map_append,List.append_assoc]
  rw [e1,Zbk]
  rcases hp o (.head _) with ⟨k,hk⟩ | ⟨k,hk⟩ | ⟨k,hk⟩ | k
  ·have hl:((Zik l o (f o)).map nrm).length=o.N.toNat:=by
    unfold Zik
    rw [if_pos k,List.length_map,List.length_replicate,Ydh (hN o (.head _) k)]
   rw [Zj6 k]
   unfold Zh0
   rw [if_pos ⟨by omega,by simp only [List.length_append];omega⟩,Option.bind_some]
   simp only
   rw [← hl,List.drop_left]
   exact ih rest _
  ·have hl:(Zik l o (f o))=o.L:=by
    unfold Zik
    rw [if_neg (by omega),if_pos k]
   rw [Zhc k,hl]
   unfold Zis
   rw [if_pos (by simp only;rw [List.take_left' (by simp)]),Option.bind_some]
   simp only
   rw [List.drop_left' (by simp)]
   exact ih rest _
  ·have hl:(Zik l o (f o))=[]:=by
    unfold Zik
    rw [if_neg (by omega),if_neg (by omega),if_neg (by omega)]
   rw [Zj7 k,hl]
   unfold Zjy
   rw [Option.bind_some]
   exact ih rest _
  have hl:(Zik l o (f o))=[f o]:=by
   unfold Zik
   rw [if_neg (by omega),if_neg (by omega),if_pos k]
  obtain ⟨u,hu⟩:=Option.isSome_iff_exists.1 (hD o (.head _) k)
  rw [Zle k,hl]
  simp only [List.map_cons,List.map_nil,List.cons_append,List.nil_append]
  rw [hu,Option.map_some,Option.bind_some]
  exact ih rest _
theorem Z3z:∀ (n:Nat) (e:Ed) (d:Nat),SizeOf.sizeOf e < n→BE e→GN e→rE e d=true→Bd (Zab e)→TX (Zab e)→(ap e (nrm (Zab e))).isSome=true
 | 0,_,_,h,_,_,_,_,_=>by omega
 | n+1,e,d,hn,hb,hg,hr,bt,tx=>by
  have hz:=Yap _ e d (Nat.lt_succ_self _) hr
  have hlens:=Z3t hb hr
  have gt:GT (nrm (Zab e)):=GT.of bt tx
  rw [Zqf] at hr
  by_cases hd:d=0
  ·rw [if_pos hd] at hr;cases hr
  rw [if_neg hd] at hr
  cases hz with
  | same _ k0=>rw [Zb4,if_pos k0];rfl
  | repl _ k1 ho hn' =>
   rw [Zki,if_pos k1,Zb4,if_neg (by omega),if_pos k1,if_pos rfl]
   rfl
  | st _ k2 hw hw2 hk hk2 ih =>
   rw [if_neg (by omega),if_neg (by omega),if_pos k2] at hr
   have nw:=Zpv hw hw2
   have nk:=Zpv hk hk2
   have he:Zab e=⟨1,(e.Words.map fun w=>(w.At,w.Old)).foldl (fS 0) [],(e.Kids.map fun k=>(k.At,Zab k.E)).foldl (fS Ja) []⟩:=by rw [Zki,if_neg (by omega),if_pos k2]
   have a1:=Ycu (0:Int) (e.Words.map fun w=>(w.At,w.Old)) [] (List.pairwise_map.2 hw) fun x hx=>by
    obtain ⟨w,hw',rfl⟩:=List.mem_map.1 hx
    exact hw2 w hw'
   have a2:=Ycu Ja (e.Kids.map fun k=>(k.At,Zab k.E)) [] (List.pairwise_map.2 hk) fun x hx=>by
    obtain ⟨w,hw',rfl⟩:=List.mem_map.1 hx
    exact hk2 w hw'
   rw [he] at bt tx gt ⊢
   revert bt tx gt a1 a2
   generalize (e.Words.map fun w=>(w.At,w.Old)).foldl (fS 0) []=W
   generalize (e.Kids.map fun k=>(k.At,Zab k.E)).foldl (fS Ja) []=K
   intro bt tx gt a1 a2
   rw [Za4 rfl] at gt ⊢
   simp only at gt ⊢
   have nz:nrm Ja=Ja:=Zh6 _
   have at_map:∀ (l:List Tr) (i:Nat),Kx Ja (l.map nrm) i=nrm (Kx Ja l i):=fun l i=>by
    unfold Kx
    rw [List.getElem?_map]
    cases l[i]? with
    | none=>exact nz.symm
    | some x=>rfl
   have aw:∀ j,Kx 0 (tr p0 W) j=Kx 0 W j:=fun j=>Zta _ (fun x _ hx=>Z0h hx) j
   have ak:∀ j,Kx Ja (tr pT (K.map nrm)) j=nrm (Kx Ja K j):=fun j=>by
    rw [Zta _ (fun x hx hp => ?_) j,at_map]
    obtain ⟨y,hy,rfl⟩:=List.mem_map.1 hx
    have:(nrm y).Kind=0:=by unfold pT at hp;rwa [beq_iff_eq] at hp
    rw [Za3] at this
    rw [Zh6,if_pos this]
    rfl
   have kid:∀ k∈e.Kids,Kx Ja K k.At.toNat=Zab k.E:=fun k hk'=>a2 (k.At,Zab k.E) (List.mem_map.2 ⟨k,hk',rfl⟩)
   have kin:∀ k∈e.Kids,Bd (Zab k.E)∧TX (Zab k.E):=fun k hk'=>by
    rw [← kid k hk']
    unfold Kx
    cases hq:K[k.At.toNat]? with
    | none=>exact ⟨Zht,TX.z⟩
    | some x =>
     have hm:x∈K:=List.mem_of_getElem? hq
     exact ⟨bt.all x hm,tx.all x hm⟩
   rw [Zb4,if_neg (by omega),if_neg (by omega),if_pos k2,if_pos rfl]
   obtain ⟨s1,_⟩:=Zld (tr p0 W) e.Words (tr p0 W) nw
   obtain ⟨ws',c1,_⟩:=s1 fun w hm=>by
    rw [aw,a1 (w.At,w.Old) (List.mem_map.2 ⟨w,hm,rfl⟩)]
    obtain ⟨_,b2,_⟩:=hb.ws w hm
    unfold cW
    rw [decide_eq_true_eq]
    exact Ydl _ _ (by simp only;omega)
   obtain ⟨s2,_⟩:=Zo6 (tr pT (K.map nrm)) (apK e.Kids) (tr pT (K.map nrm)) (List.pairwise_map.2 nk) fun w hwm v hv=>by
    obtain ⟨k,hkm,rfl⟩:=List.mem_map.1 hwm
    exact (Zwu _ k.E _ v (Nat.lt_succ_self _) (ih k hkm) (hb.ks k hkm) (gt.at_ _) hv).1.n
   obtain ⟨ks',c2,_⟩:=s2 fun w hwm=>by
    obtain ⟨k,hkm,rfl⟩:=List.mem_map.1 hwm
    simp only
    rw [ak,kid k hkm]
    obtain ⟨q1,q2⟩:=kin k hkm
    refine Z3z n k.E (d - 1) (by have:=Je hkm;omega) (hb.ks k hkm) (hg.ks k hkm) ?_ q1 q2
    simp only [Bool.and_eq_true] at hr
    exact Zph (Q:=fun k:Zd=>rE k.E (d - 1)=true) (fun p x hx=>by
     unfold okK okP at hx
     simp only [Bool.and_eq_true] at hx
     exact hx.2.2) e.Kids (-1) hr.2.2 k hkm
   rw [show (fun x:Int=>x == 0)=p0 from rfl,show (fun x:Tr=>x.Kind == 0)=pT from rfl]
   simp only
   rw [c1,Option.bind_some,c2]
   rfl
  | li _ k3 hl ho hN hT h9 ih =>
   rw [if_neg (by omega),if_neg (by omega),if_neg (by omega),if_pos k3] at hr
   simp only [Bool.and_eq_true,decide_eq_true_eq,List.all_eq_true] at hr
   have hB:=hr.2.2.2
   rw [hlens] at hB
   have hkeep:=Z02 e.Ops (0,0) ⟨⟨by decide,by decide⟩,by decide,by decide⟩ (fun o ho=>(hb.l o ho).1) hB
   have he:Zab e=⟨e.List_,[],(e.Ops.map fun o=>Zik e.List_ o (Zab o.E)).flatten⟩:=by rw [Zki,if_neg (by omega),if_neg (by omega),if_pos k3]
   have kin:∀ o∈e.Ops,o.Kind=3→Bd (Zab o.E)∧TX (Zab o.E):=fun o ho' k=>by
    have hm:Zab o.E∈(Zab e).Kids:=by
     rw [he]
     simp only [List.mem_flatten,List.mem_map]
     refine ⟨_,⟨o,ho',rfl⟩,?_⟩
     unfold Zik
     rw [if_neg (by omega),if_neg (by omega),if_pos k]
     exact .head _
    exact ⟨bt.all _ hm,tx.all _ hm⟩
   obtain ⟨out',q⟩:=Z9g (l:=e.List_) (f:=fun o=>Zab o.E) e.Ops ho hkeep (fun o ho' k=>by
    obtain ⟨q1,q2⟩:=kin o ho' k
    refine Z3z n o.E (d - 1) (by have:=Kw ho';omega) (hb.os o ho') (hg.os o ho') ?_ q1 q2
    have:=hr.2.2.1 o ho'
    unfold okO at this
    rw [if_neg (by omega),if_neg (by omega),if_pos k] at this
    simp only [Bool.and_eq_true] at this
    exact this.2.2.2.2) [] []
   rw [List.append_nil] at q
   rw [he,Ze4 (by simp only;omega) (by simp only;omega)]
   simp only
   rw [Zu8 k3,if_pos rfl,q]
   rfl
theorem Z92 {t:Tr} (h:Bd t):∃ b,Gl t=some b∧(b=true→TX t∧pt t≤3000):=by
 obtain ⟨b,h1,h2⟩:=Yij h
 have h3:=Zpx h (d:=64) (by decide)
 rw [show ((64:Nat):Int)=64 from rfl] at h3
 unfold Gl
 rw [h1,Option.bind_some,h3]
 refine ⟨b && (rt t 64 && (t.Kind != 10)),?_,fun q => ?_⟩
 ·cases b <;> cases rt t 64 <;> cases (t.Kind != 10) <;> rfl
 simp only [Bool.and_eq_true] at q
 exact ⟨Z6f _ t 64 (Nat.lt_succ_self _) q.2.1,h2 q.1⟩
theorem Zmw:Js=some true:=by
 unfold Js
 refine Option.bind_eq_some_iff.2 ⟨_,Yh9,rfl⟩
theorem Yjg {p q:Ed} (hp:MC p) (hq:MC q):∃ X b,V6 p q=some (X,b)∧(b=true→∃ e,X=nE e∧RS e p q):=by
 rcases Z7a hp hq with ⟨e,c1,c2⟩ | ⟨c1,c2⟩
 ·exact ⟨_,_,c1,fun _=>⟨e,rfl,c2⟩⟩
 exact ⟨_,_,c1,fun h=>by cases h⟩
theorem Zz6 {p q:Ed} (bp:BE p) (bq:BE q):U8 p q=some true:=by
 obtain ⟨b1,g1,g2⟩:=Z91 bp
 obtain ⟨b2,g3,g4⟩:=Z91 bq
 unfold U8
 rw [g1,Option.bind_some]
 cases b1 with
 | false=>rw [cond_false,Option.bind_some,cond_true,Zmw];rfl
 | true =>
 rw [cond_true,g3,Option.bind_some,Option.bind_some]
 cases b2 with
 | false=>rw [Zmw];rfl
 | true =>
 simp only [Bool.not_true,cond_false]
 have mp:=(g2 rfl).1
 have mq:=(g4 rfl).1
 obtain ⟨X,b,h1,h2⟩:=Yjg mp mq
 rw [h1,Option.bind_some]
 simp only
 cases b with
 | false=>rw [Bool.not_false,cond_true,Zmw];rfl
 | true =>
 rw [Bool.not_true,cond_false]
 obtain ⟨e,rfl,rs⟩:=h2 rfl
 have bX:=rs.b.nE rs.g
 have gX:=GN.nE rs.b rs.g
 have xX:=rs.z.rx.nE rs.b rs.g
 have bT:=Z76 _ (nE e) (Nat.lt_succ_self _) xX bX gX
 obtain ⟨b3,f1,f2⟩:=Z92 bT
 rw [Yg5 xX bX gX,Option.bind_some,Ybf bX,Option.bind_some]
 cases hr:rE (nE e) 64 with
 | false=>rw [cond_false,Option.bind_some,cond_true,Zmw];rfl
 | true =>
 rw [cond_true,f1,Option.bind_some,Option.bind_some,Bool.not_true,cond_false]
 cases b3 with
 | false=>rw [Bool.not_false,cond_true,Zmw];rfl
 | true =>
 rw [Bool.not_true,cond_false]
 obtain ⟨tx,pu⟩:=f2 rfl
 have gT:=GT.of bT tx
 have hd:=Z3z _ (nE e) 64 (Nat.lt_succ_self _) bX gX hr bT tx
 have caX:CA (nE e) (Zab (nE e)):=⟨xX,bX,gX,by omega,bT⟩
 have hon:=rs.on gT
 obtain ⟨w,hw⟩:=Option.isSome_iff_exists.1 hd
 rw [hw] at hon
 obtain ⟨u,hu,hu2⟩:=Option.bind_eq_some_iff.1 hon.symm
 rcases Z1s mp bT tx (by omega) with ⟨u',a1,a2,a3,a4,_⟩ | ⟨a1,a2⟩
 ·rw [hu] at a2
  cases a2
  obtain ⟨b5,k1,k2⟩:=Z92 a4
  rw [a1,Option.bind_some]
  simp only
  rw [cond_true,k1,Option.bind_some,Option.bind_some,cond_true]
  cases b5 with
  | false=>rw [Bool.not_false,cond_true,Zmw];rfl
  | true =>
  rw [Bool.not_true,cond_false]
  obtain ⟨tx2,pu2⟩:=k2 rfl
  have hnu:nrm u=u:=a3.n
  rcases Z1s mq a4 tx2 (by omega) with ⟨v,c1,c2,_⟩ | ⟨c1,c2⟩
  ·rw [c1,Option.bind_some,Zwz caX,hw,Option.bind_some]
   simp only
   rw [Zmw]
   rfl
  rw [hnu,hu2] at c2
  cases c2
 rw [hu] at a2
 cases a2
end Go.Proofs.Ytbjcopkgdjombaa
