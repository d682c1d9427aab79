/- Part H20 of the ghost memory: lemmas and contracts used by the proofs of this seat's laws; each theorem bears its own conditions. -/
import Derived.Test.YtibgpnmmgffgeaaH19
namespace Go.Proofs.Ytibgpnmmgffgeaa
open Go.RowKit
set_option linter.unusedVariables false
set_option linter.unusedSimpArgs false
section
variable {P:Program} {T:Kv} {w:World} {O:Objs} {m:Hands} {n ba:Nat} {E:Env}
theorem Z2z (hM:Mem w O m n) {j:Nat} {q:GObj} (hj:O j=some q) :
  Mem w ((O.upd j none).upd n (some q)) (m.upd n (m j)) (n+1)∧Ext w O m n w ((O.upd j none).upd n (some q)) (m.upd n (m j)) (n+1) ∧
  ∀ k v,(G.row j k).rep w O m n v→(G.row n k).rep w ((O.upd j none).upd n (some q)) (m.upd n (m j)) (n+1) v:=by
 have hjn:j < n:=by
  rcases Nat.lt_or_ge j n with h | h
  ·exact h
  rw [hM.fresh j h] at hj;cases hj
 have hold:∀ i o,i < n→((O.upd j none).upd n (some q)) i=some o→i≠j∧O i=some o∧(m.upd n (m j)) i=m i:=fun i o hi ho=>by
  rw [Yv _ _ (by omega)] at ho
  by_cases e:i=j
  ·subst e;rw [Z8] at ho;cases ho
  rw [Yv _ _ e] at ho
  exact ⟨e,ho,Zjd _ _ (by omega)⟩
 have hnew:∀ i o,((O.upd j none).upd n (some q)) i=some o→(i < n∧i≠j∧O i=some o∧(m.upd n (m j)) i=m i)∨(i=n∧o=q∧(m.upd n (m j)) i=m j):=fun i o ho=>by
  by_cases e:i=n
  ·subst e
   rw [Z8] at ho
   injection ho with ho
   exact .inr ⟨rfl,ho.symm,Zan _ _ _⟩
  have hi:i < n:=by
   rcases Nat.lt_or_ge i n with h | h
   ·exact h
   rw [Yv _ _ e] at ho
   by_cases e2:i=j
   ·subst e2;rw [Z8] at ho;cases ho
   rw [Yv _ _ e2,hM.fresh i h] at ho;cases ho
  exact .inl ⟨hi,hold i o hi ho⟩
 have hown:∀ b,owns ((O.upd j none).upd n (some q)) (m.upd n (m j)) b→owns O m b:=fun b ⟨i,o,h1,h2⟩=>by
  rcases hnew i o h1 with ⟨_,_,h3,h4⟩ | ⟨_,_,h4⟩
  ·exact ⟨i,o,h3,by rw [← h4];exact h2⟩
  exact ⟨j,q,hj,by rw [← h4];exact h2⟩
 have hX:Ext w O m n w ((O.upd j none).upd n (some q)) (m.upd n (m j)) (n+1) :=
  ⟨rfl,rfl,rfl,Nat.le_refl _,Nat.le_succ _,fun b _ ho=>⟨rfl,fun h=>ho (hown b h)⟩,fun i hi o ho=>by
   obtain ⟨_,h1,h2⟩:=hold i o hi ho
   exact ⟨o,h1,rfl,Nat.le_refl _,fun _=>h2⟩⟩
 refine ⟨⟨fun i hi => ?_,fun i o ho => ?_,fun a b oa ob c ha hb h1 h2 => ?_⟩,hX,fun k v hr => ?_⟩
 ·rw [Yv _ _ (by omega),Yv _ _ (by omega)];exact hM.fresh i (by omega)
 ·rcases hnew i o ho with ⟨_,_,h3,h4⟩ | ⟨_,h3,h4⟩
  ·obtain ⟨vs,hr,hx⟩:=hM.obj i o h3
   exact ⟨vs,G.reps_ext hX _ _ hr,by rw [h4];exact hx⟩
  subst h3
  obtain ⟨vs,hr,hx⟩:=hM.obj j o hj
  exact ⟨vs,G.reps_ext hX _ _ hr,by rw [h4];exact hx⟩
 ·rcases hnew a oa ha with ⟨a1,a2,a3,a4⟩ | ⟨a1,a2,a4⟩ <;> rcases hnew b ob hb with ⟨b1,b2,b3,b4⟩ | ⟨b1,b2,b4⟩
  ·exact hM.apart a b oa ob c a3 b3 (by rw [← a4];exact h1) (by rw [← b4];exact h2)
  ·exact absurd (hM.apart a j oa q c a3 hj (by rw [← a4];exact h1) (by rw [← b4];exact h2)) a2
  ·exact absurd (hM.apart b j ob q c b3 hj (by rw [← b4];exact h2) (by rw [← a4];exact h1)) b2
  rw [a1,b1]
 simp only [G.rep] at hr ⊢
 refine ⟨Nat.lt_succ_self _,hr.2.1,fun o ho => ?_⟩
 rw [Z8] at ho
 injection ho with ho
 subst ho
 rw [Zan]
 exact hr.2.2 q hj
theorem Z3f (hM:Mem w O m n) {p:Nat} {q q':GObj} (hp:O p=some q) (h1:q'.row=q.row) (h4:q'.n=q.n) (hl:q'.lies w O m n (m p)) :
  Mem w (O.upd p (some q')) m n∧Ext w O m n w (O.upd p (some q')) m n:=by
 have hpn:p < n:=by
  rcases Nat.lt_or_ge p n with h | h
  ·exact h
  rw [hM.fresh p h] at hp;cases hp
 have hold:∀ i o',(O.upd p (some q')) i=some o'→∃ o,O i=some o∧o'.row=o.row∧o'.n=o.n:=fun i o' hi=>by
  by_cases e:i=p
  ·subst e;rw [Z8] at hi;injection hi with hi;subst hi;exact ⟨q,hp,h1,h4⟩
  rw [Yv _ _ e] at hi;exact ⟨o',hi,rfl,rfl⟩
 have hrep:∀ (gs:List G) (vs:List Value),G.reps w O m n gs vs→G.reps w (O.upd p (some q')) m n gs vs:=fun gs vs h=>Zc3 hold gs vs h (Zaw gs vs h)
 refine ⟨⟨fun i hi => ?_,fun i o' hi => ?_,fun i j oi oj b hi hj => ?_⟩,⟨rfl,rfl,rfl,Nat.le_refl _,Nat.le_refl _,fun b _ ho=>⟨rfl,fun ⟨i,o',hi,hb⟩ => ?_⟩,fun i _ o' hi => ?_⟩⟩
 ·rw [Yv _ _ (by omega)];exact hM.fresh i hi
 ·by_cases e:i=p
  ·subst e
   rw [Z8] at hi
   injection hi with hi
   subst hi
   obtain ⟨vs,hr,hx⟩:=hl
   exact ⟨vs,hrep _ _ hr,hx⟩
  rw [Yv _ _ e] at hi
  obtain ⟨vs,hr,hx⟩:=hM.obj i o' hi
  exact ⟨vs,hrep _ _ hr,hx⟩
 ·obtain ⟨o1,e1,_⟩:=hold i oi hi
  obtain ⟨o2,e2,_⟩:=hold j oj hj
  exact hM.apart i j o1 o2 b e1 e2
 ·obtain ⟨o1,e1,_⟩:=hold i o' hi
  exact ho ⟨i,o1,e1,hb⟩
 obtain ⟨o1,e1,e2,e3⟩:=hold i o' hi
 exact ⟨o1,e1,e2,Nat.le_of_eq e3.symm,fun _=>rfl⟩
theorem Jv {i j k len:Nat} {q qj:GObj} (hi:O i=some q) (hk:q.cells[k]? = some (.row j len)) (hj:O j=some qj) (hij:i≠j) (hb:ba≤n) :
  Fit2 ba E O n E (((O.upd j none).upd n (some qj)).upd i (some ⟨q.row,q.ty,q.sz,q.n,q.cells.set k (.row n len)⟩)) (n+1):=fun w m a hM hE=>by
 have hin:i≠n:=fun e=>by rw [e,hM.fresh n (Nat.le_refl _)] at hi;cases hi
 obtain ⟨h1,h2,h3⟩:=Z2z hM hj
 have hi':((O.upd j none).upd n (some qj)) i=some q:=by rw [Yv _ _ hin,Yv _ _ hij];exact hi
 obtain ⟨vs,hr,hx⟩:=hM.obj i q hi
 obtain ⟨v,hv,hrv⟩:=Zm5 _ _ hr k _ hk
 have hr':=Zvz q.cells vs k (.row n len) v (G.reps_ext h2 _ _ hr) (h3 len v hrv)
 rw [Zv6 hv] at hr'
 obtain ⟨h4,h5⟩:=Z3f (q':=⟨q.row,q.ty,q.sz,q.n,q.cells.set k (.row n len)⟩) h1 hi' rfl rfl ⟨vs,hr',by rw [Zjd _ _ hin];exact hx⟩
 have hX:=h2.trans h5
 exact ⟨_,h4,hE.ext hX,hX.base hb⟩
theorem Z85 {j len:Nat} {q:GObj} (s:Tmp) (hs:Jw E.l s = .row j len) (hj:O j=some q) (hb:ba≤n) :
  Fit2 ba E O n ⟨E.n,E.keep,(s,.row n len)::E.l⟩ ((O.upd j none).upd n (some q)) (n+1):=fun w m a hM hE=>by
 obtain ⟨h1,h2,h3⟩:=Z2z hM hj
 refine ⟨_,h1,⟨hE.size,fun t v hv => ?_,fun t ht => ?_,hE.defers⟩,h2.base hb⟩
 ·simp only [Jw]
  split
  ·rename_i e
   subst e
   have:=hE.at_ t v hv
   rw [hs] at this
   exact h3 len v this
  exact G.rep_ext h2 _ _ (hE.at_ t v hv)
 simp only [Jw]
 split
 ·rename_i e
  subst e
  have:=hE.out t ht
  rw [hs] at this;cases this
 exact hE.out t ht
end
section
variable {P:Program} {T:Kv} {O O' X X':Objs} {n n' k ba:Nat} {E E':Env} {ρ:Nat→Nat}
theorem Und.drop (hU:Und X n) (j:Nat):Und (X.upd j none) n:=by
 refine ⟨fun i hi => ?_,fun i o hi => ?_⟩
 ·by_cases e:i=j
  ·subst e;rw [Z8]
  rw [Yv _ _ e];exact hU.fresh i hi
 by_cases e:i=j
 ·subst e;rw [Z8] at hi;cases hi
 rw [Yv _ _ e] at hi;exact hU.und i o hi
def OutRen (ba:Nat) (ρ:Nat→Nat) (X X':Objs):Prop:=∀ i o',i < ba→X' i=some o'→∃ o,X i=some o∧o'.row=o.row∧o'.ty=o.ty∧o'.sz=o.sz∧o'.n=o.n∧(o'.cells=G.rens ρ o.cells∨(o'.cells=o.cells∧G.unders ba o.cells=true))
theorem OutRen.refl (hU:Und X ba):OutRen ba ρ X X:=fun i o' _ h=>⟨o',h,rfl,rfl,rfl,rfl,.inr ⟨rfl,hU.und i o' h⟩⟩
theorem OutRen.upd (h:OutRen ba ρ X X') {i:Nat} {q q':GObj} (hq:Zmj ρ q q'):OutRen ba ρ (X.upd i (some q)) (X'.upd i (some q')):=fun j o' hj ho=>by
 by_cases e:j=i
 ·subst e
  rw [Z8] at ho
  injection ho with ho
  subst ho
  exact ⟨q,Z8 _ _ _,hq.1,hq.2.1,hq.2.2.1,hq.2.2.2.1,.inl hq.2.2.2.2⟩
 rw [Yv _ _ e] at ho
 obtain ⟨o,h1,h2⟩:=h j o' hj ho
 exact ⟨o,by rw [Yv _ _ e];exact h1,h2⟩
theorem Z3d {l l':List (Option GObj)} {k k':Nat} (pi ta:List Nat) (hX:OutRen ba (rho ba pi) X X') (hk:l.length=k) (hk':l'.length=k') (hp:pi.length=k) (hc:Z80 pi ta (l'.map Option.isSome)=true)
  (hn:E'.n=E.n∧E'.keep=E.keep) (h:Zsa (rho ba pi) l l' ta∧Zvx (rho ba pi) E.l=E'.l):Fit2 ba E (Zq X ba l) (ba+k) E' (Zq X' ba l') (ba+k'):=by
 subst hk hk'
 intro w m a hM hE
 unfold Z80 at hc
 rw [Bool.and_eq_true,List.all_eq_true,List.all_eq_true] at hc
 have c1:∀ p,p < l.length→pi.getD p 0 < l'.length∧((l'.map Option.isSome).getD (pi.getD p 0) false=true→ta.getD (pi.getD p 0) 0=p):=fun p hpl=>by
  have:=hc.1 p (List.mem_range.2 (by omega))
  rw [Bool.and_eq_true,decide_eq_true_eq,List.length_map,Bool.or_eq_true,Bool.not_eq_true',beq_iff_eq] at this
  refine ⟨this.1,fun hl => ?_⟩
  rcases this.2 with h | h
  ·rw [hl] at h;cases h
  exact h
 have c2:∀ p,p < l'.length→(l'.map Option.isSome).getD p false=true→ta.getD p 0 < l.length∧pi.getD (ta.getD p 0) 0=p:=fun p hpl hl=>by
  have:=hc.2 p (List.mem_range.2 (by rw [List.length_map];exact hpl))
  rw [Bool.or_eq_true,Bool.not_eq_true',Bool.and_eq_true,decide_eq_true_eq,beq_iff_eq,hp] at this
  rcases this with h | h
  ·rw [hl] at h;cases h
  exact h
 have hR:Ren ba (rho ba pi) (Zq X ba l) m (ba+l.length) (Zq X' ba l') (fun j=>if j < ba then m j else m (ba+ta.getD (j - ba) 0)) (ba+l'.length):=by
  refine ⟨Nat.le_add_right _ _,fun i hi => ?_,fun j hj => ?_,fun i hi o' ho' => ?_,fun i hi o' ho' => ?_,fun j o' ho' => ?_⟩
  ·by_cases h1:i < ba
   ·rw [Zh4 h1];omega
   obtain ⟨p,rfl⟩:∃ p,i=ba+p:=⟨i - ba,by omega⟩
   rw [Zjv]
   have:=(c1 p (by omega)).1
   omega
  ·unfold Zq;rw [if_neg (by omega),List.getElem?_eq_none (by omega)];rfl
  ·by_cases h1:i < ba
   ·rw [Zh4 h1] at ho' ⊢
    rw [Yf _ h1] at ho'
    obtain ⟨o,g1,g2,_,_,g5,_⟩:=hX i o' h1 ho'
    exact ⟨o,by rw [Yf _ h1];exact g1,g2,g5,by rw [if_pos h1]⟩
   obtain ⟨p,rfl⟩:∃ p,i=ba+p:=⟨i - ba,by omega⟩
   rw [Zjv] at ho' ⊢
   rw [Ge] at ho'
   obtain ⟨l1,l2⟩:=Z66 ho'
   have hta:=(c1 p (by omega)).2 l2
   obtain ⟨q,q1,q2⟩:=Zkz h.1 _ _ ho'
   rw [hta] at q1
   refine ⟨q,by rw [Ge];exact q1,q2.1,q2.2.2.2.1,?_⟩
   rw [if_neg (by omega),Nat.add_sub_cancel_left,hta]
  ·rw [Yf _ hi] at ho'
   obtain ⟨o,g1,g2,_,_,g5,_⟩:=hX i o' hi ho'
   exact ⟨o,by rw [Yf _ hi];exact g1,g2,g5,by rw [if_pos hi]⟩
  by_cases h1:j < ba
  ·rw [Yf _ h1] at ho'
   obtain ⟨o,g1,g2,g3,g4,g5,g6⟩:=hX j o' h1 ho'
   exact ⟨j,o,by omega,by rw [Yf _ h1];exact g1,Zh4 h1,by rw [if_pos h1],g2,g3,g4,g5,g6⟩
  obtain ⟨p,rfl⟩:∃ p,j=ba+p:=⟨j - ba,by omega⟩
  rw [Ge] at ho'
  obtain ⟨l1,l2⟩:=Z66 ho'
  obtain ⟨t1,t2⟩:=c2 p l1 l2
  obtain ⟨q,q1,q2⟩:=Zkz h.1 _ _ ho'
  refine ⟨ba+ta.getD p 0,q,by omega,by rw [Ge];exact q1,by rw [Zjv,t2],?_,q2.1,q2.2.1,q2.2.2.1,q2.2.2.2.1,.inl q2.2.2.2.2⟩
  rw [if_neg (by omega),Nat.add_sub_cancel_left]
 refine ⟨_,hR.mem hM,?_,hR.ext⟩
 have:=hR.holds hE
 obtain ⟨n1,k1,l1⟩:=E'
 simp only at hn h
 obtain ⟨e1,e2⟩:=hn
 rw [h.2,← e1,← e2] at this
 exact this
theorem X3 {l l':List (Option GObj)} {k k' i:Nat} {q q':GObj} (hU:Und X ba) (pi ta:List Nat) (hk:l.length=k) (hk':l'.length=k') (hp:pi.length=k) (hc:Z80 pi ta (l'.map Option.isSome)=true)
  (hn:E'.n=E.n∧E'.keep=E.keep) (h:Zmj (rho ba pi) q q'∧Zsa (rho ba pi) l l' ta∧Zvx (rho ba pi) E.l=E'.l):Fit2 ba E (Zq (X.upd i (some q)) ba l) (ba+k) E' (Zq (X.upd i (some q')) ba l') (ba+k') :=
 Z3d pi ta ((OutRen.refl hU).upd h.1) hk hk' hp hc hn h.2
theorem Ja {r:G} {rs:List ResultVar} {i n1 n3:Nat} {q1 q':GObj} {L2 L3:List (Option GObj)} {e:Exit} {E2:Env} {O1:Objs} (he:e = .normal∨e = .ret) (hU:Und X n) (hk:L2.length=k) (gs:List G)
  (hF:Fit2 n E O1 n1 E2 (Zq (X.upd i (some q1)) n L3) n3)
  (h:Zlf T (Zq (X.upd i (some q1)) n L3) E2 rs=some gs∧Zga q1 q'∧U8 (Zq (X.upd i (some q1)) n L3) (Zq (X.upd i (some q')) n L2) (n+k) q1.cells q'.cells∧Zlw (Zq (X.upd i (some q1)) n L3) (Zq (X.upd i (some q')) n L2) (n+k) L3 L2∧wk (Zq (X.upd i (some q1)) n L3) (Zq (X.upd i (some q')) n L2) (n+k) (gone gs) r) :
  Fin T rs r n (Zq (X.upd i (some q')) n L2) (n+k) e E O1 n1 :=
 ⟨he,E2,_,n3,gs,hF,h.1,Zhb hk (OutLe.upd hU (Nat.le_add_right _ _) h.2.1 h.2.2.1) h.2.2.2.1,h.2.2.2.2⟩
theorem Zlv {r:G} {rs:List ResultVar} {n1 n3:Nat} {L2 L3:List (Option GObj)} {e:Exit} {E2:Env} {O1:Objs} (he:e = .normal∨e = .ret) (hU:Und X n) (hk:L2.length=k) (gs:List G)
  (hF:Fit2 n E O1 n1 E2 (Zq X n L3) n3)
  (h:Zlf T (Zq X n L3) E2 rs=some gs∧Zlw (Zq X n L3) (Zq X n L2) (n+k) L3 L2∧wk (Zq X n L3) (Zq X n L2) (n+k) (gone gs) r) :
  Fin T rs r n (Zq X n L2) (n+k) e E O1 n1 :=
 ⟨he,E2,_,n3,gs,hF,h.1,Zhb hk (OutLe.refl hU (Nat.le_add_right _ _)) h.2.1,h.2.2⟩
end
theorem Zax {X:Objs} {i j:Nat} {a b c:Option GObj} (h:i≠j):((X.upd i a).upd j b).upd i c=(X.upd j b).upd i c:=by
 funext k
 unfold Objs.upd
 by_cases h1:k=i
 ·subst h1;simp
 simp [h1]
end Go.Proofs.Ytibgpnmmgffgeaa
