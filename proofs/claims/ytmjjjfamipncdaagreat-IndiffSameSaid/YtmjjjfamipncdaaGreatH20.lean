/- Part H20 of the ghost memory: lemmas and contracts used by the proofs of this seat's laws; each theorem bears its own conditions. -/
import Derived.Test.YtmjjjfamipncdaaGreatH19
namespace Go.Proofs.YtmjjjfamipncdaaGreat
open Go.RowKit
set_option linter.unusedVariables false
set_option linter.unusedSimpArgs false
section
variable {P:Program} {T:J0} {O O' X X':Objs} {n n' k ba:Nat} {E E':Env} {ρ:Nat→Nat}
theorem Und.drop (hU:Und X n) (j:Nat):Und (X.upd j none) n:=by
 refine ⟨fun i hi => ?_,fun i o hi => ?_⟩
 ·by_cases e:i=j
  ·subst e;rw [Yj]
  rw [Yb _ _ e];exact hU.fresh i hi
 by_cases e:i=j
 ·subst e;rw [Yj] at hi;cases hi
 rw [Yb _ _ e] at hi;exact hU.und i o hi
def OutRen (ba:Nat) (ρ:Nat→Nat) (X X':Objs):Prop:=∀ i o',i < ba→X' i=some o'→∃ o,X i=some o∧o'.row=o.row∧o'.ty=o.ty∧o'.sz=o.sz∧o'.n=o.n∧(o'.cells=G.rens ρ o.cells∨(o'.cells=o.cells∧G.unders ba o.cells=true))
theorem OutRen.refl (hU:Und X ba):OutRen ba ρ X X:=fun i o' _ h=>⟨o',h,rfl,rfl,rfl,rfl,.inr ⟨rfl,hU.und i o' h⟩⟩
theorem OutRen.upd (h:OutRen ba ρ X X') {i:Nat} {q q':GObj} (hq:Znl ρ q q'):OutRen ba ρ (X.upd i (some q)) (X'.upd i (some q')):=fun j o' hj ho=>by
 by_cases e:j=i
 ·subst e
  rw [Yj] at ho
  injection ho with ho
  subst ho
  exact ⟨q,Yj _ _ _,hq.1,hq.2.1,hq.2.2.1,hq.2.2.2.1,.inl hq.2.2.2.2⟩
 rw [Yb _ _ e] at ho
 obtain ⟨o,h1,h2⟩:=h j o' hj ho
 exact ⟨o,by rw [Yb _ _ e];exact h1,h2⟩
theorem Z9q {l l':List (Option GObj)} {k k':Nat} (pi ta:List Nat) (hX:OutRen ba (rho ba pi) X X') (hk:l.length=k) (hk':l'.length=k') (hp:pi.length=k) (hc:Z9p pi ta (l'.map Option.isSome)=true)
  (hn:E'.n=E.n∧E'.keep=E.keep) (h:Zoa (rho ba pi) l l' ta∧Zqu (rho ba pi) E.l=E'.l):Fit2 ba E (Z3 X ba l) (ba+k) E' (Z3 X' ba l') (ba+k'):=by
 subst hk hk'
 intro w m a hM hE
 unfold Z9p at hc
 rw [Bool.and_eq_true,List.all_eq_true,List.all_eq_true] at hc
 have c1:∀ p,p < l.length→pi.getD p 0 < l'.length∧((l'.map Option.isSome).getD (pi.getD p 0) false=true→ta.getD (pi.getD p 0) 0=p):=fun p hpl=>by
  have:=hc.1 p (List.mem_range.2 (by omega))
  rw [Bool.and_eq_true,decide_eq_true_eq,List.length_map,Bool.or_eq_true,Bool.not_eq_true',beq_iff_eq] at this
  refine ⟨this.1,fun hl => ?_⟩
  rcases this.2 with h | h
  ·rw [hl] at h;cases h
  exact h
 have c2:∀ p,p < l'.length→(l'.map Option.isSome).getD p false=true→ta.getD p 0 < l.length∧pi.getD (ta.getD p 0) 0=p:=fun p hpl hl=>by
  have:=hc.2 p (List.mem_range.2 (by rw [List.length_map];exact hpl))
  rw [Bool.or_eq_true,Bool.not_eq_true',Bool.and_eq_true,decide_eq_true_eq,beq_iff_eq,hp] at this
  rcases this with h | h
  ·rw [hl] at h;cases h
  exact h
 have hR:Ren ba (rho ba pi) (Z3 X ba l) m (ba+l.length) (Z3 X' ba l') (fun j=>if j < ba then m j else m (ba+ta.getD (j - ba) 0)) (ba+l'.length):=by
  refine ⟨Nat.le_add_right _ _,fun i hi => ?_,fun j hj => ?_,fun i hi o' ho' => ?_,fun i hi o' ho' => ?_,fun j o' ho' => ?_⟩
  ·by_cases h1:i < ba
   ·rw [Zfi h1];omega
   obtain ⟨p,rfl⟩:∃ p,i=ba+p:=⟨i - ba,by omega⟩
   rw [Zf2]
   have:=(c1 p (by omega)).1
   omega
  ·unfold Z3;rw [if_neg (by omega),List.getElem?_eq_none (by omega)];rfl
  ·by_cases h1:i < ba
   ·rw [Zfi h1] at ho' ⊢
    rw [Vh _ h1] at ho'
    obtain ⟨o,g1,g2,_,_,g5,_⟩:=hX i o' h1 ho'
    exact ⟨o,by rw [Vh _ h1];exact g1,g2,g5,by rw [if_pos h1]⟩
   obtain ⟨p,rfl⟩:∃ p,i=ba+p:=⟨i - ba,by omega⟩
   rw [Zf2] at ho' ⊢
   rw [Uz] at ho'
   obtain ⟨l1,l2⟩:=Z4b ho'
   have hta:=(c1 p (by omega)).2 l2
   obtain ⟨q,q1,q2⟩:=Zik h.1 _ _ ho'
   rw [hta] at q1
   refine ⟨q,by rw [Uz];exact q1,q2.1,q2.2.2.2.1,?_⟩
   rw [if_neg (by omega),Nat.add_sub_cancel_left,hta]
  ·rw [Vh _ hi] at ho'
   obtain ⟨o,g1,g2,_,_,g5,_⟩:=hX i o' hi ho'
   exact ⟨o,by rw [Vh _ hi];exact g1,g2,g5,by rw [if_pos hi]⟩
  by_cases h1:j < ba
  ·rw [Vh _ h1] at ho'
   obtain ⟨o,g1,g2,g3,g4,g5,g6⟩:=hX j o' h1 ho'
   exact ⟨j,o,by omega,by rw [Vh _ h1];exact g1,Zfi h1,by rw [if_pos h1],g2,g3,g4,g5,g6⟩
  obtain ⟨p,rfl⟩:∃ p,j=ba+p:=⟨j - ba,by omega⟩
  rw [Uz] at ho'
  obtain ⟨l1,l2⟩:=Z4b ho'
  obtain ⟨t1,t2⟩:=c2 p l1 l2
  obtain ⟨q,q1,q2⟩:=Zik h.1 _ _ ho'
  refine ⟨ba+ta.getD p 0,q,by omega,by rw [Uz];exact q1,by rw [Zf2,t2],?_,q2.1,q2.2.1,q2.2.2.1,q2.2.2.2.1,.inl q2.2.2.2.2⟩
  rw [if_neg (by omega),Nat.add_sub_cancel_left]
 refine ⟨_,hR.mem hM,?_,hR.ext⟩
 have:=hR.holds hE
 obtain ⟨n1,k1,l1⟩:=E'
 simp only at hn h
 obtain ⟨e1,e2⟩:=hn
 rw [h.2,← e1,← e2] at this
 exact this
theorem Ge {l l':List (Option GObj)} {k k' i:Nat} {q q':GObj} (hU:Und X ba) (pi ta:List Nat) (hk:l.length=k) (hk':l'.length=k') (hp:pi.length=k) (hc:Z9p pi ta (l'.map Option.isSome)=true)
  (hn:E'.n=E.n∧E'.keep=E.keep) (h:Znl (rho ba pi) q q'∧Zoa (rho ba pi) l l' ta∧Zqu (rho ba pi) E.l=E'.l):Fit2 ba E (Z3 (X.upd i (some q)) ba l) (ba+k) E' (Z3 (X.upd i (some q')) ba l') (ba+k') :=
 Z9q pi ta ((OutRen.refl hU).upd h.1) hk hk' hp hc hn h.2
theorem Gr {r:G} {rs:List ResultVar} {i n1 n3:Nat} {q1 q':GObj} {L2 L3:List (Option GObj)} {e:Exit} {E2:Env} {O1:Objs} (he:e = .normal∨e = .ret) (hU:Und X n) (hk:L2.length=k) (gs:List G)
  (hF:Fit2 n E O1 n1 E2 (Z3 (X.upd i (some q1)) n L3) n3)
  (h:Zfs T (Z3 (X.upd i (some q1)) n L3) E2 rs=some gs∧Ziw q1 q'∧wkl (Z3 (X.upd i (some q1)) n L3) (Z3 (X.upd i (some q')) n L2) (n+k) q1.cells q'.cells∧Ziz (Z3 (X.upd i (some q1)) n L3) (Z3 (X.upd i (some q')) n L2) (n+k) L3 L2∧wk (Z3 (X.upd i (some q1)) n L3) (Z3 (X.upd i (some q')) n L2) (n+k) (Zmz gs) r) :
  Fin T rs r n (Z3 (X.upd i (some q')) n L2) (n+k) e E O1 n1 :=
 ⟨he,E2,_,n3,gs,hF,h.1,Zgg hk (OutLe.upd hU (Nat.le_add_right _ _) h.2.1 h.2.2.1) h.2.2.2.1,h.2.2.2.2⟩
theorem Ztg {r:G} {rs:List ResultVar} {n1 n3:Nat} {L2 L3:List (Option GObj)} {e:Exit} {E2:Env} {O1:Objs} (he:e = .normal∨e = .ret) (hU:Und X n) (hk:L2.length=k) (gs:List G)
  (hF:Fit2 n E O1 n1 E2 (Z3 X n L3) n3)
  (h:Zfs T (Z3 X n L3) E2 rs=some gs∧Ziz (Z3 X n L3) (Z3 X n L2) (n+k) L3 L2∧wk (Z3 X n L3) (Z3 X n L2) (n+k) (Zmz gs) r) :
  Fin T rs r n (Z3 X n L2) (n+k) e E O1 n1 :=
 ⟨he,E2,_,n3,gs,hF,h.1,Zgg hk (OutLe.refl hU (Nat.le_add_right _ _)) h.2.1,h.2.2⟩
end
end Go.Proofs.YtmjjjfamipncdaaGreat
