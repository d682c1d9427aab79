/- Part H19 of the ghost memory: lemmas and contracts used by the proofs of this seat's laws; each theorem bears its own conditions. -/
import Derived.Test.YtibgpnmmgffgeaaH17
namespace Go.Proofs.Ytibgpnmmgffgeaa
open Go.RowKit
set_option linter.unusedVariables false
set_option linter.unusedSimpArgs false
mutual
/-- under other numbers -/
def G.ren (ρ:Nat→Nat):G→G
 | .any => .any
 | .val v => .val v
 | .agg cs => .agg (G.rens ρ cs)
 | .tup cs => .tup (G.rens ρ cs)
 | .sl k cs => .sl k (G.rens ρ cs)
 | .ip cs k => .ip (G.rens ρ cs) k
 | .row i k => .row (ρ i) k
 | .rs i o k => .rs (ρ i) o k
 | .rp i k o => .rp (ρ i) k o
 | .rl i k o l => .rl (ρ i) k o l
 | .ref i o => .ref (ρ i) o
 | .fn f k cs => .fn f k (G.rens ρ cs)
 | .when b g => .when b (G.ren ρ g)
def G.rens (ρ:Nat→Nat):List G→List G
 | []=>[]
 | g::gs=>G.ren ρ g::G.rens ρ gs
end
mutual
theorem Zav (ρ:Nat→Nat):∀ g:G,g.pure=true→g.ren ρ=g
 | .any,_=>rfl
 | .val _,_=>rfl
 | .agg cs,h=>by simp only [G.pure] at h;simp only [G.ren,Kb ρ cs h]
 | .tup cs,h=>by simp only [G.pure] at h;simp only [G.ren,Kb ρ cs h]
 | .sl _ cs,h=>by simp only [G.pure] at h;simp only [G.ren,Kb ρ cs h]
 | .ip cs _,h=>by simp only [G.pure] at h;simp only [G.ren,Kb ρ cs h]
 | .fn _ _ cs,h=>by simp only [G.pure] at h;simp only [G.ren,Kb ρ cs h]
 | .row ..,h=>by simp [G.pure] at h
 | .rs ..,h=>by simp [G.pure] at h
 | .rp ..,h=>by simp [G.pure] at h
 | .rl ..,h=>by simp [G.pure] at h
 | .ref ..,h=>by simp [G.pure] at h
 | .when _ g,h=>by simp only [G.pure] at h;simp only [G.ren,Zav ρ g h]
theorem Kb (ρ:Nat→Nat):∀ gs:List G,G.pures gs=true→G.rens ρ gs=gs
 | [],_=>rfl
 | g::gs,h=>by
  simp only [G.pures,Bool.and_eq_true] at h
  simp only [G.rens,Zav ρ g h.1,Kb ρ gs h.2]
end
section
variable {w:World} {O O':Objs} {m m':Hands} {n n' ba:Nat} {ρ:Nat→Nat}
structure Ren (ba:Nat) (ρ:Nat→Nat) (O:Objs) (m:Hands) (n:Nat) (O':Objs) (m':Hands) (n':Nat):Prop where
 base:ba≤n'
 low:∀ i,i < n→ρ i < n'
 fresh:∀ j,n'≤j→O' j=none
 at_:∀ i,i < n→∀ o',O' (ρ i)=some o'→∃ o,O i=some o∧o'.row=o.row∧o'.n=o.n∧m' (ρ i)=m i
 old:∀ i,i < ba→∀ o',O' i=some o'→∃ o,O i=some o∧o'.row=o.row∧o'.n=o.n∧m' i=m i
 src:∀ j o',O' j=some o'→∃ i o,i < n∧O i=some o∧ρ i=j∧m' j=m i∧o'.row=o.row∧o'.ty=o.ty∧o'.sz=o.sz∧o'.n=o.n∧(o'.cells=G.rens ρ o.cells∨(o'.cells=o.cells∧G.unders ba o.cells=true))
theorem Ren.owns (h:Ren ba ρ O m n O' m' n') {b:Nat} (ho:owns O' m' b):owns O m b:=by
 obtain ⟨j,o',h1,h2⟩:=ho
 obtain ⟨i,o,g1,g2,g3,g4,_⟩:=h.src j o' h1
 exact ⟨i,o,g2,by rw [← g4];exact h2⟩
mutual
theorem Z0p (h:Ren ba ρ O m n O' m' n'):∀ (g:G) (v:Value),g.rep w O m n v→(g.ren ρ).rep w O' m' n' v
 | .any,_,_=>by simp [G.ren,G.rep]
 | .val _,_,hr=>by simpa [G.ren,G.rep] using hr
 | .agg cs,v,hr=>by simp only [G.rep] at hr;simp only [G.ren,G.rep];obtain ⟨vs,e,hs⟩:=hr;exact ⟨vs,e,Zit h cs _ hs⟩
 | .tup cs,v,hr=>by simp only [G.rep] at hr;simp only [G.ren,G.rep];obtain ⟨vs,e,hs⟩:=hr;exact ⟨vs,e,Zit h cs _ hs⟩
 | .fn _ _ cs,v,hr=>by simp only [G.rep] at hr;simp only [G.ren,G.rep];obtain ⟨vs,e,hs⟩:=hr;exact ⟨vs,e,Zit h cs _ hs⟩
 | .sl k cs,v,hr=>by
  simp only [G.rep] at hr
  simp only [G.ren,G.rep]
  obtain ⟨A,c,e,hc,vs,hs,ha⟩:=hr
  exact ⟨A,c,e,hc,vs,Zit h cs _ hs,fun hk=>by obtain ⟨g,off,e1,e2,e3,e4⟩:=ha hk;exact ⟨g,off,e1,e2,fun q=>e3 (h.owns q),e4⟩⟩
 | .ip cs k,v,hr=>by
  simp only [G.rep] at hr
  simp only [G.ren,G.rep]
  obtain ⟨g,off,e,e2,e3,vs,hs,hc⟩:=hr
  exact ⟨g,off,e,e2,fun q=>e3 (h.owns q),vs,Zit h cs _ hs,hc⟩
 | .row i k,v,hr=>by
  simp only [G.rep] at hr
  simp only [G.ren,G.rep]
  refine ⟨h.low i hr.1,hr.2.1,fun o' ho' => ?_⟩
  obtain ⟨o,g1,g2,g3,g4⟩:=h.at_ i hr.1 o' ho'
  rw [g2,g3,g4];exact hr.2.2 o g1
 | .rs i off k,v,hr=>by
  simp only [G.rep] at hr
  simp only [G.ren,G.rep]
  refine ⟨h.low i hr.1,hr.2.1,fun o' ho' hrow => ?_⟩
  obtain ⟨o,g1,g2,g3,g4⟩:=h.at_ i hr.1 o' ho'
  rw [g4];exact hr.2.2 o g1 (by rw [← g2];exact hrow)
 | .rp i k off,v,hr=>by
  simp only [G.rep] at hr
  simp only [G.ren,G.rep]
  refine ⟨h.low i hr.1,hr.2.1,fun o' ho' => ?_⟩
  obtain ⟨o,g1,g2,g3,g4⟩:=h.at_ i hr.1 o' ho'
  rw [g2,g3,g4];exact hr.2.2 o g1
 | .rl i k off len,v,hr=>by
  simp only [G.rep] at hr
  simp only [G.ren,G.rep]
  refine ⟨h.low i hr.1,hr.2.1,fun o' ho' => ?_⟩
  obtain ⟨o,g1,g2,g3,g4⟩:=h.at_ i hr.1 o' ho'
  rw [g2,g3,g4];exact hr.2.2 o g1
 | .ref i off,v,hr=>by
  simp only [G.rep] at hr
  simp only [G.ren,G.rep]
  refine ⟨h.low i hr.1,hr.2.1,fun o' ho' hrow => ?_⟩
  obtain ⟨o,g1,g2,g3,g4⟩:=h.at_ i hr.1 o' ho'
  rw [g4];exact hr.2.2 o g1 (by rw [← g2];exact hrow)
 | .when b g,v,hr=>by
  simp only [G.rep] at hr
  simp only [G.ren,G.rep]
  exact ⟨fun hb=>Z0p h g v (hr.1 hb),hr.2⟩
theorem Zit (h:Ren ba ρ O m n O' m' n'):∀ (gs:List G) (vs:List Value),G.reps w O m n gs vs→G.reps w O' m' n' (G.rens ρ gs) vs
 | [],vs,hr=>by simpa [G.rens,G.reps] using hr
 | g::gs,vs,hr=>by
  simp only [G.reps] at hr
  simp only [G.rens,G.reps]
  obtain ⟨u,us,e,h1,h2⟩:=hr
  exact ⟨u,us,e,Z0p h g u h1,Zit h gs us h2⟩
end
mutual
theorem Z7i (h:Ren ba ρ O m n O' m' n'):∀ (g:G) (v:Value),g.rep w O m n v→g.under ba=true→g.rep w O' m' n' v
 | .any,_,_,_=>by simp [G.rep]
 | .val _,_,hr,_=>by simpa [G.rep] using hr
 | .agg cs,v,hr,hu=>by simp only [G.rep] at hr ⊢;obtain ⟨vs,e,hs⟩:=hr;exact ⟨vs,e,Zis h cs _ hs hu⟩
 | .tup cs,v,hr,hu=>by simp only [G.rep] at hr ⊢;obtain ⟨vs,e,hs⟩:=hr;exact ⟨vs,e,Zis h cs _ hs hu⟩
 | .fn _ _ cs,v,hr,hu=>by simp only [G.rep] at hr ⊢;obtain ⟨vs,e,hs⟩:=hr;exact ⟨vs,e,Zis h cs _ hs hu⟩
 | .sl k cs,v,hr,hu=>by
  simp only [G.rep] at hr ⊢
  obtain ⟨A,c,e,hc,vs,hs,ha⟩:=hr
  exact ⟨A,c,e,hc,vs,Zis h cs _ hs hu,fun hk=>by obtain ⟨g,off,e1,e2,e3,e4⟩:=ha hk;exact ⟨g,off,e1,e2,fun q=>e3 (h.owns q),e4⟩⟩
 | .ip cs k,v,hr,hu=>by
  simp only [G.rep] at hr ⊢
  obtain ⟨g,off,e,e2,e3,vs,hs,hc⟩:=hr
  exact ⟨g,off,e,e2,fun q=>e3 (h.owns q),vs,Zis h cs _ hs hu,hc⟩
 | .row i k,v,hr,hu=>by
  have hi:i < ba:=by simpa [G.under] using hu
  simp only [G.rep] at hr ⊢
  refine ⟨Nat.lt_of_lt_of_le hi h.base,hr.2.1,fun o' ho' => ?_⟩
  obtain ⟨o,g1,g2,g3,g4⟩:=h.old i hi o' ho'
  rw [g2,g3,g4];exact hr.2.2 o g1
 | .rs i off k,v,hr,hu=>by
  have hi:i < ba:=by simpa [G.under] using hu
  simp only [G.rep] at hr ⊢
  refine ⟨Nat.lt_of_lt_of_le hi h.base,hr.2.1,fun o' ho' hrow => ?_⟩
  obtain ⟨o,g1,g2,g3,g4⟩:=h.old i hi o' ho'
  rw [g4];exact hr.2.2 o g1 (by rw [← g2];exact hrow)
 | .rp i k off,v,hr,hu=>by
  have hi:i < ba:=by simpa [G.under] using hu
  simp only [G.rep] at hr ⊢
  refine ⟨Nat.lt_of_lt_of_le hi h.base,hr.2.1,fun o' ho' => ?_⟩
  obtain ⟨o,g1,g2,g3,g4⟩:=h.old i hi o' ho'
  rw [g2,g3,g4];exact hr.2.2 o g1
 | .rl i k off len,v,hr,hu=>by
  have hi:i < ba:=by simpa [G.under] using hu
  simp only [G.rep] at hr ⊢
  refine ⟨Nat.lt_of_lt_of_le hi h.base,hr.2.1,fun o' ho' => ?_⟩
  obtain ⟨o,g1,g2,g3,g4⟩:=h.old i hi o' ho'
  rw [g2,g3,g4];exact hr.2.2 o g1
 | .ref i off,v,hr,hu=>by
  have hi:i < ba:=by simpa [G.under] using hu
  simp only [G.rep] at hr ⊢
  refine ⟨Nat.lt_of_lt_of_le hi h.base,hr.2.1,fun o' ho' hrow => ?_⟩
  obtain ⟨o,g1,g2,g3,g4⟩:=h.old i hi o' ho'
  rw [g4];exact hr.2.2 o g1 (by rw [← g2];exact hrow)
 | .when b g,v,hr,hu=>by
  simp only [G.rep] at hr ⊢
  exact ⟨fun hb=>Z7i h g v (hr.1 hb) (by subst hb;simpa [G.under] using hu),hr.2⟩
theorem Zis (h:Ren ba ρ O m n O' m' n'):∀ (gs:List G) (vs:List Value),G.reps w O m n gs vs→G.unders ba gs=true→G.reps w O' m' n' gs vs
 | [],_,hr,_=>by simpa [G.reps] using hr
 | g::gs,vs,hr,hu=>by
  simp only [G.unders,Bool.and_eq_true] at hu
  simp only [G.reps] at hr ⊢
  obtain ⟨u,us,e,h1,h2⟩:=hr
  exact ⟨u,us,e,Z7i h g u h1 hu.1,Zis h gs us h2 hu.2⟩
end
theorem Ren.mem (h:Ren ba ρ O m n O' m' n') (hM:Mem w O m n):Mem w O' m' n':=by
 refine ⟨h.fresh,fun j o' hj => ?_,fun i j oi oj b hi hj h1 h2 => ?_⟩
 ·obtain ⟨i,o,g1,g2,g3,g4,g5,g6,g7,g8,g9⟩:=h.src j o' hj
  obtain ⟨vs,hr,hx⟩:=hM.obj i o g2
  refine ⟨vs,?_,by rw [g5,g6,g7,g8,g4];exact hx⟩
  rcases g9 with e | ⟨e,hu⟩
  ·rw [e];exact Zit h _ _ hr
  rw [e];exact Zis h _ _ hr hu
 obtain ⟨i1,o1,a1,a2,a3,a4,_⟩:=h.src i oi hi
 obtain ⟨j1,o2,b1,b2,b3,b4,_⟩:=h.src j oj hj
 have:=hM.apart i1 j1 o1 o2 b a2 b2 (by rw [← a4];exact h1) (by rw [← b4];exact h2)
 rw [← a3,← b3,this]
theorem Ren.ext (h:Ren ba ρ O m n O' m' n'):Ext w O m ba w O' m' n' :=
 ⟨rfl,rfl,rfl,Nat.le_refl _,h.base,fun b _ ho=>⟨rfl,fun q=>ho (h.owns q)⟩,fun i hi o' ho'=>by
  obtain ⟨o,g1,g2,g3,g4⟩:=h.old i hi o' ho'
  exact ⟨o,g1,g2,Nat.le_of_eq g3.symm,fun _=>g4⟩⟩
def Zvx (ρ:Nat→Nat):List (Nat×G)→List (Nat×G)
 | []=>[]
 | (t,g)::l=>(t,g.ren ρ)::Zvx ρ l
theorem Zu9:∀ (l:List (Nat×G)) (t:Nat),Jw (Zvx ρ l) t=(Jw l t).ren ρ
 | [],t=>rfl
 | (t',g)::l,t=>by
  simp only [Zvx,Jw]
  split
  ·rfl
  exact Zu9 l t
theorem Yd9 {g:G} (h:g = .any):g.ren ρ = .any:=by subst h;rfl
theorem Ren.holds (h:Ren ba ρ O m n O' m' n') {E:Env} {a:Act} (hE:Holds w O m n E a):Holds w O' m' n' ⟨E.n,E.keep,Zvx ρ E.l⟩ a :=
 ⟨hE.size,fun t v hv=>by simp only [Zu9];exact Z0p h _ _ (hE.at_ t v hv),fun t ht=>by simp only [Zu9];exact Yd9 (hE.out t ht),hE.defers⟩
def rho (ba:Nat) (pi:List Nat) (i:Nat):Nat:=if i < ba then i else ba+pi.getD (i - ba) 0
theorem Zh4 {pi:List Nat} {i:Nat} (h:i < ba):rho ba pi i=i:=by unfold rho;rw [if_pos h]
theorem Zjv (pi:List Nat) (k:Nat):rho ba pi (ba+k)=ba+pi.getD k 0:=by unfold rho;rw [if_neg (by omega),Nat.add_sub_cancel_left]
theorem Z0q (pi:List Nat):rho ba pi ba=ba+pi.getD 0 0:=Zjv pi 0
def Zmj (ρ:Nat→Nat) (q:GObj) (q':GObj):Prop:=q'.row=q.row∧q'.ty=q.ty∧q'.sz=q.sz∧q'.n=q.n∧q'.cells=G.rens ρ q.cells
def Zsa (ρ:Nat→Nat) (l:List (Option GObj)):List (Option GObj)→List Nat→Prop
 | [],_=>True
 | none::l',_::ta=>Zsa ρ l l' ta
 | some q'::l',t::ta=>(match l[t]? with
  | some (some q)=>Zmj ρ q q'
  | _=>False)∧Zsa ρ l l' ta
 | none::l',[]=>Zsa ρ l l' []
 | some _::_,[]=>False
theorem Zkz {l:List (Option GObj)}:∀ {l':List (Option GObj)} {ta:List Nat},Zsa ρ l l' ta→∀ (p:Nat) (q':GObj),(l'[p]?).join=some q'→∃ q,(l[ta.getD p 0]?).join=some q∧Zmj ρ q q'
 | [],ta,h,p,q',hq=>by simp at hq
 | none::l',[],h,p,q',hq=>by
  cases p with
  | zero=>simp at hq
  | succ p=>obtain ⟨q,h1,h2⟩:=Zkz (l':=l') (ta:=[]) h p q' (by simpa using hq);exact ⟨q,by simpa using h1,h2⟩
 | none::l',t::ta,h,p,q',hq=>by
  cases p with
  | zero=>simp at hq
  | succ p=>obtain ⟨q,h1,h2⟩:=Zkz (l':=l') (ta:=ta) h p q' (by simpa using hq);exact ⟨q,by simpa using h1,h2⟩
 | some x::l',[],h,p,q',hq=>by simp only [Zsa] at h
 | some x::l',t::ta,h,p,q',hq=>by
  simp only [Zsa] at h
  cases p with
  | zero =>
   have hx:x=q':=by simpa using hq
   subst hx
   have h1:=h.1
   split at h1
   ·rename_i q hl;exact ⟨q,by simp [hl],h1⟩
   exact h1.elim
  | succ p=>obtain ⟨q,h1,h2⟩:=Zkz (l':=l') (ta:=ta) h.2 p q' (by simpa using hq);exact ⟨q,by simpa using h1,h2⟩
def Z80 (pi ta:List Nat) (lv:List Bool):Bool :=
 ((List.range pi.length).all fun p=>decide (pi.getD p 0 < lv.length) && (!lv.getD (pi.getD p 0) false || ta.getD (pi.getD p 0) 0 == p)) &&
 (List.range lv.length).all fun p => !lv.getD p false || (decide (ta.getD p 0 < pi.length) && pi.getD (ta.getD p 0) 0 == p)
theorem Z66 {l':List (Option GObj)} {p:Nat} {q:GObj} (h:(l'[p]?).join=some q):p < l'.length∧(l'.map Option.isSome).getD p false=true:=by
 have hp:p < l'.length:=by
  rcases Nat.lt_or_ge p l'.length with h' | h'
  ·exact h'
  rw [List.getElem?_eq_none h'] at h;simp at h
 refine ⟨hp,?_⟩
 rw [List.getElem?_eq_getElem hp] at h
 simp only [Option.join_some] at h
 rw [List.getD_eq_getElem?_getD,List.getElem?_map,List.getElem?_eq_getElem hp,h]
 rfl
theorem X0 {X:Objs} {E E':Env} {l l':List (Option GObj)} {k k':Nat} (hU:Und X ba) (pi ta:List Nat) (hk:l.length=k) (hk':l'.length=k') (hp:pi.length=k) (hc:Z80 pi ta (l'.map Option.isSome)=true)
  (hn:E'.n=E.n∧E'.keep=E.keep) (h:Zsa (rho ba pi) l l' ta∧Zvx (rho ba pi) E.l=E'.l):Fit2 ba E (Zq X ba l) (ba+k) E' (Zq X ba l') (ba+k'):=by
 subst hk hk'
 intro w m a hM hE
 unfold Z80 at hc
 rw [Bool.and_eq_true,List.all_eq_true,List.all_eq_true] at hc
 have c1:∀ p,p < l.length→pi.getD p 0 < l'.length∧((l'.map Option.isSome).getD (pi.getD p 0) false=true→ta.getD (pi.getD p 0) 0=p):=fun p hpl=>by
  have:=hc.1 p (List.mem_range.2 (by omega))
  rw [Bool.and_eq_true,decide_eq_true_eq,List.length_map,Bool.or_eq_true,Bool.not_eq_true',beq_iff_eq] at this
  refine ⟨this.1,fun hl => ?_⟩
  rcases this.2 with h | h
  ·rw [hl] at h;cases h
  exact h
 have c2:∀ p,p < l'.length→(l'.map Option.isSome).getD p false=true→ta.getD p 0 < l.length∧pi.getD (ta.getD p 0) 0=p:=fun p hpl hl=>by
  have:=hc.2 p (List.mem_range.2 (by rw [List.length_map];exact hpl))
  rw [Bool.or_eq_true,Bool.not_eq_true',Bool.and_eq_true,decide_eq_true_eq,beq_iff_eq,hp] at this
  rcases this with h | h
  ·rw [hl] at h;cases h
  exact h
 have hR:Ren ba (rho ba pi) (Zq X ba l) m (ba+l.length) (Zq X ba l') (fun j=>if j < ba then m j else m (ba+ta.getD (j - ba) 0)) (ba+l'.length):=by
  refine ⟨Nat.le_add_right _ _,fun i hi => ?_,fun j hj => ?_,fun i hi o' ho' => ?_,fun i hi o' ho' => ?_,fun j o' ho' => ?_⟩
  ·by_cases h1:i < ba
   ·rw [Zh4 h1];omega
   obtain ⟨p,rfl⟩:∃ p,i=ba+p:=⟨i - ba,by omega⟩
   rw [Zjv]
   have:=(c1 p (by omega)).1
   omega
  ·unfold Zq;rw [if_neg (by omega),List.getElem?_eq_none (by omega)];rfl
  ·by_cases h1:i < ba
   ·rw [Zh4 h1] at ho' ⊢
    rw [Yf _ h1] at ho'
    exact ⟨o',by rw [Yf _ h1];exact ho',rfl,rfl,by rw [if_pos h1]⟩
   obtain ⟨p,rfl⟩:∃ p,i=ba+p:=⟨i - ba,by omega⟩
   rw [Zjv] at ho' ⊢
   rw [Ge] at ho'
   obtain ⟨l1,l2⟩:=Z66 ho'
   have hta:=(c1 p (by omega)).2 l2
   obtain ⟨q,q1,q2⟩:=Zkz h.1 _ _ ho'
   rw [hta] at q1
   refine ⟨q,by rw [Ge];exact q1,q2.1,q2.2.2.2.1,?_⟩
   rw [if_neg (by omega),Nat.add_sub_cancel_left,hta]
  ·rw [Yf _ hi] at ho'
   exact ⟨o',by rw [Yf _ hi];exact ho',rfl,rfl,by rw [if_pos hi]⟩
  by_cases h1:j < ba
  ·rw [Yf _ h1] at ho'
   exact ⟨j,o',by omega,by rw [Yf _ h1];exact ho',Zh4 h1,by rw [if_pos h1],rfl,rfl,rfl,rfl,.inr ⟨rfl,hU.und j o' ho'⟩⟩
  obtain ⟨p,rfl⟩:∃ p,j=ba+p:=⟨j - ba,by omega⟩
  rw [Ge] at ho'
  obtain ⟨l1,l2⟩:=Z66 ho'
  obtain ⟨t1,t2⟩:=c2 p l1 l2
  obtain ⟨q,q1,q2⟩:=Zkz h.1 _ _ ho'
  refine ⟨ba+ta.getD p 0,q,by omega,by rw [Ge];exact q1,by rw [Zjv,t2],?_,q2.1,q2.2.1,q2.2.2.1,q2.2.2.2.1,.inl q2.2.2.2.2⟩
  rw [if_neg (by omega),Nat.add_sub_cancel_left]
 refine ⟨_,hR.mem hM,?_,hR.ext⟩
 have:=hR.holds hE
 obtain ⟨n1,k1,l1⟩:=E'
 simp only at hn h
 obtain ⟨e1,e2⟩:=hn
 rw [h.2,← e1,← e2] at this
 exact this
end
end Go.Proofs.Ytibgpnmmgffgeaa
