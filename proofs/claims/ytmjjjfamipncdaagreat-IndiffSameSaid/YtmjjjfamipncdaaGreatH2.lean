/- Part H2 of the ghost memory: lemmas and contracts used by the proofs of this seat's laws; each theorem bears its own conditions. -/
import Derived.Test.YtmjjjfamipncdaaGreatH1
namespace Go.Proofs.YtmjjjfamipncdaaGreat
open Go.RowKit
set_option linter.unusedVariables false
set_option linter.unusedSimpArgs false
section
variable {w w':World} {O O' X X':Objs} {m m':Hands} {n n':Nat}
mutual
theorem Zuu {k k':Nat} (hk:k≤k'):∀ g:G,g.under k=true→g.under k'=true
 | .any,_=>rfl
 | .val _,_=>rfl
 | .agg cs,h=>by simp only [G.under] at h ⊢;exact V8 hk cs h
 | .tup cs,h=>by simp only [G.under] at h ⊢;exact V8 hk cs h
 | .fn _ _ cs,h=>by simp only [G.under] at h ⊢;exact V8 hk cs h
 | .sl _ cs,h=>by simp only [G.under] at h ⊢;exact V8 hk cs h
 | .ip cs _,h=>by simp only [G.under] at h ⊢;exact V8 hk cs h
 | .row i _,h=>by simp [G.under] at h ⊢;omega
 | .rs i _ _,h=>by simp [G.under] at h ⊢;omega
 | .rp i _ _,h=>by simp [G.under] at h ⊢;omega
 | .rl i _ _ _,h=>by simp [G.under] at h ⊢;omega
 | .ref i _,h=>by simp [G.under] at h ⊢;omega
 | .when b g,h=>by
  simp only [G.under] at h ⊢
  cases b with
  | false=>rfl
  | true=>simpa using Zuu hk g (by simpa using h)
theorem V8 {k k':Nat} (hk:k≤k'):∀ gs:List G,G.unders k gs=true→G.unders k' gs=true
 | [],_=>rfl
 | g::gs,h=>by simp only [G.unders,Bool.and_eq_true] at h ⊢;exact ⟨Zuu hk g h.1,V8 hk gs h.2⟩
end
mutual
theorem Zzg:∀ g:G,g.under n'=true→wk O O' n' g g
 | .any,_=>by simp [wk]
 | .val _,_=>by simp [wk]
 | .agg cs,h=>by simp only [G.under] at h;unfold wk;exact ⟨cs,rfl,Uw cs h⟩
 | .tup cs,h=>by simp only [G.under] at h;unfold wk;exact ⟨cs,rfl,Uw cs h⟩
 | .fn _ _ cs,h=>by simp only [G.under] at h;unfold wk;exact ⟨cs,rfl,Uw cs h⟩
 | .sl _ cs,h=>by simp only [G.under] at h;unfold wk;exact ⟨rfl,Uw cs h⟩
 | .ip cs _,h=>by simp only [G.under] at h;unfold wk;exact ⟨rfl,Uw cs h⟩
 | .row i _,h=>by unfold wk;exact ⟨rfl,by simpa [G.under] using h⟩
 | .rs i _ _,h=>by unfold wk;exact ⟨rfl,by simpa [G.under] using h⟩
 | .rp i _ _,h=>by unfold wk;exact ⟨rfl,by simpa [G.under] using h⟩
 | .rl i _ _ _,h=>by unfold wk;exact ⟨rfl,by simpa [G.under] using h⟩
 | .ref i _,h=>by unfold wk;exact ⟨rfl,by simpa [G.under] using h⟩
 | .when b g,h=>by unfold wk;exact ⟨rfl,h⟩
theorem Uw:∀ gs:List G,G.unders n' gs=true→wkl O O' n' gs gs
 | [],_=>by simp [wkl]
 | g::gs,h=>by
  simp only [G.unders,Bool.and_eq_true] at h
  simp only [wkl]
  exact ⟨g,gs,rfl,Zzg g h.1,Uw gs h.2⟩
end
theorem Ze8 {cs:List G} (h:G.pures cs=true):wkl O O' n' cs cs:=Uw cs (V7 _ _ h)
theorem Yam:∀ g:G,wk O O' n' .any g→g = .any
 | .any,_=>rfl
 | .val _,h=>by simp [wk] at h
 | .agg cs,h=>by simp [wk] at h
 | .tup cs,h=>by simp [wk] at h
 | .fn _ _ cs,h=>by simp [wk] at h
 | .sl _ cs,h=>by simp [wk] at h
 | .ip cs _,h=>by simp [wk] at h
 | .row i _,h=>by simp [wk] at h
 | .rs i _ _,h=>by simp [wk] at h
 | .rp i _ _,h=>by simp [wk] at h
 | .rl i _ _ _,h=>by simp [wk] at h
 | .ref i _,h=>by simp [wk] at h
 | .when b g,h=>by simp [wk] at h
theorem Mem.weak (hM:Mem w O m n) (hL:LessO O O' n'):Mem w O' m n':=by
 refine ⟨hL.fresh,fun i o' hi => ?_,fun i j oi oj b hi hj => ?_⟩
 ·obtain ⟨o,h1,h2,h3,h4,h5,h6⟩:=hL.obj i o' hi
  obtain ⟨vs,hr,hx⟩:=hM.obj i o h1
  refine ⟨vs,J9 hM hL _ _ hr _ h6,?_⟩
  rw [h2,h3,h4,h5];exact hx
 obtain ⟨o1,h1,_⟩:=hL.obj i oi hi
 obtain ⟨o2,h2,_⟩:=hL.obj j oj hj
 exact hM.apart i j o1 o2 b h1 h2
theorem Ext.weak {O2:Objs} {m2:Hands} {n2:Nat} (h:Ext w O m n w' O2 m2 n2) (hL:LessO O2 O' n') (hn:n≤n'):Ext w O m n w' O' m2 n':=by
 refine ⟨h.os,h.tape,h.output,h.size,hn,fun b hb ho=>⟨(h.keep b hb ho).1,fun q=>(h.keep b hb ho).2 (hL.owns q)⟩,fun i hi o' ho' => ?_⟩
 obtain ⟨o2,h1,h2,_,_,h5,_⟩:=hL.obj i o' ho'
 obtain ⟨o,k1,k2,k3,k4⟩:=h.stay i hi o2 h1
 exact ⟨o,k1,h2.trans k2,by omega,fun e=>k4 (by rcases e with e | e;exact .inl (by omega);exact .inr (by rw [← h2];exact e))⟩
def Zoo (O O':Objs) (n':Nat) (l:List (Nat×G)):List (Nat×G)→Prop
 | []=>True
 | (t,g')::r=>wk O O' n' (Qy l t) g'∧Zoo O O' n' l r
theorem Zp4 {l:List (Nat×G)}:∀ {l':List (Nat×G)},Zoo O O' n' l l'→∀ t,wk O O' n' (Qy l t) (Qy l' t)
 | [],_,t=>by simp [Qy,wk]
 | (t',g')::r,h,t=>by
  simp only [Zoo] at h
  simp only [Qy]
  split
  ·rename_i e;subst e;exact h.1
  exact Zp4 h.2 t
structure Fit (E:Env) (O:Objs) (E':Env) (O':Objs) (n':Nat):Prop where
 size:E'.n=E.n
 obj:LessO O O' n'
 slot:Zoo O O' n' E.l E'.l
theorem Holds.fit {E E':Env} {a:Act} (h:Holds w O m n E a) (hM:Mem w O m n) (hF:Fit E O E' O' n'):Holds w O' m n' E' a:=by
 refine ⟨h.size.trans hF.size.symm,fun t v hv=>Zh2 hM hF.obj _ _ (h.at_ t v hv) _ (Zp4 hF.slot t),fun t ht => ?_,h.defers⟩
 have:=Zp4 hF.slot t
 rw [h.out t (by rw [← hF.size];exact ht)] at this
 exact Yam _ this
def Z3 (X:Objs) (n:Nat) (l:List (Option GObj)):Objs:=fun i=>if i < n then X i else (l[i - n]?).join
structure Und (X:Objs) (n:Nat):Prop where
 fresh:∀ i,n≤i→X i=none
 und:∀ i o,X i=some o→G.unders n o.cells=true
theorem Jw (h:∀ i,n≤i→X i=none):Z3 X n []=X:=by
 funext i
 unfold Z3
 split
 ·rfl
 rename_i hi;rw [h i (by omega)];simp
theorem Uz (l:List (Option GObj)) (k:Nat):Z3 X n l (n+k)=(l[k]?).join:=by
 unfold Z3;rw [if_neg (by omega),Nat.add_sub_cancel_left]
theorem Zdn (l:List (Option GObj)):Z3 X n l n=(l[0]?).join:=Uz l 0
theorem Vh (l:List (Option GObj)) {i:Nat} (h:i < n):Z3 X n l i=X i:=by unfold Z3;rw [if_pos h]
theorem Zbm (l:List (Option GObj)) (k:Nat) (o:Option GObj) (h:k < l.length):(Z3 X n l).upd (n+k) o=Z3 X n (l.set k o):=by
 funext i
 unfold Objs.upd Z3
 by_cases hi:i < n
 ·rw [if_neg (by omega),if_pos hi,if_pos hi]
 rw [if_neg hi,if_neg hi]
 by_cases e:i=n+k
 ·subst e;rw [if_pos rfl,Nat.add_sub_cancel_left];simp [List.getElem?_set,h]
 rw [if_neg e,List.getElem?_set,if_neg (by omega)]
theorem Zog (x:Option GObj) (l:List (Option GObj)) (o:Option GObj):(Z3 X n (x::l)).upd n o=Z3 X n (o::l):=Zbm (x::l) 0 o (by simp)
theorem Gn (l:List (Option GObj)) (k:Nat) (o:Option GObj) (h:k=l.length):(Z3 X n l).upd (n+k) o=Z3 X n (l++[o]):=by
 subst h
 funext i
 unfold Objs.upd Z3
 by_cases hi:i < n
 ·rw [if_neg (by omega),if_pos hi,if_pos hi]
 rw [if_neg hi,if_neg hi]
 by_cases e:i=n+l.length
 ·subst e;rw [if_pos rfl,Nat.add_sub_cancel_left];simp
 rw [if_neg e]
 rcases Nat.lt_or_ge (i - n) l.length with h | h
 ·rw [List.getElem?_append_left h]
 rw [List.getElem?_eq_none h,List.getElem?_eq_none (by simp;omega)]
theorem K2 (o:Option GObj):(Z3 X n []).upd n o=Z3 X n [o]:=Gn [] 0 o rfl
theorem Zzk (l:List (Option GObj)) {i:Nat} (o:Option GObj) (h:i < n):(Z3 X n l).upd i o=Z3 (X.upd i o) n l:=by
 funext j
 unfold Objs.upd Z3
 by_cases e:j=i
 ·subst e;simp [h]
 simp [e]
def Ziw (q q':GObj):Prop:=q'.row=q.row∧q'.ty=q.ty∧q'.sz=q.sz∧q'.n=q.n
def Zr5 (O O':Objs) (n':Nat) (o:Option GObj):Option GObj→Prop
 | none=>True
 | some q'=>match o with
  | none=>False
  | some q=>Ziw q q'∧wkl O O' n' q.cells q'.cells
def Ziz (O O':Objs) (n':Nat):List (Option GObj)→List (Option GObj)→Prop
 | _,[]=>True
 | [],o'::r'=>o'=none∧Ziz O O' n' [] r'
 | o::r,o'::r'=>Zr5 O O' n' o o'∧Ziz O O' n' r r'
theorem Zxz:∀ {l l':List (Option GObj)},Ziz O O' n' l l'→∀ (i:Nat) (q':GObj),(l'[i]?).join=some q'→∃ q,(l[i]?).join=some q∧Ziw q q'∧wkl O O' n' q.cells q'.cells
 | l,[],h,i,q',hq=>by simp at hq
 | [],o'::r',h,i,q',hq=>by
  simp only [Ziz] at h
  cases i with
  | zero=>simp [h.1] at hq
  | succ i =>
   obtain ⟨q,h1,_⟩:=Zxz (l:=[]) (l':=r') h.2 i q' (by simpa using hq)
   simp at h1
 | o::r,o'::r',h,i,q',hq=>by
  simp only [Ziz] at h
  cases i with
  | zero =>
   have hq2:o'=some q':=by simpa using hq
   subst hq2
   have h1:=h.1
   unfold Zr5 at h1
   cases o with
   | none=>exact h1.elim
   | some q=>exact ⟨q,by simp,h1⟩
  | succ i =>
   obtain ⟨q,h1,h2⟩:=Zxz h.2 i q' (by simpa using hq)
   exact ⟨q,by simpa using h1,h2⟩
def OutLe (O O':Objs) (n':Nat) (X X':Objs) (n:Nat):Prop:=∀ i q',i < n→X' i=some q'→∃ q,X i=some q∧Ziw q q'∧wkl O O' n' q.cells q'.cells
theorem OutLe.refl (hU:Und X n) (hn:n≤n'):OutLe O O' n' X X n:=fun i q' _ h=>⟨q',h,⟨rfl,rfl,rfl,rfl⟩,Uw _ (V8 hn _ (hU.und i q' h))⟩
theorem OutLe.upd (hU:Und X n) (hn:n≤n') {i:Nat} {q q':GObj} (h1:Ziw q q') (h2:wkl O O' n' q.cells q'.cells):OutLe O O' n' (X.upd i (some q)) (X.upd i (some q')) n:=fun j p' _ h=>by
 by_cases e:j=i
 ·subst e
  rw [Yj] at h
  injection h with h
  subst h
  exact ⟨q,Yj _ _ _,h1,h2⟩
 rw [Yb _ _ e] at h
 exact ⟨p',by rw [Yb _ _ e];exact h,⟨rfl,rfl,rfl,rfl⟩,Uw _ (V8 hn _ (hU.und j p' h))⟩
theorem Zgg {l l':List (Option GObj)} {k:Nat} (hk:l'.length=k) (hX:OutLe (Z3 X n l) (Z3 X' n l') (n+k) X X' n) (h:Ziz (Z3 X n l) (Z3 X' n l') (n+k) l l'):LessO (Z3 X n l) (Z3 X' n l') (n+k):=by
 refine ⟨fun i hi => ?_,fun i o' ho' => ?_⟩
 ·unfold Z3;rw [if_neg (by omega),List.getElem?_eq_none (by omega)];rfl
 unfold Z3 at ho'
 by_cases hi:i < n
 ·rw [if_pos hi] at ho'
  obtain ⟨q,h1,h2,h3⟩:=hX i o' hi ho'
  exact ⟨q,by unfold Z3;rw [if_pos hi];exact h1,h2.1,h2.2.1,h2.2.2.1,h2.2.2.2,h3⟩
 rw [if_neg hi] at ho'
 obtain ⟨q,h1,h2,h3⟩:=Zxz h _ _ ho'
 exact ⟨q,by unfold Z3;rw [if_neg hi];exact h1,h2.1,h2.2.1,h2.2.2.1,h2.2.2.2,h3⟩
theorem Z0m {l:List (Option GObj)} (hf:∀ i,n≤i→X' i=none) (hX:OutLe (Z3 X n l) X' n X X' n):LessO (Z3 X n l) X' n:=by
 refine ⟨hf,fun i o' ho' => ?_⟩
 have hi:i < n:=by
  rcases Nat.lt_or_ge i n with h | h
  ·exact h
  rw [hf i h] at ho';cases ho'
 obtain ⟨q,h1,h2,h3⟩:=hX i o' hi ho'
 exact ⟨q,by unfold Z3;rw [if_pos hi];exact h1,h2.1,h2.2.1,h2.2.2.1,h2.2.2.2,h3⟩
end
section
variable {w w' w'':World} {O O' O'':Objs} {m m' m'':Hands} {n n' n'' ba:Nat}
theorem Ext.base (h:Ext w O m n w' O' m' n') (hb:ba≤n):Ext w O m ba w' O' m' n':=⟨h.os,h.tape,h.output,h.size,Nat.le_trans hb h.more,h.keep,fun i hi=>h.stay i (Nat.lt_of_lt_of_le hi hb)⟩
theorem Ext.transB (h:Ext w O m ba w' O' m' n') (k:Ext w' O' m' ba w'' O'' m'' n''):Ext w O m ba w'' O'' m'' n'':=by
 refine ⟨k.os.trans h.os,k.tape.trans h.tape,k.output.trans h.output,Nat.le_trans h.size k.size,k.more,fun b hb ho => ?_,fun i hi o'' ho'' => ?_⟩
 ·obtain ⟨e1,h1⟩:=h.keep b hb ho
  obtain ⟨e2,h2⟩:=k.keep b (Nat.lt_of_lt_of_le hb h.size) h1
  exact ⟨e2.trans e1,h2⟩
 obtain ⟨o',h1,h2,h3,h4⟩:=k.stay i hi o'' ho''
 obtain ⟨o,g1,g2,g3,g4⟩:=h.stay i hi o' h1
 refine ⟨o,g1,h2.trans g2,Nat.le_trans g3 h3,fun e => ?_⟩
 rcases e with e | e
 ·exact (h4 (.inl (by omega))).trans (g4 (.inl (by omega)))
 exact (h4 (.inr e)).trans (g4 (.inr (by rw [← h2];exact e)))
theorem lift.base {Q:GQ} (hb:ba≤n) {e:Exit} {a:Act} (h:lift w O m n Q e a w'):lift w O m ba Q e a w':=by
 obtain ⟨E',O',n',m',h1,h2,h3,h4⟩:=h
 exact ⟨E',O',n',m',h1,h2,h3,h4.base hb⟩
end
def Fit2 (ba:Nat) (E:Env) (O:Objs) (n:Nat) (E':Env) (O':Objs) (n':Nat):Prop:=∀ w m a,Mem w O m n→Holds w O m n E a→∃ m',Mem w O' m' n'∧Holds w O' m' n' E' a∧Ext w O m ba w O' m' n'
theorem Fit2.of {ba:Nat} {E E':Env} {O O':Objs} {n n':Nat} (hF:Fit E O E' O' n') (hb:ba≤n'):Fit2 ba E O n E' O' n':=fun w m a hM hE =>
 ⟨m,hM.weak hF.obj,hE.fit hM hF,(Ext.refl w O m ba).weak hF.obj hb⟩
theorem Fit2.trans {ba:Nat} {E E' E'':Env} {O O' O'':Objs} {n n' n'':Nat} (h:Fit2 ba E O n E' O' n') (k:Fit2 ba E' O' n' E'' O'' n''):Fit2 ba E O n E'' O'' n'':=fun w m a hM hE=>by
 obtain ⟨m1,a1,a2,a3⟩:=h w m a hM hE
 obtain ⟨m2,b1,b2,b3⟩:=k w m1 a a1 a2
 exact ⟨m2,b1,b2,a3.transB b3⟩
def W (P:Program) (ba:Nat) (c:Code) (Q:GQ) (E:Env) (O:Objs) (n:Nat):Prop:=ba≤n→∀ w m a,Mem w O m n→Holds w O m n E a→c.wp P (lift w O m ba Q) a w
theorem W.then {P:Program} {ba:Nat} {c:Code} {Q:GQ} {E:Env} {O O0:Objs} {n:Nat} (h:W P ba c Q E O n) {w0 w:World} {m0 m:Hands} {a:Act} (hM:Mem w O m n) (hE:Holds w O m n E a) (hX:Ext w0 O0 m0 ba w O m n):c.wp P (lift w0 O0 m0 ba Q) a w :=
 wp_mono (h hX.more w m a hM hE) fun e a3 w3 ⟨E3,O3,n3,m3,g1,g2,g3,g4⟩=>⟨E3,O3,n3,m3,g1,g2,g3,hX.transB g4⟩
section
variable {P:Program} {T:J0} {O O' X X':Objs} {n n' ba:Nat} {E E':Env} {Q:GQ} {c x y:Code}
theorem Zt (h:Q .normal E O n):W P ba .skip Q E O n:=fun hb w m a hM hE=>wp_skip ⟨E,O,n,m,h,hM,hE,(Ext.refl _ _ _ _).base hb⟩
theorem Q7 {id:Nat} (h:Q (.exit id) E O n):W P ba (.exit id) Q E O n:=fun hb w m a hM hE=>wp_exit ⟨E,O,n,m,h,hM,hE,(Ext.refl _ _ _ _).base hb⟩
theorem Zu (h:Q .ret E O n):W P ba .ret Q E O n:=fun hb w m a hM hE=>wp_ret ⟨E,O,n,m,h,hM,hE,(Ext.refl _ _ _ _).base hb⟩
theorem Zo {o:Operand} {t:Bool} (he:ev E o = .val (.bool t)) (h1:t=true→W P ba x Q E O n) (h2:t=false→W P ba y Q E O n):W P ba (.cond o x y) Q E O n:=fun hb w m a hM hE=>by
 have hc:=hE.ev o
 rw [he] at hc
 simp only [G.rep] at hc
 exact wp_cond_split hc (fun ht=>h1 ht hb w m a hM hE) (fun ht=>h2 ht hb w m a hM hE)
theorem Yo {id:Nat} (h:W P ba c (Ze id Q) E O n):W P ba (.block id c) Q E O n:=fun hb w m a hM hE=>by
 refine wp_block (wp_mono (h hb w m a hM hE) fun e a' w' ⟨E',O',n',m',h1,h2,h3,h4⟩ => ?_)
 cases e with
 | exit id' =>
  simp only [Ze] at h1
  simp only [Exit.inBlock]
  split
  ·rename_i hid;rw [if_pos hid] at h1;exact ⟨E',O',n',m',h1,h2,h3,h4⟩
  rename_i hid;rw [if_neg hid] at h1;exact ⟨E',O',n',m',h1,h2,h3,h4⟩
 | normal=>exact ⟨E',O',n',m',h1,h2,h3,h4⟩
 | goto l=>exact ⟨E',O',n',m',h1,h2,h3,h4⟩
 | ret=>exact ⟨E',O',n',m',h1,h2,h3,h4⟩
 | panic ch=>exact ⟨E',O',n',m',h1,h2,h3,h4⟩
 | outgrown=>exact ⟨E',O',n',m',h1,h2,h3,h4⟩
theorem Zh5 {n':Nat} (hF:Fit2 ba E O n E' O' n') (k:W P ba c Q E' O' n'):W P ba c Q E O n:=fun hb w m a hM hE=>by
 obtain ⟨m',h1,h2,h3⟩:=hF w m a hM hE
 exact k.then h1 h2 h3
theorem Za8 (E':Env) (O':Objs) (hF:Fit E O E' O' n) (k:W P ba c Q E' O' n):W P ba c Q E O n:=fun hb=>Zh5 (Fit2.of hF hb) k hb
end
def Gx {S R:Type} (step:S→Option (S ⊕ R)):Nat→S→Option R
 | 0,_=>none
 | k+1,s=>match step s with
  | none=>none
  | some (.inl s')=>Gx step k s'
  | some (.inr r)=>some r
open Classical in
/-- rounds, as many as it takes; none: it never ends, or there is none -/
noncomputable def Z6 {S R:Type} (step:S→Option (S ⊕ R)) (s:S):Option R :=
 if h:∃ k,(Gx step k s).isSome=true then Gx step (Classical.choose h) s else none
section
variable {S R:Type} {step:S→Option (S ⊕ R)}
theorem Zn3 {r:R}:∀ (k j:Nat) (s:S),k≤j→Gx step k s=some r→Gx step j s=some r
 | 0,_,_,_,h=>by simp [Gx] at h
 | k+1,0,_,hk,_=>by omega
 | k+1,j+1,s,hk,h=>by
  simp only [Gx] at h ⊢
  split at h
  ·cases h
  ·exact Zn3 k j _ (by omega) h
  exact h
theorem Zg1 {s:S} {r:R} (h:Z6 step s=some r):∃ k,Gx step k s=some r:=by
 unfold Z6 at h
 split at h
 ·exact ⟨_,h⟩
 cases h
theorem Za6 {s:S} {r:R} {k:Nat} (h:Gx step k s=some r):Z6 step s=some r:=by
 unfold Z6
 have hx:∃ k,(Gx step k s).isSome=true:=⟨k,by rw [h];rfl⟩
 rw [dif_pos hx]
 have hc:=Classical.choose_spec hx
 obtain ⟨r',hr'⟩:=Option.isSome_iff_exists.1 hc
 rw [hr']
 rcases Nat.le_total k (Classical.choose hx) with hk | hk
 ·rw [← hr'];exact Zn3 _ _ _ hk h
 rw [← h];exact (Zn3 _ _ _ hk hr').symm
theorem X9 {s s':S} (h:step s=some (.inl s')):Z6 step s=Z6 step s':=by
 cases hr:Z6 step s' with
 | some r =>
  obtain ⟨k,hk⟩:=Zg1 hr
  exact Za6 (k:=k+1) (by simp only [Gx,h];exact hk)
 | none =>
  cases hq:Z6 step s with
  | none=>rfl
  | some r =>
   obtain ⟨k,hk⟩:=Zg1 hq
   cases k with
   | zero=>simp [Gx] at hk
   | succ k =>
    simp only [Gx,h] at hk
    rw [Za6 hk] at hr
    cases hr
theorem Yt {s:S} {r:R} (h:step s=some (.inr r)):Z6 step s=some r:=Za6 (k:=1) (by simp only [Gx,h])
end
section
variable {P:Program} {T:J0} {O O' X X':Objs} {n n' ba:Nat} {E E':Env} {Q:GQ} {c x y:Code}
def Ye9 {S R:Type} (ba:Nat) (Q:GQ) (F:S→Env) (H:S→Objs) (n:Nat) (r:R):S ⊕ R→GQ
 | .inl s',e,E,O,n'=>e = .normal∧Fit2 ba E O n' (F s') (H s') n
 | .inr r',e,E,O,n'=>r'=r→e ≠ .normal∧Q e E O n'
theorem Yd0 {S R:Type} {step:S→Option (S ⊕ R)} {r:R} {s0:S} (hr:Z6 step s0=some r) (F:S→Env) (H:S→Objs)
  (body:∀ s x,step s=some x→W P ba c (Ye9 ba Q F H n r x) (F s) (H s) n):W P ba (.loop c) Q (F s0) (H s0) n:=fun hb w0 m0 a0 hM0 hE0=>by
 obtain ⟨k0,hk0⟩:=Zg1 hr
 refine Z4a (fun k a w=>∃ s m,Gx step k s=some r∧Mem w (H s) m n∧Holds w (H s) m n (F s) a∧Ext w0 (H s0) m0 ba w (H s) m n) ?_ k0 a0 w0 ⟨s0,m0,hk0,hM0,hE0,(Ext.refl _ _ _ _).base hb⟩
 rintro k a w ⟨s,m,hk,hM,hE,hX⟩
 cases k with
 | zero=>simp [Gx] at hk
 | succ k =>
  simp only [Gx] at hk
  cases hs:step s with
  | none=>rw [hs] at hk;cases hk
  | some x =>
   rw [hs] at hk
   refine wp_mono (body s x hs hb w m a hM hE) fun e a2 w2 ⟨E2,O2,n2,m2,h1,h2,h3,h4⟩ => ?_
   cases x with
   | inl s' =>
    obtain ⟨rfl,hF⟩:=h1
    obtain ⟨m3,g1,g2,g3⟩:=hF w2 m2 a2 h2 h3
    exact ⟨k,Nat.lt_succ_self _,s',m3,hk,g1,g2,hX.transB (h4.transB g3)⟩
   | inr r' =>
    injection hk with hk
    obtain ⟨hne,hq⟩:=h1 hk
    have:lift w0 (H s0) m0 ba Q e a2 w2:=⟨E2,O2,n2,m2,hq,h2,h3,hX.transB h4⟩
    cases e with
    | normal=>exact absurd rfl hne
    | exit id=>exact this
    | goto l=>exact this
    | ret=>exact this
    | panic ch=>exact this
    | outgrown=>exact this
theorem Zf (h:W P ba x (Zh (fun E O n=>W P ba y Q E O n) Q) E O n):W P ba (.seq x y) Q E O n:=fun hb w m a hM hE=>by
 refine wp_seq (wp_mono (h hb w m a hM hE) fun e a' w' ⟨E2,O2,n2,m2,h1,h2,h3,h4⟩ => ?_)
 cases e with
 | normal=>exact (show W P ba y Q E2 O2 n2 from h1).then h2 h3 h4
 | exit id=>exact ⟨E2,O2,n2,m2,h1,h2,h3,h4⟩
 | goto l=>exact ⟨E2,O2,n2,m2,h1,h2,h3,h4⟩
 | ret=>exact ⟨E2,O2,n2,m2,h1,h2,h3,h4⟩
 | panic ch=>exact ⟨E2,O2,n2,m2,h1,h2,h3,h4⟩
 | outgrown=>exact ⟨E2,O2,n2,m2,h1,h2,h3,h4⟩
end
end Go.Proofs.YtmjjjfamipncdaaGreat
