/- Part H6 of the ghost memory: lemmas and contracts used by the proofs of this seat's laws; each theorem bears its own conditions. -/
import Derived.Test.YtmlcnhambfkjaaaGreatH3
namespace Go.Proofs.YtmlcnhambfkjaaaGreat
open Go.RowKit
set_option linter.unusedVariables false
set_option linter.unusedSimpArgs false
section
variable {P:Program} {T:V6} {O O' X X':Objs} {n n' n0 ba:Nat} {E E':Env} {Q:GQ} {c x y:Code}
def Xg {Z1 Z2:Type} (J1:Z1→GQ) (J2:Z2→GQ):Z1 ⊕ Z2→GQ
 | .inl z=>J1 z
 | .inr z=>J2 z
theorem Ztk {Z:Type} {J:Z→GQ} {z:Z} (h:W P ba x (J z) E O n) (k:W P ba x (J z) E O n→W P ba (.seq x y) Q E O n):W P ba (.seq x y) Q E O n:=k h
theorem Ut {Z:Type} {J:Z→GQ} {z:Z} {id:Nat} (h:W P ba c (J z) E O n) (k:W P ba c (J z) E O n→W P ba (.block id c) Q E O n):W P ba (.block id c) Q E O n:=k h
theorem Yn {id:Nat} (h:W P ba c (JX id ba E' O' n0) E O n) (k:Q .normal E' O' n0):W P ba (.block id c) Q E O n :=
 Yh (Ykj h (by show Z9 id Q (.exit id) E' O' n0;simp only [Z9,if_true];exact k))
theorem Q1 {id:Nat} (h:W P ba c (JR ba E' O' n0) E O n) (k:Q .ret E' O' n0):W P ba (.block id c) Q E O n:=Yh (Yki h k)
theorem GCalls.argsW {f:FuncId} {gs gs':List G} {K:G→Objs→Nat→Prop} (hw:wkl O O n gs gs') (h:GCalls P f gs' O n K):GCalls P f gs O n K:=GCalls.args h hw
theorem Yez {i:Nat} {o:Option GObj} (h:O i=o):O.upd i o=O:=by
 funext j;unfold Objs.upd;split
 ·rename_i e;subst e;exact h.symm
 rfl
theorem Zce {i:Nat} {o:Option GObj} (hU:Und O n) (hi:i < n):∀ j,n≤j→O.upd i o j=none:=fun j hj=>by rw [J4 _ _ (by omega)];exact hU.fresh j hj
theorem Zge (O:Objs) (i:Nat) (a b:Option GObj):(O.upd i a).upd i b=O.upd i b:=by funext j;unfold Objs.upd;split <;> rfl
theorem Zg9 {α:Type} {f:α→List G} (h:∀ x,(f x).all G.one=true):∀ xs:List α,(fl f xs).all G.one=true
 | []=>rfl
 | x::xs=>by rw [G5,List.all_append,h x,Zg9 h xs];rfl
section
variable {α:Type} {xs ys:List α} {f:α→List G} {t e:TypeId} {ie:TyI}
theorem Ycp {lo hi:Int} {sz:Nat} (hf:∀ x,(f x).length=sz) (h:Zfo xs lo hi=some ys):((fl f xs).drop (lo.toNat * sz)).take ((hi - lo).toNat * sz)=fl f ys:=by
 rw [Zo1 hf,Zzv hf,Z82 h]
theorem Yau {lo hi:Option KI} (ht:Z8 T t=some (.slice e)) (he:T e=some ie) (hf:∀ x,(f x).length=ie.size) (h:Zfo xs (bLo lo) (bHi hi xs.length)=some ys) :
  Zgg T t (.sl xs.length (fl f xs)) lo hi none=some (0≤bLo lo∧bLo lo≤bHi hi xs.length∧bHi hi xs.length≤bMx none xs.length∧bMx none xs.length≤xs.length,.sl ys.length (fl f ys)):=by
 unfold Zgg
 simp only [ht,he,Option.isSome_none,Bool.false_eq_true,false_and,if_false]
 rw [Ycp hf h,← Z5l h]
theorem Z6o {lo:Option KI} {hi:KI} (ht:Z8 T t=some (.slice e)) (he:T e=some ie) (hf:∀ x,(f x).length=ie.size) (h:Zfo xs (bLo lo) hi.2=some ys) :
  Zgg T t (.sl xs.length (fl f xs)) lo (some hi) (some hi)=some (0≤bLo lo∧bLo lo≤hi.2∧hi.2≤hi.2∧hi.2≤xs.length,.sl ys.length (fl f ys)):=by
 unfold Zgg
 simp only [ht,he,Option.isSome_some,Bool.true_eq_false,and_false,if_false,bHi,bMx]
 rw [Ycp hf h,← Z5l h]
end
end
theorem Zmv (T:V6) (t:TypeId) (c:G) (cs:List G) (off:Nat):Zgl T t (c::cs) off=match T t with
  | none=>none
  | some i=>if i.k.isAgg then (if off+i.size≤(c::cs).length then some (.agg (((c::cs).drop off).take i.size)) else none) else (c::cs)[off]? := rfl
theorem Zkj (c:G) (cells cs:List G) (off:Nat):Ga (c::cells) cs off=if off+cs.length≤(c::cells).length then some ((c::cells).take off++cs++(c::cells).drop (off+cs.length)) else none:=rfl
section
variable {O O':Objs} {n':Nat}
theorem Zwj:wkl O O' n' [] []=True:=by simp [wkl]
theorem Zj1 (g g':G) (r r':List G):wkl O O' n' (g::r) (g'::r')=(wk O O' n' g g'∧wkl O O' n' r r'):=by
 simp only [wkl,List.cons.injEq,eq_iff_iff]
 exact ⟨fun ⟨_,_,⟨rfl,rfl⟩,h⟩=>h,fun h=>⟨_,_,⟨rfl,rfl⟩,h⟩⟩
theorem Z3p (g:G) (u:Value):wk O O' n' g (.val u)=(g = .val u):=by unfold wk;rfl
theorem Z3k (a b:List G):wk O O' n' (.agg a) (.agg b)=wkl O O' n' a b:=by simp [wk]
theorem Z3o (a b:List G):wk O O' n' (.tup a) (.tup b)=wkl O O' n' a b:=by simp [wk]
theorem Yot (f f' k k':Nat) (a b:List G):wk O O' n' (.fn f k a) (.fn f' k' b)=(f=f'∧k=k'∧wkl O O' n' a b):=by
 simp only [wk,G.fn.injEq,eq_iff_iff]
 exact ⟨fun ⟨_,⟨h1,h2,rfl⟩,h⟩=>⟨h1,h2,h⟩,fun ⟨h1,h2,h⟩=>⟨_,⟨h1,h2,rfl⟩,h⟩⟩
theorem Yab (k k':Nat) (a b:List G):wk O O' n' (.sl k a) (.sl k' b)=(k=k'∧wkl O O' n' a b):=by simp [wk]
theorem Zmo (k k' c:Nat) (b:List G):wk O O' n' (.val (.slice none k c)) (.sl k' b)=(k=0∧k'=0∧b=[]):=by simp [wk]
theorem Zsa (i k k':Nat) (b:List G):wk O O' n' (.row i k) (.sl k' b)=(k=k'∧O' i=none∧∃ o,O i=some o∧o.row=true∧k=o.n∧wkl O O' n' o.cells b):=by simp [wk]
theorem Yhd (i off k k':Nat) (b:List G):wk O O' n' (.rs i off k) (.sl k' b)=(off=0∧k=k'∧O' i=none∧∃ o,O i=some o∧o.row=false∧wkl O O' n' o.cells b):=by simp [wk]
theorem Ye4 (i k k':Nat) (b:List G):wk O O' n' (.ref i k) (.ip b k')=(k=k'∧O' i=none∧∃ o,O i=some o∧o.row=false∧wkl O O' n' o.cells b):=by simp [wk]
theorem Z3n (g:G) (i k:Nat):wk O O' n' g (.row i k)=(g = .row i k∧i < n'):=by unfold wk;rfl
theorem Z3l (g:G) (i k:Nat):wk O O' n' g (.ref i k)=(g = .ref i k∧i < n'):=by unfold wk;rfl
theorem Z0i (n K:Nat):(n < n+K)=(0 < K):=by simp
theorem Z78 (n j K:Nat):(n+j < n+K)=(j < K):=by simp
end
theorem Zx0 {O O':Objs} {n':Nat} (b b':List G):∀ a:List G,G.pures a=true→wkl O O' n' (a++b) (a++b')=wkl O O' n' b b'
 | [],_=>rfl
 | x::a,h=>by
  simp only [G.pures,Bool.and_eq_true] at h
  rw [List.cons_append,List.cons_append,Zj1,Zx0 b b' a h.2,eq_iff_iff]
  exact ⟨fun q=>q.2,fun q=>⟨Z3m x (Zkx _ x h.1),q⟩⟩
theorem Zdg {S R:Type} {step:S→Option (S ⊕ R)} (I:S→Prop) (m:S→Nat) (post:R→Prop)
  (hstep:∀ s,I s→(∃ s',step s=some (.inl s')∧I s'∧m s' < m s)∨(∃ r,step s=some (.inr r)∧post r)):∀ s,I s→∃ r,Zv step s=some r∧post r:=by
 have key:∀ k s,m s≤k→I s→∃ r,Zv step s=some r∧post r:=by
  intro k
  induction k with
  | zero =>
   intro s hm hi
   rcases hstep s hi with ⟨s',h1,h2,h3⟩ | ⟨r,h1,h2⟩
   ·omega
   exact ⟨r,Z4 h1,h2⟩
  | succ k ih =>
   intro s hm hi
   rcases hstep s hi with ⟨s',h1,h2,h3⟩ | ⟨r,h1,h2⟩
   ·obtain ⟨r,h4,h5⟩:=ih s' (by omega) h2
    exact ⟨r,by rw [Yd h1];exact h4,h5⟩
   exact ⟨r,Z4 h1,h2⟩
 exact fun s hi=>key (m s) s (Nat.le_refl _) hi
theorem Zk0 {S R:Type} {step:S→Option (S ⊕ R)} {r:R} (I:S→Prop) (m:S→Nat)
  (hstep:∀ s,I s→(∃ s',step s=some (.inl s')∧I s'∧m s' < m s)∨step s=some (.inr r)) (s:S) (hi:I s):Zv step s=some r:=by
 obtain ⟨r',h1,h2⟩:=Zdg I m (·=r) (fun s hi=>by rcases hstep s hi with h | h;exact .inl h;exact .inr ⟨r,h,rfl⟩) s hi
 rw [h1,h2]
section
variable {α β ρ:Type} {xs ys:List α} {i lo hi:Int} {f:α→List G} {T:V6} {t e:TypeId} {ti:TyI} {r:ρ}
theorem bC {o:Option α} {K:α→Option ρ} (h:o.bind K=some r):∃ x,o=some x∧K x=some r:=Option.bind_eq_some_iff.1 h
theorem bE {K:α→Option ρ} (ht:T t=some ti) (hf:∀ x,(f x).length=ti.size) (h0:0 < ti.size) (h:(Xj xs i).bind K=some r) :
  ∃ x,Xj xs i=some x∧0≤i∧i < (xs.length:Int)∧Zgl T t (fl f xs) (i.toNat * ti.size)=(if ti.k.isAgg then some (.agg (f x)) else (f x)[0]?)∧K x=some r:=by
 obtain ⟨x,hx,h⟩:=Option.bind_eq_some_iff.1 h
 exact ⟨x,hx,Z7y hx,Yfk hx,Ycs ht hf h0 hx,h⟩
theorem bS {K:List α→Option ρ} {lo hi:Option KI} {a b:Int} (hlo:bLo lo=a) (hhi:bHi hi xs.length=b) (ht:Z8 T t=some (.slice e)) (he:T e=some ti) (hf:∀ x,(f x).length=ti.size) (h:(Zfo xs a b).bind K=some r) :
  ∃ ys,0≤a∧a≤b∧b≤xs.length∧Zgg T t (.sl xs.length (fl f xs)) lo hi none=some (True,.sl ys.length (fl f ys))∧K ys=some r:=by
 subst hlo hhi
 obtain ⟨ys,hy,h⟩:=Option.bind_eq_some_iff.1 h
 have h1:=Z1j hy
 have h2:=Z1i hy
 have h3:=Z1h hy
 refine ⟨ys,h1,h2,h3,?_,h⟩
 rw [Yau ht he hf hy]
 simp only [h1,h2,h3,bMx,Int.le_refl,and_self]
theorem bS3 {K:List α→Option ρ} {lo:Option KI} {hi:KI} {a b:Int} (hlo:bLo lo=a) (hhi:hi.2=b) (ht:Z8 T t=some (.slice e)) (he:T e=some ti) (hf:∀ x,(f x).length=ti.size) (h:(Zfo xs a b).bind K=some r) :
  ∃ ys,0≤a∧a≤b∧b≤xs.length∧Zgg T t (.sl xs.length (fl f xs)) lo (some hi) (some hi)=some (True,.sl ys.length (fl f ys))∧K ys=some r:=by
 subst hlo hhi
 obtain ⟨ys,hy,h⟩:=Option.bind_eq_some_iff.1 h
 have h1:=Z1j hy
 have h2:=Z1i hy
 have h3:=Z1h hy
 refine ⟨ys,h1,h2,h3,?_,h⟩
 rw [Z6o ht he hf hy]
 simp only [h1,h2,h3,Int.le_refl,and_self]
theorem bA {b k:Nat} {K:List α→Option ρ} (hk:ys.length=k) (h:(Zc9 b xs ys).bind K=some r):∃ zs,(xs.length+k) * b≤140737488355328∧xs.length+k≤140737488355328∧zs=xs++ys∧K zs=some r:=by
 obtain ⟨zs,hz,h⟩:=Option.bind_eq_some_iff.1 h
 subst hk
 exact ⟨zs,Z56 hz,Z57 hz,Zzq hz,h⟩
theorem bA0 {b k:Nat} {K:List α→Option ρ} (hk:ys.length=k) (h:(Zc9 b ([]:List α) ys).bind K=some r):∃ zs,k * b≤140737488355328∧k≤140737488355328∧zs=ys∧K zs=some r:=by
 obtain ⟨zs,hz,h⟩:=Option.bind_eq_some_iff.1 h
 subst hk
 have h1:=Z56 hz
 have h2:=Z57 hz
 simp only [List.length_nil,Nat.zero_add] at h1 h2
 exact ⟨zs,h1,h2,Zzq hz,h⟩
theorem bG {c:Prop} [Decidable c] {K:Unit→Option ρ} (h:(Km c).bind K=some r):c∧K ()=some r:=by
 obtain ⟨u,hu,h⟩:=Option.bind_eq_some_iff.1 h
 exact ⟨Ycv hu,h⟩
theorem bM {b:Nat} {x:α} {K:List α→Option ρ} (h:(Zlb b i x).bind K=some r):∃ zs,0≤i∧(b:Int) * i≤140737488355328∧i≤140737488355328∧zs=List.replicate i.toNat x∧K zs=some r:=by
 obtain ⟨zs,hz,h⟩:=Option.bind_eq_some_iff.1 h
 have:=Yfv hz
 exact ⟨zs,this.1,this.2.1,this.2.2,Yc9 hz,h⟩
end
section
variable {P:Program} {T:V6} {O O' X X':Objs} {n n' n0:Nat} {E E':Env} {Q:GQ} {c x y:Code}
theorem Zz7 (l:List (Nat×G)):∀ k:List Nat,leL l (Zl2 l k)
 | []=>trivial
 | _::k=>⟨rfl,Zz7 l k⟩
theorem Zef {ba:Nat} (keep:List Nat) (h:W P ba x (Yv (fun E O n=>W P ba y Q ⟨E.n,[],Zl2 E.l keep⟩ O n) Q) E O n):W P ba (.seq x y) Q E O n:=by
 refine Zf fun hb w m a hM hE => ?_
 refine wp_mono (h hb w m a hM hE) fun e a' w' ⟨E2,O2,n2,m2,h1,h2,h3,h4⟩=>⟨E2,O2,n2,m2,?_,h2,h3,h4⟩
 cases e with
 | normal=>exact fun hb3 w3 m3 a3 hM3 hE3=>(h1:W P ba y Q _ O2 n2) hb3 w3 m3 a3 hM3 (hE3.le ⟨rfl,Zz7 _ _⟩)
 | exit id=>exact h1
 | goto l=>exact h1
 | ret=>exact h1
 | panic ch=>exact h1
 | outgrown=>exact h1
theorem Zyq {ba:Nat} (hb:ba≤n):Fit2 ba E O n E O n:=fun w m a hM hE=>⟨m,hM,hE,(Ext.refl w O m n).base hb⟩
theorem Y0 {l l':List (Option GObj)} {k:Nat} (hU:Und X n) (hk:l'.length=k) (hn:E'.n=E.n) (h:Znh (Zx X n l) (Zx X n l') (n+k) l l'∧Zx3 (Zx X n l) (Zx X n l') (n+k) E.l E'.l):Fit E (Zx X n l) E' (Zx X n l') (n+k) :=
 ⟨hn,Zjk hk (OutLe.refl hU (Nat.le_add_right _ _)) h.1,h.2⟩
theorem Xe {i:Nat} {q q':GObj} {l l':List (Option GObj)} {k:Nat} (hU:Und X n) (hk:l'.length=k) (hn:E'.n=E.n)
  (h:Zn1 q q'∧wkl (Zx (X.upd i (some q)) n l) (Zx (X.upd i (some q')) n l') (n+k) q.cells q'.cells∧Znh (Zx (X.upd i (some q)) n l) (Zx (X.upd i (some q')) n l') (n+k) l l'∧Zx3 (Zx (X.upd i (some q)) n l) (Zx (X.upd i (some q')) n l') (n+k) E.l E'.l) :
  Fit E (Zx (X.upd i (some q)) n l) E' (Zx (X.upd i (some q')) n l') (n+k) :=
 ⟨hn,Zjk hk (OutLe.upd hU (Nat.le_add_right _ _) h.1 h.2.1) h.2.2.1,h.2.2.2⟩
theorem Zl {ba:Nat} {r:G} {rs:List ResultVar} {l:List (Option GObj)} {e:Exit} (he:e = .normal∨e = .ret) (hU:Und X n) (gs:List G) (hb:ba≤n') (h:Zli T (Zx X n l) E rs=some gs∧wk (Zx X n l) X n (gone gs) r):Fin T rs r ba X n e E (Zx X n l) n' :=
 ⟨he,E,_,n',gs,Zyq hb,h.1,Z4n hU.fresh (OutLe.refl hU (Nat.le_refl _)),h.2⟩
end
end Go.Proofs.YtmlcnhambfkjaaaGreat
