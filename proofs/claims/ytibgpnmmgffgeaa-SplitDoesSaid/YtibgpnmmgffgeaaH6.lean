/- Part H6 of the ghost memory: lemmas and contracts used by the proofs of this seat's laws; each theorem bears its own conditions. -/
import Derived.Test.YtibgpnmmgffgeaaH3
namespace Go.Proofs.Ytibgpnmmgffgeaa
open Go.RowKit
set_option linter.unusedVariables false
set_option linter.unusedSimpArgs false
section
variable {P:Program} {T:Kv} {O O' X X':Objs} {n n' n0 ba:Nat} {E E':Env} {Q:GQ} {c x y:Code}
def Ql {Z1 Z2:Type} (J1:Z1→GQ) (J2:Z2→GQ):Z1 ⊕ Z2→GQ
 | .inl z=>J1 z
 | .inr z=>J2 z
theorem Yg2 {Z:Type} {J:Z→GQ} {z:Z} (h:W P ba x (J z) E O n) (k:W P ba x (J z) E O n→W P ba (.seq x y) Q E O n):W P ba (.seq x y) Q E O n:=k h
theorem Zbu {Z:Type} {J:Z→GQ} {z:Z} {id:Nat} (h:W P ba c (J z) E O n) (k:W P ba c (J z) E O n→W P ba (.block id c) Q E O n):W P ba (.block id c) Q E O n:=k h
theorem Yo {id:Nat} (h:W P ba c (JX id ba E' O' n0) E O n) (k:Q .normal E' O' n0):W P ba (.block id c) Q E O n :=
 Yd (Yg1 h (by show Yc id Q (.exit id) E' O' n0;simp only [Yc,if_true];exact k))
theorem Kh {id:Nat} (h:W P ba c (JR ba E' O' n0) E O n) (k:Q .ret E' O' n0):W P ba (.block id c) Q E O n:=Yd (Yg0 h k)
theorem GCalls.argsW {f:FuncId} {gs gs':List G} {K:G→Objs→Nat→Prop} (hw:U8 O O n gs gs') (h:GCalls P f gs' O n K):GCalls P f gs O n K:=GCalls.args h hw
theorem Zki {i:Nat} {o:Option GObj} (h:O i=o):O.upd i o=O:=by
 funext j;unfold Objs.upd;split
 ·rename_i e;subst e;exact h.symm
 rfl
theorem X1 {i:Nat} {o:Option GObj} (hU:Und O n) (hi:i < n):∀ j,n≤j→O.upd i o j=none:=fun j hj=>by rw [Yv _ _ (by omega)];exact hU.fresh j hj
theorem Qh (O:Objs) (i:Nat) (a b:Option GObj):(O.upd i a).upd i b=O.upd i b:=by funext j;unfold Objs.upd;split <;> rfl
theorem V2 {α:Type} {f:α→List G} (h:∀ x,(f x).all G.one=true):∀ xs:List α,(fl f xs).all G.one=true
 | []=>rfl
 | x::xs=>by rw [Gs,List.all_append,h x,V2 h xs];rfl
section
variable {α:Type} {xs ys:List α} {f:α→List G} {t e:TypeId} {ie:TyI}
theorem Z9z {lo hi:Int} {sz:Nat} (hf:∀ x,(f x).length=sz) (h:Zen xs lo hi=some ys):((fl f xs).drop (lo.toNat * sz)).take ((hi - lo).toNat * sz)=fl f ys:=by
 rw [Zpc hf,Zyl hf,Z7s h]
theorem Z8k {lo hi:Option KI} (ht:Yu T t=some (.slice e)) (he:T e=some ie) (hf:∀ x,(f x).length=ie.size) (h:Zen xs (bLo lo) (bHi hi xs.length)=some ys) :
  Zhp T t (.sl xs.length (fl f xs)) lo hi none=some (0≤bLo lo∧bLo lo≤bHi hi xs.length∧bHi hi xs.length≤bMx none xs.length∧bMx none xs.length≤xs.length,.sl ys.length (fl f ys)):=by
 unfold Zhp
 simp only [ht,he,Option.isSome_none,Bool.false_eq_true,false_and,if_false]
 rw [Z9z hf h,← Z3m h]
theorem Z4o {lo:Option KI} {hi:KI} (ht:Yu T t=some (.slice e)) (he:T e=some ie) (hf:∀ x,(f x).length=ie.size) (h:Zen xs (bLo lo) hi.2=some ys) :
  Zhp T t (.sl xs.length (fl f xs)) lo (some hi) (some hi)=some (0≤bLo lo∧bLo lo≤hi.2∧hi.2≤hi.2∧hi.2≤xs.length,.sl ys.length (fl f ys)):=by
 unfold Zhp
 simp only [ht,he,Option.isSome_some,Bool.true_eq_false,and_false,if_false,bHi,bMx]
 rw [Z9z hf h,← Z3m h]
end
end
theorem Zrm (T:Kv) (t:TypeId) (c:G) (cs:List G) (off:Nat):Zhy T t (c::cs) off=match T t with
  | none=>none
  | some i=>if i.k.isAgg then (if off+i.size≤(c::cs).length then some (.agg (((c::cs).drop off).take i.size)) else none) else (c::cs)[off]? := rfl
theorem Zn8 (c:G) (cells cs:List G) (off:Nat):Jq (c::cells) cs off=if off+cs.length≤(c::cells).length then some ((c::cells).take off++cs++(c::cells).drop (off+cs.length)) else none:=rfl
section
variable {O O':Objs} {n':Nat}
theorem Z11:U8 O O' n' [] []=True:=by simp [U8]
theorem Zqa (g g':G) (r r':List G):U8 O O' n' (g::r) (g'::r')=(wk O O' n' g g'∧U8 O O' n' r r'):=by
 simp only [U8,List.cons.injEq,eq_iff_iff]
 exact ⟨fun ⟨_,_,⟨rfl,rfl⟩,h⟩=>h,fun h=>⟨_,_,⟨rfl,rfl⟩,h⟩⟩
theorem Z52 (g:G):wk O O' n' g .any=True:=by unfold wk;rfl
theorem Z56 (g:G) (u:Value):wk O O' n' g (.val u)=(g = .val u):=by unfold wk;rfl
theorem Z51 (a b:List G):wk O O' n' (.agg a) (.agg b)=U8 O O' n' a b:=by simp [wk]
theorem Z55 (a b:List G):wk O O' n' (.tup a) (.tup b)=U8 O O' n' a b:=by simp [wk]
theorem Ycu (f f' k k':Nat) (a b:List G):wk O O' n' (.fn f k a) (.fn f' k' b)=(f=f'∧k=k'∧U8 O O' n' a b):=by
 simp only [wk,G.fn.injEq,eq_iff_iff]
 exact ⟨fun ⟨_,⟨h1,h2,rfl⟩,h⟩=>⟨h1,h2,h⟩,fun ⟨h1,h2,h⟩=>⟨_,⟨h1,h2,rfl⟩,h⟩⟩
theorem Ycz (k k':Nat) (a b:List G):wk O O' n' (.sl k a) (.sl k' b)=(k=k'∧U8 O O' n' a b):=by simp [wk]
theorem Zw0 (k k' c:Nat) (b:List G):wk O O' n' (.val (.slice none k c)) (.sl k' b)=(k=0∧k'=0∧b=[]):=by simp [wk]
theorem Zw1 (i k k':Nat) (b:List G):wk O O' n' (.row i k) (.sl k' b)=(k=k'∧O' i=none∧∃ o,O i=some o∧o.row=true∧k=o.n∧U8 O O' n' o.cells b):=by simp [wk]
theorem Z10 (i off k k':Nat) (b:List G):wk O O' n' (.rs i off k) (.sl k' b)=(off=0∧k=k'∧O' i=none∧∃ o,O i=some o∧o.row=false∧U8 O O' n' o.cells b):=by simp [wk]
theorem Ycv (k k':Nat) (a b:List G):wk O O' n' (.ip a k) (.ip b k')=(k=k'∧U8 O O' n' a b):=by simp [wk]
theorem Zwz (i k k':Nat) (b:List G):wk O O' n' (.ref i k) (.ip b k')=(k=k'∧O' i=none∧∃ o,O i=some o∧o.row=false∧U8 O O' n' o.cells b):=by simp [wk]
theorem Z54 (g:G) (i k:Nat):wk O O' n' g (.row i k)=(g = .row i k∧i < n'):=by unfold wk;rfl
theorem Ycy (g:G) (i o k:Nat):wk O O' n' g (.rs i o k)=(g = .rs i o k∧i < n'):=by unfold wk;rfl
theorem Ycx (g:G) (i o k:Nat):wk O O' n' g (.rp i o k)=(g = .rp i o k∧i < n'):=by unfold wk;rfl
theorem Ycw (g:G) (i o k l:Nat):wk O O' n' g (.rl i o k l)=(g = .rl i o k l∧i < n'):=by unfold wk;rfl
theorem Z53 (g:G) (i k:Nat):wk O O' n' g (.ref i k)=(g = .ref i k∧i < n'):=by unfold wk;rfl
theorem Z4z (n K:Nat):(n < n+K)=(0 < K):=by simp
theorem Yah (n j K:Nat):(n+j < n+K)=(j < K):=by simp
end
theorem Zbo {O O':Objs} {n':Nat} (b b':List G):∀ a:List G,G.pures a=true→U8 O O' n' (a++b) (a++b')=U8 O O' n' b b'
 | [],_=>rfl
 | x::a,h=>by
  simp only [G.pures,Bool.and_eq_true] at h
  rw [List.cons_append,List.cons_append,Zqa,Zbo b b' a h.2,eq_iff_iff]
  exact ⟨fun q=>q.2,fun q=>⟨Z1z x (Zky _ x h.1),q⟩⟩
theorem Zfv {S R:Type} {step:S→Option (S ⊕ R)} (I:S→Prop) (m:S→Nat) (post:R→Prop)
  (hstep:∀ s,I s→(∃ s',step s=some (.inl s')∧I s'∧m s' < m s)∨(∃ r,step s=some (.inr r)∧post r)):∀ s,I s→∃ r,Zw step s=some r∧post r:=by
 have key:∀ k s,m s≤k→I s→∃ r,Zw step s=some r∧post r:=by
  intro k
  induction k with
  | zero =>
   intro s hm hi
   rcases hstep s hi with ⟨s',h1,h2,h3⟩ | ⟨r,h1,h2⟩
   ·omega
   exact ⟨r,Yg h1,h2⟩
  | succ k ih =>
   intro s hm hi
   rcases hstep s hi with ⟨s',h1,h2,h3⟩ | ⟨r,h1,h2⟩
   ·obtain ⟨r,h4,h5⟩:=ih s' (by omega) h2
    exact ⟨r,by rw [Yw h1];exact h4,h5⟩
   exact ⟨r,Yg h1,h2⟩
 exact fun s hi=>key (m s) s (Nat.le_refl _) hi
theorem Zv2 {S R:Type} {step:S→Option (S ⊕ R)} {r:R} (I:S→Prop) (m:S→Nat)
  (hstep:∀ s,I s→(∃ s',step s=some (.inl s')∧I s'∧m s' < m s)∨step s=some (.inr r)) (s:S) (hi:I s):Zw step s=some r:=by
 obtain ⟨r',h1,h2⟩:=Zfv I m (·=r) (fun s hi=>by rcases hstep s hi with h | h;exact .inl h;exact .inr ⟨r,h,rfl⟩) s hi
 rw [h1,h2]
section
variable {α β ρ:Type} {xs ys:List α} {i lo hi:Int} {f:α→List G} {T:Kv} {t e:TypeId} {ti:TyI} {r:ρ}
theorem bC {o:Option α} {K:α→Option ρ} (h:o.bind K=some r):∃ x,o=some x∧K x=some r:=Option.bind_eq_some_iff.1 h
theorem bE {K:α→Option ρ} (ht:T t=some ti) (hf:∀ x,(f x).length=ti.size) (h0:0 < ti.size) (h:(Xj xs i).bind K=some r) :
  ∃ x,Xj xs i=some x∧0≤i∧i < (xs.length:Int)∧Zhy T t (fl f xs) (i.toNat * ti.size)=(if ti.k.isAgg then some (.agg (f x)) else (f x)[0]?)∧K x=some r:=by
 obtain ⟨x,hx,h⟩:=Option.bind_eq_some_iff.1 h
 exact ⟨x,hx,Z6u hx,Ydi hx,Z92 ht hf h0 hx,h⟩
theorem bS {K:List α→Option ρ} {lo hi:Option KI} {a b:Int} (hlo:bLo lo=a) (hhi:bHi hi xs.length=b) (ht:Yu T t=some (.slice e)) (he:T e=some ti) (hf:∀ x,(f x).length=ti.size) (h:(Zen xs a b).bind K=some r) :
  ∃ ys,0≤a∧a≤b∧b≤xs.length∧Zhp T t (.sl xs.length (fl f xs)) lo hi none=some (True,.sl ys.length (fl f ys))∧K ys=some r:=by
 subst hlo hhi
 obtain ⟨ys,hy,h⟩:=Option.bind_eq_some_iff.1 h
 have h1:=Z0x hy
 have h2:=Z0w hy
 have h3:=Z0v hy
 refine ⟨ys,h1,h2,h3,?_,h⟩
 rw [Z8k ht he hf hy]
 simp only [h1,h2,h3,bMx,Int.le_refl,and_self]
theorem bS3 {K:List α→Option ρ} {lo:Option KI} {hi:KI} {a b:Int} (hlo:bLo lo=a) (hhi:hi.2=b) (ht:Yu T t=some (.slice e)) (he:T e=some ti) (hf:∀ x,(f x).length=ti.size) (h:(Zen xs a b).bind K=some r) :
  ∃ ys,0≤a∧a≤b∧b≤xs.length∧Zhp T t (.sl xs.length (fl f xs)) lo (some hi) (some hi)=some (True,.sl ys.length (fl f ys))∧K ys=some r:=by
 subst hlo hhi
 obtain ⟨ys,hy,h⟩:=Option.bind_eq_some_iff.1 h
 have h1:=Z0x hy
 have h2:=Z0w hy
 have h3:=Z0v hy
 refine ⟨ys,h1,h2,h3,?_,h⟩
 rw [Z4o ht he hf hy]
 simp only [h1,h2,h3,Int.le_refl,and_self]
theorem bA {b k:Nat} {K:List α→Option ρ} (hk:ys.length=k) (h:(Gc b xs ys).bind K=some r):∃ zs,(xs.length+k) * b≤140737488355328∧xs.length+k≤140737488355328∧zs=xs++ys∧K zs=some r:=by
 obtain ⟨zs,hz,h⟩:=Option.bind_eq_some_iff.1 h
 subst hk
 exact ⟨zs,Zub hz,Zuc hz,Zo8 hz,h⟩
theorem bA0 {b k:Nat} {K:List α→Option ρ} (hk:ys.length=k) (h:(Gc b ([]:List α) ys).bind K=some r):∃ zs,k * b≤140737488355328∧k≤140737488355328∧zs=ys∧K zs=some r:=by
 obtain ⟨zs,hz,h⟩:=Option.bind_eq_some_iff.1 h
 subst hk
 have h1:=Zub hz
 have h2:=Zuc hz
 simp only [List.length_nil,Nat.zero_add] at h1 h2
 exact ⟨zs,h1,h2,Zo8 hz,h⟩
theorem bG {c:Prop} [Decidable c] {K:Unit→Option ρ} (h:(Zob c).bind K=some r):c∧K ()=some r:=by
 obtain ⟨u,hu,h⟩:=Option.bind_eq_some_iff.1 h
 exact ⟨Z93 hu,h⟩
theorem bM {b:Nat} {x:α} {K:List α→Option ρ} (h:(Zl5 b i x).bind K=some r):∃ zs,0≤i∧(b:Int) * i≤140737488355328∧i≤140737488355328∧zs=List.replicate i.toNat x∧K zs=some r:=by
 obtain ⟨zs,hz,h⟩:=Option.bind_eq_some_iff.1 h
 have:=Ydt hz
 exact ⟨zs,this.1,this.2.1,this.2.2,Yaj hz,h⟩
end
section
variable {P:Program} {T:Kv} {O O' X X':Objs} {n n' n0:Nat} {E E':Env} {Q:GQ} {c x y:Code}
theorem Zzc (l:List (Nat×G)):∀ k:List Nat,leL l (Zno l k)
 | []=>trivial
 | _::k=>⟨rfl,Zzc l k⟩
theorem Zlm {ba:Nat} (keep:List Nat) (h:W P ba x (Y1 (fun E O n=>W P ba y Q ⟨E.n,[],Zno E.l keep⟩ O n) Q) E O n):W P ba (.seq x y) Q E O n:=by
 refine Zk fun hb w m a hM hE => ?_
 refine wp_mono (h hb w m a hM hE) fun e a' w' ⟨E2,O2,n2,m2,h1,h2,h3,h4⟩=>⟨E2,O2,n2,m2,?_,h2,h3,h4⟩
 cases e with
 | normal=>exact fun hb3 w3 m3 a3 hM3 hE3=>(h1:W P ba y Q _ O2 n2) hb3 w3 m3 a3 hM3 (hE3.le ⟨rfl,Zzc _ _⟩)
 | exit id=>exact h1
 | goto l=>exact h1
 | ret=>exact h1
 | panic ch=>exact h1
 | outgrown=>exact h1
theorem Zxm {ba:Nat} (hb:ba≤n):Fit2 ba E O n E O n:=fun w m a hM hE=>⟨m,hM,hE,(Ext.refl w O m n).base hb⟩
theorem Z9 {l l':List (Option GObj)} {k:Nat} (hU:Und X n) (hk:l'.length=k) (hn:E'.n=E.n) (h:Zlw (Zq X n l) (Zq X n l') (n+k) l l'∧Zw3 (Zq X n l) (Zq X n l') (n+k) E.l E'.l):Fit E (Zq X n l) E' (Zq X n l') (n+k) :=
 ⟨hn,Zhb hk (OutLe.refl hU (Nat.le_add_right _ _)) h.1,h.2⟩
theorem Z5 {i:Nat} {q q':GObj} {l l':List (Option GObj)} {k:Nat} (hU:Und X n) (hk:l'.length=k) (hn:E'.n=E.n)
  (h:Zga q q'∧U8 (Zq (X.upd i (some q)) n l) (Zq (X.upd i (some q')) n l') (n+k) q.cells q'.cells∧Zlw (Zq (X.upd i (some q)) n l) (Zq (X.upd i (some q')) n l') (n+k) l l'∧Zw3 (Zq (X.upd i (some q)) n l) (Zq (X.upd i (some q')) n l') (n+k) E.l E'.l) :
  Fit E (Zq (X.upd i (some q)) n l) E' (Zq (X.upd i (some q')) n l') (n+k) :=
 ⟨hn,Zhb hk (OutLe.upd hU (Nat.le_add_right _ _) h.1 h.2.1) h.2.2.1,h.2.2.2⟩
theorem Zyi {ba:Nat} {r:G} {rs:List ResultVar} {l:List (Option GObj)} {e:Exit} (he:e = .normal∨e = .ret) (hU:Und X n) (gs:List G) (hb:ba≤n') (h:Zlf T (Zq X n l) E rs=some gs∧wk (Zq X n l) X n (gone gs) r):Fin T rs r ba X n e E (Zq X n l) n' :=
 ⟨he,E,_,n',gs,Zxm hb,h.1,Yae hU.fresh (OutLe.refl hU (Nat.le_refl _)),h.2⟩
end
end Go.Proofs.Ytibgpnmmgffgeaa
