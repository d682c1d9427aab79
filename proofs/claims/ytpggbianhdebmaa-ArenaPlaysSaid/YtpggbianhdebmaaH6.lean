/- Part H6 of the ghost memory: lemmas and contracts used by the proofs of this seat's laws; each theorem bears its own conditions. -/
import Derived.Test.YtpggbianhdebmaaH3
namespace Go.Proofs.Ytpggbianhdebmaa
open Go.RowKit
set_option linter.unusedVariables false
set_option linter.unusedSimpArgs false
section
variable {P:Program} {T:X0} {O O' X X':Objs} {n n' n0 ba:Nat} {E E':Env} {Q:GQ} {c x y:Code}
def Zl8 {Z1 Z2:Type} (J1:Z1→GQ) (J2:Z2→GQ):Z1 ⊕ Z2→GQ
 | .inl z=>J1 z
 | .inr z=>J2 z
theorem Zpl {Z:Type} {J:Z→GQ} {z:Z} {id:Nat} (h:W P ba c (J z) E O n) (k:W P ba c (J z) E O n→W P ba (.block id c) Q E O n):W P ba (.block id c) Q E O n:=k h
theorem Zer {id:Nat} (h:W P ba c (JX id ba E' O' n0) E O n) (k:Q .normal E' O' n0):W P ba (.block id c) Q E O n :=
 J5 (Zsm h (by show Zi id Q (.exit id) E' O' n0;simp only [Zi,if_true];exact k))
theorem Zma {id:Nat} (h:W P ba c (JR ba E' O' n0) E O n) (k:Q .ret E' O' n0):W P ba (.block id c) Q E O n:=J5 (Zsl h k)
theorem Zam (O:Objs) (i:Nat) (a b:Option GObj):(O.upd i a).upd i b=O.upd i b:=by funext j;unfold Objs.upd;split <;> rfl
theorem Kb {α:Type} {f:α→List G} (h:∀ x,(f x).all G.one=true):∀ xs:List α,(fl f xs).all G.one=true
 | []=>rfl
 | x::xs=>by rw [Q0,List.all_append,h x,Kb h xs];rfl
section
variable {α:Type} {xs ys:List α} {f:α→List G} {t e:TypeId} {ie:TyI}
theorem Zr0 {lo hi:Int} {sz:Nat} (hf:∀ x,(f x).length=sz) (h:Zgv xs lo hi=some ys):((fl f xs).drop (lo.toNat * sz)).take ((hi - lo).toNat * sz)=fl f ys:=by
 rw [Zjq hf,Zlo hf,Zop h]
theorem Zo5 {lo hi:Option KI} (ht:Z4 T t=some (.slice e)) (he:T e=some ie) (hf:∀ x,(f x).length=ie.size) (h:Zgv xs (K5 lo) (bHi hi xs.length)=some ys) :
  U3 T t (.sl xs.length (fl f xs)) lo hi none=some (0≤K5 lo∧K5 lo≤bHi hi xs.length∧bHi hi xs.length≤bMx none xs.length∧bMx none xs.length≤xs.length,.sl ys.length (fl f ys)):=by
 unfold U3
 simp only [ht,he,Option.isSome_none,Bool.false_eq_true,false_and,if_false]
 rw [Zr0 hf h,← Zqa h]
end
end
theorem V6 (T:X0) (t:TypeId) (c:G) (cs:List G) (off:Nat):Zgc T t (c::cs) off=match T t with
  | none=>none
  | some i=>if i.k.isAgg then (if off+i.size≤(c::cs).length then some (.agg (((c::cs).drop off).take i.size)) else none) else (c::cs)[off]? := rfl
theorem Ko (c:G) (cells cs:List G) (off:Nat):Jt (c::cells) cs off=if off+cs.length≤(c::cells).length then some ((c::cells).take off++cs++(c::cells).drop (off+cs.length)) else none:=rfl
section
variable {O O':Objs} {n':Nat}
theorem Zdw:Q4 O O' n' [] []=True:=by simp [Q4]
theorem Vl (g g':G) (r r':List G):Q4 O O' n' (g::r) (g'::r')=(wk O O' n' g g'∧Q4 O O' n' r r'):=by
 simp only [Q4,List.cons.injEq,eq_iff_iff]
 exact ⟨fun ⟨_,_,⟨rfl,rfl⟩,h⟩=>h,fun h=>⟨_,_,⟨rfl,rfl⟩,h⟩⟩
theorem Zfr (g:G):wk O O' n' g .any=True:=by unfold wk;rfl
theorem Zfv (g:G) (u:Value):wk O O' n' g (.val u)=(g = .val u):=by unfold wk;rfl
theorem Zfq (a b:List G):wk O O' n' (.agg a) (.agg b)=Q4 O O' n' a b:=by simp [wk]
theorem Zfu (a b:List G):wk O O' n' (.tup a) (.tup b)=Q4 O O' n' a b:=by simp [wk]
theorem Zjf (f f' k k':Nat) (a b:List G):wk O O' n' (.fn f k a) (.fn f' k' b)=(f=f'∧k=k'∧Q4 O O' n' a b):=by
 simp only [wk,G.fn.injEq,eq_iff_iff]
 exact ⟨fun ⟨_,⟨h1,h2,rfl⟩,h⟩=>⟨h1,h2,h⟩,fun ⟨h1,h2,h⟩=>⟨_,⟨h1,h2,rfl⟩,h⟩⟩
theorem Zjk (k k':Nat) (a b:List G):wk O O' n' (.sl k a) (.sl k' b)=(k=k'∧Q4 O O' n' a b):=by simp [wk]
theorem Ux (k k' c:Nat) (b:List G):wk O O' n' (.val (.slice none k c)) (.sl k' b)=(k=0∧k'=0∧b=[]):=by simp [wk]
theorem Zao (i k k':Nat) (b:List G):wk O O' n' (.row i k) (.sl k' b)=(k=k'∧O' i=none∧∃ o,O i=some o∧o.row=true∧k=o.n∧Q4 O O' n' o.cells b):=by simp [wk]
theorem Zdv (i off k k':Nat) (b:List G):wk O O' n' (.rs i off k) (.sl k' b)=(off=0∧k=k'∧O' i=none∧∃ o,O i=some o∧o.row=false∧Q4 O O' n' o.cells b):=by simp [wk]
theorem Zjg (k k':Nat) (a b:List G):wk O O' n' (.ip a k) (.ip b k')=(k=k'∧Q4 O O' n' a b):=by simp [wk]
theorem Zan (i k k':Nat) (b:List G):wk O O' n' (.ref i k) (.ip b k')=(k=k'∧O' i=none∧∃ o,O i=some o∧o.row=false∧Q4 O O' n' o.cells b):=by simp [wk]
theorem Zft (g:G) (i k:Nat):wk O O' n' g (.row i k)=(g = .row i k∧i < n'):=by unfold wk;rfl
theorem Zjj (g:G) (i o k:Nat):wk O O' n' g (.rs i o k)=(g = .rs i o k∧i < n'):=by unfold wk;rfl
theorem Zji (g:G) (i o k:Nat):wk O O' n' g (.rp i o k)=(g = .rp i o k∧i < n'):=by unfold wk;rfl
theorem Zjh (g:G) (i o k l:Nat):wk O O' n' g (.rl i o k l)=(g = .rl i o k l∧i < n'):=by unfold wk;rfl
theorem Zfs (g:G) (i k:Nat):wk O O' n' g (.ref i k)=(g = .ref i k∧i < n'):=by unfold wk;rfl
theorem Ze7 (n K:Nat):(n < n+K)=(0 < K):=by simp
theorem Zih (n j K:Nat):(n+j < n+K)=(j < K):=by simp
end
theorem Zeb {O O':Objs} {n':Nat} (b b':List G):∀ a:List G,G.pures a=true→Q4 O O' n' (a++b) (a++b')=Q4 O O' n' b b'
 | [],_=>rfl
 | x::a,h=>by
  simp only [G.pures,Bool.and_eq_true] at h
  rw [List.cons_append,List.cons_append,Vl,Zeb b b' a h.2,eq_iff_iff]
  exact ⟨fun q=>q.2,fun q=>⟨Ge x (Zei _ x h.1),q⟩⟩
theorem Zej {S R:Type} {step:S→Option (S ⊕ R)} (I:S→Prop) (m:S→Nat) (post:R→Prop)
  (hstep:∀ s,I s→(∃ s',step s=some (.inl s')∧I s'∧m s' < m s)∨(∃ r,step s=some (.inr r)∧post r)):∀ s,I s→∃ r,Qk step s=some r∧post r:=by
 have key:∀ k s,m s≤k→I s→∃ r,Qk step s=some r∧post r:=by
  intro k
  induction k with
  | zero =>
   intro s hm hi
   rcases hstep s hi with ⟨s',h1,h2,h3⟩ | ⟨r,h1,h2⟩
   ·omega
   exact ⟨r,Zil h1,h2⟩
  | succ k ih =>
   intro s hm hi
   rcases hstep s hi with ⟨s',h1,h2,h3⟩ | ⟨r,h1,h2⟩
   ·obtain ⟨r,h4,h5⟩:=ih s' (by omega) h2
    exact ⟨r,by rw [Zl7 h1];exact h4,h5⟩
   exact ⟨r,Zil h1,h2⟩
 exact fun s hi=>key (m s) s (Nat.le_refl _) hi
theorem Zgt {S R:Type} {step:S→Option (S ⊕ R)} {r:R} (I:S→Prop) (m:S→Nat)
  (hstep:∀ s,I s→(∃ s',step s=some (.inl s')∧I s'∧m s' < m s)∨step s=some (.inr r)) (s:S) (hi:I s):Qk step s=some r:=by
 obtain ⟨r',h1,h2⟩:=Zej I m (·=r) (fun s hi=>by rcases hstep s hi with h | h;exact .inl h;exact .inr ⟨r,h,rfl⟩) s hi
 rw [h1,h2]
section
variable {α β ρ:Type} {xs ys:List α} {i lo hi:Int} {f:α→List G} {T:X0} {t e:TypeId} {ti:TyI} {r:ρ}
theorem bC {o:Option α} {K:α→Option ρ} (h:o.bind K=some r):∃ x,o=some x∧K x=some r:=Option.bind_eq_some_iff.1 h
theorem bE {K:α→Option ρ} (ht:T t=some ti) (hf:∀ x,(f x).length=ti.size) (h0:0 < ti.size) (h:(Zv xs i).bind K=some r) :
  ∃ x,Zv xs i=some x∧0≤i∧i < (xs.length:Int)∧Zgc T t (fl f xs) (i.toNat * ti.size)=(if ti.k.isAgg then some (.agg (f x)) else (f x)[0]?)∧K x=some r:=by
 obtain ⟨x,hx,h⟩:=Option.bind_eq_some_iff.1 h
 exact ⟨x,hx,Zob hx,Zqr hx,Zpu ht hf h0 hx,h⟩
theorem bS {K:List α→Option ρ} {lo hi:Option KI} {a b:Int} (hlo:K5 lo=a) (hhi:bHi hi xs.length=b) (ht:Z4 T t=some (.slice e)) (he:T e=some ti) (hf:∀ x,(f x).length=ti.size) (h:(Zgv xs a b).bind K=some r) :
  ∃ ys,0≤a∧a≤b∧b≤xs.length∧U3 T t (.sl xs.length (fl f xs)) lo hi none=some (True,.sl ys.length (fl f ys))∧K ys=some r:=by
 subst hlo hhi
 obtain ⟨ys,hy,h⟩:=Option.bind_eq_some_iff.1 h
 have h1:=Zos hy
 have h2:=Zor hy
 have h3:=Zoq hy
 refine ⟨ys,h1,h2,h3,?_,h⟩
 rw [Zo5 ht he hf hy]
 simp only [h1,h2,h3,bMx,Int.le_refl,and_self]
theorem bM {b:Nat} {x:α} {K:List α→Option ρ} (h:(Zhc b i x).bind K=some r):∃ zs,0≤i∧(b:Int) * i≤140737488355328∧i≤140737488355328∧zs=List.replicate i.toNat x∧K zs=some r:=by
 obtain ⟨zs,hz,h⟩:=Option.bind_eq_some_iff.1 h
 have:=Zqz hz
 exact ⟨zs,this.1,this.2.1,this.2.2,Zpv hz,h⟩
end
section
variable {P:Program} {T:X0} {O O' X X':Objs} {n n' n0:Nat} {E E':Env} {Q:GQ} {c x y:Code}
theorem Zlx (l:List (Nat×G)):∀ k:List Nat,leL l (Za6 l k)
 | []=>trivial
 | _::k=>⟨rfl,Zlx l k⟩
theorem Zh {ba:Nat} (keep:List Nat) (h:W P ba x (Zn (fun E O n=>W P ba y Q ⟨E.n,[],Za6 E.l keep⟩ O n) Q) E O n):W P ba (.seq x y) Q E O n:=by
 refine Zt fun hb w m a hM hE => ?_
 refine wp_mono (h hb w m a hM hE) fun e a' w' ⟨E2,O2,n2,m2,h1,h2,h3,h4⟩=>⟨E2,O2,n2,m2,?_,h2,h3,h4⟩
 cases e with
 | normal=>exact fun hb3 w3 m3 a3 hM3 hE3=>(h1:W P ba y Q _ O2 n2) hb3 w3 m3 a3 hM3 (hE3.le ⟨rfl,Zlx _ _⟩)
 | exit id=>exact h1
 | goto l=>exact h1
 | ret=>exact h1
 | panic ch=>exact h1
 | outgrown=>exact h1
theorem Zk7 {ba:Nat} (hb:ba≤n):Fit2 ba E O n E O n:=fun w m a hM hE=>⟨m,hM,hE,(Ext.refl w O m n).base hb⟩
theorem Y6 {l l':List (Option GObj)} {k:Nat} (hU:Und X n) (hk:l'.length=k) (hn:E'.n=E.n) (h:Zeu (Zu X n l) (Zu X n l') (n+k) l l'∧Zd2 (Zu X n l) (Zu X n l') (n+k) E.l E'.l):Fit E (Zu X n l) E' (Zu X n l') (n+k) :=
 ⟨hn,Zke hk (OutLe.refl hU (Nat.le_add_right _ _)) h.1,h.2⟩
theorem X1 {ba:Nat} {r:G} {rs:List ResultVar} {l:List (Option GObj)} {e:Exit} (he:e = .normal∨e = .ret) (hU:Und X n) (gs:List G) (hb:ba≤n') (h:Zbo T (Zu X n l) E rs=some gs∧wk (Zu X n l) X n (Zex gs) r):Fin T rs r ba X n e E (Zu X n l) n' :=
 ⟨he,E,_,n',gs,Zk7 hb,h.1,Zmw hU.fresh (OutLe.refl hU (Nat.le_refl _)),h.2⟩
end
end Go.Proofs.Ytpggbianhdebmaa
