/- Part H6 of the ghost memory: lemmas and contracts used by the proofs of this seat's laws; each theorem bears its own conditions. -/
import Derived.Test.YtmjjjfamipncdaaGreatH5
namespace Go.Proofs.YtmjjjfamipncdaaGreat
open Go.RowKit
set_option linter.unusedVariables false
set_option linter.unusedSimpArgs false
section
variable {P:Program} {T:J0} {O O' X X':Objs} {n n' n0 ba:Nat} {E E':Env} {Q:GQ} {c x y:Code}
def Gh {Z1 Z2:Type} (J1:Z1→GQ) (J2:Z2→GQ):Z1 ⊕ Z2→GQ
 | .inl z=>J1 z
 | .inr z=>J2 z
theorem Z7c {Z:Type} {J:Z→GQ} {z:Z} (h:W P ba x (J z) E O n) (k:W P ba x (J z) E O n→W P ba (.seq x y) Q E O n):W P ba (.seq x y) Q E O n:=k h
theorem Znp {Z:Type} {J:Z→GQ} {z:Z} {id:Nat} (h:W P ba c (J z) E O n) (k:W P ba c (J z) E O n→W P ba (.block id c) Q E O n):W P ba (.block id c) Q E O n:=k h
theorem Xx {id:Nat} (h:W P ba c (JX id ba E' O' n0) E O n) (k:Q .normal E' O' n0):W P ba (.block id c) Q E O n :=
 Yo (Yfb h (by show Ze id Q (.exit id) E' O' n0;simp only [Ze,if_true];exact k))
theorem Zea {id:Nat} (h:W P ba c (JR ba E' O' n0) E O n) (k:Q .ret E' O' n0):W P ba (.block id c) Q E O n:=Yo (Yfa h k)
theorem Zj3 {i:Nat} {o:Option GObj} (h:O i=o):O.upd i o=O:=by
 funext j;unfold Objs.upd;split
 ·rename_i e;subst e;exact h.symm
 rfl
theorem Zbk {i:Nat} {o:Option GObj} (hU:Und O n) (hi:i < n):∀ j,n≤j→O.upd i o j=none:=fun j hj=>by rw [Yb _ _ (by omega)];exact hU.fresh j hj
theorem Yaj (O:Objs) (i:Nat) (a b:Option GObj):(O.upd i a).upd i b=O.upd i b:=by funext j;unfold Objs.upd;split <;> rfl
theorem Zec {α:Type} {f:α→List G} (h:∀ x,(f x).all G.one=true):∀ xs:List α,(fl f xs).all G.one=true
 | []=>rfl
 | x::xs=>by rw [Kz,List.all_append,h x,Zec h xs];rfl
section
variable {α:Type} {xs ys:List α} {f:α→List G} {t e:TypeId} {ie:TyI}
theorem Yeg {lo hi:Int} {sz:Nat} (hf:∀ x,(f x).length=sz) (h:Zg9 xs lo hi=some ys):((fl f xs).drop (lo.toNat * sz)).take ((hi - lo).toNat * sz)=fl f ys:=by
 rw [Zop hf,Zx1 hf,Z4s h]
theorem Z5w {lo hi:Option KI} (ht:Z9 T t=some (.slice e)) (he:T e=some ie) (hf:∀ x,(f x).length=ie.size) (h:Zg9 xs (bLo lo) (bHi hi xs.length)=some ys) :
  Znx T t (.sl xs.length (fl f xs)) lo hi none=some (0≤bLo lo∧bLo lo≤bHi hi xs.length∧bHi hi xs.length≤bMx none xs.length∧bMx none xs.length≤xs.length,.sl ys.length (fl f ys)):=by
 unfold Znx
 simp only [ht,he,Option.isSome_none,Bool.false_eq_true,false_and,if_false]
 rw [Yeg hf h,← Yab h]
end
end
theorem Zdx (T:J0) (t:TypeId) (c:G) (cs:List G) (off:Nat):Zc2 T t (c::cs) off=match T t with
  | none=>none
  | some i=>if i.k.isAgg then (if off+i.size≤(c::cs).length then some (.agg (((c::cs).drop off).take i.size)) else none) else (c::cs)[off]? := rfl
theorem Zcm (c:G) (cells cs:List G) (off:Nat):Uj (c::cells) cs off=if off+cs.length≤(c::cells).length then some ((c::cells).take off++cs++(c::cells).drop (off+cs.length)) else none:=rfl
section
variable {O O':Objs} {n':Nat}
theorem Zmx:wkl O O' n' [] []=True:=by simp [wkl]
theorem Zdc (g g':G) (r r':List G):wkl O O' n' (g::r) (g'::r')=(wk O O' n' g g'∧wkl O O' n' r r'):=by
 simp only [wkl,List.cons.injEq,eq_iff_iff]
 exact ⟨fun ⟨_,_,⟨rfl,rfl⟩,h⟩=>h,fun h=>⟨_,_,⟨rfl,rfl⟩,h⟩⟩
theorem Zr0 (g:G) (u:Value):wk O O' n' g (.val u)=(g = .val u):=by unfold wk;rfl
theorem Yal (a b:List G):wk O O' n' (.agg a) (.agg b)=wkl O O' n' a b:=by simp [wk]
theorem Zuz (a b:List G):wk O O' n' (.tup a) (.tup b)=wkl O O' n' a b:=by simp [wk]
theorem Z1y (k k':Nat) (a b:List G):wk O O' n' (.sl k a) (.sl k' b)=(k=k'∧wkl O O' n' a b):=by simp [wk]
theorem Zpy (k k' c:Nat) (b:List G):wk O O' n' (.val (.slice none k c)) (.sl k' b)=(k=0∧k'=0∧b=[]):=by simp [wk]
theorem Zuy (i k k':Nat) (b:List G):wk O O' n' (.row i k) (.sl k' b)=(k=k'∧O' i=none∧∃ o,O i=some o∧o.row=true∧k=o.n∧wkl O O' n' o.cells b):=by simp [wk]
theorem Yan (i k k':Nat) (b:List G):wk O O' n' (.ref i k) (.ip b k')=(k=k'∧O' i=none∧∃ o,O i=some o∧o.row=false∧wkl O O' n' o.cells b):=by simp [wk]
theorem Z3k (g:G) (i k:Nat):wk O O' n' g (.row i k)=(g = .row i k∧i < n'):=by unfold wk;rfl
theorem Zrz (g:G) (i k:Nat):wk O O' n' g (.ref i k)=(g = .ref i k∧i < n'):=by unfold wk;rfl
theorem Zyk (n K:Nat):(n < n+K)=(0 < K):=by simp
theorem Z38 (n j K:Nat):(n+j < n+K)=(j < K):=by simp
end
theorem Zpz {O O':Objs} {n':Nat} (b b':List G):∀ a:List G,G.pures a=true→wkl O O' n' (a++b) (a++b')=wkl O O' n' b b'
 | [],_=>rfl
 | x::a,h=>by
  simp only [G.pures,Bool.and_eq_true] at h
  rw [List.cons_append,List.cons_append,Zdc,Zpz b b' a h.2,eq_iff_iff]
  exact ⟨fun q=>q.2,fun q=>⟨Zzg x (Zij _ x h.1),q⟩⟩
theorem Zin {S R:Type} {step:S→Option (S ⊕ R)} (I:S→Prop) (m:S→Nat) (post:R→Prop)
  (hstep:∀ s,I s→(∃ s',step s=some (.inl s')∧I s'∧m s' < m s)∨(∃ r,step s=some (.inr r)∧post r)):∀ s,I s→∃ r,Z6 step s=some r∧post r:=by
 have key:∀ k s,m s≤k→I s→∃ r,Z6 step s=some r∧post r:=by
  intro k
  induction k with
  | zero =>
   intro s hm hi
   rcases hstep s hi with ⟨s',h1,h2,h3⟩ | ⟨r,h1,h2⟩
   ·omega
   exact ⟨r,Yt h1,h2⟩
  | succ k ih =>
   intro s hm hi
   rcases hstep s hi with ⟨s',h1,h2,h3⟩ | ⟨r,h1,h2⟩
   ·obtain ⟨r,h4,h5⟩:=ih s' (by omega) h2
    exact ⟨r,by rw [X9 h1];exact h4,h5⟩
   exact ⟨r,Yt h1,h2⟩
 exact fun s hi=>key (m s) s (Nat.le_refl _) hi
theorem Zod {S R:Type} {step:S→Option (S ⊕ R)} {r:R} (I:S→Prop) (m:S→Nat)
  (hstep:∀ s,I s→(∃ s',step s=some (.inl s')∧I s'∧m s' < m s)∨step s=some (.inr r)) (s:S) (hi:I s):Z6 step s=some r:=by
 obtain ⟨r',h1,h2⟩:=Zin I m (·=r) (fun s hi=>by rcases hstep s hi with h | h;exact .inl h;exact .inr ⟨r,h,rfl⟩) s hi
 rw [h1,h2]
end Go.Proofs.YtmjjjfamipncdaaGreat
