/- Part H6 of the ghost memory: lemmas and contracts used by the proofs of this seat's laws; each theorem bears its own conditions. -/
import Derived.Test.YtaddaloondpnkaaH5
namespace Go.Proofs.Ytaddaloondpnkaa
open Go.RowKit
set_option linter.unusedVariables false
set_option linter.unusedSimpArgs false
section
variable {P:Program} {T:Kf} {O O' X X':Objs} {n n' n0 ba:Nat} {E E':Env} {Q:GQ} {c x y:Code}
def Qu {Z1 Z2:Type} (J1:Z1→GQ) (J2:Z2→GQ):Z1 ⊕ Z2→GQ
 | .inl z=>J1 z
 | .inr z=>J2 z
theorem Z5j {Z:Type} {J:Z→GQ} {z:Z} (h:W P ba x (J z) E O n) (k:W P ba x (J z) E O n→W P ba (.seq x y) Q E O n):W P ba (.seq x y) Q E O n:=k h
theorem Za6 {Z:Type} {J:Z→GQ} {z:Z} {id:Nat} (h:W P ba c (J z) E O n) (k:W P ba c (J z) E O n→W P ba (.block id c) Q E O n):W P ba (.block id c) Q E O n:=k h
theorem Y2 {id:Nat} (h:W P ba c (JX id ba E' O' n0) E O n) (k:Q .normal E' O' n0):W P ba (.block id c) Q E O n :=
 Yl (Yb9 h (by show Ze id Q (.exit id) E' O' n0;simp only [Ze,if_true];exact k))
theorem Vn {id:Nat} (h:W P ba c (JR ba E' O' n0) E O n) (k:Q .ret E' O' n0):W P ba (.block id c) Q E O n:=Yl (Yb8 h k)
theorem Zh2 {i:Nat} {o:Option GObj} (h:O i=o):O.upd i o=O:=by
 funext j;unfold Objs.upd;split
 ·rename_i e;subst e;exact h.symm
 rfl
theorem J8 {i:Nat} {o:Option GObj} (hU:Und O n) (hi:i < n):∀ j,n≤j→O.upd i o j=none:=fun j hj=>by rw [Ya _ _ (by omega)];exact hU.fresh j hj
theorem Zfo (O:Objs) (i:Nat) (a b:Option GObj):(O.upd i a).upd i b=O.upd i b:=by funext j;unfold Objs.upd;split <;> rfl
theorem Znr {α:Type} {f:α→List G} (h:∀ x,(f x).all G.one=true):∀ xs:List α,(fl f xs).all G.one=true
 | []=>rfl
 | x::xs=>by rw [V3,List.all_append,h x,Znr h xs];rfl
section
variable {α:Type} {xs ys:List α} {f:α→List G} {t e:TypeId} {ie:TyI}
theorem Ybd {lo hi:Int} {sz:Nat} (hf:∀ x,(f x).length=sz) (h:Zhj xs lo hi=some ys):((fl f xs).drop (lo.toNat * sz)).take ((hi - lo).toNat * sz)=fl f ys:=by
 rw [Zov hf,Zxj hf,Z3h h]
theorem Z39 {lo hi:Option KI} (ht:Yf T t=some (.slice e)) (he:T e=some ie) (hf:∀ x,(f x).length=ie.size) (h:Zhj xs (bLo lo) (bHi hi xs.length)=some ys) :
  Zn1 T t (.sl xs.length (fl f xs)) lo hi none=some (0≤bLo lo∧bLo lo≤bHi hi xs.length∧bHi hi xs.length≤bMx none xs.length∧bMx none xs.length≤xs.length,.sl ys.length (fl f ys)):=by
 unfold Zn1
 simp only [ht,he,Option.isSome_none,Bool.false_eq_true,false_and,if_false]
 rw [Ybd hf h,← Z74 h]
end
end
theorem Zef (T:Kf) (t:TypeId) (c:G) (cs:List G) (off:Nat):Ze1 T t (c::cs) off=match T t with
  | none=>none
  | some i=>if i.k.isAgg then (if off+i.size≤(c::cs).length then some (.agg (((c::cs).drop off).take i.size)) else none) else (c::cs)[off]? := rfl
theorem Zcw (c:G) (cells cs:List G) (off:Nat):Uh (c::cells) cs off=if off+cs.length≤(c::cells).length then some ((c::cells).take off++cs++(c::cells).drop (off+cs.length)) else none:=rfl
section
variable {O O':Objs} {n':Nat}
theorem Zmz:wkl O O' n' [] []=True:=by simp [wkl]
theorem Zds (g g':G) (r r':List G):wkl O O' n' (g::r) (g'::r')=(wk O O' n' g g'∧wkl O O' n' r r'):=by
 simp only [wkl,List.cons.injEq,eq_iff_iff]
 exact ⟨fun ⟨_,_,⟨rfl,rfl⟩,h⟩=>h,fun h=>⟨_,_,⟨rfl,rfl⟩,h⟩⟩
theorem Zrr (g:G) (u:Value):wk O O' n' g (.val u)=(g = .val u):=by unfold wk;rfl
theorem Z2h (a b:List G):wk O O' n' (.agg a) (.agg b)=wkl O O' n' a b:=by simp [wk]
theorem Zrq (a b:List G):wk O O' n' (.tup a) (.tup b)=wkl O O' n' a b:=by simp [wk]
theorem Yd1 (f f' k k':Nat) (a b:List G):wk O O' n' (.fn f k a) (.fn f' k' b)=(f=f'∧k=k'∧wkl O O' n' a b):=by
 simp only [wk,G.fn.injEq,eq_iff_iff]
 exact ⟨fun ⟨_,⟨h1,h2,rfl⟩,h⟩=>⟨h1,h2,h⟩,fun ⟨h1,h2,h⟩=>⟨_,⟨h1,h2,rfl⟩,h⟩⟩
theorem Z04 (k k':Nat) (a b:List G):wk O O' n' (.sl k a) (.sl k' b)=(k=k'∧wkl O O' n' a b):=by simp [wk]
theorem Zj8 (k k' c:Nat) (b:List G):wk O O' n' (.val (.slice none k c)) (.sl k' b)=(k=0∧k'=0∧b=[]):=by simp [wk]
theorem Zpu (i k k':Nat) (b:List G):wk O O' n' (.row i k) (.sl k' b)=(k=k'∧O' i=none∧∃ o,O i=some o∧o.row=true∧k=o.n∧wkl O O' n' o.cells b):=by simp [wk]
theorem Z03 (i k k':Nat) (b:List G):wk O O' n' (.ref i k) (.ip b k')=(k=k'∧O' i=none∧∃ o,O i=some o∧o.row=false∧wkl O O' n' o.cells b):=by simp [wk]
theorem Zyw (g:G) (i k:Nat):wk O O' n' g (.row i k)=(g = .row i k∧i < n'):=by unfold wk;rfl
theorem Zrp (g:G) (i k:Nat):wk O O' n' g (.ref i k)=(g = .ref i k∧i < n'):=by unfold wk;rfl
theorem Zx3 (n K:Nat):(n < n+K)=(0 < K):=by simp
theorem Z2z (n j K:Nat):(n+j < n+K)=(j < K):=by simp
end
theorem Zka {O O':Objs} {n':Nat} (b b':List G):∀ a:List G,G.pures a=true→wkl O O' n' (a++b) (a++b')=wkl O O' n' b b'
 | [],_=>rfl
 | x::a,h=>by
  simp only [G.pures,Bool.and_eq_true] at h
  rw [List.cons_append,List.cons_append,Zds,Zka b b' a h.2,eq_iff_iff]
  exact ⟨fun q=>q.2,fun q=>⟨Zyv x (Zik _ x h.1),q⟩⟩
theorem Ziq {S R:Type} {step:S→Option (S ⊕ R)} (I:S→Prop) (m:S→Nat) (post:R→Prop)
  (hstep:∀ s,I s→(∃ s',step s=some (.inl s')∧I s'∧m s' < m s)∨(∃ r,step s=some (.inr r)∧post r)):∀ s,I s→∃ r,Z6 step s=some r∧post r:=by
 have key:∀ k s,m s≤k→I s→∃ r,Z6 step s=some r∧post r:=by
  intro k
  induction k with
  | zero =>
   intro s hm hi
   rcases hstep s hi with ⟨s',h1,h2,h3⟩ | ⟨r,h1,h2⟩
   ·omega
   exact ⟨r,Yr h1,h2⟩
  | succ k ih =>
   intro s hm hi
   rcases hstep s hi with ⟨s',h1,h2,h3⟩ | ⟨r,h1,h2⟩
   ·obtain ⟨r,h4,h5⟩:=ih s' (by omega) h2
    exact ⟨r,by rw [Xc h1];exact h4,h5⟩
   exact ⟨r,Yr h1,h2⟩
 exact fun s hi=>key (m s) s (Nat.le_refl _) hi
theorem Zoj {S R:Type} {step:S→Option (S ⊕ R)} {r:R} (I:S→Prop) (m:S→Nat)
  (hstep:∀ s,I s→(∃ s',step s=some (.inl s')∧I s'∧m s' < m s)∨step s=some (.inr r)) (s:S) (hi:I s):Z6 step s=some r:=by
 obtain ⟨r',h1,h2⟩:=Ziq I m (·=r) (fun s hi=>by rcases hstep s hi with h | h;exact .inl h;exact .inr ⟨r,h,rfl⟩) s hi
 rw [h1,h2]
end Go.Proofs.Ytaddaloondpnkaa
