/- Part H1 of the ghost memory: lemmas and contracts used by the proofs of this seat's laws; each theorem bears its own conditions. -/
import Derived.Test.YtmjjjfamipncdaaGreatG18
namespace Go.Proofs.YtmjjjfamipncdaaGreat
open Go.RowKit
set_option linter.unusedVariables false
set_option linter.unusedSimpArgs false
def fl {α:Type} (f:α→List G) (xs:List α):List G:=(xs.map f).flatten
section
variable {α:Type} {f:α→List G}
theorem Zde:fl f []=[]:=rfl
theorem Kz (x:α) (xs:List α):fl f (x::xs)=f x++fl f xs:=rfl
theorem Zdu (xs ys:List α):fl f (xs++ys)=fl f xs++fl f ys:=by simp [fl]
theorem Yee (x:α):fl f [x]=f x:=by simp [fl]
theorem Vo {k:Nat} (h:∀ x,(f x).length=k):∀ xs:List α,(fl f xs).length=xs.length * k
 | []=>by simp [fl]
 | x::xs=>by rw [Kz,List.length_append,h,Vo h xs,List.length_cons,Nat.succ_mul];omega
theorem Zop {k:Nat} (h:∀ x,(f x).length=k):∀ (i:Nat) (xs:List α),(fl f xs).drop (i * k)=fl f (xs.drop i)
 | 0,xs=>by simp
 | i+1,[]=>by simp [fl]
 | i+1,x::xs=>by
  rw [Kz,List.drop_succ_cons,← Zop h i xs,Nat.succ_mul,Nat.add_comm,← List.drop_drop]
  congr 1
  rw [← h x,List.drop_left]
theorem Zx1 {k:Nat} (h:∀ x,(f x).length=k):∀ (i:Nat) (xs:List α),(fl f xs).take (i * k)=fl f (xs.take i)
 | 0,xs=>by simp [fl]
 | i+1,[]=>by simp [fl]
 | i+1,x::xs=>by
  rw [Kz,List.take_succ_cons,Kz,← Zx1 h i xs,Nat.succ_mul,Nat.add_comm,List.take_append,h x,List.take_of_length_le (by rw [h x];omega),Nat.add_sub_cancel_left]
theorem Ycr {k:Nat} (h:∀ x,(f x).length=k) {xs:List α} {i:Nat} {x:α} (hx:xs[i]? = some x):((fl f xs).drop (i * k)).take k=f x:=by
 rw [Zop h]
 have hi:i < xs.length:=by
  rcases Nat.lt_or_ge i xs.length with h | h
  ·exact h
  rw [List.getElem?_eq_none h] at hx;cases hx
 rw [List.drop_eq_getElem_cons hi,Kz]
 have:xs[i]=x:=by rw [List.getElem?_eq_getElem hi] at hx;injection hx
 rw [this,← h x,List.take_left]
theorem Yef {k:Nat} (h:∀ x,(f x).length=k) {xs:List α} {i:Nat} {x:α} (hi:i < xs.length):(fl f xs).take (i * k)++f x++(fl f xs).drop (i * k+k)=fl f (xs.set i x):=by
 have e:i * k+k=(i+1) * k:=by rw [Nat.succ_mul]
 rw [e,Zx1 h,Zop h,List.set_eq_take_append_cons_drop,if_pos hi,Zdu,Kz,List.append_assoc]
end
mutual
/-- no object is named -/
def G.pure:G→Bool
 | .any | .val _=>true
 | .agg cs=>G.pures cs
 | .tup cs=>G.pures cs
 | .fn _ _ cs=>G.pures cs
 | .sl _ cs=>G.pures cs
 | .ip cs _=>G.pures cs
 | .row .. | .rs .. | .rp .. | .rl .. | .ref .. => false
 | .when _ g=>g.pure
def G.pures:List G→Bool
 | []=>true
 | g::gs=>g.pure && G.pures gs
end
theorem Gg:∀ (a b:List G),G.pures (a++b)=(G.pures a && G.pures b)
 | [],b=>by simp [G.pures]
 | x::a,b=>by simp [G.pures,Gg a b,Bool.and_assoc]
theorem X6 {α:Type} {f:α→List G} (h:∀ x,G.pures (f x)=true):∀ xs:List α,G.pures (fl f xs)=true
 | []=>rfl
 | x::xs=>by rw [Kz,Gg,h x,X6 h xs];rfl
mutual
theorem Zij (k:Nat):∀ g:G,g.pure=true→g.under k=true
 | .any,_=>rfl
 | .val _,_=>rfl
 | .agg cs,h=>by simp only [G.pure] at h;simp only [G.under];exact V7 k cs h
 | .tup cs,h=>by simp only [G.pure] at h;simp only [G.under];exact V7 k cs h
 | .fn _ _ cs,h=>by simp only [G.pure] at h;simp only [G.under];exact V7 k cs h
 | .sl _ cs,h=>by simp only [G.pure] at h;simp only [G.under];exact V7 k cs h
 | .ip cs _,h=>by simp only [G.pure] at h;simp only [G.under];exact V7 k cs h
 | .row ..,h=>by simp [G.pure] at h
 | .rs ..,h=>by simp [G.pure] at h
 | .rp ..,h=>by simp [G.pure] at h
 | .rl ..,h=>by simp [G.pure] at h
 | .ref ..,h=>by simp [G.pure] at h
 | .when b g,h=>by simp only [G.pure] at h;simp [G.under,Zij k g h]
theorem V7 (k:Nat):∀ gs:List G,G.pures gs=true→G.unders k gs=true
 | [],_=>rfl
 | g::gs,h=>by simp only [G.pures,Bool.and_eq_true] at h;simp [G.unders,Zij k g h.1,V7 k gs h.2]
end
section
variable {w w':World} {O O':Objs} {m m':Hands} {n n':Nat}
mutual
theorem Zui (ho:∀ b,owns O' m' b→owns O m b):∀ (g:G) (v:Value),g.pure=true→g.rep w O m n v→g.rep w O' m' n' v
 | .any,_,_,_=>by simp [G.rep]
 | .val _,_,_,h=>by simpa [G.rep] using h
 | .agg cs,v,hp,h=>by simp only [G.pure] at hp;simp only [G.rep] at h ⊢;obtain ⟨vs,e,hr⟩:=h;exact ⟨vs,e,Zcr ho cs _ hp hr⟩
 | .tup cs,v,hp,h=>by simp only [G.pure] at hp;simp only [G.rep] at h ⊢;obtain ⟨vs,e,hr⟩:=h;exact ⟨vs,e,Zcr ho cs _ hp hr⟩
 | .fn _ _ cs,v,hp,h=>by simp only [G.pure] at hp;simp only [G.rep] at h ⊢;obtain ⟨vs,e,hr⟩:=h;exact ⟨vs,e,Zcr ho cs _ hp hr⟩
 | .sl k cs,v,hp,h=>by
  simp only [G.pure] at hp
  simp only [G.rep] at h ⊢
  obtain ⟨A,c,e,hc,vs,hr,ha⟩:=h
  exact ⟨A,c,e,hc,vs,Zcr ho cs _ hp hr,fun hk=>by obtain ⟨g,off,e1,e2,e3,e4⟩:=ha hk;exact ⟨g,off,e1,e2,fun q=>e3 (ho _ q),e4⟩⟩
 | .ip cs k,v,hp,h=>by
  simp only [G.pure] at hp
  simp only [G.rep] at h ⊢
  obtain ⟨g,off,e,e2,e3,vs,hr,hc⟩:=h
  exact ⟨g,off,e,e2,fun q=>e3 (ho _ q),vs,Zcr ho cs _ hp hr,hc⟩
 | .row ..,_,hp,_=>by simp [G.pure] at hp
 | .rs ..,_,hp,_=>by simp [G.pure] at hp
 | .rp ..,_,hp,_=>by simp [G.pure] at hp
 | .rl ..,_,hp,_=>by simp [G.pure] at hp
 | .ref ..,_,hp,_=>by simp [G.pure] at hp
 | .when b g,v,hp,h=>by
  simp only [G.pure] at hp
  simp only [G.rep] at h ⊢
  exact ⟨fun hb=>Zui ho g v hp (h.1 hb),h.2⟩
theorem Zcr (ho:∀ b,owns O' m' b→owns O m b):∀ (gs:List G) (vs:List Value),G.pures gs=true→G.reps w O m n gs vs→G.reps w O' m' n' gs vs
 | [],_,_,h=>by simpa [G.reps] using h
 | g::gs,vs,hp,h=>by
  simp only [G.pures,Bool.and_eq_true] at hp
  simp only [G.reps] at h ⊢
  obtain ⟨u,us,e,k1,k2⟩:=h
  exact ⟨u,us,e,Zui ho g u hp.1 k1,Zcr ho gs us hp.2 k2⟩
end
mutual
/-- what is told in the second way is told in the first, the objects that 'O'' has not being let go -/
def wk (O O':Objs) (n':Nat) (g:G):G→Prop
 | .any=>True
 | .val u=>g = .val u
 | .agg cs'=>∃ cs,g = .agg cs∧wkl O O' n' cs cs'
 | .tup cs'=>∃ cs,g = .tup cs∧wkl O O' n' cs cs'
 | .fn f k cs'=>∃ cs,g = .fn f k cs∧wkl O O' n' cs cs'
 | .sl k cs'=>match g with
  | .sl k0 cs=>k0=k∧wkl O O' n' cs cs'
  | .val (.slice none k0 _)=>k0=0∧k=0∧cs'=[]
  | .row i k0=>k0=k∧O' i=none∧∃ o,O i=some o∧o.row=true∧k0=o.n∧wkl O O' n' o.cells cs'
  | .rs i off k0=>off=0∧k0=k∧O' i=none∧∃ o,O i=some o∧o.row=false∧wkl O O' n' o.cells cs'
  | .rl i kr off k0=>k0=k∧O' i=none∧∃ o,O i=some o∧o.row=true∧kr=o.n∧G.pures o.cells=true∧cs'=(o.cells.drop off).take cs'.length
  | _=>False
 | .ip cs' k=>match g with
  | .ip cs k0=>k0=k∧wkl O O' n' cs cs'
  | .ref i off=>off=k∧O' i=none∧∃ o,O i=some o∧o.row=false∧wkl O O' n' o.cells cs'
  | _=>False
 | .row i k=>g = .row i k∧i < n'
 | .rs i off k=>g = .rs i off k∧i < n'
 | .rp i k off=>g = .rp i k off∧i < n'
 | .rl i k off len=>g = .rl i k off len∧i < n'
 | .ref i off=>g = .ref i off∧i < n'
 | .when b h=>g = .when b h∧G.under n' (.when b h)=true
def wkl (O O':Objs) (n':Nat) (gs:List G):List G→Prop
 | []=>gs=[]
 | g'::gs'=>∃ g r,gs=g::r∧wk O O' n' g g'∧wkl O O' n' r gs'
end
structure LessO (O O':Objs) (n':Nat):Prop where
 fresh:∀ i,n'≤i→O' i=none
 obj:∀ i o',O' i=some o'→∃ o,O i=some o∧o'.row=o.row∧o'.ty=o.ty∧o'.sz=o.sz∧o'.n=o.n∧wkl O O' n' o.cells o'.cells
theorem LessO.owns (h:LessO O O' n') {b:Nat} (hb:owns O' m b):owns O m b:=by
 obtain ⟨i,o',h1,h2⟩:=hb
 obtain ⟨o,h3,_⟩:=h.obj i o' h1
 exact ⟨i,o,h3,h2⟩
mutual
theorem Zlm (h2:∀ i o',O' i=some o'→∃ o,O i=some o∧o'.row=o.row∧o'.n=o.n):∀ (g:G) (v:Value),g.rep w O m n v→g.under n'=true→g.rep w O' m n' v
 | .any,_,_,_=>by simp [G.rep]
 | .val _,_,h,_=>by simpa [G.rep] using h
 | .agg cs,v,h,hu=>by simp only [G.rep] at h ⊢;obtain ⟨vs,e,hr⟩:=h;exact ⟨vs,e,Za5 h2 cs _ hr hu⟩
 | .tup cs,v,h,hu=>by simp only [G.rep] at h ⊢;obtain ⟨vs,e,hr⟩:=h;exact ⟨vs,e,Za5 h2 cs _ hr hu⟩
 | .fn f k cs,v,h,hu=>by simp only [G.rep] at h ⊢;obtain ⟨vs,e,hr⟩:=h;exact ⟨vs,e,Za5 h2 cs _ hr hu⟩
 | .sl k cs,v,h,hu=>by
  simp only [G.rep] at h ⊢
  obtain ⟨A,c,e,hc,vs,hr,ha⟩:=h
  refine ⟨A,c,e,hc,vs,Za5 h2 cs _ hr hu,fun hk => ?_⟩
  obtain ⟨g,off,e1,e2,e3,e4⟩:=ha hk
  exact ⟨g,off,e1,e2,fun ⟨i,o',q1,q2⟩=>e3 (by obtain ⟨o,q3,_⟩:=h2 i o' q1;exact ⟨i,o,q3,q2⟩),e4⟩
 | .ip cs k,v,h,hu=>by
  simp only [G.rep] at h ⊢
  obtain ⟨g,off,e,e2,e3,vs,hr,hc⟩:=h
  exact ⟨g,off,e,e2,fun ⟨i,o',q1,q2⟩=>e3 (by obtain ⟨o,q3,_⟩:=h2 i o' q1;exact ⟨i,o,q3,q2⟩),vs,Za5 h2 cs _ hr hu,hc⟩
 | .row i k,v,h,hu=>by
  have hi:i < n':=by simpa [G.under] using hu
  simp only [G.rep] at h ⊢
  refine ⟨hi,h.2.1,fun o' ho' => ?_⟩
  obtain ⟨o,h1,h3,h4⟩:=h2 i o' ho'
  rw [h3,h4];exact h.2.2 o h1
 | .rs i off k,v,h,hu=>by
  have hi:i < n':=by simpa [G.under] using hu
  simp only [G.rep] at h ⊢
  refine ⟨hi,h.2.1,fun o' ho' hr => ?_⟩
  obtain ⟨o,h1,h3,h4⟩:=h2 i o' ho'
  exact h.2.2 o h1 (by rw [← h3];exact hr)
 | .rp i k off,v,h,hu=>by
  have hi:i < n':=by simpa [G.under] using hu
  simp only [G.rep] at h ⊢
  refine ⟨hi,h.2.1,fun o' ho' => ?_⟩
  obtain ⟨o,h1,h3,h4⟩:=h2 i o' ho'
  rw [h3,h4];exact h.2.2 o h1
 | .rl i k off len,v,h,hu=>by
  have hi:i < n':=by simpa [G.under] using hu
  simp only [G.rep] at h ⊢
  refine ⟨hi,h.2.1,fun o' ho' => ?_⟩
  obtain ⟨o,h1,h3,h4⟩:=h2 i o' ho'
  rw [h3,h4];exact h.2.2 o h1
 | .ref i off,v,h,hu=>by
  have hi:i < n':=by simpa [G.under] using hu
  simp only [G.rep] at h ⊢
  refine ⟨hi,h.2.1,fun o' ho' hr => ?_⟩
  obtain ⟨o,h1,h3,h4⟩:=h2 i o' ho'
  exact h.2.2 o h1 (by rw [← h3];exact hr)
 | .when b g,v,h,hu=>by
  simp only [G.rep] at h ⊢
  exact ⟨fun hb=>Zlm h2 g v (h.1 hb) (by subst hb;simpa [G.under] using hu),h.2⟩
theorem Za5 (h2:∀ i o',O' i=some o'→∃ o,O i=some o∧o'.row=o.row∧o'.n=o.n):∀ (gs:List G) (vs:List Value),G.reps w O m n gs vs→G.unders n' gs=true→G.reps w O' m n' gs vs
 | [],_,h,_=>by simpa [G.reps] using h
 | g::gs,vs,h,hu=>by
  simp only [G.unders,Bool.and_eq_true] at hu
  simp only [G.reps] at h ⊢
  obtain ⟨u,us,e,k1,k2⟩:=h
  exact ⟨u,us,e,Zlm h2 g u k1 hu.1,Za5 h2 gs us k2 hu.2⟩
end
theorem LessO.mini (h:LessO O O' n'):∀ i o',O' i=some o'→∃ o,O i=some o∧o'.row=o.row∧o'.n=o.n:=fun i o' ho'=>by
 obtain ⟨o,h1,h2,_,_,h5,_⟩:=h.obj i o' ho'
 exact ⟨o,h1,h2,h5⟩
mutual
theorem Zh2 (hM:Mem w O m n) (hL:LessO O O' n') (g:G) (v:Value) (h:g.rep w O m n v):∀ (g':G),wk O O' n' g g'→g'.rep w O' m n' v
 | .any,_=>by simp [G.rep]
 | .val u,hw=>by simp only [wk] at hw;subst hw;simpa [G.rep] using h
 | .agg cs',hw=>by
  simp only [wk] at hw
  obtain ⟨cs,rfl,hw⟩:=hw
  simp only [G.rep] at h ⊢
  obtain ⟨vs,e,hr⟩:=h
  exact ⟨vs,e,J9 hM hL cs _ hr cs' hw⟩
 | .tup cs',hw=>by
  simp only [wk] at hw
  obtain ⟨cs,rfl,hw⟩:=hw
  simp only [G.rep] at h ⊢
  obtain ⟨vs,e,hr⟩:=h
  exact ⟨vs,e,J9 hM hL cs _ hr cs' hw⟩
 | .fn f k cs',hw=>by
  simp only [wk] at hw
  obtain ⟨cs,rfl,hw⟩:=hw
  simp only [G.rep] at h ⊢
  obtain ⟨vs,e,hr⟩:=h
  exact ⟨vs,e,J9 hM hL cs _ hr cs' hw⟩
 | .sl k cs',hw=>by
  simp only [wk] at hw
  split at hw
  ·rename_i k0 cs
   obtain ⟨rfl,hw⟩:=hw
   simp only [G.rep] at h ⊢
   obtain ⟨A,c,e,hc,vs,hr,ha⟩:=h
   exact ⟨A,c,e,hc,vs,J9 hM hL cs _ hr cs' hw,fun hk=>by obtain ⟨b,off,e1,e2,e3,e4⟩:=ha hk;exact ⟨b,off,e1,e2,fun q=>e3 (hL.owns q),e4⟩⟩
  ·rename_i k0 c
   obtain ⟨rfl,rfl,rfl⟩:=hw
   simp only [G.rep] at h ⊢
   exact ⟨none,c,h,Nat.zero_le _,[],rfl,fun hk=>absurd rfl hk⟩
  ·rename_i i k0
   obtain ⟨rfl,hn,o,ho,hrow,hk,hw⟩:=hw
   simp only [G.rep] at h ⊢
   have hv:=(h.2.2 o ho).2 hk hrow
   obtain ⟨vs,hr,hy⟩:=hM.obj i o ho
   rw [if_pos hrow] at hy
   rcases hy.2 with ⟨e1,e2⟩ | ⟨b,cap,cur,e1,_,hh,a1,a2,a3,a4⟩
   ·rw [e1] at hv
    refine ⟨none,0,by rw [← hv];congr 1;omega,by omega,vs,J9 hM hL _ _ hr cs' hw,fun hk=>by omega⟩
   rw [e1] at hv
   refine ⟨_,cap,by rw [← hv,hk],by omega,vs,J9 hM hL _ _ hr cs' hw,fun _=>⟨b,0,rfl,Zj9 hh,fun ⟨j,oj,q1,q2⟩ => ?_,fun j u hu => ?_⟩⟩
   ·obtain ⟨oj0,q3,_⟩:=hL.obj j oj q1
    have:=hM.apart j i oj0 o b q3 ho q2 (by rw [e1];rfl)
    subst this
    rw [hn] at q1;cases q1
   rw [Nat.zero_add,cell_of_row w b j _ _ (0,0) hh]
   rw [← a4,List.getElem?_take] at hu
   split at hu
   ·rw [Array.getElem?_toList] at hu;exact hu
   cases hu
  ·rename_i i off k0
   obtain ⟨rfl,rfl,hn,o,ho,hrow,hw⟩:=hw
   simp only [G.rep] at h ⊢
   obtain ⟨b,c,e1,rfl,e3⟩:=h.2.2 o ho hrow
   obtain ⟨vs,hr,hx⟩:=hM.obj i o ho
   simp only [hrow,Bool.false_eq_true,if_false] at hx
   obtain ⟨b',e2,hh⟩:=hx
   rw [e1] at e2
   injection e2 with e2
   injection e2 with e2
   injection e2 with e2
   subst e2
   refine ⟨_,c,rfl,e3,vs,J9 hM hL _ _ hr cs' hw,fun _=>⟨b,0,rfl,Zj9 hh,fun ⟨j,oj,q1,q2⟩ => ?_,fun j u hu => ?_⟩⟩
   ·obtain ⟨oj0,q3,_⟩:=hL.obj j oj q1
    have:=hM.apart j i oj0 o b q3 ho q2 (by rw [e1];rfl)
    subst this
    rw [hn] at q1;cases q1
   rw [Nat.zero_add,cell_of_row w b j _ _ (0,0) hh]
   simpa using hu
  ·rename_i i kr off k0
   obtain ⟨rfl,hn,o,ho,hrow,hko,hp,hcs⟩:=hw
   simp only [G.rep] at h ⊢
   obtain ⟨b,cap,A,c',e1,rfl,hle,hA,_⟩:=(h.2.2 o ho).2 hko hrow
   obtain ⟨vs,hr,hy⟩:=hM.obj i o ho
   rw [if_pos hrow] at hy
   have hr':G.reps w O' m n' o.cells vs:=Zcr (fun _ q=>hL.owns q) _ _ hp hr
   refine ⟨A,c',rfl,hle,(vs.drop off).take cs'.length,by have hq:=Kp cs'.length _ _ (Vs off _ _ hr');rw [← hcs] at hq;exact hq,fun hk => ?_⟩
   rcases hy.2 with ⟨e2,_⟩ | ⟨b',cap',cur,e2,_,hh,a1,a2,a3,a4⟩
   ·rw [e1] at e2;cases e2
   rw [e1] at e2
   injection e2 with e2 e3 e4
   injection e2 with e2
   injection e2 with e2
   subst e2
   refine ⟨b,off,hA hk,Zj9 hh,fun ⟨j,oj,q1,q2⟩ => ?_,fun j u hu => ?_⟩
   ·obtain ⟨oj0,q3,_⟩:=hL.obj j oj q1
    have:=hM.apart j i oj0 o b q3 ho q2 (by rw [e1];rfl)
    subst this
    rw [hn] at q1;cases q1
   rw [List.getElem?_take] at hu
   split at hu
   ·rw [List.getElem?_drop,← a4,List.getElem?_take] at hu
    split at hu
    ·rw [cell_of_row w b (off+j) _ _ (0,0) hh]
     rw [Array.getElem?_toList] at hu;exact hu
    cases hu
   cases hu
  exact hw.elim
 | .ip cs' k,hw=>by
  simp only [wk] at hw
  split at hw
  ·rename_i cs k0
   obtain ⟨rfl,hw⟩:=hw
   simp only [G.rep] at h ⊢
   obtain ⟨b,off,e,e2,e3,vs,hr,hc⟩:=h
   exact ⟨b,off,e,e2,fun q=>e3 (hL.owns q),vs,J9 hM hL cs _ hr cs' hw,hc⟩
  ·rename_i i off
   obtain ⟨rfl,hn,o,ho,hrow,hw⟩:=hw
   simp only [G.rep] at h ⊢
   obtain ⟨b,e1,rfl⟩:=h.2.2 o ho hrow
   obtain ⟨vs,hr,hx⟩:=hM.obj i o ho
   simp only [hrow,Bool.false_eq_true,if_false] at hx
   obtain ⟨b',e2,hh⟩:=hx
   rw [e1] at e2
   injection e2 with e2
   injection e2 with e2
   injection e2 with e2
   subst e2
   refine ⟨b,0,by simp,Zj9 hh,fun ⟨j,oj,q1,q2⟩ => ?_,vs,J9 hM hL _ _ hr cs' hw,fun j u hu => ?_⟩
   ·obtain ⟨oj0,q3,_⟩:=hL.obj j oj q1
    have:=hM.apart j i oj0 o b q3 ho q2 (by rw [e1];rfl)
    subst this
    rw [hn] at q1;cases q1
   rw [Nat.zero_add,cell_of_row w b j _ _ (0,0) hh]
   simpa using hu
  exact hw.elim
 | .row i k,hw=>by
  simp only [wk] at hw
  obtain ⟨rfl,hi⟩:=hw
  simp only [G.rep] at h ⊢
  refine ⟨hi,h.2.1,fun o' ho' => ?_⟩
  obtain ⟨o,h1,h2,h3,h4,h5,_⟩:=hL.obj i o' ho'
  rw [h5,h2]
  exact h.2.2 o h1
 | .rs i off k,hw=>by
  simp only [wk] at hw
  obtain ⟨rfl,hi⟩:=hw
  simp only [G.rep] at h ⊢
  refine ⟨hi,h.2.1,fun o' ho' hr => ?_⟩
  obtain ⟨o,h1,h2,_⟩:=hL.obj i o' ho'
  exact h.2.2 o h1 (by rw [← h2];exact hr)
 | .rp i k off,hw=>by
  simp only [wk] at hw
  obtain ⟨rfl,hi⟩:=hw
  simp only [G.rep] at h ⊢
  refine ⟨hi,h.2.1,fun o' ho' => ?_⟩
  obtain ⟨o,h1,h2,h3,h4,h5,_⟩:=hL.obj i o' ho'
  rw [h5,h2]
  exact h.2.2 o h1
 | .rl i k off len,hw=>by
  simp only [wk] at hw
  obtain ⟨rfl,hi⟩:=hw
  simp only [G.rep] at h ⊢
  refine ⟨hi,h.2.1,fun o' ho' => ?_⟩
  obtain ⟨o,h1,h2,h3,h4,h5,_⟩:=hL.obj i o' ho'
  rw [h5,h2]
  exact h.2.2 o h1
 | .ref i off,hw=>by
  simp only [wk] at hw
  obtain ⟨rfl,hi⟩:=hw
  simp only [G.rep] at h ⊢
  refine ⟨hi,h.2.1,fun o' ho' hr => ?_⟩
  obtain ⟨o,h1,h2,_⟩:=hL.obj i o' ho'
  exact h.2.2 o h1 (by rw [← h2];exact hr)
 | .when b x,hw=>by
  simp only [wk] at hw
  obtain ⟨rfl,hp⟩:=hw
  exact Zlm hL.mini _ v h hp
theorem J9 (hM:Mem w O m n) (hL:LessO O O' n') (gs:List G) (vs:List Value) (h:G.reps w O m n gs vs):∀ (gs':List G),wkl O O' n' gs gs'→G.reps w O' m n' gs' vs
 | [],hw=>by simp only [wkl] at hw;subst hw;simpa [G.reps] using h
 | g'::gs',hw=>by
  simp only [wkl] at hw
  obtain ⟨g,r,rfl,h1,h2⟩:=hw
  simp only [G.reps] at h ⊢
  obtain ⟨u,us,e,k1,k2⟩:=h
  exact ⟨u,us,e,Zh2 hM hL g u k1 g' h1,J9 hM hL r us k2 gs' h2⟩
end
end
end Go.Proofs.YtmjjjfamipncdaaGreat
