/- Part H1 of the ghost memory: lemmas and contracts used by the proofs of this seat's laws; each theorem bears its own conditions. -/
import Derived.Test.YtibgpnmmgffgeaaG18
namespace Go.Proofs.Ytibgpnmmgffgeaa
open Go.RowKit
set_option linter.unusedVariables false
set_option linter.unusedSimpArgs false
def fl {α:Type} (f:α→List G) (xs:List α):List G:=(xs.map f).flatten
section
variable {α:Type} {f:α→List G}
theorem Yl:fl f []=[]:=rfl
theorem Gs (x:α) (xs:List α):fl f (x::xs)=f x++fl f xs:=rfl
theorem Zj2 (xs ys:List α):fl f (xs++ys)=fl f xs++fl f ys:=by simp [fl]
theorem Zyk (x:α):fl f [x]=f x:=by simp [fl]
theorem Q7 {k:Nat} (h:∀ x,(f x).length=k):∀ xs:List α,(fl f xs).length=xs.length * k
 | []=>by simp [fl]
 | x::xs=>by rw [Gs,List.length_append,h,Q7 h xs,List.length_cons,Nat.succ_mul];omega
theorem Zpc {k:Nat} (h:∀ x,(f x).length=k):∀ (i:Nat) (xs:List α),(fl f xs).drop (i * k)=fl f (xs.drop i)
 | 0,xs=>by simp
 | i+1,[]=>by simp [fl]
 | i+1,x::xs=>by
  rw [Gs,List.drop_succ_cons,← Zpc h i xs,Nat.succ_mul,Nat.add_comm,← List.drop_drop]
  congr 1
  rw [← h x,List.drop_left]
theorem Zyl {k:Nat} (h:∀ x,(f x).length=k):∀ (i:Nat) (xs:List α),(fl f xs).take (i * k)=fl f (xs.take i)
 | 0,xs=>by simp [fl]
 | i+1,[]=>by simp [fl]
 | i+1,x::xs=>by
  rw [Gs,List.take_succ_cons,Gs,← Zyl h i xs,Nat.succ_mul,Nat.add_comm,List.take_append,h x,List.take_of_length_le (by rw [h x];omega),Nat.add_sub_cancel_left]
theorem Ye4 {k:Nat} (h:∀ x,(f x).length=k) {xs:List α} {i:Nat} {x:α} (hx:xs[i]? = some x):((fl f xs).drop (i * k)).take k=f x:=by
 rw [Zpc h]
 have hi:i < xs.length:=by
  rcases Nat.lt_or_ge i xs.length with h | h
  ·exact h
  rw [List.getElem?_eq_none h] at hx;cases hx
 rw [List.drop_eq_getElem_cons hi,Gs]
 have:xs[i]=x:=by rw [List.getElem?_eq_getElem hi] at hx;injection hx
 rw [this,← h x,List.take_left]
theorem Yf5 {k:Nat} (h:∀ x,(f x).length=k) {xs:List α} {i:Nat} {x:α} (hi:i < xs.length):(fl f xs).take (i * k)++f x++(fl f xs).drop (i * k+k)=fl f (xs.set i x):=by
 have e:i * k+k=(i+1) * k:=by rw [Nat.succ_mul]
 rw [e,Zyl h,Zpc h,List.set_eq_take_append_cons_drop,if_pos hi,Zj2,Gs,List.append_assoc]
end
mutual
/-- no object is named -/
def G.pure:G→Bool
 | .any | .val _=>true
 | .agg cs=>G.pures cs
 | .tup cs=>G.pures cs
 | .fn _ _ cs=>G.pures cs
 | .sl _ cs=>G.pures cs
 | .ip cs _=>G.pures cs
 | .row .. | .rs .. | .rp .. | .rl .. | .ref .. => false
 | .when _ g=>g.pure
def G.pures:List G→Bool
 | []=>true
 | g::gs=>g.pure && G.pures gs
end
theorem Zbs:∀ (a b:List G),G.pures (a++b)=(G.pures a && G.pures b)
 | [],b=>by simp [G.pures]
 | x::a,b=>by simp [G.pures,Zbs a b,Bool.and_assoc]
theorem Z6 {α:Type} {f:α→List G} (h:∀ x,G.pures (f x)=true):∀ xs:List α,G.pures (fl f xs)=true
 | []=>rfl
 | x::xs=>by rw [Gs,Zbs,h x,Z6 h xs];rfl
mutual
theorem Zky (k:Nat):∀ g:G,g.pure=true→g.under k=true
 | .any,_=>rfl
 | .val _,_=>rfl
 | .agg cs,h=>by simp only [G.pure] at h;simp only [G.under];exact Xp k cs h
 | .tup cs,h=>by simp only [G.pure] at h;simp only [G.under];exact Xp k cs h
 | .fn _ _ cs,h=>by simp only [G.pure] at h;simp only [G.under];exact Xp k cs h
 | .sl _ cs,h=>by simp only [G.pure] at h;simp only [G.under];exact Xp k cs h
 | .ip cs _,h=>by simp only [G.pure] at h;simp only [G.under];exact Xp k cs h
 | .row ..,h=>by simp [G.pure] at h
 | .rs ..,h=>by simp [G.pure] at h
 | .rp ..,h=>by simp [G.pure] at h
 | .rl ..,h=>by simp [G.pure] at h
 | .ref ..,h=>by simp [G.pure] at h
 | .when b g,h=>by simp only [G.pure] at h;simp [G.under,Zky k g h]
theorem Xp (k:Nat):∀ gs:List G,G.pures gs=true→G.unders k gs=true
 | [],_=>rfl
 | g::gs,h=>by simp only [G.pures,Bool.and_eq_true] at h;simp [G.unders,Zky k g h.1,Xp k gs h.2]
end
section
variable {w w':World} {O O':Objs} {m m':Hands} {n n':Nat}
mutual
theorem Zvy (ho:∀ b,owns O' m' b→owns O m b):∀ (g:G) (v:Value),g.pure=true→g.rep w O m n v→g.rep w O' m' n' v
 | .any,_,_,_=>by simp [G.rep]
 | .val _,_,_,h=>by simpa [G.rep] using h
 | .agg cs,v,hp,h=>by simp only [G.pure] at hp;simp only [G.rep] at h ⊢;obtain ⟨vs,e,hr⟩:=h;exact ⟨vs,e,Zgp ho cs _ hp hr⟩
 | .tup cs,v,hp,h=>by simp only [G.pure] at hp;simp only [G.rep] at h ⊢;obtain ⟨vs,e,hr⟩:=h;exact ⟨vs,e,Zgp ho cs _ hp hr⟩
 | .fn _ _ cs,v,hp,h=>by simp only [G.pure] at hp;simp only [G.rep] at h ⊢;obtain ⟨vs,e,hr⟩:=h;exact ⟨vs,e,Zgp ho cs _ hp hr⟩
 | .sl k cs,v,hp,h=>by
  simp only [G.pure] at hp
  simp only [G.rep] at h ⊢
  obtain ⟨A,c,e,hc,vs,hr,ha⟩:=h
  exact ⟨A,c,e,hc,vs,Zgp ho cs _ hp hr,fun hk=>by obtain ⟨g,off,e1,e2,e3,e4⟩:=ha hk;exact ⟨g,off,e1,e2,fun q=>e3 (ho _ q),e4⟩⟩
 | .ip cs k,v,hp,h=>by
  simp only [G.pure] at hp
  simp only [G.rep] at h ⊢
  obtain ⟨g,off,e,e2,e3,vs,hr,hc⟩:=h
  exact ⟨g,off,e,e2,fun q=>e3 (ho _ q),vs,Zgp ho cs _ hp hr,hc⟩
 | .row ..,_,hp,_=>by simp [G.pure] at hp
 | .rs ..,_,hp,_=>by simp [G.pure] at hp
 | .rp ..,_,hp,_=>by simp [G.pure] at hp
 | .rl ..,_,hp,_=>by simp [G.pure] at hp
 | .ref ..,_,hp,_=>by simp [G.pure] at hp
 | .when b g,v,hp,h=>by
  simp only [G.pure] at hp
  simp only [G.rep] at h ⊢
  exact ⟨fun hb=>Zvy ho g v hp (h.1 hb),h.2⟩
theorem Zgp (ho:∀ b,owns O' m' b→owns O m b):∀ (gs:List G) (vs:List Value),G.pures gs=true→G.reps w O m n gs vs→G.reps w O' m' n' gs vs
 | [],_,_,h=>by simpa [G.reps] using h
 | g::gs,vs,hp,h=>by
  simp only [G.pures,Bool.and_eq_true] at hp
  simp only [G.reps] at h ⊢
  obtain ⟨u,us,e,k1,k2⟩:=h
  exact ⟨u,us,e,Zvy ho g u hp.1 k1,Zgp ho gs us hp.2 k2⟩
end
mutual
/-- what is told in the second way is told in the first, the objects that 'O'' has not being let go -/
def wk (O O':Objs) (n':Nat) (g:G):G→Prop
 | .any=>True
 | .val u=>g = .val u
 | .agg cs'=>∃ cs,g = .agg cs∧U8 O O' n' cs cs'
 | .tup cs'=>∃ cs,g = .tup cs∧U8 O O' n' cs cs'
 | .fn f k cs'=>∃ cs,g = .fn f k cs∧U8 O O' n' cs cs'
 | .sl k cs'=>match g with
  | .sl k0 cs=>k0=k∧U8 O O' n' cs cs'
  | .val (.slice none k0 _)=>k0=0∧k=0∧cs'=[]
  | .row i k0=>k0=k∧O' i=none∧∃ o,O i=some o∧o.row=true∧k0=o.n∧U8 O O' n' o.cells cs'
  | .rs i off k0=>off=0∧k0=k∧O' i=none∧∃ o,O i=some o∧o.row=false∧U8 O O' n' o.cells cs'
  | .rl i kr off k0=>k0=k∧O' i=none∧∃ o,O i=some o∧o.row=true∧kr=o.n∧G.pures o.cells=true∧cs'=(o.cells.drop off).take cs'.length
  | _=>False
 | .ip cs' k=>match g with
  | .ip cs k0=>k0=k∧U8 O O' n' cs cs'
  | .ref i off=>off=k∧O' i=none∧∃ o,O i=some o∧o.row=false∧U8 O O' n' o.cells cs'
  | _=>False
 | .row i k=>g = .row i k∧i < n'
 | .rs i off k=>g = .rs i off k∧i < n'
 | .rp i k off=>g = .rp i k off∧i < n'
 | .rl i k off len=>g = .rl i k off len∧i < n'
 | .ref i off=>g = .ref i off∧i < n'
 | .when b h=>g = .when b h∧G.under n' (.when b h)=true
def U8 (O O':Objs) (n':Nat) (gs:List G):List G→Prop
 | []=>gs=[]
 | g'::gs'=>∃ g r,gs=g::r∧wk O O' n' g g'∧U8 O O' n' r gs'
end
structure LessO (O O':Objs) (n':Nat):Prop where
 fresh:∀ i,n'≤i→O' i=none
 obj:∀ i o',O' i=some o'→∃ o,O i=some o∧o'.row=o.row∧o'.ty=o.ty∧o'.sz=o.sz∧o'.n=o.n∧U8 O O' n' o.cells o'.cells
theorem LessO.owns (h:LessO O O' n') {b:Nat} (hb:owns O' m b):owns O m b:=by
 obtain ⟨i,o',h1,h2⟩:=hb
 obtain ⟨o,h3,_⟩:=h.obj i o' h1
 exact ⟨i,o,h3,h2⟩
mutual
theorem Zm4 (h2:∀ i o',O' i=some o'→∃ o,O i=some o∧o'.row=o.row∧o'.n=o.n):∀ (g:G) (v:Value),g.rep w O m n v→g.under n'=true→g.rep w O' m n' v
 | .any,_,_,_=>by simp [G.rep]
 | .val _,_,h,_=>by simpa [G.rep] using h
 | .agg cs,v,h,hu=>by simp only [G.rep] at h ⊢;obtain ⟨vs,e,hr⟩:=h;exact ⟨vs,e,Zc3 h2 cs _ hr hu⟩
 | .tup cs,v,h,hu=>by simp only [G.rep] at h ⊢;obtain ⟨vs,e,hr⟩:=h;exact ⟨vs,e,Zc3 h2 cs _ hr hu⟩
 | .fn f k cs,v,h,hu=>by simp only [G.rep] at h ⊢;obtain ⟨vs,e,hr⟩:=h;exact ⟨vs,e,Zc3 h2 cs _ hr hu⟩
 | .sl k cs,v,h,hu=>by
  simp only [G.rep] at h ⊢
  obtain ⟨A,c,e,hc,vs,hr,ha⟩:=h
  refine ⟨A,c,e,hc,vs,Zc3 h2 cs _ hr hu,fun hk => ?_⟩
  obtain ⟨g,off,e1,e2,e3,e4⟩:=ha hk
  exact ⟨g,off,e1,e2,fun ⟨i,o',q1,q2⟩=>e3 (by obtain ⟨o,q3,_⟩:=h2 i o' q1;exact ⟨i,o,q3,q2⟩),e4⟩
 | .ip cs k,v,h,hu=>by
  simp only [G.rep] at h ⊢
  obtain ⟨g,off,e,e2,e3,vs,hr,hc⟩:=h
  exact ⟨g,off,e,e2,fun ⟨i,o',q1,q2⟩=>e3 (by obtain ⟨o,q3,_⟩:=h2 i o' q1;exact ⟨i,o,q3,q2⟩),vs,Zc3 h2 cs _ hr hu,hc⟩
 | .row i k,v,h,hu=>by
  have hi:i < n':=by simpa [G.under] using hu
  simp only [G.rep] at h ⊢
  refine ⟨hi,h.2.1,fun o' ho' => ?_⟩
  obtain ⟨o,h1,h3,h4⟩:=h2 i o' ho'
  rw [h3,h4];exact h.2.2 o h1
 | .rs i off k,v,h,hu=>by
  have hi:i < n':=by simpa [G.under] using hu
  simp only [G.rep] at h ⊢
  refine ⟨hi,h.2.1,fun o' ho' hr => ?_⟩
  obtain ⟨o,h1,h3,h4⟩:=h2 i o' ho'
  exact h.2.2 o h1 (by rw [← h3];exact hr)
 | .rp i k off,v,h,hu=>by
  have hi:i < n':=by simpa [G.under] using hu
  simp only [G.rep] at h ⊢
  refine ⟨hi,h.2.1,fun o' ho' => ?_⟩
  obtain ⟨o,h1,h3,h4⟩:=h2 i o' ho'
  rw [h3,h4];exact h.2.2 o h1
 | .rl i k off len,v,h,hu=>by
  have hi:i < n':=by simpa [G.under] using hu
  simp only [G.rep] at h ⊢
  refine ⟨hi,h.2.1,fun o' ho' => ?_⟩
  obtain ⟨o,h1,h3,h4⟩:=h2 i o' ho'
  rw [h3,h4];exact h.2.2 o h1
 | .ref i off,v,h,hu=>by
  have hi:i < n':=by simpa [G.under] using hu
  simp only [G.rep] at h ⊢
  refine ⟨hi,h.2.1,fun o' ho' hr => ?_⟩
  obtain ⟨o,h1,h3,h4⟩:=h2 i o' ho'
  exact h.2.2 o h1 (by rw [← h3];exact hr)
 | .when b g,v,h,hu=>by
  simp only [G.rep] at h ⊢
  exact ⟨fun hb=>Zm4 h2 g v (h.1 hb) (by subst hb;simpa [G.under] using hu),h.2⟩
theorem Zc3 (h2:∀ i o',O' i=some o'→∃ o,O i=some o∧o'.row=o.row∧o'.n=o.n):∀ (gs:List G) (vs:List Value),G.reps w O m n gs vs→G.unders n' gs=true→G.reps w O' m n' gs vs
 | [],_,h,_=>by simpa [G.reps] using h
 | g::gs,vs,h,hu=>by
  simp only [G.unders,Bool.and_eq_true] at hu
  simp only [G.reps] at h ⊢
  obtain ⟨u,us,e,k1,k2⟩:=h
  exact ⟨u,us,e,Zm4 h2 g u k1 hu.1,Zc3 h2 gs us k2 hu.2⟩
end
theorem LessO.mini (h:LessO O O' n'):∀ i o',O' i=some o'→∃ o,O i=some o∧o'.row=o.row∧o'.n=o.n:=fun i o' ho'=>by
 obtain ⟨o,h1,h2,_,_,h5,_⟩:=h.obj i o' ho'
 exact ⟨o,h1,h2,h5⟩
mutual
theorem Zw2 (hM:Mem w O m n) (hL:LessO O O' n') (g:G) (v:Value) (h:g.rep w O m n v):∀ (g':G),wk O O' n' g g'→g'.rep w O' m n' v
 | .any,_=>by simp [G.rep]
 | .val u,hw=>by simp only [wk] at hw;subst hw;simpa [G.rep] using h
 | .agg cs',hw=>by
  simp only [wk] at hw
  obtain ⟨cs,rfl,hw⟩:=hw
  simp only [G.rep] at h ⊢
  obtain ⟨vs,e,hr⟩:=h
  exact ⟨vs,e,V1 hM hL cs _ hr cs' hw⟩
 | .tup cs',hw=>by
  simp only [wk] at hw
  obtain ⟨cs,rfl,hw⟩:=hw
  simp only [G.rep] at h ⊢
  obtain ⟨vs,e,hr⟩:=h
  exact ⟨vs,e,V1 hM hL cs _ hr cs' hw⟩
 | .fn f k cs',hw=>by
  simp only [wk] at hw
  obtain ⟨cs,rfl,hw⟩:=hw
  simp only [G.rep] at h ⊢
  obtain ⟨vs,e,hr⟩:=h
  exact ⟨vs,e,V1 hM hL cs _ hr cs' hw⟩
 | .sl k cs',hw=>by
  simp only [wk] at hw
  split at hw
  ·rename_i k0 cs
   obtain ⟨rfl,hw⟩:=hw
   simp only [G.rep] at h ⊢
   obtain ⟨A,c,e,hc,vs,hr,ha⟩:=h
   exact ⟨A,c,e,hc,vs,V1 hM hL cs _ hr cs' hw,fun hk=>by obtain ⟨b,off,e1,e2,e3,e4⟩:=ha hk;exact ⟨b,off,e1,e2,fun q=>e3 (hL.owns q),e4⟩⟩
  ·rename_i k0 c
   obtain ⟨rfl,rfl,rfl⟩:=hw
   simp only [G.rep] at h ⊢
   exact ⟨none,c,h,Nat.zero_le _,[],rfl,fun hk=>absurd rfl hk⟩
  ·rename_i i k0
   obtain ⟨rfl,hn,o,ho,hrow,hk,hw⟩:=hw
   simp only [G.rep] at h ⊢
   have hv:=(h.2.2 o ho).2 hk hrow
   obtain ⟨vs,hr,hy⟩:=hM.obj i o ho
   rw [if_pos hrow] at hy
   rcases hy.2 with ⟨e1,e2⟩ | ⟨b,cap,cur,e1,_,hh,a1,a2,a3,a4⟩
   ·rw [e1] at hv
    refine ⟨none,0,by rw [← hv];congr 1;omega,by omega,vs,V1 hM hL _ _ hr cs' hw,fun hk=>by omega⟩
   rw [e1] at hv
   refine ⟨_,cap,by rw [← hv,hk],by omega,vs,V1 hM hL _ _ hr cs' hw,fun _=>⟨b,0,rfl,Zms hh,fun ⟨j,oj,q1,q2⟩ => ?_,fun j u hu => ?_⟩⟩
   ·obtain ⟨oj0,q3,_⟩:=hL.obj j oj q1
    have:=hM.apart j i oj0 o b q3 ho q2 (by rw [e1];rfl)
    subst this
    rw [hn] at q1;cases q1
   rw [Nat.zero_add,cell_of_row w b j _ _ (0,0) hh]
   rw [← a4,List.getElem?_take] at hu
   split at hu
   ·rw [Array.getElem?_toList] at hu;exact hu
   cases hu
  ·rename_i i off k0
   obtain ⟨rfl,rfl,hn,o,ho,hrow,hw⟩:=hw
   simp only [G.rep] at h ⊢
   obtain ⟨b,c,e1,rfl,e3⟩:=h.2.2 o ho hrow
   obtain ⟨vs,hr,hx⟩:=hM.obj i o ho
   simp only [hrow,Bool.false_eq_true,if_false] at hx
   obtain ⟨b',e2,hh⟩:=hx
   rw [e1] at e2
   injection e2 with e2
   injection e2 with e2
   injection e2 with e2
   subst e2
   refine ⟨_,c,rfl,e3,vs,V1 hM hL _ _ hr cs' hw,fun _=>⟨b,0,rfl,Zms hh,fun ⟨j,oj,q1,q2⟩ => ?_,fun j u hu => ?_⟩⟩
   ·obtain ⟨oj0,q3,_⟩:=hL.obj j oj q1
    have:=hM.apart j i oj0 o b q3 ho q2 (by rw [e1];rfl)
    subst this
    rw [hn] at q1;cases q1
   rw [Nat.zero_add,cell_of_row w b j _ _ (0,0) hh]
   simpa using hu
  ·rename_i i kr off k0
   obtain ⟨rfl,hn,o,ho,hrow,hko,hp,hcs⟩:=hw
   simp only [G.rep] at h ⊢
   obtain ⟨b,cap,A,c',e1,rfl,hle,hA,_⟩:=(h.2.2 o ho).2 hko hrow
   obtain ⟨vs,hr,hy⟩:=hM.obj i o ho
   rw [if_pos hrow] at hy
   have hr':G.reps w O' m n' o.cells vs:=Zgp (fun _ q=>hL.owns q) _ _ hp hr
   refine ⟨A,c',rfl,hle,(vs.drop off).take cs'.length,by have hq:=Vz cs'.length _ _ (Gl off _ _ hr');rw [← hcs] at hq;exact hq,fun hk => ?_⟩
   rcases hy.2 with ⟨e2,_⟩ | ⟨b',cap',cur,e2,_,hh,a1,a2,a3,a4⟩
   ·rw [e1] at e2;cases e2
   rw [e1] at e2
   injection e2 with e2 e3 e4
   injection e2 with e2
   injection e2 with e2
   subst e2
   refine ⟨b,off,hA hk,Zms hh,fun ⟨j,oj,q1,q2⟩ => ?_,fun j u hu => ?_⟩
   ·obtain ⟨oj0,q3,_⟩:=hL.obj j oj q1
    have:=hM.apart j i oj0 o b q3 ho q2 (by rw [e1];rfl)
    subst this
    rw [hn] at q1;cases q1
   rw [List.getElem?_take] at hu
   split at hu
   ·rw [List.getElem?_drop,← a4,List.getElem?_take] at hu
    split at hu
    ·rw [cell_of_row w b (off+j) _ _ (0,0) hh]
     rw [Array.getElem?_toList] at hu;exact hu
    cases hu
   cases hu
  exact hw.elim
 | .ip cs' k,hw=>by
  simp only [wk] at hw
  split at hw
  ·rename_i cs k0
   obtain ⟨rfl,hw⟩:=hw
   simp only [G.rep] at h ⊢
   obtain ⟨b,off,e,e2,e3,vs,hr,hc⟩:=h
   exact ⟨b,off,e,e2,fun q=>e3 (hL.owns q),vs,V1 hM hL cs _ hr cs' hw,hc⟩
  ·rename_i i off
   obtain ⟨rfl,hn,o,ho,hrow,hw⟩:=hw
   simp only [G.rep] at h ⊢
   obtain ⟨b,e1,rfl⟩:=h.2.2 o ho hrow
   obtain ⟨vs,hr,hx⟩:=hM.obj i o ho
   simp only [hrow,Bool.false_eq_true,if_false] at hx
   obtain ⟨b',e2,hh⟩:=hx
   rw [e1] at e2
   injection e2 with e2
   injection e2 with e2
   injection e2 with e2
   subst e2
   refine ⟨b,0,by simp,Zms hh,fun ⟨j,oj,q1,q2⟩ => ?_,vs,V1 hM hL _ _ hr cs' hw,fun j u hu => ?_⟩
   ·obtain ⟨oj0,q3,_⟩:=hL.obj j oj q1
    have:=hM.apart j i oj0 o b q3 ho q2 (by rw [e1];rfl)
    subst this
    rw [hn] at q1;cases q1
   rw [Nat.zero_add,cell_of_row w b j _ _ (0,0) hh]
   simpa using hu
  exact hw.elim
 | .row i k,hw=>by
  simp only [wk] at hw
  obtain ⟨rfl,hi⟩:=hw
  simp only [G.rep] at h ⊢
  refine ⟨hi,h.2.1,fun o' ho' => ?_⟩
  obtain ⟨o,h1,h2,h3,h4,h5,_⟩:=hL.obj i o' ho'
  rw [h5,h2]
  exact h.2.2 o h1
 | .rs i off k,hw=>by
  simp only [wk] at hw
  obtain ⟨rfl,hi⟩:=hw
  simp only [G.rep] at h ⊢
  refine ⟨hi,h.2.1,fun o' ho' hr => ?_⟩
  obtain ⟨o,h1,h2,_⟩:=hL.obj i o' ho'
  exact h.2.2 o h1 (by rw [← h2];exact hr)
 | .rp i k off,hw=>by
  simp only [wk] at hw
  obtain ⟨rfl,hi⟩:=hw
  simp only [G.rep] at h ⊢
  refine ⟨hi,h.2.1,fun o' ho' => ?_⟩
  obtain ⟨o,h1,h2,h3,h4,h5,_⟩:=hL.obj i o' ho'
  rw [h5,h2]
  exact h.2.2 o h1
 | .rl i k off len,hw=>by
  simp only [wk] at hw
  obtain ⟨rfl,hi⟩:=hw
  simp only [G.rep] at h ⊢
  refine ⟨hi,h.2.1,fun o' ho' => ?_⟩
  obtain ⟨o,h1,h2,h3,h4,h5,_⟩:=hL.obj i o' ho'
  rw [h5,h2]
  exact h.2.2 o h1
 | .ref i off,hw=>by
  simp only [wk] at hw
  obtain ⟨rfl,hi⟩:=hw
  simp only [G.rep] at h ⊢
  refine ⟨hi,h.2.1,fun o' ho' hr => ?_⟩
  obtain ⟨o,h1,h2,_⟩:=hL.obj i o' ho'
  exact h.2.2 o h1 (by rw [← h2];exact hr)
 | .when b x,hw=>by
  simp only [wk] at hw
  obtain ⟨rfl,hp⟩:=hw
  exact Zm4 hL.mini _ v h hp
theorem V1 (hM:Mem w O m n) (hL:LessO O O' n') (gs:List G) (vs:List Value) (h:G.reps w O m n gs vs):∀ (gs':List G),U8 O O' n' gs gs'→G.reps w O' m n' gs' vs
 | [],hw=>by simp only [U8] at hw;subst hw;simpa [G.reps] using h
 | g'::gs',hw=>by
  simp only [U8] at hw
  obtain ⟨g,r,rfl,h1,h2⟩:=hw
  simp only [G.reps] at h ⊢
  obtain ⟨u,us,e,k1,k2⟩:=h
  exact ⟨u,us,e,Zw2 hM hL g u k1 g' h1,V1 hM hL r us k2 gs' h2⟩
end
end
section
variable {w w':World} {O O' X X':Objs} {m m':Hands} {n n':Nat}
mutual
theorem Zwx {k k':Nat} (hk:k≤k'):∀ g:G,g.under k=true→g.under k'=true
 | .any,_=>rfl
 | .val _,_=>rfl
 | .agg cs,h=>by simp only [G.under] at h ⊢;exact Za2 hk cs h
 | .tup cs,h=>by simp only [G.under] at h ⊢;exact Za2 hk cs h
 | .fn _ _ cs,h=>by simp only [G.under] at h ⊢;exact Za2 hk cs h
 | .sl _ cs,h=>by simp only [G.under] at h ⊢;exact Za2 hk cs h
 | .ip cs _,h=>by simp only [G.under] at h ⊢;exact Za2 hk cs h
 | .row i _,h=>by simp [G.under] at h ⊢;omega
 | .rs i _ _,h=>by simp [G.under] at h ⊢;omega
 | .rp i _ _,h=>by simp [G.under] at h ⊢;omega
 | .rl i _ _ _,h=>by simp [G.under] at h ⊢;omega
 | .ref i _,h=>by simp [G.under] at h ⊢;omega
 | .when b g,h=>by
  simp only [G.under] at h ⊢
  cases b with
  | false=>rfl
  | true=>simpa using Zwx hk g (by simpa using h)
theorem Za2 {k k':Nat} (hk:k≤k'):∀ gs:List G,G.unders k gs=true→G.unders k' gs=true
 | [],_=>rfl
 | g::gs,h=>by simp only [G.unders,Bool.and_eq_true] at h ⊢;exact ⟨Zwx hk g h.1,Za2 hk gs h.2⟩
end
mutual
theorem Z1z:∀ g:G,g.under n'=true→wk O O' n' g g
 | .any,_=>by simp [wk]
 | .val _,_=>by simp [wk]
 | .agg cs,h=>by simp only [G.under] at h;unfold wk;exact ⟨cs,rfl,Zdj cs h⟩
 | .tup cs,h=>by simp only [G.under] at h;unfold wk;exact ⟨cs,rfl,Zdj cs h⟩
 | .fn _ _ cs,h=>by simp only [G.under] at h;unfold wk;exact ⟨cs,rfl,Zdj cs h⟩
 | .sl _ cs,h=>by simp only [G.under] at h;unfold wk;exact ⟨rfl,Zdj cs h⟩
 | .ip cs _,h=>by simp only [G.under] at h;unfold wk;exact ⟨rfl,Zdj cs h⟩
 | .row i _,h=>by unfold wk;exact ⟨rfl,by simpa [G.under] using h⟩
 | .rs i _ _,h=>by unfold wk;exact ⟨rfl,by simpa [G.under] using h⟩
 | .rp i _ _,h=>by unfold wk;exact ⟨rfl,by simpa [G.under] using h⟩
 | .rl i _ _ _,h=>by unfold wk;exact ⟨rfl,by simpa [G.under] using h⟩
 | .ref i _,h=>by unfold wk;exact ⟨rfl,by simpa [G.under] using h⟩
 | .when b g,h=>by unfold wk;exact ⟨rfl,h⟩
theorem Zdj:∀ gs:List G,G.unders n' gs=true→U8 O O' n' gs gs
 | [],_=>by simp [U8]
 | g::gs,h=>by
  simp only [G.unders,Bool.and_eq_true] at h
  simp only [U8]
  exact ⟨g,gs,rfl,Z1z g h.1,Zdj gs h.2⟩
end
theorem Zdi {cs:List G} (h:G.pures cs=true):U8 O O' n' cs cs:=Zdj cs (Xp _ _ h)
theorem Z71:∀ (a a' b b':List G),U8 O O' n' a a'→U8 O O' n' b b'→U8 O O' n' (a++b) (a'++b')
 | a,[],b,b',h,k=>by simp only [U8] at h;subst h;simpa using k
 | a,x'::a',b,b',h,k=>by
  simp only [U8] at h
  obtain ⟨g,r,rfl,h1,h2⟩:=h
  simp only [List.cons_append,U8]
  exact ⟨g,r++b,rfl,h1,Z71 r a' b b' h2 k⟩
theorem Yct:∀ g:G,wk O O' n' .any g→g = .any
 | .any,_=>rfl
 | .val _,h=>by simp [wk] at h
 | .agg cs,h=>by simp [wk] at h
 | .tup cs,h=>by simp [wk] at h
 | .fn _ _ cs,h=>by simp [wk] at h
 | .sl _ cs,h=>by simp [wk] at h
 | .ip cs _,h=>by simp [wk] at h
 | .row i _,h=>by simp [wk] at h
 | .rs i _ _,h=>by simp [wk] at h
 | .rp i _ _,h=>by simp [wk] at h
 | .rl i _ _ _,h=>by simp [wk] at h
 | .ref i _,h=>by simp [wk] at h
 | .when b g,h=>by simp [wk] at h
theorem Mem.weak (hM:Mem w O m n) (hL:LessO O O' n'):Mem w O' m n':=by
 refine ⟨hL.fresh,fun i o' hi => ?_,fun i j oi oj b hi hj => ?_⟩
 ·obtain ⟨o,h1,h2,h3,h4,h5,h6⟩:=hL.obj i o' hi
  obtain ⟨vs,hr,hx⟩:=hM.obj i o h1
  refine ⟨vs,V1 hM hL _ _ hr _ h6,?_⟩
  rw [h2,h3,h4,h5];exact hx
 obtain ⟨o1,h1,_⟩:=hL.obj i oi hi
 obtain ⟨o2,h2,_⟩:=hL.obj j oj hj
 exact hM.apart i j o1 o2 b h1 h2
theorem Ext.weak {O2:Objs} {m2:Hands} {n2:Nat} (h:Ext w O m n w' O2 m2 n2) (hL:LessO O2 O' n') (hn:n≤n'):Ext w O m n w' O' m2 n':=by
 refine ⟨h.os,h.tape,h.output,h.size,hn,fun b hb ho=>⟨(h.keep b hb ho).1,fun q=>(h.keep b hb ho).2 (hL.owns q)⟩,fun i hi o' ho' => ?_⟩
 obtain ⟨o2,h1,h2,_,_,h5,_⟩:=hL.obj i o' ho'
 obtain ⟨o,k1,k2,k3,k4⟩:=h.stay i hi o2 h1
 exact ⟨o,k1,h2.trans k2,by omega,fun e=>k4 (by rcases e with e | e;exact .inl (by omega);exact .inr (by rw [← h2];exact e))⟩
def Zw3 (O O':Objs) (n':Nat) (l:List (Nat×G)):List (Nat×G)→Prop
 | []=>True
 | (t,g')::r=>wk O O' n' (Jw l t) g'∧Zw3 O O' n' l r
theorem Zri {l:List (Nat×G)}:∀ {l':List (Nat×G)},Zw3 O O' n' l l'→∀ t,wk O O' n' (Jw l t) (Jw l' t)
 | [],_,t=>by simp [Jw,wk]
 | (t',g')::r,h,t=>by
  simp only [Zw3] at h
  simp only [Jw]
  split
  ·rename_i e;subst e;exact h.1
  exact Zri h.2 t
structure Fit (E:Env) (O:Objs) (E':Env) (O':Objs) (n':Nat):Prop where
 size:E'.n=E.n
 obj:LessO O O' n'
 slot:Zw3 O O' n' E.l E'.l
theorem Holds.fit {E E':Env} {a:Act} (h:Holds w O m n E a) (hM:Mem w O m n) (hF:Fit E O E' O' n'):Holds w O' m n' E' a:=by
 refine ⟨h.size.trans hF.size.symm,fun t v hv=>Zw2 hM hF.obj _ _ (h.at_ t v hv) _ (Zri hF.slot t),fun t ht => ?_,h.defers⟩
 have:=Zri hF.slot t
 rw [h.out t (by rw [← hF.size];exact ht)] at this
 exact Yct _ this
def Zq (X:Objs) (n:Nat) (l:List (Option GObj)):Objs:=fun i=>if i < n then X i else (l[i - n]?).join
structure Und (X:Objs) (n:Nat):Prop where
 fresh:∀ i,n≤i→X i=none
 und:∀ i o,X i=some o→G.unders n o.cells=true
theorem Yc5 (h:∀ i,n≤i→X i=none):Zq X n []=X:=by
 funext i
 unfold Zq
 split
 ·rfl
 rename_i hi;rw [h i (by omega)];simp
theorem Ge (l:List (Option GObj)) (k:Nat):Zq X n l (n+k)=(l[k]?).join:=by
 unfold Zq;rw [if_neg (by omega),Nat.add_sub_cancel_left]
theorem Zdn (l:List (Option GObj)):Zq X n l n=(l[0]?).join:=Ge l 0
theorem Yf (l:List (Option GObj)) {i:Nat} (h:i < n):Zq X n l i=X i:=by unfold Zq;rw [if_pos h]
theorem Gm (l:List (Option GObj)) (k:Nat) (o:Option GObj) (h:k < l.length):(Zq X n l).upd (n+k) o=Zq X n (l.set k o):=by
 funext i
 unfold Objs.upd Zq
 by_cases hi:i < n
 ·rw [if_neg (by omega),if_pos hi,if_pos hi]
 rw [if_neg hi,if_neg hi]
 by_cases e:i=n+k
 ·subst e;rw [if_pos rfl,Nat.add_sub_cancel_left];simp [List.getElem?_set,h]
 rw [if_neg e,List.getElem?_set,if_neg (by omega)]
theorem V8 (x:Option GObj) (l:List (Option GObj)) (o:Option GObj):(Zq X n (x::l)).upd n o=Zq X n (o::l):=Gm (x::l) 0 o (by simp)
theorem Y4 (l:List (Option GObj)) (k:Nat) (o:Option GObj) (h:k=l.length):(Zq X n l).upd (n+k) o=Zq X n (l++[o]):=by
 subst h
 funext i
 unfold Objs.upd Zq
 by_cases hi:i < n
 ·rw [if_neg (by omega),if_pos hi,if_pos hi]
 rw [if_neg hi,if_neg hi]
 by_cases e:i=n+l.length
 ·subst e;rw [if_pos rfl,Nat.add_sub_cancel_left];simp
 rw [if_neg e]
 rcases Nat.lt_or_ge (i - n) l.length with h | h
 ·rw [List.getElem?_append_left h]
 rw [List.getElem?_eq_none h,List.getElem?_eq_none (by simp;omega)]
theorem Ym (o:Option GObj):(Zq X n []).upd n o=Zq X n [o]:=Y4 [] 0 o rfl
theorem Yn (l:List (Option GObj)) {i:Nat} (o:Option GObj) (h:i < n):(Zq X n l).upd i o=Zq (X.upd i o) n l:=by
 funext j
 unfold Objs.upd Zq
 by_cases e:j=i
 ·subst e;simp [h]
 simp [e]
def Zga (q q':GObj):Prop:=q'.row=q.row∧q'.ty=q.ty∧q'.sz=q.sz∧q'.n=q.n
def Z2f (O O':Objs) (n':Nat) (o:Option GObj):Option GObj→Prop
 | none=>True
 | some q'=>match o with
  | none=>False
  | some q=>Zga q q'∧U8 O O' n' q.cells q'.cells
def Zlw (O O':Objs) (n':Nat):List (Option GObj)→List (Option GObj)→Prop
 | _,[]=>True
 | [],o'::r'=>o'=none∧Zlw O O' n' [] r'
 | o::r,o'::r'=>Z2f O O' n' o o'∧Zlw O O' n' r r'
theorem Zyj:∀ {l l':List (Option GObj)},Zlw O O' n' l l'→∀ (i:Nat) (q':GObj),(l'[i]?).join=some q'→∃ q,(l[i]?).join=some q∧Zga q q'∧U8 O O' n' q.cells q'.cells
 | l,[],h,i,q',hq=>by simp at hq
 | [],o'::r',h,i,q',hq=>by
  simp only [Zlw] at h
  cases i with
  | zero=>simp [h.1] at hq
  | succ i =>
   obtain ⟨q,h1,_⟩:=Zyj (l:=[]) (l':=r') h.2 i q' (by simpa using hq)
   simp at h1
 | o::r,o'::r',h,i,q',hq=>by
  simp only [Zlw] at h
  cases i with
  | zero =>
   have hq2:o'=some q':=by simpa using hq
   subst hq2
   have h1:=h.1
   unfold Z2f at h1
   cases o with
   | none=>exact h1.elim
   | some q=>exact ⟨q,by simp,h1⟩
  | succ i =>
   obtain ⟨q,h1,h2⟩:=Zyj h.2 i q' (by simpa using hq)
   exact ⟨q,by simpa using h1,h2⟩
def OutLe (O O':Objs) (n':Nat) (X X':Objs) (n:Nat):Prop:=∀ i q',i < n→X' i=some q'→∃ q,X i=some q∧Zga q q'∧U8 O O' n' q.cells q'.cells
theorem OutLe.refl (hU:Und X n) (hn:n≤n'):OutLe O O' n' X X n:=fun i q' _ h=>⟨q',h,⟨rfl,rfl,rfl,rfl⟩,Zdj _ (Za2 hn _ (hU.und i q' h))⟩
theorem OutLe.upd (hU:Und X n) (hn:n≤n') {i:Nat} {q q':GObj} (h1:Zga q q') (h2:U8 O O' n' q.cells q'.cells):OutLe O O' n' (X.upd i (some q)) (X.upd i (some q')) n:=fun j p' _ h=>by
 by_cases e:j=i
 ·subst e
  rw [Z8] at h
  injection h with h
  subst h
  exact ⟨q,Z8 _ _ _,h1,h2⟩
 rw [Yv _ _ e] at h
 exact ⟨p',by rw [Yv _ _ e];exact h,⟨rfl,rfl,rfl,rfl⟩,Zdj _ (Za2 hn _ (hU.und j p' h))⟩
theorem Zhb {l l':List (Option GObj)} {k:Nat} (hk:l'.length=k) (hX:OutLe (Zq X n l) (Zq X' n l') (n+k) X X' n) (h:Zlw (Zq X n l) (Zq X' n l') (n+k) l l'):LessO (Zq X n l) (Zq X' n l') (n+k):=by
 refine ⟨fun i hi => ?_,fun i o' ho' => ?_⟩
 ·unfold Zq;rw [if_neg (by omega),List.getElem?_eq_none (by omega)];rfl
 unfold Zq at ho'
 by_cases hi:i < n
 ·rw [if_pos hi] at ho'
  obtain ⟨q,h1,h2,h3⟩:=hX i o' hi ho'
  exact ⟨q,by unfold Zq;rw [if_pos hi];exact h1,h2.1,h2.2.1,h2.2.2.1,h2.2.2.2,h3⟩
 rw [if_neg hi] at ho'
 obtain ⟨q,h1,h2,h3⟩:=Zyj h _ _ ho'
 exact ⟨q,by unfold Zq;rw [if_neg hi];exact h1,h2.1,h2.2.1,h2.2.2.1,h2.2.2.2,h3⟩
theorem Yae {l:List (Option GObj)} (hf:∀ i,n≤i→X' i=none) (hX:OutLe (Zq X n l) X' n X X' n):LessO (Zq X n l) X' n:=by
 refine ⟨hf,fun i o' ho' => ?_⟩
 have hi:i < n:=by
  rcases Nat.lt_or_ge i n with h | h
  ·exact h
  rw [hf i h] at ho';cases ho'
 obtain ⟨q,h1,h2,h3⟩:=hX i o' hi ho'
 exact ⟨q,by unfold Zq;rw [if_pos hi];exact h1,h2.1,h2.2.1,h2.2.2.1,h2.2.2.2,h3⟩
end
section
variable {w w' w'':World} {O O' O'':Objs} {m m' m'':Hands} {n n' n'' ba:Nat}
theorem Ext.base (h:Ext w O m n w' O' m' n') (hb:ba≤n):Ext w O m ba w' O' m' n':=⟨h.os,h.tape,h.output,h.size,Nat.le_trans hb h.more,h.keep,fun i hi=>h.stay i (Nat.lt_of_lt_of_le hi hb)⟩
theorem Ext.transB (h:Ext w O m ba w' O' m' n') (k:Ext w' O' m' ba w'' O'' m'' n''):Ext w O m ba w'' O'' m'' n'':=by
 refine ⟨k.os.trans h.os,k.tape.trans h.tape,k.output.trans h.output,Nat.le_trans h.size k.size,k.more,fun b hb ho => ?_,fun i hi o'' ho'' => ?_⟩
 ·obtain ⟨e1,h1⟩:=h.keep b hb ho
  obtain ⟨e2,h2⟩:=k.keep b (Nat.lt_of_lt_of_le hb h.size) h1
  exact ⟨e2.trans e1,h2⟩
 obtain ⟨o',h1,h2,h3,h4⟩:=k.stay i hi o'' ho''
 obtain ⟨o,g1,g2,g3,g4⟩:=h.stay i hi o' h1
 refine ⟨o,g1,h2.trans g2,Nat.le_trans g3 h3,fun e => ?_⟩
 rcases e with e | e
 ·exact (h4 (.inl (by omega))).trans (g4 (.inl (by omega)))
 exact (h4 (.inr e)).trans (g4 (.inr (by rw [← h2];exact e)))
theorem lift.base {Q:GQ} (hb:ba≤n) {e:Exit} {a:Act} (h:lift w O m n Q e a w'):lift w O m ba Q e a w':=by
 obtain ⟨E',O',n',m',h1,h2,h3,h4⟩:=h
 exact ⟨E',O',n',m',h1,h2,h3,h4.base hb⟩
end
def Fit2 (ba:Nat) (E:Env) (O:Objs) (n:Nat) (E':Env) (O':Objs) (n':Nat):Prop:=∀ w m a,Mem w O m n→Holds w O m n E a→∃ m',Mem w O' m' n'∧Holds w O' m' n' E' a∧Ext w O m ba w O' m' n'
theorem Fit2.of {ba:Nat} {E E':Env} {O O':Objs} {n n':Nat} (hF:Fit E O E' O' n') (hb:ba≤n'):Fit2 ba E O n E' O' n':=fun w m a hM hE =>
 ⟨m,hM.weak hF.obj,hE.fit hM hF,(Ext.refl w O m ba).weak hF.obj hb⟩
theorem Fit2.trans {ba:Nat} {E E' E'':Env} {O O' O'':Objs} {n n' n'':Nat} (h:Fit2 ba E O n E' O' n') (k:Fit2 ba E' O' n' E'' O'' n''):Fit2 ba E O n E'' O'' n'':=fun w m a hM hE=>by
 obtain ⟨m1,a1,a2,a3⟩:=h w m a hM hE
 obtain ⟨m2,b1,b2,b3⟩:=k w m1 a a1 a2
 exact ⟨m2,b1,b2,a3.transB b3⟩
def W (P:Program) (ba:Nat) (c:Code) (Q:GQ) (E:Env) (O:Objs) (n:Nat):Prop:=ba≤n→∀ w m a,Mem w O m n→Holds w O m n E a→c.wp P (lift w O m ba Q) a w
theorem W.then {P:Program} {ba:Nat} {c:Code} {Q:GQ} {E:Env} {O O0:Objs} {n:Nat} (h:W P ba c Q E O n) {w0 w:World} {m0 m:Hands} {a:Act} (hM:Mem w O m n) (hE:Holds w O m n E a) (hX:Ext w0 O0 m0 ba w O m n):c.wp P (lift w0 O0 m0 ba Q) a w :=
 wp_mono (h hX.more w m a hM hE) fun e a3 w3 ⟨E3,O3,n3,m3,g1,g2,g3,g4⟩=>⟨E3,O3,n3,m3,g1,g2,g3,hX.transB g4⟩
section
variable {P:Program} {T:Kv} {O O' X X':Objs} {n n' ba:Nat} {E E':Env} {Q:GQ} {c x y:Code}
theorem Z89 (h:Q .normal E O n):W P ba .skip Q E O n:=fun hb w m a hM hE=>wp_skip ⟨E,O,n,m,h,hM,hE,(Ext.refl _ _ _ _).base hb⟩
theorem Z88 {id:Nat} (h:Q (.exit id) E O n):W P ba (.exit id) Q E O n:=fun hb w m a hM hE=>wp_exit ⟨E,O,n,m,h,hM,hE,(Ext.refl _ _ _ _).base hb⟩
theorem Ye0 (h:Q .ret E O n):W P ba .ret Q E O n:=fun hb w m a hM hE=>wp_ret ⟨E,O,n,m,h,hM,hE,(Ext.refl _ _ _ _).base hb⟩
theorem Zp {o:Operand} {t:Bool} (he:ev E o = .val (.bool t)) (h1:t=true→W P ba x Q E O n) (h2:t=false→W P ba y Q E O n):W P ba (.cond o x y) Q E O n:=fun hb w m a hM hE=>by
 have hc:=hE.ev o
 rw [he] at hc
 simp only [G.rep] at hc
 exact wp_cond_split hc (fun ht=>h1 ht hb w m a hM hE) (fun ht=>h2 ht hb w m a hM hE)
theorem Yd {id:Nat} (h:W P ba c (Yc id Q) E O n):W P ba (.block id c) Q E O n:=fun hb w m a hM hE=>by
 refine wp_block (wp_mono (h hb w m a hM hE) fun e a' w' ⟨E',O',n',m',h1,h2,h3,h4⟩ => ?_)
 cases e with
 | exit id' =>
  simp only [Yc] at h1
  simp only [Exit.inBlock]
  split
  ·rename_i hid;rw [if_pos hid] at h1;exact ⟨E',O',n',m',h1,h2,h3,h4⟩
  rename_i hid;rw [if_neg hid] at h1;exact ⟨E',O',n',m',h1,h2,h3,h4⟩
 | normal=>exact ⟨E',O',n',m',h1,h2,h3,h4⟩
 | goto l=>exact ⟨E',O',n',m',h1,h2,h3,h4⟩
 | ret=>exact ⟨E',O',n',m',h1,h2,h3,h4⟩
 | panic ch=>exact ⟨E',O',n',m',h1,h2,h3,h4⟩
 | outgrown=>exact ⟨E',O',n',m',h1,h2,h3,h4⟩
theorem Q6 {n':Nat} (hF:Fit2 ba E O n E' O' n') (k:W P ba c Q E' O' n'):W P ba c Q E O n:=fun hb w m a hM hE=>by
 obtain ⟨m',h1,h2,h3⟩:=hF w m a hM hE
 exact k.then h1 h2 h3
theorem Zdy (E':Env) (O':Objs) (hF:Fit E O E' O' n) (k:W P ba c Q E' O' n):W P ba c Q E O n:=fun hb=>Q6 (Fit2.of hF hb) k hb
end
def Zcd {S R:Type} (step:S→Option (S ⊕ R)):Nat→S→Option R
 | 0,_=>none
 | k+1,s=>match step s with
  | none=>none
  | some (.inl s')=>Zcd step k s'
  | some (.inr r)=>some r
open Classical in
/-- rounds, as many as it takes; none: it never ends, or there is none -/
noncomputable def Zw {S R:Type} (step:S→Option (S ⊕ R)) (s:S):Option R :=
 if h:∃ k,(Zcd step k s).isSome=true then Zcd step (Classical.choose h) s else none
section
variable {S R:Type} {step:S→Option (S ⊕ R)}
theorem Zof {r:R}:∀ (k j:Nat) (s:S),k≤j→Zcd step k s=some r→Zcd step j s=some r
 | 0,_,_,_,h=>by simp [Zcd] at h
 | k+1,0,_,hk,_=>by omega
 | k+1,j+1,s,hk,h=>by
  simp only [Zcd] at h ⊢
  split at h
  ·cases h
  ·exact Zof k j _ (by omega) h
  exact h
theorem Zkg {s:S} {r:R} (h:Zw step s=some r):∃ k,Zcd step k s=some r:=by
 unfold Zw at h
 split at h
 ·exact ⟨_,h⟩
 cases h
theorem Zc6 {s:S} {r:R} {k:Nat} (h:Zcd step k s=some r):Zw step s=some r:=by
 unfold Zw
 have hx:∃ k,(Zcd step k s).isSome=true:=⟨k,by rw [h];rfl⟩
 rw [dif_pos hx]
 have hc:=Classical.choose_spec hx
 obtain ⟨r',hr'⟩:=Option.isSome_iff_exists.1 hc
 rw [hr']
 rcases Nat.le_total k (Classical.choose hx) with hk | hk
 ·rw [← hr'];exact Zof _ _ _ hk h
 rw [← h];exact (Zof _ _ _ hk hr').symm
theorem Yw {s s':S} (h:step s=some (.inl s')):Zw step s=Zw step s':=by
 cases hr:Zw step s' with
 | some r =>
  obtain ⟨k,hk⟩:=Zkg hr
  exact Zc6 (k:=k+1) (by simp only [Zcd,h];exact hk)
 | none =>
  cases hq:Zw step s with
  | none=>rfl
  | some r =>
   obtain ⟨k,hk⟩:=Zkg hq
   cases k with
   | zero=>simp [Zcd] at hk
   | succ k =>
    simp only [Zcd,h] at hk
    rw [Zc6 hk] at hr
    cases hr
theorem Yg {s:S} {r:R} (h:step s=some (.inr r)):Zw step s=some r:=Zc6 (k:=1) (by simp only [Zcd,h])
end
section
variable {P:Program} {T:Kv} {O O' X X':Objs} {n n' ba:Nat} {E E':Env} {Q:GQ} {c x y:Code}
def Ygz {S R:Type} (ba:Nat) (Q:GQ) (F:S→Env) (H:S→Objs) (n:Nat) (r:R):S ⊕ R→GQ
 | .inl s',e,E,O,n'=>e = .normal∧Fit2 ba E O n' (F s') (H s') n
 | .inr r',e,E,O,n'=>r'=r→e ≠ .normal∧Q e E O n'
theorem Yfn {S R:Type} {step:S→Option (S ⊕ R)} {r:R} {s0:S} (hr:Zw step s0=some r) (F:S→Env) (H:S→Objs)
  (body:∀ s x,step s=some x→W P ba c (Ygz ba Q F H n r x) (F s) (H s) n):W P ba (.loop c) Q (F s0) (H s0) n:=fun hb w0 m0 a0 hM0 hE0=>by
 obtain ⟨k0,hk0⟩:=Zkg hr
 refine Ydr (fun k a w=>∃ s m,Zcd step k s=some r∧Mem w (H s) m n∧Holds w (H s) m n (F s) a∧Ext w0 (H s0) m0 ba w (H s) m n) ?_ k0 a0 w0 ⟨s0,m0,hk0,hM0,hE0,(Ext.refl _ _ _ _).base hb⟩
 rintro k a w ⟨s,m,hk,hM,hE,hX⟩
 cases k with
 | zero=>simp [Zcd] at hk
 | succ k =>
  simp only [Zcd] at hk
  cases hs:step s with
  | none=>rw [hs] at hk;cases hk
  | some x =>
   rw [hs] at hk
   refine wp_mono (body s x hs hb w m a hM hE) fun e a2 w2 ⟨E2,O2,n2,m2,h1,h2,h3,h4⟩ => ?_
   cases x with
   | inl s' =>
    obtain ⟨rfl,hF⟩:=h1
    obtain ⟨m3,g1,g2,g3⟩:=hF w2 m2 a2 h2 h3
    exact ⟨k,Nat.lt_succ_self _,s',m3,hk,g1,g2,hX.transB (h4.transB g3)⟩
   | inr r' =>
    injection hk with hk
    obtain ⟨hne,hq⟩:=h1 hk
    have:lift w0 (H s0) m0 ba Q e a2 w2:=⟨E2,O2,n2,m2,hq,h2,h3,hX.transB h4⟩
    cases e with
    | normal=>exact absurd rfl hne
    | exit id=>exact this
    | goto l=>exact this
    | ret=>exact this
    | panic ch=>exact this
    | outgrown=>exact this
theorem Zk (h:W P ba x (Y1 (fun E O n=>W P ba y Q E O n) Q) E O n):W P ba (.seq x y) Q E O n:=fun hb w m a hM hE=>by
 refine wp_seq (wp_mono (h hb w m a hM hE) fun e a' w' ⟨E2,O2,n2,m2,h1,h2,h3,h4⟩ => ?_)
 cases e with
 | normal=>exact (show W P ba y Q E2 O2 n2 from h1).then h2 h3 h4
 | exit id=>exact ⟨E2,O2,n2,m2,h1,h2,h3,h4⟩
 | goto l=>exact ⟨E2,O2,n2,m2,h1,h2,h3,h4⟩
 | ret=>exact ⟨E2,O2,n2,m2,h1,h2,h3,h4⟩
 | panic ch=>exact ⟨E2,O2,n2,m2,h1,h2,h3,h4⟩
 | outgrown=>exact ⟨E2,O2,n2,m2,h1,h2,h3,h4⟩
end
end Go.Proofs.Ytibgpnmmgffgeaa
