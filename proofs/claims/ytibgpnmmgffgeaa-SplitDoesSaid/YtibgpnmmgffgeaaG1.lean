/- A ghost memory: values that speak of lists, and a heap of the call's own objects; how they lie in the model's memory (part G1). No condition. -/
import Derived.WalkKit
import Derived.WalkSpells
import Derived.WalkLawsBesides
import Derived.Lib.Hide
import Derived.BigQuiet
import Derived.StillTailTactics
import Derived.Deep.RegionHeld3
import Derived.Deep.AppendLies
import Derived.Laws.CopyOwn
import Derived.Deep.DeepCutAuto
import Derived.Deep.QuietTactic
namespace Go.Proofs.Ytibgpnmmgffgeaa
open Go.RowKit
set_option linter.unusedSimpArgs false
set_option linter.unusedVariables false
abbrev oNn:Option Bool:=none
abbrev Xt:Option Bool:=some false
abbrev Uk:Option Bool:=some true
abbrev Z42 (l:List (Option Bool)):List (Option Bool):=oNn::oNn::oNn::l
abbrev Ygf (l:List (Option Bool)):List (Option Bool):=oNn::oNn::oNn::oNn::l
abbrev Zzy (l:List (Option Bool)):List (Option Bool):=oNn::oNn::oNn::oNn::oNn::oNn::l
abbrev Zzz (l:List (Option Bool)):List (Option Bool):=oNn::oNn::oNn::oNn::oNn::oNn::oNn::l
abbrev Zw8 (l:List (Option Bool)):List (Option Bool):=oNn::oNn::oNn::oNn::oNn::oNn::oNn::oNn::l
abbrev Yht (l:List (Option Bool)):List (Option Bool):=oNn::oNn::oNn::oNn::oNn::oNn::oNn::oNn::oNn::oNn::oNn::oNn::oNn::oNn::l
abbrev Yhu (l:List (Option Bool)):List (Option Bool):=oNn::oNn::oNn::oNn::oNn::oNn::oNn::oNn::oNn::oNn::oNn::oNn::oNn::oNn::oNn::l
abbrev Yhv (l:List (Option Bool)):List (Option Bool):=oNn::oNn::oNn::oNn::oNn::oNn::oNn::oNn::oNn::oNn::oNn::oNn::oNn::oNn::oNn::oNn::oNn::oNn::oNn::oNn::oNn::oNn::oNn::oNn::oNn::oNn::oNn::l
abbrev Z41 (l:List (Option Bool)):List (Option Bool):=Xt::Xt::Xt::l
abbrev Yhp (l:List (Option Bool)):List (Option Bool):=Xt::Xt::Xt::Xt::l
abbrev Yar (l:List (Option Bool)):List (Option Bool):=Xt::Xt::Xt::Xt::Xt::l
abbrev Zzx (l:List (Option Bool)):List (Option Bool):=Xt::Xt::Xt::Xt::Xt::Xt::l
abbrev Yhq (l:List (Option Bool)):List (Option Bool):=Xt::Xt::Xt::Xt::Xt::Xt::Xt::l
abbrev Yhr (l:List (Option Bool)):List (Option Bool):=Xt::Xt::Xt::Xt::Xt::Xt::Xt::Xt::l
abbrev Z8q (l:List (Option Bool)):List (Option Bool):=Xt::Xt::Xt::Xt::Xt::Xt::Xt::Xt::Xt::l
abbrev Yhk (l:List (Option Bool)):List (Option Bool):=Xt::Xt::Xt::Xt::Xt::Xt::Xt::Xt::Xt::Xt::l
abbrev Yhl (l:List (Option Bool)):List (Option Bool):=Xt::Xt::Xt::Xt::Xt::Xt::Xt::Xt::Xt::Xt::Xt::l
abbrev Z20 (l:List (Option Bool)):List (Option Bool):=Xt::Xt::Xt::Xt::Xt::Xt::Xt::Xt::Xt::Xt::Xt::Xt::l
abbrev Yhm (l:List (Option Bool)):List (Option Bool):=Xt::Xt::Xt::Xt::Xt::Xt::Xt::Xt::Xt::Xt::Xt::Xt::Xt::l
abbrev Yfb (l:List (Option Bool)):List (Option Bool):=Xt::Xt::Xt::Xt::Xt::Xt::Xt::Xt::Xt::Xt::Xt::Xt::Xt::Xt::Xt::Xt::Xt::Xt::l
abbrev Yhn (l:List (Option Bool)):List (Option Bool):=Xt::Xt::Xt::Xt::Xt::Xt::Xt::Xt::Xt::Xt::Xt::Xt::Xt::Xt::Xt::Xt::Xt::Xt::Xt::Xt::Xt::l
abbrev Yfc (l:List (Option Bool)):List (Option Bool):=Xt::Xt::Xt::Xt::Xt::Xt::Xt::Xt::Xt::Xt::Xt::Xt::Xt::Xt::Xt::Xt::Xt::Xt::Xt::Xt::Xt::Xt::Xt::Xt::l
abbrev Yho (l:List (Option Bool)):List (Option Bool):=Xt::Xt::Xt::Xt::Xt::Xt::Xt::Xt::Xt::Xt::Xt::Xt::Xt::Xt::Xt::Xt::Xt::Xt::Xt::Xt::Xt::Xt::Xt::Xt::Xt::Xt::Xt::l
abbrev Z8r (l:List (Option Bool)):List (Option Bool):=Uk::Uk::Uk::l
abbrev Ydz (l:List (Option Bool)):List (Option Bool):=Uk::Uk::Uk::Uk::l
abbrev Yhx (l:List (Option Bool)):List (Option Bool):=Uk::Uk::Uk::Uk::Uk::l
abbrev Zz0 (l:List (Option Bool)):List (Option Bool):=Uk::Uk::Uk::Uk::Uk::Uk::l
abbrev Ygg (l:List (Option Bool)):List (Option Bool):=Uk::Uk::Uk::Uk::Uk::Uk::Uk::l
abbrev Yhy (l:List (Option Bool)):List (Option Bool):=Uk::Uk::Uk::Uk::Uk::Uk::Uk::Uk::l
abbrev Yhz (l:List (Option Bool)):List (Option Bool):=Uk::Uk::Uk::Uk::Uk::Uk::Uk::Uk::Uk::l
abbrev Yhw (l:List (Option Bool)):List (Option Bool):=Uk::Uk::Uk::Uk::Uk::Uk::Uk::Uk::Uk::Uk::l
abbrev Yas (l:List (Option Bool)):List (Option Bool):=Uk::Uk::Uk::Uk::Uk::Uk::Uk::Uk::Uk::Uk::Uk::Uk::l
abbrev Yat (l:List (Option Bool)):List (Option Bool):=Uk::Uk::Uk::Uk::Uk::Uk::Uk::Uk::Uk::Uk::Uk::Uk::Uk::Uk::l
inductive G where
 | any
 | val (v:Value)
 | agg (cs:List G)
 | tup (vs:List G)
 | sl (n:Nat) (cs:List G)
 | ip (cs:List G) (k:Nat)
 | row (i n:Nat)
 | rs (i off n:Nat)
 | rp (i n off:Nat)
 | rl (i n off k:Nat)
 | ref (i off:Nat)
 | fn (f k:Nat) (cs:List G)
 | when (b:Bool) (g:G)
instance:Inhabited G:=⟨.any⟩
structure GObj where
 row:Bool
 ty:TypeId
 sz:Nat
 n:Nat
 cells:List G
abbrev Objs:=Nat→Option GObj
def Za7:Objs:=fun _=>none
def Objs.upd (O:Objs) (i:Nat) (o:Option GObj):Objs:=fun j=>if j=i then o else O j
def Zam:Value→Option Nat
 | .slice (some a) _ _=>some a.block
 | .pointer (some a)=>some a.block
 | _=>none
abbrev Hands:=Nat→Value
def Hands.upd (m:Hands) (i:Nat) (v:Value):Hands:=fun j=>if j=i then v else m j
def owns (O:Objs) (m:Hands) (b:Nat):Prop:=∃ i o,O i=some o∧Zam (m i)=some b
mutual
def G.rep (w:World) (O:Objs) (m:Hands) (n:Nat):G→Value→Prop
 | .any,_=>True
 | .val u,v=>v=u
 | .agg cs,v=>∃ vs:Array Value,v = .agg vs∧G.reps w O m n cs vs.toList
 | .tup cs,v=>∃ vs:Array Value,v = .tuple vs∧G.reps w O m n cs vs.toList
 | .fn f k cs,v=>∃ vs:List Value,v = .func (.func f) (vs.take k).toArray (vs.drop k).toArray∧G.reps w O m n cs vs
 | .sl k cs,v=>∃ A c,v = .slice A k c∧k≤c∧∃ vs,G.reps w O m n cs vs∧(k≠0→∃ g off,A=some ⟨g,off,none⟩∧g < w.heap.size∧¬ owns O m g∧∀ j u,vs[j]? = some u→w.cell? ⟨g,off+j,none⟩=some u)
 | .ip cs k,v=>∃ g off,v = .pointer (some ⟨g,off+k,none⟩)∧g < w.heap.size∧¬ owns O m g∧∃ vs,G.reps w O m n cs vs∧∀ j u,vs[j]? = some u→w.cell? ⟨g,off+j,none⟩=some u
 | .row i k,v=>i < n∧(∃ A c,v = .slice A k c)∧∀ o,O i=some o→k≤o.n∧(k=o.n→o.row=true→m i=v)
 | .rp i k off,v=>i < n∧v.oneCell'=true∧∀ o,O i=some o→k≤o.n∧(k=o.n→o.row=true→∃ g c,m i = .slice (some ⟨g,0,none⟩) k c∧v = .pointer (some ⟨g,off,none⟩))
 | .rl i k off len,v=>i < n∧v.oneCell'=true∧∀ o,O i=some o→k≤o.n∧(k=o.n→o.row=true→∃ g c A c',m i = .slice (some ⟨g,0,none⟩) k c∧v = .slice A len c'∧len≤c'∧(len≠0→A=some ⟨g,off,none⟩)∧(off=0→v = .slice (some ⟨g,0,none⟩) len c))
 | .rs i off k,v=>i < n∧v.oneCell'=true∧∀ o,O i=some o→o.row=false→∃ g c,m i = .pointer (some ⟨g,0,none⟩)∧v = .slice (some ⟨g,off,none⟩) k c∧k≤c
 | .ref i off,v=>i < n∧v.oneCell'=true∧∀ o,O i=some o→o.row=false→∃ g,m i = .pointer (some ⟨g,0,none⟩)∧v = .pointer (some ⟨g,off,none⟩)
 | .when b g,v=>(b=true→G.rep w O m n g v)∧(b=false→v = .tuple #[])
def G.reps (w:World) (O:Objs) (m:Hands) (n:Nat):List G→List Value→Prop
 | [],vs=>vs=[]
 | g::gs,vs=>∃ u us,vs=u::us∧G.rep w O m n g u∧G.reps w O m n gs us
end
def GObj.lies (w:World) (O:Objs) (m:Hands) (n:Nat) (o:GObj) (h:Value):Prop :=
 ∃ vs,G.reps w O m n o.cells vs ∧
  if o.row then w.ownsRow 0 o.ty o.sz h o.n vs
  else ∃ g,h = .pointer (some ⟨g,0,none⟩)∧w.heap[g]? = some (.cells vs.toArray o.ty (0,0))
structure Mem (w:World) (O:Objs) (m:Hands) (n:Nat):Prop where
 fresh:∀ i,n≤i→O i=none
 obj:∀ i o,O i=some o→o.lies w O m n (m i)
 apart:∀ i j oi oj b,O i=some oi→O j=some oj→Zam (m i)=some b→Zam (m j)=some b→i=j
structure Ext (w:World) (O:Objs) (m:Hands) (n:Nat) (w':World) (O':Objs) (m':Hands) (n':Nat):Prop where
 os:w'.os=w.os
 tape:w'.tape=w.tape
 output:w'.output=w.output
 size:w.heap.size≤w'.heap.size
 more:n≤n'
 keep:∀ b,b < w.heap.size→¬ owns O m b→w'.heap[b]? = w.heap[b]? ∧ ¬ owns O' m' b
 stay:∀ i,i < n→∀ o',O' i=some o'→∃ o,O i=some o∧o'.row=o.row∧o.n≤o'.n∧((o'.n=o.n∨o'.row=false)→m' i=m i)
section
variable {w w' w'':World} {O O' O'':Objs} {m m' m'':Hands} {n n' n'':Nat}
theorem Ext.refl (w:World) (O:Objs) (m:Hands) (n:Nat):Ext w O m n w O m n :=
 ⟨rfl,rfl,rfl,Nat.le_refl _,Nat.le_refl _,fun _ _ h=>⟨rfl,h⟩,fun _ _ o h=>⟨o,h,rfl,Nat.le_refl _,fun _=>rfl⟩⟩
theorem Ext.trans (h:Ext w O m n w' O' m' n') (k:Ext w' O' m' n' w'' O'' m'' n''):Ext w O m n w'' O'' m'' n'':=by
 refine ⟨k.os.trans h.os,k.tape.trans h.tape,k.output.trans h.output,Nat.le_trans h.size k.size,Nat.le_trans h.more k.more,fun b hb ho => ?_,fun i hi o'' ho'' => ?_⟩
 ·obtain ⟨e1,h1⟩:=h.keep b hb ho
  obtain ⟨e2,h2⟩:=k.keep b (Nat.lt_of_lt_of_le hb h.size) h1
  exact ⟨e2.trans e1,h2⟩
 obtain ⟨o',h1,h2,h3,h4⟩:=k.stay i (Nat.lt_of_lt_of_le hi h.more) o'' ho''
 obtain ⟨o,g1,g2,g3,g4⟩:=h.stay i hi o' h1
 refine ⟨o,g1,h2.trans g2,Nat.le_trans g3 h3,fun e => ?_⟩
 rcases e with e | e
 ·exact (h4 (.inl (by omega))).trans (g4 (.inl (by omega)))
 exact (h4 (.inr e)).trans (g4 (.inr (by rw [← h2];exact e)))
theorem Ext.cell (h:Ext w O m n w' O' m' n') {g o:Nat} (hg:g < w.heap.size) (ho:¬ owns O m g):w'.cell? ⟨g,o,none⟩=w.cell? ⟨g,o,none⟩:=by
 unfold World.cell?
 rw [(h.keep g hg ho).1]
mutual
theorem G.rep_ext (h:Ext w O m n w' O' m' n'):∀ (g:G) (v:Value),g.rep w O m n v→g.rep w' O' m' n' v
 | .any,v,hr=>by simp [G.rep]
 | .val u,v,hr=>by simpa [G.rep] using hr
 | .agg cs,v,hr=>by
  simp only [G.rep] at hr ⊢
  obtain ⟨vs,e,hs⟩:=hr
  exact ⟨vs,e,G.reps_ext h cs _ hs⟩
 | .tup cs,v,hr=>by
  simp only [G.rep] at hr ⊢
  obtain ⟨vs,e,hs⟩:=hr
  exact ⟨vs,e,G.reps_ext h cs _ hs⟩
 | .fn f k cs,v,hr=>by
  simp only [G.rep] at hr ⊢
  obtain ⟨vs,e,hs⟩:=hr
  exact ⟨vs,e,G.reps_ext h cs _ hs⟩
 | .sl k cs,v,hr=>by
  simp only [G.rep] at hr ⊢
  obtain ⟨A,c,e,hc,vs,hs,ha⟩:=hr
  refine ⟨A,c,e,hc,vs,G.reps_ext h cs _ hs,fun hne => ?_⟩
  obtain ⟨g,off,e2,hg,ho,hcell⟩:=ha hne
  exact ⟨g,off,e2,Nat.lt_of_lt_of_le hg h.size,(h.keep g hg ho).2,fun j u hu=>(h.cell hg ho).trans (hcell j u hu)⟩
 | .ip cs k,v,hr=>by
  simp only [G.rep] at hr ⊢
  obtain ⟨g,off,e,hg,ho,vs,hs,hcell⟩:=hr
  exact ⟨g,off,e,Nat.lt_of_lt_of_le hg h.size,(h.keep g hg ho).2,vs,G.reps_ext h cs _ hs,fun j u hu=>(h.cell hg ho).trans (hcell j u hu)⟩
 | .row i k,v,hr=>by
  simp only [G.rep] at hr ⊢
  refine ⟨Nat.lt_of_lt_of_le hr.1 h.more,hr.2.1,fun o' ho' => ?_⟩
  obtain ⟨o,h1,h2,h3,h4⟩:=h.stay i hr.1 o' ho'
  obtain ⟨k1,k2⟩:=hr.2.2 o h1
  exact ⟨by omega,fun e hrow=>(h4 (.inl (by omega))).trans (k2 (by omega) (by rw [← h2];exact hrow))⟩
 | .rp i k off,v,hr=>by
  simp only [G.rep] at hr ⊢
  refine ⟨Nat.lt_of_lt_of_le hr.1 h.more,hr.2.1,fun o' ho' => ?_⟩
  obtain ⟨o,h1,h2,h3,h4⟩:=h.stay i hr.1 o' ho'
  obtain ⟨k1,k2⟩:=hr.2.2 o h1
  refine ⟨by omega,fun e hrow => ?_⟩
  obtain ⟨g,c,e1,e2⟩:=k2 (by omega) (by rw [← h2];exact hrow)
  exact ⟨g,c,(h4 (.inl (by omega))).trans e1,e2⟩
 | .rl i k off len,v,hr=>by
  simp only [G.rep] at hr ⊢
  refine ⟨Nat.lt_of_lt_of_le hr.1 h.more,hr.2.1,fun o' ho' => ?_⟩
  obtain ⟨o,h1,h2,h3,h4⟩:=h.stay i hr.1 o' ho'
  obtain ⟨k1,k2⟩:=hr.2.2 o h1
  refine ⟨by omega,fun e hrow => ?_⟩
  obtain ⟨g,c,A,c',e1,e2⟩:=k2 (by omega) (by rw [← h2];exact hrow)
  exact ⟨g,c,A,c',(h4 (.inl (by omega))).trans e1,e2⟩
 | .rs i off k,v,hr=>by
  simp only [G.rep] at hr ⊢
  refine ⟨Nat.lt_of_lt_of_le hr.1 h.more,hr.2.1,fun o' ho' hrow => ?_⟩
  obtain ⟨o,h1,h2,h3,h4⟩:=h.stay i hr.1 o' ho'
  obtain ⟨g,c,k1,k2,k3⟩:=hr.2.2 o h1 (by rw [← h2];exact hrow)
  exact ⟨g,c,(h4 (.inr hrow)).trans k1,k2,k3⟩
 | .ref i off,v,hr=>by
  simp only [G.rep] at hr ⊢
  refine ⟨Nat.lt_of_lt_of_le hr.1 h.more,hr.2.1,fun o' ho' hrow => ?_⟩
  obtain ⟨o,h1,h2,h3,h4⟩:=h.stay i hr.1 o' ho'
  obtain ⟨g,k1,k2⟩:=hr.2.2 o h1 (by rw [← h2];exact hrow)
  exact ⟨g,(h4 (.inr hrow)).trans k1,k2⟩
 | .when b g,v,hr=>by
  simp only [G.rep] at hr ⊢
  exact ⟨fun hb=>G.rep_ext h g v (hr.1 hb),hr.2⟩
theorem G.reps_ext (h:Ext w O m n w' O' m' n'):∀ (gs:List G) (vs:List Value),G.reps w O m n gs vs→G.reps w' O' m' n' gs vs
 | [],vs,hr=>by simpa [G.reps] using hr
 | g::gs,vs,hr=>by
  simp only [G.reps] at hr ⊢
  obtain ⟨u,us,e,h1,h2⟩:=hr
  exact ⟨u,us,e,G.rep_ext h g u h1,G.reps_ext h gs us h2⟩
end
theorem Ju:∀ (gs:List G) (vs:List Value),G.reps w O m n gs vs→gs.length=vs.length
 | [],vs,h=>by simp only [G.reps] at h;subst h;rfl
 | g::gs,vs,h=>by
  simp only [G.reps] at h
  obtain ⟨u,us,rfl,_,h2⟩:=h
  simp [Ju gs us h2]
theorem U7:∀ (gs hs:List G) (vs us:List Value),G.reps w O m n gs vs→G.reps w O m n hs us→G.reps w O m n (gs++hs) (vs++us)
 | [],hs,vs,us,h,k=>by simp only [G.reps] at h;subst h;simpa using k
 | g::gs,hs,vs,us,h,k=>by
  simp only [G.reps,List.cons_append] at h ⊢
  obtain ⟨u,us',rfl,h1,h2⟩:=h
  exact ⟨u,us'++us,rfl,h1,U7 gs hs us' us h2 k⟩
theorem Zm5:∀ (gs:List G) (vs:List Value),G.reps w O m n gs vs→∀ (k:Nat) (g:G),gs[k]? = some g→∃ v,vs[k]? = some v∧G.rep w O m n g v
 | [],vs,h,k,g,hk=>by simp at hk
 | g0::gs,vs,h,k,g,hk=>by
  simp only [G.reps] at h
  obtain ⟨u,us,rfl,h1,h2⟩:=h
  cases k with
  | zero=>simp at hk;subst hk;exact ⟨u,rfl,h1⟩
  | succ k=>exact Zm5 gs us h2 k g (by simpa using hk)
theorem Gl:∀ (k:Nat) (gs:List G) (vs:List Value),G.reps w O m n gs vs→G.reps w O m n (gs.drop k) (vs.drop k)
 | 0,gs,vs,h=>h
 | k+1,[],vs,h=>by simp only [G.reps] at h;subst h;simp [G.reps]
 | k+1,g::gs,vs,h=>by
  simp only [G.reps] at h
  obtain ⟨u,us,rfl,h1,h2⟩:=h
  exact Gl k gs us h2
theorem Vz:∀ (k:Nat) (gs:List G) (vs:List Value),G.reps w O m n gs vs→G.reps w O m n (gs.take k) (vs.take k)
 | 0,gs,vs,h=>by simp [G.reps]
 | k+1,[],vs,h=>by simp only [G.reps] at h;subst h;simp [G.reps]
 | k+1,g::gs,vs,h=>by
  simp only [G.reps] at h
  obtain ⟨u,us,rfl,h1,h2⟩:=h
  simp only [List.take_succ_cons,G.reps]
  exact ⟨u,_,rfl,h1,Vz k gs us h2⟩
theorem Zvz:∀ (gs:List G) (vs:List Value) (k:Nat) (g:G) (v:Value),G.reps w O m n gs vs→g.rep w O m n v→G.reps w O m n (gs.set k g) (vs.set k v)
 | [],vs,k,g,v,h,hv=>by simp only [G.reps] at h;subst h;simp [G.reps]
 | g0::gs,vs,0,g,v,h,hv=>by
  simp only [G.reps] at h
  obtain ⟨u,us,rfl,h1,h2⟩:=h
  exact ⟨v,us,rfl,hv,h2⟩
 | g0::gs,vs,k+1,g,v,h,hv=>by
  simp only [G.reps] at h
  obtain ⟨u,us,rfl,h1,h2⟩:=h
  exact ⟨u,us.set k v,rfl,h1,Zvz gs us k g v h2 hv⟩
theorem Ziu:∀ (vs:List Value),G.reps w O m n (vs.map .val) vs
 | []=>rfl
 | v::vs=>⟨v,vs,rfl,rfl,Ziu vs⟩
end
def G.one:G→Bool
 | .val v=>v.oneCell'
 | .any | .agg _ | .tup _ | .when _ _=>false
 | _=>true
theorem Z7e {w:World} {O:Objs} {m:Hands} {n:Nat} {g:G} {v:Value} (h:g.rep w O m n v) (h1:g.one=true):v.oneCell'=true:=by
 cases g with
 | any=>simp [G.one] at h1
 | val u=>simp only [G.rep] at h;subst h;exact h1
 | agg cs=>simp [G.one] at h1
 | tup cs=>simp [G.one] at h1
 | when b g=>simp [G.one] at h1
 | sl k cs=>simp only [G.rep] at h;obtain ⟨A,c,rfl,_⟩:=h;rfl
 | ip cs k=>simp only [G.rep] at h;obtain ⟨g,off,rfl,_⟩:=h;rfl
 | row i k=>simp only [G.rep] at h;obtain ⟨A,c,rfl⟩:=h.2.1;rfl
 | rs i off k=>simp only [G.rep] at h;exact h.2.1
 | rp i k off=>simp only [G.rep] at h;exact h.2.1
 | rl i k off len=>simp only [G.rep] at h;exact h.2.1
 | ref i off=>simp only [G.rep] at h;exact h.2.1
 | fn f k cs=>simp only [G.rep] at h;obtain ⟨vs,rfl,_⟩:=h;rfl
theorem Zin {w:World} {O:Objs} {m:Hands} {n:Nat}:∀ (gs:List G) (vs:List Value),G.reps w O m n gs vs→gs.all G.one=true→∀ u∈vs,u.oneCell'=true
 | [],vs,h,h1,u,hu=>by simp only [G.reps] at h;subst h;cases hu
 | g::gs,vs,h,h1,u,hu=>by
  simp only [G.reps] at h
  obtain ⟨u0,us,rfl,h2,h3⟩:=h
  simp only [List.all_cons,Bool.and_eq_true] at h1
  cases hu with
  | head=>exact Z7e h2 h1.1
  | tail _ hu=>exact Zin gs us h3 h1.2 u hu
end Go.Proofs.Ytibgpnmmgffgeaa
