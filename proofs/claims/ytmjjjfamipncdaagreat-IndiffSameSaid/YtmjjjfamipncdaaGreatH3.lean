/- Part H3 of the ghost memory: lemmas and contracts used by the proofs of this seat's laws; each theorem bears its own conditions. -/
import Derived.Test.YtmjjjfamipncdaaGreatH2
namespace Go.Proofs.YtmjjjfamipncdaaGreat
open Go.RowKit
set_option linter.unusedVariables false
set_option linter.unusedSimpArgs false
section
variable {P:Program} {T:J0} {w w':World} {O O' X X':Objs} {m m':Hands} {n n':Nat} {f:FuncId} {gs:List G} {K:G→Objs→Nat→Prop}
def GTo (P:Program) (f:FuncId) (gs:List G) (O:Objs) (n:Nat) (r:G) (O2:Objs) (n2:Nat):Prop:=GCalls P f gs O n fun g O' n'=>g=r∧O'=O2∧n'=n2
theorem GTo.then {r:G} {O2:Objs} {n2:Nat} (h:GTo P f gs O n r O2 n2) (hk:K r O2 n2):GCalls P f gs O n K :=
 GCalls.mono h fun g O' n' ⟨a,b,c⟩=>by subst a b c;exact hk
theorem GTo.pure {r:G} (h:GTo P f gs O n r O n):GPure P f gs O n r:=h
mutual
/-- nothing of the memory is told -/
def G.scal:G→Bool
 | .any | .val _=>true
 | .agg cs=>G.scals cs
 | .tup cs=>G.scals cs
 | _=>false
def G.scals:List G→Bool
 | []=>true
 | g::gs=>g.scal && G.scals gs
end
mutual
theorem Z1f:∀ (g:G) (v:Value),g.scal=true→g.rep w O m n v→g.rep w' O' m' n' v
 | .any,_,_,_=>by simp [G.rep]
 | .val _,_,_,h=>by simpa [G.rep] using h
 | .agg cs,v,hp,h=>by simp only [G.scal] at hp;simp only [G.rep] at h ⊢;obtain ⟨vs,e,hr⟩:=h;exact ⟨vs,e,Zqw cs _ hp hr⟩
 | .tup cs,v,hp,h=>by simp only [G.scal] at hp;simp only [G.rep] at h ⊢;obtain ⟨vs,e,hr⟩:=h;exact ⟨vs,e,Zqw cs _ hp hr⟩
 | .sl ..,_,hp,_=>by simp [G.scal] at hp
 | .ip ..,_,hp,_=>by simp [G.scal] at hp
 | .row ..,_,hp,_=>by simp [G.scal] at hp
 | .rs ..,_,hp,_=>by simp [G.scal] at hp
 | .rp ..,_,hp,_=>by simp [G.scal] at hp
 | .rl ..,_,hp,_=>by simp [G.scal] at hp
 | .ref ..,_,hp,_=>by simp [G.scal] at hp
 | .fn ..,_,hp,_=>by simp [G.scal] at hp
 | .when ..,_,hp,_=>by simp [G.scal] at hp
theorem Zqw:∀ (gs:List G) (vs:List Value),G.scals gs=true→G.reps w O m n gs vs→G.reps w' O' m' n' gs vs
 | [],_,_,h=>by simpa [G.reps] using h
 | g::gs,vs,hp,h=>by
  simp only [G.scals,Bool.and_eq_true] at hp
  simp only [G.reps] at h ⊢
  obtain ⟨u,us,e,k1,k2⟩:=h
  exact ⟨u,us,e,Z1f g u hp.1 k1,Zqw gs us hp.2 k2⟩
end
theorem GCalls.lend {gs':List G} {r:G} (h:GPure P f gs' Ue 0 r) (hs:r.scal=true) (hw:wkl O Ue 0 gs gs') (k:K r O n):GCalls P f gs O n K:=by
 refine ⟨h.1,fun w m vs hM hr => ?_⟩
 have hL:LessO O Ue 0:=⟨fun _ _=>rfl,fun i o' h=>by simp [Ue] at h⟩
 refine (h.2 w m vs (hM.weak hL) (J9 hM hL _ _ hr _ hw)).mono fun e w' ⟨v,g,O',n',m',h1,h2,h3,h4,h5,h6,h7⟩ => ?_
 subst h5
 have hk:∀ b,b < w.heap.size→w'.heap[b]? = w.heap[b]? := fun b hb=>(h3.keep b hb (fun ⟨i,o,q,_⟩=>by simp [Ue] at q)).1
 have hE:Ext w O m n w' O m n:=⟨h3.os,h3.tape,h3.output,h3.size,Nat.le_refl _,fun b hb ho=>⟨hk b hb,ho⟩,fun i hi o h=>⟨o,h,rfl,Nat.le_refl _,fun _=>rfl⟩⟩
 exact ⟨v,_,O,n,m,h1,⟨hM.fresh,fun i o hi=>Zd0 hM hi hE fun b hb=>hk b (Zyj (hM.obj i o hi) b hb),hM.apart⟩,hE,Z1f _ _ hs h4,k⟩
theorem Zvk (hM:Mem w O m n) (t:TypeId) (sz:Nat) :
  Mem w (O.upd n (some ⟨true,t,sz,0,[]⟩)) (m.upd n (.slice none 0 0)) (n+1)∧Ext w O m n w (O.upd n (some ⟨true,t,sz,0,[]⟩)) (m.upd n (.slice none 0 0)) (n+1):=by
 have hh:∀ b,Ul (.slice none 0 0)=some b→b < w.heap.size→n < n∧Ul (m n)=some b:=fun b hb=>by simp [Ul] at hb
 have hE:Ext w O m n w (O.upd n (some ⟨true,t,sz,0,[]⟩)) (m.upd n (.slice none 0 0)) (n+1) :=
  Ext.upd (w':=w) hM n ⟨true,t,sz,0,[]⟩ (.slice none 0 0) (Nat.le_refl _) (fun h=>absurd h (Nat.lt_irrefl _)) rfl rfl rfl (Nat.le_refl _) (fun _ _ _=>rfl) hh (n+1) (Nat.le_succ _)
 refine ⟨Mem.upd hM n _ _ (Nat.le_refl _) (fun h=>absurd h (Nat.lt_irrefl _)) (fun _ _ _=>rfl) hh _ (by omega) (by omega) hE ?_,hE⟩
 refine ⟨[],rfl,?_⟩
 simp only [if_true]
 exact ⟨by simp,.inl ⟨rfl,rfl⟩⟩
theorem Zvl (t:TypeId) (sz:Nat):(G.row n 0).rep w (O.upd n (some ⟨true,t,sz,0,[]⟩)) (m.upd n (.slice none 0 0)) (n+1) (.slice none 0 0) :=
 Zda _ _ _ _ _ _ _ _ _ ⟨_,_,rfl⟩
theorem Zj7 {E:Env} {ba:Nat} (s:Tmp) (t:TypeId) (sz:Nat) (hs:Qy E.l s = .val (.slice none 0 0)) (hb:ba≤n):Fit2 ba E O n ⟨E.n,E.keep,(s,.row n 0)::E.l⟩ (O.upd n (some ⟨true,t,sz,0,[]⟩)) (n+1):=fun w m a hM hE=>by
 obtain ⟨h1,h2⟩:=Zvk hM t sz
 refine ⟨_,h1,⟨hE.size,fun t' v hv => ?_,fun t' ht => ?_,hE.defers⟩,h2.base hb⟩
 ·simp only [Qy]
  split
  ·rename_i e
   subst e
   have:=hE.at_ t' v hv
   rw [hs] at this
   simp only [G.rep] at this
   subst this
   exact Zvl t sz
  exact G.rep_ext h2 _ _ (hE.at_ t' v hv)
 simp only [Qy]
 split
 ·rename_i e
  subst e
  have:=hE.out t' ht
  rw [hs] at this;cases this
 exact hE.out t' ht
def Fin (T:J0) (rs:List ResultVar) (r:G) (ba:Nat) (O2:Objs) (n2:Nat):GQ:=fun e E' O' n'=>(e = .normal∨e = .ret)∧∃ E2 O3 n3 gs,Fit2 ba E' O' n' E2 O3 n3∧Zfs T O3 E2 rs=some gs∧LessO O3 O2 n2∧wk O3 O2 n2 (Zmz gs) r
theorem Ye (hT:Ql P T) {fn:Func} {c:Code} (hc:∀ args w,(callFunc f args).run P w = .ok (.enter f args) w) (hf:P.funcs[f]? = some fn) (hb:fn.body=some c)
  {r:G} {O2:Objs} {n2:Nat} (hn:gs.length≤fn.ntmps) (h2:n≤n2) (h:Und O n→W P n c (Fin T fn.results.toList r n O2 n2) ⟨fn.ntmps,[],Znt 0 gs⟩ (Z3 O n []) n):GTo P f gs O n r O2 n2:=by
 refine ⟨hc,fun w m vs hM hr => ?_⟩
 have hl:=Qx _ _ hr
 have hU:Und O n:=⟨hM.fresh,fun i o hi=>by obtain ⟨vs,hv,_⟩:=hM.obj i o hi;exact Jv _ _ hv⟩
 have h:=h hU
 rw [Jw hM.fresh] at h
 refine calls_of_wp hf hb (wp_mono (h (Nat.le_refl _) w m { tmps:=vs.toArray++Array.replicate (fn.ntmps - vs.toArray.size) undef,defers:=[] } hM ?_) fun e a' w' ⟨E',O',n',m',h1,h2',h3,h4⟩ => ?_)
 ·have hv:∀ (gs:List G) (vs:List Value) (k:Nat),G.reps w O m n gs vs→∀ t,(k≤t→∀ v,vs[t - k]? = some v→(Qy (Znt k gs) t).rep w O m n v)∧(t < k∨k+gs.length≤t→Qy (Znt k gs) t = .any):=fun gs=>by
   induction gs with
   | nil =>
    intro vs k hr t
    simp only [G.reps] at hr
    subst hr
    exact ⟨fun _ v hv=>by simp at hv,fun _=>rfl⟩
   | cons g gs ih =>
    intro vs k hr t
    simp only [G.reps] at hr
    obtain ⟨u,us,rfl,h1,h2⟩:=hr
    have:=ih us (k+1) h2 t
    simp only [Znt,Qy]
    refine ⟨fun hk v hv => ?_,fun ht => ?_⟩
    ·by_cases e:t=k
     ·subst e
      rw [if_pos rfl]
      simp at hv
      subst hv
      exact h1
     rw [if_neg e]
     refine this.1 (by omega) v ?_
     have:t - k=t - (k+1)+1:=by omega
     rw [this] at hv
     simpa using hv
    have e:¬ t=k:=by simp at ht;omega
    rw [if_neg e]
    exact this.2 (by simp at ht;omega)
  have hq:=hv gs vs 0 hr
  have hsz:(vs.toArray++Array.replicate (fn.ntmps - vs.toArray.size) undef).size=fn.ntmps:=by simp;omega
  refine ⟨hsz,fun t v hv => ?_,fun t ht=>(hq t).2 (.inr (by simp only at ht;omega)),rfl⟩
  rcases Nat.lt_or_ge t vs.length with ht | ht
  ·refine (hq t).1 (Nat.zero_le _) v ?_
   have:(vs.toArray++Array.replicate (fn.ntmps - vs.toArray.size) undef)[t]? = vs[t]? := by
    rw [Array.getElem?_append_left (by simpa using ht)];simp
   rw [Nat.sub_zero,← this];exact hv
  rw [(hq t).2 (.inr (by omega))]
  simp [G.rep]
 obtain ⟨he,E2,O3,n3,gs',hF2,hg,hL,hwk⟩:=h1
 obtain ⟨m3,h2',h3,hX3⟩:=hF2 w' m' a' h2' h3
 have h4:=h4.transB hX3
 obtain ⟨v,hv,hrep⟩:=Znm hT h2' h3 hg
 have fin:a'.defers=[]∧∃ v,(results fn a'.tmps).run P w' = .ok v w'∧∃ v_1 g O' n' m',Ending.returned v = .returned v_1∧Mem w' O' m' n'∧Ext w O m n w' O' m' n'∧G.rep w' O' m' n' g v_1∧(g=r∧O'=O2∧n'=n2) :=
  ⟨h3.defers,v,hv,v,r,O2,n2,m3,rfl,h2'.weak hL,h4.weak hL h2,Zh2 h2' hL _ _ hrep _ hwk,rfl,rfl,rfl⟩
 rcases he with rfl | rfl <;> exact fin
end
section
variable {P:Program} {T:J0} {O O' X X':Objs} {n n' n0 ba:Nat} {E E':Env} {Q:GQ} {c x y:Code}
def JN (ba:Nat) (E':Env) (O':Objs) (n0:Nat):GQ:=fun e E O n=>e = .normal∧Fit2 ba E O n E' O' n0
def JX (id:Nat) (ba:Nat) (E':Env) (O':Objs) (n0:Nat):GQ:=fun e E O n=>e = .exit id∧Fit2 ba E O n E' O' n0
def JR (ba:Nat) (E':Env) (O':Objs) (n0:Nat):GQ:=fun e E O n=>e = .ret∧Fit2 ba E O n E' O' n0
theorem Z2x {w w2:World} {m m2:Hands} {E2:Env} {O2:Objs} {n2:Nat} {a2:Act} {e:Exit} (hF:Fit2 ba E2 O2 n2 E' O' n0) (h2:Mem w2 O2 m2 n2) (h3:Holds w2 O2 m2 n2 E2 a2) (h4:Ext w O m ba w2 O2 m2 n2) (k:Q e E' O' n0):lift w O m ba Q e a2 w2:=by
 obtain ⟨m',g1,g2,g3⟩:=hF w2 m2 a2 h2 h3
 exact ⟨E',O',n0,m',k,g1,g2,h4.transB g3⟩
theorem Yr (h:W P ba x (JN ba E' O' n0) E O n) (k:W P ba y Q E' O' n0):W P ba (.seq x y) Q E O n:=fun hb w m a hM hE=>by
 refine wp_seq (wp_mono (h hb w m a hM hE) fun e a' w' ⟨E2,O2,n2,m2,⟨he,hF⟩,h2,h3,h4⟩ => ?_)
 subst he
 obtain ⟨m',g1,g2,g3⟩:=hF w' m2 a' h2 h3
 exact k.then g1 g2 (h4.transB g3)
theorem Z18 (h:W P ba x (JR ba E' O' n0) E O n) (k:Q .ret E' O' n0):W P ba (.seq x y) Q E O n:=fun hb w m a hM hE =>
 wp_seq (wp_mono (h hb w m a hM hE) fun e a' w' ⟨E2,O2,n2,m2,⟨he,hF⟩,h2,h3,h4⟩=>by subst he;exact Z2x hF h2 h3 h4 k)
theorem Yfa (h:W P ba x (JR ba E' O' n0) E O n) (k:Q .ret E' O' n0):W P ba x Q E O n:=fun hb w m a hM hE =>
 wp_mono (h hb w m a hM hE) fun e a' w' ⟨E2,O2,n2,m2,⟨he,hF⟩,h2,h3,h4⟩=>by subst he;exact Z2x hF h2 h3 h4 k
theorem Yfb {id:Nat} (h:W P ba x (JX id ba E' O' n0) E O n) (k:Q (.exit id) E' O' n0):W P ba x Q E O n:=fun hb w m a hM hE =>
 wp_mono (h hb w m a hM hE) fun e a' w' ⟨E2,O2,n2,m2,⟨he,hF⟩,h2,h3,h4⟩=>by subst he;exact Z2x hF h2 h3 h4 k
def Ye8 {S R:Type} (ba:Nat) (F:S→Env) (H:S→Objs) (n:Nat) (J:R→GQ):S ⊕ R→GQ
 | .inl s',e,E,O,n'=>e = .normal∧Fit2 ba E O n' (F s') (H s') n
 | .inr r',e,E,O,n'=>e ≠ .normal∧J r' e E O n'
theorem Qt {S R:Type} {step:S→Option (S ⊕ R)} {r:R} {s0:S} (hr:Z6 step s0=some r) (F:S→Env) (H:S→Objs) (J:R→GQ)
  (body:∀ s x,step s=some x→W P ba c (Ye8 ba F H n J x) (F s) (H s) n):W P ba (.loop c) (J r) (F s0) (H s0) n :=
 Yd0 hr F H fun s x hx hb w m a hM hE=>wp_mono (body s x hx hb w m a hM hE) fun e a' w' ⟨E2,O2,n2,m2,h1,h2,h3,h4⟩=>by
  refine ⟨E2,O2,n2,m2,?_,h2,h3,h4⟩
  cases x with
  | inl s'=>exact h1
  | inr r'=>exact fun e=>by subst e;exact h1
theorem Mem.less_self {w:World} {m:Hands} (hM:Mem w O m n):LessO O O n:=⟨hM.fresh,fun i o hi=>⟨o,hi,rfl,rfl,rfl,rfl,Uw _ (by obtain ⟨vs,hv,_⟩:=hM.obj i o hi;exact Jv _ _ hv)⟩⟩
theorem GCalls.args {f:FuncId} {gs gs':List G} {K:G→Objs→Nat→Prop} (h:GCalls P f gs' O n K) (hw:wkl O O n gs gs'):GCalls P f gs O n K :=
 ⟨h.1,fun w m vs hM hr=>h.2 w m vs hM (J9 hM hM.less_self _ _ hr _ hw)⟩
end
end Go.Proofs.YtmjjjfamipncdaaGreat
