/- Part H3 of the ghost memory: lemmas and contracts used by the proofs of this seat's laws; each theorem bears its own conditions. -/
import Derived.Test.YtibgpnmmgffgeaaH1
namespace Go.Proofs.Ytibgpnmmgffgeaa
open Go.RowKit
set_option linter.unusedVariables false
set_option linter.unusedSimpArgs false
section
variable {P:Program} {T:Kv} {w w':World} {O O' X X':Objs} {m m':Hands} {n n':Nat} {f:FuncId} {gs:List G} {K:G→Objs→Nat→Prop}
def GTo (P:Program) (f:FuncId) (gs:List G) (O:Objs) (n:Nat) (r:G) (O2:Objs) (n2:Nat):Prop:=GCalls P f gs O n fun g O' n'=>g=r∧O'=O2∧n'=n2
theorem GTo.then {r:G} {O2:Objs} {n2:Nat} (h:GTo P f gs O n r O2 n2) (hk:K r O2 n2):GCalls P f gs O n K :=
 GCalls.mono h fun g O' n' ⟨a,b,c⟩=>by subst a b c;exact hk
theorem GTo.pure {r:G} (h:GTo P f gs O n r O n):GPure P f gs O n r:=h
mutual
/-- nothing of the memory is told -/
def G.scal:G→Bool
 | .any | .val _=>true
 | .agg cs=>G.scals cs
 | .tup cs=>G.scals cs
 | _=>false
def G.scals:List G→Bool
 | []=>true
 | g::gs=>g.scal && G.scals gs
end
mutual
theorem Z3e:∀ (g:G) (v:Value),g.scal=true→g.rep w O m n v→g.rep w' O' m' n' v
 | .any,_,_,_=>by simp [G.rep]
 | .val _,_,_,h=>by simpa [G.rep] using h
 | .agg cs,v,hp,h=>by simp only [G.scal] at hp;simp only [G.rep] at h ⊢;obtain ⟨vs,e,hr⟩:=h;exact ⟨vs,e,Zsc cs _ hp hr⟩
 | .tup cs,v,hp,h=>by simp only [G.scal] at hp;simp only [G.rep] at h ⊢;obtain ⟨vs,e,hr⟩:=h;exact ⟨vs,e,Zsc cs _ hp hr⟩
 | .sl ..,_,hp,_=>by simp [G.scal] at hp
 | .ip ..,_,hp,_=>by simp [G.scal] at hp
 | .row ..,_,hp,_=>by simp [G.scal] at hp
 | .rs ..,_,hp,_=>by simp [G.scal] at hp
 | .rp ..,_,hp,_=>by simp [G.scal] at hp
 | .rl ..,_,hp,_=>by simp [G.scal] at hp
 | .ref ..,_,hp,_=>by simp [G.scal] at hp
 | .fn ..,_,hp,_=>by simp [G.scal] at hp
 | .when ..,_,hp,_=>by simp [G.scal] at hp
theorem Zsc:∀ (gs:List G) (vs:List Value),G.scals gs=true→G.reps w O m n gs vs→G.reps w' O' m' n' gs vs
 | [],_,_,h=>by simpa [G.reps] using h
 | g::gs,vs,hp,h=>by
  simp only [G.scals,Bool.and_eq_true] at hp
  simp only [G.reps] at h ⊢
  obtain ⟨u,us,e,k1,k2⟩:=h
  exact ⟨u,us,e,Z3e g u hp.1 k1,Zsc gs us hp.2 k2⟩
end
theorem GCalls.lend {gs':List G} {r:G} (h:GPure P f gs' Za7 0 r) (hs:r.scal=true) (hw:U8 O Za7 0 gs gs') (k:K r O n):GCalls P f gs O n K:=by
 refine ⟨h.1,fun w m vs hM hr => ?_⟩
 have hL:LessO O Za7 0:=⟨fun _ _=>rfl,fun i o' h=>by simp [Za7] at h⟩
 refine (h.2 w m vs (hM.weak hL) (V1 hM hL _ _ hr _ hw)).mono fun e w' ⟨v,g,O',n',m',h1,h2,h3,h4,h5,h6,h7⟩ => ?_
 subst h5
 have hk:∀ b,b < w.heap.size→w'.heap[b]? = w.heap[b]? := fun b hb=>(h3.keep b hb (fun ⟨i,o,q,_⟩=>by simp [Za7] at q)).1
 have hE:Ext w O m n w' O m n:=⟨h3.os,h3.tape,h3.output,h3.size,Nat.le_refl _,fun b hb ho=>⟨hk b hb,ho⟩,fun i hi o h=>⟨o,h,rfl,Nat.le_refl _,fun _=>rfl⟩⟩
 exact ⟨v,_,O,n,m,h1,⟨hM.fresh,fun i o hi=>Zgf hM hi hE fun b hb=>hk b (Zzk (hM.obj i o hi) b hb),hM.apart⟩,hE,Z3e _ _ hs h4,k⟩
theorem Zx3 {g g':G} (hg:∀ v,g.rep w O m n v→g'.rep w' O' m' n' v) (ho:∀ (x:G) v,x.rep w O m n v→x.rep w' O' m' n' v):∀ (pre post:List G) (vs:List Value),G.reps w O m n (pre++g::post) vs→G.reps w' O' m' n' (pre++g'::post) vs
 | [],post,vs,h=>by
  simp only [List.nil_append,G.reps] at h ⊢
  obtain ⟨u,us,e,h1,h2⟩:=h
  refine ⟨u,us,e,hg u h1,?_⟩
  clear h1 e
  induction post generalizing us with
  | nil=>simpa [G.reps] using h2
  | cons x post ih =>
   simp only [G.reps] at h2 ⊢
   obtain ⟨u,us',e,h1,h2⟩:=h2
   exact ⟨u,us',e,ho x u h1,ih us' h2⟩
 | x::pre,post,vs,h=>by
  simp only [List.cons_append,G.reps] at h ⊢
  obtain ⟨u,us,e,h1,h2⟩:=h
  exact ⟨u,us,e,ho x u h1,Zx3 hg ho pre post us h2⟩
theorem Zq9 (hM:Mem w O m n) (t:TypeId) (sz:Nat) :
  Mem w (O.upd n (some ⟨true,t,sz,0,[]⟩)) (m.upd n (.slice none 0 0)) (n+1)∧Ext w O m n w (O.upd n (some ⟨true,t,sz,0,[]⟩)) (m.upd n (.slice none 0 0)) (n+1):=by
 have hh:∀ b,Zam (.slice none 0 0)=some b→b < w.heap.size→n < n∧Zam (m n)=some b:=fun b hb=>by simp [Zam] at hb
 have hE:Ext w O m n w (O.upd n (some ⟨true,t,sz,0,[]⟩)) (m.upd n (.slice none 0 0)) (n+1) :=
  Ext.upd (w':=w) hM n ⟨true,t,sz,0,[]⟩ (.slice none 0 0) (Nat.le_refl _) (fun h=>absurd h (Nat.lt_irrefl _)) rfl rfl rfl (Nat.le_refl _) (fun _ _ _=>rfl) hh (n+1) (Nat.le_succ _)
 refine ⟨Mem.upd hM n _ _ (Nat.le_refl _) (fun h=>absurd h (Nat.lt_irrefl _)) (fun _ _ _=>rfl) hh _ (by omega) (by omega) hE ?_,hE⟩
 refine ⟨[],rfl,?_⟩
 simp only [if_true]
 exact ⟨by simp,.inl ⟨rfl,rfl⟩⟩
theorem Zra (t:TypeId) (sz:Nat):(G.row n 0).rep w (O.upd n (some ⟨true,t,sz,0,[]⟩)) (m.upd n (.slice none 0 0)) (n+1) (.slice none 0 0) :=
 Zhl _ _ _ _ _ _ _ _ _ ⟨_,_,rfl⟩
theorem GCalls.adopt {pre post:List G} (t:TypeId) (sz:Nat) (h:GCalls P f (pre ++ .row n 0::post) (O.upd n (some ⟨true,t,sz,0,[]⟩)) (n+1) K):GCalls P f (pre ++ .val (.slice none 0 0)::post) O n K:=by
 refine ⟨h.1,fun w m vs hM hr => ?_⟩
 obtain ⟨h1,h2⟩:=Zq9 hM t sz
 refine (h.2 w _ vs h1 (Zx3 (fun v hv => ?_) (fun x v hx=>G.rep_ext h2 x v hx) pre post vs hr)).mono fun e w' ⟨v,g,O',n',m',k1,k2,k3,k4,k5⟩=>⟨v,g,O',n',m',k1,k2,h2.trans k3,k4,k5⟩
 simp only [G.rep] at hv
 subst hv
 exact Zra t sz
theorem Zh5 {E:Env} {ba:Nat} (s:Tmp) (t:TypeId) (sz:Nat) (hs:Jw E.l s = .val (.slice none 0 0)) (hb:ba≤n):Fit2 ba E O n ⟨E.n,E.keep,(s,.row n 0)::E.l⟩ (O.upd n (some ⟨true,t,sz,0,[]⟩)) (n+1):=fun w m a hM hE=>by
 obtain ⟨h1,h2⟩:=Zq9 hM t sz
 refine ⟨_,h1,⟨hE.size,fun t' v hv => ?_,fun t' ht => ?_,hE.defers⟩,h2.base hb⟩
 ·simp only [Jw]
  split
  ·rename_i e
   subst e
   have:=hE.at_ t' v hv
   rw [hs] at this
   simp only [G.rep] at this
   subst this
   exact Zra t sz
  exact G.rep_ext h2 _ _ (hE.at_ t' v hv)
 simp only [Jw]
 split
 ·rename_i e
  subst e
  have:=hE.out t' ht
  rw [hs] at this;cases this
 exact hE.out t' ht
def Fin (T:Kv) (rs:List ResultVar) (r:G) (ba:Nat) (O2:Objs) (n2:Nat):GQ:=fun e E' O' n'=>(e = .normal∨e = .ret)∧∃ E2 O3 n3 gs,Fit2 ba E' O' n' E2 O3 n3∧Zlf T O3 E2 rs=some gs∧LessO O3 O2 n2∧wk O3 O2 n2 (gone gs) r
theorem Zi9 (hT:Qo P T) {fn:Func} {c:Code} (hc:∀ args w,(callFunc f args).run P w = .ok (.enter f args) w) (hf:P.funcs[f]? = some fn) (hb:fn.body=some c)
  {r:G} {O2:Objs} {n2:Nat} (hn:gs.length≤fn.ntmps) (h2:n≤n2) (h:Und O n→W P n c (Fin T fn.results.toList r n O2 n2) ⟨fn.ntmps,[],Ze6 0 gs⟩ (Zq O n []) n):GTo P f gs O n r O2 n2:=by
 refine ⟨hc,fun w m vs hM hr => ?_⟩
 have hl:=Ju _ _ hr
 have hU:Und O n:=⟨hM.fresh,fun i o hi=>by obtain ⟨vs,hv,_⟩:=hM.obj i o hi;exact Zaw _ _ hv⟩
 have h:=h hU
 rw [Yc5 hM.fresh] at h
 refine calls_of_wp hf hb (wp_mono (h (Nat.le_refl _) w m { tmps:=vs.toArray++Array.replicate (fn.ntmps - vs.toArray.size) undef,defers:=[] } hM ?_) fun e a' w' ⟨E',O',n',m',h1,h2',h3,h4⟩ => ?_)
 ·have hv:∀ (gs:List G) (vs:List Value) (k:Nat),G.reps w O m n gs vs→∀ t,(k≤t→∀ v,vs[t - k]? = some v→(Jw (Ze6 k gs) t).rep w O m n v)∧(t < k∨k+gs.length≤t→Jw (Ze6 k gs) t = .any):=fun gs=>by
   induction gs with
   | nil =>
    intro vs k hr t
    simp only [G.reps] at hr
    subst hr
    exact ⟨fun _ v hv=>by simp at hv,fun _=>rfl⟩
   | cons g gs ih =>
    intro vs k hr t
    simp only [G.reps] at hr
    obtain ⟨u,us,rfl,h1,h2⟩:=hr
    have:=ih us (k+1) h2 t
    simp only [Ze6,Jw]
    refine ⟨fun hk v hv => ?_,fun ht => ?_⟩
    ·by_cases e:t=k
     ·subst e
      rw [if_pos rfl]
      simp at hv
      subst hv
      exact h1
     rw [if_neg e]
     refine this.1 (by omega) v ?_
     have:t - k=t - (k+1)+1:=by omega
     rw [this] at hv
     simpa using hv
    have e:¬ t=k:=by simp at ht;omega
    rw [if_neg e]
    exact this.2 (by simp at ht;omega)
  have hq:=hv gs vs 0 hr
  have hsz:(vs.toArray++Array.replicate (fn.ntmps - vs.toArray.size) undef).size=fn.ntmps:=by simp;omega
  refine ⟨hsz,fun t v hv => ?_,fun t ht=>(hq t).2 (.inr (by simp only at ht;omega)),rfl⟩
  rcases Nat.lt_or_ge t vs.length with ht | ht
  ·refine (hq t).1 (Nat.zero_le _) v ?_
   have:(vs.toArray++Array.replicate (fn.ntmps - vs.toArray.size) undef)[t]? = vs[t]? := by
    rw [Array.getElem?_append_left (by simpa using ht)];simp
   rw [Nat.sub_zero,← this];exact hv
  rw [(hq t).2 (.inr (by omega))]
  simp [G.rep]
 obtain ⟨he,E2,O3,n3,gs',hF2,hg,hL,hwk⟩:=h1
 obtain ⟨m3,h2',h3,hX3⟩:=hF2 w' m' a' h2' h3
 have h4:=h4.transB hX3
 obtain ⟨v,hv,hrep⟩:=Zxe hT h2' h3 hg
 have fin:a'.defers=[]∧∃ v,(results fn a'.tmps).run P w' = .ok v w'∧∃ v_1 g O' n' m',Ending.returned v = .returned v_1∧Mem w' O' m' n'∧Ext w O m n w' O' m' n'∧G.rep w' O' m' n' g v_1∧(g=r∧O'=O2∧n'=n2) :=
  ⟨h3.defers,v,hv,v,r,O2,n2,m3,rfl,h2'.weak hL,h4.weak hL h2,Zw2 h2' hL _ _ hrep _ hwk,rfl,rfl,rfl⟩
 rcases he with rfl | rfl <;> exact fin
theorem sI {α:Type} {a b:α} (h:some a=some b):a=b:=Option.some.inj h
end
section
variable {P:Program} {T:Kv} {O O' X X':Objs} {n n' n0 ba:Nat} {E E':Env} {Q:GQ} {c x y:Code}
def JN (ba:Nat) (E':Env) (O':Objs) (n0:Nat):GQ:=fun e E O n=>e = .normal∧Fit2 ba E O n E' O' n0
def JX (id:Nat) (ba:Nat) (E':Env) (O':Objs) (n0:Nat):GQ:=fun e E O n=>e = .exit id∧Fit2 ba E O n E' O' n0
def JR (ba:Nat) (E':Env) (O':Objs) (n0:Nat):GQ:=fun e E O n=>e = .ret∧Fit2 ba E O n E' O' n0
theorem Z4y {w w2:World} {m m2:Hands} {E2:Env} {O2:Objs} {n2:Nat} {a2:Act} {e:Exit} (hF:Fit2 ba E2 O2 n2 E' O' n0) (h2:Mem w2 O2 m2 n2) (h3:Holds w2 O2 m2 n2 E2 a2) (h4:Ext w O m ba w2 O2 m2 n2) (k:Q e E' O' n0):lift w O m ba Q e a2 w2:=by
 obtain ⟨m',g1,g2,g3⟩:=hF w2 m2 a2 h2 h3
 exact ⟨E',O',n0,m',k,g1,g2,h4.transB g3⟩
theorem Xe (h:W P ba x (JN ba E' O' n0) E O n) (k:W P ba y Q E' O' n0):W P ba (.seq x y) Q E O n:=fun hb w m a hM hE=>by
 refine wp_seq (wp_mono (h hb w m a hM hE) fun e a' w' ⟨E2,O2,n2,m2,⟨he,hF⟩,h2,h3,h4⟩ => ?_)
 subst he
 obtain ⟨m',g1,g2,g3⟩:=hF w' m2 a' h2 h3
 exact k.then g1 g2 (h4.transB g3)
theorem Yfo (h:W P ba x (JR ba E' O' n0) E O n) (k:Q .ret E' O' n0):W P ba (.seq x y) Q E O n:=fun hb w m a hM hE =>
 wp_seq (wp_mono (h hb w m a hM hE) fun e a' w' ⟨E2,O2,n2,m2,⟨he,hF⟩,h2,h3,h4⟩=>by subst he;exact Z4y hF h2 h3 h4 k)
theorem Yg0 (h:W P ba x (JR ba E' O' n0) E O n) (k:Q .ret E' O' n0):W P ba x Q E O n:=fun hb w m a hM hE =>
 wp_mono (h hb w m a hM hE) fun e a' w' ⟨E2,O2,n2,m2,⟨he,hF⟩,h2,h3,h4⟩=>by subst he;exact Z4y hF h2 h3 h4 k
theorem Yg1 {id:Nat} (h:W P ba x (JX id ba E' O' n0) E O n) (k:Q (.exit id) E' O' n0):W P ba x Q E O n:=fun hb w m a hM hE =>
 wp_mono (h hb w m a hM hE) fun e a' w' ⟨E2,O2,n2,m2,⟨he,hF⟩,h2,h3,h4⟩=>by subst he;exact Z4y hF h2 h3 h4 k
def Ygy {S R:Type} (ba:Nat) (F:S→Env) (H:S→Objs) (n:Nat) (J:R→GQ):S ⊕ R→GQ
 | .inl s',e,E,O,n'=>e = .normal∧Fit2 ba E O n' (F s') (H s') n
 | .inr r',e,E,O,n'=>e ≠ .normal∧J r' e E O n'
theorem Y2 {S R:Type} {step:S→Option (S ⊕ R)} {r:R} {s0:S} (hr:Zw step s0=some r) (F:S→Env) (H:S→Objs) (J:R→GQ)
  (body:∀ s x,step s=some x→W P ba c (Ygy ba F H n J x) (F s) (H s) n):W P ba (.loop c) (J r) (F s0) (H s0) n :=
 Yfn hr F H fun s x hx hb w m a hM hE=>wp_mono (body s x hx hb w m a hM hE) fun e a' w' ⟨E2,O2,n2,m2,h1,h2,h3,h4⟩=>by
  refine ⟨E2,O2,n2,m2,?_,h2,h3,h4⟩
  cases x with
  | inl s'=>exact h1
  | inr r'=>exact fun e=>by subst e;exact h1
theorem Mem.less_self {w:World} {m:Hands} (hM:Mem w O m n):LessO O O n:=⟨hM.fresh,fun i o hi=>⟨o,hi,rfl,rfl,rfl,rfl,Zdj _ (by obtain ⟨vs,hv,_⟩:=hM.obj i o hi;exact Zaw _ _ hv)⟩⟩
theorem GCalls.args {f:FuncId} {gs gs':List G} {K:G→Objs→Nat→Prop} (h:GCalls P f gs' O n K) (hw:U8 O O n gs gs'):GCalls P f gs O n K :=
 ⟨h.1,fun w m vs hM hr=>h.2 w m vs hM (V1 hM hM.less_self _ _ hr _ hw)⟩
end
def eI (k:IntKind) (x:Int):List G:=[.val (.int k x)]
def eB (x:Bool):List G:=[.val (.bool x)]
def eS (x:ByteArray):List G:=[.val (.string x)]
def eL {α:Type} (f:α→List G) (xs:List α):List G:=[.sl xs.length (fl f xs)]
def Xj {α:Type} (xs:List α) (i:Int):Option α:=if 0≤i then xs[i.toNat]? else none
def Zgr {α:Type} (xs:List α) (i:Int) (x:α):List α:=xs.set i.toNat x
def Zen {α:Type} (xs:List α) (lo hi:Int):Option (List α):=if 0≤lo∧lo≤hi∧hi≤xs.length then some ((xs.drop lo.toNat).take (hi - lo).toNat) else none
def Gc {α:Type} (b:Nat) (xs ys:List α):Option (List α):=if (xs.length+ys.length) * b≤140737488355328∧xs.length+ys.length≤140737488355328 then some (xs++ys) else none
def Zl5 {α:Type} (b:Nat) (n:Int) (x:α):Option (List α):=if 0≤n∧(b:Int) * n≤140737488355328∧n≤140737488355328 then some (List.replicate n.toNat x) else none
def Zob (c:Prop) [Decidable c]:Option Unit:=if c then some () else none
theorem Zt {α:Type} {c:Bool} {x y r:α} (hc:c=true) (h:cond c x y=r):x=r:=by subst hc;exact h
theorem Zs {α:Type} {c:Bool} {x y r:α} (hc:c=false) (h:cond c x y=r):y=r:=by subst hc;exact h
theorem Z93 {c:Prop} [Decidable c] {u:Unit} (h:Zob c=some u):c:=by unfold Zob at h;split at h <;> first | assumption | cases h
section
variable {α:Type} {xs ys zs:List α} {i lo hi:Int} {x:α} {f:α→List G} {T:Kv} {t:TypeId} {ti:TyI} {O:Objs} {n:Nat}
theorem Z6u (h:Xj xs i=some x):0≤i:=by unfold Xj at h;split at h <;> first | assumption | cases h
theorem Zpi (h:Xj xs i=some x):xs[i.toNat]? = some x:=by unfold Xj at h;split at h <;> first | assumption | cases h
theorem Zfc (h:Xj xs i=some x):i.toNat < xs.length:=by
 have:=Zpi h
 rcases Nat.lt_or_ge i.toNat xs.length with h | h
 ·exact h
 rw [List.getElem?_eq_none h] at this;cases this
theorem Ydi (h:Xj xs i=some x):i < (xs.length:Int):=by have:=Zfc h;have:=Z6u h;omega
theorem Z0x (h:Zen xs lo hi=some ys):0≤lo:=by unfold Zen at h;split at h <;> first | omega | cases h
theorem Z0w (h:Zen xs lo hi=some ys):lo≤hi:=by unfold Zen at h;split at h <;> first | omega | cases h
theorem Z0v (h:Zen xs lo hi=some ys):hi≤(xs.length:Int):=by unfold Zen at h;split at h <;> first | omega | cases h
theorem Z7s (h:Zen xs lo hi=some ys):(xs.drop lo.toNat).take (hi - lo).toNat=ys:=by unfold Zen at h;split at h <;> first | (injection h) | cases h
theorem Z3m (h:Zen xs lo hi=some ys):ys.length=(hi - lo).toNat:=by
 have h1:=Z0x h;have h2:=Z0w h;have h3:=Z0v h
 rw [← Z7s h,List.length_take,List.length_drop];omega
theorem Zo8 {b:Nat} (h:Gc b xs ys=some zs):zs=xs++ys:=by unfold Gc at h;split at h <;> first | (injection h with h;exact h.symm) | cases h
theorem Zub {b:Nat} (h:Gc b xs ys=some zs):(xs.length+ys.length) * b≤140737488355328:=by unfold Gc at h;split at h <;> first | omega | cases h
theorem Zuc {b:Nat} (h:Gc b xs ys=some zs):xs.length+ys.length≤140737488355328:=by unfold Gc at h;split at h <;> first | omega | cases h
theorem Yaj {b:Nat} (h:Zl5 b i x=some ys):ys=List.replicate i.toNat x:=by unfold Zl5 at h;split at h <;> first | (injection h with h;exact h.symm) | cases h
theorem Ydt {b:Nat} (h:Zl5 b i x=some ys):0≤i∧(b:Int) * i≤140737488355328∧i≤140737488355328:=by unfold Zl5 at h;split at h <;> first | assumption | cases h
theorem Z92 (ht:T t=some ti) (hf:∀ x,(f x).length=ti.size) (h0s:0 < ti.size) (hx:Xj xs i=some x):Zhy T t (fl f xs) (i.toNat * ti.size)=if ti.k.isAgg then some (.agg (f x)) else (f x)[0]? := by
 unfold Zhy
 simp only [ht]
 have h0:=Zfc hx
 have h1:=Zpi hx
 split
 ·rename_i ha
  rw [if_pos ?_,Ye4 hf h1]
  rw [Q7 hf,← Nat.succ_mul]
  exact Nat.mul_le_mul_right _ h0
 have:=Ye4 hf h1
 rw [← this,List.getElem?_take,if_pos h0s,List.getElem?_drop,Nat.add_zero]
theorem Zj6 (hf:∀ x,(f x).length=ti.size) (hx:i.toNat < xs.length):Jq (fl f xs) (f x) (i.toNat * ti.size)=some (fl f (Zgr xs i x)):=by
 unfold Jq Zgr
 rw [hf x,if_pos ?_,Yf5 hf hx]
 rw [Q7 hf,← Nat.succ_mul]
 exact Nat.mul_le_mul_right _ hx
end
section
variable {P:Program} {T:Kv} {w:World} {O:Objs} {m:Hands} {n:Nat}
def Zg9 (P:Program) (T:Kv) (ops:List Oper):List (Option Bool)→List Oper→Env→Objs→Nat→(Env→Objs→Nat→Prop)→Prop
 | _,[],E,O,n,K=>K E O n
 | ds,o::l,E,O,n,K=>match o.guard with
  | none=>gop P T E O n o.op fun g O' n'=>Zg9 P T ops ds l (Yr E o.dst g) O' n' K
  | some g=>match ds with
   | some true::ds'=>Qa ops E (some g)=some true∧gop P T E O n o.op fun g O' n'=>Zg9 P T ops ds' l (Yr E o.dst g) O' n' K
   | some false::ds'=>Qa ops E (some g)=some false∧Zg9 P T ops ds' l (Yr E o.dst (.val undef)) O n K
   | none::ds'=>match Qa ops E (some g) with
    | some b=>Jz o.op=true∧Zf0 T E O n o.op b fun g=>Zg9 P T ops ds' l (Yr E o.dst g) O n K
    | none=>False
   | []=>False
def Z8t (P:Program) (T:Kv) (ops:List Oper) (ds:List (Option Bool)) (l:List Oper) (E:Env) (d:Option Tmp) (K:Env→Objs→Nat→Prop) (g:G) (O':Objs) (n':Nat):Prop:=Zg9 P T ops ds l (Yr E d g) O' n' K
def Yay (P:Program) (T:Kv) (ops:List Oper) (ds:List (Option Bool)) (l:List Oper) (E:Env) (d:Option Tmp) (O:Objs) (n:Nat) (K:Env→Objs→Nat→Prop) (g:G):Prop:=Zg9 P T ops ds l (Yr E d g) O n K
theorem Zmx (ops:List Oper) (ds:List (Option Bool)) (E:Env) (K:Env→Objs→Nat→Prop):Zg9 P T ops ds [] E O n K=K E O n:=by cases ds <;> rfl
theorem Zlz (ops:List Oper) (ds:List (Option Bool)) (d:Option Tmp) (op:Op) (ty:TypeId) (pos:String) (af:Array Edge) (l:List Oper) (E:Env) (K:Env→Objs→Nat→Prop):Zg9 P T ops ds (⟨d,op,ty,pos,af,none⟩::l) E O n K=gop P T E O n op (Z8t P T ops ds l E d K):=by cases ds <;> rfl
theorem Zy4 (ops:List Oper) (ds:List (Option Bool)) (d:Option Tmp) (op:Op) (ty:TypeId) (pos:String) (af:Array Edge) (g:Nat×Bool) (l:List Oper) (E:Env) (K:Env→Objs→Nat→Prop) :
  Zg9 P T ops (some true::ds) (⟨d,op,ty,pos,af,some g⟩::l) E O n K=(Qa ops E (some g)=some true∧gop P T E O n op (Z8t P T ops ds l E d K)):=rfl
theorem Zy2 (ops:List Oper) (ds:List (Option Bool)) (d:Option Tmp) (op:Op) (ty:TypeId) (pos:String) (af:Array Edge) (g:Nat×Bool) (l:List Oper) (E:Env) (K:Env→Objs→Nat→Prop) :
  Zg9 P T ops (some false::ds) (⟨d,op,ty,pos,af,some g⟩::l) E O n K=(Qa ops E (some g)=some false∧Zg9 P T ops ds l (Yr E d (.val undef)) O n K):=rfl
theorem Zy3 (ops:List Oper) (ds:List (Option Bool)) (d:Option Tmp) (op:Op) (ty:TypeId) (pos:String) (af:Array Edge) (g:Nat×Bool) (l:List Oper) (E:Env) (K:Env→Objs→Nat→Prop) :
  Zg9 P T ops (none::ds) (⟨d,op,ty,pos,af,some g⟩::l) E O n K=match Qa ops E (some g) with
   | some b=>Jz op=true∧Zf0 T E O n op b (Yay P T ops ds l E d O n K)
   | none=>False:=rfl
theorem Z2l {ops:List Oper} {ds:List (Option Bool)} {o:Oper} {l:List Oper} {E:Env} {K:Env→Objs→Nat→Prop} (h:Zg9 P T ops ds (o::l) E O n K) :
  ∃ ds',(Qj ops E o=some true∧gop P T E O n o.op (Z8t P T ops ds' l E o.dst K))∨(Qj ops E o=some false∧Zg9 P T ops ds' l (Yr E o.dst (.val undef)) O n K) ∨
  (∃ b,Qj ops E o=some b∧Zf0 T E O n o.op b (Yay P T ops ds' l E o.dst O n K)∧Jz o.op=true):=by
 unfold Zg9 at h
 split at h
 ·rename_i hg
  exact ⟨ds,.inl ⟨by unfold Qj;rw [hg];rfl,h⟩⟩
 rename_i g hg
 split at h
 ·rename_i ds';exact ⟨ds',.inl ⟨by unfold Qj;rw [hg];exact h.1,h.2⟩⟩
 ·rename_i ds';exact ⟨ds',.inr (.inl ⟨by unfold Qj;rw [hg];exact h.1,h.2⟩)⟩
 ·rename_i ds'
  split at h
  ·rename_i b hb
   exact ⟨ds',.inr (.inr ⟨b,by unfold Qj;rw [hg];exact hb,h.2,h.1⟩)⟩
  exact h.elim
 exact h.elim
theorem Ze1 (hT:Qo P T) (ops:List Oper):∀ (l:List Oper) (ds:List (Option Bool)) (w:World) (O:Objs) (m:Hands) (n:Nat) (E:Env) (a:Act) (K:Env→Objs→Nat→Prop) (Q:Exit→Act→World→Prop),Mem w O m n→Holds w O m n E a→Zg9 P T ops ds l E O n K →
  (∀ w' O' m' n' E' a',K E' O' n'→Mem w' O' m' n'→Holds w' O' m' n' E' a'→Ext w O m n w' O' m' n'→Q .normal a' w')→wpList P ops.toArray Q l a w
 | [],ds,w,O,m,n,E,a,K,Q,hM,hE,h,hQ=>hQ w O m n E a (by rw [Zmx] at h;exact h) hM hE (Ext.refl _ _ _ _)
 | o::l,ds,w,O,m,n,E,a,K,Q,hM,hE,h,hQ=>by
  unfold wpList
  obtain ⟨ds',h⟩:=Z2l h
  rcases h with ⟨hw,h⟩ | ⟨hw,h⟩ | ⟨b,hw,h,hcalm⟩
  ·rw [Qy hE hw,if_pos rfl]
   refine .inl (Zh6 hT hM hE h fun v g w' O' m' n' hK hM' hX hg => ?_)
   exact Ze1 hT ops l ds' w' O' m' n' _ _ K Q hM' ((hE.ext hX).put o.dst hg) hK fun w2 O2 m2 n2 E2 a2 k1 k2 k3 k4=>hQ w2 O2 m2 n2 E2 a2 k1 k2 k3 (hX.trans k4)
  ·rw [Qy hE hw,if_neg Bool.false_ne_true]
   exact Ze1 hT ops l ds' w O m n _ _ K Q hM (hE.put (g := .val undef) (v:=undef) o.dst (by simp [G.rep])) h hQ
  unfold Zf0 at h
  split at h
  ·rename_i S g O2 n2 hst
   obtain ⟨e1,e2⟩:=Zjz hcalm hst
   subst e1 e2
   rw [Qy hE hw]
   cases b with
   | true =>
    rw [if_pos rfl]
    refine .inl ?_
    obtain ⟨v,nx,w',m',h1,h2,h3,h4,h5⟩:=Zh9 hT hM hE hst (h.1 rfl)
    have hg:(G.when true g).rep w' O2 m' n2 v:=by simp only [G.rep];exact ⟨fun _=>h5,fun h=>by cases h⟩
    have fin:=Ze1 hT ops l ds' w' O2 m' n2 _ _ K Q h3 ((hE.ext h4).put o.dst hg) h.2 fun w2 O2 m2 n2 E2 a2 k1 k2 k3 k4=>hQ w2 O2 m2 n2 E2 a2 k1 k2 k3 (h4.trans k4)
    unfold Oper.wp
    rw [h1]
    rcases h2 with rfl | ⟨rfl,rfl⟩ <;> exact fin
   | false =>
    rw [if_neg Bool.false_ne_true]
    exact Ze1 hT ops l ds' w O2 m n2 _ _ K Q hM (hE.put (g := .when false g) (v:=undef) o.dst (by simp [G.rep,undef])) h.2 hQ
  obtain ⟨rfl,hK⟩:=h
  rw [Qy hE hw,if_neg Bool.false_ne_true]
  exact Ze1 hT ops l ds' w O m n _ _ K Q hM (hE.put (g := .val undef) (v:=undef) o.dst (by simp [G.rep])) hK hQ
theorem Yp {ba:Nat} (hT:Qo P T) (ds:List (Option Bool)) {id:Nat} {ops:Array Oper} {E:Env} {Q:GQ} (h:Zg9 P T ops.toList ds ops.toList E O n (Q .normal)):W P ba (.region id ops false) Q E O n :=
 fun hb w m a hM hE=>wp_region_list (Ze1 hT ops.toList ops.toList ds w O m n E a _ _ hM hE h fun w' O' m' n' E' a' h1 h2 h3 h4=>⟨E',O',n',m',h1,h2,h3,h4.base hb⟩)
def Zio (P:Program) (T:Kv) (ops:List Oper) (O:Objs) (n:Nat):List (Option Bool)→List Oper→Env→(Env→Prop)→Prop
 | _,[],E,K=>K E
 | ds,o::l,E,K=>match o.guard with
  | none=>pop P T E O n o.op fun g=>Zio P T ops O n ds l (Yr E o.dst g) K
  | some g=>match ds with
   | some true::ds'=>Qa ops E (some g)=some true∧pop P T E O n o.op fun g=>Zio P T ops O n ds' l (Yr E o.dst g) K
   | some false::ds'=>Qa ops E (some g)=some false∧Zio P T ops O n ds' l (Yr E o.dst (.val undef)) K
   | none::ds'=>match Qa ops E (some g) with
    | some b=>Jz o.op=true∧Zf0 T E O n o.op b fun g=>Zio P T ops O n ds' l (Yr E o.dst g) K
    | none=>False
   | []=>False
def Z24 (P:Program) (T:Kv) (ops:List Oper) (O:Objs) (n:Nat) (ds:List (Option Bool)) (l:List Oper) (E:Env) (d:Option Tmp) (K:Env→Prop) (g:G):Prop:=Zio P T ops O n ds l (Yr E d g) K
theorem Zm2 (ops:List Oper) (ds:List (Option Bool)) (E:Env) (K:Env→Prop):Zio P T ops O n ds [] E K=K E:=by cases ds <;> rfl
theorem Zmh (ops:List Oper) (ds:List (Option Bool)) (d:Option Tmp) (op:Op) (ty:TypeId) (pos:String) (af:Array Edge) (l:List Oper) (E:Env) (K:Env→Prop):Zio P T ops O n ds (⟨d,op,ty,pos,af,none⟩::l) E K=pop P T E O n op (Z24 P T ops O n ds l E d K):=by cases ds <;> rfl
theorem Z0m (ops:List Oper) (ds:List (Option Bool)) (d:Option Tmp) (op:Op) (ty:TypeId) (pos:String) (af:Array Edge) (g:Nat×Bool) (l:List Oper) (E:Env) (K:Env→Prop) :
  Zio P T ops O n (some true::ds) (⟨d,op,ty,pos,af,some g⟩::l) E K=(Qa ops E (some g)=some true∧pop P T E O n op (Z24 P T ops O n ds l E d K)):=rfl
theorem Z0k (ops:List Oper) (ds:List (Option Bool)) (d:Option Tmp) (op:Op) (ty:TypeId) (pos:String) (af:Array Edge) (g:Nat×Bool) (l:List Oper) (E:Env) (K:Env→Prop) :
  Zio P T ops O n (some false::ds) (⟨d,op,ty,pos,af,some g⟩::l) E K=(Qa ops E (some g)=some false∧Zio P T ops O n ds l (Yr E d (.val undef)) K):=rfl
theorem Z0l (ops:List Oper) (ds:List (Option Bool)) (d:Option Tmp) (op:Op) (ty:TypeId) (pos:String) (af:Array Edge) (g:Nat×Bool) (l:List Oper) (E:Env) (K:Env→Prop) :
  Zio P T ops O n (none::ds) (⟨d,op,ty,pos,af,some g⟩::l) E K=match Qa ops E (some g) with
   | some b=>Jz op=true∧Zf0 T E O n op b (Z24 P T ops O n ds l E d K)
   | none=>False:=rfl
theorem Zkd {ops:List Oper} {O:Objs} {n:Nat}:∀ (l:List Oper) (ds:List (Option Bool)) (E:Env) (K:Env→Prop),Zio P T ops O n ds l E K→∃ Ef,Run P T ops O n l E Ef∧K Ef
 | [],ds,E,K,h=>⟨E,EqE.refl E,by rw [Zm2] at h;exact h⟩
 | o::l,ds,E,K,h=>by
  have hc:∃ ds',(Qj ops E o=some true∧pop P T E O n o.op (Z24 P T ops O n ds' l E o.dst K))∨(Qj ops E o=some false∧Zio P T ops O n ds' l (Yr E o.dst (.val undef)) K) ∨
    (∃ b,Qj ops E o=some b∧Zf0 T E O n o.op b (Z24 P T ops O n ds' l E o.dst K)∧Jz o.op=true):=by
   unfold Zio at h
   split at h
   ·rename_i hg
    exact ⟨ds,.inl ⟨by unfold Qj;rw [hg];rfl,h⟩⟩
   rename_i g hg
   split at h
   ·rename_i ds';exact ⟨ds',.inl ⟨by unfold Qj;rw [hg];exact h.1,h.2⟩⟩
   ·rename_i ds';exact ⟨ds',.inr (.inl ⟨by unfold Qj;rw [hg];exact h.1,h.2⟩)⟩
   ·rename_i ds'
    split at h
    ·rename_i b hb
     exact ⟨ds',.inr (.inr ⟨b,by unfold Qj;rw [hg];exact hb,h.2,h.1⟩)⟩
    exact h.elim
   exact h.elim
  obtain ⟨ds',hc⟩:=hc
  rcases hc with ⟨hw,hp⟩ | ⟨hw,hp⟩ | ⟨b,hw,hp,hcalm⟩
  ·obtain ⟨r,h1,h2⟩:=Zpy hp
   obtain ⟨Ef,h3,h4⟩:=Zkd l ds' _ K h2
   exact ⟨Ef,⟨r,.inl ⟨hw,h1⟩,h3⟩,h4⟩
  ·obtain ⟨Ef,h3,h4⟩:=Zkd l ds' _ K hp
   exact ⟨Ef,⟨_,.inr (.inl ⟨hw,rfl⟩),h3⟩,h4⟩
  unfold Zf0 at hp
  split at hp
  ·rename_i S g O2 n2 hst
   obtain ⟨Ef,h3,h4⟩:=Zkd l ds' _ K hp.2
   exact ⟨Ef,⟨_,.inr (.inr ⟨b,g,hw,hcalm,⟨S,O2,n2,hst,hp.1⟩,rfl⟩),h3⟩,h4⟩
  obtain ⟨rfl,hK⟩:=hp
  obtain ⟨Ef,h3,h4⟩:=Zkd l ds' _ K hK
  exact ⟨Ef,⟨_,.inr (.inl ⟨hw,rfl⟩),h3⟩,h4⟩
theorem Kx {ba:Nat} (hT:Qo P T) (hm:P.follows .mixedOrders=true) (ds:List (Option Bool)) {id:Nat} {ops:Array Oper} {E:Env} {Q:GQ} (hord:Ztn ops.toList=true) (h:Zio P T ops.toList O n ds ops.toList E (atK (Q .normal) O n)):W P ba (.region id ops true) Q E O n:=fun hb w m a hM hE=>by
 obtain ⟨Ef,hrun,hK⟩:=Zkd _ ds _ _ h
 exact Ydd hT hm id ops w O m n E a (Q .normal) _ hM hE hord hrun hK fun w' O' m' n' E' a' h1 h2 h3 h4=>⟨E',O',n',m',h1,h2,h3,h4.base hb⟩
end
end Go.Proofs.Ytibgpnmmgffgeaa
