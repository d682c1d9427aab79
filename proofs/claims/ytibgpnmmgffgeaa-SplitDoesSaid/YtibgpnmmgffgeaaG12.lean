/- Part G12 of the ghost memory: lemmas and contracts used by the proofs of this seat's laws; each theorem bears its own conditions. -/
import Derived.Test.YtibgpnmmgffgeaaG11
namespace Go.Proofs.Ytibgpnmmgffgeaa
open Go.RowKit
set_option linter.unusedVariables false
set_option linter.unusedSimpArgs false
section
variable {P:Program} {T:Kv} {w:World} {O:Objs} {m:Hands} {n:Nat}
structure Env where
 n:Nat
 keep:List Nat
 l:List (Nat×G)
def Jw:List (Nat×G)→Nat→G
 | [],_ => .any
 | (t',g)::l,t=>if t=t' then g else Jw l t
def Zno (l:List (Nat×G)):List Nat→List (Nat×G)
 | []=>[]
 | t::k=>(t,Jw l t)::Zno l k
def Env.compact (E:Env):Env :=
 match E.keep with
 | []=>E
 | t::k=>⟨E.n,E.keep,Zno E.l (t::k)⟩
def ev (E:Env):Operand→G
 | .tmp t=>Jw E.l t
 | .const v => .val v
 | .func f => .fn f 0 []
 | .global _ => .any
def Yr (E:Env) (d:Option Tmp) (g:G):Env :=
 match d with
 | some t=>if t < E.n then ⟨E.n,E.keep,(t,g)::E.l⟩ else E
 | none=>E
structure Holds (w:World) (O:Objs) (m:Hands) (n:Nat) (E:Env) (a:Act):Prop where
 size:a.tmps.size=E.n
 at_:∀ t v,a.tmps[t]? = some v→(Jw E.l t).rep w O m n v
 out:∀ t,E.n≤t→Jw E.l t = .any
 defers:a.defers=[]
theorem Holds.ext {E:Env} {a:Act} (h:Holds w O m n E a) {w':World} {O':Objs} {m':Hands} {n':Nat} (e:Ext w O m n w' O' m' n'):Holds w' O' m' n' E a:=⟨h.size,fun t v hv=>G.rep_ext e _ _ (h.at_ t v hv),h.out,h.defers⟩
theorem Holds.put {E:Env} {a:Act} (h:Holds w O m n E a) (d:Option Tmp) {g:G} {v:Value} (hg:g.rep w O m n v):Holds w O m n (Yr E d g) (a.put d v):=by
 cases d with
 | none=>exact h
 | some t =>
  unfold Yr
  simp only
  split
  ·rename_i ht
   refine ⟨by simpa [Act.put] using h.size,fun t' v' hv' => ?_,fun t' ht' => ?_,h.defers⟩
   ·simp only [Jw]
    by_cases e:t'=t
    ·subst e
     rw [if_pos rfl]
     have:(a.put (some t') v).tmps[t']? = some v:=by
      have hlt:t' < a.tmps.size:=by rw [h.size];exact ht
      simp [Act.put,hlt]
     rw [this] at hv'
     injection hv' with hv'
     subst hv'
     exact hg
    rw [if_neg e]
    refine h.at_ t' v' ?_
    have:(a.put (some t) v).tmps[t']? = a.tmps[t']? := by
     simp [Act.put,Array.getElem?_setIfInBounds_ne (Ne.symm e)]
    rw [← this];exact hv'
   simp only [Jw]
   have:¬ t'=t:=fun e=>absurd ht (by rw [← e];exact Nat.not_lt.2 ht')
   rw [if_neg this]
   exact h.out t' ht'
  rename_i ht
  have:a.put (some t) v=a:=by
   have hge:a.tmps.size≤t:=by rw [h.size];exact Nat.not_lt.1 ht
   simp only [Act.put]
   rw [Array.setIfInBounds_eq_of_size_le hge]
  rw [this]
  exact h
theorem Holds.ev {E:Env} {a:Act} (h:Holds w O m n E a) (x:Operand):(ev E x).rep w O m n (a.eval x):=by
 cases x with
 | tmp t =>
  show (Jw E.l t).rep w O m n (a.tmps.getD t undef)
  rcases Nat.lt_or_ge t a.tmps.size with ht | ht
  ·have e1:a.tmps[t]? = some a.tmps[t]:=Array.getElem?_eq_getElem ht
   have e2:a.tmps.getD t undef=a.tmps[t]:=by simp [Array.getD_eq_getD_getElem?,e1]
   rw [e2]
   exact h.at_ t _ e1
  rw [h.out t (by rw [← h.size];exact ht)]
  simp [G.rep]
 | const v=>rfl
 | func f=>exact ⟨[],rfl,rfl⟩
 | global g=>simp [Go.Proofs.Ytibgpnmmgffgeaa.ev,G.rep]
def GCalls (P:Program) (f:FuncId) (gs:List G) (O:Objs) (n:Nat) (Post:G→Objs→Nat→Prop):Prop :=
 (∀ args w,(callFunc f args).run P w = .ok (.enter f args) w) ∧
 ∀ w m vs,Mem w O m n→G.reps w O m n gs vs→Calls P f vs.toArray w fun e w'=>∃ v g O' n' m',e = .returned v∧Mem w' O' m' n'∧Ext w O m n w' O' m' n'∧g.rep w' O' m' n' v∧Post g O' n'
theorem GCalls.mono {f:FuncId} {gs:List G} {Post Post':G→Objs→Nat→Prop} (h:GCalls P f gs O n Post) (hp:∀ g O' n',Post g O' n'→Post' g O' n'):GCalls P f gs O n Post' :=
 ⟨h.1,fun w m vs hM hr=>(h.2 w m vs hM hr).mono fun e w' ⟨v,g,O',n',m',a,b,c,d,e⟩=>⟨v,g,O',n',m',a,b,c,d,hp _ _ _ e⟩⟩
def GPure (P:Program) (f:FuncId) (gs:List G) (O:Objs) (n:Nat) (r:G):Prop:=GCalls P f gs O n fun g O' n'=>g=r∧O'=O∧n'=n
def Jz:Op→Bool
 | .move _ | .assign _ | .pick .. | .build .. | .load .. | .nilCheck _ | .binOp .. | .unOp .. | .convert .. | .slice .. | .fieldAddr .. | .field .. | .indexAddr .. | .index .. | .extract .. | .makeFunc .. => true
 | .call ⟨.builtin .len,_,_⟩ | .call ⟨.builtin .max,_,_⟩ | .call ⟨.builtin .min,_,_⟩=>true
 | _=>false
theorem Z5b {ρ:Operand→G} {op:Op} (hq:Jz op=true) {S:Prop} {g:G} {O':Objs} {n':Nat} (h:Zac T ρ O n op=some (S,g,O',n')):O'=O∧n'=n:=by
 cases op <;> simp only [Jz,reduceCtorEq,Bool.false_eq_true] at hq <;> simp only [Zac] at h
 case call c =>
  obtain ⟨cal,args,ts⟩:=c
  cases cal with
  | builtin b =>
   cases b <;> simp only [reduceCtorEq,Bool.false_eq_true] at hq <;> simp only [Zg6] at h
   all_goals
    repeat' split at h
    all_goals first
     | (simp only [Option.map_eq_some_iff,Prod.mk.injEq] at h;obtain ⟨_,_,_,_,h1,h2⟩:=h;exact ⟨h1.symm,h2.symm⟩)
     | (simp only [Option.some.injEq,Prod.mk.injEq] at h;obtain ⟨_,_,h1,h2⟩:=h;exact ⟨h1.symm,h2.symm⟩)
     | (simp at h;done)
     | contradiction
  | value f=>simp at hq
  | invoke r s=>simp at hq
 all_goals
  repeat' split at h
  all_goals first
   | (simp only [Option.map_eq_some_iff,Prod.mk.injEq] at h;obtain ⟨_,_,_,_,h1,h2⟩:=h;exact ⟨h1.symm,h2.symm⟩)
   | (simp only [Option.some.injEq,Prod.mk.injEq] at h;obtain ⟨_,_,h1,h2⟩:=h;exact ⟨h1.symm,h2.symm⟩)
   | simp at h
theorem Zsu {ρ ρ':Operand→G} {op:Op} (h:∀ x∈op.operands,ρ x=ρ' x):Zac T ρ O n op=Zac T ρ' O n op:=by
 have hl:∀ (xs:Array Operand),(∀ x∈xs,ρ x=ρ' x)→xs.toList.map ρ=xs.toList.map ρ':=fun xs hx=>List.map_congr_left fun x hm=>hx x (by simpa using hm)
 have ho:∀ (xo:Option Operand),(∀ x,xo=some x→ρ x=ρ' x)→xo.map ρ=xo.map ρ':=fun xo hx=>by cases xo with
  | none=>rfl
  | some x=>simp [hx x rfl]
 have hp:∀ (xs:Array (Nat×Operand)),(∀ p∈xs,ρ p.2=ρ' p.2)→(xs.toList.map fun p=>(p.1,ρ p.2))=(xs.toList.map fun p=>(p.1,ρ' p.2)):=fun xs hx=>List.map_congr_left fun p hm=>by rw [hx p (by simpa using hm)]
 cases op <;> try rfl
 all_goals try simp only [Zac]
 case move x=>rw [h x (by simp [Op.operands])]
 case assign x=>rw [h x (by simp [Op.operands])]
 case pick c a b=>rw [h c (by simp [Op.operands]),h a (by simp [Op.operands]),h b (by simp [Op.operands])]
 case box t x=>rw [h x (by simp [Op.operands])]
 case build t ps=>rw [hp ps fun p hm=>h p.2 (by simp [Op.operands];exact ⟨p.1,by simpa using hm⟩)]
 case buildSlice t len ps=>rw [hp ps fun p hm=>h p.2 (by simp [Op.operands];exact ⟨p.1,by simpa using hm⟩)]
 case load t a=>rw [h a (by simp [Op.operands])]
 case store t a x=>rw [h a (by simp [Op.operands]),h x (by simp [Op.operands])]
 case nilCheck x=>rw [h x (by simp [Op.operands])]
 case binOp op t x y ty=>rw [h x (by simp [Op.operands]),h y (by simp [Op.operands])]
 case unOp op t x=>rw [h x (by simp [Op.operands])]
 case convert s d x=>rw [h x (by simp [Op.operands])]
 case makeSlice t l c=>rw [h l (by simp [Op.operands]),h c (by simp [Op.operands])]
 case slice t x lo hi mx=>rw [h x (by simp [Op.operands]),ho lo fun y hy=>h y (by simp [Op.operands,hy]),ho hi fun y hy=>h y (by simp [Op.operands,hy]),ho mx fun y hy=>h y (by simp [Op.operands,hy])]
 case fieldAddr s x f=>rw [h x (by simp [Op.operands])]
 case field s x f=>rw [h x (by simp [Op.operands])]
 case indexAddr t x i=>rw [h x (by simp [Op.operands]),h i (by simp [Op.operands])]
 case index t x i=>rw [h x (by simp [Op.operands]),h i (by simp [Op.operands])]
 case extract x k=>rw [h x (by simp [Op.operands])]
 case makeFunc fn fs cs=>rw [hl fs fun x hm=>h x (by simp [Op.operands,hm]),hl cs fun x hm=>h x (by simp [Op.operands,hm])]
 case call c =>
  split
  ·rw [hl c.args fun x hm=>h x (by simp [Op.operands,Call.operands,hm])]
  rfl
def Zdz:G→G
 | .when _ g=>g
 | g=>g
def evS (E:Env) (x:Operand):G:=Zdz (ev E x)
def wok:List G→Prop
 | []=>True
 | .when b _::l=>b=true∧wok l
 | _::l=>wok l
def Zux (t:Bool) (x y:G):G :=
 match x,y with
 | .val (.bool a),.val (.bool b) => .val (.bool (cond t a b))
 | x,y=>if t=true then x else y
def Zuw (c a b:G):Option (Prop×G) :=
 match Zdz c with
 | .val (.bool t)=>some (wok [c]∧(t=true→wok [a])∧(t=false→wok [b]),Zux t (Zdz a) (Zdz b))
 | _=>none
def Zer (T:Kv) (E:Env) (O:Objs) (n:Nat) (op:Op):Option Out :=
 match op with
 | .pick c a b=>(Zuw (ev E c) (ev E a) (ev E b)).map fun r=>(r.1,r.2,O,n)
 | op=>(Zac T (evS E) O n op).map fun r=>(wok (op.operands.toList.map (ev E))∧r.1,r.2)
def gop (P:Program) (T:Kv) (E:Env) (O:Objs) (n:Nat) (op:Op) (K:G→Objs→Nat→Prop):Prop :=
 match op with
 | .call ⟨.value o,args,_⟩=>match ev E o with
  | .fn f k cs=>wok (args.toList.map (ev E))∧GCalls P f (cs.take k++args.toList.map (evS E)++cs.drop k) O n K
  | _=>False
 | op=>match Zer T E O n op with
  | some (S,g,O',n')=>S∧K g O' n'
  | none=>False
def Qa (ops:List Oper) (E:Env) (g:Option (Nat×Bool)):Option Bool :=
 match g with
 | none=>some true
 | some (j,want)=>match (ops[j]?).bind (·.dst) with
  | none=>some false
  | some d=>match Jw E.l d with
   | .val (.bool b)=>some (b == want)
   | .val (.tuple _)=>some false
   | .when b' (.val (.bool b))=>some (b' && (b == want))
   | _=>none
def Qj (ops:List Oper) (E:Env) (o:Oper):Option Bool:=Qa ops E o.guard
def Zf0 (T:Kv) (E:Env) (O:Objs) (n:Nat) (op:Op) (b:Bool) (K:G→Prop):Prop :=
 match Zer T E O n op with
 | some (S,g,_,_)=>(b=true→S)∧K (.when b g)
 | none=>b=false∧K (.val undef)
def Zw6 (P:Program) (T:Kv) (ops:List Oper):List Oper→Env→Objs→Nat→(Env→Objs→Nat→Prop)→Prop
 | [],E,O,n,K=>K E O n
 | o::l,E,O,n,K=>match o.guard with
  | none=>gop P T E O n o.op fun g O' n'=>Zw6 P T ops l (Yr E o.dst g) O' n' K
  | some g=>match Qa ops E (some g) with
   | some b=>if Jz o.op=true then Zf0 T E O n o.op b fun g=>Zw6 P T ops l (Yr E o.dst g) O n K
    else (b=true→gop P T E O n o.op fun g O' n'=>Zw6 P T ops l (Yr E o.dst g) O' n' K)∧(b=false→Zw6 P T ops l (Yr E o.dst (.val undef)) O n K)
   | none=>False
def onK (P:Program) (T:Kv) (ops l:List Oper) (E:Env) (d:Option Tmp) (K:Env→Objs→Nat→Prop) (g:G) (O':Objs) (n':Nat):Prop:=Zw6 P T ops l (Yr E d g) O' n' K
def onW (P:Program) (T:Kv) (ops l:List Oper) (E:Env) (d:Option Tmp) (O:Objs) (n:Nat) (K:Env→Objs→Nat→Prop) (g:G):Prop:=Zw6 P T ops l (Yr E d g) O n K
def gfork (P:Program) (T:Kv) (ops:List Oper) (b:Bool) (op:Op) (l:List Oper) (E:Env) (d:Option Tmp) (O:Objs) (n:Nat) (K:Env→Objs→Nat→Prop):Prop :=
 (b=true→gop P T E O n op (onK P T ops l E d K))∧(b=false→onK P T ops l E d K (.val undef) O n)
theorem Zy0 (ops:List Oper) (op:Op) (l:List Oper) (E:Env) (d:Option Tmp) (K:Env→Objs→Nat→Prop):gfork P T ops true op l E d O n K=gop P T E O n op (onK P T ops l E d K):=by simp [gfork]
theorem Zyz (ops:List Oper) (op:Op) (l:List Oper) (E:Env) (d:Option Tmp) (K:Env→Objs→Nat→Prop):gfork P T ops false op l E d O n K=onK P T ops l E d K (.val undef) O n:=by simp [gfork]
theorem Zuv (ops:List Oper) (E:Env) (K:Env→Objs→Nat→Prop):Zw6 P T ops [] E O n K=K E O n:=rfl
theorem Zn7 (ops:List Oper) (d:Option Tmp) (op:Op) (ty:TypeId) (pos:String) (af:Array Edge) (l:List Oper) (E:Env) (K:Env→Objs→Nat→Prop):Zw6 P T ops (⟨d,op,ty,pos,af,none⟩::l) E O n K=gop P T E O n op (onK P T ops l E d K):=rfl
theorem Zn6 (ops:List Oper) (d:Option Tmp) (op:Op) (ty:TypeId) (pos:String) (af:Array Edge) (g:Nat×Bool) (l:List Oper) (E:Env) (K:Env→Objs→Nat→Prop) :
  Zw6 P T ops (⟨d,op,ty,pos,af,some g⟩::l) E O n K=match Qa ops E (some g) with
   | some b=>if Jz op=true then Zf0 T E O n op b (onW P T ops l E d O n K)
    else gfork P T ops b op l E d O n K
   | none=>False:=rfl
theorem Zkh {g:G} {v:Value} (h:g.rep w O m n v) (hw:wok [g]):(Zdz g).rep w O m n v:=by
 cases g <;> simp only [Zdz] <;> first | exact h | (simp only [wok,and_true] at hw;simp only [G.rep] at h;exact h.1 hw)
theorem Z72:∀ (l:List G),wok l→∀ g∈l,wok [g]
 | [],_,g,hg=>by cases hg
 | x::l,h,g,hg=>by
  have h1:wok [x]∧wok l:=by
   cases x <;> simp only [wok,and_true,true_and] at h ⊢ <;> exact h
  cases hg with
  | head=>exact h1.1
  | tail _ hg=>exact Z72 l h1.2 g hg
theorem Z2m {a:Act} {ca:Operand} {c x y g:G} {S:Prop} {vc vx vy:Value} (hc:c.rep w O m n vc) (hx:x.rep w O m n vx) (hy:y.rep w O m n vy) (h:Zuw c x y=some (S,g)) (hS:S):∃ t:Bool,vc = .bool t∧g.rep w O m n (if t then vx else vy):=by
 unfold Zuw at h
 split at h
 ·rename_i t heq
  simp only [Option.some.injEq,Prod.mk.injEq] at h
  obtain ⟨rfl,rfl⟩:=h
  have h1:=Zkh hc hS.1
  rw [heq] at h1
  simp only [G.rep] at h1
  refine ⟨t,h1,?_⟩
  have ht:t=true→(Zdz x).rep w O m n vx:=fun e=>Zkh hx (hS.2.1 e)
  have hf:t=false→(Zdz y).rep w O m n vy:=fun e=>Zkh hy (hS.2.2 e)
  unfold Zux
  split
  ·rename_i p q e1 e2
   rw [e1] at ht
   rw [e2] at hf
   cases t with
   | true=>have:=ht rfl;simp only [G.rep] at this ⊢;simpa using this
   | false=>have:=hf rfl;simp only [G.rep] at this ⊢;simpa using this
  cases t with
  | true=>simpa using ht rfl
  | false=>simpa using hf rfl
 cases h
theorem Qy {ops:List Oper} {E:Env} {a:Act} {o:Oper} {b:Bool} (hE:Holds w O m n E a) (h:Qj ops E o=some b):Region.wanted o (yielded ops.toArray a.tmps)=b:=by
 unfold Qj Qa at h
 unfold Region.wanted
 split at h
 ·rename_i hg
  injection h with h
  rw [hg]
  exact h
 rename_i j want hg
 rw [hg]
 simp only [yielded,List.getElem?_toArray]
 split at h
 ·rename_i hd
  injection h with h
  rw [hd,← h]
  rfl
 rename_i d hd
 rw [hd]
 simp only [Option.bind_some]
 have hv:a.tmps[d]? = none∨∃ v,a.tmps[d]? = some v∧(Jw E.l d).rep w O m n v:=by
  cases hq:a.tmps[d]? with
  | none=>exact .inl rfl
  | some v=>exact .inr ⟨v,rfl,hE.at_ d v hq⟩
 have hout:a.tmps[d]? = none→Jw E.l d = .any:=fun hq=>hE.out d (by rw [← hE.size];exact Array.getElem?_eq_none_iff.1 hq)
 rcases hv with hv | ⟨v,h1,h2⟩
 ·rw [hout hv] at h
  cases h
 split at h
 ·rename_i bb hb
  rw [hb] at h2
  simp only [G.rep] at h2
  subst h2
  injection h with h
  rw [h1,← h]
  cases bb <;> cases want <;> rfl
 ·rename_i bb hb
  rw [hb] at h2
  simp only [G.rep] at h2
  subst h2
  injection h with h
  rw [h1,← h]
  rfl
 ·rename_i b' bb hb
  rw [hb] at h2
  simp only [G.rep] at h2
  injection h with h
  rw [h1,← h]
  cases b' with
  | true =>
   have:=h2.1 rfl
   subst this
   cases bb <;> cases want <;> rfl
  | false =>
   have:=h2.2 rfl
   subst this
   rfl
 cases h
theorem Zh9 (hT:Qo P T) (hM:Mem w O m n) {E:Env} {a:Act} (hE:Holds w O m n E a) {o:Oper} {S:Prop} {g:G} {O':Objs} {n':Nat} (h:Zer T E O n o.op=some (S,g,O',n')) (hS:S):Acts P w O m n (execOp a.eval o) g O' n':=by
 unfold Zer at h
 split at h
 ·rename_i c x y hop
  cases hq:Zuw (ev E c) (ev E x) (ev E y) with
  | none=>simp [hq] at h
  | some r =>
   simp only [hq,Option.map_some,Option.some.injEq,Prod.mk.injEq] at h
   obtain ⟨rfl,rfl,rfl,rfl⟩:=h
   obtain ⟨t,h1,h2⟩:=Z2m (a:=a) (ca:=c) (S:=r.1) (hE.ev c) (hE.ev x) (hE.ev y) hq hS
   refine ⟨if t then a.eval x else a.eval y,_,w,m,by unfold execOp;rw [hop];simp only [h1,asBool,Sem.run_bind,Sem.run_pure,Result.andThen_ok],.inl rfl,hM,Ext.refl _ _ _ _,h2⟩
 rename_i op hop
 cases hq:Zac T (evS E) O n o.op with
 | none=>simp [hq] at h
 | some r =>
  obtain ⟨S',g',O2,n2⟩:=r
  simp only [hq,Option.map_some,Option.some.injEq,Prod.mk.injEq] at h
  obtain ⟨rfl,rfl,rfl,rfl⟩:=h
  -- the operands alone count
  classical
  have hco:Zac T (fun x=>if x∈o.op.operands.toList then evS E x else ev E x) O n o.op=some (S',g',O2,n2):=by
   rw [← hq]
   exact Zsu fun x hx=>by rw [if_pos (by simpa using hx)]
  refine Z2n hT hM (ρv:=a.eval) (fun x => ?_) o hco hS.2
  split
  ·rename_i hx
   exact Zkh (hE.ev x) (Z72 _ hS.1 _ (List.mem_map.2 ⟨x,hx,rfl⟩))
  exact hE.ev x
theorem Zh6 (hT:Qo P T) (hM:Mem w O m n) {E:Env} {a:Act} (hE:Holds w O m n E a) {o:Oper} {K:G→Objs→Nat→Prop} (h:gop P T E O n o.op K) {next:Act→World→Prop} {Q:Exit→Act→World→Prop}
  (hn:∀ v g w' O' m' n',K g O' n'→Mem w' O' m' n'→Ext w O m n w' O' m' n'→g.rep w' O' m' n' v→next (a.put o.dst v) w'):o.wp P a w next Q:=by
 unfold gop at h
 split at h
 ·rename_i o' args ts hop
  split at h
  case h_2=>exact h.elim
  rename_i f k cs hev
  obtain ⟨hwok,hc,hcall⟩:=h
  have hfn:=hE.ev o'
  rw [hev] at hfn
  simp only [G.rep] at hfn
  obtain ⟨us,hfv,hus⟩:=hfn
  have hr:G.reps w O m n (args.toList.map (evS E)) (args.toList.map a.eval):=by
   have:∀ l:List Operand,wok (l.map (ev E))→G.reps w O m n (l.map (evS E)) (l.map a.eval):=fun l=>by
    induction l with
    | nil=>intro _;rfl
    | cons x l ih =>
     intro hw
     have h1:wok [ev E x]∧wok (l.map (ev E)):=by
      simp only [List.map_cons] at hw
      generalize ev E x=g at *
      cases g <;> simp only [wok,and_true,true_and] at hw ⊢ <;> exact hw
     exact ⟨_,_,rfl,Zkh (hE.ev x) h1.1,ih h1.2⟩
   exact this _ hwok
  have:=hcall w m _ hM (U7 _ _ _ _ (U7 _ _ _ _ (Vz k _ _ hus) hr) (Gl k _ _ hus))
  unfold Oper.wp
  have hrun:(execOp a.eval o).run P w = .ok (.enter f ((us.take k).toArray++args.map a.eval++(us.drop k).toArray)) w:=by
   unfold execOp
   rw [hop]
   simp [resolve,hfv,Deferred.ofValue,invoke,hc]
  rw [hrun,Oper.upon_enter]
  have e:(us.take k++args.toList.map a.eval++us.drop k).toArray=(us.take k).toArray++args.map a.eval++(us.drop k).toArray:=by
   apply Array.ext'
   simp only [Array.toList_append,Array.toList_map]
  rw [e] at this
  refine this.mono fun e w' ⟨v,g,O',n',m',h1,h2,h3,h4,h5⟩ => ?_
  subst h1
  exact hn v g w' O' m' n' h5 h2 h3 h4
 split at h
 ·rename_i S g O' n' hst
  obtain ⟨v,nx,w',m',h1,h2,h3,h4,h5⟩:=Zh9 hT hM hE hst h.1
  unfold Oper.wp
  rw [h1]
  rcases h2 with rfl | ⟨rfl,rfl⟩
  ·exact hn v g w' O' m' n' h.2 h3 h4 h5
  exact hn undef g w' O' m' n' h.2 h3 h4 h5
 exact h.elim
theorem Zjz {E:Env} {op:Op} (hq:Jz op=true) {S:Prop} {g:G} {O':Objs} {n':Nat} (h:Zer T E O n op=some (S,g,O',n')):O'=O∧n'=n:=by
 unfold Zer at h
 split at h
 ·simp only [Option.map_eq_some_iff,Prod.mk.injEq] at h
  obtain ⟨_,_,_,_,h1,h2⟩:=h
  exact ⟨h1.symm,h2.symm⟩
 rename_i op' hop
 simp only [Option.map_eq_some_iff,Prod.mk.injEq] at h
 obtain ⟨⟨S',g',O2,n2⟩,h1,_,h2⟩:=h
 obtain ⟨rfl,rfl,rfl⟩:=h2
 exact Z5b hq h1
end
end Go.Proofs.Ytibgpnmmgffgeaa
