/- Part G13 of the ghost memory: lemmas and contracts used by the proofs of this seat's laws; each theorem bears its own conditions. -/
import Derived.Test.YtibgpnmmgffgeaaG12
namespace Go.Proofs.Ytibgpnmmgffgeaa
open Go.RowKit
set_option linter.unusedVariables false
set_option linter.unusedSimpArgs false
section
variable {P:Program} {T:Kv} {w:World} {O:Objs} {m:Hands} {n:Nat}
def leL (l:List (Nat×G)):List (Nat×G)→Prop
  | []=>True
  | (t,g)::l0=>Jw l t=g∧leL l l0
def leG (E0 E:Env):Prop:=E0.n=E.n∧leL E.l E0.l
theorem Zu0:∀ (l l0:List (Nat×G)),leL l l0→∀ t,Jw l0 t = .any∨Jw l0 t=Jw l t
  | l,[],h,t => .inl rfl
  | l,(t',g)::l0,h,t=>by
    simp only [leL] at h
    simp only [Jw]
    split
    · rename_i e;subst e;exact .inr h.1.symm
    exact Zu0 l l0 h.2 t
theorem Holds.le {E E':Env} {a:Act} (h:Holds w O m n E' a) (hl:leG E E'):Holds w O m n E a:=by
  refine ⟨h.size.trans hl.1.symm,fun t v hv => ?_,fun t ht => ?_,h.defers⟩
  · rcases Zu0 _ _ hl.2 t with e | e
    · rw [e];simp [G.rep]
    rw [e];exact h.at_ t v hv
  rcases Zu0 _ _ hl.2 t with e | e
  · exact e
  rw [e];exact h.out t (by rw [← hl.1];exact ht)
theorem Holds.compact {E:Env} {a:Act} (h:Holds w O m n E a):Holds w O m n E.compact a:=by
  unfold Env.compact
  split
  · exact h
  refine h.le ⟨rfl,?_⟩
  have hk:∀ (l:List (Nat×G)) (k:List Nat),leL l (Zno l k):=fun l k=>by
    induction k with
    | nil=>trivial
    | cons t k ih=>exact ⟨rfl,ih⟩
  exact hk _ _
abbrev GK:=Env→Objs→Nat→Prop
abbrev GQ:=Exit→Env→Objs→Nat→Prop
def Y1 (K:GK) (Q:GQ):GQ
  | .normal,E,O,n=>K E O n
  | e,E,O,n=>Q e E O n
def Yc (id:Nat) (Q:GQ):GQ
  | .exit id',E,O,n=>if id'=id then Q .normal E O n else Q (.exit id') E O n
  | e,E,O,n=>Q e E O n
def again (I:Nat→GK) (k:Nat) (E':Env) (O':Objs) (n':Nat):Prop:=∃ k' E0,k' < k∧I k' E0 O' n'∧leG E0 E'
def gloop (body:GQ→GK) (Q:GQ) (E:Env) (O:Objs) (n:Nat):Prop :=
  ∃ I:Nat→GK,(∃ k E0,I k E0 O n∧leG E0 E)∧∀ k E O n,I k E O n→body (Y1 (again I k) Q) E O n
def gwp (P:Program) (T:Kv) (D:Array Oper→Env→Objs→Nat→GK→Prop):Code→GQ→Env→Objs→Nat→Prop
  | .skip,Q,E,O,n=>Q .normal E O n
  | .region _ ops false,Q,E,O,n=>Zw6 P T ops.toList ops.toList E O n (Q .normal)
  | .region _ ops true,Q,E,O,n=>D ops E O n (Q .normal)
  | .seq x y,Q,E,O,n=>gwp P T D x (Y1 (fun E O n=>gwp P T D y Q E.compact O n) Q) E O n
  | .cond c x y,Q,E,O,n=>match ev E c with
    | .val (.bool t)=>(t=true→gwp P T D x Q E O n)∧(t=false→gwp P T D y Q E O n)
    | _=>False
  | .block id c,Q,E,O,n=>gwp P T D c (Yc id Q) E O n
  | .loop c,Q,E,O,n=>gloop (gwp P T D c) Q E O n
  | .exit id,Q,E,O,n=>Q (.exit id) E O n
  | .ret,Q,E,O,n=>Q .ret E O n
  | _,_,_,_,_=>False
def gcond (P:Program) (T:Kv) (D:Array Oper→Env→Objs→Nat→GK→Prop) (g:G) (x y:Code) (Q:GQ) (E:Env) (O:Objs) (n:Nat):Prop :=
  match g with
  | .val (.bool t)=>(t=true→gwp P T D x Q E O n)∧(t=false→gwp P T D y Q E O n)
  | _=>False
theorem gcond.by {D:Array Oper→Env→Objs→Nat→GK→Prop} {t:Bool} {x y:Code} {Q:GQ} {E:Env} (h1:t=true→gwp P T D x Q E O n) (h2:t=false→gwp P T D y Q E O n):gcond P T D (.val (.bool t)) x y Q E O n:=⟨h1,h2⟩
def lift (w:World) (O:Objs) (m:Hands) (n:Nat) (Q:GQ):Exit→Act→World→Prop:=fun e a' w'=>∃ E' O' n' m',Q e E' O' n'∧Mem w' O' m' n'∧Holds w' O' m' n' E' a'∧Ext w O m n w' O' m' n'
theorem Ydr {c:Code} {Q:Exit→Act→World→Prop} (I:Nat→Act→World→Prop) (round:∀ k a w,I k a w→c.wp P (Exit.then (fun a' w'=>∃ k',k' < k∧I k' a' w') Q) a w):∀ k a w,I k a w→(Code.loop c).wp P Q a w:=by
  intro k0 a0 w0 h0 b k cs
  have key:∀ i a w,I i a w→∃ e a' w',Q e a' w'∧Arrives P (lone (b.at a (.code c :: .inLoop c::k)) cs w) b k cs e a' w':=by
    intro i
    induction i using Nat.strongRecOn with
    | _ i ih =>
      intro a w hI
      obtain ⟨e,a₁,w₁,hq,harr⟩:=round i a w hI b (.inLoop c::k) cs
      cases e with
      | normal =>
        obtain ⟨i',hlt,hI₁⟩:=hq
        obtain ⟨e₂,a₂,w₂,hq₂,harr₂⟩:=ih i' hlt a₁ w₁ hI₁
        exact ⟨e₂,a₂,w₂,hq₂,.of_steps (Steps.trans harr (.one step_inLoop)) harr₂⟩
      | exit id=>exact ⟨_,a₁,w₁,hq,.pass (x := .inLoop c) rfl (fun _ _ => .inl (by simp)) harr⟩
      | goto l=>exact ⟨_,a₁,w₁,hq,.pass (x := .inLoop c) rfl (fun _ _ => .inl (by simp)) harr⟩
      | ret=>exact ⟨_,a₁,w₁,hq,.pass (x := .inLoop c) rfl (fun _ _ => .inl (by simp)) harr⟩
      | panic ch=>exact ⟨_,a₁,w₁,hq,.pass (x := .inLoop c) rfl (fun _ _ => .inl (by simp)) harr⟩
      | outgrown=>exact ⟨_,a₁,w₁,hq,.pass (x := .inLoop c) rfl (fun _ _ => .inl (by simp)) harr⟩
  obtain ⟨e,a',w',hq,harr⟩:=key k0 a0 w0 h0
  exact ⟨e,a',w',hq,.of_steps (.one step_loop) harr⟩
end
section
variable {P:Program} {T:Kv} {w:World} {O:Objs} {m:Hands} {n:Nat}
def PCall (P:Program) (f:FuncId) (gs:List G) (O:Objs) (n:Nat) (K:G→Prop):Prop:=∃ r,GPure P f gs O n r∧K r
def pop (P:Program) (T:Kv) (E:Env) (O:Objs) (n:Nat) (op:Op) (K:G→Prop):Prop :=
  match op with
  | .call ⟨.value o,args,_⟩=>match ev E o with
    | .fn f k cs=>wok (args.toList.map (ev E))∧PCall P f (cs.take k++args.toList.map (evS E)++cs.drop k) O n K
    | _=>False
  | op=>match Zer T E O n op with
    | some (S,g,_,_)=>S∧Jz op=true∧K g
    | none=>False
theorem Zpy {E:Env} {op:Op} {K:G→Prop} (h:pop P T E O n op K):∃ r,pop P T E O n op (·=r)∧K r:=by
  unfold pop at h ⊢
  split at h
  · split at h
    · obtain ⟨h0,r,h1,h2⟩:=h
      exact ⟨r,⟨h0,r,h1,rfl⟩,h2⟩
    exact h.elim
  split at h
  · rename_i S g _ _ hs
    exact ⟨g,by first | exact ⟨h.1,h.2.1,rfl⟩ | (rw [hs];exact ⟨h.1,h.2.1,rfl⟩),h.2.2⟩
  exact h.elim
theorem Zn3 {E E':Env} {op:Op} (hE:∀ x∈op.operands,ev E x=ev E' x):Zer T E O n op=Zer T E' O n op:=by
  unfold Zer
  split
  · rename_i c a b
    rw [hE c (by simp [Op.operands]),hE a (by simp [Op.operands]),hE b (by simp [Op.operands])]
  rename_i op' _
  have e1:Zac T (evS E) O n op=Zac T (evS E') O n op:=Zsu fun x hx=>by unfold evS;rw [hE x hx]
  have e2:op.operands.toList.map (ev E)=op.operands.toList.map (ev E'):=List.map_congr_left fun x hx=>hE x (by simpa using hx)
  rw [e1,e2]
theorem Z8u {E E':Env} {op:Op} {K:G→Prop} (hE:∀ x∈op.operands,ev E x=ev E' x) (h:pop P T E O n op K):pop P T E' O n op K:=by
  unfold pop at h ⊢
  split at h
  · rename_i o args ts
    have ho:ev E o=ev E' o:=hE o (by simp [Op.operands,Call.operands])
    rw [← ho]
    split at h
    case h_2=>exact h.elim
    rename_i f k cs hev
    obtain ⟨h0,r,h1,h2⟩:=h
    have hx:∀ x∈args.toList,ev E x=ev E' x:=fun x hx=>hE x (by simp [Op.operands,Call.operands];exact .inr (by simpa using hx))
    have e:args.toList.map (ev E)=args.toList.map (ev E'):=List.map_congr_left hx
    have e2:args.toList.map (evS E)=args.toList.map (evS E'):=List.map_congr_left fun x hm=>by unfold evS;rw [hx x hm]
    exact ⟨by rw [← e];exact h0,r,by rw [← e2];exact h1,h2⟩
  rw [← Zn3 hE];exact h
theorem Z0f {E:Env} {op:Op} {r:G} (h:pop P T E O n op (·=r)):gop P T E O n op fun g O' n'=>g=r∧O'=O∧n'=n:=by
  unfold pop at h
  unfold gop
  split at h
  · split at h
    · rename_i hev
      obtain ⟨h0,r',h1,rfl⟩:=h
      simp only [hev]
      exact ⟨h0,h1⟩
    exact h.elim
  split at h
  · rename_i S g O' n' hs
    obtain ⟨h1,h2⟩:=Zjz h.2.1 hs
    split
    · rename_i hne;exact (hne _ _ _ rfl).elim
    rw [hs]
    exact ⟨h.1,h.2.2,h1,h2⟩
  exact h.elim
def Zhd (ops:List Oper) (o:Oper):List Tmp :=
  (o.op.operands.toList.filterMap fun | .tmp t=>some t | _=>none)++(match o.guard with
    | some (g,_)=>((ops[g]?).bind (·.dst)).toList
    | none=>[])
def Zje (ops:List Oper) (x y:Oper):Bool :=
  (match x.dst with
   | some d => !(Zhd ops y).contains d && y.dst != some d
   | none=>true) &&
  (match y.dst with
   | some d => !(Zhd ops x).contains d
   | none=>true)
def PS (P:Program) (T:Kv) (ops:List Oper) (O:Objs) (n:Nat) (E:Env) (o:Oper) (r:G):Prop :=
  (Qj ops E o=some true∧pop P T E O n o.op (·=r))∨(Qj ops E o=some false∧r = .val undef) ∨
  (∃ b g,Qj ops E o=some b∧Jz o.op=true∧(∃ S O' n',Zer T E O n o.op=some (S,g,O',n')∧(b=true→S))∧r = .when b g)
def EqE (E E':Env):Prop:=E.n=E'.n∧∀ t,Jw E.l t=Jw E'.l t
theorem EqE.refl (E:Env):EqE E E:=⟨rfl,fun _=>rfl⟩
theorem EqE.trans {E E' E'':Env} (h:EqE E E') (k:EqE E' E''):EqE E E'':=⟨h.1.trans k.1,fun t=>(h.2 t).trans (k.2 t)⟩
theorem EqE.ev {E E':Env} (h:EqE E E') (x:Operand):ev E x=ev E' x:=by
  cases x with
  | tmp t=>exact h.2 t
  | _=>rfl
theorem Zhc (E:Env) (d:Option Tmp) (g:G) (t:Nat):Jw (Yr E d g).l t=if d=some t∧t < E.n then g else Jw E.l t:=by
  cases d with
  | none=>simp [Yr]
  | some t' =>
    unfold Yr
    simp only
    by_cases h:t' < E.n
    · rw [if_pos h]
      simp only [Jw]
      by_cases e:t=t'
      · subst e;rw [if_pos rfl,if_pos ⟨rfl,h⟩]
      rw [if_neg e,if_neg (fun q=>e (by have:=q.1;injection this with this;exact this.symm))]
    rw [if_neg h,if_neg (fun q=>h (by have:=q.1;injection this with this;rw [this];exact q.2))]
theorem Z67 (E:Env) (d:Option Tmp) (g:G):(Yr E d g).n=E.n:=by
  cases d with
  | none=>rfl
  | some t=>unfold Yr;simp only;split <;> rfl
theorem EqE.put {E E':Env} (h:EqE E E') (d:Option Tmp) (g:G):EqE (Yr E d g) (Yr E' d g):=by
  refine ⟨by rw [Z67,Z67];exact h.1,fun t => ?_⟩
  rw [Zhc,Zhc,h.1,h.2 t]
theorem Zp0 {E:Env} {d d':Option Tmp} {r r':G} (h:∀ t,d=some t→d'≠some t):EqE (Yr (Yr E d r) d' r') (Yr (Yr E d' r') d r):=by
  refine ⟨by simp only [Z67],fun t => ?_⟩
  simp only [Zhc,Z67]
  by_cases h1:d=some t
  · have h2:=h t h1
    simp [h1,h2]
  by_cases h2:d'=some t
  · simp [h1,h2]
  simp [h1,h2]
theorem Z2o {ops:List Oper} {E E':Env} {o:Oper} (h:∀ g d,o.guard=some g→(ops[g.1]?).bind (·.dst)=some d→Jw E.l d=Jw E'.l d):Qj ops E o=Qj ops E' o:=by
  unfold Qj Qa
  split
  · rfl
  rename_i j want hg
  split
  · rfl
  rename_i d hd
  rw [h (j,want) d hg hd]
theorem Ze7 {ops:List Oper} {E E':Env} {o:Oper} {r:G} (hd:∀ t∈Zhd ops o,Jw E.l t=Jw E'.l t) (h:PS P T ops O n E o r):PS P T ops O n E' o r:=by
  have hw:Qj ops E' o=Qj ops E o:=by
    refine (Z2o fun g d hg hgd=>hd d ?_).symm
    unfold Zhd
    rw [hg]
    obtain ⟨j,want⟩:=g
    simp only at hgd
    simp [hgd]
  have hop:∀ x∈o.op.operands,ev E x=ev E' x:=fun x hx=>by
    cases x with
    | tmp t =>
      refine hd t ?_
      unfold Zhd
      exact List.mem_append.2 (.inl (List.mem_filterMap.2 ⟨.tmp t,by simpa using hx,rfl⟩))
    | _=>rfl
  rcases h with ⟨h1,h2⟩ | ⟨h1,h2⟩ | ⟨b,g,h1,h2,⟨S,O',n',h3,h4⟩,h5⟩
  · exact .inl ⟨hw.trans h1,Z8u hop h2⟩
  · exact .inr (.inl ⟨hw.trans h1,h2⟩)
  exact .inr (.inr ⟨b,g,hw.trans h1,h2,⟨S,O',n',by rw [← Zn3 hop];exact h3,h4⟩,h5⟩)
theorem Z35 {ops:List Oper} {E:Env} {o:Oper} {r r':G} {d:Option Tmp} (hd:∀ t,d=some t→t ∉ Zhd ops o) (h:PS P T ops O n E o r):PS P T ops O n (Yr E d r') o r :=
  Ze7 (fun t ht=>by rw [Zhc,if_neg (fun q=>hd t q.1 ht)]) h
theorem Z12 {ops:List Oper} {E:Env} {o:Oper} {r r':G} {d:Option Tmp} (hd:∀ t,d=some t→t ∉ Zhd ops o) (h:PS P T ops O n (Yr E d r') o r):PS P T ops O n E o r :=
  Ze7 (fun t ht=>by rw [Zhc,if_neg (fun q=>hd t q.1 ht)]) h
def Run (P:Program) (T:Kv) (ops:List Oper) (O:Objs) (n:Nat):List Oper→Env→Env→Prop
  | [],E,Ef=>EqE E Ef
  | o::l,E,Ef=>∃ r,PS P T ops O n E o r∧Run P T ops O n l (Yr E o.dst r) Ef
theorem Ybg {ops:List Oper}:∀ (l:List Oper) (E E' Ef:Env),EqE E E'→Run P T ops O n l E Ef→Run P T ops O n l E' Ef
  | [],E,E',Ef,h,hr=>⟨h.1.symm.trans hr.1,fun t=>(h.2 t).symm.trans (hr.2 t)⟩
  | o::l,E,E',Ef,h,hr=>by
    obtain ⟨r,h1,h2⟩:=hr
    exact ⟨r,Ze7 (fun t _=>h.2 t) h1,Ybg l _ _ Ef (h.put _ _) h2⟩
theorem Zoc {ops:List Oper} {x y:Oper} (h:Zje ops x y=true):(∀ t,x.dst=some t→t ∉ Zhd ops y∧y.dst≠some t)∧(∀ t,y.dst=some t→t ∉ Zhd ops x):=by
  unfold Zje at h
  rw [Bool.and_eq_true] at h
  refine ⟨fun t ht => ?_,fun t ht => ?_⟩
  · have:=h.1
    rw [ht] at this
    simp at this
    exact ⟨this.1,this.2⟩
  have:=h.2
  rw [ht] at this
  simpa using this
theorem Zx7 {ops:List Oper} {o:Oper}:∀ (R1 R2:List Oper) (E Ef:Env),Run P T ops O n (R1++o::R2) E Ef→(∀ y∈R1,Zje ops o y=true)→∃ r,PS P T ops O n E o r∧Run P T ops O n (R1++R2) (Yr E o.dst r) Ef
  | [],R2,E,Ef,h,_=>h
  | y::R1,R2,E,Ef,h,hi=>by
    obtain ⟨ry,h1,h2⟩:=h
    obtain ⟨r,h3,h4⟩:=Zx7 R1 R2 _ Ef h2 fun z hz=>hi z (.tail _ hz)
    obtain ⟨i1,i2⟩:=Zoc (hi y (.head _))
    have ho:PS P T ops O n E o r:=Z12 i2 h3
    exact ⟨r,ho,ry,Z35 (fun t ht=>(i1 t ht).1) h1,Ybg _ _ _ Ef (Zp0 fun t ht=>fun h=>(i1 t h).2 ht) h4⟩
end
section
variable {P:Program} {T:Kv}
def Z0g (P:Program) (T:Kv) (ops:List Oper) (O:Objs) (n:Nat):List Oper→Env→(Env→Prop)→Prop
  | [],E,K=>K E
  | o::l,E,K=>match o.guard with
    | none=>pop P T E O n o.op fun g=>Z0g P T ops O n l (Yr E o.dst g) K
    | some g=>match Qa ops E (some g) with
      | some b=>if Jz o.op=true then Zf0 T E O n o.op b fun g=>Z0g P T ops O n l (Yr E o.dst g) K
        else (b=true→pop P T E O n o.op fun g=>Z0g P T ops O n l (Yr E o.dst g) K)∧(b=false→Z0g P T ops O n l (Yr E o.dst (.val undef)) K)
      | none=>False
def onP (P:Program) (T:Kv) (ops:List Oper) (O:Objs) (n:Nat) (l:List Oper) (E:Env) (d:Option Tmp) (K:Env→Prop) (g:G):Prop:=Z0g P T ops O n l (Yr E d g) K
def pfork (P:Program) (T:Kv) (ops:List Oper) (O:Objs) (n:Nat) (b:Bool) (op:Op) (l:List Oper) (E:Env) (d:Option Tmp) (K:Env→Prop):Prop :=
  (b=true→pop P T E O n op (onP P T ops O n l E d K))∧(b=false→onP P T ops O n l E d K (.val undef))
theorem Z0d (ops:List Oper) (O:Objs) (n:Nat) (op:Op) (l:List Oper) (E:Env) (d:Option Tmp) (K:Env→Prop):pfork P T ops O n true op l E d K=pop P T E O n op (onP P T ops O n l E d K):=by simp [pfork]
theorem Z0c (ops:List Oper) (O:Objs) (n:Nat) (op:Op) (l:List Oper) (E:Env) (d:Option Tmp) (K:Env→Prop):pfork P T ops O n false op l E d K=onP P T ops O n l E d K (.val undef):=by simp [pfork]
theorem Zvt (ops:List Oper) (O:Objs) (n:Nat) (E:Env) (K:Env→Prop):Z0g P T ops O n [] E K=K E:=rfl
theorem Zos (ops:List Oper) (O:Objs) (n:Nat) (d:Option Tmp) (op:Op) (ty:TypeId) (pos:String) (af:Array Edge) (l:List Oper) (E:Env) (K:Env→Prop):Z0g P T ops O n (⟨d,op,ty,pos,af,none⟩::l) E K=pop P T E O n op (onP P T ops O n l E d K):=rfl
theorem Zor (ops:List Oper) (O:Objs) (n:Nat) (d:Option Tmp) (op:Op) (ty:TypeId) (pos:String) (af:Array Edge) (g:Nat×Bool) (l:List Oper) (E:Env) (K:Env→Prop) :
    Z0g P T ops O n (⟨d,op,ty,pos,af,some g⟩::l) E K=match Qa ops E (some g) with
      | some b=>if Jz op=true then Zf0 T E O n op b (onP P T ops O n l E d K)
        else pfork P T ops O n b op l E d K
      | none=>False:=rfl
def Zei:List Oper→List (List Nat)→List (List Nat)
  | [],acc=>acc
  | o::l,acc=>Zei l (acc++[(o.after.toList.filter fun e=>Region.binds .any e).flatMap fun e=>e.on::acc.getD e.on []])
def Ztn (ops:List Oper):Bool :=
  let B:=Zei ops []
  (List.range ops.length).all fun i=>match ops[i]? with
    | none=>true
    | some o=>(o.after.toList.all fun e => !Region.binds .any e || e.on < i) &&
      (List.range i).all fun j=>match ops[j]? with
        | none=>true
        | some y=>Zje ops o y || (B.getD i []).contains j
theorem Z18:∀ (l:List Oper) (acc:List (List Nat)),(Zei l acc).length=acc.length+l.length
  | [],acc=>by simp [Zei]
  | o::l,acc=>by rw [Zei,Z18 l];simp;omega
theorem Zui:∀ (l:List Oper) (acc:List (List Nat)) (k:Nat),k < acc.length→(Zei l acc).getD k []=acc.getD k []
  | [],acc,k,h=>by simp [Zei]
  | o::l,acc,k,h=>by
    rw [Zei,Zui l _ k (by simp;omega)]
    simp [List.getD,List.getElem?_append_left h]
theorem Zh7 (ops:List Oper) (hb:∀ i o,ops[i]? = some o→∀ e∈o.after.toList,Region.binds .any e=true→e.on < i):∀ (l pre:List Oper) (acc:List (List Nat)),pre++l=ops→acc=Zei pre [] →
    ∀ i o,ops[i]? = some o→∀ j,j∈(Zei l acc).getD i []→i < pre.length+l.length→pre.length≤i→∃ e∈o.after.toList,Region.binds .any e=true∧(j=e.on∨j∈(Zei l acc).getD e.on [])
  | [],pre,acc,hp,ha,i,o,ho,j,hj,h1,h2=>by simp at h1;omega
  | x::l,pre,acc,hp,ha,i,o,ho,j,hj,h1,h2=>by
    have hacc:acc.length=pre.length:=by rw [ha,Z18];simp
    rw [Zei] at hj ⊢
    by_cases hi:i=pre.length
    · have hx:o=x:=by
        rw [← hp,hi,List.getElem?_append_right (Nat.le_refl _),Nat.sub_self] at ho
        simpa using ho.symm
      subst hx
      rw [Zui _ _ _ (by simp;omega)] at hj
      have e1:(acc++[(o.after.toList.filter fun e=>Region.binds .any e).flatMap fun e=>e.on::acc.getD e.on []]).getD i []=(o.after.toList.filter fun e=>Region.binds .any e).flatMap fun e=>e.on::acc.getD e.on []:=by
        simp [List.getD,hi,← hacc]
      rw [e1] at hj
      obtain ⟨e,he,hj⟩:=List.mem_flatMap.1 hj
      obtain ⟨he1,he2⟩:=List.mem_filter.1 he
      refine ⟨e,he1,he2,?_⟩
      cases hj with
      | head=>exact .inl rfl
      | tail _ hj =>
        have hlt:=hb i o ho e he1 he2
        rw [Zui _ _ _ (by simp;omega)]
        have hj':j∈acc.getD e.on []:=hj
        exact .inr (by simpa [List.getD,List.getElem?_append_left (by omega:e.on < acc.length)] using hj')
    exact Zh7 ops hb l (pre++[x]) _ (by simpa using hp) (by
      rw [ha]
      have:∀ (a b:List Oper) (c:List (List Nat)),Zei (a++b) c=Zei b (Zei a c):=fun a=>by
        induction a with
        | nil=>intro b c;rfl
        | cons y a ih=>intro b c;rw [List.cons_append,Zei,Zei,ih]
      rw [this]
      rfl) i o ho j hj (by simp at h1 ⊢;omega) (by simp;omega)
def Zju (ops:List Oper) (listed:Array Bool):List Nat:=(List.range ops.length).filter fun i => !listed.getD i true
theorem Holds.eqE {w:World} {O:Objs} {m:Hands} {n:Nat} {E E':Env} {a:Act} (h:Holds w O m n E a) (e:EqE E E'):Holds w O m n E' a :=
  ⟨h.size.trans e.1,fun t v hv=>by rw [← e.2 t];exact h.at_ t v hv,fun t ht=>by rw [← e.2 t];exact h.out t (by rw [e.1];exact ht),h.defers⟩
theorem Z8b (hT:Qo P T) {ops:List Oper} (hord:Ztn ops=true) {Q:Exit→Act→World→Prop} {O:Objs} {n:Nat} {Ef:Env} :
    ∀ (fuel:Nat) (listed:Array Bool) (R:List Nat) (w:World) (m:Hands) (E:Env) (a:Act),listed.size=ops.length→R=Zju ops listed→R.length≤fuel →
    (∀ i o,ops[i]? = some o→listed.getD i true=true→∀ e∈o.after.toList,Region.binds .any e=true→listed.getD e.on false=true) →
    Run P T ops O n (R.filterMap (ops[·]?)) E Ef→Mem w O m n→Holds w O m n E a→(∀ w' m' a',Mem w' O m' n→Holds w' O m' n Ef a'→Ext w O m n w' O m' n→Q .normal a' w')→wpAny P .any ops.toArray Q fuel listed a w:=by
  have hall:=List.all_eq_true.1 hord
  have hb:∀ i o,ops[i]? = some o→∀ e∈o.after.toList,Region.binds .any e=true→e.on < i:=fun i o ho e he hbd=>by
    have hi:i < ops.length:=by
      rcases Nat.lt_or_ge i ops.length with h | h
      · exact h
      rw [List.getElem?_eq_none h] at ho;cases ho
    have:=hall i (List.mem_range.2 hi)
    simp only [ho,Bool.and_eq_true,List.all_eq_true] at this
    have h2:=this.1 e he
    rw [hbd] at h2
    simpa using h2
  have hc:∀ i o j y,ops[i]? = some o→ops[j]? = some y→j < i→Zje ops o y=true∨j∈(Zei ops []).getD i []:=fun i o j y ho hy hj=>by
    have hi:i < ops.length:=by
      rcases Nat.lt_or_ge i ops.length with h | h
      · exact h
      rw [List.getElem?_eq_none h] at ho;cases ho
    have:=hall i (List.mem_range.2 hi)
    simp only [ho,Bool.and_eq_true,List.all_eq_true] at this
    have h2:=this.2 j (List.mem_range.2 hj)
    simp only [hy,Bool.or_eq_true,List.contains_iff_mem] at h2
    exact h2
  intro fuel
  induction fuel with
  | zero =>
    intro listed R w m E a hsz hR hlen hdown hrun hM hE hQ
    have h0:R=[]:=List.eq_nil_of_length_eq_zero (by omega)
    subst h0
    have hrun':EqE E Ef:=hrun
    refine ⟨?_,hQ w m a hM (hE.eqE hrun') (Ext.refl _ _ _ _)⟩
    unfold Region.ready
    refine List.filter_eq_nil_iff.2 fun i hi => ?_
    have:i ∉ Zju ops listed:=by rw [← hR];simp
    unfold Zju at this
    have hi':i < ops.length:=by simpa using hi
    simp [hi'] at this
    simp [this]
  | succ fuel ih =>
    intro listed R w m E a hsz hR hlen hdown hrun hM hE hQ
    have hmem:∀ i,i∈R↔i < ops.length∧listed.getD i true=false:=fun i=>by rw [hR];unfold Zju;simp
    refine ⟨fun hnil => ?_,fun i hi => ?_⟩
    · -- nothing is ready: nothing is left
      have h0:R=[]:=by
        cases hRR:R with
        | nil=>rfl
        | cons i R' =>
          exfalso
          have hi:i∈R:=by rw [hRR];exact .head _
          have hmin:∀ k∈R,i≤k:=by
            have hs:R.Pairwise (· < ·):=by rw [hR];exact List.Pairwise.filter _ List.pairwise_lt_range
            rw [hRR] at hs ⊢
            intro k hk
            cases hk with
            | head=>exact Nat.le_refl _
            | tail _ hk=>exact Nat.le_of_lt ((List.pairwise_cons.1 hs).1 k hk)
          obtain ⟨h1,h2⟩:=(hmem i).1 hi
          have:i∈Region.ready .any ops.toArray listed:=by
            unfold Region.ready
            refine List.mem_filter.2 ⟨by simpa using h1,?_⟩
            have ho:ops.toArray[i]? = some ops[i]:=by simp [h1]
            rw [h2,ho]
            simp only [Bool.not_false,Option.map_some,Option.getD_some,Bool.true_and,← Array.all_toList,List.all_eq_true]
            intro e he
            by_cases hbd:Region.binds .any e=true
            · have hlt:=hb i _ (List.getElem?_eq_getElem h1) e he hbd
              have hnot:e.on ∉ R:=fun h=>by have:=hmin _ h;omega
              have:listed.getD e.on true=true:=by
                cases hq:listed.getD e.on true with
                | true=>rfl
                | false=>exact absurd ((hmem e.on).2 ⟨by omega,hq⟩) hnot
              have hin:e.on < listed.size:=by omega
              have:listed.getD e.on false=true:=by simpa [Array.getD,hin] using this
              simp [this]
            simp [hbd]
          rw [hnil] at this
          cases this
      subst h0
      have hrun':EqE E Ef:=hrun
      exact hQ w m a hM (hE.eqE hrun') (Ext.refl _ _ _ _)
    unfold Region.ready at hi
    obtain ⟨hi1,hi2⟩:=List.mem_filter.1 hi
    have hil:i < ops.length:=by simpa using hi1
    have ho:ops[i]? = some ops[i]:=List.getElem?_eq_getElem hil
    have hoA:ops.toArray[i]? = some ops[i]:=by simp [hil]
    rw [Bool.and_eq_true,hoA] at hi2
    have hun:listed.getD i true=false:=by simpa using hi2.1
    have haft:∀ e∈(ops[i]).after.toList,Region.binds .any e=true→listed.getD e.on false=true:=fun e he hbd=>by
      have:=hi2.2
      simp only [Option.map_some,Option.getD_some,← Array.all_toList,List.all_eq_true] at this
      have:=this e he
      rw [hbd] at this
      simpa using this
    -- all that is surely ahead is listed
    have hclos:∀ N k o,k≤N→ops[k]? = some o→(∀ e∈o.after.toList,Region.binds .any e=true→listed.getD e.on false=true)→∀ j∈(Zei ops []).getD k [],listed.getD j false=true:=by
      intro N
      induction N with
      | zero =>
        intro k o hk hko hka j hj
        have hkl:k < ops.length:=by
          rcases Nat.lt_or_ge k ops.length with h | h
          · exact h
          rw [List.getElem?_eq_none h] at hko;cases hko
        obtain ⟨e,he,hbd,hj⟩:=Zh7 ops hb ops [] [] rfl rfl k o hko j hj (by simpa using hkl) (Nat.zero_le _)
        have:=hb k o hko e he hbd
        omega
      | succ N ihN =>
        intro k o hk hko hka j hj
        have hkl:k < ops.length:=by
          rcases Nat.lt_or_ge k ops.length with h | h
          · exact h
          rw [List.getElem?_eq_none h] at hko;cases hko
        obtain ⟨e,he,hbd,hj⟩:=Zh7 ops hb ops [] [] rfl rfl k o hko j hj (by simpa using hkl) (Nat.zero_le _)
        have hlt:=hb k o hko e he hbd
        rcases hj with rfl | hj
        · exact hka e he hbd
        have hel:e.on < ops.length:=by omega
        have hin:e.on < listed.size:=by omega
        refine ihN e.on _ (by omega) (List.getElem?_eq_getElem hel) (fun e' he' hbd'=>hdown e.on _ (List.getElem?_eq_getElem hel) ?_ e' he' hbd') j hj
        have:=hka e he hbd
        simpa [Array.getD,hin] using this
    obtain ⟨R1,R2,hRR⟩:=List.append_of_mem ((hmem i).2 ⟨hil,hun⟩)
    have hs:R.Pairwise (· < ·):=by rw [hR];exact List.Pairwise.filter _ List.pairwise_lt_range
    have hR1:∀ j∈R1,j < i∧listed.getD j true=false:=fun j hj=>by
      have h1:j∈R:=by rw [hRR];exact List.mem_append.2 (.inl hj)
      refine ⟨?_,((hmem j).1 h1).2⟩
      rw [hRR] at hs
      exact (List.pairwise_append.1 hs).2.2 j hj i (.head _)
    rw [hRR,List.filterMap_append,List.filterMap_cons,ho] at hrun
    simp only at hrun
    obtain ⟨r,hps,hrun'⟩:=Zx7 _ _ E Ef hrun fun y hy=>by
      obtain ⟨j,hj,hjy⟩:=List.mem_filterMap.1 hy
      obtain ⟨hlt,hul⟩:=hR1 j hj
      rcases hc i _ j y ho hjy hlt with h | h
      · exact h
      have:=hclos i i _ (Nat.le_refl _) ho haft j h
      have hin:j < listed.size:=by omega
      have h3:listed.getD j true=true:=by simpa [Array.getD,hin] using this
      rw [hul] at h3;cases h3
    have hin:i < listed.size:=by omega
    have hR':R1++R2=Zju ops (listed.setIfInBounds i true):=by
      have e1:Zju ops (listed.setIfInBounds i true)=(Zju ops listed).filter (·≠i):=by
        unfold Zju
        rw [List.filter_filter]
        refine List.filter_congr fun k hk => ?_
        by_cases hki:k=i
        · subst hki;simp [Array.getD,hin]
        simp [Array.getD_eq_getD_getElem?,Array.getElem?_setIfInBounds_ne (Ne.symm hki),hki]
      rw [e1,← hR,hRR]
      have hnd:∀ k∈R1++R2,k≠i:=fun k hk=>by
        rw [hRR] at hs
        rcases List.mem_append.1 hk with hk | hk
        · exact Nat.ne_of_lt ((List.pairwise_append.1 hs).2.2 k hk i (.head _))
        exact Nat.ne_of_gt ((List.pairwise_cons.1 (List.pairwise_append.1 hs).2.1).1 k hk)
      rw [List.filter_append,List.filter_cons]
      simp only [ne_eq,not_true_eq_false,decide_false,Bool.false_eq_true,if_false]
      rw [← List.filter_append,List.filter_eq_self.2]
      intro k hk
      simpa using hnd k hk
    have hdown':∀ k o,ops[k]? = some o→(listed.setIfInBounds i true).getD k true=true→∀ e∈o.after.toList,Region.binds .any e=true→(listed.setIfInBounds i true).getD e.on false=true:=fun k o hk hkl e he hbd=>by
      have up:∀ q,listed.getD q false=true→(listed.setIfInBounds i true).getD q false=true:=fun q hq=>by
        by_cases hqi:q=i
        · subst hqi;simp [Array.getD,hin]
        simpa [Array.getD_eq_getD_getElem?,Array.getElem?_setIfInBounds_ne (Ne.symm hqi)] using hq
      by_cases hki:k=i
      · subst hki
        rw [ho] at hk
        injection hk with hk
        subst hk
        exact up _ (haft e he hbd)
      refine up _ (hdown k o hk ?_ e he hbd)
      simpa [Array.getD_eq_getD_getElem?,Array.getElem?_setIfInBounds_ne (Ne.symm hki)] using hkl
    have hlen':(R1++R2).length≤fuel:=by rw [hRR] at hlen;simp at hlen ⊢;omega
    unfold wpOp
    rw [hoA]
    simp only
    rcases hps with ⟨hw,hpop⟩ | ⟨hw,rfl⟩ | ⟨b,g,hw,hcalm,⟨S,O2,n2,hst,hSS⟩,rfl⟩
    · rw [Qy hE hw,if_pos rfl]
      refine .inl (Zh6 hT hM hE (Z0f hpop) fun v g w' O' m' n' ⟨e1,e2,e3⟩ hM' hX hg => ?_)
      subst e1 e2 e3
      exact ih _ _ w' m' _ _ (by simpa using hsz) hR' hlen' hdown' (by rw [List.filterMap_append];exact hrun') hM' ((hE.ext hX).put _ hg) fun w2 m2 a2 k1 k2 k3=>hQ w2 m2 a2 k1 k2 (hX.trans k3)
    · rw [Qy hE hw,if_neg Bool.false_ne_true]
      exact ih _ _ w m _ _ (by simpa using hsz) hR' hlen' hdown' (by rw [List.filterMap_append];exact hrun') hM (hE.put (g := .val undef) (v:=undef) _ (by simp [G.rep])) hQ
    obtain ⟨e1,e2⟩:=Zjz hcalm hst
    subst e1 e2
    rw [Qy hE hw]
    cases b with
    | true =>
      rw [if_pos rfl]
      refine .inl ?_
      obtain ⟨v,nx,w',m',h1,h2,h3,h4,h5⟩:=Zh9 hT hM hE hst (hSS rfl)
      have hg:(G.when true g).rep w' O2 m' n2 v:=by simp only [G.rep];exact ⟨fun _=>h5,fun h=>by cases h⟩
      have fin:=ih _ _ w' m' _ _ (by simpa using hsz) hR' hlen' hdown' (by rw [List.filterMap_append];exact hrun') h3 ((hE.ext h4).put (ops[i]).dst hg) fun w2 m2 a2 k1 k2 k3=>hQ w2 m2 a2 k1 k2 (h4.trans k3)
      unfold Oper.wp
      rw [h1]
      rcases h2 with rfl | ⟨rfl,rfl⟩ <;> exact fin
    | false =>
      rw [if_neg Bool.false_ne_true]
      exact ih _ _ w m _ _ (by simpa using hsz) hR' hlen' hdown' (by rw [List.filterMap_append];exact hrun') hM (hE.put (g := .when false g) (v:=undef) _ (by simp [G.rep,undef])) hQ
theorem Z2g {α β:Type} {f g:α→Option β}:∀ (l:List α),(∀ j∈l,f j=g j)→l.filterMap f=l.filterMap g
  | [],_=>rfl
  | x::l,h=>by rw [List.filterMap_cons,List.filterMap_cons,h x (.head _),Z2g l fun j hj=>h j (.tail _ hj)]
def atK (K:GK) (O:Objs) (n:Nat) (E':Env):Prop:=K E' O n
def Z4m (P:Program) (T:Kv) (ops:Array Oper) (E:Env) (O:Objs) (n:Nat) (K:GK):Prop :=
  Ztn ops.toList=true∧Z0g P T ops.toList O n ops.toList E (atK K O n)
theorem Ydd (hT:Qo P T) (hm:P.follows .mixedOrders=true) (id:Nat) (ops:Array Oper) (w:World) (O:Objs) (m:Hands) (n:Nat) (E:Env) (a:Act) (K:GK) (Q:Exit→Act→World→Prop) (hM:Mem w O m n) (hE:Holds w O m n E a) (hord:Ztn ops.toList=true) {Ef:Env} (hrun:Run P T ops.toList O n ops.toList E Ef) (hK:K Ef O n)
    (hQ:∀ w' O' m' n' E' a',K E' O' n'→Mem w' O' m' n'→Holds w' O' m' n' E' a'→Ext w O m n w' O' m' n'→Q .normal a' w'):(Code.region id ops true).wp P Q a w:=by
  refine wp_region_any hm ?_
  have hs:((List.range ops.toList.length).filterMap (ops.toList[·]?))=ops.toList:=by
    have:∀ (l:List Oper) (k:Nat),(List.range' k l.length).filterMap ((List.replicate k default++l)[·]?)=l:=fun l=>by
      induction l with
      | nil=>intro k;rfl
      | cons x l ih =>
        intro k
        rw [List.length_cons,List.range'_succ,List.filterMap_cons]
        have e0:(List.replicate k default++x::l)[k]? = some x:=by rw [List.getElem?_append_right (by simp)];simp
        rw [e0]
        simp only
        have:=ih (k+1)
        rw [List.replicate_succ'] at this
        simp only [List.append_assoc,List.singleton_append] at this
        congr 1
        refine Eq.trans ?_ this
        refine Z2g _ fun j hj => ?_
        have hj':=List.mem_range'.1 hj
        obtain ⟨q,hq,rfl⟩:=hj'
        rw [List.getElem?_append_right (by simp;omega),List.getElem?_append_right (by simp;omega)]
        simp only [List.length_replicate,Nat.one_mul]
        rw [show k+1+q - k=q+1 by omega]
        rfl
    have h0:=this ops.toList 0
    rw [← List.range_eq_range'] at h0
    simpa using h0
  have hX:Ext w O m n { w with drawn:=w.drawn+1 } O m n:=⟨rfl,rfl,rfl,Nat.le_refl _,Nat.le_refl _,fun b _ ho=>⟨rfl,ho⟩,fun i _ o ho=>⟨o,ho,rfl,Nat.le_refl _,fun _=>rfl⟩⟩
  have hM':Mem { w with drawn:=w.drawn+1 } O m n:=⟨hM.fresh,fun i o hi=>Zgf hM hi hX fun _ _=>rfl,hM.apart⟩
  have e:ops.toList.toArray=ops:=by simp
  have hz:∀ i,(Array.replicate ops.size false).getD i true=true→¬ i < ops.size:=fun i h hi=>by simp [Array.getD,hi] at h
  have key:=Z8b hT hord (Q:=Q) (w:={ w with drawn:=w.drawn+1 }) ops.size (Array.replicate ops.size false) (List.range ops.toList.length) m E a (by simp) ?_ (by simp) ?_ (by rw [hs];exact hrun) hM' (hE.ext hX)
    fun w' m' a' k1 k2 k3=>hQ w' O m' n Ef a' hK k1 k2 (hX.trans k3)
  · rw [e] at key;exact key
  · unfold Zju
    rw [List.filter_eq_self.2]
    intro i hi
    have hi':i < ops.size:=by simpa using hi
    simp [Array.getD,hi']
  intro i o ho hl
  exfalso
  have:i < ops.size:=by
    rcases Nat.lt_or_ge i ops.toList.length with h | h
    · simpa using h
    rw [List.getElem?_eq_none h] at ho;cases ho
  exact hz i hl this
end
section
variable {P:Program} {T:Kv} {w:World} {O:Objs} {m:Hands} {n:Nat}
mutual
def G.under (k:Nat):G→Bool
  | .any | .val _=>true
  | .agg cs=>G.unders k cs
  | .tup cs=>G.unders k cs
  | .fn _ _ cs=>G.unders k cs
  | .sl _ cs=>G.unders k cs
  | .ip cs _=>G.unders k cs
  | .row i _=>decide (i < k)
  | .rs i _ _=>decide (i < k)
  | .rp i _ _=>decide (i < k)
  | .rl i _ _ _=>decide (i < k)
  | .ref i _=>decide (i < k)
  | .when b g => !b || g.under k
def G.unders (k:Nat):List G→Bool
  | []=>true
  | g::gs=>g.under k && G.unders k gs
end
mutual
theorem Zwy:∀ (g:G) (v:Value),g.rep w O m n v→g.under n=true
  | .any,_,_=>rfl
  | .val _,_,_=>rfl
  | .agg cs,v,h=>by simp only [G.rep] at h;obtain ⟨vs,_,hr⟩:=h;exact Zaw cs _ hr
  | .tup cs,v,h=>by simp only [G.rep] at h;obtain ⟨vs,_,hr⟩:=h;exact Zaw cs _ hr
  | .fn f k cs,v,h=>by simp only [G.rep] at h;obtain ⟨vs,_,hr⟩:=h;exact Zaw cs _ hr
  | .sl k cs,v,h=>by simp only [G.rep] at h;obtain ⟨_,_,_,_,vs,hr,_⟩:=h;exact Zaw cs _ hr
  | .ip cs k,v,h=>by simp only [G.rep] at h;obtain ⟨_,_,_,_,_,vs,hr,_⟩:=h;exact Zaw cs _ hr
  | .row i k,v,h=>by simp only [G.rep] at h;simp [G.under,h.1]
  | .rs i off k,v,h=>by simp only [G.rep] at h;simp [G.under,h.1]
  | .rp i k off,v,h=>by simp only [G.rep] at h;simp [G.under,h.1]
  | .rl i k off len,v,h=>by simp only [G.rep] at h;simp [G.under,h.1]
  | .ref i off,v,h=>by simp only [G.rep] at h;simp [G.under,h.1]
  | .when b g,v,h=>by
    simp only [G.rep] at h
    cases b with
    | false=>rfl
    | true=>simpa [G.under] using Zwy g v (h.1 rfl)
theorem Zaw:∀ (gs:List G) (vs:List Value),G.reps w O m n gs vs→G.unders n gs=true
  | [],_,_=>rfl
  | g::gs,vs,h=>by
    simp only [G.reps] at h
    obtain ⟨u,us,_,h1,h2⟩:=h
    simp [G.unders,Zwy g u h1,Zaw gs us h2]
end
def Zlf (T:Kv) (O:Objs) (E:Env):List ResultVar→Option (List G)
  | []=>some []
  | .tmp t::l=>(Zlf T O E l).map fun r=>Jw E.l t::r
  | .cell a t::l=>match Zk9 T O t (Jw E.l a) with
    | some g=>(Zlf T O E l).map fun r=>g::r
    | none=>none
def gone:List G→G
  | [g]=>g
  | gs => .tup gs
def Yea (tmps:Array Value):ResultVar→Sem Value
  | .tmp t=>pure (tmps.getD t undef)
  | .cell a t=>do loadVar t (← asAddr (tmps.getD a undef))
theorem Zoa (hT:Qo P T) (hM:Mem w O m n) {E:Env} {a:Act} (hE:Holds w O m n E a):∀ (rs:List ResultVar) (gs:List G),Zlf T O E rs=some gs →
    ∃ vs:List Value,(rs.mapM (Yea a.tmps)).run P w = .ok vs w∧G.reps w O m n gs vs
  | [],gs,h=>by simp only [Zlf,Option.some.injEq] at h;subst h;exact ⟨[],by simp,rfl⟩
  | .tmp t::l,gs,h=>by
    simp only [Zlf] at h
    cases hq:Zlf T O E l with
    | none=>simp [hq] at h
    | some r =>
      simp only [hq,Option.map_some,Option.some.injEq] at h
      subst h
      obtain ⟨vs,h1,h2⟩:=Zoa hT hM hE l r hq
      refine ⟨a.tmps.getD t undef::vs,?_,⟨_,_,rfl,hE.ev (.tmp t),h2⟩⟩
      rw [List.mapM_cons]
      simp only [Yea,Sem.run_bind,Sem.run_pure,Result.andThen_ok,h1]
  | .cell b t::l,gs,h=>by
    simp only [Zlf] at h
    split at h
    · rename_i g hg
      cases hq:Zlf T O E l with
      | none=>simp [hq] at h
      | some r =>
        simp only [hq,Option.map_some,Option.some.injEq] at h
        subst h
        obtain ⟨vs,h1,h2⟩:=Zoa hT hM hE l r hq
        have hb:(Jw E.l b).rep w O m n (a.tmps.getD b undef):=hE.ev (.tmp b)
        obtain ⟨u,hu,hgu⟩:=Zss hT hM hb hg
        refine ⟨u::vs,?_,⟨_,_,rfl,hgu,h2⟩⟩
        have hrun:(do loadVar t (← asAddr (a.tmps.getD b undef)):Sem Value).run P w = .ok u w:=by
          unfold Zk9 at hg
          split at hg
          · rename_i cs off hc
            obtain ⟨x,o,ws,e,_⟩:=Zph hM hb hc
            rw [e] at hu ⊢
            simpa [Instr.loadAt,Instr.sureAddr,asAddr] using hu
          cases hg
        rw [List.mapM_cons,Sem.run_bind]
        have hrun':(Yea a.tmps (.cell b t)).run P w = .ok u w:=hrun
        rw [hrun']
        simp only [Result.andThen_ok,h1,Sem.run_bind,Sem.run_pure]
    cases h
theorem Zxe (hT:Qo P T) (hM:Mem w O m n) {E:Env} {a:Act} (hE:Holds w O m n E a) {fn:Func} {gs:List G} (h:Zlf T O E fn.results.toList=some gs):∃ v,(results fn a.tmps).run P w = .ok v w∧(gone gs).rep w O m n v:=by
  obtain ⟨vs,h1,h2⟩:=Zoa hT hM hE _ _ h
  have hl:=Ju _ _ h2
  have hrun:(results fn a.tmps).run P w = .ok (if h:vs.toArray.size=1 then vs.toArray[0] else .tuple vs.toArray) w:=by
    have e:results fn a.tmps=(do let vs ← fn.results.mapM (Yea a.tmps);pure (if h:vs.size=1 then vs[0] else .tuple vs)):=by
      unfold results
      congr 1
    rw [e,← Array.toArray_toList (xs:=fn.results),List.mapM_toArray]
    simp only [Sem.run_bind,Sem.run_map,h1,Result.andThen_ok,Sem.run_pure]
  refine ⟨_,hrun,?_⟩
  match gs,vs,h2,hl with
  | [],[],h2,_=>simp [gone,G.rep,G.reps]
  | [g],[v],h2,_ =>
    simp only [G.reps] at h2
    obtain ⟨u,us,e,h3,rfl⟩:=h2
    injection e with e1 e2
    subst e1
    simpa [gone] using h3
  | g1::g2::gs,v1::v2::vs,h2,_ =>
    have:¬ (v1::v2::vs).toArray.size=1:=by simp
    rw [dif_neg this]
    simp only [gone,G.rep]
    exact ⟨_,rfl,by simpa using h2⟩
  | [],_::_,_,hl=>simp at hl
  | _::_,[],_,hl=>simp at hl
  | [_],_::_::_,_,hl=>simp at hl
  | _::_::_,[_],_,hl=>simp at hl
def Ze6 (k:Nat):List G→List (Nat×G)
  | []=>[]
  | g::gs=>(k,g)::Ze6 (k+1) gs
end
end Go.Proofs.Ytibgpnmmgffgeaa
