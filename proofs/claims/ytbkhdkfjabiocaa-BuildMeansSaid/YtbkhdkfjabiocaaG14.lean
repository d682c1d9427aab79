/- Part G14 of the ghost memory: lemmas and contracts used by the proofs of this seat's laws; each theorem bears its own conditions. -/
import Derived.Test.YtbkhdkfjabiocaaG13
namespace Go.Proofs.Ytbkhdkfjabiocaa
open Go.RowKit
set_option linter.unusedVariables false
set_option linter.unusedSimpArgs false
section
variable {P:Program} {T:J9} {w:World} {O:Objs} {m:Hands} {n:Nat}
def PCall (P:Program) (f:FuncId) (gs:List G) (O:Objs) (n:Nat) (K:G→Prop):Prop:=∃ r,GPure P f gs O n r∧K r
def pop (P:Program) (T:J9) (E:Env) (O:Objs) (n:Nat) (op:Op) (K:G→Prop):Prop :=
  match op with
  | .call ⟨.value o,args,_⟩=>match ev E o with
    | .fn f k cs=>wok (args.toList.map (ev E))∧PCall P f (cs.take k++args.toList.map (evS E)++cs.drop k) O n K
    | _=>False
  | op=>match Zbf T E O n op with
    | some (S,g,_,_)=>S∧Qq op=true∧K g
    | none=>False
theorem Zq6 {E:Env} {op:Op} {K:G→Prop} (h:pop P T E O n op K):∃ r,pop P T E O n op (·=r)∧K r:=by
  unfold pop at h ⊢
  split at h
  · split at h
    · obtain ⟨h0,r,h1,h2⟩:=h
      exact ⟨r,⟨h0,r,h1,rfl⟩,h2⟩
    exact h.elim
  split at h
  · rename_i S g _ _ hs
    exact ⟨g,by first | exact ⟨h.1,h.2.1,rfl⟩ | (rw [hs];exact ⟨h.1,h.2.1,rfl⟩),h.2.2⟩
  exact h.elim
theorem Zpk {E E':Env} {op:Op} (hE:∀ x∈op.operands,ev E x=ev E' x):Zbf T E O n op=Zbf T E' O n op:=by
  unfold Zbf
  split
  · rename_i c a b
    rw [hE c (by simp [Op.operands]),hE a (by simp [Op.operands]),hE b (by simp [Op.operands])]
  rename_i op' _
  have e1:Vt T (evS E) O n op=Vt T (evS E') O n op:=Ztm fun x hx=>by unfold evS;rw [hE x hx]
  have e2:op.operands.toList.map (ev E)=op.operands.toList.map (ev E'):=List.map_congr_left fun x hx=>hE x (by simpa using hx)
  rw [e1,e2]
theorem Z5y {E E':Env} {op:Op} {K:G→Prop} (hE:∀ x∈op.operands,ev E x=ev E' x) (h:pop P T E O n op K):pop P T E' O n op K:=by
  unfold pop at h ⊢
  split at h
  · rename_i o args ts
    have ho:ev E o=ev E' o:=hE o (by simp [Op.operands,Call.operands])
    rw [← ho]
    split at h
    case h_2=>exact h.elim
    rename_i f k cs hev
    obtain ⟨h0,r,h1,h2⟩:=h
    have hx:∀ x∈args.toList,ev E x=ev E' x:=fun x hx=>hE x (by simp [Op.operands,Call.operands];exact .inr (by simpa using hx))
    have e:args.toList.map (ev E)=args.toList.map (ev E'):=List.map_congr_left hx
    have e2:args.toList.map (evS E)=args.toList.map (evS E'):=List.map_congr_left fun x hm=>by unfold evS;rw [hx x hm]
    exact ⟨by rw [← e];exact h0,r,by rw [← e2];exact h1,h2⟩
  rw [← Zpk hE];exact h
theorem Zzt {E:Env} {op:Op} {r:G} (h:pop P T E O n op (·=r)):gop P T E O n op fun g O' n'=>g=r∧O'=O∧n'=n:=by
  unfold pop at h
  unfold gop
  split at h
  · split at h
    · rename_i hev
      obtain ⟨h0,r',h1,rfl⟩:=h
      simp only [hev]
      exact ⟨h0,h1⟩
    exact h.elim
  split at h
  · rename_i S g O' n' hs
    obtain ⟨h1,h2⟩:=Zil h.2.1 hs
    split
    · rename_i hne;exact (hne _ _ _ rfl).elim
    rw [hs]
    exact ⟨h.1,h.2.2,h1,h2⟩
  exact h.elim
def Ze8 (ops:List Oper) (o:Oper):List Tmp :=
  (o.op.operands.toList.filterMap fun | .tmp t=>some t | _=>none)++(match o.guard with
    | some (g,_)=>((ops[g]?).bind (·.dst)).toList
    | none=>[])
def Zhs (ops:List Oper) (x y:Oper):Bool :=
  (match x.dst with
   | some d => !(Ze8 ops y).contains d && y.dst != some d
   | none=>true) &&
  (match y.dst with
   | some d => !(Ze8 ops x).contains d
   | none=>true)
def PS (P:Program) (T:J9) (ops:List Oper) (O:Objs) (n:Nat) (E:Env) (o:Oper) (r:G):Prop :=
  (Xv ops E o=some true∧pop P T E O n o.op (·=r))∨(Xv ops E o=some false∧r = .val undef) ∨
  (∃ b g,Xv ops E o=some b∧Qq o.op=true∧(∃ S O' n',Zbf T E O n o.op=some (S,g,O',n')∧(b=true→S))∧r = .when b g)
def EqE (E E':Env):Prop:=E.n=E'.n∧∀ t,Q0 E.l t=Q0 E'.l t
theorem EqE.refl (E:Env):EqE E E:=⟨rfl,fun _=>rfl⟩
theorem EqE.trans {E E' E'':Env} (h:EqE E E') (k:EqE E' E''):EqE E E'':=⟨h.1.trans k.1,fun t=>(h.2 t).trans (k.2 t)⟩
theorem EqE.ev {E E':Env} (h:EqE E E') (x:Operand):ev E x=ev E' x:=by
  cases x with
  | tmp t=>exact h.2 t
  | _=>rfl
theorem Ze7 (E:Env) (d:Option Tmp) (g:G) (t:Nat):Q0 (Yd E d g).l t=if d=some t∧t < E.n then g else Q0 E.l t:=by
  cases d with
  | none=>simp [Yd]
  | some t' =>
    unfold Yd
    simp only
    by_cases h:t' < E.n
    · rw [if_pos h]
      simp only [Q0]
      by_cases e:t=t'
      · subst e;rw [if_pos rfl,if_pos ⟨rfl,h⟩]
      rw [if_neg e,if_neg (fun q=>e (by have:=q.1;injection this with this;exact this.symm))]
    rw [if_neg h,if_neg (fun q=>h (by have:=q.1;injection this with this;rw [this];exact q.2))]
theorem Z4g (E:Env) (d:Option Tmp) (g:G):(Yd E d g).n=E.n:=by
  cases d with
  | none=>rfl
  | some t=>unfold Yd;simp only;split <;> rfl
theorem EqE.put {E E':Env} (h:EqE E E') (d:Option Tmp) (g:G):EqE (Yd E d g) (Yd E' d g):=by
  refine ⟨by rw [Z4g,Z4g];exact h.1,fun t => ?_⟩
  rw [Ze7,Ze7,h.1,h.2 t]
theorem Zq9 {E:Env} {d d':Option Tmp} {r r':G} (h:∀ t,d=some t→d'≠some t):EqE (Yd (Yd E d r) d' r') (Yd (Yd E d' r') d r):=by
  refine ⟨by simp only [Z4g],fun t => ?_⟩
  simp only [Ze7,Z4g]
  by_cases h1:d=some t
  · have h2:=h t h1
    simp [h1,h2]
  by_cases h2:d'=some t
  · simp [h1,h2]
  simp [h1,h2]
theorem Z04 {ops:List Oper} {E E':Env} {o:Oper} (h:∀ g d,o.guard=some g→(ops[g.1]?).bind (·.dst)=some d→Q0 E.l d=Q0 E'.l d):Xv ops E o=Xv ops E' o:=by
  unfold Xv Y9
  split
  · rfl
  rename_i j want hg
  split
  · rfl
  rename_i d hd
  rw [h (j,want) d hg hd]
theorem Zcw {ops:List Oper} {E E':Env} {o:Oper} {r:G} (hd:∀ t∈Ze8 ops o,Q0 E.l t=Q0 E'.l t) (h:PS P T ops O n E o r):PS P T ops O n E' o r:=by
  have hw:Xv ops E' o=Xv ops E o:=by
    refine (Z04 fun g d hg hgd=>hd d ?_).symm
    unfold Ze8
    rw [hg]
    obtain ⟨j,want⟩:=g
    simp only at hgd
    simp [hgd]
  have hop:∀ x∈o.op.operands,ev E x=ev E' x:=fun x hx=>by
    cases x with
    | tmp t =>
      refine hd t ?_
      unfold Ze8
      exact List.mem_append.2 (.inl (List.mem_filterMap.2 ⟨.tmp t,by simpa using hx,rfl⟩))
    | _=>rfl
  rcases h with ⟨h1,h2⟩ | ⟨h1,h2⟩ | ⟨b,g,h1,h2,⟨S,O',n',h3,h4⟩,h5⟩
  · exact .inl ⟨hw.trans h1,Z5y hop h2⟩
  · exact .inr (.inl ⟨hw.trans h1,h2⟩)
  exact .inr (.inr ⟨b,g,hw.trans h1,h2,⟨S,O',n',by rw [← Zpk hop];exact h3,h4⟩,h5⟩)
theorem Z2o {ops:List Oper} {E:Env} {o:Oper} {r r':G} {d:Option Tmp} (hd:∀ t,d=some t→t ∉ Ze8 ops o) (h:PS P T ops O n E o r):PS P T ops O n (Yd E d r') o r :=
  Zcw (fun t ht=>by rw [Ze7,if_neg (fun q=>hd t q.1 ht)]) h
theorem Z0a {ops:List Oper} {E:Env} {o:Oper} {r r':G} {d:Option Tmp} (hd:∀ t,d=some t→t ∉ Ze8 ops o) (h:PS P T ops O n (Yd E d r') o r):PS P T ops O n E o r :=
  Zcw (fun t ht=>by rw [Ze7,if_neg (fun q=>hd t q.1 ht)]) h
def Run (P:Program) (T:J9) (ops:List Oper) (O:Objs) (n:Nat):List Oper→Env→Env→Prop
  | [],E,Ef=>EqE E Ef
  | o::l,E,Ef=>∃ r,PS P T ops O n E o r∧Run P T ops O n l (Yd E o.dst r) Ef
theorem Z8p {ops:List Oper}:∀ (l:List Oper) (E E' Ef:Env),EqE E E'→Run P T ops O n l E Ef→Run P T ops O n l E' Ef
  | [],E,E',Ef,h,hr=>⟨h.1.symm.trans hr.1,fun t=>(h.2 t).symm.trans (hr.2 t)⟩
  | o::l,E,E',Ef,h,hr=>by
    obtain ⟨r,h1,h2⟩:=hr
    exact ⟨r,Zcw (fun t _=>h.2 t) h1,Z8p l _ _ Ef (h.put _ _) h2⟩
theorem Zpp {ops:List Oper} {x y:Oper} (h:Zhs ops x y=true):(∀ t,x.dst=some t→t ∉ Ze8 ops y∧y.dst≠some t)∧(∀ t,y.dst=some t→t ∉ Ze8 ops x):=by
  unfold Zhs at h
  rw [Bool.and_eq_true] at h
  refine ⟨fun t ht => ?_,fun t ht => ?_⟩
  · have:=h.1
    rw [ht] at this
    simp at this
    exact ⟨this.1,this.2⟩
  have:=h.2
  rw [ht] at this
  simpa using this
theorem Zxe {ops:List Oper} {o:Oper}:∀ (R1 R2:List Oper) (E Ef:Env),Run P T ops O n (R1++o::R2) E Ef→(∀ y∈R1,Zhs ops o y=true)→∃ r,PS P T ops O n E o r∧Run P T ops O n (R1++R2) (Yd E o.dst r) Ef
  | [],R2,E,Ef,h,_=>h
  | y::R1,R2,E,Ef,h,hi=>by
    obtain ⟨ry,h1,h2⟩:=h
    obtain ⟨r,h3,h4⟩:=Zxe R1 R2 _ Ef h2 fun z hz=>hi z (.tail _ hz)
    obtain ⟨i1,i2⟩:=Zpp (hi y (.head _))
    have ho:PS P T ops O n E o r:=Z0a i2 h3
    exact ⟨r,ho,ry,Z2o (fun t ht=>(i1 t ht).1) h1,Z8p _ _ _ Ef (Zq9 fun t ht=>fun h=>(i1 t h).2 ht) h4⟩
end
end Go.Proofs.Ytbkhdkfjabiocaa
