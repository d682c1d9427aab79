/- Part H21 of the ghost memory: lemmas and contracts used by the proofs of this seat's laws; each theorem bears its own conditions. -/
import Derived.Test.YtkbcdcffpefklaaGreatH20
namespace Go.Proofs.YtkbcdcffpefklaaGreat
open Go.RowKit
set_option linter.unusedVariables false
set_option linter.unusedSimpArgs false
section
variable {P:Program} {T:K4}
def agree (n0:Nat→Prop) (O O':Objs):Prop:=∀ i,n0 i→O' i=O i
theorem agree.trans {n0:Nat→Prop} {O O' O'':Objs} (h:agree n0 O O') (k:agree n0 O' O''):agree n0 O O'':=fun i hi=>(k i hi).trans (h i hi)
def PA (P:Program) (T:K4) (ops:List Oper) (n0:Nat→Prop) (O:Objs) (E:Env) (o:Oper) (r:G):Prop:=∀ O' n',agree n0 O O'→PS P T ops O' n' E o r
inductive Kd where
  | plain
  | low
  | bar
  | pass
  | shp
  | fill (b:Bool)
def sameS (O O':Objs):Prop:=∀ i o,O i=some o→∃ o',O' i=some o'∧o'.row=o.row∧o'.n=o.n
theorem sameS.refl (O:Objs):sameS O O:=fun _ o h=>⟨o,h,rfl,rfl⟩
theorem sameS.trans {O O' O'':Objs} (h:sameS O O') (k:sameS O' O''):sameS O O'':=fun i o ho=>by
  obtain ⟨o1,a1,a2,a3⟩:=h i o ho
  obtain ⟨o2,b1,b2,b3⟩:=k i o1 a1
  exact ⟨o2,b1,b2.trans a2,b3.trans a3⟩
def PH (P:Program) (T:K4) (ops:List Oper) (O:Objs) (E:Env) (o:Oper) (r:G):Prop:=∀ O' n',sameS O O'→PS P T ops O' n' E o r
def Zn6:Bool→G→Bool
  | false,.ref .. => true
  | true,.rp .. => true
  | _,_=>false
theorem Yad {O O':Objs} {cs:List G} {a:G} {b:Bool} (hf:Zn6 b a=true) (h:Zoc O cs a=some O'):∃ i q q',O i=some q∧q.row=b∧q'.row=q.row∧q'.n=q.n∧O'=O.upd i (some q')∧∀ O2:Objs,O2 i=some q→Zoc O2 cs a=some (O2.upd i (some q')):=by
  cases a with
  | ref i off =>
    cases b with
    | true=>simp [Zn6] at hf
    | false =>
      simp only [Zoc] at h
      cases hi:O i with
      | none=>rw [hi] at h;cases h
      | some q =>
        rw [hi] at h
        simp only at h
        by_cases hr:q.row=true
        · rw [if_pos hr] at h;cases h
        rw [if_neg hr] at h
        obtain ⟨c,hc,e⟩:=Option.map_eq_some_iff.1 h
        exact ⟨i,q,{ q with cells:=c },hi,by simpa using hr,rfl,rfl,e.symm,fun O2 h2=>by simp only [Zoc,h2];rw [if_neg hr,hc];rfl⟩
  | rp i k off =>
    cases b with
    | false=>simp [Zn6] at hf
    | true =>
      simp only [Zoc] at h
      cases hi:O i with
      | none=>rw [hi] at h;cases h
      | some q =>
        rw [hi] at h
        simp only at h
        by_cases hr:q.row=true∧k=q.n
        · rw [if_pos hr] at h
          obtain ⟨c,hc,e⟩:=Option.map_eq_some_iff.1 h
          exact ⟨i,q,{ q with cells:=c },hi,hr.1,rfl,rfl,e.symm,fun O2 h2=>by simp only [Zoc,h2];rw [if_pos hr,hc];rfl⟩
        rw [if_neg hr] at h;cases h
  | _=>cases b <;> simp [Zn6] at hf
def Fills (T:K4) (b:Bool) (E:Env) (O:Objs) (op:Op) (O':Objs):Prop:=∃ t a x,op = .store t a x∧Zn6 b (evS E a)=true∧Zjh T O t (evS E a) (evS E x)=some O'∧wok (op.operands.toList.map (ev E))
theorem Zod {T:K4} {O O':Objs} {t:TypeId} {x a:G} {b:Bool} (hf:Zn6 b a=true) (h:Zjh T O t a x=some O'):∃ i q q',O i=some q∧q.row=b∧q'.row=q.row∧q'.n=q.n∧O'=O.upd i (some q')∧∀ O2:Objs,O2 i=some q→Zjh T O2 t a x=some (O2.upd i (some q')):=by
  unfold Zjh at h ⊢
  split at h
  · split at h
    · rename_i hc
      obtain ⟨i,q,q',h1,h2,h3,h4,h5,h6⟩:=Yad hf h
      exact ⟨i,q,q',h1,h2,h3,h4,h5,fun O2 ho=>by rw [if_pos hc];exact h6 O2 ho⟩
    cases h
  cases h
theorem Yay (O:Objs) {i j:Nat} (a b:Option GObj) (h:i≠j):(O.upd i a).upd j b=(O.upd j b).upd i a:=by
  funext k
  unfold Objs.upd
  by_cases h1:k=i
  · subst h1;rw [if_neg h];simp
  by_cases h2:k=j
  · subst h2;simp [h1]
  simp [h1,h2]
theorem Ybj {O:Objs} {i:Nat} {q q':GObj} (ho:O i=some q) (h1:q'.row=q.row) (h2:q'.n=q.n):sameS O (O.upd i (some q'))∧sameS (O.upd i (some q')) O:=by
  refine ⟨fun j o hj => ?_,fun j o hj => ?_⟩
  · by_cases e:j=i
    · subst e;rw [ho] at hj;injection hj with hj;subst hj;exact ⟨q',Ye _ _ _,h1,h2⟩
    exact ⟨o,by rw [Yz _ _ e];exact hj,rfl,rfl⟩
  by_cases e:j=i
  · subst e;rw [Ye] at hj;injection hj with hj;subst hj;exact ⟨q,ho,h1.symm,h2.symm⟩
  rw [Yz _ _ e] at hj;exact ⟨o,hj,rfl,rfl⟩
theorem Fills.same {b:Bool} {E:Env} {O O':Objs} {op:Op} (h:Fills T b E O op O'):sameS O O'∧sameS O' O:=by
  obtain ⟨t,a,x,_,hf,hs,_⟩:=h
  obtain ⟨i,q,q',h1,h2,h3,h4,h5,_⟩:=Zod hf hs
  subst h5
  exact Ybj h1 h3 h4
theorem Fills.eq {b:Bool} {E E':Env} {O O':Objs} {op:Op} (hE:∀ x∈op.operands,ev E x=ev E' x) (h:Fills T b E O op O'):Fills T b E' O op O':=by
  obtain ⟨t,a,x,e,hf,hs,hw⟩:=h
  subst e
  have e1:evS E a=evS E' a:=by unfold evS;rw [hE a (by simp [Op.operands])]
  have e2:evS E x=evS E' x:=by unfold evS;rw [hE x (by simp [Op.operands])]
  refine ⟨t,a,x,rfl,by rw [← e1];exact hf,by rw [← e1,← e2];exact hs,?_⟩
  rw [show (Op.store t a x).operands.toList.map (ev E')=(Op.store t a x).operands.toList.map (ev E) from List.map_congr_left fun y hy=>(hE y (by simpa using hy)).symm]
  exact hw
theorem Fills.swap {b c:Bool} (hbc:(b != c)=true) {E E':Env} {O O1 O2:Objs} {op op':Op} (h:Fills T c E O op O1) (k:Fills T b E' O1 op' O2):∃ O3,Fills T b E' O op' O3∧Fills T c E O3 op O2:=by
  obtain ⟨t,a,x,e,hf,hs,hw⟩:=h
  obtain ⟨t',a',x',e',hf',hs',hw'⟩:=k
  obtain ⟨i,q,q',h1,h2,h3,h4,h5,h6⟩:=Zod hf hs
  obtain ⟨j,p,p',k1,k2,k3,k4,k5,k6⟩:=Zod hf' hs'
  subst h5 k5
  have hij:i≠j:=fun e=>by
    subst e
    rw [Ye] at k1
    injection k1 with k1
    subst k1
    rw [h3,h2] at k2
    subst k2
    cases c <;> simp at hbc
  rw [Yz _ _ (Ne.symm hij)] at k1
  refine ⟨O.upd j (some p'),⟨t',a',x',e',hf',k6 O k1,hw'⟩,⟨t,a,x,e,hf,?_,hw⟩⟩
  rw [h6 _ (by rw [Yz _ _ hij];exact h1),Yay _ _ _ hij]
theorem Fills.gop {b:Bool} {E:Env} {O O':Objs} {n:Nat} {op:Op} {K:G→Objs→Nat→Prop} (h:Fills T b E O op O') (hk:K (.val undef) O' n):gop P T E O n op K:=by
  obtain ⟨t,a,x,e,hf,hs,hw⟩:=h
  subst e
  unfold Go.Proofs.YtkbcdcffpefklaaGreat.gop Zfn Zat
  simp only [hs,Option.map_some]
  exact ⟨⟨hw,trivial⟩,hk⟩
def Zhq (ks:List Kd) (i:Nat):Kd:=ks.getD i .plain
def Znw (P:Program) (T:K4) (ops:List Oper) (n0:Nat→Prop) (k:Kd) (o:Oper) (E:Env) (O:Objs) (n:Nat) (K:GK):Prop :=
  match k with
  | .plain=>∃ r,PS P T ops O n E o r∧K (Yp E o.dst r) O n
  | .low=>∃ r,PA P T ops n0 O E o r∧K (Yp E o.dst r) O n
  | .bar=>Qi ops E o=some true∧gop P T E O n o.op fun g O' n'=>K (Yp E o.dst g) O' n'
  | .pass=>Qi ops E o=some true∧gop P T E O n o.op fun g O' n'=>agree n0 O O'∧K (Yp E o.dst g) O' n'
  | .shp=>∃ r,PH P T ops O E o r∧K (Yp E o.dst r) O n
  | .fill b=>Qi ops E o=some true∧∃ O',Fills T b E O o.op O'∧K (Yp E o.dst (.val undef)) O' n
theorem Zj6 {ops:List Oper} {n0:Nat→Prop} {k:Kd} {o:Oper} {E:Env} {O:Objs} {n:Nat} {K K':GK} (h:Znw P T ops n0 k o E O n K) (hk:∀ E O n,K E O n→K' E O n):Znw P T ops n0 k o E O n K':=by
  cases k with
  | plain=>obtain ⟨r,h1,h2⟩:=h;exact ⟨r,h1,hk _ _ _ h2⟩
  | low=>obtain ⟨r,h1,h2⟩:=h;exact ⟨r,h1,hk _ _ _ h2⟩
  | bar=>exact ⟨h.1,V3 h.2 fun _ _ _=>hk _ _ _⟩
  | pass=>exact ⟨h.1,V3 h.2 fun _ _ _ q=>⟨q.1,hk _ _ _ q.2⟩⟩
  | shp=>obtain ⟨r,h1,h2⟩:=h;exact ⟨r,h1,hk _ _ _ h2⟩
  | fill b=>obtain ⟨h0,O',h1,h2⟩:=h;exact ⟨h0,O',h1,hk _ _ _ h2⟩
theorem Zyn {ops:List Oper} {O:Objs} {E E':Env} {o:Oper} {r:G} (hd:∀ t∈Zh9 ops o,Js E.l t=Js E'.l t) (h:PH P T ops O E o r):PH P T ops O E' o r:=fun O' n' ha=>Zgh hd (h O' n' ha)
theorem Zym {ops:List Oper} {n0:Nat→Prop} {O:Objs} {E E':Env} {o:Oper} {r:G} (hd:∀ t∈Zh9 ops o,Js E.l t=Js E'.l t) (h:PA P T ops n0 O E o r):PA P T ops n0 O E' o r:=fun O' n' ha=>Zgh hd (h O' n' ha)
theorem Yc4 {ops:List Oper} {n0:Nat→Prop} {k:Kd} {o:Oper} {E E':Env} {O:Objs} {n:Nat} {K:GK} (hK:EqK K) (hE:EqE E E') (h:Znw P T ops n0 k o E O n K):Znw P T ops n0 k o E' O n K:=by
  obtain ⟨hw,hx⟩:=Zfo (ops:=ops) (o:=o) (E:=E) (E':=E') fun t _=>hE.2 t
  cases k with
  | plain=>obtain ⟨r,h1,h2⟩:=h;exact ⟨r,Zgh (fun t _=>hE.2 t) h1,hK _ _ _ _ (hE.put _ _) h2⟩
  | low=>obtain ⟨r,h1,h2⟩:=h;exact ⟨r,Zym (fun t _=>hE.2 t) h1,hK _ _ _ _ (hE.put _ _) h2⟩
  | bar=>exact ⟨hw.trans h.1,V3 (Zhp hx h.2) fun g O' n' hk=>hK _ _ _ _ (hE.put _ _) hk⟩
  | pass=>exact ⟨hw.trans h.1,V3 (Zhp hx h.2) fun g O' n' hk=>⟨hk.1,hK _ _ _ _ (hE.put _ _) hk.2⟩⟩
  | shp=>obtain ⟨r,h1,h2⟩:=h;exact ⟨r,Zyn (fun t _=>hE.2 t) h1,hK _ _ _ _ (hE.put _ _) h2⟩
  | fill b=>obtain ⟨h0,O',h1,h2⟩:=h;exact ⟨hw.trans h0,O',h1.eq hx,hK _ _ _ _ (hE.put _ _) h2⟩
def Zha (ki kj:Kd) (y:Oper):Bool:=match ki,kj with
  | .plain,.plain=>true
  | .plain,.low=>true
  | .low,.plain=>true
  | .low,.low=>true
  | .pass,.low=>true
  | .pass,.plain=>Zgo y
  | .bar,.plain=>Zgo y
  | .plain,.shp=>true
  | .low,.shp=>true
  | .shp,.plain=>true
  | .shp,.low=>true
  | .shp,.shp=>true
  | .fill _,.shp=>true
  | .shp,.fill _=>true
  | .fill b,.fill c=>b != c
  | .fill _,.plain=>Zgo y
  | _,_=>false
theorem Z7e {ops:List Oper} {n0:Nat→Prop} {ki kj:Kd} {o y:Oper} {E:Env} {O:Objs} {n:Nat} {K:GK} (hK:EqK K) (hi:Zll ops o y=true) (hb:Zha ki kj y=true)
    (h:Znw P T ops n0 kj y E O n fun E1 O1 n1=>Znw P T ops n0 ki o E1 O1 n1 K):Znw P T ops n0 ki o E O n fun E1 O1 n1=>Znw P T ops n0 kj y E1 O1 n1 K:=by
  obtain ⟨s1,s2⟩:=Zre hi
  have hlk:∀ r,∀ t∈Zh9 ops o,Js (Yp E y.dst r).l t=Js E.l t:=fun r t ht=>by rw [Zh8,if_neg (fun q=>s2 t q.1 ht)]
  have hly:∀ r,∀ t∈Zh9 ops y,Js (Yp E o.dst r).l t=Js E.l t:=fun r t ht=>by rw [Zh8,if_neg (fun q=>(s1 t q.1).1 ht)]
  have hc:∀ r r',EqE (Yp (Yp E y.dst r) o.dst r') (Yp (Yp E o.dst r') y.dst r):=fun r r'=>Zs6 fun t ht=>fun q=>(s1 t q).2 ht
  have hlo:∀ r,∀ x∈o.op.operands,ev (Yp E y.dst r) x=ev E x:=fun r=>(Zfo (hlk r)).2
  have hlo':∀ r,∀ x∈y.op.operands,ev E x=ev (Yp E o.dst r) x:=fun r=>(Zfo (E:=E) (E':=Yp E o.dst r) fun t ht=>(hly r t ht).symm).2
  have hwo:∀ r,Qi ops E o=Qi ops (Yp E y.dst r) o:=fun r=>(Zfo (hlk r)).1
  have hwy:∀ r,Qi ops (Yp E o.dst r) y=Qi ops E y:=fun r=>(Zfo (E:=E) (E':=Yp E o.dst r) fun t ht=>(hly r t ht).symm).1
  cases kj with
  | bar=>cases ki <;> simp [Zha] at hb
  | pass=>cases ki <;> simp [Zha] at hb
  | shp =>
    obtain ⟨r,h1,h2⟩:=h
    cases ki with
    | bar=>simp [Zha] at hb
    | pass=>simp [Zha] at hb
    | plain =>
      obtain ⟨r',h3,h4⟩:=h2
      exact ⟨r',Zgh (hlk r) h3,r,Zyn (fun t ht=>(hly r' t ht).symm) h1,hK _ _ _ _ (hc r r') h4⟩
    | low =>
      obtain ⟨r',h3,h4⟩:=h2
      exact ⟨r',Zym (hlk r) h3,r,Zyn (fun t ht=>(hly r' t ht).symm) h1,hK _ _ _ _ (hc r r') h4⟩
    | shp =>
      obtain ⟨r',h3,h4⟩:=h2
      exact ⟨r',Zyn (hlk r) h3,r,Zyn (fun t ht=>(hly r' t ht).symm) h1,hK _ _ _ _ (hc r r') h4⟩
    | fill b =>
      obtain ⟨h0,O',h3,h4⟩:=h2
      have h3':=h3.eq (hlo r)
      exact ⟨(hwo r).trans h0,O',h3',r,fun O2 n2 ha=>Zgh (fun t ht=>(hly _ t ht).symm) (h1 O2 n2 (h3'.same.1.trans ha)),hK _ _ _ _ (hc r _) h4⟩
  | fill c =>
    obtain ⟨h0,O1,h1,h2⟩:=h
    cases ki with
    | plain=>simp [Zha] at hb
    | low=>simp [Zha] at hb
    | bar=>simp [Zha] at hb
    | pass=>simp [Zha] at hb
    | shp =>
      obtain ⟨r,h3,h4⟩:=h2
      exact ⟨r,fun O2 n2 ha=>Zgh (hlk _) (h3 O2 n2 (h1.same.2.trans ha)),(hwy r).trans h0,O1,h1.eq (hlo' r),hK _ _ _ _ (hc _ r) h4⟩
    | fill b =>
      obtain ⟨g0,O2,h3,h4⟩:=h2
      obtain ⟨O3,k1,k2⟩:=Fills.swap (show (b != c)=true from hb) h1 (h3.eq (hlo _))
      exact ⟨(hwo _).trans g0,O3,k1,(hwy _).trans h0,O2,k2.eq (hlo' _),hK _ _ _ _ (hc _ _) h4⟩
  | plain =>
    obtain ⟨r,h1,h2⟩:=h
    cases ki with
    | plain =>
      obtain ⟨r',h3,h4⟩:=h2
      exact ⟨r',Zgh (hlk r) h3,r,Zgh (fun t ht=>(hly r' t ht).symm) h1,hK _ _ _ _ (hc r r') h4⟩
    | low =>
      obtain ⟨r',h3,h4⟩:=h2
      exact ⟨r',Zym (hlk r) h3,r,Zgh (fun t ht=>(hly r' t ht).symm) h1,hK _ _ _ _ (hc r r') h4⟩
    | shp =>
      obtain ⟨r',h3,h4⟩:=h2
      exact ⟨r',Zyn (hlk r) h3,r,Zgh (fun t ht=>(hly r' t ht).symm) h1,hK _ _ _ _ (hc r r') h4⟩
    | fill b =>
      have hf:Zgo y=true:=hb
      obtain ⟨h0,O',h3,h4⟩:=h2
      exact ⟨(hwo r).trans h0,O',h3.eq (hlo r),r,Zv8 hf (Zgh (fun t ht=>(hly _ t ht).symm) h1),hK _ _ _ _ (hc r _) h4⟩
    | bar =>
      have hf:Zgo y=true:=hb
      obtain ⟨hw,hx⟩:=Zfo (hlk r)
      exact ⟨hw.trans h2.1,V3 (Zhp hx h2.2) fun g O' n' hk=>⟨r,Zv8 hf (Zgh (fun t ht=>(hly g t ht).symm) h1),hK _ _ _ _ (hc r g) hk⟩⟩
    | pass =>
      have hf:Zgo y=true:=hb
      obtain ⟨hw,hx⟩:=Zfo (hlk r)
      exact ⟨hw.trans h2.1,V3 (Zhp hx h2.2) fun g O' n' hk=>⟨hk.1,r,Zv8 hf (Zgh (fun t ht=>(hly g t ht).symm) h1),hK _ _ _ _ (hc r g) hk.2⟩⟩
  | low =>
    obtain ⟨r,h1,h2⟩:=h
    cases ki with
    | bar=>simp [Zha] at hb
    | fill b=>simp [Zha] at hb
    | shp =>
      obtain ⟨r',h3,h4⟩:=h2
      exact ⟨r',Zyn (hlk r) h3,r,Zym (fun t ht=>(hly r' t ht).symm) h1,hK _ _ _ _ (hc r r') h4⟩
    | plain =>
      obtain ⟨r',h3,h4⟩:=h2
      exact ⟨r',Zgh (hlk r) h3,r,Zym (fun t ht=>(hly r' t ht).symm) h1,hK _ _ _ _ (hc r r') h4⟩
    | low =>
      obtain ⟨r',h3,h4⟩:=h2
      exact ⟨r',Zym (hlk r) h3,r,Zym (fun t ht=>(hly r' t ht).symm) h1,hK _ _ _ _ (hc r r') h4⟩
    | pass =>
      obtain ⟨hw,hx⟩:=Zfo (hlk r)
      exact ⟨hw.trans h2.1,V3 (Zhp hx h2.2) fun g O' n' hk=>⟨hk.1,r,fun O2 n2 ha=>Zgh (fun t ht=>(hly g t ht).symm) (h1 O2 n2 (hk.1.trans ha)),hK _ _ _ _ (hc r g) hk.2⟩⟩
def Zg7 (P:Program) (T:K4) (ops:List Oper) (ks:List Kd) (n0:Nat→Prop):List Nat→Env→Objs→Nat→GK→Prop
  | [],E,O,n,K=>K E O n
  | i::l,E,O,n,K=>match ops[i]? with
    | none=>Zg7 P T ops ks n0 l E O n K
    | some o=>Znw P T ops n0 (Zhq ks i) o E O n fun E O n=>Zg7 P T ops ks n0 l E O n K
theorem Zhu {ops:List Oper} {ks:List Kd} {n0:Nat→Prop} {i:Nat} {o:Oper} {l:List Nat} {E:Env} {O:Objs} {n:Nat} {K:GK} (ho:ops[i]? = some o):Zg7 P T ops ks n0 (i::l) E O n K=Znw P T ops n0 (Zhq ks i) o E O n fun E O n=>Zg7 P T ops ks n0 l E O n K:=by
  simp only [Zg7,ho]
theorem Zov {ops:List Oper} {ks:List Kd} {n0:Nat→Prop} {K:GK} (hK:EqK K):∀ l:List Nat,EqK fun E O n=>Zg7 P T ops ks n0 l E O n K
  | []=>hK
  | i::l=>fun E E' O n hE h=>by
    cases ho:ops[i]? with
    | none=>simp only [Zg7,ho] at h ⊢;exact Zov hK l E E' O n hE h
    | some o =>
      simp only [Zhu ho] at h ⊢
      exact Yc4 (Zov hK l) hE h
theorem Zhw {ops:List Oper} {ks:List Kd} {n0:Nat→Prop} {K K':GK} (hk:∀ E O n,K E O n→K' E O n):∀ (l:List Nat) (E:Env) (O:Objs) (n:Nat),Zg7 P T ops ks n0 l E O n K→Zg7 P T ops ks n0 l E O n K'
  | [],E,O,n,h=>hk _ _ _ h
  | i::l,E,O,n,h=>by
    cases ho:ops[i]? with
    | none=>simp only [Zg7,ho] at h ⊢;exact Zhw hk l E O n h
    | some o =>
      rw [Zhu ho] at h ⊢
      exact Zj6 h fun E O n q=>Zhw hk l E O n q
theorem Zkz {ops:List Oper} {ks:List Kd} {n0:Nat→Prop} {K:GK} (L2:List Nat):∀ (l:List Nat) (E:Env) (O:Objs) (n:Nat),Zg7 P T ops ks n0 l E O n (fun E O n=>Zg7 P T ops ks n0 L2 E O n K)→Zg7 P T ops ks n0 (l++L2) E O n K
  | [],E,O,n,h=>h
  | i::l,E,O,n,h=>by
    rw [List.cons_append]
    cases ho:ops[i]? with
    | none=>simp only [Zg7,ho] at h ⊢;exact Zkz L2 l E O n h
    | some o =>
      rw [Zhu ho] at h ⊢
      exact Zj6 h fun E O n q=>Zkz L2 l E O n q
theorem Zhv {ops:List Oper} {ks:List Kd} {n0:Nat→Prop} {K:GK} (hK:EqK K) {i:Nat} {o:Oper} (ho:ops[i]? = some o) (L2:List Nat):∀ (L1:List Nat) (E:Env) (O:Objs) (n:Nat),Zg7 P T ops ks n0 (L1++i::L2) E O n K →
    (∀ j∈L1,∀ y,ops[j]? = some y→Zll ops o y=true∧Zha (Zhq ks i) (Zhq ks j) y=true)→Znw P T ops n0 (Zhq ks i) o E O n fun E O n=>Zg7 P T ops ks n0 (L1++L2) E O n K
  | [],E,O,n,h,_=>by rw [List.nil_append,Zhu ho] at h;exact h
  | j::L1,E,O,n,h,hc=>by
    rw [List.cons_append] at h
    cases hj:ops[j]? with
    | none =>
      simp only [Zg7,hj] at h
      refine Zj6 (Zhv hK ho L2 L1 E O n h fun k hk=>hc k (.tail _ hk)) fun E O n hr => ?_
      rw [List.cons_append]
      simp only [Zg7,hj]
      exact hr
    | some y =>
      rw [Zhu hj] at h
      have h':=Zj6 h fun E O n hr=>Zhv hK ho L2 L1 E O n hr fun k hk=>hc k (.tail _ hk)
      obtain ⟨c1,c2⟩:=hc j (.head _) y hj
      refine Zj6 (Z7e (Zov hK (L1++L2)) c1 c2 h') fun E O n hr => ?_
      rw [List.cons_append,Zhu hj]
      exact hr
theorem Zm0 (hT:Qt P T) {ops:List Oper} {n0:Nat→Prop} {i:Nat} {k:Kd} {o:Oper} {w:World} {O:Objs} {m:Hands} {n:Nat} {E:Env} {a:Act} {R:GK} {Q:Exit→Act→World→Prop} {Kn:Act→World→Prop} (ho:ops[i]? = some o) (hM:Mem w O m n) (hE:Holds w O m n E a)
    (h:Znw P T ops n0 k o E O n R) (next:∀ w' O' m' n' E' a',R E' O' n'→Mem w' O' m' n'→Holds w' O' m' n' E' a'→Ext w O m n w' O' m' n'→Kn a' w'):wpOp P ops.toArray Q i Kn a w:=by
  have hoA:ops.toArray[i]? = some o:=by simpa using ho
  unfold wpOp
  rw [hoA]
  simp only
  have bars:Qi ops E o=some true∧gop P T E O n o.op (fun g O' n'=>R (Yp E o.dst g) O' n')→if Region.wanted o (yielded ops.toArray a.tmps)=true then o.wp P a w Kn Q∨(o.asks P a w∧LetsOut Q) else Kn (a.put o.dst undef) w:=fun ⟨hw,hgop⟩=>by
    rw [Qy hE hw,if_pos rfl]
    exact .inl (Zi9 hT hM hE hgop fun v g w' O' m' n' hr hM' hX hg=>next _ _ _ _ _ _ hr hM' ((hE.ext hX).put _ hg) hX)
  have pures:(∃ r,PS P T ops O n E o r∧R (Yp E o.dst r) O n)→if Region.wanted o (yielded ops.toArray a.tmps)=true then o.wp P a w Kn Q∨(o.asks P a w∧LetsOut Q) else Kn (a.put o.dst undef) w:=fun ⟨r,hps,hrun'⟩=>by
    rcases hps with ⟨hw,hpop⟩ | ⟨hw,rfl⟩ | ⟨b,g,hw,hcalm,⟨S,O2,n2,hst,hSS⟩,rfl⟩
    · rw [Qy hE hw,if_pos rfl]
      refine .inl (Zi9 hT hM hE (Z28 hpop) fun v g w' O' m' n' ⟨e1,e2,e3⟩ hM' hX hg => ?_)
      subst e1 e2 e3
      exact next _ _ _ _ _ _ hrun' hM' ((hE.ext hX).put _ hg) hX
    · rw [Qy hE hw,if_neg Bool.false_ne_true]
      exact next _ _ _ _ _ _ hrun' hM (hE.put (g := .val undef) (v:=undef) _ (by simp [G.rep])) (Ext.refl _ _ _ _)
    obtain ⟨e1,e2⟩:=Zle hcalm hst
    subst e1 e2
    rw [Qy hE hw]
    cases b with
    | true =>
      rw [if_pos rfl]
      refine .inl ?_
      obtain ⟨v,nx,w',m',h1,h2,h3,h4,h5⟩:=Zjd hT hM hE hst (hSS rfl)
      have hg:(G.when true g).rep w' O2 m' n2 v:=by simp only [G.rep];exact ⟨fun _=>h5,fun h=>by cases h⟩
      have fin:=next _ _ _ _ _ _ hrun' h3 ((hE.ext h4).put o.dst hg) h4
      unfold Oper.wp
      rw [h1]
      rcases h2 with rfl | ⟨rfl,rfl⟩ <;> exact fin
    | false =>
      rw [if_neg Bool.false_ne_true]
      exact next _ _ _ _ _ _ hrun' hM (hE.put (g := .when false g) (v:=undef) _ (by simp [G.rep,undef])) (Ext.refl _ _ _ _)
  cases k with
  | plain=>exact pures h
  | low =>
    obtain ⟨r,h1,h2⟩:=h
    exact pures ⟨r,h1 O n (fun _ _=>rfl),h2⟩
  | bar=>exact bars h
  | pass=>exact bars ⟨h.1,V3 h.2 fun _ _ _ q=>q.2⟩
  | shp =>
    obtain ⟨r,h1,h2⟩:=h
    exact pures ⟨r,h1 O n (sameS.refl O),h2⟩
  | fill b =>
    obtain ⟨h0,O',h1,h2⟩:=h
    exact bars ⟨h0,h1.gop h2⟩
end
section
variable {P:Program} {T:K4}
def Zyr (ops:List Oper):Bool:=(List.range ops.length).all fun i=>match ops[i]? with
  | none=>true
  | some o=>o.after.toList.all fun e => !Region.binds .any e || decide (e.on < i)
theorem Z0v {ops:List Oper} (h:Zyr ops=true):∀ i o,ops[i]? = some o→∀ e∈o.after.toList,Region.binds .any e=true→e.on < i:=fun i o ho e he hbd=>by
  have hi:i < ops.length:=by
    rcases Nat.lt_or_ge i ops.length with h | h
    · exact h
    rw [List.getElem?_eq_none h] at ho;cases ho
  have:=List.all_eq_true.1 h i (List.mem_range.2 hi)
  simp only [ho,List.all_eq_true] at this
  have h2:=this e he
  rw [hbd] at h2
  simpa using h2
def Ziq (ops:List Oper) (ks:List Kd) (j i:Nat):Bool:=match ops[i]?,ops[j]? with
  | some o,some y=>(Zll ops o y && Zha (Zhq ks i) (Zhq ks j) y) || ((Zgg ops []).getD i []).contains j
  | _,_=>true
theorem Z1d {ops:List Oper} {listed:Array Bool} {R:List Nat} (hb:∀ i o,ops[i]? = some o→∀ e∈o.after.toList,Region.binds .any e=true→e.on < i) (hsz:listed.size=ops.length) (hmem:∀ i,i∈R↔i < ops.length∧listed.getD i true=false) (hnil:Region.ready .any ops.toArray listed=[]):R=[]:=by
  have key:∀ N i,i < N→i∈R→False:=fun N=>by
    induction N with
    | zero=>intro i hi;omega
    | succ N ih =>
      intro i hi hiR
      obtain ⟨h1,h2⟩:=(hmem i).1 hiR
      have:i∈Region.ready .any ops.toArray listed:=by
        unfold Region.ready
        refine List.mem_filter.2 ⟨by simpa using h1,?_⟩
        have ho:ops.toArray[i]? = some ops[i]:=by simp [h1]
        rw [h2,ho]
        simp only [Bool.not_false,Option.map_some,Option.getD_some,Bool.true_and,← Array.all_toList,List.all_eq_true]
        intro e he
        by_cases hbd:Region.binds .any e=true
        · have hlt:=hb i _ (List.getElem?_eq_getElem h1) e he hbd
          have hnot:e.on ∉ R:=fun h=>ih e.on (by omega) h
          have:listed.getD e.on true=true:=by
            cases hq:listed.getD e.on true with
            | true=>rfl
            | false=>exact absurd ((hmem e.on).2 ⟨by omega,hq⟩) hnot
          have hin:e.on < listed.size:=by omega
          have:listed.getD e.on false=true:=by simpa [Array.getD,hin] using this
          simp [this]
        simp [hbd]
      rw [hnil] at this
      cases this
  cases R with
  | nil=>rfl
  | cons i R'=>exact (key (i+1) i (Nat.lt_succ_self _) (.head _)).elim
theorem Zz1 {ops:List Oper} {listed:Array Bool} {i:Nat} (hb:∀ i o,ops[i]? = some o→∀ e∈o.after.toList,Region.binds .any e=true→e.on < i) (hsz:listed.size=ops.length)
    (hdown:∀ k o,ops[k]? = some o→listed.getD k true=true→∀ e∈o.after.toList,Region.binds .any e=true→listed.getD e.on false=true) (hi:i∈Region.ready .any ops.toArray listed) :
    ∃ o,ops[i]? = some o∧i < ops.length∧listed.getD i true=false∧(∀ e∈o.after.toList,Region.binds .any e=true→listed.getD e.on false=true)∧∀ j,listed.getD j true=false→j < ops.length→j ∉ (Zgg ops []).getD i []:=by
  unfold Region.ready at hi
  obtain ⟨hi1,hi2⟩:=List.mem_filter.1 hi
  have hil:i < ops.length:=by simpa using hi1
  have ho:ops[i]? = some ops[i]:=List.getElem?_eq_getElem hil
  have hoA:ops.toArray[i]? = some ops[i]:=by simp [hil]
  rw [Bool.and_eq_true,hoA] at hi2
  have hun:listed.getD i true=false:=by simpa using hi2.1
  have haft:∀ e∈(ops[i]).after.toList,Region.binds .any e=true→listed.getD e.on false=true:=fun e he hbd=>by
    have:=hi2.2
    simp only [Option.map_some,Option.getD_some,← Array.all_toList,List.all_eq_true] at this
    have:=this e he
    rw [hbd] at this
    simpa using this
  have hclos:∀ N k o,k≤N→ops[k]? = some o→(∀ e∈o.after.toList,Region.binds .any e=true→listed.getD e.on false=true)→∀ j∈(Zgg ops []).getD k [],listed.getD j false=true:=by
    intro N
    induction N with
    | zero =>
      intro k o hk hko hka j hj
      have hkl:k < ops.length:=by
        rcases Nat.lt_or_ge k ops.length with h | h
        · exact h
        rw [List.getElem?_eq_none h] at hko;cases hko
      obtain ⟨e,he,hbd,hj⟩:=Zjc ops hb ops [] [] rfl rfl k o hko j hj (by simpa using hkl) (Nat.zero_le _)
      have:=hb k o hko e he hbd
      omega
    | succ N ihN =>
      intro k o hk hko hka j hj
      have hkl:k < ops.length:=by
        rcases Nat.lt_or_ge k ops.length with h | h
        · exact h
        rw [List.getElem?_eq_none h] at hko;cases hko
      obtain ⟨e,he,hbd,hj⟩:=Zjc ops hb ops [] [] rfl rfl k o hko j hj (by simpa using hkl) (Nat.zero_le _)
      have hlt:=hb k o hko e he hbd
      rcases hj with rfl | hj
      · exact hka e he hbd
      have hel:e.on < ops.length:=by omega
      have hin:e.on < listed.size:=by omega
      refine ihN e.on _ (by omega) (List.getElem?_eq_getElem hel) (fun e' he' hbd'=>hdown e.on _ (List.getElem?_eq_getElem hel) ?_ e' he' hbd') j hj
      have:=hka e he hbd
      simpa [Array.getD,hin] using this
  refine ⟨_,ho,hil,hun,haft,fun j hul hjl h => ?_⟩
  have:=hclos i i _ (Nat.le_refl _) ho haft j h
  have hin:j < listed.size:=by omega
  have h3:listed.getD j true=true:=by simpa [Array.getD,hin] using this
  rw [hul] at h3;cases h3
theorem Zr5 {ops:List Oper} {listed:Array Bool} {i:Nat} {oi:Oper} (hin:i < listed.size) (ho:ops[i]? = some oi) (haft:∀ e∈oi.after.toList,Region.binds .any e=true→listed.getD e.on false=true)
    (hdown:∀ k o,ops[k]? = some o→listed.getD k true=true→∀ e∈o.after.toList,Region.binds .any e=true→listed.getD e.on false=true) :
    ∀ k o,ops[k]? = some o→(listed.setIfInBounds i true).getD k true=true→∀ e∈o.after.toList,Region.binds .any e=true→(listed.setIfInBounds i true).getD e.on false=true:=fun k o hk hkl e he hbd=>by
  have up:∀ q,listed.getD q false=true→(listed.setIfInBounds i true).getD q false=true:=fun q hq=>by
    by_cases hqi:q=i
    · subst hqi;simp [Array.getD,hin]
    simpa [Array.getD_eq_getD_getElem?,Array.getElem?_setIfInBounds_ne (Ne.symm hqi)] using hq
  by_cases hki:k=i
  · subst hki
    rw [ho] at hk
    injection hk with hk
    subst hk
    exact up _ (haft e he hbd)
  refine up _ (hdown k o hk ?_ e he hbd)
  simpa [Array.getD_eq_getD_getElem?,Array.getElem?_setIfInBounds_ne (Ne.symm hki)] using hkl
theorem Zw3 {ops:List Oper} {listed:Array Bool} {i:Nat} {R1 R2:List Nat} (hin:i < listed.size) (hmem:∀ k,k∈R1++i::R2↔k < ops.length∧listed.getD k true=false) (hnd:(R1++i::R2).Nodup) :
    ∀ k,k∈R1++R2↔k < ops.length∧(listed.setIfInBounds i true).getD k true=false:=fun k=>by
  have hni:i ∉ R1++R2:=by
    have h1:=List.nodup_append.1 hnd
    have h2:=List.nodup_cons.1 h1.2.1
    intro h
    rcases List.mem_append.1 h with h | h
    · exact h1.2.2 i h i (.head _) rfl
    exact h2.1 h
  by_cases hki:k=i
  · subst hki
    refine ⟨fun h=>absurd h hni,fun h => ?_⟩
    have:=h.2
    simp [Array.getD,hin] at this
  have e:(listed.setIfInBounds i true).getD k true=listed.getD k true:=by simp [Array.getD_eq_getD_getElem?,Array.getElem?_setIfInBounds_ne (Ne.symm hki)]
  rw [e,← hmem k]
  simp [hki]
theorem Zra (hT:Qt P T) {ops:List Oper} {ks:List Kd} {n0:Nat→Prop} (hb:∀ i o,ops[i]? = some o→∀ e∈o.after.toList,Region.binds .any e=true→e.on < i) {Q:Exit→Act→World→Prop} {K:GK} (hK:EqK K) :
    ∀ (fuel:Nat) (listed:Array Bool) (R:List Nat) (w:World) (O:Objs) (m:Hands) (n:Nat) (E:Env) (a:Act),listed.size=ops.length→(∀ i,i∈R↔i < ops.length∧listed.getD i true=false)→R.Nodup→R.Pairwise (fun j i=>Ziq ops ks j i=true)→R.length≤fuel →
    (∀ i o,ops[i]? = some o→listed.getD i true=true→∀ e∈o.after.toList,Region.binds .any e=true→listed.getD e.on false=true) →
    Zg7 P T ops ks n0 R E O n K→Mem w O m n→Holds w O m n E a →
    (∀ w' O' m' n' E' a',K E' O' n'→Mem w' O' m' n'→Holds w' O' m' n' E' a'→Ext w O m n w' O' m' n'→Q .normal a' w')→wpAny P .any ops.toArray Q fuel listed a w:=by
  intro fuel
  induction fuel with
  | zero =>
    intro listed R w O m n E a hsz hmem hnd hpw hlen hdown hrun hM hE hQ
    obtain rfl:R=[]:=List.eq_nil_of_length_eq_zero (by omega)
    refine ⟨?_,hQ w O m n E a hrun hM hE (Ext.refl _ _ _ _)⟩
    unfold Region.ready
    refine List.filter_eq_nil_iff.2 fun i hi => ?_
    have hi':i < ops.length:=by simpa using hi
    have:¬ listed.getD i true=false:=fun h=>by have:=(hmem i).2 ⟨hi',h⟩;cases this
    simp only [Bool.not_eq_false] at this
    simp [this]
  | succ fuel ih =>
    intro listed R w O m n E a hsz hmem hnd hpw hlen hdown hrun hM hE hQ
    refine ⟨fun hnil => ?_,fun i hi => ?_⟩
    · obtain rfl:=Z1d hb hsz hmem hnil
      exact hQ w O m n E a hrun hM hE (Ext.refl _ _ _ _)
    obtain ⟨o,ho,hil,hun,haft,notbef⟩:=Zz1 hb hsz hdown hi
    obtain ⟨R1,R2,rfl⟩:=List.append_of_mem ((hmem i).2 ⟨hil,hun⟩)
    have hin:i < listed.size:=by omega
    have hst:=Zhv hK ho R2 R1 E O n hrun fun j hj y hjy=>by
      have hp:=(List.pairwise_append.1 hpw).2.2 j hj i (.head _)
      obtain ⟨hjl,hul⟩:=(hmem j).1 (List.mem_append.2 (.inl hj))
      unfold Ziq at hp
      simp only [ho,hjy,Bool.or_eq_true,Bool.and_eq_true,List.contains_iff_mem] at hp
      rcases hp with h | h
      · exact h
      exact absurd h (notbef j hul hjl)
    refine Zm0 hT ho hM hE hst fun w' O' m' n' E' a' hr hM' hE' hX => ?_
    refine ih _ (R1++R2) w' O' m' n' E' a' (by simpa using hsz) (Zw3 hin hmem hnd) ?_ ?_ (by simp at hlen ⊢;omega) (Zr5 hin ho haft hdown) hr hM' hE' fun w2 O2 m2 n2 E2 a2 k0 k1 k2 k3=>hQ w2 O2 m2 n2 E2 a2 k0 k1 k2 (hX.trans k3)
    · exact hnd.sublist (List.Sublist.append_left (List.sublist_cons_self i R2) R1)
    exact hpw.sublist (List.Sublist.append_left (List.sublist_cons_self i R2) R1)
theorem Ya5 (hT:Qt P T) {ops:List Oper} {ks:List Kd} {n0:Nat→Prop} {x y:Nat} {S:List Nat} (hb:∀ i o,ops[i]? = some o→∀ e∈o.after.toList,Region.binds .any e=true→e.on < i) (hS:∀ s∈S,x∈(Zgg ops []).getD s []) {Q:Exit→Act→World→Prop} {K:GK} (hK:EqK K) :
    ∀ (fuel:Nat) (listed:Array Bool) (Pl:List Nat) (w:World) (O:Objs) (m:Hands) (n:Nat) (E:Env) (a:Act),listed.size=ops.length→(∀ i,i∈Pl++x::y::S↔i < ops.length∧listed.getD i true=false)→(Pl++x::y::S).Nodup→(Pl++x::S).Pairwise (fun j i=>Ziq ops ks j i=true)→(Pl++y::S).Pairwise (fun j i=>Ziq ops ks j i=true)→(Pl++x::y::S).length≤fuel →
    (∀ i o,ops[i]? = some o→listed.getD i true=true→∀ e∈o.after.toList,Region.binds .any e=true→listed.getD e.on false=true) →
    Zg7 P T ops ks n0 Pl E O n (fun E O n=>Zg7 P T ops ks n0 (x::y::S) E O n K∧Zg7 P T ops ks n0 (y::x::S) E O n K)→Mem w O m n→Holds w O m n E a →
    (∀ w' O' m' n' E' a',K E' O' n'→Mem w' O' m' n'→Holds w' O' m' n' E' a'→Ext w O m n w' O' m' n'→Q .normal a' w')→wpAny P .any ops.toArray Q fuel listed a w:=by
  intro fuel
  induction fuel with
  | zero =>
    intro listed Pl w O m n E a hsz hmem hnd hp1 hp2 hlen hdown hrun hM hE hQ
    simp at hlen
  | succ fuel ih =>
    intro listed Pl w O m n E a hsz hmem hnd hp1 hp2 hlen hdown hrun hM hE hQ
    have hKK:EqK fun E O n=>Zg7 P T ops ks n0 (x::y::S) E O n K∧Zg7 P T ops ks n0 (y::x::S) E O n K:=fun E E' O n hE h=>⟨Zov hK _ E E' O n hE h.1,Zov hK _ E E' O n hE h.2⟩
    refine ⟨fun hnil => ?_,fun i hi => ?_⟩
    · have:=Z1d hb hsz hmem hnil
      simp at this
    obtain ⟨o,ho,hil,hun,haft,notbef⟩:=Zz1 hb hsz hdown hi
    have hin:i < listed.size:=by omega
    have hiR:=(hmem i).2 ⟨hil,hun⟩
    have clear:∀ j,j∈Pl→Ziq ops ks j i=true→∀ z,ops[j]? = some z→Zll ops o z=true∧Zha (Zhq ks i) (Zhq ks j) z=true:=fun j hj hp z hjz=>by
      obtain ⟨hjl,hul⟩:=(hmem j).1 (List.mem_append.2 (.inl hj))
      unfold Ziq at hp
      simp only [ho,hjz,Bool.or_eq_true,Bool.and_eq_true,List.contains_iff_mem] at hp
      rcases hp with h | h
      · exact h
      exact absurd h (notbef j hul hjl)
    rcases List.mem_append.1 hiR with hiP | hiT
    · obtain ⟨P1,P2,rfl⟩:=List.append_of_mem hiP
      have hst:=Zhv hKK ho P2 P1 E O n hrun fun j hj z hjz=>clear j (List.mem_append.2 (.inl hj)) ((List.pairwise_append.1 (List.pairwise_append.1 hp1).1).2.2 j hj i (.head _)) z hjz
      refine Zm0 hT ho hM hE hst fun w' O' m' n' E' a' hr hM' hE' hX => ?_
      have ea:∀ L:List Nat,(P1++i::P2)++L=P1++i::(P2++L):=fun L=>by simp
      have eb:∀ L:List Nat,(P1++P2)++L=P1++(P2++L):=fun L=>by simp
      rw [ea] at hmem hnd hp1 hp2 hlen
      refine ih _ (P1++P2) w' O' m' n' E' a' (by simpa using hsz) ?_ ?_ ?_ ?_ ?_ (Zr5 hin ho haft hdown) hr hM' hE' fun w2 O2 m2 n2 E2 a2 k0 k1 k2 k3=>hQ w2 O2 m2 n2 E2 a2 k0 k1 k2 (hX.trans k3)
      · rw [eb];exact Zw3 hin hmem hnd
      · rw [eb];exact hnd.sublist (List.Sublist.append_left (List.sublist_cons_self i _) P1)
      · rw [eb];exact hp1.sublist (List.Sublist.append_left (List.sublist_cons_self i _) P1)
      · rw [eb];exact hp2.sublist (List.Sublist.append_left (List.sublist_cons_self i _) P1)
      rw [eb];simp at hlen ⊢;omega
    have hxS:i ∉ S:=fun h=>by
      have hx:=(hmem x).1 (List.mem_append.2 (.inr (.head _)))
      exact notbef x hx.2 hx.1 (hS i h)
    have h2:i=x∨i=y:=by
      rcases List.mem_cons.1 hiT with h | h
      · exact .inl h
      rcases List.mem_cons.1 h with h | h
      · exact .inr h
      exact absurd h hxS
    rcases h2 with rfl | rfl
    · have h':=Zkz (i::y::S) Pl E O n (Zhw (fun E O n h=>h.1) Pl E O n hrun)
      have hst:=Zhv hK ho (y::S) Pl E O n h' fun j hj z hjz=>clear j hj ((List.pairwise_append.1 hp1).2.2 j hj i (.head _)) z hjz
      refine Zm0 hT ho hM hE hst fun w' O' m' n' E' a' hr hM' hE' hX => ?_
      refine Zra hT hb hK fuel _ (Pl++y::S) w' O' m' n' E' a' (by simpa using hsz) (Zw3 hin hmem hnd) ?_ hp2 (by simp at hlen ⊢;omega) (Zr5 hin ho haft hdown) hr hM' hE' fun w2 O2 m2 n2 E2 a2 k0 k1 k2 k3=>hQ w2 O2 m2 n2 E2 a2 k0 k1 k2 (hX.trans k3)
      exact hnd.sublist (List.Sublist.append_left (List.sublist_cons_self i _) Pl)
    have h':=Zkz (i::x::S) Pl E O n (Zhw (fun E O n h=>h.2) Pl E O n hrun)
    have hst:=Zhv hK ho (x::S) Pl E O n h' fun j hj z hjz=>clear j hj ((List.pairwise_append.1 hp2).2.2 j hj i (.head _)) z hjz
    refine Zm0 hT ho hM hE hst fun w' O' m' n' E' a' hr hM' hE' hX => ?_
    have ea:∀ L:List Nat,Pl++x::L=(Pl++[x])++L:=fun L=>by simp
    have hmem':∀ k,k∈(Pl++[x])++i::S↔k < ops.length∧listed.getD k true=false:=fun k=>by rw [← ea];exact hmem k
    have hnd':((Pl++[x])++i::S).Nodup:=by rw [← ea];exact hnd
    refine Zra hT hb hK fuel _ (Pl++x::S) w' O' m' n' E' a' (by simpa using hsz) (by rw [ea];exact Zw3 hin hmem' hnd') ?_ hp1 (by simp at hlen ⊢;omega) (Zr5 hin ho haft hdown) hr hM' hE' fun w2 O2 m2 n2 E2 a2 k0 k1 k2 k3=>hQ w2 O2 m2 n2 E2 a2 k0 k1 k2 (hX.trans k3)
    rw [ea]
    exact hnd'.sublist (List.Sublist.append_left (List.sublist_cons_self i _) (Pl++[x]))
end
section
variable {P:Program} {T:K4}
def Zsj (n0:Nat→Prop):G→Prop
  | .ref i _=>n0 i
  | .row i _=>n0 i
  | .rs i _ _=>n0 i
  | .rp i _ _=>n0 i
  | .rl i _ _ _=>n0 i
  | _=>True
def Z2p (n0:Nat→Prop):List G→Prop
  | []=>True
  | g::l=>Zsj n0 g∧Z2p n0 l
theorem Z5g {n0:Nat→Prop}:∀ {l:List G},Z2p n0 l→∀ g∈l,Zsj n0 g
  | [],_,_,h=>by cases h
  | x::l,h,g,hg=>by
    rcases List.mem_cons.1 hg with rfl | hg
    · exact h.1
    exact Z5g h.2 g hg
theorem Zeg {n0:Nat→Prop} {O O':Objs} (ha:agree n0 O O') {g:G} (hg:Zsj n0 g):Qd O' g=Qd O g:=by
  cases g <;> simp only [Qd] <;> simp only [Zsj] at hg <;> rw [ha _ hg]
theorem Z07 {n0:Nat→Prop} {O O':Objs} (ha:agree n0 O O') {g:G} (hg:Zsj n0 g):Zkp O' g=Zkp O g:=by
  cases g <;> first | rfl | exact Zeg ha hg
theorem Yac {n0:Nat→Prop} {O O':Objs} (ha:agree n0 O O') {g:G} (hg:Zsj n0 g) (t:TypeId):Zlj T O' t g=Zlj T O t g:=by
  have:Zgr O' g=Zgr O g:=by
    cases g <;> simp only [Zgr] <;> simp only [Zsj] at hg <;> rw [ha _ hg]
  unfold Zlj
  rw [this]
theorem Yaf {n0:Nat→Prop} {n n':Nat} {O O':Objs} {ρ:Operand→G} {op:Op} (hq:Jr op=true) (hl:∀ x∈op.operands,Zsj n0 (ρ x)) (ha:agree n0 O O'):Zat T ρ O' n' op=(Zat T ρ O n op).map fun r=>(r.1,r.2.1,O',n'):=by
  cases op <;> simp only [Jr,reduceCtorEq,Bool.false_eq_true] at hq <;> simp only [Zat]
  case move x=>rfl
  case assign x=>rfl
  case pick c a b=>split <;> rfl
  case build t ps=>rw [Option.map_map];rfl
  case load t a=>rw [Yac ha (hl a (by simp [Op.operands])),Option.map_map];rfl
  case nilCheck x=>rw [Zeg ha (hl x (by simp [Op.operands])),Option.map_map];rfl
  case binOp op t x y ty=>rw [Zeg ha (hl x (by simp [Op.operands])),Option.map_map];rfl
  case unOp op t x=>rw [Option.map_map];rfl
  case convert s d x=>rw [Option.map_map];rfl
  case slice t x lo hi mx =>
    rw [Zeg ha (hl x (by simp [Op.operands]))]
    split
    · rw [Option.map_map];rfl
    rfl
  case fieldAddr s x f=>rw [Zeg ha (hl x (by simp [Op.operands])),Option.map_map];rfl
  case field s x f=>rw [Option.map_map];rfl
  case indexAddr t x i =>
    rw [Zeg ha (hl x (by simp [Op.operands]))]
    split
    · rw [Option.map_map];rfl
    rfl
  case index t x i =>
    split
    · rw [Option.map_map];rfl
    rfl
  case extract x k=>rw [Option.map_map];rfl
  case makeFunc fn fs cs=>split <;> rfl
  case call c =>
    obtain ⟨cal,args,ts⟩:=c
    cases cal with
    | builtin b =>
      simp only
      have hx:∀ x,x∈args.toList.map ρ→Zsj n0 x:=fun x hx=>by
        obtain ⟨y,hy,rfl⟩:=List.mem_map.1 hx
        exact hl y (by simp [Op.operands,Call.operands];simpa using hy)
      cases b <;> simp only [reduceCtorEq,Bool.false_eq_true] at hq <;> unfold Zgp
      all_goals
        split
        all_goals first
          | rfl
          | (rename_i heq1 heq2
             rw [Z07 ha (hx _ (by rw [heq2];exact .head _)),Option.map_map]
             rfl)
          | (rw [Z07 ha (hx _ (by simp_all)),Option.map_map];rfl)
          | (rename_i heq1 heq2
             rw [Zeg ha (hx _ (by rw [heq2];exact .head _)),Option.map_map]
             rfl)
          | (rw [Zeg ha (hx _ (by simp_all)),Option.map_map];rfl)
          | simp_all
    | value f=>simp at hq
    | invoke r s=>simp at hq
theorem Z4y {n0:Nat→Prop} {n n':Nat} {O O':Objs} {E:Env} {op:Op} (hq:Jr op=true) (hl:Z2p n0 (op.operands.toList.map (evS E))) (ha:agree n0 O O'):Zfn T E O' n' op=(Zfn T E O n op).map fun r=>(r.1,r.2.1,O',n'):=by
  have hl':∀ x∈op.operands,Zsj n0 (evS E x):=fun x hx=>Z5g hl _ (List.mem_map.2 ⟨x,by simpa using hx,rfl⟩)
  unfold Zfn
  split
  · rw [Option.map_map];rfl
  rw [Yaf (n:=n) hq hl' ha,Option.map_map,Option.map_map];rfl
theorem Ydm {ops:List Oper} {n0:Nat→Prop} {n:Nat} {O:Objs} {E:Env} {o:Oper} {r:G} (hq:Jr o.op=true) (hl:Z2p n0 (o.op.operands.toList.map (evS E))) (h:PS P T ops O n E o r):PA P T ops n0 O E o r:=fun O' n' ha=>by
  rcases h with ⟨h1,h2⟩ | h | ⟨b,g,h1,h2,⟨S,O2,n2,h3,h4⟩,h5⟩
  · refine .inl ⟨h1,?_⟩
    unfold pop at h2 ⊢
    split
    · rename_i heq
      rw [heq] at hq
      simp [Jr] at hq
    rename_i hne
    split at h2
    · rename_i heq
      rw [heq] at hq
      simp [Jr] at hq
    rw [Z4y (n:=n) hq hl ha]
    split at h2
    · rename_i S g O2 n2 hs
      rw [hs]
      exact h2
    exact h2.elim
  · exact .inr (.inl h)
  refine .inr (.inr ⟨b,g,h1,h2,⟨S,O',n',?_,h4⟩,h5⟩)
  rw [Z4y (n:=n) hq hl ha,h3]
  rfl
def PCallA (P:Program) (f:FuncId) (gs:List G) (K:G→Prop):Prop:=∃ r,(∀ O n,GPure P f gs O n r)∧K r
theorem PCallA.of {f:FuncId} {gs:List G} {r:G} {K:G→Prop} (h:∀ O n,GPure P f gs O n r) (hk:K r):PCallA P f gs K:=⟨r,h,hk⟩
def Z0o (P:Program) (T:K4) (n0:Nat→Prop) (E:Env) (O:Objs) (n:Nat) (op:Op) (K:G→Prop):Prop :=
  match op with
  | .call ⟨.value o,args,_⟩=>match ev E o with
    | .fn f k cs=>wok (args.toList.map (ev E))∧PCallA P f (cs.take k++args.toList.map (evS E)++cs.drop k) K
    | _=>False
  | op=>match Zfn T E O n op with
    | some (S,g,_,_)=>S∧Jr op=true∧Z2p n0 (op.operands.toList.map (evS E))∧K g
    | none=>False
theorem Z5t {ops:List Oper} {n0:Nat→Prop} {n:Nat} {O:Objs} {E:Env} {o:Oper} {K:G→Prop} (hw:Qi ops E o=some true) (h:Z0o P T n0 E O n o.op K):∃ r,PA P T ops n0 O E o r∧K r:=by
  unfold Z0o at h
  split at h
  · rename_i f0 args ts heq
    split at h
    · rename_i f k cs hev
      obtain ⟨h0,r,h1,h2⟩:=h
      refine ⟨r,fun O' n' ha => .inl ⟨hw,?_⟩,h2⟩
      rw [heq]
      unfold pop
      simp only [hev]
      exact ⟨h0,r,h1 O' n',rfl⟩
    exact h.elim
  rename_i hne
  split at h
  · rename_i S g O2 n2 hs
    refine ⟨g,Ydm (n:=n) h.2.1 h.2.2.1 (.inl ⟨hw,?_⟩),h.2.2.2⟩
    unfold pop
    split
    · rename_i heq;exact (hne _ _ _ heq).elim
    rw [hs];exact ⟨h.1,h.2.1,rfl⟩
  exact h.elim
def Zvq:Op→Bool
  | .load .. => false
  | .call .. => false
  | op=>Jr op
theorem Zjj {O O':Objs} (ha:sameS O O') {g:G} (h:Qd O g):Qd O' g:=by
  cases g <;> simp only [Qd] at h ⊢
  all_goals
    first
      | (obtain ⟨o,h1,h2⟩:=h
         obtain ⟨o',g1,g2,g3⟩:=ha _ o h1
         first
           | exact ⟨o',g1,by rw [g2];exact h2⟩
           | exact ⟨o',g1,by rw [g2];exact h2.1,by rw [g3];exact h2.2⟩)
theorem Yag {n n':Nat} {O O' O2:Objs} {n2:Nat} {ρ:Operand→G} {op:Op} (hq:Zvq op=true) (ha:sameS O O') {S:Prop} {g:G} (h:Zat T ρ O n op=some (S,g,O2,n2)) (hS:S):∃ S',S'∧Zat T ρ O' n' op=some (S',g,O',n'):=by
  have key:∀ {α:Type} (m:Option α) (F:α→G) (R R':α→Prop),(∀ a,R a→R' a)→m.map (fun r=>(R r,F r,O,n))=some (S,g,O2,n2)→∃ S',S'∧m.map (fun r=>(R' r,F r,O',n'))=some (S',g,O',n'):=fun m F R R' hR hm=>by
    cases m with
    | none=>cases hm
    | some r =>
      simp only [Option.map_some,Option.some.injEq,Prod.mk.injEq] at hm
      obtain ⟨e1,e2,_⟩:=hm
      subst e1 e2
      exact ⟨R' r,hR r hS,rfl⟩
  cases op <;> simp only [Zvq,Jr,reduceCtorEq,Bool.false_eq_true] at hq <;> simp only [Zat] at h ⊢
  case move x=>simp only [Option.some.injEq,Prod.mk.injEq] at h;exact ⟨True,trivial,by rw [h.2.1]⟩
  case assign x=>simp only [Option.some.injEq,Prod.mk.injEq] at h;exact ⟨True,trivial,by rw [h.2.1]⟩
  case pick c a b =>
    split at h
    · simp only [Option.some.injEq,Prod.mk.injEq] at h;exact ⟨True,trivial,by rw [h.2.1]⟩
    cases h
  case build t ps=>exact key _ _ (fun _=>True) (fun _=>True) (fun _ q=>q) h
  case nilCheck x=>exact key _ _ (fun _=>Qd O (ρ x)) (fun _=>Qd O' (ρ x)) (fun _ q=>Zjj ha q) h
  case binOp op t x y ty=>exact key (α:=Prop×G) _ (fun r=>r.2) (fun r=>r.1∧Qd O (ρ x)) (fun r=>r.1∧Qd O' (ρ x)) (fun _ q=>⟨q.1,Zjj ha q.2⟩) h
  case unOp op t x=>exact key _ _ (fun _=>True) (fun _=>True) (fun _ q=>q) h
  case convert s d x=>exact key _ _ (fun _=>True) (fun _=>True) (fun _ q=>q) h
  case slice t x lo hi mx =>
    split at h
    · exact key (α:=Prop×G) _ (fun r=>r.2) (fun r=>r.1∧Qd O (ρ x)) (fun r=>r.1∧Qd O' (ρ x)) (fun _ q=>⟨q.1,Zjj ha q.2⟩) h
    cases h
  case fieldAddr s x f=>exact key _ _ (fun _=>Qd O (ρ x)) (fun _=>Qd O' (ρ x)) (fun _ q=>Zjj ha q) h
  case field s x f=>exact key _ _ (fun _=>True) (fun _=>True) (fun _ q=>q) h
  case indexAddr t x i =>
    split at h
    · exact key (α:=Prop×G) _ (fun r=>r.2) (fun r=>r.1∧Qd O (ρ x)) (fun r=>r.1∧Qd O' (ρ x)) (fun _ q=>⟨q.1,Zjj ha q.2⟩) h
    cases h
  case index t x i =>
    split at h
    · exact key (α:=Prop×G) _ (fun r=>r.2) (fun r=>r.1) (fun r=>r.1) (fun _ q=>q) h
    cases h
  case extract x k=>exact key _ _ (fun _=>True) (fun _=>True) (fun _ q=>q) h
  case makeFunc fn fs cs =>
    split at h
    · simp only [Option.some.injEq,Prod.mk.injEq] at h;exact ⟨True,trivial,by rw [h.2.1]⟩
    cases h
def Z5s (T:K4) (E:Env) (O:Objs) (n:Nat) (op:Op) (K:G→Prop):Prop :=
  match Zfn T E O n op with
    | some (S,g,_,_)=>S∧Zvq op=true∧K g
    | none=>False
theorem Yco {ops:List Oper} {n:Nat} {O:Objs} {E:Env} {o:Oper} {K:G→Prop} (hw:Qi ops E o=some true) (h:Z5s T E O n o.op K):∃ r,PH P T ops O E o r∧K r:=by
  unfold Z5s at h
  split at h
  · rename_i S g O2 n2 hs
    obtain ⟨h1,h2,h3⟩:=h
    refine ⟨g,fun O' n' ha => .inl ⟨hw,?_⟩,h3⟩
    have hcalm:Jr o.op=true:=by
      unfold Zvq at h2
      split at h2
      · cases h2
      · cases h2
      exact h2
    have:∃ S',S'∧Zfn T E O' n' o.op=some (S',g,O',n'):=by
      unfold Zfn at hs ⊢
      generalize o.op=op at hs h2 hcalm ⊢
      split at hs
      · obtain ⟨r,hr,e⟩:=Option.map_eq_some_iff.1 hs
        simp only [Prod.mk.injEq] at e
        obtain ⟨e1,e2,_⟩:=e
        subst e1 e2
        exact ⟨r.1,h1,by simp only [hr,Option.map_some]⟩
      rename_i hne
      obtain ⟨r,hr,e⟩:=Option.map_eq_some_iff.1 hs
      obtain ⟨S0,g0,O0,n0⟩:=r
      simp only [Prod.mk.injEq] at e
      obtain ⟨e1,e2,e3,e4⟩:=e
      subst e1 e2
      obtain ⟨S',k1,k2⟩:=Yag (n':=n') h2 ha hr h1.2
      exact ⟨wok (op.operands.toList.map (ev E))∧S',⟨h1.1,k1⟩,by simp only [k2,Option.map_some]⟩
    obtain ⟨S',k1,k2⟩:=this
    unfold pop
    split
    · rename_i heq;rw [heq] at hcalm;simp [Jr] at hcalm
    rw [k2];exact ⟨k1,hcalm,rfl⟩
  exact h.elim
def Zl8 (b:Bool) (E:Env):Op→Bool
  | .store _ a _=>Zn6 b (evS E a)
  | _=>false
theorem Ybi {b:Bool} {E:Env} {O:Objs} {n:Nat} {op:Op} {K:G→Objs→Nat→Prop} (hf:Zl8 b E op=true) (h:gop P T E O n op K):∃ O',Fills T b E O op O'∧K (.val undef) O' n:=by
  cases op with
  | store t a x =>
    simp only [Zl8] at hf
    unfold gop Zfn Zat at h
    simp only at h
    split at h
    · rename_i S g O' n' hs
      obtain ⟨r,hr,e⟩:=Option.map_eq_some_iff.1 hs
      obtain ⟨O1,h1,h2⟩:=Option.map_eq_some_iff.1 hr
      subst h2
      simp only [Prod.mk.injEq] at e
      obtain ⟨e1,e2,e3,e4⟩:=e
      subst e1 e2 e3 e4
      exact ⟨O1,⟨t,a,x,rfl,hf,h1,h.1.1⟩,h.2⟩
    exact h.elim
  | _=>simp [Zl8] at hf
def Qa (P:Program) (T:K4) (ops:List Oper) (n0:Nat→Prop):List Kd→List (Option Bool)→List Oper→Env→Objs→Nat→GK→Prop
  | _,_,[],E,O,n,K=>K E O n
  | .bar::ks,ds,o::l,E,O,n,K=>match o.guard with
    | none=>gop P T E O n o.op fun g O' n'=>Qa P T ops n0 ks ds l (Yp E o.dst g) O' n' K
    | some g=>match ds with
      | some true::ds'=>X9 ops E (some g)=some true∧gop P T E O n o.op fun g O' n'=>Qa P T ops n0 ks ds' l (Yp E o.dst g) O' n' K
      | _=>False
  | .pass::ks,ds,o::l,E,O,n,K=>match o.guard with
    | none=>gop P T E O n o.op fun g O' n'=>agree n0 O O'∧Qa P T ops n0 ks ds l (Yp E o.dst g) O' n' K
    | some g=>match ds with
      | some true::ds'=>X9 ops E (some g)=some true∧gop P T E O n o.op fun g O' n'=>agree n0 O O'∧Qa P T ops n0 ks ds' l (Yp E o.dst g) O' n' K
      | _=>False
  | .plain::ks,ds,o::l,E,O,n,K=>match o.guard with
    | none=>pop P T E O n o.op fun g=>Qa P T ops n0 ks ds l (Yp E o.dst g) O n K
    | some g=>match ds with
      | some true::ds'=>X9 ops E (some g)=some true∧pop P T E O n o.op fun g=>Qa P T ops n0 ks ds' l (Yp E o.dst g) O n K
      | some false::ds'=>X9 ops E (some g)=some false∧Qa P T ops n0 ks ds' l (Yp E o.dst (.val undef)) O n K
      | _=>False
  | .low::ks,ds,o::l,E,O,n,K=>match o.guard with
    | none=>Z0o P T n0 E O n o.op fun g=>Qa P T ops n0 ks ds l (Yp E o.dst g) O n K
    | some g=>match ds with
      | some true::ds'=>X9 ops E (some g)=some true∧Z0o P T n0 E O n o.op fun g=>Qa P T ops n0 ks ds' l (Yp E o.dst g) O n K
      | some false::ds'=>X9 ops E (some g)=some false∧Qa P T ops n0 ks ds' l (Yp E o.dst (.val undef)) O n K
      | _=>False
  | .shp::ks,ds,o::l,E,O,n,K=>match o.guard with
    | none=>Z5s T E O n o.op fun g=>Qa P T ops n0 ks ds l (Yp E o.dst g) O n K
    | some _=>False
  | .fill b::ks,ds,o::l,E,O,n,K=>match o.guard with
    | none=>Zl8 b E o.op=true∧gop P T E O n o.op fun g O' n'=>Qa P T ops n0 ks ds l (Yp E o.dst g) O' n' K
    | some _=>False
  | [],_,_::_,_,_,_,_=>False
theorem Zlu {ops:List Oper} {ks0:List Kd} {n0:Nat→Prop} {K:GK}:∀ (l:List Oper) (L:List Nat) (ks:List Kd) (ds:List (Option Bool)) (E:Env) (O:Objs) (n:Nat),L.map (ops[·]?)=l.map some→L.map (Zhq ks0)=ks→Qa P T ops n0 ks ds l E O n K→Zg7 P T ops ks0 n0 L E O n K
  | [],L,ks,ds,E,O,n,h1,h2,h=>by
    obtain rfl:L=[]:=by cases L;rfl;simp at h1
    cases ks <;> simpa [Qa,Zg7] using h
  | o::l,[],ks,ds,E,O,n,h1,h2,h=>by simp at h1
  | o::l,i::L,ks,ds,E,O,n,h1,h2,h=>by
    simp only [List.map_cons,List.cons.injEq] at h1
    obtain ⟨ho,h1⟩:=h1
    subst h2
    rw [List.map_cons] at h
    rw [Zhu ho]
    have next:∀ {ds' E' O' n'},Qa P T ops n0 (L.map (Zhq ks0)) ds' l E' O' n' K→Zg7 P T ops ks0 n0 L E' O' n' K:=fun {ds' E' O' n'} hr=>Zlu l L _ ds' E' O' n' h1 rfl hr
    cases hk:Zhq ks0 i with
    | bar =>
      rw [hk] at h
      cases hg:o.guard with
      | none =>
        simp only [Qa,hg] at h
        exact ⟨by unfold Qi;rw [hg];rfl,V3 h fun g O' n' q=>next q⟩
      | some g =>
        simp only [Qa,hg] at h
        split at h
        · exact ⟨by unfold Qi;rw [hg];exact h.1,V3 h.2 fun g O' n' q=>next q⟩
        exact h.elim
    | pass =>
      rw [hk] at h
      cases hg:o.guard with
      | none =>
        simp only [Qa,hg] at h
        exact ⟨by unfold Qi;rw [hg];rfl,V3 h fun g O' n' q=>⟨q.1,next q.2⟩⟩
      | some g =>
        simp only [Qa,hg] at h
        split at h
        · exact ⟨by unfold Qi;rw [hg];exact h.1,V3 h.2 fun g O' n' q=>⟨q.1,next q.2⟩⟩
        exact h.elim
    | shp =>
      rw [hk] at h
      cases hg:o.guard with
      | none =>
        simp only [Qa,hg] at h
        obtain ⟨r,q1,q2⟩:=Yco (ops:=ops) (by unfold Qi;rw [hg];rfl) h
        exact ⟨r,q1,next q2⟩
      | some g=>simp only [Qa,hg] at h
    | fill b =>
      rw [hk] at h
      cases hg:o.guard with
      | none =>
        simp only [Qa,hg] at h
        obtain ⟨O',q1,q2⟩:=Ybi h.1 h.2
        exact ⟨by unfold Qi;rw [hg];rfl,O',q1,next q2⟩
      | some g=>simp only [Qa,hg] at h
    | plain =>
      rw [hk] at h
      cases hg:o.guard with
      | none =>
        simp only [Qa,hg] at h
        obtain ⟨r,q1,q2⟩:=Zsz h
        exact ⟨r,.inl ⟨by unfold Qi;rw [hg];rfl,q1⟩,next q2⟩
      | some g =>
        simp only [Qa,hg] at h
        split at h
        · obtain ⟨r,q1,q2⟩:=Zsz h.2
          exact ⟨r,.inl ⟨by unfold Qi;rw [hg];exact h.1,q1⟩,next q2⟩
        · exact ⟨_,.inr (.inl ⟨by unfold Qi;rw [hg];exact h.1,rfl⟩),next h.2⟩
        exact h.elim
    | low =>
      rw [hk] at h
      cases hg:o.guard with
      | none =>
        simp only [Qa,hg] at h
        obtain ⟨r,q1,q2⟩:=Z5t (ops:=ops) (by unfold Qi;rw [hg];rfl) h
        exact ⟨r,q1,next q2⟩
      | some g =>
        simp only [Qa,hg] at h
        split at h
        · obtain ⟨r,q1,q2⟩:=Z5t (ops:=ops) (by unfold Qi;rw [hg];exact h.1) h.2
          exact ⟨r,q1,next q2⟩
        · exact ⟨_,fun O' n' ha => .inr (.inl ⟨by unfold Qi;rw [hg];exact h.1,rfl⟩),next h.2⟩
        exact h.elim
def Z3a (ops:List Oper) (ks:List Kd):List Nat→Bool
  | []=>true
  | j::L=>(L.all fun i=>Ziq ops ks j i) && Z3a ops ks L
theorem Zxn {ops:List Oper} {ks:List Kd}:∀ {L:List Nat},Z3a ops ks L=true→L.Pairwise (fun j i=>Ziq ops ks j i=true)
  | [],_ => .nil
  | j::L,h=>by
    rw [Z3a,Bool.and_eq_true,List.all_eq_true] at h
    exact .cons h.1 (Zxn h.2)
def Zu6 (L:List Nat) (k:Nat):Bool:=(L.all fun i=>decide (i < k)) && ((List.range k).all fun i=>L.contains i) && decide L.Nodup && decide (L.length≤k)
theorem Zp5 {L:List Nat} {k:Nat} (h:Zu6 L k=true):(∀ i,i∈L↔i < k∧(Array.replicate k false).getD i true=false)∧L.Nodup∧L.length≤k:=by
  unfold Zu6 at h
  rw [Bool.and_eq_true,decide_eq_true_eq (p:=L.length≤k),Bool.and_eq_true,Bool.and_eq_true,List.all_eq_true,List.all_eq_true,decide_eq_true_eq] at h
  refine ⟨fun i=>⟨fun hi => ?_,fun hi => ?_⟩,h.1.2,h.2⟩
  · have hk:=of_decide_eq_true (h.1.1.1 i hi)
    exact ⟨hk,by simp [Array.getD,hk]⟩
  simpa using h.1.1.2 i (List.mem_range.2 hi.1)
theorem Z91 {ba:Nat} (hT:Qt P T) (hm:P.follows .mixedOrders=true) (ks:List Kd) (n0:Nat→Prop) (L:List Nat) (l:List Oper) (ds:List (Option Bool)) {id:Nat} {ops:Array Oper} {O:Objs} {n:Nat} {E:Env} {Q:GQ}
    (h1:(Zyr ops.toList && Zu6 L ops.toList.length && Z3a ops.toList ks L)=true) (hp:L.map (ops.toList[·]?)=l.map some)
    (h:Qa P T ops.toList n0 (L.map (Zhq ks)) ds l E O n (Q .normal)):W P ba (.region id ops true) Q E O n:=fun hb w m a hM hE=>by
  rw [Bool.and_eq_true,Bool.and_eq_true] at h1
  obtain ⟨⟨b1,b2⟩,b3⟩:=h1
  obtain ⟨c1,c2,c3⟩:=Zp5 b2
  have hr:=Zhw (K':=fun E' O' n'=>∃ E0,EqE E' E0∧Q .normal E0 O' n') (fun E O n hk=>⟨E,EqE.refl E,hk⟩) _ _ _ _ (Zlu l L _ ds E O n hp rfl h)
  have hK:EqK fun E' O' n'=>∃ E0,EqE E' E0∧Q .normal E0 O' n':=fun E1 E2 O n hE ⟨E0,h1,h2⟩=>⟨E0,EqE.trans ⟨hE.1.symm,fun t=>(hE.2 t).symm⟩ h1,h2⟩
  refine wp_region_any hm ?_
  have hX:Ext w O m n { w with drawn:=w.drawn+1 } O m n:=⟨rfl,rfl,rfl,Nat.le_refl _,Nat.le_refl _,fun b _ ho=>⟨rfl,ho⟩,fun i _ o ho=>⟨o,ho,rfl,Nat.le_refl _,fun _=>rfl⟩⟩
  have hM':Mem { w with drawn:=w.drawn+1 } O m n:=⟨hM.fresh,fun i o hi=>Zja hM hi hX fun _ _=>rfl,hM.apart⟩
  have e:ops.toList.toArray=ops:=by simp
  have hz:∀ i,(Array.replicate ops.size false).getD i true=true→¬ i < ops.size:=fun i h hi=>by simp [Array.getD,hi] at h
  have hlen:L.length≤ops.size:=by simpa using c3
  have key:=Zra hT (Z0v b1) (Q:=lift w O m ba Q) hK ops.size (Array.replicate ops.size false) L { w with drawn:=w.drawn+1 } O m n E a (by simp) (by simpa using c1) c2 (Zxn b3) hlen (fun i o ho hl=>absurd (by
      rcases Nat.lt_or_ge i ops.toList.length with h | h
      · simpa using h
      rw [List.getElem?_eq_none h] at ho;cases ho) (hz i hl)) hr hM' (hE.ext hX)
    fun w' O' m' n' E' a' ⟨E0,k0,k1⟩ k2 k3 k4=>⟨E0,O',n',m',k1,k2,k3.eqE k0,(hX.trans k4).base hb⟩
  rw [e] at key
  exact key
theorem Z6i {ba:Nat} (hT:Qt P T) (hm:P.follows .mixedOrders=true) (ks:List Kd) (n0:Nat→Prop) (x y:Nat) (Pl S:List Nat) (lp lx ly _ls:List Oper) {dx dy:List (Option Bool)} (ds:List (Option Bool)) {id:Nat} {ops:Array Oper} {O:Objs} {n:Nat} {E:Env} {Q:GQ}
    (h1:(Zyr ops.toList && Zu6 (Pl++x::y::S) ops.toList.length && Z3a ops.toList ks (Pl++x::S) && Z3a ops.toList ks (Pl++y::S) && S.all fun s=>((Zgg ops.toList []).getD s []).contains x)=true)
    (hp:Pl.map (ops.toList[·]?)=lp.map some) (hx:(x::y::S).map (ops.toList[·]?)=lx.map some) (hy:(y::x::S).map (ops.toList[·]?)=ly.map some)
    (h:Qa P T ops.toList n0 (Pl.map (Zhq ks)) ds lp E O n fun E O n=>Qa P T ops.toList n0 ((x::y::S).map (Zhq ks)) dx lx E O n (Q .normal)∧Qa P T ops.toList n0 ((y::x::S).map (Zhq ks)) dy ly E O n (Q .normal)):W P ba (.region id ops true) Q E O n:=fun hb w m a hM hE=>by
  rw [Bool.and_eq_true,Bool.and_eq_true,Bool.and_eq_true,Bool.and_eq_true,List.all_eq_true] at h1
  obtain ⟨⟨⟨⟨b1,b2⟩,b3⟩,b4⟩,b5⟩:=h1
  obtain ⟨c1,c2,c3⟩:=Zp5 b2
  have up:∀ L E O n,Zg7 P T ops.toList ks n0 L E O n (Q .normal)→Zg7 P T ops.toList ks n0 L E O n (fun E' O' n'=>∃ E0,EqE E' E0∧Q .normal E0 O' n'):=fun L E O n q=>Zhw (fun E O n hk=>⟨E,EqE.refl E,hk⟩) L E O n q
  have hr:=Zhw (fun E O n q=>And.intro (up _ E O n (Zlu lx (x::y::S) _ dx E O n hx rfl q.1)) (up _ E O n (Zlu ly (y::x::S) _ dy E O n hy rfl q.2))) _ _ _ _ (Zlu lp Pl _ ds E O n hp rfl h)
  have hK:EqK fun E' O' n'=>∃ E0,EqE E' E0∧Q .normal E0 O' n':=fun E1 E2 O n hE ⟨E0,h1,h2⟩=>⟨E0,EqE.trans ⟨hE.1.symm,fun t=>(hE.2 t).symm⟩ h1,h2⟩
  refine wp_region_any hm ?_
  have hX:Ext w O m n { w with drawn:=w.drawn+1 } O m n:=⟨rfl,rfl,rfl,Nat.le_refl _,Nat.le_refl _,fun b _ ho=>⟨rfl,ho⟩,fun i _ o ho=>⟨o,ho,rfl,Nat.le_refl _,fun _=>rfl⟩⟩
  have hM':Mem { w with drawn:=w.drawn+1 } O m n:=⟨hM.fresh,fun i o hi=>Zja hM hi hX fun _ _=>rfl,hM.apart⟩
  have e:ops.toList.toArray=ops:=by simp
  have hz:∀ i,(Array.replicate ops.size false).getD i true=true→¬ i < ops.size:=fun i h hi=>by simp [Array.getD,hi] at h
  have hlen:(Pl++x::y::S).length≤ops.size:=by simpa using c3
  have key:=Ya5 hT (Z0v b1) (fun s hs=>by have:=b5 s hs;simpa using this) (Q:=lift w O m ba Q) hK ops.size (Array.replicate ops.size false) Pl { w with drawn:=w.drawn+1 } O m n E a (by simp) (by simpa using c1) c2 (Zxn b3) (Zxn b4) hlen (fun i o ho hl=>absurd (by
      rcases Nat.lt_or_ge i ops.toList.length with h | h
      · simpa using h
      rw [List.getElem?_eq_none h] at ho;cases ho) (hz i hl)) hr hM' (hE.ext hX)
    fun w' O' m' n' E' a' ⟨E0,k0,k1⟩ k2 k3 k4=>⟨E0,O',n',m',k1,k2,k3.eqE k0,(hX.trans k4).base hb⟩
  rw [e] at key
  exact key
end
section
variable {P:Program} {T:K4}
def Yal (P:Program) (T:K4) (ops:List Oper) (n0:Nat→Prop) (ks:List Kd) (ds:List (Option Bool)) (l:List Oper) (E:Env) (d:Option Tmp) (K:GK) (g:G) (O':Objs) (n':Nat):Prop:=Qa P T ops n0 ks ds l (Yp E d g) O' n' K
def Ycd (P:Program) (T:K4) (ops:List Oper) (n0:Nat→Prop) (ks:List Kd) (ds:List (Option Bool)) (l:List Oper) (E:Env) (d:Option Tmp) (O:Objs) (K:GK) (g:G) (O':Objs) (n':Nat):Prop:=agree n0 O O'∧Qa P T ops n0 ks ds l (Yp E d g) O' n' K
def Z2z (P:Program) (T:K4) (ops:List Oper) (n0:Nat→Prop) (ks:List Kd) (ds:List (Option Bool)) (l:List Oper) (E:Env) (d:Option Tmp) (O:Objs) (n:Nat) (K:GK) (g:G):Prop:=Qa P T ops n0 ks ds l (Yp E d g) O n K
theorem Zp9 (ops:List Oper) (n0:Nat→Prop) (ks:List Kd) (ds:List (Option Bool)) (E:Env) (O:Objs) (n:Nat) (K:GK):Qa P T ops n0 ks ds [] E O n K=K E O n:=by cases ks <;> cases ds <;> simp only [Qa]
theorem Zp7 (ops:List Oper) (n0:Nat→Prop) (ks:List Kd) (ds:List (Option Bool)) (d:Option Tmp) (op:Op) (ty:TypeId) (pos:String) (af:Array Edge) (l:List Oper) (E:Env) (O:Objs) (n:Nat) (K:GK):Qa P T ops n0 (.bar::ks) ds (⟨d,op,ty,pos,af,none⟩::l) E O n K=gop P T E O n op (Yal P T ops n0 ks ds l E d K):=by cases ds <;> rfl
theorem Zm3 (ops:List Oper) (n0:Nat→Prop) (ks:List Kd) (ds:List (Option Bool)) (d:Option Tmp) (op:Op) (ty:TypeId) (pos:String) (af:Array Edge) (l:List Oper) (E:Env) (O:Objs) (n:Nat) (K:GK):Qa P T ops n0 (.pass::ks) ds (⟨d,op,ty,pos,af,none⟩::l) E O n K=gop P T E O n op (Ycd P T ops n0 ks ds l E d O K):=by cases ds <;> rfl
theorem Zkt (ops:List Oper) (n0:Nat→Prop) (ks:List Kd) (ds:List (Option Bool)) (d:Option Tmp) (op:Op) (ty:TypeId) (pos:String) (af:Array Edge) (l:List Oper) (E:Env) (O:Objs) (n:Nat) (K:GK):Qa P T ops n0 (.plain::ks) ds (⟨d,op,ty,pos,af,none⟩::l) E O n K=pop P T E O n op (Z2z P T ops n0 ks ds l E d O n K):=by cases ds <;> rfl
theorem Zp8 (ops:List Oper) (n0:Nat→Prop) (ks:List Kd) (ds:List (Option Bool)) (d:Option Tmp) (op:Op) (ty:TypeId) (pos:String) (af:Array Edge) (l:List Oper) (E:Env) (O:Objs) (n:Nat) (K:GK):Qa P T ops n0 (.low::ks) ds (⟨d,op,ty,pos,af,none⟩::l) E O n K=Z0o P T n0 E O n op (Z2z P T ops n0 ks ds l E d O n K):=by cases ds <;> rfl
theorem Zqa (ops:List Oper) (n0:Nat→Prop) (ks:List Kd) (ds:List (Option Bool)) (d:Option Tmp) (op:Op) (ty:TypeId) (pos:String) (af:Array Edge) (l:List Oper) (E:Env) (O:Objs) (n:Nat) (K:GK):Qa P T ops n0 (.shp::ks) ds (⟨d,op,ty,pos,af,none⟩::l) E O n K=Z5s T E O n op (Z2z P T ops n0 ks ds l E d O n K):=by cases ds <;> rfl
theorem Zm2 (ops:List Oper) (n0:Nat→Prop) (b:Bool) (ks:List Kd) (ds:List (Option Bool)) (d:Option Tmp) (op:Op) (ty:TypeId) (pos:String) (af:Array Edge) (l:List Oper) (E:Env) (O:Objs) (n:Nat) (K:GK):Qa P T ops n0 (.fill b::ks) ds (⟨d,op,ty,pos,af,none⟩::l) E O n K=(Zl8 b E op=true∧gop P T E O n op (Yal P T ops n0 ks ds l E d K)):=by cases ds <;> rfl
theorem Zs3 (ops:List Oper) (n0:Nat→Prop) (ks:List Kd) (ds:List (Option Bool)) (d:Option Tmp) (op:Op) (ty:TypeId) (pos:String) (af:Array Edge) (g:Nat×Bool) (l:List Oper) (E:Env) (O:Objs) (n:Nat) (K:GK) :
    Qa P T ops n0 (.plain::ks) (some true::ds) (⟨d,op,ty,pos,af,some g⟩::l) E O n K=(X9 ops E (some g)=some true∧pop P T E O n op (Z2z P T ops n0 ks ds l E d O n K)):=rfl
theorem Zs2 (ops:List Oper) (n0:Nat→Prop) (ks:List Kd) (ds:List (Option Bool)) (d:Option Tmp) (op:Op) (ty:TypeId) (pos:String) (af:Array Edge) (g:Nat×Bool) (l:List Oper) (E:Env) (O:Objs) (n:Nat) (K:GK) :
    Qa P T ops n0 (.plain::ks) (some false::ds) (⟨d,op,ty,pos,af,some g⟩::l) E O n K=(X9 ops E (some g)=some false∧Qa P T ops n0 ks ds l (Yp E d (.val undef)) O n K):=rfl
theorem Zs1 (ops:List Oper) (n0:Nat→Prop) (ks:List Kd) (ds:List (Option Bool)) (d:Option Tmp) (op:Op) (ty:TypeId) (pos:String) (af:Array Edge) (g:Nat×Bool) (l:List Oper) (E:Env) (O:Objs) (n:Nat) (K:GK) :
    Qa P T ops n0 (.low::ks) (some true::ds) (⟨d,op,ty,pos,af,some g⟩::l) E O n K=(X9 ops E (some g)=some true∧Z0o P T n0 E O n op (Z2z P T ops n0 ks ds l E d O n K)):=rfl
theorem Zs0 (ops:List Oper) (n0:Nat→Prop) (ks:List Kd) (ds:List (Option Bool)) (d:Option Tmp) (op:Op) (ty:TypeId) (pos:String) (af:Array Edge) (g:Nat×Bool) (l:List Oper) (E:Env) (O:Objs) (n:Nat) (K:GK) :
    Qa P T ops n0 (.low::ks) (some false::ds) (⟨d,op,ty,pos,af,some g⟩::l) E O n K=(X9 ops E (some g)=some false∧Qa P T ops n0 ks ds l (Yp E d (.val undef)) O n K):=rfl
def U6 (ops:List Oper):List Nat→List Oper
  | []=>[]
  | i::L=>match ops[i]? with
    | some o=>o::U6 ops L
    | none=>U6 ops L
theorem Zot {ops:List Oper}:∀ {L:List Nat},(∀ i∈L,i < ops.length)→L.map (ops[·]?)=(U6 ops L).map some
  | [],_=>rfl
  | i::L,h=>by
    have hi:=h i (.head _)
    have ho:ops[i]? = some ops[i]:=List.getElem?_eq_getElem hi
    simp only [List.map_cons,U6,ho,Zot (L:=L) fun j hj=>h j (.tail _ hj)]
def Yg2 (P:Program) (T:K4) (ops:List Oper) (n0:Nat→Prop) (kx ky:List Kd) (Lx Ly:List Nat) (K:GK):GK:=fun E O n=>Qa P T ops n0 kx [] (U6 ops Lx) E O n K∧Qa P T ops n0 ky [] (U6 ops Ly) E O n K
theorem Z7k {ba:Nat} (hT:Qt P T) (hm:P.follows .mixedOrders=true) (ks:List Kd) (n0:Nat→Prop) (x y:Nat) (Pl S:List Nat) (kp kx ky:List Kd) (ds:List (Option Bool)) {id:Nat} {ops:Array Oper} {O:Objs} {n:Nat} {E:Env} {Q:GQ}
    (h1:(Zyr ops.toList && Zu6 (Pl++x::y::S) ops.toList.length && Z3a ops.toList ks (Pl++x::S) && Z3a ops.toList ks (Pl++y::S) && S.all fun s=>((Zgg ops.toList []).getD s []).contains x)=true)
    (e1:Pl.map (Zhq ks)=kp) (e2:(x::y::S).map (Zhq ks)=kx) (e3:(y::x::S).map (Zhq ks)=ky)
    (h:Qa P T ops.toList n0 kp ds (U6 ops.toList Pl) E O n (Yg2 P T ops.toList n0 kx ky (x::y::S) (y::x::S) (Q .normal))):W P ba (.region id ops true) Q E O n:=by
  have h2:=h1
  rw [Bool.and_eq_true,Bool.and_eq_true,Bool.and_eq_true,Bool.and_eq_true] at h2
  obtain ⟨⟨⟨⟨b1,b2⟩,b3⟩,b4⟩,b5⟩:=h2
  obtain ⟨c1,c2,c3⟩:=Zp5 b2
  have hlt:∀ i∈Pl++x::y::S,i < ops.toList.length:=fun i hi=>((c1 i).1 hi).1
  subst e1 e2 e3
  exact Z6i hT hm ks n0 x y Pl S (U6 ops.toList Pl) (U6 ops.toList (x::y::S)) (U6 ops.toList (y::x::S)) [] ds h1 (Zot fun i hi=>hlt i (List.mem_append.2 (.inl hi))) (Zot fun i hi=>hlt i (List.mem_append.2 (.inr hi))) (Zot fun i hi=>hlt i (List.mem_append.2 (.inr (by
    simp only [List.mem_cons] at hi ⊢
    rcases hi with h | h | h
    · exact .inr (.inl h)
    · exact .inl h
    exact .inr (.inr h))))) h
theorem Zld {O:Objs} {n k:Nat} {l1 l2:List (Option GObj)} (h:l1.take k=l2.take k):agree (fun i=>i < n+k) (Zr O n l1) (Zr O n l2):=fun i hi=>by
  unfold Zr
  split
  · rfl
  have:i - n < k:=by omega
  have e1:=congrArg (fun l=>l[i - n]?) h
  simp only [List.getElem?_take,if_pos this] at e1
  rw [e1]
theorem Zjb {O:Objs} {n:Nat} {l2:List (Option GObj)}:agree (fun i=>i < n) O (Zr O n l2):=fun i hi=>by
  unfold Zr
  rw [if_pos hi]
theorem Zyo {O:Objs} {n k q:Nat} {l1 l2:List (Option GObj)} (h:(l1.take k).set q none=(l2.take k).set q none):agree (fun i=>i < n+k∧¬ i=n+q) (Zr O n l1) (Zr O n l2):=fun i hi=>by
  by_cases hn:i < n
  · rw [Y0 _ hn,Y0 _ hn]
  have e:∀ l:List (Option GObj),Zr O n l i=(((l.take k).set q none)[i - n]?).join:=fun l=>by
    unfold Zr
    rw [if_neg hn,List.getElem?_set,if_neg (by omega),List.getElem?_take,if_pos (by omega)]
  rw [e,e,h]
theorem Z4k {O:Objs} {n k:Nat} {l1 l2:List (Option GObj)} (h:(l1.take k).set 0 none=(l2.take k).set 0 none):agree (fun i=>i < n+k∧¬ i=n) (Zr O n l1) (Zr O n l2):=Zyo (q:=0) h
theorem Z4l {O:Objs} {n k:Nat} {l1 l2:List (Option GObj)} (h1:l1.take k=l2.take k) (h2:l1.drop (k+1)=l2.drop (k+1)):agree (fun i=>i≠n+k) (Zr O n l1) (Zr O n l2):=fun i hi=>by
  unfold Zr
  split
  · rfl
  by_cases h:i - n < k
  · have e1:=congrArg (fun l=>l[i - n]?) h1
    simp only [List.getElem?_take,if_pos h] at e1
    rw [e1]
  have e1:=congrArg (fun l=>l[i - n - (k+1)]?) h2
  simp only [List.getElem?_drop] at e1
  have:k+1+(i - n - (k+1))=i - n:=by omega
  rw [this] at e1
  rw [e1]
theorem Z93 {O:Objs} {n:Nat} {x y:Option GObj} {l1 l2:List (Option GObj)} (h2:l1=l2):agree (fun i=>¬i=n) (Zr O n (x::l1)) (Zr O n (y::l2)):=Z4l (k:=0) rfl (by simpa using h2)
theorem Zes {ba:Nat} (hT:Qt P T) (hm:P.follows .mixedOrders=true) (ks:List Kd) (n0:Nat→Prop) (L:List Nat) (kl:List Kd) (ds:List (Option Bool)) {id:Nat} {ops:Array Oper} {O:Objs} {n:Nat} {E:Env} {Q:GQ}
    (h1:(Zyr ops.toList && Zu6 L ops.toList.length && Z3a ops.toList ks L)=true) (e1:L.map (Zhq ks)=kl)
    (h:Qa P T ops.toList n0 kl ds (U6 ops.toList L) E O n (Q .normal)):W P ba (.region id ops true) Q E O n:=by
  have h2:=h1
  rw [Bool.and_eq_true,Bool.and_eq_true] at h2
  obtain ⟨c1,_,_⟩:=Zp5 h2.1.2
  subst e1
  exact Z91 hT hm ks n0 L (U6 ops.toList L) ds h1 (Zot fun i hi=>((c1 i).1 hi).1) h
end
end Go.Proofs.YtkbcdcffpefklaaGreat
