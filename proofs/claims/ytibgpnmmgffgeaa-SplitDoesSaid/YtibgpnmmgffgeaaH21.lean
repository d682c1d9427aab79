/- Part H21 of the ghost memory: lemmas and contracts used by the proofs of this seat's laws; each theorem bears its own conditions. -/
import Derived.Test.YtibgpnmmgffgeaaH20
namespace Go.Proofs.Ytibgpnmmgffgeaa
open Go.RowKit
set_option linter.unusedVariables false
set_option linter.unusedSimpArgs false
section
variable {P:Program} {T:Kv}
def agree (n0:Nat→Prop) (O O':Objs):Prop:=∀ i,n0 i→O' i=O i
theorem agree.trans {n0:Nat→Prop} {O O' O'':Objs} (h:agree n0 O O') (k:agree n0 O' O''):agree n0 O O'':=fun i hi=>(k i hi).trans (h i hi)
def PA (P:Program) (T:Kv) (ops:List Oper) (n0:Nat→Prop) (O:Objs) (E:Env) (o:Oper) (r:G):Prop:=∀ O' n',agree n0 O O'→PS P T ops O' n' E o r
inductive Kd where
  | plain
  | low
  | bar
  | pass
  | shp
  | fill (b:Bool)
def sameS (O O':Objs):Prop:=∀ i o,O i=some o→∃ o',O' i=some o'∧o'.row=o.row∧o'.n=o.n
theorem sameS.refl (O:Objs):sameS O O:=fun _ o h=>⟨o,h,rfl,rfl⟩
theorem sameS.trans {O O' O'':Objs} (h:sameS O O') (k:sameS O' O''):sameS O O'':=fun i o ho=>by
  obtain ⟨o1,a1,a2,a3⟩:=h i o ho
  obtain ⟨o2,b1,b2,b3⟩:=k i o1 a1
  exact ⟨o2,b1,b2.trans a2,b3.trans a3⟩
def PH (P:Program) (T:Kv) (ops:List Oper) (O:Objs) (E:Env) (o:Oper) (r:G):Prop:=∀ O' n',sameS O O'→PS P T ops O' n' E o r
def Znl:Bool→G→Bool
  | false,.ref .. => true
  | true,.rp .. => true
  | _,_=>false
theorem Z8j {O O':Objs} {cs:List G} {a:G} {b:Bool} (hf:Znl b a=true) (h:Znb O cs a=some O'):∃ i q q',O i=some q∧q.row=b∧q'.row=q.row∧q'.n=q.n∧O'=O.upd i (some q')∧∀ O2:Objs,O2 i=some q→Znb O2 cs a=some (O2.upd i (some q')):=by
  cases a with
  | ref i off =>
    cases b with
    | true=>simp [Znl] at hf
    | false =>
      simp only [Znb] at h
      cases hi:O i with
      | none=>rw [hi] at h;cases h
      | some q =>
        rw [hi] at h
        simp only at h
        by_cases hr:q.row=true
        · rw [if_pos hr] at h;cases h
        rw [if_neg hr] at h
        obtain ⟨c,hc,e⟩:=Option.map_eq_some_iff.1 h
        exact ⟨i,q,{ q with cells:=c },hi,by simpa using hr,rfl,rfl,e.symm,fun O2 h2=>by simp only [Znb,h2];rw [if_neg hr,hc];rfl⟩
  | rp i k off =>
    cases b with
    | false=>simp [Znl] at hf
    | true =>
      simp only [Znb] at h
      cases hi:O i with
      | none=>rw [hi] at h;cases h
      | some q =>
        rw [hi] at h
        simp only at h
        by_cases hr:q.row=true∧k=q.n
        · rw [if_pos hr] at h
          obtain ⟨c,hc,e⟩:=Option.map_eq_some_iff.1 h
          exact ⟨i,q,{ q with cells:=c },hi,hr.1,rfl,rfl,e.symm,fun O2 h2=>by simp only [Znb,h2];rw [if_pos hr,hc];rfl⟩
        rw [if_neg hr] at h;cases h
  | _=>cases b <;> simp [Znl] at hf
def Fills (T:Kv) (b:Bool) (E:Env) (O:Objs) (op:Op) (O':Objs):Prop:=∃ t a x,op = .store t a x∧Znl b (evS E a)=true∧Zjn T O t (evS E a) (evS E x)=some O'∧wok (op.operands.toList.map (ev E))
theorem Zl0 {T:Kv} {O O':Objs} {t:TypeId} {x a:G} {b:Bool} (hf:Znl b a=true) (h:Zjn T O t a x=some O'):∃ i q q',O i=some q∧q.row=b∧q'.row=q.row∧q'.n=q.n∧O'=O.upd i (some q')∧∀ O2:Objs,O2 i=some q→Zjn T O2 t a x=some (O2.upd i (some q')):=by
  unfold Zjn at h ⊢
  split at h
  · split at h
    · rename_i hc
      obtain ⟨i,q,q',h1,h2,h3,h4,h5,h6⟩:=Z8j hf h
      exact ⟨i,q,q',h1,h2,h3,h4,h5,fun O2 ho=>by rw [if_pos hc];exact h6 O2 ho⟩
    cases h
  cases h
theorem Z86 (O:Objs) {i j:Nat} (a b:Option GObj) (h:i≠j):(O.upd i a).upd j b=(O.upd j b).upd i a:=by
  funext k
  unfold Objs.upd
  by_cases h1:k=i
  · subst h1;rw [if_neg h];simp
  by_cases h2:k=j
  · subst h2;simp [h1]
  simp [h1,h2]
theorem Z9y {O:Objs} {i:Nat} {q q':GObj} (ho:O i=some q) (h1:q'.row=q.row) (h2:q'.n=q.n):sameS O (O.upd i (some q'))∧sameS (O.upd i (some q')) O:=by
  refine ⟨fun j o hj => ?_,fun j o hj => ?_⟩
  · by_cases e:j=i
    · subst e;rw [ho] at hj;injection hj with hj;subst hj;exact ⟨q',Z8 _ _ _,h1,h2⟩
    exact ⟨o,by rw [Yv _ _ e];exact hj,rfl,rfl⟩
  by_cases e:j=i
  · subst e;rw [Z8] at hj;injection hj with hj;subst hj;exact ⟨q,ho,h1.symm,h2.symm⟩
  rw [Yv _ _ e] at hj;exact ⟨o,hj,rfl,rfl⟩
theorem Fills.same {b:Bool} {E:Env} {O O':Objs} {op:Op} (h:Fills T b E O op O'):sameS O O'∧sameS O' O:=by
  obtain ⟨t,a,x,_,hf,hs,_⟩:=h
  obtain ⟨i,q,q',h1,h2,h3,h4,h5,_⟩:=Zl0 hf hs
  subst h5
  exact Z9y h1 h3 h4
theorem Fills.eq {b:Bool} {E E':Env} {O O':Objs} {op:Op} (hE:∀ x∈op.operands,ev E x=ev E' x) (h:Fills T b E O op O'):Fills T b E' O op O':=by
  obtain ⟨t,a,x,e,hf,hs,hw⟩:=h
  subst e
  have e1:evS E a=evS E' a:=by unfold evS;rw [hE a (by simp [Op.operands])]
  have e2:evS E x=evS E' x:=by unfold evS;rw [hE x (by simp [Op.operands])]
  refine ⟨t,a,x,rfl,by rw [← e1];exact hf,by rw [← e1,← e2];exact hs,?_⟩
  rw [show (Op.store t a x).operands.toList.map (ev E')=(Op.store t a x).operands.toList.map (ev E) from List.map_congr_left fun y hy=>(hE y (by simpa using hy)).symm]
  exact hw
theorem Fills.swap {b c:Bool} (hbc:(b != c)=true) {E E':Env} {O O1 O2:Objs} {op op':Op} (h:Fills T c E O op O1) (k:Fills T b E' O1 op' O2):∃ O3,Fills T b E' O op' O3∧Fills T c E O3 op O2:=by
  obtain ⟨t,a,x,e,hf,hs,hw⟩:=h
  obtain ⟨t',a',x',e',hf',hs',hw'⟩:=k
  obtain ⟨i,q,q',h1,h2,h3,h4,h5,h6⟩:=Zl0 hf hs
  obtain ⟨j,p,p',k1,k2,k3,k4,k5,k6⟩:=Zl0 hf' hs'
  subst h5 k5
  have hij:i≠j:=fun e=>by
    subst e
    rw [Z8] at k1
    injection k1 with k1
    subst k1
    rw [h3,h2] at k2
    subst k2
    cases c <;> simp at hbc
  rw [Yv _ _ (Ne.symm hij)] at k1
  refine ⟨O.upd j (some p'),⟨t',a',x',e',hf',k6 O k1,hw'⟩,⟨t,a,x,e,hf,?_,hw⟩⟩
  rw [h6 _ (by rw [Yv _ _ hij];exact h1),Z86 _ _ _ hij]
theorem Fills.gop {b:Bool} {E:Env} {O O':Objs} {n:Nat} {op:Op} {K:G→Objs→Nat→Prop} (h:Fills T b E O op O') (hk:K (.val undef) O' n):gop P T E O n op K:=by
  obtain ⟨t,a,x,e,hf,hs,hw⟩:=h
  subst e
  unfold Go.Proofs.Ytibgpnmmgffgeaa.gop Zer Zac
  simp only [hs,Option.map_some]
  exact ⟨⟨hw,trivial⟩,hk⟩
def Zff (ks:List Kd) (i:Nat):Kd:=ks.getD i .plain
def Zle (P:Program) (T:Kv) (ops:List Oper) (n0:Nat→Prop) (k:Kd) (o:Oper) (E:Env) (O:Objs) (n:Nat) (K:GK):Prop :=
  match k with
  | .plain=>∃ r,PS P T ops O n E o r∧K (Yr E o.dst r) O n
  | .low=>∃ r,PA P T ops n0 O E o r∧K (Yr E o.dst r) O n
  | .bar=>Qj ops E o=some true∧gop P T E O n o.op fun g O' n'=>K (Yr E o.dst g) O' n'
  | .pass=>Qj ops E o=some true∧gop P T E O n o.op fun g O' n'=>agree n0 O O'∧K (Yr E o.dst g) O' n'
  | .shp=>∃ r,PH P T ops O E o r∧K (Yr E o.dst r) O n
  | .fill b=>Qj ops E o=some true∧∃ O',Fills T b E O o.op O'∧K (Yr E o.dst (.val undef)) O' n
theorem Zix {ops:List Oper} {n0:Nat→Prop} {k:Kd} {o:Oper} {E:Env} {O:Objs} {n:Nat} {K K':GK} (h:Zle P T ops n0 k o E O n K) (hk:∀ E O n,K E O n→K' E O n):Zle P T ops n0 k o E O n K':=by
  cases k with
  | plain=>obtain ⟨r,h1,h2⟩:=h;exact ⟨r,h1,hk _ _ _ h2⟩
  | low=>obtain ⟨r,h1,h2⟩:=h;exact ⟨r,h1,hk _ _ _ h2⟩
  | bar=>exact ⟨h.1,Vk h.2 fun _ _ _=>hk _ _ _⟩
  | pass=>exact ⟨h.1,Vk h.2 fun _ _ _ q=>⟨q.1,hk _ _ _ q.2⟩⟩
  | shp=>obtain ⟨r,h1,h2⟩:=h;exact ⟨r,h1,hk _ _ _ h2⟩
  | fill b=>obtain ⟨h0,O',h1,h2⟩:=h;exact ⟨h0,O',h1,hk _ _ _ h2⟩
theorem Zt6 {ops:List Oper} {O:Objs} {E E':Env} {o:Oper} {r:G} (hd:∀ t∈Zhd ops o,Jw E.l t=Jw E'.l t) (h:PH P T ops O E o r):PH P T ops O E' o r:=fun O' n' ha=>Ze7 hd (h O' n' ha)
theorem Zt5 {ops:List Oper} {n0:Nat→Prop} {O:Objs} {E E':Env} {o:Oper} {r:G} (hd:∀ t∈Zhd ops o,Jw E.l t=Jw E'.l t) (h:PA P T ops n0 O E o r):PA P T ops n0 O E' o r:=fun O' n' ha=>Ze7 hd (h O' n' ha)
theorem Ybr {ops:List Oper} {n0:Nat→Prop} {k:Kd} {o:Oper} {E E':Env} {O:Objs} {n:Nat} {K:GK} (hK:EqK K) (hE:EqE E E') (h:Zle P T ops n0 k o E O n K):Zle P T ops n0 k o E' O n K:=by
  obtain ⟨hw,hx⟩:=Zek (ops:=ops) (o:=o) (E:=E) (E':=E') fun t _=>hE.2 t
  cases k with
  | plain=>obtain ⟨r,h1,h2⟩:=h;exact ⟨r,Ze7 (fun t _=>hE.2 t) h1,hK _ _ _ _ (hE.put _ _) h2⟩
  | low=>obtain ⟨r,h1,h2⟩:=h;exact ⟨r,Zt5 (fun t _=>hE.2 t) h1,hK _ _ _ _ (hE.put _ _) h2⟩
  | bar=>exact ⟨hw.trans h.1,Vk (Zgc hx h.2) fun g O' n' hk=>hK _ _ _ _ (hE.put _ _) hk⟩
  | pass=>exact ⟨hw.trans h.1,Vk (Zgc hx h.2) fun g O' n' hk=>⟨hk.1,hK _ _ _ _ (hE.put _ _) hk.2⟩⟩
  | shp=>obtain ⟨r,h1,h2⟩:=h;exact ⟨r,Zt6 (fun t _=>hE.2 t) h1,hK _ _ _ _ (hE.put _ _) h2⟩
  | fill b=>obtain ⟨h0,O',h1,h2⟩:=h;exact ⟨hw.trans h0,O',h1.eq hx,hK _ _ _ _ (hE.put _ _) h2⟩
def Ze0 (ki kj:Kd) (y:Oper):Bool:=match ki,kj with
  | .plain,.plain=>true
  | .plain,.low=>true
  | .low,.plain=>true
  | .low,.low=>true
  | .pass,.low=>true
  | .pass,.plain=>Zfb y
  | .bar,.plain=>Zfb y
  | .plain,.shp=>true
  | .low,.shp=>true
  | .shp,.plain=>true
  | .shp,.low=>true
  | .shp,.shp=>true
  | .fill _,.shp=>true
  | .shp,.fill _=>true
  | .fill b,.fill c=>b != c
  | .fill _,.plain=>Zfb y
  | _,_=>false
theorem Z5f {ops:List Oper} {n0:Nat→Prop} {ki kj:Kd} {o y:Oper} {E:Env} {O:Objs} {n:Nat} {K:GK} (hK:EqK K) (hi:Zje ops o y=true) (hb:Ze0 ki kj y=true)
    (h:Zle P T ops n0 kj y E O n fun E1 O1 n1=>Zle P T ops n0 ki o E1 O1 n1 K):Zle P T ops n0 ki o E O n fun E1 O1 n1=>Zle P T ops n0 kj y E1 O1 n1 K:=by
  obtain ⟨s1,s2⟩:=Zoc hi
  have hlk:∀ r,∀ t∈Zhd ops o,Jw (Yr E y.dst r).l t=Jw E.l t:=fun r t ht=>by rw [Zhc,if_neg (fun q=>s2 t q.1 ht)]
  have hly:∀ r,∀ t∈Zhd ops y,Jw (Yr E o.dst r).l t=Jw E.l t:=fun r t ht=>by rw [Zhc,if_neg (fun q=>(s1 t q.1).1 ht)]
  have hc:∀ r r',EqE (Yr (Yr E y.dst r) o.dst r') (Yr (Yr E o.dst r') y.dst r):=fun r r'=>Zp0 fun t ht=>fun q=>(s1 t q).2 ht
  have hlo:∀ r,∀ x∈o.op.operands,ev (Yr E y.dst r) x=ev E x:=fun r=>(Zek (hlk r)).2
  have hlo':∀ r,∀ x∈y.op.operands,ev E x=ev (Yr E o.dst r) x:=fun r=>(Zek (E:=E) (E':=Yr E o.dst r) fun t ht=>(hly r t ht).symm).2
  have hwo:∀ r,Qj ops E o=Qj ops (Yr E y.dst r) o:=fun r=>(Zek (hlk r)).1
  have hwy:∀ r,Qj ops (Yr E o.dst r) y=Qj ops E y:=fun r=>(Zek (E:=E) (E':=Yr E o.dst r) fun t ht=>(hly r t ht).symm).1
  cases kj with
  | bar=>cases ki <;> simp [Ze0] at hb
  | pass=>cases ki <;> simp [Ze0] at hb
  | shp =>
    obtain ⟨r,h1,h2⟩:=h
    cases ki with
    | bar=>simp [Ze0] at hb
    | pass=>simp [Ze0] at hb
    | plain =>
      obtain ⟨r',h3,h4⟩:=h2
      exact ⟨r',Ze7 (hlk r) h3,r,Zt6 (fun t ht=>(hly r' t ht).symm) h1,hK _ _ _ _ (hc r r') h4⟩
    | low =>
      obtain ⟨r',h3,h4⟩:=h2
      exact ⟨r',Zt5 (hlk r) h3,r,Zt6 (fun t ht=>(hly r' t ht).symm) h1,hK _ _ _ _ (hc r r') h4⟩
    | shp =>
      obtain ⟨r',h3,h4⟩:=h2
      exact ⟨r',Zt6 (hlk r) h3,r,Zt6 (fun t ht=>(hly r' t ht).symm) h1,hK _ _ _ _ (hc r r') h4⟩
    | fill b =>
      obtain ⟨h0,O',h3,h4⟩:=h2
      have h3':=h3.eq (hlo r)
      exact ⟨(hwo r).trans h0,O',h3',r,fun O2 n2 ha=>Ze7 (fun t ht=>(hly _ t ht).symm) (h1 O2 n2 (h3'.same.1.trans ha)),hK _ _ _ _ (hc r _) h4⟩
  | fill c =>
    obtain ⟨h0,O1,h1,h2⟩:=h
    cases ki with
    | plain=>simp [Ze0] at hb
    | low=>simp [Ze0] at hb
    | bar=>simp [Ze0] at hb
    | pass=>simp [Ze0] at hb
    | shp =>
      obtain ⟨r,h3,h4⟩:=h2
      exact ⟨r,fun O2 n2 ha=>Ze7 (hlk _) (h3 O2 n2 (h1.same.2.trans ha)),(hwy r).trans h0,O1,h1.eq (hlo' r),hK _ _ _ _ (hc _ r) h4⟩
    | fill b =>
      obtain ⟨g0,O2,h3,h4⟩:=h2
      obtain ⟨O3,k1,k2⟩:=Fills.swap (show (b != c)=true from hb) h1 (h3.eq (hlo _))
      exact ⟨(hwo _).trans g0,O3,k1,(hwy _).trans h0,O2,k2.eq (hlo' _),hK _ _ _ _ (hc _ _) h4⟩
  | plain =>
    obtain ⟨r,h1,h2⟩:=h
    cases ki with
    | plain =>
      obtain ⟨r',h3,h4⟩:=h2
      exact ⟨r',Ze7 (hlk r) h3,r,Ze7 (fun t ht=>(hly r' t ht).symm) h1,hK _ _ _ _ (hc r r') h4⟩
    | low =>
      obtain ⟨r',h3,h4⟩:=h2
      exact ⟨r',Zt5 (hlk r) h3,r,Ze7 (fun t ht=>(hly r' t ht).symm) h1,hK _ _ _ _ (hc r r') h4⟩
    | shp =>
      obtain ⟨r',h3,h4⟩:=h2
      exact ⟨r',Zt6 (hlk r) h3,r,Ze7 (fun t ht=>(hly r' t ht).symm) h1,hK _ _ _ _ (hc r r') h4⟩
    | fill b =>
      have hf:Zfb y=true:=hb
      obtain ⟨h0,O',h3,h4⟩:=h2
      exact ⟨(hwo r).trans h0,O',h3.eq (hlo r),r,Ztd hf (Ze7 (fun t ht=>(hly _ t ht).symm) h1),hK _ _ _ _ (hc r _) h4⟩
    | bar =>
      have hf:Zfb y=true:=hb
      obtain ⟨hw,hx⟩:=Zek (hlk r)
      exact ⟨hw.trans h2.1,Vk (Zgc hx h2.2) fun g O' n' hk=>⟨r,Ztd hf (Ze7 (fun t ht=>(hly g t ht).symm) h1),hK _ _ _ _ (hc r g) hk⟩⟩
    | pass =>
      have hf:Zfb y=true:=hb
      obtain ⟨hw,hx⟩:=Zek (hlk r)
      exact ⟨hw.trans h2.1,Vk (Zgc hx h2.2) fun g O' n' hk=>⟨hk.1,r,Ztd hf (Ze7 (fun t ht=>(hly g t ht).symm) h1),hK _ _ _ _ (hc r g) hk.2⟩⟩
  | low =>
    obtain ⟨r,h1,h2⟩:=h
    cases ki with
    | bar=>simp [Ze0] at hb
    | fill b=>simp [Ze0] at hb
    | shp =>
      obtain ⟨r',h3,h4⟩:=h2
      exact ⟨r',Zt6 (hlk r) h3,r,Zt5 (fun t ht=>(hly r' t ht).symm) h1,hK _ _ _ _ (hc r r') h4⟩
    | plain =>
      obtain ⟨r',h3,h4⟩:=h2
      exact ⟨r',Ze7 (hlk r) h3,r,Zt5 (fun t ht=>(hly r' t ht).symm) h1,hK _ _ _ _ (hc r r') h4⟩
    | low =>
      obtain ⟨r',h3,h4⟩:=h2
      exact ⟨r',Zt5 (hlk r) h3,r,Zt5 (fun t ht=>(hly r' t ht).symm) h1,hK _ _ _ _ (hc r r') h4⟩
    | pass =>
      obtain ⟨hw,hx⟩:=Zek (hlk r)
      exact ⟨hw.trans h2.1,Vk (Zgc hx h2.2) fun g O' n' hk=>⟨hk.1,r,fun O2 n2 ha=>Ze7 (fun t ht=>(hly g t ht).symm) (h1 O2 n2 (hk.1.trans ha)),hK _ _ _ _ (hc r g) hk.2⟩⟩
def Zc4 (P:Program) (T:Kv) (ops:List Oper) (ks:List Kd) (n0:Nat→Prop):List Nat→Env→Objs→Nat→GK→Prop
  | [],E,O,n,K=>K E O n
  | i::l,E,O,n,K=>match ops[i]? with
    | none=>Zc4 P T ops ks n0 l E O n K
    | some o=>Zle P T ops n0 (Zff ks i) o E O n fun E O n=>Zc4 P T ops ks n0 l E O n K
theorem Zgq {ops:List Oper} {ks:List Kd} {n0:Nat→Prop} {i:Nat} {o:Oper} {l:List Nat} {E:Env} {O:Objs} {n:Nat} {K:GK} (ho:ops[i]? = some o):Zc4 P T ops ks n0 (i::l) E O n K=Zle P T ops n0 (Zff ks i) o E O n fun E O n=>Zc4 P T ops ks n0 l E O n K:=by
  simp only [Zc4,ho]
theorem Zhm {ops:List Oper} {ks:List Kd} {n0:Nat→Prop} {K:GK} (hK:EqK K):∀ l:List Nat,EqK fun E O n=>Zc4 P T ops ks n0 l E O n K
  | []=>hK
  | i::l=>fun E E' O n hE h=>by
    cases ho:ops[i]? with
    | none=>simp only [Zc4,ho] at h ⊢;exact Zhm hK l E E' O n hE h
    | some o =>
      simp only [Zgq ho] at h ⊢
      exact Ybr (Zhm hK l) hE h
theorem V0 {ops:List Oper} {ks:List Kd} {n0:Nat→Prop} {K K':GK} (hk:∀ E O n,K E O n→K' E O n):∀ (l:List Nat) (E:Env) (O:Objs) (n:Nat),Zc4 P T ops ks n0 l E O n K→Zc4 P T ops ks n0 l E O n K'
  | [],E,O,n,h=>hk _ _ _ h
  | i::l,E,O,n,h=>by
    cases ho:ops[i]? with
    | none=>simp only [Zc4,ho] at h ⊢;exact V0 hk l E O n h
    | some o =>
      rw [Zgq ho] at h ⊢
      exact Zix h fun E O n q=>V0 hk l E O n q
theorem Ze5 {ops:List Oper} {ks:List Kd} {n0:Nat→Prop} {K:GK} (L2:List Nat):∀ (l:List Nat) (E:Env) (O:Objs) (n:Nat),Zc4 P T ops ks n0 l E O n (fun E O n=>Zc4 P T ops ks n0 L2 E O n K)→Zc4 P T ops ks n0 (l++L2) E O n K
  | [],E,O,n,h=>h
  | i::l,E,O,n,h=>by
    rw [List.cons_append]
    cases ho:ops[i]? with
    | none=>simp only [Zc4,ho] at h ⊢;exact Ze5 L2 l E O n h
    | some o =>
      rw [Zgq ho] at h ⊢
      exact Zix h fun E O n q=>Ze5 L2 l E O n q
theorem Zc5 {ops:List Oper} {ks:List Kd} {n0:Nat→Prop} {K:GK} (hK:EqK K) {i:Nat} {o:Oper} (ho:ops[i]? = some o) (L2:List Nat):∀ (L1:List Nat) (E:Env) (O:Objs) (n:Nat),Zc4 P T ops ks n0 (L1++i::L2) E O n K →
    (∀ j∈L1,∀ y,ops[j]? = some y→Zje ops o y=true∧Ze0 (Zff ks i) (Zff ks j) y=true)→Zle P T ops n0 (Zff ks i) o E O n fun E O n=>Zc4 P T ops ks n0 (L1++L2) E O n K
  | [],E,O,n,h,_=>by rw [List.nil_append,Zgq ho] at h;exact h
  | j::L1,E,O,n,h,hc=>by
    rw [List.cons_append] at h
    cases hj:ops[j]? with
    | none =>
      simp only [Zc4,hj] at h
      refine Zix (Zc5 hK ho L2 L1 E O n h fun k hk=>hc k (.tail _ hk)) fun E O n hr => ?_
      rw [List.cons_append]
      simp only [Zc4,hj]
      exact hr
    | some y =>
      rw [Zgq hj] at h
      have h':=Zix h fun E O n hr=>Zc5 hK ho L2 L1 E O n hr fun k hk=>hc k (.tail _ hk)
      obtain ⟨c1,c2⟩:=hc j (.head _) y hj
      refine Zix (Z5f (Zhm hK (L1++L2)) c1 c2 h') fun E O n hr => ?_
      rw [List.cons_append,Zgq hj]
      exact hr
theorem Zgo (hT:Qo P T) {ops:List Oper} {n0:Nat→Prop} {i:Nat} {k:Kd} {o:Oper} {w:World} {O:Objs} {m:Hands} {n:Nat} {E:Env} {a:Act} {R:GK} {Q:Exit→Act→World→Prop} {Kn:Act→World→Prop} (ho:ops[i]? = some o) (hM:Mem w O m n) (hE:Holds w O m n E a)
    (h:Zle P T ops n0 k o E O n R) (next:∀ w' O' m' n' E' a',R E' O' n'→Mem w' O' m' n'→Holds w' O' m' n' E' a'→Ext w O m n w' O' m' n'→Kn a' w'):wpOp P ops.toArray Q i Kn a w:=by
  have hoA:ops.toArray[i]? = some o:=by simpa using ho
  unfold wpOp
  rw [hoA]
  simp only
  have bars:Qj ops E o=some true∧gop P T E O n o.op (fun g O' n'=>R (Yr E o.dst g) O' n')→if Region.wanted o (yielded ops.toArray a.tmps)=true then o.wp P a w Kn Q∨(o.asks P a w∧LetsOut Q) else Kn (a.put o.dst undef) w:=fun ⟨hw,hgop⟩=>by
    rw [Qy hE hw,if_pos rfl]
    exact .inl (Zh6 hT hM hE hgop fun v g w' O' m' n' hr hM' hX hg=>next _ _ _ _ _ _ hr hM' ((hE.ext hX).put _ hg) hX)
  have pures:(∃ r,PS P T ops O n E o r∧R (Yr E o.dst r) O n)→if Region.wanted o (yielded ops.toArray a.tmps)=true then o.wp P a w Kn Q∨(o.asks P a w∧LetsOut Q) else Kn (a.put o.dst undef) w:=fun ⟨r,hps,hrun'⟩=>by
    rcases hps with ⟨hw,hpop⟩ | ⟨hw,rfl⟩ | ⟨b,g,hw,hcalm,⟨S,O2,n2,hst,hSS⟩,rfl⟩
    · rw [Qy hE hw,if_pos rfl]
      refine .inl (Zh6 hT hM hE (Z0f hpop) fun v g w' O' m' n' ⟨e1,e2,e3⟩ hM' hX hg => ?_)
      subst e1 e2 e3
      exact next _ _ _ _ _ _ hrun' hM' ((hE.ext hX).put _ hg) hX
    · rw [Qy hE hw,if_neg Bool.false_ne_true]
      exact next _ _ _ _ _ _ hrun' hM (hE.put (g := .val undef) (v:=undef) _ (by simp [G.rep])) (Ext.refl _ _ _ _)
    obtain ⟨e1,e2⟩:=Zjz hcalm hst
    subst e1 e2
    rw [Qy hE hw]
    cases b with
    | true =>
      rw [if_pos rfl]
      refine .inl ?_
      obtain ⟨v,nx,w',m',h1,h2,h3,h4,h5⟩:=Zh9 hT hM hE hst (hSS rfl)
      have hg:(G.when true g).rep w' O2 m' n2 v:=by simp only [G.rep];exact ⟨fun _=>h5,fun h=>by cases h⟩
      have fin:=next _ _ _ _ _ _ hrun' h3 ((hE.ext h4).put o.dst hg) h4
      unfold Oper.wp
      rw [h1]
      rcases h2 with rfl | ⟨rfl,rfl⟩ <;> exact fin
    | false =>
      rw [if_neg Bool.false_ne_true]
      exact next _ _ _ _ _ _ hrun' hM (hE.put (g := .when false g) (v:=undef) _ (by simp [G.rep,undef])) (Ext.refl _ _ _ _)
  cases k with
  | plain=>exact pures h
  | low =>
    obtain ⟨r,h1,h2⟩:=h
    exact pures ⟨r,h1 O n (fun _ _=>rfl),h2⟩
  | bar=>exact bars h
  | pass=>exact bars ⟨h.1,Vk h.2 fun _ _ _ q=>q.2⟩
  | shp =>
    obtain ⟨r,h1,h2⟩:=h
    exact pures ⟨r,h1 O n (sameS.refl O),h2⟩
  | fill b =>
    obtain ⟨h0,O',h1,h2⟩:=h
    exact bars ⟨h0,h1.gop h2⟩
end
section
variable {P:Program} {T:Kv}
def Zrb (ops:List Oper):Bool:=(List.range ops.length).all fun i=>match ops[i]? with
  | none=>true
  | some o=>o.after.toList.all fun e => !Region.binds .any e || decide (e.on < i)
theorem Zrc {ops:List Oper} (h:Zrb ops=true):∀ i o,ops[i]? = some o→∀ e∈o.after.toList,Region.binds .any e=true→e.on < i:=fun i o ho e he hbd=>by
  have hi:i < ops.length:=by
    rcases Nat.lt_or_ge i ops.length with h | h
    · exact h
    rw [List.getElem?_eq_none h] at ho;cases ho
  have:=List.all_eq_true.1 h i (List.mem_range.2 hi)
  simp only [ho,List.all_eq_true] at this
  have h2:=this e he
  rw [hbd] at h2
  simpa using h2
def Zbz (ops:List Oper) (ks:List Kd) (j i:Nat):Bool:=match ops[i]?,ops[j]? with
  | some o,some y=>(Zje ops o y && Ze0 (Zff ks i) (Zff ks j) y) || ((Zei ops []).getD i []).contains j
  | _,_=>true
theorem Zr9 {ops:List Oper} {listed:Array Bool} {R:List Nat} (hb:∀ i o,ops[i]? = some o→∀ e∈o.after.toList,Region.binds .any e=true→e.on < i) (hsz:listed.size=ops.length) (hmem:∀ i,i∈R↔i < ops.length∧listed.getD i true=false) (hnil:Region.ready .any ops.toArray listed=[]):R=[]:=by
  have key:∀ N i,i < N→i∈R→False:=fun N=>by
    induction N with
    | zero=>intro i hi;omega
    | succ N ih =>
      intro i hi hiR
      obtain ⟨h1,h2⟩:=(hmem i).1 hiR
      have:i∈Region.ready .any ops.toArray listed:=by
        unfold Region.ready
        refine List.mem_filter.2 ⟨by simpa using h1,?_⟩
        have ho:ops.toArray[i]? = some ops[i]:=by simp [h1]
        rw [h2,ho]
        simp only [Bool.not_false,Option.map_some,Option.getD_some,Bool.true_and,← Array.all_toList,List.all_eq_true]
        intro e he
        by_cases hbd:Region.binds .any e=true
        · have hlt:=hb i _ (List.getElem?_eq_getElem h1) e he hbd
          have hnot:e.on ∉ R:=fun h=>ih e.on (by omega) h
          have:listed.getD e.on true=true:=by
            cases hq:listed.getD e.on true with
            | true=>rfl
            | false=>exact absurd ((hmem e.on).2 ⟨by omega,hq⟩) hnot
          have hin:e.on < listed.size:=by omega
          have:listed.getD e.on false=true:=by simpa [Array.getD,hin] using this
          simp [this]
        simp [hbd]
      rw [hnil] at this
      cases this
  cases R with
  | nil=>rfl
  | cons i R'=>exact (key (i+1) i (Nat.lt_succ_self _) (.head _)).elim
theorem Zot {ops:List Oper} {listed:Array Bool} {i:Nat} (hb:∀ i o,ops[i]? = some o→∀ e∈o.after.toList,Region.binds .any e=true→e.on < i) (hsz:listed.size=ops.length)
    (hdown:∀ k o,ops[k]? = some o→listed.getD k true=true→∀ e∈o.after.toList,Region.binds .any e=true→listed.getD e.on false=true) (hi:i∈Region.ready .any ops.toArray listed) :
    ∃ o,ops[i]? = some o∧i < ops.length∧listed.getD i true=false∧(∀ e∈o.after.toList,Region.binds .any e=true→listed.getD e.on false=true)∧∀ j,listed.getD j true=false→j < ops.length→j ∉ (Zei ops []).getD i []:=by
  unfold Region.ready at hi
  obtain ⟨hi1,hi2⟩:=List.mem_filter.1 hi
  have hil:i < ops.length:=by simpa using hi1
  have ho:ops[i]? = some ops[i]:=List.getElem?_eq_getElem hil
  have hoA:ops.toArray[i]? = some ops[i]:=by simp [hil]
  rw [Bool.and_eq_true,hoA] at hi2
  have hun:listed.getD i true=false:=by simpa using hi2.1
  have haft:∀ e∈(ops[i]).after.toList,Region.binds .any e=true→listed.getD e.on false=true:=fun e he hbd=>by
    have:=hi2.2
    simp only [Option.map_some,Option.getD_some,← Array.all_toList,List.all_eq_true] at this
    have:=this e he
    rw [hbd] at this
    simpa using this
  have hclos:∀ N k o,k≤N→ops[k]? = some o→(∀ e∈o.after.toList,Region.binds .any e=true→listed.getD e.on false=true)→∀ j∈(Zei ops []).getD k [],listed.getD j false=true:=by
    intro N
    induction N with
    | zero =>
      intro k o hk hko hka j hj
      have hkl:k < ops.length:=by
        rcases Nat.lt_or_ge k ops.length with h | h
        · exact h
        rw [List.getElem?_eq_none h] at hko;cases hko
      obtain ⟨e,he,hbd,hj⟩:=Zh7 ops hb ops [] [] rfl rfl k o hko j hj (by simpa using hkl) (Nat.zero_le _)
      have:=hb k o hko e he hbd
      omega
    | succ N ihN =>
      intro k o hk hko hka j hj
      have hkl:k < ops.length:=by
        rcases Nat.lt_or_ge k ops.length with h | h
        · exact h
        rw [List.getElem?_eq_none h] at hko;cases hko
      obtain ⟨e,he,hbd,hj⟩:=Zh7 ops hb ops [] [] rfl rfl k o hko j hj (by simpa using hkl) (Nat.zero_le _)
      have hlt:=hb k o hko e he hbd
      rcases hj with rfl | hj
      · exact hka e he hbd
      have hel:e.on < ops.length:=by omega
      have hin:e.on < listed.size:=by omega
      refine ihN e.on _ (by omega) (List.getElem?_eq_getElem hel) (fun e' he' hbd'=>hdown e.on _ (List.getElem?_eq_getElem hel) ?_ e' he' hbd') j hj
      have:=hka e he hbd
      simpa [Array.getD,hin] using this
  refine ⟨_,ho,hil,hun,haft,fun j hul hjl h => ?_⟩
  have:=hclos i i _ (Nat.le_refl _) ho haft j h
  have hin:j < listed.size:=by omega
  have h3:listed.getD j true=true:=by simpa [Array.getD,hin] using this
  rw [hul] at h3;cases h3
theorem Zj0 {ops:List Oper} {listed:Array Bool} {i:Nat} {oi:Oper} (hin:i < listed.size) (ho:ops[i]? = some oi) (haft:∀ e∈oi.after.toList,Region.binds .any e=true→listed.getD e.on false=true)
    (hdown:∀ k o,ops[k]? = some o→listed.getD k true=true→∀ e∈o.after.toList,Region.binds .any e=true→listed.getD e.on false=true) :
    ∀ k o,ops[k]? = some o→(listed.setIfInBounds i true).getD k true=true→∀ e∈o.after.toList,Region.binds .any e=true→(listed.setIfInBounds i true).getD e.on false=true:=fun k o hk hkl e he hbd=>by
  have up:∀ q,listed.getD q false=true→(listed.setIfInBounds i true).getD q false=true:=fun q hq=>by
    by_cases hqi:q=i
    · subst hqi;simp [Array.getD,hin]
    simpa [Array.getD_eq_getD_getElem?,Array.getElem?_setIfInBounds_ne (Ne.symm hqi)] using hq
  by_cases hki:k=i
  · subst hki
    rw [ho] at hk
    injection hk with hk
    subst hk
    exact up _ (haft e he hbd)
  refine up _ (hdown k o hk ?_ e he hbd)
  simpa [Array.getD_eq_getD_getElem?,Array.getElem?_setIfInBounds_ne (Ne.symm hki)] using hkl
theorem Zm0 {ops:List Oper} {listed:Array Bool} {i:Nat} {R1 R2:List Nat} (hin:i < listed.size) (hmem:∀ k,k∈R1++i::R2↔k < ops.length∧listed.getD k true=false) (hnd:(R1++i::R2).Nodup) :
    ∀ k,k∈R1++R2↔k < ops.length∧(listed.setIfInBounds i true).getD k true=false:=fun k=>by
  have hni:i ∉ R1++R2:=by
    have h1:=List.nodup_append.1 hnd
    have h2:=List.nodup_cons.1 h1.2.1
    intro h
    rcases List.mem_append.1 h with h | h
    · exact h1.2.2 i h i (.head _) rfl
    exact h2.1 h
  by_cases hki:k=i
  · subst hki
    refine ⟨fun h=>absurd h hni,fun h => ?_⟩
    have:=h.2
    simp [Array.getD,hin] at this
  have e:(listed.setIfInBounds i true).getD k true=listed.getD k true:=by simp [Array.getD_eq_getD_getElem?,Array.getElem?_setIfInBounds_ne (Ne.symm hki)]
  rw [e,← hmem k]
  simp [hki]
theorem Zkj (hT:Qo P T) {ops:List Oper} {ks:List Kd} {n0:Nat→Prop} (hb:∀ i o,ops[i]? = some o→∀ e∈o.after.toList,Region.binds .any e=true→e.on < i) {Q:Exit→Act→World→Prop} {K:GK} (hK:EqK K) :
    ∀ (fuel:Nat) (listed:Array Bool) (R:List Nat) (w:World) (O:Objs) (m:Hands) (n:Nat) (E:Env) (a:Act),listed.size=ops.length→(∀ i,i∈R↔i < ops.length∧listed.getD i true=false)→R.Nodup→R.Pairwise (fun j i=>Zbz ops ks j i=true)→R.length≤fuel →
    (∀ i o,ops[i]? = some o→listed.getD i true=true→∀ e∈o.after.toList,Region.binds .any e=true→listed.getD e.on false=true) →
    Zc4 P T ops ks n0 R E O n K→Mem w O m n→Holds w O m n E a →
    (∀ w' O' m' n' E' a',K E' O' n'→Mem w' O' m' n'→Holds w' O' m' n' E' a'→Ext w O m n w' O' m' n'→Q .normal a' w')→wpAny P .any ops.toArray Q fuel listed a w:=by
  intro fuel
  induction fuel with
  | zero =>
    intro listed R w O m n E a hsz hmem hnd hpw hlen hdown hrun hM hE hQ
    obtain rfl:R=[]:=List.eq_nil_of_length_eq_zero (by omega)
    refine ⟨?_,hQ w O m n E a hrun hM hE (Ext.refl _ _ _ _)⟩
    unfold Region.ready
    refine List.filter_eq_nil_iff.2 fun i hi => ?_
    have hi':i < ops.length:=by simpa using hi
    have:¬ listed.getD i true=false:=fun h=>by have:=(hmem i).2 ⟨hi',h⟩;cases this
    simp only [Bool.not_eq_false] at this
    simp [this]
  | succ fuel ih =>
    intro listed R w O m n E a hsz hmem hnd hpw hlen hdown hrun hM hE hQ
    refine ⟨fun hnil => ?_,fun i hi => ?_⟩
    · obtain rfl:=Zr9 hb hsz hmem hnil
      exact hQ w O m n E a hrun hM hE (Ext.refl _ _ _ _)
    obtain ⟨o,ho,hil,hun,haft,notbef⟩:=Zot hb hsz hdown hi
    obtain ⟨R1,R2,rfl⟩:=List.append_of_mem ((hmem i).2 ⟨hil,hun⟩)
    have hin:i < listed.size:=by omega
    have hst:=Zc5 hK ho R2 R1 E O n hrun fun j hj y hjy=>by
      have hp:=(List.pairwise_append.1 hpw).2.2 j hj i (.head _)
      obtain ⟨hjl,hul⟩:=(hmem j).1 (List.mem_append.2 (.inl hj))
      unfold Zbz at hp
      simp only [ho,hjy,Bool.or_eq_true,Bool.and_eq_true,List.contains_iff_mem] at hp
      rcases hp with h | h
      · exact h
      exact absurd h (notbef j hul hjl)
    refine Zgo hT ho hM hE hst fun w' O' m' n' E' a' hr hM' hE' hX => ?_
    refine ih _ (R1++R2) w' O' m' n' E' a' (by simpa using hsz) (Zm0 hin hmem hnd) ?_ ?_ (by simp at hlen ⊢;omega) (Zj0 hin ho haft hdown) hr hM' hE' fun w2 O2 m2 n2 E2 a2 k0 k1 k2 k3=>hQ w2 O2 m2 n2 E2 a2 k0 k1 k2 (hX.trans k3)
    · exact hnd.sublist (List.Sublist.append_left (List.sublist_cons_self i R2) R1)
    exact hpw.sublist (List.Sublist.append_left (List.sublist_cons_self i R2) R1)
theorem Z9d (hT:Qo P T) {ops:List Oper} {ks:List Kd} {n0:Nat→Prop} {x y:Nat} {S:List Nat} (hb:∀ i o,ops[i]? = some o→∀ e∈o.after.toList,Region.binds .any e=true→e.on < i) (hS:∀ s∈S,x∈(Zei ops []).getD s []) {Q:Exit→Act→World→Prop} {K:GK} (hK:EqK K) :
    ∀ (fuel:Nat) (listed:Array Bool) (Pl:List Nat) (w:World) (O:Objs) (m:Hands) (n:Nat) (E:Env) (a:Act),listed.size=ops.length→(∀ i,i∈Pl++x::y::S↔i < ops.length∧listed.getD i true=false)→(Pl++x::y::S).Nodup→(Pl++x::S).Pairwise (fun j i=>Zbz ops ks j i=true)→(Pl++y::S).Pairwise (fun j i=>Zbz ops ks j i=true)→(Pl++x::y::S).length≤fuel →
    (∀ i o,ops[i]? = some o→listed.getD i true=true→∀ e∈o.after.toList,Region.binds .any e=true→listed.getD e.on false=true) →
    Zc4 P T ops ks n0 Pl E O n (fun E O n=>Zc4 P T ops ks n0 (x::y::S) E O n K∧Zc4 P T ops ks n0 (y::x::S) E O n K)→Mem w O m n→Holds w O m n E a →
    (∀ w' O' m' n' E' a',K E' O' n'→Mem w' O' m' n'→Holds w' O' m' n' E' a'→Ext w O m n w' O' m' n'→Q .normal a' w')→wpAny P .any ops.toArray Q fuel listed a w:=by
  intro fuel
  induction fuel with
  | zero =>
    intro listed Pl w O m n E a hsz hmem hnd hp1 hp2 hlen hdown hrun hM hE hQ
    simp at hlen
  | succ fuel ih =>
    intro listed Pl w O m n E a hsz hmem hnd hp1 hp2 hlen hdown hrun hM hE hQ
    have hKK:EqK fun E O n=>Zc4 P T ops ks n0 (x::y::S) E O n K∧Zc4 P T ops ks n0 (y::x::S) E O n K:=fun E E' O n hE h=>⟨Zhm hK _ E E' O n hE h.1,Zhm hK _ E E' O n hE h.2⟩
    refine ⟨fun hnil => ?_,fun i hi => ?_⟩
    · have:=Zr9 hb hsz hmem hnil
      simp at this
    obtain ⟨o,ho,hil,hun,haft,notbef⟩:=Zot hb hsz hdown hi
    have hin:i < listed.size:=by omega
    have hiR:=(hmem i).2 ⟨hil,hun⟩
    have clear:∀ j,j∈Pl→Zbz ops ks j i=true→∀ z,ops[j]? = some z→Zje ops o z=true∧Ze0 (Zff ks i) (Zff ks j) z=true:=fun j hj hp z hjz=>by
      obtain ⟨hjl,hul⟩:=(hmem j).1 (List.mem_append.2 (.inl hj))
      unfold Zbz at hp
      simp only [ho,hjz,Bool.or_eq_true,Bool.and_eq_true,List.contains_iff_mem] at hp
      rcases hp with h | h
      · exact h
      exact absurd h (notbef j hul hjl)
    rcases List.mem_append.1 hiR with hiP | hiT
    · obtain ⟨P1,P2,rfl⟩:=List.append_of_mem hiP
      have hst:=Zc5 hKK ho P2 P1 E O n hrun fun j hj z hjz=>clear j (List.mem_append.2 (.inl hj)) ((List.pairwise_append.1 (List.pairwise_append.1 hp1).1).2.2 j hj i (.head _)) z hjz
      refine Zgo hT ho hM hE hst fun w' O' m' n' E' a' hr hM' hE' hX => ?_
      have ea:∀ L:List Nat,(P1++i::P2)++L=P1++i::(P2++L):=fun L=>by simp
      have eb:∀ L:List Nat,(P1++P2)++L=P1++(P2++L):=fun L=>by simp
      rw [ea] at hmem hnd hp1 hp2 hlen
      refine ih _ (P1++P2) w' O' m' n' E' a' (by simpa using hsz) ?_ ?_ ?_ ?_ ?_ (Zj0 hin ho haft hdown) hr hM' hE' fun w2 O2 m2 n2 E2 a2 k0 k1 k2 k3=>hQ w2 O2 m2 n2 E2 a2 k0 k1 k2 (hX.trans k3)
      · rw [eb];exact Zm0 hin hmem hnd
      · rw [eb];exact hnd.sublist (List.Sublist.append_left (List.sublist_cons_self i _) P1)
      · rw [eb];exact hp1.sublist (List.Sublist.append_left (List.sublist_cons_self i _) P1)
      · rw [eb];exact hp2.sublist (List.Sublist.append_left (List.sublist_cons_self i _) P1)
      rw [eb];simp at hlen ⊢;omega
    have hxS:i ∉ S:=fun h=>by
      have hx:=(hmem x).1 (List.mem_append.2 (.inr (.head _)))
      exact notbef x hx.2 hx.1 (hS i h)
    have h2:i=x∨i=y:=by
      rcases List.mem_cons.1 hiT with h | h
      · exact .inl h
      rcases List.mem_cons.1 h with h | h
      · exact .inr h
      exact absurd h hxS
    rcases h2 with rfl | rfl
    · have h':=Ze5 (i::y::S) Pl E O n (V0 (fun E O n h=>h.1) Pl E O n hrun)
      have hst:=Zc5 hK ho (y::S) Pl E O n h' fun j hj z hjz=>clear j hj ((List.pairwise_append.1 hp1).2.2 j hj i (.head _)) z hjz
      refine Zgo hT ho hM hE hst fun w' O' m' n' E' a' hr hM' hE' hX => ?_
      refine Zkj hT hb hK fuel _ (Pl++y::S) w' O' m' n' E' a' (by simpa using hsz) (Zm0 hin hmem hnd) ?_ hp2 (by simp at hlen ⊢;omega) (Zj0 hin ho haft hdown) hr hM' hE' fun w2 O2 m2 n2 E2 a2 k0 k1 k2 k3=>hQ w2 O2 m2 n2 E2 a2 k0 k1 k2 (hX.trans k3)
      exact hnd.sublist (List.Sublist.append_left (List.sublist_cons_self i _) Pl)
    have h':=Ze5 (i::x::S) Pl E O n (V0 (fun E O n h=>h.2) Pl E O n hrun)
    have hst:=Zc5 hK ho (x::S) Pl E O n h' fun j hj z hjz=>clear j hj ((List.pairwise_append.1 hp2).2.2 j hj i (.head _)) z hjz
    refine Zgo hT ho hM hE hst fun w' O' m' n' E' a' hr hM' hE' hX => ?_
    have ea:∀ L:List Nat,Pl++x::L=(Pl++[x])++L:=fun L=>by simp
    have hmem':∀ k,k∈(Pl++[x])++i::S↔k < ops.length∧listed.getD k true=false:=fun k=>by rw [← ea];exact hmem k
    have hnd':((Pl++[x])++i::S).Nodup:=by rw [← ea];exact hnd
    refine Zkj hT hb hK fuel _ (Pl++x::S) w' O' m' n' E' a' (by simpa using hsz) (by rw [ea];exact Zm0 hin hmem' hnd') ?_ hp1 (by simp at hlen ⊢;omega) (Zj0 hin ho haft hdown) hr hM' hE' fun w2 O2 m2 n2 E2 a2 k0 k1 k2 k3=>hQ w2 O2 m2 n2 E2 a2 k0 k1 k2 (hX.trans k3)
    rw [ea]
    exact hnd'.sublist (List.Sublist.append_left (List.sublist_cons_self i _) (Pl++[x]))
end
section
variable {P:Program} {T:Kv}
def Zrq (n0:Nat→Prop):G→Prop
  | .ref i _=>n0 i
  | .row i _=>n0 i
  | .rs i _ _=>n0 i
  | .rp i _ _=>n0 i
  | .rl i _ _ _=>n0 i
  | _=>True
def Z2v (n0:Nat→Prop):List G→Prop
  | []=>True
  | g::l=>Zrq n0 g∧Z2v n0 l
theorem Z2w {n0:Nat→Prop}:∀ {l:List G},Z2v n0 l→∀ g∈l,Zrq n0 g
  | [],_,_,h=>by cases h
  | x::l,h,g,hg=>by
    rcases List.mem_cons.1 hg with rfl | hg
    · exact h.1
    exact Z2w h.2 g hg
theorem Zcj {n0:Nat→Prop} {O O':Objs} (ha:agree n0 O O') {g:G} (hg:Zrq n0 g):Qb O' g=Qb O g:=by
  cases g <;> simp only [Qb] <;> simp only [Zrq] at hg <;> rw [ha _ hg]
theorem Zxx {n0:Nat→Prop} {O O':Objs} (ha:agree n0 O O') {g:G} (hg:Zrq n0 g):Zjg O' g=Zjg O g:=by
  cases g <;> first | rfl | exact Zcj ha hg
theorem Z8h {n0:Nat→Prop} {O O':Objs} (ha:agree n0 O O') {g:G} (hg:Zrq n0 g) (t:TypeId):Zk9 T O' t g=Zk9 T O t g:=by
  have:Zgb O' g=Zgb O g:=by
    cases g <;> simp only [Zgb] <;> simp only [Zrq] at hg <;> rw [ha _ hg]
  unfold Zk9
  rw [this]
theorem Z8l {n0:Nat→Prop} {n n':Nat} {O O':Objs} {ρ:Operand→G} {op:Op} (hq:Jz op=true) (hl:∀ x∈op.operands,Zrq n0 (ρ x)) (ha:agree n0 O O'):Zac T ρ O' n' op=(Zac T ρ O n op).map fun r=>(r.1,r.2.1,O',n'):=by
  cases op <;> simp only [Jz,reduceCtorEq,Bool.false_eq_true] at hq <;> simp only [Zac]
  case move x=>rfl
  case assign x=>rfl
  case pick c a b=>split <;> rfl
  case build t ps=>rw [Option.map_map];rfl
  case load t a=>rw [Z8h ha (hl a (by simp [Op.operands])),Option.map_map];rfl
  case nilCheck x=>rw [Zcj ha (hl x (by simp [Op.operands])),Option.map_map];rfl
  case binOp op t x y ty=>rw [Zcj ha (hl x (by simp [Op.operands])),Option.map_map];rfl
  case unOp op t x=>rw [Option.map_map];rfl
  case convert s d x=>rw [Option.map_map];rfl
  case slice t x lo hi mx =>
    rw [Zcj ha (hl x (by simp [Op.operands]))]
    split
    · rw [Option.map_map];rfl
    rfl
  case fieldAddr s x f=>rw [Zcj ha (hl x (by simp [Op.operands])),Option.map_map];rfl
  case field s x f=>rw [Option.map_map];rfl
  case indexAddr t x i =>
    rw [Zcj ha (hl x (by simp [Op.operands]))]
    split
    · rw [Option.map_map];rfl
    rfl
  case index t x i =>
    split
    · rw [Option.map_map];rfl
    rfl
  case extract x k=>rw [Option.map_map];rfl
  case makeFunc fn fs cs=>split <;> rfl
  case call c =>
    obtain ⟨cal,args,ts⟩:=c
    cases cal with
    | builtin b =>
      simp only
      have hx:∀ x,x∈args.toList.map ρ→Zrq n0 x:=fun x hx=>by
        obtain ⟨y,hy,rfl⟩:=List.mem_map.1 hx
        exact hl y (by simp [Op.operands,Call.operands];simpa using hy)
      cases b <;> simp only [reduceCtorEq,Bool.false_eq_true] at hq <;> unfold Zg6
      all_goals
        split
        all_goals first
          | rfl
          | (rename_i heq1 heq2
             rw [Zxx ha (hx _ (by rw [heq2];exact .head _)),Option.map_map]
             rfl)
          | (rw [Zxx ha (hx _ (by simp_all)),Option.map_map];rfl)
          | (rename_i heq1 heq2
             rw [Zcj ha (hx _ (by rw [heq2];exact .head _)),Option.map_map]
             rfl)
          | (rw [Zcj ha (hx _ (by simp_all)),Option.map_map];rfl)
          | simp_all
    | value f=>simp at hq
    | invoke r s=>simp at hq
theorem Z2h {n0:Nat→Prop} {n n':Nat} {O O':Objs} {E:Env} {op:Op} (hq:Jz op=true) (hl:Z2v n0 (op.operands.toList.map (evS E))) (ha:agree n0 O O'):Zer T E O' n' op=(Zer T E O n op).map fun r=>(r.1,r.2.1,O',n'):=by
  have hl':∀ x∈op.operands,Zrq n0 (evS E x):=fun x hx=>Z2w hl _ (List.mem_map.2 ⟨x,by simpa using hx,rfl⟩)
  unfold Zer
  split
  · rw [Option.map_map];rfl
  rw [Z8l (n:=n) hq hl' ha,Option.map_map,Option.map_map];rfl
theorem Yc6 {ops:List Oper} {n0:Nat→Prop} {n:Nat} {O:Objs} {E:Env} {o:Oper} {r:G} (hq:Jz o.op=true) (hl:Z2v n0 (o.op.operands.toList.map (evS E))) (h:PS P T ops O n E o r):PA P T ops n0 O E o r:=fun O' n' ha=>by
  rcases h with ⟨h1,h2⟩ | h | ⟨b,g,h1,h2,⟨S,O2,n2,h3,h4⟩,h5⟩
  · refine .inl ⟨h1,?_⟩
    unfold pop at h2 ⊢
    split
    · rename_i heq
      rw [heq] at hq
      simp [Jz] at hq
    rename_i hne
    split at h2
    · rename_i heq
      rw [heq] at hq
      simp [Jz] at hq
    rw [Z2h (n:=n) hq hl ha]
    split at h2
    · rename_i S g O2 n2 hs
      rw [hs]
      exact h2
    exact h2.elim
  · exact .inr (.inl h)
  refine .inr (.inr ⟨b,g,h1,h2,⟨S,O',n',?_,h4⟩,h5⟩)
  rw [Z2h (n:=n) hq hl ha,h3]
  rfl
def PCallA (P:Program) (f:FuncId) (gs:List G) (K:G→Prop):Prop:=∃ r,(∀ O n,GPure P f gs O n r)∧K r
theorem PCallA.of {f:FuncId} {gs:List G} {r:G} {K:G→Prop} (h:∀ O n,GPure P f gs O n r) (hk:K r):PCallA P f gs K:=⟨r,h,hk⟩
def Z0e (P:Program) (T:Kv) (n0:Nat→Prop) (E:Env) (O:Objs) (n:Nat) (op:Op) (K:G→Prop):Prop :=
  match op with
  | .call ⟨.value o,args,_⟩=>match ev E o with
    | .fn f k cs=>wok (args.toList.map (ev E))∧PCallA P f (cs.take k++args.toList.map (evS E)++cs.drop k) K
    | _=>False
  | op=>match Zer T E O n op with
    | some (S,g,_,_)=>S∧Jz op=true∧Z2v n0 (op.operands.toList.map (evS E))∧K g
    | none=>False
theorem Z28 {ops:List Oper} {n0:Nat→Prop} {n:Nat} {O:Objs} {E:Env} {o:Oper} {K:G→Prop} (hw:Qj ops E o=some true) (h:Z0e P T n0 E O n o.op K):∃ r,PA P T ops n0 O E o r∧K r:=by
  unfold Z0e at h
  split at h
  · rename_i f0 args ts heq
    split at h
    · rename_i f k cs hev
      obtain ⟨h0,r,h1,h2⟩:=h
      refine ⟨r,fun O' n' ha => .inl ⟨hw,?_⟩,h2⟩
      rw [heq]
      unfold pop
      simp only [hev]
      exact ⟨h0,r,h1 O' n',rfl⟩
    exact h.elim
  rename_i hne
  split at h
  · rename_i S g O2 n2 hs
    refine ⟨g,Yc6 (n:=n) h.2.1 h.2.2.1 (.inl ⟨hw,?_⟩),h.2.2.2⟩
    unfold pop
    split
    · rename_i heq;exact (hne _ _ _ heq).elim
    rw [hs];exact ⟨h.1,h.2.1,rfl⟩
  exact h.elim
def Zv7:Op→Bool
  | .load .. => false
  | .call .. => false
  | op=>Jz op
theorem Zic {O O':Objs} (ha:sameS O O') {g:G} (h:Qb O g):Qb O' g:=by
  cases g <;> simp only [Qb] at h ⊢
  all_goals
    first
      | (obtain ⟨o,h1,h2⟩:=h
         obtain ⟨o',g1,g2,g3⟩:=ha _ o h1
         first
           | exact ⟨o',g1,by rw [g2];exact h2⟩
           | exact ⟨o',g1,by rw [g2];exact h2.1,by rw [g3];exact h2.2⟩)
theorem Z8m {n n':Nat} {O O' O2:Objs} {n2:Nat} {ρ:Operand→G} {op:Op} (hq:Zv7 op=true) (ha:sameS O O') {S:Prop} {g:G} (h:Zac T ρ O n op=some (S,g,O2,n2)) (hS:S):∃ S',S'∧Zac T ρ O' n' op=some (S',g,O',n'):=by
  have key:∀ {α:Type} (m:Option α) (F:α→G) (R R':α→Prop),(∀ a,R a→R' a)→m.map (fun r=>(R r,F r,O,n))=some (S,g,O2,n2)→∃ S',S'∧m.map (fun r=>(R' r,F r,O',n'))=some (S',g,O',n'):=fun m F R R' hR hm=>by
    cases m with
    | none=>cases hm
    | some r =>
      simp only [Option.map_some,Option.some.injEq,Prod.mk.injEq] at hm
      obtain ⟨e1,e2,_⟩:=hm
      subst e1 e2
      exact ⟨R' r,hR r hS,rfl⟩
  cases op <;> simp only [Zv7,Jz,reduceCtorEq,Bool.false_eq_true] at hq <;> simp only [Zac] at h ⊢
  case move x=>simp only [Option.some.injEq,Prod.mk.injEq] at h;exact ⟨True,trivial,by rw [h.2.1]⟩
  case assign x=>simp only [Option.some.injEq,Prod.mk.injEq] at h;exact ⟨True,trivial,by rw [h.2.1]⟩
  case pick c a b =>
    split at h
    · simp only [Option.some.injEq,Prod.mk.injEq] at h;exact ⟨True,trivial,by rw [h.2.1]⟩
    cases h
  case build t ps=>exact key _ _ (fun _=>True) (fun _=>True) (fun _ q=>q) h
  case nilCheck x=>exact key _ _ (fun _=>Qb O (ρ x)) (fun _=>Qb O' (ρ x)) (fun _ q=>Zic ha q) h
  case binOp op t x y ty=>exact key (α:=Prop×G) _ (fun r=>r.2) (fun r=>r.1∧Qb O (ρ x)) (fun r=>r.1∧Qb O' (ρ x)) (fun _ q=>⟨q.1,Zic ha q.2⟩) h
  case unOp op t x=>exact key _ _ (fun _=>True) (fun _=>True) (fun _ q=>q) h
  case convert s d x=>exact key _ _ (fun _=>True) (fun _=>True) (fun _ q=>q) h
  case slice t x lo hi mx =>
    split at h
    · exact key (α:=Prop×G) _ (fun r=>r.2) (fun r=>r.1∧Qb O (ρ x)) (fun r=>r.1∧Qb O' (ρ x)) (fun _ q=>⟨q.1,Zic ha q.2⟩) h
    cases h
  case fieldAddr s x f=>exact key _ _ (fun _=>Qb O (ρ x)) (fun _=>Qb O' (ρ x)) (fun _ q=>Zic ha q) h
  case field s x f=>exact key _ _ (fun _=>True) (fun _=>True) (fun _ q=>q) h
  case indexAddr t x i =>
    split at h
    · exact key (α:=Prop×G) _ (fun r=>r.2) (fun r=>r.1∧Qb O (ρ x)) (fun r=>r.1∧Qb O' (ρ x)) (fun _ q=>⟨q.1,Zic ha q.2⟩) h
    cases h
  case index t x i =>
    split at h
    · exact key (α:=Prop×G) _ (fun r=>r.2) (fun r=>r.1) (fun r=>r.1) (fun _ q=>q) h
    cases h
  case extract x k=>exact key _ _ (fun _=>True) (fun _=>True) (fun _ q=>q) h
  case makeFunc fn fs cs =>
    split at h
    · simp only [Option.some.injEq,Prod.mk.injEq] at h;exact ⟨True,trivial,by rw [h.2.1]⟩
    cases h
def Z49 (T:Kv) (E:Env) (O:Objs) (n:Nat) (op:Op) (K:G→Prop):Prop :=
  match Zer T E O n op with
    | some (S,g,_,_)=>S∧Zv7 op=true∧K g
    | none=>False
theorem Ya7 {ops:List Oper} {n:Nat} {O:Objs} {E:Env} {o:Oper} {K:G→Prop} (hw:Qj ops E o=some true) (h:Z49 T E O n o.op K):∃ r,PH P T ops O E o r∧K r:=by
  unfold Z49 at h
  split at h
  · rename_i S g O2 n2 hs
    obtain ⟨h1,h2,h3⟩:=h
    refine ⟨g,fun O' n' ha => .inl ⟨hw,?_⟩,h3⟩
    have hcalm:Jz o.op=true:=by
      unfold Zv7 at h2
      split at h2
      · cases h2
      · cases h2
      exact h2
    have:∃ S',S'∧Zer T E O' n' o.op=some (S',g,O',n'):=by
      unfold Zer at hs ⊢
      generalize o.op=op at hs h2 hcalm ⊢
      split at hs
      · obtain ⟨r,hr,e⟩:=Option.map_eq_some_iff.1 hs
        simp only [Prod.mk.injEq] at e
        obtain ⟨e1,e2,_⟩:=e
        subst e1 e2
        exact ⟨r.1,h1,by simp only [hr,Option.map_some]⟩
      rename_i hne
      obtain ⟨r,hr,e⟩:=Option.map_eq_some_iff.1 hs
      obtain ⟨S0,g0,O0,n0⟩:=r
      simp only [Prod.mk.injEq] at e
      obtain ⟨e1,e2,e3,e4⟩:=e
      subst e1 e2
      obtain ⟨S',k1,k2⟩:=Z8m (n':=n') h2 ha hr h1.2
      exact ⟨wok (op.operands.toList.map (ev E))∧S',⟨h1.1,k1⟩,by simp only [k2,Option.map_some]⟩
    obtain ⟨S',k1,k2⟩:=this
    unfold pop
    split
    · rename_i heq;rw [heq] at hcalm;simp [Jz] at hcalm
    rw [k2];exact ⟨k1,hcalm,rfl⟩
  exact h.elim
def Zlu (b:Bool) (E:Env):Op→Bool
  | .store _ a _=>Znl b (evS E a)
  | _=>false
theorem Z9x {b:Bool} {E:Env} {O:Objs} {n:Nat} {op:Op} {K:G→Objs→Nat→Prop} (hf:Zlu b E op=true) (h:gop P T E O n op K):∃ O',Fills T b E O op O'∧K (.val undef) O' n:=by
  cases op with
  | store t a x =>
    simp only [Zlu] at hf
    unfold gop Zer Zac at h
    simp only at h
    split at h
    · rename_i S g O' n' hs
      obtain ⟨r,hr,e⟩:=Option.map_eq_some_iff.1 hs
      obtain ⟨O1,h1,h2⟩:=Option.map_eq_some_iff.1 hr
      subst h2
      simp only [Prod.mk.injEq] at e
      obtain ⟨e1,e2,e3,e4⟩:=e
      subst e1 e2 e3 e4
      exact ⟨O1,⟨t,a,x,rfl,hf,h1,h.1.1⟩,h.2⟩
    exact h.elim
  | _=>simp [Zlu] at hf
def X4 (P:Program) (T:Kv) (ops:List Oper) (n0:Nat→Prop):List Kd→List (Option Bool)→List Oper→Env→Objs→Nat→GK→Prop
  | _,_,[],E,O,n,K=>K E O n
  | .bar::ks,ds,o::l,E,O,n,K=>match o.guard with
    | none=>gop P T E O n o.op fun g O' n'=>X4 P T ops n0 ks ds l (Yr E o.dst g) O' n' K
    | some g=>match ds with
      | some true::ds'=>Qa ops E (some g)=some true∧gop P T E O n o.op fun g O' n'=>X4 P T ops n0 ks ds' l (Yr E o.dst g) O' n' K
      | _=>False
  | .pass::ks,ds,o::l,E,O,n,K=>match o.guard with
    | none=>gop P T E O n o.op fun g O' n'=>agree n0 O O'∧X4 P T ops n0 ks ds l (Yr E o.dst g) O' n' K
    | some g=>match ds with
      | some true::ds'=>Qa ops E (some g)=some true∧gop P T E O n o.op fun g O' n'=>agree n0 O O'∧X4 P T ops n0 ks ds' l (Yr E o.dst g) O' n' K
      | _=>False
  | .plain::ks,ds,o::l,E,O,n,K=>match o.guard with
    | none=>pop P T E O n o.op fun g=>X4 P T ops n0 ks ds l (Yr E o.dst g) O n K
    | some g=>match ds with
      | some true::ds'=>Qa ops E (some g)=some true∧pop P T E O n o.op fun g=>X4 P T ops n0 ks ds' l (Yr E o.dst g) O n K
      | some false::ds'=>Qa ops E (some g)=some false∧X4 P T ops n0 ks ds' l (Yr E o.dst (.val undef)) O n K
      | _=>False
  | .low::ks,ds,o::l,E,O,n,K=>match o.guard with
    | none=>Z0e P T n0 E O n o.op fun g=>X4 P T ops n0 ks ds l (Yr E o.dst g) O n K
    | some g=>match ds with
      | some true::ds'=>Qa ops E (some g)=some true∧Z0e P T n0 E O n o.op fun g=>X4 P T ops n0 ks ds' l (Yr E o.dst g) O n K
      | some false::ds'=>Qa ops E (some g)=some false∧X4 P T ops n0 ks ds' l (Yr E o.dst (.val undef)) O n K
      | _=>False
  | .shp::ks,ds,o::l,E,O,n,K=>match o.guard with
    | none=>Z49 T E O n o.op fun g=>X4 P T ops n0 ks ds l (Yr E o.dst g) O n K
    | some _=>False
  | .fill b::ks,ds,o::l,E,O,n,K=>match o.guard with
    | none=>Zlu b E o.op=true∧gop P T E O n o.op fun g O' n'=>X4 P T ops n0 ks ds l (Yr E o.dst g) O' n' K
    | some _=>False
  | [],_,_::_,_,_,_,_=>False
theorem Zdw {ops:List Oper} {ks0:List Kd} {n0:Nat→Prop} {K:GK}:∀ (l:List Oper) (L:List Nat) (ks:List Kd) (ds:List (Option Bool)) (E:Env) (O:Objs) (n:Nat),L.map (ops[·]?)=l.map some→L.map (Zff ks0)=ks→X4 P T ops n0 ks ds l E O n K→Zc4 P T ops ks0 n0 L E O n K
  | [],L,ks,ds,E,O,n,h1,h2,h=>by
    obtain rfl:L=[]:=by cases L;rfl;simp at h1
    cases ks <;> simpa [X4,Zc4] using h
  | o::l,[],ks,ds,E,O,n,h1,h2,h=>by simp at h1
  | o::l,i::L,ks,ds,E,O,n,h1,h2,h=>by
    simp only [List.map_cons,List.cons.injEq] at h1
    obtain ⟨ho,h1⟩:=h1
    subst h2
    rw [List.map_cons] at h
    rw [Zgq ho]
    have next:∀ {ds' E' O' n'},X4 P T ops n0 (L.map (Zff ks0)) ds' l E' O' n' K→Zc4 P T ops ks0 n0 L E' O' n' K:=fun {ds' E' O' n'} hr=>Zdw l L _ ds' E' O' n' h1 rfl hr
    cases hk:Zff ks0 i with
    | bar =>
      rw [hk] at h
      cases hg:o.guard with
      | none =>
        simp only [X4,hg] at h
        exact ⟨by unfold Qj;rw [hg];rfl,Vk h fun g O' n' q=>next q⟩
      | some g =>
        simp only [X4,hg] at h
        split at h
        · exact ⟨by unfold Qj;rw [hg];exact h.1,Vk h.2 fun g O' n' q=>next q⟩
        exact h.elim
    | pass =>
      rw [hk] at h
      cases hg:o.guard with
      | none =>
        simp only [X4,hg] at h
        exact ⟨by unfold Qj;rw [hg];rfl,Vk h fun g O' n' q=>⟨q.1,next q.2⟩⟩
      | some g =>
        simp only [X4,hg] at h
        split at h
        · exact ⟨by unfold Qj;rw [hg];exact h.1,Vk h.2 fun g O' n' q=>⟨q.1,next q.2⟩⟩
        exact h.elim
    | shp =>
      rw [hk] at h
      cases hg:o.guard with
      | none =>
        simp only [X4,hg] at h
        obtain ⟨r,q1,q2⟩:=Ya7 (ops:=ops) (by unfold Qj;rw [hg];rfl) h
        exact ⟨r,q1,next q2⟩
      | some g=>simp only [X4,hg] at h
    | fill b =>
      rw [hk] at h
      cases hg:o.guard with
      | none =>
        simp only [X4,hg] at h
        obtain ⟨O',q1,q2⟩:=Z9x h.1 h.2
        exact ⟨by unfold Qj;rw [hg];rfl,O',q1,next q2⟩
      | some g=>simp only [X4,hg] at h
    | plain =>
      rw [hk] at h
      cases hg:o.guard with
      | none =>
        simp only [X4,hg] at h
        obtain ⟨r,q1,q2⟩:=Zpy h
        exact ⟨r,.inl ⟨by unfold Qj;rw [hg];rfl,q1⟩,next q2⟩
      | some g =>
        simp only [X4,hg] at h
        split at h
        · obtain ⟨r,q1,q2⟩:=Zpy h.2
          exact ⟨r,.inl ⟨by unfold Qj;rw [hg];exact h.1,q1⟩,next q2⟩
        · exact ⟨_,.inr (.inl ⟨by unfold Qj;rw [hg];exact h.1,rfl⟩),next h.2⟩
        exact h.elim
    | low =>
      rw [hk] at h
      cases hg:o.guard with
      | none =>
        simp only [X4,hg] at h
        obtain ⟨r,q1,q2⟩:=Z28 (ops:=ops) (by unfold Qj;rw [hg];rfl) h
        exact ⟨r,q1,next q2⟩
      | some g =>
        simp only [X4,hg] at h
        split at h
        · obtain ⟨r,q1,q2⟩:=Z28 (ops:=ops) (by unfold Qj;rw [hg];exact h.1) h.2
          exact ⟨r,q1,next q2⟩
        · exact ⟨_,fun O' n' ha => .inr (.inl ⟨by unfold Qj;rw [hg];exact h.1,rfl⟩),next h.2⟩
        exact h.elim
def Zvv (ops:List Oper) (ks:List Kd):List Nat→Bool
  | []=>true
  | j::L=>(L.all fun i=>Zbz ops ks j i) && Zvv ops ks L
theorem Zm3 {ops:List Oper} {ks:List Kd}:∀ {L:List Nat},Zvv ops ks L=true→L.Pairwise (fun j i=>Zbz ops ks j i=true)
  | [],_ => .nil
  | j::L,h=>by
    rw [Zvv,Bool.and_eq_true,List.all_eq_true] at h
    exact .cons h.1 (Zm3 h.2)
def Zon (L:List Nat) (k:Nat):Bool:=(L.all fun i=>decide (i < k)) && ((List.range k).all fun i=>L.contains i) && decide L.Nodup && decide (L.length≤k)
theorem Zkc {L:List Nat} {k:Nat} (h:Zon L k=true):(∀ i,i∈L↔i < k∧(Array.replicate k false).getD i true=false)∧L.Nodup∧L.length≤k:=by
  unfold Zon at h
  rw [Bool.and_eq_true,decide_eq_true_eq (p:=L.length≤k),Bool.and_eq_true,Bool.and_eq_true,List.all_eq_true,List.all_eq_true,decide_eq_true_eq] at h
  refine ⟨fun i=>⟨fun hi => ?_,fun hi => ?_⟩,h.1.2,h.2⟩
  · have hk:=of_decide_eq_true (h.1.1.1 i hi)
    exact ⟨hk,by simp [Array.getD,hk]⟩
  simpa using h.1.1.2 i (List.mem_range.2 hi.1)
theorem Z78 {ba:Nat} (hT:Qo P T) (hm:P.follows .mixedOrders=true) (ks:List Kd) (n0:Nat→Prop) (L:List Nat) (l:List Oper) (ds:List (Option Bool)) {id:Nat} {ops:Array Oper} {O:Objs} {n:Nat} {E:Env} {Q:GQ}
    (h1:(Zrb ops.toList && Zon L ops.toList.length && Zvv ops.toList ks L)=true) (hp:L.map (ops.toList[·]?)=l.map some)
    (h:X4 P T ops.toList n0 (L.map (Zff ks)) ds l E O n (Q .normal)):W P ba (.region id ops true) Q E O n:=fun hb w m a hM hE=>by
  rw [Bool.and_eq_true,Bool.and_eq_true] at h1
  obtain ⟨⟨b1,b2⟩,b3⟩:=h1
  obtain ⟨c1,c2,c3⟩:=Zkc b2
  have hr:=V0 (K':=fun E' O' n'=>∃ E0,EqE E' E0∧Q .normal E0 O' n') (fun E O n hk=>⟨E,EqE.refl E,hk⟩) _ _ _ _ (Zdw l L _ ds E O n hp rfl h)
  have hK:EqK fun E' O' n'=>∃ E0,EqE E' E0∧Q .normal E0 O' n':=fun E1 E2 O n hE ⟨E0,h1,h2⟩=>⟨E0,EqE.trans ⟨hE.1.symm,fun t=>(hE.2 t).symm⟩ h1,h2⟩
  refine wp_region_any hm ?_
  have hX:Ext w O m n { w with drawn:=w.drawn+1 } O m n:=⟨rfl,rfl,rfl,Nat.le_refl _,Nat.le_refl _,fun b _ ho=>⟨rfl,ho⟩,fun i _ o ho=>⟨o,ho,rfl,Nat.le_refl _,fun _=>rfl⟩⟩
  have hM':Mem { w with drawn:=w.drawn+1 } O m n:=⟨hM.fresh,fun i o hi=>Zgf hM hi hX fun _ _=>rfl,hM.apart⟩
  have e:ops.toList.toArray=ops:=by simp
  have hz:∀ i,(Array.replicate ops.size false).getD i true=true→¬ i < ops.size:=fun i h hi=>by simp [Array.getD,hi] at h
  have hlen:L.length≤ops.size:=by simpa using c3
  have key:=Zkj hT (Zrc b1) (Q:=lift w O m ba Q) hK ops.size (Array.replicate ops.size false) L { w with drawn:=w.drawn+1 } O m n E a (by simp) (by simpa using c1) c2 (Zm3 b3) hlen (fun i o ho hl=>absurd (by
      rcases Nat.lt_or_ge i ops.toList.length with h | h
      · simpa using h
      rw [List.getElem?_eq_none h] at ho;cases ho) (hz i hl)) hr hM' (hE.ext hX)
    fun w' O' m' n' E' a' ⟨E0,k0,k1⟩ k2 k3 k4=>⟨E0,O',n',m',k1,k2,k3.eqE k0,(hX.trans k4).base hb⟩
  rw [e] at key
  exact key
theorem Z36 {ba:Nat} (hT:Qo P T) (hm:P.follows .mixedOrders=true) (ks:List Kd) (n0:Nat→Prop) (x y:Nat) (Pl S:List Nat) (lp lx ly _ls:List Oper) {dx dy:List (Option Bool)} (ds:List (Option Bool)) {id:Nat} {ops:Array Oper} {O:Objs} {n:Nat} {E:Env} {Q:GQ}
    (h1:(Zrb ops.toList && Zon (Pl++x::y::S) ops.toList.length && Zvv ops.toList ks (Pl++x::S) && Zvv ops.toList ks (Pl++y::S) && S.all fun s=>((Zei ops.toList []).getD s []).contains x)=true)
    (hp:Pl.map (ops.toList[·]?)=lp.map some) (hx:(x::y::S).map (ops.toList[·]?)=lx.map some) (hy:(y::x::S).map (ops.toList[·]?)=ly.map some)
    (h:X4 P T ops.toList n0 (Pl.map (Zff ks)) ds lp E O n fun E O n=>X4 P T ops.toList n0 ((x::y::S).map (Zff ks)) dx lx E O n (Q .normal)∧X4 P T ops.toList n0 ((y::x::S).map (Zff ks)) dy ly E O n (Q .normal)):W P ba (.region id ops true) Q E O n:=fun hb w m a hM hE=>by
  rw [Bool.and_eq_true,Bool.and_eq_true,Bool.and_eq_true,Bool.and_eq_true,List.all_eq_true] at h1
  obtain ⟨⟨⟨⟨b1,b2⟩,b3⟩,b4⟩,b5⟩:=h1
  obtain ⟨c1,c2,c3⟩:=Zkc b2
  have up:∀ L E O n,Zc4 P T ops.toList ks n0 L E O n (Q .normal)→Zc4 P T ops.toList ks n0 L E O n (fun E' O' n'=>∃ E0,EqE E' E0∧Q .normal E0 O' n'):=fun L E O n q=>V0 (fun E O n hk=>⟨E,EqE.refl E,hk⟩) L E O n q
  have hr:=V0 (fun E O n q=>And.intro (up _ E O n (Zdw lx (x::y::S) _ dx E O n hx rfl q.1)) (up _ E O n (Zdw ly (y::x::S) _ dy E O n hy rfl q.2))) _ _ _ _ (Zdw lp Pl _ ds E O n hp rfl h)
  have hK:EqK fun E' O' n'=>∃ E0,EqE E' E0∧Q .normal E0 O' n':=fun E1 E2 O n hE ⟨E0,h1,h2⟩=>⟨E0,EqE.trans ⟨hE.1.symm,fun t=>(hE.2 t).symm⟩ h1,h2⟩
  refine wp_region_any hm ?_
  have hX:Ext w O m n { w with drawn:=w.drawn+1 } O m n:=⟨rfl,rfl,rfl,Nat.le_refl _,Nat.le_refl _,fun b _ ho=>⟨rfl,ho⟩,fun i _ o ho=>⟨o,ho,rfl,Nat.le_refl _,fun _=>rfl⟩⟩
  have hM':Mem { w with drawn:=w.drawn+1 } O m n:=⟨hM.fresh,fun i o hi=>Zgf hM hi hX fun _ _=>rfl,hM.apart⟩
  have e:ops.toList.toArray=ops:=by simp
  have hz:∀ i,(Array.replicate ops.size false).getD i true=true→¬ i < ops.size:=fun i h hi=>by simp [Array.getD,hi] at h
  have hlen:(Pl++x::y::S).length≤ops.size:=by simpa using c3
  have key:=Z9d hT (Zrc b1) (fun s hs=>by have:=b5 s hs;simpa using this) (Q:=lift w O m ba Q) hK ops.size (Array.replicate ops.size false) Pl { w with drawn:=w.drawn+1 } O m n E a (by simp) (by simpa using c1) c2 (Zm3 b3) (Zm3 b4) hlen (fun i o ho hl=>absurd (by
      rcases Nat.lt_or_ge i ops.toList.length with h | h
      · simpa using h
      rw [List.getElem?_eq_none h] at ho;cases ho) (hz i hl)) hr hM' (hE.ext hX)
    fun w' O' m' n' E' a' ⟨E0,k0,k1⟩ k2 k3 k4=>⟨E0,O',n',m',k1,k2,k3.eqE k0,(hX.trans k4).base hb⟩
  rw [e] at key
  exact key
end
section
variable {P:Program} {T:Kv}
def Yax (P:Program) (T:Kv) (ops:List Oper) (n0:Nat→Prop) (ks:List Kd) (ds:List (Option Bool)) (l:List Oper) (E:Env) (d:Option Tmp) (K:GK) (g:G) (O':Objs) (n':Nat):Prop:=X4 P T ops n0 ks ds l (Yr E d g) O' n' K
def Yd3 (P:Program) (T:Kv) (ops:List Oper) (n0:Nat→Prop) (ks:List Kd) (ds:List (Option Bool)) (l:List Oper) (E:Env) (d:Option Tmp) (O:Objs) (K:GK) (g:G) (O':Objs) (n':Nat):Prop:=agree n0 O O'∧X4 P T ops n0 ks ds l (Yr E d g) O' n' K
def Z23 (P:Program) (T:Kv) (ops:List Oper) (n0:Nat→Prop) (ks:List Kd) (ds:List (Option Bool)) (l:List Oper) (E:Env) (d:Option Tmp) (O:Objs) (n:Nat) (K:GK) (g:G):Prop:=X4 P T ops n0 ks ds l (Yr E d g) O n K
theorem Zr6 (ops:List Oper) (n0:Nat→Prop) (ks:List Kd) (ds:List (Option Bool)) (E:Env) (O:Objs) (n:Nat) (K:GK):X4 P T ops n0 ks ds [] E O n K=K E O n:=by cases ks <;> cases ds <;> simp only [X4]
theorem Zr4 (ops:List Oper) (n0:Nat→Prop) (ks:List Kd) (ds:List (Option Bool)) (d:Option Tmp) (op:Op) (ty:TypeId) (pos:String) (af:Array Edge) (l:List Oper) (E:Env) (O:Objs) (n:Nat) (K:GK):X4 P T ops n0 (.bar::ks) ds (⟨d,op,ty,pos,af,none⟩::l) E O n K=gop P T E O n op (Yax P T ops n0 ks ds l E d K):=by cases ds <;> rfl
theorem Zoq (ops:List Oper) (n0:Nat→Prop) (ks:List Kd) (ds:List (Option Bool)) (d:Option Tmp) (op:Op) (ty:TypeId) (pos:String) (af:Array Edge) (l:List Oper) (E:Env) (O:Objs) (n:Nat) (K:GK):X4 P T ops n0 (.pass::ks) ds (⟨d,op,ty,pos,af,none⟩::l) E O n K=gop P T E O n op (Yd3 P T ops n0 ks ds l E d O K):=by cases ds <;> rfl
theorem Zmi (ops:List Oper) (n0:Nat→Prop) (ks:List Kd) (ds:List (Option Bool)) (d:Option Tmp) (op:Op) (ty:TypeId) (pos:String) (af:Array Edge) (l:List Oper) (E:Env) (O:Objs) (n:Nat) (K:GK):X4 P T ops n0 (.plain::ks) ds (⟨d,op,ty,pos,af,none⟩::l) E O n K=pop P T E O n op (Z23 P T ops n0 ks ds l E d O n K):=by cases ds <;> rfl
theorem Zr5 (ops:List Oper) (n0:Nat→Prop) (ks:List Kd) (ds:List (Option Bool)) (d:Option Tmp) (op:Op) (ty:TypeId) (pos:String) (af:Array Edge) (l:List Oper) (E:Env) (O:Objs) (n:Nat) (K:GK):X4 P T ops n0 (.low::ks) ds (⟨d,op,ty,pos,af,none⟩::l) E O n K=Z0e P T n0 E O n op (Z23 P T ops n0 ks ds l E d O n K):=by cases ds <;> rfl
theorem Zr7 (ops:List Oper) (n0:Nat→Prop) (ks:List Kd) (ds:List (Option Bool)) (d:Option Tmp) (op:Op) (ty:TypeId) (pos:String) (af:Array Edge) (l:List Oper) (E:Env) (O:Objs) (n:Nat) (K:GK):X4 P T ops n0 (.shp::ks) ds (⟨d,op,ty,pos,af,none⟩::l) E O n K=Z49 T E O n op (Z23 P T ops n0 ks ds l E d O n K):=by cases ds <;> rfl
theorem Zop (ops:List Oper) (n0:Nat→Prop) (b:Bool) (ks:List Kd) (ds:List (Option Bool)) (d:Option Tmp) (op:Op) (ty:TypeId) (pos:String) (af:Array Edge) (l:List Oper) (E:Env) (O:Objs) (n:Nat) (K:GK):X4 P T ops n0 (.fill b::ks) ds (⟨d,op,ty,pos,af,none⟩::l) E O n K=(Zlu b E op=true∧gop P T E O n op (Yax P T ops n0 ks ds l E d K)):=by cases ds <;> rfl
theorem Zvs (ops:List Oper) (n0:Nat→Prop) (ks:List Kd) (ds:List (Option Bool)) (d:Option Tmp) (op:Op) (ty:TypeId) (pos:String) (af:Array Edge) (g:Nat×Bool) (l:List Oper) (E:Env) (O:Objs) (n:Nat) (K:GK) :
    X4 P T ops n0 (.plain::ks) (some true::ds) (⟨d,op,ty,pos,af,some g⟩::l) E O n K=(Qa ops E (some g)=some true∧pop P T E O n op (Z23 P T ops n0 ks ds l E d O n K)):=rfl
theorem Zvr (ops:List Oper) (n0:Nat→Prop) (ks:List Kd) (ds:List (Option Bool)) (d:Option Tmp) (op:Op) (ty:TypeId) (pos:String) (af:Array Edge) (g:Nat×Bool) (l:List Oper) (E:Env) (O:Objs) (n:Nat) (K:GK) :
    X4 P T ops n0 (.plain::ks) (some false::ds) (⟨d,op,ty,pos,af,some g⟩::l) E O n K=(Qa ops E (some g)=some false∧X4 P T ops n0 ks ds l (Yr E d (.val undef)) O n K):=rfl
theorem Zvq (ops:List Oper) (n0:Nat→Prop) (ks:List Kd) (ds:List (Option Bool)) (d:Option Tmp) (op:Op) (ty:TypeId) (pos:String) (af:Array Edge) (g:Nat×Bool) (l:List Oper) (E:Env) (O:Objs) (n:Nat) (K:GK) :
    X4 P T ops n0 (.low::ks) (some true::ds) (⟨d,op,ty,pos,af,some g⟩::l) E O n K=(Qa ops E (some g)=some true∧Z0e P T n0 E O n op (Z23 P T ops n0 ks ds l E d O n K)):=rfl
theorem Zvp (ops:List Oper) (n0:Nat→Prop) (ks:List Kd) (ds:List (Option Bool)) (d:Option Tmp) (op:Op) (ty:TypeId) (pos:String) (af:Array Edge) (g:Nat×Bool) (l:List Oper) (E:Env) (O:Objs) (n:Nat) (K:GK) :
    X4 P T ops n0 (.low::ks) (some false::ds) (⟨d,op,ty,pos,af,some g⟩::l) E O n K=(Qa ops E (some g)=some false∧X4 P T ops n0 ks ds l (Yr E d (.val undef)) O n K):=rfl
def Vy (ops:List Oper):List Nat→List Oper
  | []=>[]
  | i::L=>match ops[i]? with
    | some o=>o::Vy ops L
    | none=>Vy ops L
theorem Zfp {ops:List Oper}:∀ {L:List Nat},(∀ i∈L,i < ops.length)→L.map (ops[·]?)=(Vy ops L).map some
  | [],_=>rfl
  | i::L,h=>by
    have hi:=h i (.head _)
    have ho:ops[i]? = some ops[i]:=List.getElem?_eq_getElem hi
    simp only [List.map_cons,Vy,ho,Zfp (L:=L) fun j hj=>h j (.tail _ hj)]
def Yhd (P:Program) (T:Kv) (ops:List Oper) (n0:Nat→Prop) (kx ky:List Kd) (Lx Ly:List Nat) (K:GK):GK:=fun E O n=>X4 P T ops n0 kx [] (Vy ops Lx) E O n K∧X4 P T ops n0 ky [] (Vy ops Ly) E O n K
theorem Yc8 {ba:Nat} (hT:Qo P T) (hm:P.follows .mixedOrders=true) (ks:List Kd) (n0:Nat→Prop) (x y:Nat) (Pl S:List Nat) (kp kx ky:List Kd) (ds:List (Option Bool)) {id:Nat} {ops:Array Oper} {O:Objs} {n:Nat} {E:Env} {Q:GQ}
    (h1:(Zrb ops.toList && Zon (Pl++x::y::S) ops.toList.length && Zvv ops.toList ks (Pl++x::S) && Zvv ops.toList ks (Pl++y::S) && S.all fun s=>((Zei ops.toList []).getD s []).contains x)=true)
    (e1:Pl.map (Zff ks)=kp) (e2:(x::y::S).map (Zff ks)=kx) (e3:(y::x::S).map (Zff ks)=ky)
    (h:X4 P T ops.toList n0 kp ds (Vy ops.toList Pl) E O n (Yhd P T ops.toList n0 kx ky (x::y::S) (y::x::S) (Q .normal))):W P ba (.region id ops true) Q E O n:=by
  have h2:=h1
  rw [Bool.and_eq_true,Bool.and_eq_true,Bool.and_eq_true,Bool.and_eq_true] at h2
  obtain ⟨⟨⟨⟨b1,b2⟩,b3⟩,b4⟩,b5⟩:=h2
  obtain ⟨c1,c2,c3⟩:=Zkc b2
  have hlt:∀ i∈Pl++x::y::S,i < ops.toList.length:=fun i hi=>((c1 i).1 hi).1
  subst e1 e2 e3
  exact Z36 hT hm ks n0 x y Pl S (Vy ops.toList Pl) (Vy ops.toList (x::y::S)) (Vy ops.toList (y::x::S)) [] ds h1 (Zfp fun i hi=>hlt i (List.mem_append.2 (.inl hi))) (Zfp fun i hi=>hlt i (List.mem_append.2 (.inr hi))) (Zfp fun i hi=>hlt i (List.mem_append.2 (.inr (by
    simp only [List.mem_cons] at hi ⊢
    rcases hi with h | h | h
    · exact .inr (.inl h)
    · exact .inl h
    exact .inr (.inr h))))) h
theorem K6 {O:Objs} {n k:Nat} {l1 l2:List (Option GObj)} (h:l1.take k=l2.take k):agree (fun i=>i < n+k) (Zq O n l1) (Zq O n l2):=fun i hi=>by
  unfold Zq
  split
  · rfl
  have:i - n < k:=by omega
  have e1:=congrArg (fun l=>l[i - n]?) h
  simp only [List.getElem?_take,if_pos this] at e1
  rw [e1]
theorem Jy {O:Objs} {n:Nat} {l2:List (Option GObj)}:agree (fun i=>i < n) O (Zq O n l2):=fun i hi=>by
  unfold Zq
  rw [if_pos hi]
theorem Zt8 {O:Objs} {n k q:Nat} {l1 l2:List (Option GObj)} (h:(l1.take k).set q none=(l2.take k).set q none):agree (fun i=>i < n+k∧¬ i=n+q) (Zq O n l1) (Zq O n l2):=fun i hi=>by
  by_cases hn:i < n
  · rw [Yf _ hn,Yf _ hn]
  have e:∀ l:List (Option GObj),Zq O n l i=(((l.take k).set q none)[i - n]?).join:=fun l=>by
    unfold Zq
    rw [if_neg hn,List.getElem?_set,if_neg (by omega),List.getElem?_take,if_pos (by omega)]
  rw [e,e,h]
theorem Z13 {O:Objs} {n k:Nat} {l1 l2:List (Option GObj)} (h:(l1.take k).set 0 none=(l2.take k).set 0 none):agree (fun i=>i < n+k∧¬ i=n) (Zq O n l1) (Zq O n l2):=Zt8 (q:=0) h
theorem Z14 {O:Objs} {n k:Nat} {l1 l2:List (Option GObj)} (h1:l1.take k=l2.take k) (h2:l1.drop (k+1)=l2.drop (k+1)):agree (fun i=>i≠n+k) (Zq O n l1) (Zq O n l2):=fun i hi=>by
  unfold Zq
  split
  · rfl
  by_cases h:i - n < k
  · have e1:=congrArg (fun l=>l[i - n]?) h1
    simp only [List.getElem?_take,if_pos h] at e1
    rw [e1]
  have e1:=congrArg (fun l=>l[i - n - (k+1)]?) h2
  simp only [List.getElem?_drop] at e1
  have:k+1+(i - n - (k+1))=i - n:=by omega
  rw [this] at e1
  rw [e1]
theorem Z8a {O:Objs} {n:Nat} {x y:Option GObj} {l1 l2:List (Option GObj)} (h2:l1=l2):agree (fun i=>¬i=n) (Zq O n (x::l1)) (Zq O n (y::l2)):=Z14 (k:=0) rfl (by simpa using h2)
theorem Zae {ba:Nat} (hT:Qo P T) (hm:P.follows .mixedOrders=true) (ks:List Kd) (n0:Nat→Prop) (L:List Nat) (kl:List Kd) (ds:List (Option Bool)) {id:Nat} {ops:Array Oper} {O:Objs} {n:Nat} {E:Env} {Q:GQ}
    (h1:(Zrb ops.toList && Zon L ops.toList.length && Zvv ops.toList ks L)=true) (e1:L.map (Zff ks)=kl)
    (h:X4 P T ops.toList n0 kl ds (Vy ops.toList L) E O n (Q .normal)):W P ba (.region id ops true) Q E O n:=by
  have h2:=h1
  rw [Bool.and_eq_true,Bool.and_eq_true] at h2
  obtain ⟨c1,_,_⟩:=Zkc h2.1.2
  subst e1
  exact Z78 hT hm ks n0 L (Vy ops.toList L) ds h1 (Zfp fun i hi=>((c1 i).1 hi).1) h
end
end Go.Proofs.Ytibgpnmmgffgeaa
