/- Part H16 of the ghost memory: lemmas and contracts used by the proofs of this seat's laws; each theorem bears its own conditions. -/
import Derived.Test.YtibgpnmmgffgeaaH11
namespace Go.Proofs.Ytibgpnmmgffgeaa
open Go.RowKit
set_option linter.unusedVariables false
set_option linter.unusedSimpArgs false
section
variable {P:Program} {T:Kv} {O:Objs} {n:Nat}
def Zfb (o:Oper):Bool:=match o.op with
 | .move _ | .assign _ | .build .. | .unOp .. | .convert .. | .field .. | .extract .. => true
 | _=>false
theorem Ztd {ops:List Oper} {O':Objs} {n':Nat} {E:Env} {o:Oper} {r:G} (hf:Zfb o=true) (h:PS P T ops O n E o r):PS P T ops O' n' E o r:=by
 have hg:Zer T E O' n' o.op=(Zer T E O n o.op).map fun r=>(r.1,r.2.1,O',n'):=by
  obtain ⟨d,op,ty,pos,af,gd⟩:=o
  unfold Zfb at hf
  simp only at hf ⊢
  cases op with
  | move x=>rfl
  | assign x=>rfl
  | build t ps=>simp only [Zer,Zac];cases Zlx T t _ <;> rfl
  | unOp op t x=>simp only [Zer,Zac];cases Zl1 op _ <;> rfl
  | convert s t x=>simp only [Zer,Zac];cases Zg7 T s t _ <;> rfl
  | field s x f=>simp only [Zer,Zac];cases Zly T s _ f <;> rfl
  | extract x k=>simp only [Zer,Zac];cases Zg8 _ k <;> rfl
  | _=>simp at hf
 have hp:∀ K,pop P T E O n o.op K→pop P T E O' n' o.op K:=fun K hk=>by
  obtain ⟨d,op,ty,pos,af,gd⟩:=o
  unfold Zfb at hf
  simp only at hf hg hk ⊢
  cases op with
  | call c=>simp at hf
  | _ =>
   simp only [pop] at hk ⊢
   rw [hg]
   revert hk
   cases Zer T E O n _ with
   | none=>exact id
   | some r=>exact id
 rcases h with ⟨h1,h2⟩ | h | ⟨b,g,h1,h2,⟨S,O2,n2,h3,h4⟩,h5⟩
 ·exact .inl ⟨h1,hp _ h2⟩
 ·exact .inr (.inl h)
 exact .inr (.inr ⟨b,g,h1,h2,⟨S,O',n',by rw [hg,h3];rfl,h4⟩,h5⟩)
theorem Zgc {E E':Env} {op:Op} {K:G→Objs→Nat→Prop} (hE:∀ x∈op.operands,ev E x=ev E' x) (h:gop P T E O n op K):gop P T E' O n op K:=by
 unfold gop at h ⊢
 split at h
 ·rename_i o args ts
  have ho:ev E o=ev E' o:=hE o (by simp [Op.operands,Call.operands])
  rw [← ho]
  split at h
  case h_2=>exact h.elim
  rename_i f k cs hev
  have hx:∀ x∈args.toList,ev E x=ev E' x:=fun x hx=>hE x (by simp [Op.operands,Call.operands];exact .inr (by simpa using hx))
  have e:args.toList.map (ev E)=args.toList.map (ev E'):=List.map_congr_left hx
  have e2:args.toList.map (evS E)=args.toList.map (evS E'):=List.map_congr_left fun x hm=>by unfold evS;rw [hx x hm]
  exact ⟨by rw [← e];exact h.1,by rw [← e2];exact h.2⟩
 rw [← Zn3 hE];exact h
theorem Zek {ops:List Oper} {E E':Env} {o:Oper} (hd:∀ t∈Zhd ops o,Jw E.l t=Jw E'.l t):Qj ops E' o=Qj ops E o∧∀ x∈o.op.operands,ev E x=ev E' x:=by
 refine ⟨(Z2o fun g d hg hgd=>hd d ?_).symm,fun x hx => ?_⟩
 ·unfold Zhd
  rw [hg]
  obtain ⟨j,want⟩:=g
  simp only at hgd
  simp [hgd]
 cases x with
 | tmp t =>
  refine hd t ?_
  unfold Zhd
  exact List.mem_append.2 (.inl (List.mem_filterMap.2 ⟨.tmp t,by simpa using hx,rfl⟩))
 | _=>rfl
def Ziw (P:Program) (T:Kv) (ops:List Oper) (b:Bool) (o:Oper) (E:Env) (O:Objs) (n:Nat) (K:GK):Prop :=
 if b=true then Qj ops E o=some true∧gop P T E O n o.op fun g O' n'=>K (Yr E o.dst g) O' n'
 else ∃ r,PS P T ops O n E o r∧K (Yr E o.dst r) O n
def EqK (K:GK):Prop:=∀ E E' O n,EqE E E'→K E O n→K E' O n
theorem Zk3 {ops:List Oper} {b:Bool} {o:Oper} {E:Env} {K K':GK} (h:Ziw P T ops b o E O n K) (hk:∀ E O n,K E O n→K' E O n):Ziw P T ops b o E O n K':=by
 unfold Ziw at h ⊢
 split
 ·rename_i hb
  rw [if_pos hb] at h
  exact ⟨h.1,Vk h.2 fun _ _ _=>hk _ _ _⟩
 rename_i hb
 rw [if_neg hb] at h
 obtain ⟨r,h1,h2⟩:=h
 exact ⟨r,h1,hk _ _ _ h2⟩
theorem Ybq {ops:List Oper} {b:Bool} {o:Oper} {E E':Env} {K:GK} (hK:EqK K) (hE:EqE E E') (h:Ziw P T ops b o E O n K):Ziw P T ops b o E' O n K:=by
 obtain ⟨hw,hx⟩:=Zek (ops:=ops) (o:=o) (E:=E) (E':=E') fun t _=>hE.2 t
 unfold Ziw at h ⊢
 split
 ·rename_i hb
  rw [if_pos hb] at h
  exact ⟨hw.trans h.1,Vk (Zgc hx h.2) fun g O' n' hk=>hK _ _ _ _ (hE.put _ _) hk⟩
 rename_i hb
 rw [if_neg hb] at h
 obtain ⟨r,h1,h2⟩:=h
 exact ⟨r,Ze7 (fun t _=>hE.2 t) h1,hK _ _ _ _ (hE.put _ _) h2⟩
theorem Z5e {ops:List Oper} {bi bj:Bool} {o y:Oper} {E:Env} {K:GK} (hK:EqK K) (hi:Zje ops o y=true) (hb:(bi=false∧bj=false)∨(bj=false∧Zfb y=true))
  (h:Ziw P T ops bj y E O n fun E1 O1 n1=>Ziw P T ops bi o E1 O1 n1 K):Ziw P T ops bi o E O n fun E1 O1 n1=>Ziw P T ops bj y E1 O1 n1 K:=by
 obtain ⟨s1,s2⟩:=Zoc hi
 have hbj:bj=false:=by rcases hb with h | h;exact h.2;exact h.1
 subst hbj
 simp only [Ziw,Bool.false_eq_true,if_false] at h ⊢
 obtain ⟨r,h1,h2⟩:=h
 have hlk:∀ t∈Zhd ops o,Jw (Yr E y.dst r).l t=Jw E.l t:=fun t ht=>by rw [Zhc,if_neg (fun q=>s2 t q.1 ht)]
 cases bi with
 | false =>
  simp only [Bool.false_eq_true,if_false] at h2 ⊢
  obtain ⟨r',h3,h4⟩:=h2
  exact ⟨r',Z12 (fun t ht=>s2 t ht) h3,r,Z35 (fun t ht=>(s1 t ht).1) h1,hK _ _ _ _ (Zp0 fun t ht=>fun q=>(s1 t q).2 ht) h4⟩
 | true =>
  have hf:Zfb y=true:=by rcases hb with h | h;exact (by cases h.1);exact h.2
  simp only [if_true] at h2 ⊢
  obtain ⟨hw,hx⟩:=Zek hlk
  refine ⟨hw.trans h2.1,Vk (Zgc hx h2.2) fun g O' n' hk=>⟨r,Ztd hf (Z35 (fun t ht=>(s1 t ht).1) h1),hK _ _ _ _ (Zp0 fun t ht=>fun q=>(s1 t q).2 ht) hk⟩⟩
theorem Zkf {ops:List Oper} {bs:List Bool} {i:Nat} {o:Oper} {l:List Nat} {E:Env} {K:GK} (ho:ops[i]? = some o):Zk0 P T ops bs (i::l) E O n K=Ziw P T ops (Zfe bs i) o E O n fun E O n=>Zk0 P T ops bs l E O n K:=by
 simp only [Zk0,ho,Ziw]
theorem Zv1 {ops:List Oper} {bs:List Bool} {K:GK} (hK:EqK K):∀ l:List Nat,EqK fun E O n=>Zk0 P T ops bs l E O n K
 | []=>hK
 | i::l=>fun E E' O n hE h=>by
  cases ho:ops[i]? with
  | none=>simp only [Zk0,ho] at h ⊢;exact Zv1 hK l E E' O n hE h
  | some o =>
   simp only [Zkf ho] at h ⊢
   exact Ybq (Zv1 hK l) hE h
theorem Zsd {ops:List Oper} {bs:List Bool} {K K':GK} (hk:∀ E O n,K E O n→K' E O n):∀ (l:List Nat) (E:Env) (O:Objs) (n:Nat),Zk0 P T ops bs l E O n K→Zk0 P T ops bs l E O n K'
 | [],E,O,n,h=>hk _ _ _ h
 | i::l,E,O,n,h=>by
  cases ho:ops[i]? with
  | none=>simp only [Zk0,ho] at h ⊢;exact Zsd hk l E O n h
  | some o =>
   rw [Zkf ho] at h ⊢
   exact Zk3 h fun E O n=>Zsd hk l E O n
theorem Zow {ops:List Oper} {bs:List Bool} {K:GK} (hK:EqK K) {i:Nat} {o:Oper} (ho:ops[i]? = some o) (L2:List Nat):∀ (L1:List Nat) (E:Env) (O:Objs) (n:Nat),Zk0 P T ops bs (L1++i::L2) E O n K →
  (∀ j∈L1,∀ y,ops[j]? = some y→Zje ops o y=true∧((Zfe bs i=false∧Zfe bs j=false)∨(Zfe bs j=false∧Zfb y=true)))→Ziw P T ops (Zfe bs i) o E O n fun E O n=>Zk0 P T ops bs (L1++L2) E O n K
 | [],E,O,n,h,_=>by rw [List.nil_append,Zkf ho] at h;exact h
 | j::L1,E,O,n,h,hc=>by
  rw [List.cons_append] at h
  cases hj:ops[j]? with
  | none =>
   simp only [Zk0,hj] at h
   refine Zk3 (Zow hK ho L2 L1 E O n h fun k hk=>hc k (.tail _ hk)) fun E O n hr => ?_
   rw [List.cons_append]
   simp only [Zk0,hj]
   exact hr
  | some y =>
   rw [Zkf hj] at h
   have h':=Zk3 h fun E O n hr=>Zow hK ho L2 L1 E O n hr fun k hk=>hc k (.tail _ hk)
   obtain ⟨c1,c2⟩:=hc j (.head _) y hj
   refine Zk3 (Z5e (Zv1 hK (L1++L2)) c1 c2 h') fun E O n hr => ?_
   rw [List.cons_append,Zkf hj]
   exact hr
def Z26 (ops:List Oper) (bs:List Bool):Bool :=
 let B:=Zei ops []
 (List.range ops.length).all fun i=>match ops[i]? with
  | none=>true
  | some o=>(o.after.toList.all fun e => !Region.binds .any e || e.on < i) &&
   (List.range i).all fun j=>match ops[j]? with
    | none=>true
    | some y=>(Zje ops o y && !Zfe bs j && (!Zfe bs i || Zfb y)) || (B.getD i []).contains j
theorem Z39 (hT:Qo P T) {ops:List Oper} {bs:List Bool} (hord:Z26 ops bs=true) {Q:Exit→Act→World→Prop} {K:GK} (hK:EqK K) :
  ∀ (fuel:Nat) (listed:Array Bool) (R:List Nat) (w:World) (O:Objs) (m:Hands) (n:Nat) (E:Env) (a:Act),listed.size=ops.length→R=Zju ops listed→R.length≤fuel →
  (∀ i o,ops[i]? = some o→listed.getD i true=true→∀ e∈o.after.toList,Region.binds .any e=true→listed.getD e.on false=true) →
  Zk0 P T ops bs R E O n K→Mem w O m n→Holds w O m n E a →
  (∀ w' O' m' n' E' a',K E' O' n'→Mem w' O' m' n'→Holds w' O' m' n' E' a'→Ext w O m n w' O' m' n'→Q .normal a' w')→wpAny P .any ops.toArray Q fuel listed a w:=by
 have hall:=List.all_eq_true.1 hord
 have hb:∀ i o,ops[i]? = some o→∀ e∈o.after.toList,Region.binds .any e=true→e.on < i:=fun i o ho e he hbd=>by
  have hi:i < ops.length:=by
   rcases Nat.lt_or_ge i ops.length with h | h
   ·exact h
   rw [List.getElem?_eq_none h] at ho;cases ho
  have:=hall i (List.mem_range.2 hi)
  simp only [ho,Bool.and_eq_true,List.all_eq_true] at this
  have h2:=this.1 e he
  rw [hbd] at h2
  simpa using h2
 have hc:∀ i o j y,ops[i]? = some o→ops[j]? = some y→j < i→(Zje ops o y=true∧((Zfe bs i=false∧Zfe bs j=false)∨(Zfe bs j=false∧Zfb y=true)))∨j∈(Zei ops []).getD i []:=fun i o j y ho hy hj=>by
  have hi:i < ops.length:=by
   rcases Nat.lt_or_ge i ops.length with h | h
   ·exact h
   rw [List.getElem?_eq_none h] at ho;cases ho
  have:=hall i (List.mem_range.2 hi)
  simp only [ho,Bool.and_eq_true,List.all_eq_true] at this
  have h2:=this.2 j (List.mem_range.2 hj)
  simp only [hy,Bool.or_eq_true,List.contains_iff_mem,Bool.and_eq_true,Bool.not_eq_true'] at h2
  rcases h2 with h2 | h2
  ·refine .inl ⟨h2.1.1,?_⟩
   rcases h2.2 with h3 | h3
   ·exact .inl ⟨h3,h2.1.2⟩
   exact .inr ⟨h2.1.2,h3⟩
  exact .inr h2
 intro fuel
 induction fuel with
 | zero =>
  intro listed R w O m n E a hsz hR hlen hdown hrun hM hE hQ
  obtain rfl:R=[]:=List.eq_nil_of_length_eq_zero (by omega)
  refine ⟨?_,hQ w O m n E a hrun hM hE (Ext.refl _ _ _ _)⟩
  unfold Region.ready
  refine List.filter_eq_nil_iff.2 fun i hi => ?_
  have:i ∉ Zju ops listed:=by rw [← hR];simp
  unfold Zju at this
  have hi':i < ops.length:=by simpa using hi
  simp [hi'] at this
  simp [this]
 | succ fuel ih =>
  intro listed R w O m n E a hsz hR hlen hdown hrun hM hE hQ
  have hmem:∀ i,i∈R↔i < ops.length∧listed.getD i true=false:=fun i=>by rw [hR];unfold Zju;simp
  have hs:R.Pairwise (· < ·):=by rw [hR];exact List.Pairwise.filter _ List.pairwise_lt_range
  refine ⟨fun hnil => ?_,fun i hi => ?_⟩
  ·have h0:R=[]:=by
    cases hRR:R with
    | nil=>rfl
    | cons i R' =>
     exfalso
     have hi:i∈R:=by rw [hRR];exact .head _
     have hmin:∀ k∈R,i≤k:=by
      rw [hRR] at hs ⊢
      intro k hk
      cases hk with
      | head=>exact Nat.le_refl _
      | tail _ hk=>exact Nat.le_of_lt ((List.pairwise_cons.1 hs).1 k hk)
     obtain ⟨h1,h2⟩:=(hmem i).1 hi
     have:i∈Region.ready .any ops.toArray listed:=by
      unfold Region.ready
      refine List.mem_filter.2 ⟨by simpa using h1,?_⟩
      have ho:ops.toArray[i]? = some ops[i]:=by simp [h1]
      rw [h2,ho]
      simp only [Bool.not_false,Option.map_some,Option.getD_some,Bool.true_and,← Array.all_toList,List.all_eq_true]
      intro e he
      by_cases hbd:Region.binds .any e=true
      ·have hlt:=hb i _ (List.getElem?_eq_getElem h1) e he hbd
       have hnot:e.on ∉ R:=fun h=>by have:=hmin _ h;omega
       have:listed.getD e.on true=true:=by
        cases hq:listed.getD e.on true with
        | true=>rfl
        | false=>exact absurd ((hmem e.on).2 ⟨by omega,hq⟩) hnot
       have hin:e.on < listed.size:=by omega
       have:listed.getD e.on false=true:=by simpa [Array.getD,hin] using this
       simp [this]
      simp [hbd]
     rw [hnil] at this
     cases this
   subst h0
   exact hQ w O m n E a hrun hM hE (Ext.refl _ _ _ _)
  unfold Region.ready at hi
  obtain ⟨hi1,hi2⟩:=List.mem_filter.1 hi
  have hil:i < ops.length:=by simpa using hi1
  have ho:ops[i]? = some ops[i]:=List.getElem?_eq_getElem hil
  have hoA:ops.toArray[i]? = some ops[i]:=by simp [hil]
  rw [Bool.and_eq_true,hoA] at hi2
  have hun:listed.getD i true=false:=by simpa using hi2.1
  have haft:∀ e∈(ops[i]).after.toList,Region.binds .any e=true→listed.getD e.on false=true:=fun e he hbd=>by
   have:=hi2.2
   simp only [Option.map_some,Option.getD_some,← Array.all_toList,List.all_eq_true] at this
   have:=this e he
   rw [hbd] at this
   simpa using this
  have hclos:∀ N k o,k≤N→ops[k]? = some o→(∀ e∈o.after.toList,Region.binds .any e=true→listed.getD e.on false=true)→∀ j∈(Zei ops []).getD k [],listed.getD j false=true:=by
   intro N
   induction N with
   | zero =>
    intro k o hk hko hka j hj
    have hkl:k < ops.length:=by
     rcases Nat.lt_or_ge k ops.length with h | h
     ·exact h
     rw [List.getElem?_eq_none h] at hko;cases hko
    obtain ⟨e,he,hbd,hj⟩:=Zh7 ops hb ops [] [] rfl rfl k o hko j hj (by simpa using hkl) (Nat.zero_le _)
    have:=hb k o hko e he hbd
    omega
   | succ N ihN =>
    intro k o hk hko hka j hj
    have hkl:k < ops.length:=by
     rcases Nat.lt_or_ge k ops.length with h | h
     ·exact h
     rw [List.getElem?_eq_none h] at hko;cases hko
    obtain ⟨e,he,hbd,hj⟩:=Zh7 ops hb ops [] [] rfl rfl k o hko j hj (by simpa using hkl) (Nat.zero_le _)
    have hlt:=hb k o hko e he hbd
    rcases hj with rfl | hj
    ·exact hka e he hbd
    have hel:e.on < ops.length:=by omega
    have hin:e.on < listed.size:=by omega
    refine ihN e.on _ (by omega) (List.getElem?_eq_getElem hel) (fun e' he' hbd'=>hdown e.on _ (List.getElem?_eq_getElem hel) ?_ e' he' hbd') j hj
    have:=hka e he hbd
    simpa [Array.getD,hin] using this
  have hin:i < listed.size:=by omega
  have notbef:∀ j,listed.getD j true=false→j < ops.length→j ∉ (Zei ops []).getD i []:=fun j hul hjl h=>by
   have:=hclos i i _ (Nat.le_refl _) ho haft j h
   have hin:j < listed.size:=by omega
   have h3:listed.getD j true=true:=by simpa [Array.getD,hin] using this
   rw [hul] at h3;cases h3
  have hrest:∀ R1 R2,R=R1++i::R2→R1++R2=Zju ops (listed.setIfInBounds i true):=fun R1 R2 hRR=>by
   have e1:Zju ops (listed.setIfInBounds i true)=(Zju ops listed).filter (·≠i):=by
    unfold Zju
    rw [List.filter_filter]
    refine List.filter_congr fun k hk => ?_
    by_cases hki:k=i
    ·subst hki;simp [Array.getD,hin]
    simp [Array.getD_eq_getD_getElem?,Array.getElem?_setIfInBounds_ne (Ne.symm hki),hki]
   rw [e1,← hR,hRR]
   have hnd:∀ k∈R1++R2,k≠i:=fun k hk=>by
    rw [hRR] at hs
    rcases List.mem_append.1 hk with hk | hk
    ·exact Nat.ne_of_lt ((List.pairwise_append.1 hs).2.2 k hk i (.head _))
    exact Nat.ne_of_gt ((List.pairwise_cons.1 (List.pairwise_append.1 hs).2.1).1 k hk)
   rw [List.filter_append,List.filter_cons]
   simp only [ne_eq,not_true_eq_false,decide_false,Bool.false_eq_true,if_false]
   rw [← List.filter_append,List.filter_eq_self.2]
   intro k hk
   simpa using hnd k hk
  have hdown':∀ k o,ops[k]? = some o→(listed.setIfInBounds i true).getD k true=true→∀ e∈o.after.toList,Region.binds .any e=true→(listed.setIfInBounds i true).getD e.on false=true:=fun k o hk hkl e he hbd=>by
   have up:∀ q,listed.getD q false=true→(listed.setIfInBounds i true).getD q false=true:=fun q hq=>by
    by_cases hqi:q=i
    ·subst hqi;simp [Array.getD,hin]
    simpa [Array.getD_eq_getD_getElem?,Array.getElem?_setIfInBounds_ne (Ne.symm hqi)] using hq
   by_cases hki:k=i
   ·subst hki
    rw [ho] at hk
    injection hk with hk
    subst hk
    exact up _ (haft e he hbd)
   refine up _ (hdown k o hk ?_ e he hbd)
   simpa [Array.getD_eq_getD_getElem?,Array.getElem?_setIfInBounds_ne (Ne.symm hki)] using hkl
  have hsz':(listed.setIfInBounds i true).size=ops.length:=by simpa using hsz
  unfold wpOp
  rw [hoA]
  simp only
  obtain ⟨R1,R2,hRR⟩:=List.append_of_mem ((hmem i).2 ⟨hil,hun⟩)
  subst hRR
  have hR':=hrest R1 R2 rfl
  have hlen':(R1++R2).length≤fuel:=by simp at hlen ⊢;omega
  have hst:=Zow hK ho R2 R1 E O n hrun fun j hj y hjy=>by
   have hlt:j < i:=(List.pairwise_append.1 hs).2.2 j hj i (.head _)
   have hul:=((hmem j).1 (List.mem_append.2 (.inl hj))).2
   have hjl:=((hmem j).1 (List.mem_append.2 (.inl hj))).1
   rcases hc i _ j y ho hjy hlt with h | h
   ·exact h
   exact absurd h (notbef j hul hjl)
  unfold Ziw at hst
  split at hst
  ·obtain ⟨hw,hgop⟩:=hst
   rw [Qy hE hw,if_pos rfl]
   refine .inl (Zh6 hT hM hE hgop fun v g w' O' m' n' hrB hM' hX hg => ?_)
   exact ih _ _ w' _ m' _ _ _ hsz' hR' hlen' hdown' hrB hM' ((hE.ext hX).put _ hg) fun w2 O2 m2 n2 E2 a2 k0 k1 k2 k3=>hQ w2 O2 m2 n2 E2 a2 k0 k1 k2 (hX.trans k3)
  obtain ⟨r,hps,hrun'⟩:=hst
  rcases hps with ⟨hw,hpop⟩ | ⟨hw,rfl⟩ | ⟨b,g,hw,hcalm,⟨S,O2,n2,hst,hSS⟩,rfl⟩
  ·rw [Qy hE hw,if_pos rfl]
   refine .inl (Zh6 hT hM hE (Z0f hpop) fun v g w' O' m' n' ⟨e1,e2,e3⟩ hM' hX hg => ?_)
   subst e1 e2 e3
   exact ih _ _ w' _ m' _ _ _ hsz' hR' hlen' hdown' hrun' hM' ((hE.ext hX).put _ hg) fun w2 O2 m2 n2 E2 a2 k0 k1 k2 k3=>hQ w2 O2 m2 n2 E2 a2 k0 k1 k2 (hX.trans k3)
  ·rw [Qy hE hw,if_neg Bool.false_ne_true]
   exact ih _ _ w _ m _ _ _ hsz' hR' hlen' hdown' hrun' hM (hE.put (g := .val undef) (v:=undef) _ (by simp [G.rep])) hQ
  obtain ⟨e1,e2⟩:=Zjz hcalm hst
  subst e1 e2
  rw [Qy hE hw]
  cases b with
  | true =>
   rw [if_pos rfl]
   refine .inl ?_
   obtain ⟨v,nx,w',m',h1,h2,h3,h4,h5⟩:=Zh9 hT hM hE hst (hSS rfl)
   have hg:(G.when true g).rep w' O2 m' n2 v:=by simp only [G.rep];exact ⟨fun _=>h5,fun h=>by cases h⟩
   have fin:=ih _ _ w' _ m' _ _ _ hsz' hR' hlen' hdown' hrun' h3 ((hE.ext h4).put (ops[i]).dst hg) fun w2 O2 m2 n2 E2 a2 k0 k1 k2 k3=>hQ w2 O2 m2 n2 E2 a2 k0 k1 k2 (h4.trans k3)
   unfold Oper.wp
   rw [h1]
   rcases h2 with rfl | ⟨rfl,rfl⟩ <;> exact fin
  | false =>
   rw [if_neg Bool.false_ne_true]
   exact ih _ _ w _ m _ _ _ hsz' hR' hlen' hdown' hrun' hM (hE.put (g := .when false g) (v:=undef) _ (by simp [G.rep,undef])) hQ
theorem Zg1 {ba:Nat} (hT:Qo P T) (hm:P.follows .mixedOrders=true) (bs:List Bool) (ds:List (Option Bool)) {id:Nat} {ops:Array Oper} {E:Env} {Q:GQ} (hord:Z26 ops.toList bs=true) (h:Zbl P T ops.toList bs ds ops.toList E O n (Q .normal)):W P ba (.region id ops true) Q E O n:=fun hb w m a hM hE=>by
 have hr:=Zx2 (bs0:=bs) (K:=Q .normal) ops.toList [] bs ds E O n ops.toList rfl (fun j=>by rw [List.length_nil,Nat.zero_add]) h
 rw [List.length_nil,← List.range_eq_range'] at hr
 have hr':=Zsd (K':=fun E' O' n'=>∃ E0,EqE E' E0∧Q .normal E0 O' n') (fun E O n hk=>⟨E,EqE.refl E,hk⟩) _ _ _ _ hr
 have hK:EqK fun E' O' n'=>∃ E0,EqE E' E0∧Q .normal E0 O' n':=fun E1 E2 O n hE ⟨E0,h1,h2⟩=>⟨E0,EqE.trans ⟨hE.1.symm,fun t=>(hE.2 t).symm⟩ h1,h2⟩
 refine wp_region_any hm ?_
 have hX:Ext w O m n { w with drawn:=w.drawn+1 } O m n:=⟨rfl,rfl,rfl,Nat.le_refl _,Nat.le_refl _,fun b _ ho=>⟨rfl,ho⟩,fun i _ o ho=>⟨o,ho,rfl,Nat.le_refl _,fun _=>rfl⟩⟩
 have hM':Mem { w with drawn:=w.drawn+1 } O m n:=⟨hM.fresh,fun i o hi=>Zgf hM hi hX fun _ _=>rfl,hM.apart⟩
 have e:ops.toList.toArray=ops:=by simp
 have hz:∀ i,(Array.replicate ops.size false).getD i true=true→¬ i < ops.size:=fun i h hi=>by simp [Array.getD,hi] at h
 have key:=Z39 hT hord (Q:=lift w O m ba Q) hK ops.size (Array.replicate ops.size false) (List.range ops.toList.length) { w with drawn:=w.drawn+1 } O m n E a (by simp) ?_ (by simp) ?_ hr' hM' (hE.ext hX)
  fun w' O' m' n' E' a' ⟨E0,k0,k1⟩ k2 k3 k4=>⟨E0,O',n',m',k1,k2,k3.eqE k0,(hX.trans k4).base hb⟩
 ·rw [e] at key;exact key
 ·unfold Zju
  rw [List.filter_eq_self.2]
  intro i hi
  have hi':i < ops.size:=by simpa using hi
  simp [Array.getD,hi']
 intro i o ho hl
 exfalso
 have:i < ops.size:=by
  rcases Nat.lt_or_ge i ops.toList.length with h | h
  ·simpa using h
  rw [List.getElem?_eq_none h] at ho;cases ho
 exact hz i hl this
end
end Go.Proofs.Ytibgpnmmgffgeaa
