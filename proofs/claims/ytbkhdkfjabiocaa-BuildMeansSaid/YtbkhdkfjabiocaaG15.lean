/- Part G15 of the ghost memory: lemmas and contracts used by the proofs of this seat's laws; each theorem bears its own conditions. -/
import Derived.Test.YtbkhdkfjabiocaaG14
namespace Go.Proofs.Ytbkhdkfjabiocaa
open Go.RowKit
set_option linter.unusedVariables false
set_option linter.unusedSimpArgs false
section
variable {P:Program} {T:J9}
def Zzu (P:Program) (T:J9) (ops:List Oper) (O:Objs) (n:Nat):List Oper→Env→(Env→Prop)→Prop
 | [],E,K=>K E
 | o::l,E,K=>match o.guard with
  | none=>pop P T E O n o.op fun g=>Zzu P T ops O n l (Yd E o.dst g) K
  | some g=>match Y9 ops E (some g) with
   | some b=>if Qq o.op=true then Zbs T E O n o.op b fun g=>Zzu P T ops O n l (Yd E o.dst g) K
    else (b=true→pop P T E O n o.op fun g=>Zzu P T ops O n l (Yd E o.dst g) K)∧(b=false→Zzu P T ops O n l (Yd E o.dst (.val undef)) K)
   | none=>False
def onP (P:Program) (T:J9) (ops:List Oper) (O:Objs) (n:Nat) (l:List Oper) (E:Env) (d:Option Tmp) (K:Env→Prop) (g:G):Prop:=Zzu P T ops O n l (Yd E d g) K
def pfork (P:Program) (T:J9) (ops:List Oper) (O:Objs) (n:Nat) (b:Bool) (op:Op) (l:List Oper) (E:Env) (d:Option Tmp) (K:Env→Prop):Prop :=
 (b=true→pop P T E O n op (onP P T ops O n l E d K))∧(b=false→onP P T ops O n l E d K (.val undef))
theorem Znd (ops:List Oper) (O:Objs) (n:Nat) (op:Op) (l:List Oper) (E:Env) (d:Option Tmp) (K:Env→Prop):pfork P T ops O n true op l E d K=pop P T E O n op (onP P T ops O n l E d K):=by simp [pfork]
theorem Znc (ops:List Oper) (O:Objs) (n:Nat) (op:Op) (l:List Oper) (E:Env) (d:Option Tmp) (K:Env→Prop):pfork P T ops O n false op l E d K=onP P T ops O n l E d K (.val undef):=by simp [pfork]
theorem Zjk (ops:List Oper) (O:Objs) (n:Nat) (E:Env) (K:Env→Prop):Zzu P T ops O n [] E K=K E:=rfl
theorem Zem (ops:List Oper) (O:Objs) (n:Nat) (d:Option Tmp) (op:Op) (ty:TypeId) (pos:String) (af:Array Edge) (l:List Oper) (E:Env) (K:Env→Prop):Zzu P T ops O n (⟨d,op,ty,pos,af,none⟩::l) E K=pop P T E O n op (onP P T ops O n l E d K):=rfl
theorem Zel (ops:List Oper) (O:Objs) (n:Nat) (d:Option Tmp) (op:Op) (ty:TypeId) (pos:String) (af:Array Edge) (g:Nat×Bool) (l:List Oper) (E:Env) (K:Env→Prop) :
  Zzu P T ops O n (⟨d,op,ty,pos,af,some g⟩::l) E K=match Y9 ops E (some g) with
   | some b=>if Qq op=true then Zbs T E O n op b (onP P T ops O n l E d K)
    else pfork P T ops O n b op l E d K
   | none=>False:=rfl
def Zbd:List Oper→List (List Nat)→List (List Nat)
 | [],acc=>acc
 | o::l,acc=>Zbd l (acc++[(o.after.toList.filter fun e=>Region.binds .any e).flatMap fun e=>e.on::acc.getD e.on []])
def Zna (ops:List Oper):Bool :=
 let B:=Zbd ops []
 (List.range ops.length).all fun i=>match ops[i]? with
  | none=>true
  | some o=>(o.after.toList.all fun e => !Region.binds .any e || e.on < i) &&
   (List.range i).all fun j=>match ops[j]? with
    | none=>true
    | some y=>Zhs ops o y || (B.getD i []).contains j
theorem Z0h:∀ (l:List Oper) (acc:List (List Nat)),(Zbd l acc).length=acc.length+l.length
 | [],acc=>by simp [Zbd]
 | o::l,acc=>by rw [Zbd,Z0h l];simp;omega
theorem Zui:∀ (l:List Oper) (acc:List (List Nat)) (k:Nat),k < acc.length→(Zbd l acc).getD k []=acc.getD k []
 | [],acc,k,h=>by simp [Zbd]
 | o::l,acc,k,h=>by
  rw [Zbd,Zui l _ k (by simp;omega)]
  simp [List.getD,List.getElem?_append_left h]
theorem Zgp (ops:List Oper) (hb:∀ i o,ops[i]? = some o→∀ e∈o.after.toList,Region.binds .any e=true→e.on < i):∀ (l pre:List Oper) (acc:List (List Nat)),pre++l=ops→acc=Zbd pre [] →
  ∀ i o,ops[i]? = some o→∀ j,j∈(Zbd l acc).getD i []→i < pre.length+l.length→pre.length≤i→∃ e∈o.after.toList,Region.binds .any e=true∧(j=e.on∨j∈(Zbd l acc).getD e.on [])
 | [],pre,acc,hp,ha,i,o,ho,j,hj,h1,h2=>by simp at h1;omega
 | x::l,pre,acc,hp,ha,i,o,ho,j,hj,h1,h2=>by
  have hacc:acc.length=pre.length:=by rw [ha,Z0h];simp
  rw [Zbd] at hj ⊢
  by_cases hi:i=pre.length
  ·have hx:o=x:=by
    rw [← hp,hi,List.getElem?_append_right (Nat.le_refl _),Nat.sub_self] at ho
    simpa using ho.symm
   subst hx
   rw [Zui _ _ _ (by simp;omega)] at hj
   have e1:(acc++[(o.after.toList.filter fun e=>Region.binds .any e).flatMap fun e=>e.on::acc.getD e.on []]).getD i []=(o.after.toList.filter fun e=>Region.binds .any e).flatMap fun e=>e.on::acc.getD e.on []:=by
    simp [List.getD,hi,← hacc]
   rw [e1] at hj
   obtain ⟨e,he,hj⟩:=List.mem_flatMap.1 hj
   obtain ⟨he1,he2⟩:=List.mem_filter.1 he
   refine ⟨e,he1,he2,?_⟩
   cases hj with
   | head=>exact .inl rfl
   | tail _ hj =>
    have hlt:=hb i o ho e he1 he2
    rw [Zui _ _ _ (by simp;omega)]
    have hj':j∈acc.getD e.on []:=hj
    exact .inr (by simpa [List.getD,List.getElem?_append_left (by omega:e.on < acc.length)] using hj')
  exact Zgp ops hb l (pre++[x]) _ (by simpa using hp) (by
   rw [ha]
   have:∀ (a b:List Oper) (c:List (List Nat)),Zbd (a++b) c=Zbd b (Zbd a c):=fun a=>by
    induction a with
    | nil=>intro b c;rfl
    | cons y a ih=>intro b c;rw [List.cons_append,Zbd,Zbd,ih]
   rw [this]
   rfl) i o ho j hj (by simp at h1 ⊢;omega) (by simp;omega)
def Zh9 (ops:List Oper) (listed:Array Bool):List Nat:=(List.range ops.length).filter fun i => !listed.getD i true
theorem Holds.eqE {w:World} {O:Objs} {m:Hands} {n:Nat} {E E':Env} {a:Act} (h:Holds w O m n E a) (e:EqE E E'):Holds w O m n E' a :=
 ⟨h.size.trans e.1,fun t v hv=>by rw [← e.2 t];exact h.at_ t v hv,fun t ht=>by rw [← e.2 t];exact h.out t (by rw [e.1];exact ht),h.defers⟩
theorem Z47 (hT:X6 P T) {ops:List Oper} (hord:Zna ops=true) {Q:Exit→Act→World→Prop} {O:Objs} {n:Nat} {Ef:Env} :
  ∀ (fuel:Nat) (listed:Array Bool) (R:List Nat) (w:World) (m:Hands) (E:Env) (a:Act),listed.size=ops.length→R=Zh9 ops listed→R.length≤fuel →
  (∀ i o,ops[i]? = some o→listed.getD i true=true→∀ e∈o.after.toList,Region.binds .any e=true→listed.getD e.on false=true) →
  Run P T ops O n (R.filterMap (ops[·]?)) E Ef→Mem w O m n→Holds w O m n E a→(∀ w' m' a',Mem w' O m' n→Holds w' O m' n Ef a'→Ext w O m n w' O m' n→Q .normal a' w')→wpAny P .any ops.toArray Q fuel listed a w:=by
 have hall:=List.all_eq_true.1 hord
 have hb:∀ i o,ops[i]? = some o→∀ e∈o.after.toList,Region.binds .any e=true→e.on < i:=fun i o ho e he hbd=>by
  have hi:i < ops.length:=by
   rcases Nat.lt_or_ge i ops.length with h | h
   ·exact h
   rw [List.getElem?_eq_none h] at ho;cases ho
  have:=hall i (List.mem_range.2 hi)
  simp only [ho,Bool.and_eq_true,List.all_eq_true] at this
  have h2:=this.1 e he
  rw [hbd] at h2
  simpa using h2
 have hc:∀ i o j y,ops[i]? = some o→ops[j]? = some y→j < i→Zhs ops o y=true∨j∈(Zbd ops []).getD i []:=fun i o j y ho hy hj=>by
  have hi:i < ops.length:=by
   rcases Nat.lt_or_ge i ops.length with h | h
   ·exact h
   rw [List.getElem?_eq_none h] at ho;cases ho
  have:=hall i (List.mem_range.2 hi)
  simp only [ho,Bool.and_eq_true,List.all_eq_true] at this
  have h2:=this.2 j (List.mem_range.2 hj)
  simp only [hy,Bool.or_eq_true,List.contains_iff_mem] at h2
  exact h2
 intro fuel
 induction fuel with
 | zero =>
  intro listed R w m E a hsz hR hlen hdown hrun hM hE hQ
  have h0:R=[]:=List.eq_nil_of_length_eq_zero (by omega)
  subst h0
  have hrun':EqE E Ef:=hrun
  refine ⟨?_,hQ w m a hM (hE.eqE hrun') (Ext.refl _ _ _ _)⟩
  unfold Region.ready
  refine List.filter_eq_nil_iff.2 fun i hi => ?_
  have:i ∉ Zh9 ops listed:=by rw [← hR];simp
  unfold Zh9 at this
  have hi':i < ops.length:=by simpa using hi
  simp [hi'] at this
  simp [this]
 | succ fuel ih =>
  intro listed R w m E a hsz hR hlen hdown hrun hM hE hQ
  have hmem:∀ i,i∈R↔i < ops.length∧listed.getD i true=false:=fun i=>by rw [hR];unfold Zh9;simp
  refine ⟨fun hnil => ?_,fun i hi => ?_⟩
  ·-- nothing is ready: nothing is left
   have h0:R=[]:=by
    cases hRR:R with
    | nil=>rfl
    | cons i R' =>
     exfalso
     have hi:i∈R:=by rw [hRR];exact .head _
     have hmin:∀ k∈R,i≤k:=by
      have hs:R.Pairwise (· < ·):=by rw [hR];exact List.Pairwise.filter _ List.pairwise_lt_range
      rw [hRR] at hs ⊢
      intro k hk
      cases hk with
      | head=>exact Nat.le_refl _
      | tail _ hk=>exact Nat.le_of_lt ((List.pairwise_cons.1 hs).1 k hk)
     obtain ⟨h1,h2⟩:=(hmem i).1 hi
     have:i∈Region.ready .any ops.toArray listed:=by
      unfold Region.ready
      refine List.mem_filter.2 ⟨by simpa using h1,?_⟩
      have ho:ops.toArray[i]? = some ops[i]:=by simp [h1]
      rw [h2,ho]
      simp only [Bool.not_false,Option.map_some,Option.getD_some,Bool.true_and,← Array.all_toList,List.all_eq_true]
      intro e he
      by_cases hbd:Region.binds .any e=true
      ·have hlt:=hb i _ (List.getElem?_eq_getElem h1) e he hbd
       have hnot:e.on ∉ R:=fun h=>by have:=hmin _ h;omega
       have:listed.getD e.on true=true:=by
        cases hq:listed.getD e.on true with
        | true=>rfl
        | false=>exact absurd ((hmem e.on).2 ⟨by omega,hq⟩) hnot
       have hin:e.on < listed.size:=by omega
       have:listed.getD e.on false=true:=by simpa [Array.getD,hin] using this
       simp [this]
      simp [hbd]
     rw [hnil] at this
     cases this
   subst h0
   have hrun':EqE E Ef:=hrun
   exact hQ w m a hM (hE.eqE hrun') (Ext.refl _ _ _ _)
  unfold Region.ready at hi
  obtain ⟨hi1,hi2⟩:=List.mem_filter.1 hi
  have hil:i < ops.length:=by simpa using hi1
  have ho:ops[i]? = some ops[i]:=List.getElem?_eq_getElem hil
  have hoA:ops.toArray[i]? = some ops[i]:=by simp [hil]
  rw [Bool.and_eq_true,hoA] at hi2
  have hun:listed.getD i true=false:=by simpa using hi2.1
  have haft:∀ e∈(ops[i]).after.toList,Region.binds .any e=true→listed.getD e.on false=true:=fun e he hbd=>by
   have:=hi2.2
   simp only [Option.map_some,Option.getD_some,← Array.all_toList,List.all_eq_true] at this
   have:=this e he
   rw [hbd] at this
   simpa using this
  -- all that is surely ahead is listed
  have hclos:∀ N k o,k≤N→ops[k]? = some o→(∀ e∈o.after.toList,Region.binds .any e=true→listed.getD e.on false=true)→∀ j∈(Zbd ops []).getD k [],listed.getD j false=true:=by
   intro N
   induction N with
   | zero =>
    intro k o hk hko hka j hj
    have hkl:k < ops.length:=by
     rcases Nat.lt_or_ge k ops.length with h | h
     ·exact h
     rw [List.getElem?_eq_none h] at hko;cases hko
    obtain ⟨e,he,hbd,hj⟩:=Zgp ops hb ops [] [] rfl rfl k o hko j hj (by simpa using hkl) (Nat.zero_le _)
    have:=hb k o hko e he hbd
    omega
   | succ N ihN =>
    intro k o hk hko hka j hj
    have hkl:k < ops.length:=by
     rcases Nat.lt_or_ge k ops.length with h | h
     ·exact h
     rw [List.getElem?_eq_none h] at hko;cases hko
    obtain ⟨e,he,hbd,hj⟩:=Zgp ops hb ops [] [] rfl rfl k o hko j hj (by simpa using hkl) (Nat.zero_le _)
    have hlt:=hb k o hko e he hbd
    rcases hj with rfl | hj
    ·exact hka e he hbd
    have hel:e.on < ops.length:=by omega
    have hin:e.on < listed.size:=by omega
    refine ihN e.on _ (by omega) (List.getElem?_eq_getElem hel) (fun e' he' hbd'=>hdown e.on _ (List.getElem?_eq_getElem hel) ?_ e' he' hbd') j hj
    have:=hka e he hbd
    simpa [Array.getD,hin] using this
  obtain ⟨R1,R2,hRR⟩:=List.append_of_mem ((hmem i).2 ⟨hil,hun⟩)
  have hs:R.Pairwise (· < ·):=by rw [hR];exact List.Pairwise.filter _ List.pairwise_lt_range
  have hR1:∀ j∈R1,j < i∧listed.getD j true=false:=fun j hj=>by
   have h1:j∈R:=by rw [hRR];exact List.mem_append.2 (.inl hj)
   refine ⟨?_,((hmem j).1 h1).2⟩
   rw [hRR] at hs
   exact (List.pairwise_append.1 hs).2.2 j hj i (.head _)
  rw [hRR,List.filterMap_append,List.filterMap_cons,ho] at hrun
  simp only at hrun
  obtain ⟨r,hps,hrun'⟩:=Zxe _ _ E Ef hrun fun y hy=>by
   obtain ⟨j,hj,hjy⟩:=List.mem_filterMap.1 hy
   obtain ⟨hlt,hul⟩:=hR1 j hj
   rcases hc i _ j y ho hjy hlt with h | h
   ·exact h
   have:=hclos i i _ (Nat.le_refl _) ho haft j h
   have hin:j < listed.size:=by omega
   have h3:listed.getD j true=true:=by simpa [Array.getD,hin] using this
   rw [hul] at h3;cases h3
  have hin:i < listed.size:=by omega
  have hR':R1++R2=Zh9 ops (listed.setIfInBounds i true):=by
   have e1:Zh9 ops (listed.setIfInBounds i true)=(Zh9 ops listed).filter (·≠i):=by
    unfold Zh9
    rw [List.filter_filter]
    refine List.filter_congr fun k hk => ?_
    by_cases hki:k=i
    ·subst hki;simp [Array.getD,hin]
    simp [Array.getD_eq_getD_getElem?,Array.getElem?_setIfInBounds_ne (Ne.symm hki),hki]
   rw [e1,← hR,hRR]
   have hnd:∀ k∈R1++R2,k≠i:=fun k hk=>by
    rw [hRR] at hs
    rcases List.mem_append.1 hk with hk | hk
    ·exact Nat.ne_of_lt ((List.pairwise_append.1 hs).2.2 k hk i (.head _))
    exact Nat.ne_of_gt ((List.pairwise_cons.1 (List.pairwise_append.1 hs).2.1).1 k hk)
   rw [List.filter_append,List.filter_cons]
   simp only [ne_eq,not_true_eq_false,decide_false,Bool.false_eq_true,if_false]
   rw [← List.filter_append,List.filter_eq_self.2]
   intro k hk
   simpa using hnd k hk
  have hdown':∀ k o,ops[k]? = some o→(listed.setIfInBounds i true).getD k true=true→∀ e∈o.after.toList,Region.binds .any e=true→(listed.setIfInBounds i true).getD e.on false=true:=fun k o hk hkl e he hbd=>by
   have up:∀ q,listed.getD q false=true→(listed.setIfInBounds i true).getD q false=true:=fun q hq=>by
    by_cases hqi:q=i
    ·subst hqi;simp [Array.getD,hin]
    simpa [Array.getD_eq_getD_getElem?,Array.getElem?_setIfInBounds_ne (Ne.symm hqi)] using hq
   by_cases hki:k=i
   ·subst hki
    rw [ho] at hk
    injection hk with hk
    subst hk
    exact up _ (haft e he hbd)
   refine up _ (hdown k o hk ?_ e he hbd)
   simpa [Array.getD_eq_getD_getElem?,Array.getElem?_setIfInBounds_ne (Ne.symm hki)] using hkl
  have hlen':(R1++R2).length≤fuel:=by rw [hRR] at hlen;simp at hlen ⊢;omega
  unfold wpOp
  rw [hoA]
  simp only
  rcases hps with ⟨hw,hpop⟩ | ⟨hw,rfl⟩ | ⟨b,g,hw,hcalm,⟨S,O2,n2,hst,hSS⟩,rfl⟩
  ·rw [Qj hE hw,if_pos rfl]
   refine .inl (Zf7 hT hM hE (Zzt hpop) fun v g w' O' m' n' ⟨e1,e2,e3⟩ hM' hX hg => ?_)
   subst e1 e2 e3
   exact ih _ _ w' m' _ _ (by simpa using hsz) hR' hlen' hdown' (by rw [List.filterMap_append];exact hrun') hM' ((hE.ext hX).put _ hg) fun w2 m2 a2 k1 k2 k3=>hQ w2 m2 a2 k1 k2 (hX.trans k3)
  ·rw [Qj hE hw,if_neg Bool.false_ne_true]
   exact ih _ _ w m _ _ (by simpa using hsz) hR' hlen' hdown' (by rw [List.filterMap_append];exact hrun') hM (hE.put (g := .val undef) (v:=undef) _ (by simp [G.rep])) hQ
  obtain ⟨e1,e2⟩:=Zil hcalm hst
  subst e1 e2
  rw [Qj hE hw]
  cases b with
  | true =>
   rw [if_pos rfl]
   refine .inl ?_
   obtain ⟨v,nx,w',m',h1,h2,h3,h4,h5⟩:=Zgr hT hM hE hst (hSS rfl)
   have hg:(G.when true g).rep w' O2 m' n2 v:=by simp only [G.rep];exact ⟨fun _=>h5,fun h=>by cases h⟩
   have fin:=ih _ _ w' m' _ _ (by simpa using hsz) hR' hlen' hdown' (by rw [List.filterMap_append];exact hrun') h3 ((hE.ext h4).put (ops[i]).dst hg) fun w2 m2 a2 k1 k2 k3=>hQ w2 m2 a2 k1 k2 (h4.trans k3)
   unfold Oper.wp
   rw [h1]
   rcases h2 with rfl | ⟨rfl,rfl⟩ <;> exact fin
  | false =>
   rw [if_neg Bool.false_ne_true]
   exact ih _ _ w m _ _ (by simpa using hsz) hR' hlen' hdown' (by rw [List.filterMap_append];exact hrun') hM (hE.put (g := .when false g) (v:=undef) _ (by simp [G.rep,undef])) hQ
theorem Z0s {α β:Type} {f g:α→Option β}:∀ (l:List α),(∀ j∈l,f j=g j)→l.filterMap f=l.filterMap g
 | [],_=>rfl
 | x::l,h=>by rw [List.filterMap_cons,List.filterMap_cons,h x (.head _),Z0s l fun j hj=>h j (.tail _ hj)]
def atK (K:GK) (O:Objs) (n:Nat) (E':Env):Prop:=K E' O n
def Zru (P:Program) (T:J9) (ops:Array Oper) (E:Env) (O:Objs) (n:Nat) (K:GK):Prop :=
 Zna ops.toList=true∧Zzu P T ops.toList O n ops.toList E (atK K O n)
theorem Z9k (hT:X6 P T) (hm:P.follows .mixedOrders=true) (id:Nat) (ops:Array Oper) (w:World) (O:Objs) (m:Hands) (n:Nat) (E:Env) (a:Act) (K:GK) (Q:Exit→Act→World→Prop) (hM:Mem w O m n) (hE:Holds w O m n E a) (hord:Zna ops.toList=true) {Ef:Env} (hrun:Run P T ops.toList O n ops.toList E Ef) (hK:K Ef O n)
  (hQ:∀ w' O' m' n' E' a',K E' O' n'→Mem w' O' m' n'→Holds w' O' m' n' E' a'→Ext w O m n w' O' m' n'→Q .normal a' w'):(Code.region id ops true).wp P Q a w:=by
 refine wp_region_any hm ?_
 have hs:((List.range ops.toList.length).filterMap (ops.toList[·]?))=ops.toList:=by
  have:∀ (l:List Oper) (k:Nat),(List.range' k l.length).filterMap ((List.replicate k default++l)[·]?)=l:=fun l=>by
   induction l with
   | nil=>intro k;rfl
   | cons x l ih =>
    intro k
    rw [List.length_cons,List.range'_succ,List.filterMap_cons]
    have e0:(List.replicate k default++x::l)[k]? = some x:=by rw [List.getElem?_append_right (by simp)];simp
    rw [e0]
    simp only
    have:=ih (k+1)
    rw [List.replicate_succ'] at this
    simp only [List.append_assoc,List.singleton_append] at this
    congr 1
    refine Eq.trans ?_ this
    refine Z0s _ fun j hj => ?_
    have hj':=List.mem_range'.1 hj
    obtain ⟨q,hq,rfl⟩:=hj'
    rw [List.getElem?_append_right (by simp;omega),List.getElem?_append_right (by simp;omega)]
    simp only [List.length_replicate,Nat.one_mul]
    rw [show k+1+q - k=q+1 by omega]
    rfl
  have h0:=this ops.toList 0
  rw [← List.range_eq_range'] at h0
  simpa using h0
 have hX:Ext w O m n { w with drawn:=w.drawn+1 } O m n:=⟨rfl,rfl,rfl,Nat.le_refl _,Nat.le_refl _,fun b _ ho=>⟨rfl,ho⟩,fun i _ o ho=>⟨o,ho,rfl,Nat.le_refl _,fun _=>rfl⟩⟩
 have hM':Mem { w with drawn:=w.drawn+1 } O m n:=⟨hM.fresh,fun i o hi=>Zga hM hi hX fun _ _=>rfl,hM.apart⟩
 have e:ops.toList.toArray=ops:=by simp
 have hz:∀ i,(Array.replicate ops.size false).getD i true=true→¬ i < ops.size:=fun i h hi=>by simp [Array.getD,hi] at h
 have key:=Z47 hT hord (Q:=Q) (w:={ w with drawn:=w.drawn+1 }) ops.size (Array.replicate ops.size false) (List.range ops.toList.length) m E a (by simp) ?_ (by simp) ?_ (by rw [hs];exact hrun) hM' (hE.ext hX)
  fun w' m' a' k1 k2 k3=>hQ w' O m' n Ef a' hK k1 k2 (hX.trans k3)
 ·rw [e] at key;exact key
 ·unfold Zh9
  rw [List.filter_eq_self.2]
  intro i hi
  have hi':i < ops.size:=by simpa using hi
  simp [Array.getD,hi']
 intro i o ho hl
 exfalso
 have:i < ops.size:=by
  rcases Nat.lt_or_ge i ops.toList.length with h | h
  ·simpa using h
  rw [List.getElem?_eq_none h] at ho;cases ho
 exact hz i hl this
end
end Go.Proofs.Ytbkhdkfjabiocaa
