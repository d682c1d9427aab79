/- Plain facts on this seat's mirrors (part CP2); each theorem bears its own conditions. -/
import Derived.Test.YtmlcnhambfkjaaaGreatCP1
import Derived.IntWalk
namespace Go.Proofs.YtmlcnhambfkjaaaGreat
open Go.RowKit
set_option linter.unusedVariables false
set_option linter.unusedSimpArgs false
theorem rtN {t:Tr} {d:Nat} (h:rt t d=true):rt (nrm t) d=true:=Yh0 _ t d (Nat.lt_succ_self _) h
theorem Yct {t:Tr} (h:Zby t=true):t=⟨0,[],[]⟩:=by
 unfold Zby at h
 simp only [Bool.and_eq_true,beq_iff_eq] at h
 obtain ⟨k,w,l⟩:=t
 simp only at h
 rw [h.1,List.eq_nil_of_length_eq_zero h.2.1,List.eq_nil_of_length_eq_zero h.2.2]
theorem Yjt {e:Ed} (h:Zbl e=true):e=eS0:=by
 unfold Zbl Zk3 Zi8 Zgd at h
 simp only [Bool.and_eq_true,beq_iff_eq] at h
 obtain ⟨k,a,b,w,ks,li,os⟩:=e
 simp only at h
 obtain ⟨h0,⟨h1,h2⟩,⟨h3,h4⟩,h5,h6⟩:=h
 rw [h0,Yct h1,Yct h2,List.eq_nil_of_length_eq_zero h3,List.eq_nil_of_length_eq_zero h4,h5,List.eq_nil_of_length_eq_zero h6]
 rfl
def atD {α:Type} (z:α) (l:List α) (i:Nat):α:=(l[i]?).getD z
def Yfb {α:Type} (z:α) (p:α→Bool) (l:List α) (i:Nat) (v:α):List α :=
 if i < l.length then l.set i v else if p v=true then l else l++List.replicate (i - l.length) z++[v]
theorem Yiq {α:Type} {z:α} {p:α→Bool} {l:List α} {i j:Nat} {v:α} (hv:p v=true→v=z):atD z (Yfb z p l i v) j=if j=i then v else atD z l j:=by
 unfold atD Yfb
 by_cases hi:i < l.length
 ·rw [if_pos hi,List.getElem?_set]
  by_cases e:i=j
  ·subst e;rw [if_pos rfl,if_pos hi,if_pos rfl];rfl
  rw [if_neg e,if_neg (fun q=>e q.symm)]
 rw [if_neg hi]
 cases hp:p v with
 | true =>
  rw [if_pos rfl]
  split
  ·rename_i e;subst e;rw [List.getElem?_eq_none (by omega),hv hp];rfl
  rfl
 | false =>
  rw [if_neg (by simp)]
  by_cases h1:j < l.length
  ·rw [List.append_assoc,List.getElem?_append_left h1,if_neg (by omega)]
  by_cases h2:j < i
  ·rw [List.getElem?_append_left (by simp only [List.length_append,List.length_replicate];omega),List.getElem?_append_right (by omega),List.getElem?_replicate,if_pos (by omega),if_neg (by omega),List.getElem?_eq_none (by omega)]
   rfl
  by_cases h3:j=i
  ·subst h3
   rw [if_pos rfl,List.getElem?_append_right (by simp only [List.length_append,List.length_replicate];omega)]
   simp only [List.length_append,List.length_replicate]
   rw [show j - (l.length+(j - l.length))=0 by omega]
   rfl
  rw [if_neg h3,List.getElem?_eq_none (by simp only [List.length_append,List.length_replicate,List.length_singleton];omega),List.getElem?_eq_none (by omega)]
def p0 (x:Int):Bool:=x == 0
def pT (x:Tr):Bool:=x.Kind == 0
instance decTr:DecidableEq Tr:=fun a b=>decidable_of_iff (eqT a b=true) Yix
def NT (t:Tr):Prop:=nrm t=t
theorem NT.null {t:Tr} (h:NT t) (hk:pT t=true):t=n0T:=by
 unfold pT at hk
 rw [beq_iff_eq] at hk
 rw [← h,Zjw hk]
 rfl
theorem NT.of (t:Tr):NT (nrm t):=Ztz t
theorem NT.z:NT n0T:=Zjw rfl
theorem NT.kids {t:Tr} (h:NT t):∀ k∈t.Kids,NT k:=fun k hk=>by
 unfold NT at h
 rw [← h] at hk
 by_cases h0:t.Kind=0
 ·rw [Zjw h0] at hk;cases hk
 by_cases h1:t.Kind=1
 ·rw [Zdh h1] at hk
  obtain ⟨y,_,rfl⟩:=List.mem_map.1 (Zmz hk)
  exact NT.of y
 rw [Zjv h0 h1] at hk
 obtain ⟨y,_,rfl⟩:=List.mem_map.1 hk
 exact NT.of y
theorem NT.map {l:List Tr} (h:∀ k∈l,NT k):l.map nrm=l:=by
 conv=>rhs;rw [← List.map_id l]
 exact List.map_congr_left fun x hx=>h x hx
theorem NT.words {t:Tr} (h:NT t) (h1:t.Kind=1):tr p0 t.Words=t.Words∧tr pT t.Kids=t.Kids:=by
 have hk:=NT.map h.kids
 unfold NT at h
 rw [Zdh h1] at h
 have hw:=congrArg Za.Words h
 have hk2:=congrArg Za.Kids h
 simp only at hw hk2
 rw [hk] at hk2
 exact ⟨hw,hk2⟩
theorem NT.st {ws:List Int} {ks:List Tr} (h:∀ k∈ks,NT k):NT ⟨1,tr p0 ws,tr pT ks⟩:=by
 unfold NT
 rw [Zdh rfl]
 simp only
 rw [NT.map (l:=tr pT ks) fun k hk=>h k (Zmz hk)]
 congr 1
 ·exact Z4n ws
 exact Z4n ks
theorem NT.li {k:Int} {ks:List Tr} (h0:¬ k=0) (h1:¬ k=1) (h:∀ k∈ks,NT k):NT ⟨k,[],ks⟩:=by
 unfold NT
 rw [Zjv h0 h1]
 simp only
 rw [NT.map h]
inductive Rg:Tr→Prop
 | mk (t:Tr) (h3:∀ w∈t.Words,0≤w∧w < 18446744073709551616) (h4:∀ k∈t.Kids,Rg k):Rg t
theorem Rg.u {t:Tr} (h:Rg t):∀ w∈t.Words,0≤w∧w < 18446744073709551616:=by cases h;assumption
theorem Rg.all {t:Tr} (h:Rg t):∀ k∈t.Kids,Rg k:=by cases h;assumption
theorem Rg.z:Rg n0T := .mk _ (by simp [n0T]) (by simp [n0T])
theorem Rg.of:∀ (n:Nat) (t:Tr),SizeOf.sizeOf t < n→Bd t→Rg t
 | 0,_,h,_=>by omega
 | n+1,t,hn,h => .mk _ h.u fun k hk=>Rg.of n k (by have:=Xs hk;omega) (h.all k hk)
theorem Bd.rg {t:Tr} (h:Bd t):Rg t:=Rg.of _ t (Nat.lt_succ_self _) h
inductive RX:Ed→Prop
 | same (e:Ed) (h:e.Kind=0):RX e
 | repl (e:Ed) (h:e.Kind=1):RX e
 | st (e:Ed) (h:e.Kind=2) (hw:e.Words.Pairwise (fun a b=>a.At.toNat≠b.At.toNat)) (hw2:∀ w∈e.Words,0≤w.At∧w.At≤65534) (hk:e.Kids.Pairwise (fun a b=>a.At.toNat≠b.At.toNat)) (hk2:∀ k∈e.Kids,0≤k.At∧k.At≤65534) (ih:∀ k∈e.Kids,RX k.E):RX e
 | li (e:Ed) (h:e.Kind=3) (hl:2≤e.List_∧e.List_≤9) (ho:∀ o∈e.Ops,opk o) (hN:∀ o∈e.Ops,o.Kind=0∨o.Kind=3→o.L=[]) (ih:∀ o∈e.Ops,o.Kind=3→RX o.E):RX e
theorem RX.kind {e:Ed} (h:RX e):e.Kind=0∨e.Kind=1∨e.Kind=2∨e.Kind=3:=by
 cases h with
 | same _ h=>exact .inl h
 | repl _ h=>exact .inr (.inl h)
 | st _ h=>exact .inr (.inr (.inl h))
 | li _ h=>exact .inr (.inr (.inr h))
theorem Zku {α:Type} {pl:α→Int} {ok:Int→α→Bool} (h:∀ p x,ok p x=true→p < pl x∧pl x≤65534):∀ (xs:List α) (p:Int),chk pl ok p xs=true→(∀ x∈xs,p < pl x∧pl x≤65534)∧xs.Pairwise (fun a b=>pl a < pl b)
 | [],_,_=>⟨fun x hx=>(by cases hx),.nil⟩
 | x::xs,p,hc=>by
  rw [chk,Bool.and_eq_true] at hc
  have h1:=h p x hc.1
  obtain ⟨h2,h3⟩:=Zku h xs (pl x) hc.2
  refine ⟨fun y hy => ?_,.cons (fun y hy=>(h2 y hy).1) h3⟩
  rcases List.mem_cons.1 hy with rfl | hy
  ·exact h1
  have:=h2 y hy;omega
theorem Yf8 {α:Type} {pl:α→Int} {ok:Int→α→Bool} (h:∀ p x,ok p x=true→p < pl x∧pl x≤65534) {xs:List α} (hc:chk pl ok (-1) xs=true):(∀ x∈xs,0≤pl x∧pl x≤65534)∧xs.Pairwise (fun a b=>(pl a).toNat≠(pl b).toNat):=by
 obtain ⟨h1,h2⟩:=Zku h xs (-1) hc
 refine ⟨fun x hx=>by have:=h1 x hx;omega,?_⟩
 exact h2.imp_of_mem fun {a b} ha hb hab=>by
  have:=h1 a ha
  have:=h1 b hb
  omega
theorem Zt3 (p:Int) (w:Z6) (h:okW p w=true):p < w.At∧w.At≤65534:=by
 unfold okW at h
 simp only [Bool.not_eq_true',Bool.or_eq_false_iff,decide_eq_false_iff_not] at h
 omega
theorem Z91 (d:Nat) (p:Int) (k:Zn) (h:okK d p k=true):p < k.At∧k.At≤65534:=by
 unfold okK okP at h
 simp only [Bool.and_eq_true,Bool.not_eq_true',Bool.or_eq_false_iff,decide_eq_false_iff_not] at h
 omega
theorem Yhr:∀ (n:Nat) (e:Ed) (d:Nat),SizeOf.sizeOf e < n→rE e d=true→RX e
 | 0,_,_,h,_=>by omega
 | n+1,e,d,hn,h=>by
  rw [Znr] at h
  by_cases hd:d=0
  ·rw [if_pos hd] at h;cases h
  rw [if_neg hd] at h
  by_cases h0:e.Kind=0
  ·exact .same e h0
  rw [if_neg h0] at h
  by_cases h1:e.Kind=1
  ·exact .repl e h1
  rw [if_neg h1] at h
  by_cases h2:e.Kind=2
  ·rw [if_pos h2] at h
   simp only [Bool.and_eq_true] at h
   obtain ⟨w1,w2⟩:=Yf8 Zt3 h.2.1
   obtain ⟨k1,k2⟩:=Yf8 (Z91 (d - 1)) h.2.2
   refine .st e h2 w2 w1 k2 k1 fun k hk=>Yhr n k.E (d - 1) (by have:=Ub hk;omega) ?_
   exact Zki (Q:=fun k:Zn=>rE k.E (d - 1)=true) (fun p x hx=>by
    unfold okK okP at hx
    simp only [Bool.and_eq_true] at hx
    exact hx.2.2) e.Kids (-1) h.2.2 k hk
  rw [if_neg h2] at h
  by_cases h3:e.Kind=3
  ·rw [if_pos h3] at h
   simp only [Bool.and_eq_true,decide_eq_true_eq,List.all_eq_true] at h
   have ho:=h.2.2.1
   refine .li e h3 h.2.1 (fun o hx=>Zzm (ho o hx)) (fun o hx k03 => ?_) fun o hx k3=>Yhr n o.E (d - 1) (by have:=Zaw hx;omega) ?_
   ·have:=ho o hx
    unfold okO at this
    rcases k03 with k0 | k3
    ·rw [if_pos k0] at this
     simp only [Bool.and_eq_true,beq_iff_eq] at this
     exact List.eq_nil_of_length_eq_zero this.2.1
    rw [if_neg (by omega),if_neg (by omega),if_pos k3] at this
    simp only [Bool.and_eq_true,beq_iff_eq] at this
    exact List.eq_nil_of_length_eq_zero this.2.1
   have:=ho o hx
   unfold okO at this
   rw [if_neg (by omega),if_neg (by omega),if_pos k3] at this
   simp only [Bool.and_eq_true] at this
   exact this.2.2.2.2
  rw [if_neg h3] at h;cases h
inductive TX:Tr→Prop
 | mk (t:Tr) (h1:2≤t.Kind∧t.Kind≤9→t.Words=[]) (h9:t.Kind=9→∀ k∈t.Kids,k.Kind=1) (ih:∀ k∈t.Kids,TX k):TX t
theorem TX.w {t:Tr} (h:TX t):2≤t.Kind∧t.Kind≤9→t.Words=[]:=by cases h;assumption
theorem TX.s {t:Tr} (h:TX t):t.Kind=9→∀ k∈t.Kids,k.Kind=1:=by cases h;assumption
theorem TX.all {t:Tr} (h:TX t):∀ k∈t.Kids,TX k:=by cases h;assumption
theorem TX.z:TX n0T := .mk _ (fun _=>rfl) (fun h=>by simp [n0T] at h) (by simp [n0T])
theorem Yc6:∀ (n:Nat) (t:Tr) (d:Nat),SizeOf.sizeOf t < n→rt t d=true→TX t
 | 0,_,_,h,_=>by omega
 | n+1,t,d,hn,h=>by
  rw [Zj0] at h
  by_cases h0:t.Kind=0
  ·rw [if_pos h0] at h
   simp only [Bool.and_eq_true,beq_iff_eq] at h
   have hk:=List.eq_nil_of_length_eq_zero h.2
   exact .mk _ (fun h=>by omega) (fun h=>by omega) (by rw [hk];simp)
  rw [if_neg h0] at h
  by_cases h10:t.Kind=10
  ·rw [if_pos h10] at h
   simp only [Bool.and_eq_true,beq_iff_eq] at h
   have hk:=List.eq_nil_of_length_eq_zero h.2
   exact .mk _ (fun h=>by omega) (fun h=>by omega) (by rw [hk];simp)
  rw [if_neg h10] at h
  by_cases hc:t.Kind < 0∨10 < t.Kind∨d=0∨65536≤t.Words.length∨(t.Kind=1∧65536≤t.Kids.length)∨1048576≤t.Kids.length∨(1 < t.Kind∧0 < t.Words.length)
  ·rw [if_pos hc] at h;cases h
  rw [if_neg hc,List.all_eq_true] at h
  refine .mk _ (fun hk=>List.eq_nil_of_length_eq_zero (by omega)) (fun h9 k hk => ?_) fun k hk => ?_
  ·have:=h k hk
   rw [Bool.and_eq_true] at this
   have h2:=this.2
   unfold okk at h2
   rw [if_neg (by omega),h9] at h2
   simp only [Bool.and_eq_true,Bool.or_eq_true,bne_self_eq_false,Bool.false_eq_true,false_or,beq_iff_eq] at h2
   exact h2.2
  have:=h k hk
  rw [Bool.and_eq_true] at this
  exact Yc6 n k (d - 1) (by have:=Xs hk;omega) this.1
theorem TX.nn:∀ (n:Nat) (t:Tr),SizeOf.sizeOf t < n→TX t→TX (nrm t)
 | 0,_,h,_=>by omega
 | n+1,t,hn,h=>by
  by_cases h0:t.Kind=0
  ·rw [Zjw h0];exact TX.z
  by_cases h1:t.Kind=1
  ·rw [Zdh h1]
   refine .mk _ (fun h=>by simp only at h;omega) (fun h=>by simp only at h;omega) fun k hk => ?_
   obtain ⟨y,hy,rfl⟩:=List.mem_map.1 (Zmz hk)
   exact TX.nn n y (by have:=Xs hy;omega) (h.all y hy)
  rw [Zjv h0 h1]
  refine .mk _ h.w (fun h9 k hk => ?_) fun k hk => ?_
  ·obtain ⟨y,hy,rfl⟩:=List.mem_map.1 hk
   rw [Ur];exact h.s h9 y hy
  obtain ⟨y,hy,rfl⟩:=List.mem_map.1 hk
  exact TX.nn n y (by have:=Xs hy;omega) (h.all y hy)
theorem TX.n {t:Tr} (h:TX t):TX (nrm t):=TX.nn _ t (Nat.lt_succ_self _) h
theorem Yb7 {α:Type} {z:α} {l:List α} {i:Nat}:atD z l i∈l∨atD z l i=z:=by
 unfold atD
 cases h:l[i]? with
 | none=>exact .inr rfl
 | some x=>exact .inl (List.mem_of_getElem? h)
theorem Z4u {l:List Tr} {Q:Tr→Prop} (h:∀ x∈l,Q x) (hz:Q n0T) (i:Nat):Q (atD n0T l i):=by
 rcases Yb7 (z:=n0T) (l:=l) (i:=i) with q | q
 ·exact h _ q
 rw [q];exact hz
theorem Ykz {l:List Int} (h:∀ x∈l,0≤x∧x < 18446744073709551616) (i:Nat):0≤atD 0 l i∧atD 0 l i < 18446744073709551616:=by
 rcases Yb7 (z:=(0:Int)) (l:=l) (i:=i) with q | q
 ·exact h _ q
 rw [q];omega
theorem Yfv {α β:Type} {z:α} {p:α→Bool} {l:List α} {i j:Nat} {v:α} (f:α→β) (hv:p v=true→f v=f z):f (atD z (Yfb z p l i v) j)=if j=i then f v else f (atD z l j):=by
 unfold atD Yfb
 by_cases hi:i < l.length
 ·rw [if_pos hi,List.getElem?_set]
  by_cases e:i=j
  ·subst e;rw [if_pos rfl,if_pos hi,if_pos rfl];rfl
  rw [if_neg e,if_neg (fun q=>e q.symm)]
 rw [if_neg hi]
 cases hp:p v with
 | true =>
  rw [if_pos rfl]
  split
  ·rename_i e;subst e;rw [List.getElem?_eq_none (by omega),hv hp];rfl
  rfl
 | false =>
  rw [if_neg (by simp)]
  by_cases h1:j < l.length
  ·rw [List.append_assoc,List.getElem?_append_left h1,if_neg (by omega)]
  by_cases h2:j < i
  ·rw [List.getElem?_append_left (by simp only [List.length_append,List.length_replicate];omega),List.getElem?_append_right (by omega),List.getElem?_replicate,if_pos (by omega),if_neg (by omega),List.getElem?_eq_none (by omega)]
   rfl
  by_cases h3:j=i
  ·subst h3
   rw [if_pos rfl,List.getElem?_append_right (by simp only [List.length_append,List.length_replicate];omega)]
   simp only [List.length_append,List.length_replicate]
   rw [show j - (l.length+(j - l.length))=0 by omega]
   rfl
  rw [if_neg h3,List.getElem?_eq_none (by simp only [List.length_append,List.length_replicate,List.length_singleton];omega),List.getElem?_eq_none (by omega)]
def RN (c cN:List Tr):Prop:=∀ j,nrm (atD n0T c j)=atD n0T cN j
theorem RN.put {c cN:List Tr} (h:RN c cN) {i:Nat} {v u:Tr} (hv:nrm v=u):RN (Yfb n0T pT c i v) (Yfb n0T pT cN i u):=fun j=>by
 have hnu:NT u:=by rw [← hv];exact NT.of v
 rw [Yiq (fun q=>hnu.null q),Yfv nrm (fun q=>by unfold pT at q;rw [beq_iff_eq] at q;rw [Zjw q];exact NT.z.symm),hv,h j]
structure CA (e:Ed) (t:Tr):Prop where
 x:RX e
 b:BE e
 g:GN e
 p:pt t≤1000000
 t:Bd t
theorem CA.of {e:Ed} {t:Tr} (hb:BE e) (hr:rE e 64=true) (hc:ce e≤3000) (ht:Bd t) (hp:pt t≤3000):CA e t :=
 ⟨Yhr _ e 64 (Nat.lt_succ_self _) hr,hb,Yci _ e 64 (Nat.lt_succ_self _) hb (by omega) hr,by omega,ht⟩
def Yfw (a:List EO) (g:Nat):Prop:=match a with
 | []=>g=0
 | o::_=>g≤thN o
structure CI (a:List EO) (g:Nat):Prop where
 p:∀ o∈a,opk o
 s:Znv a≤1073741824
 g:Yfw a g
theorem Yhe {o:EO} (h:opk o):o.Kind=0∨o.Kind=1∨o.Kind=2∨o.Kind=3:=by
 rcases h with ⟨k,_⟩ | ⟨k,_⟩ | ⟨k,_⟩ | k
 ·exact .inl k
 ·exact .inr (.inl k)
 ·exact .inr (.inr (.inl k))
 exact .inr (.inr (.inr k))
inductive ST:Ed→Prop
 | mk (e:Ed) (ho:pt e.Old≤1000000) (hn:pt e.New≤1000000) (hl:∀ o∈e.Ops,∀ t∈o.L,pt t≤1000000) (ik:∀ k∈e.Kids,ST k.E) (io:∀ o∈e.Ops,ST o.E):ST e
theorem ST.old {e:Ed} (h:ST e):pt e.Old≤1000000:=by cases h;assumption
theorem ST.new {e:Ed} (h:ST e):pt e.New≤1000000:=by cases h;assumption
theorem ST.l {e:Ed} (h:ST e):∀ o∈e.Ops,∀ t∈o.L,pt t≤1000000:=by cases h;assumption
theorem ST.ks {e:Ed} (h:ST e):∀ k∈e.Kids,ST k.E:=by cases h;assumption
theorem ST.os {e:Ed} (h:ST e):∀ o∈e.Ops,ST o.E:=by cases h;assumption
theorem Z1z:∀ (k:Nat) (e:Ed) (d left:Int),BE e→SizeOf.sizeOf e < k→0≤d→d≤100→0≤left→left≤1000000→∃ r,Z8 k e d left=some r∧-1≤r∧r≤1000000∧(0≤r→r+(ce e:Nat)≤left∧ST e)
 | 0,e,_,_,_,h,_,_,_,_=>by omega
 | k+1,e,d,left,hb,hk,hd0,hd1,hl0,hl1=>by
  have hw:=hb.w
  have ho:=hb.o
  show ∃ r,X0 (Z8 k) e d left=some r∧_
  unfold X0
  rw [Yn (x:=left - 1) (by omega) (by omega),Yn (x:=left - 1 - (e.Words.length:Int)) (by omega) (by omega),Yn (by omega) (by omega),Z8w]
  cases hc:cond (d == 0) true (decide (left - 1 - (e.Words.length:Int) - (e.Ops.length:Int) < 0)) with
  | true=>exact ⟨-1,rfl,by omega,by omega,fun h=>by omega⟩
  | false =>
   rw [cond_false]
   have hd:¬ d=0∧0≤left - 1 - (e.Words.length:Int) - (e.Ops.length:Int):=by
    by_cases h:d=0
    ·simp [h] at hc
    have e:(d == 0)=false:=by simp [h]
    rw [e,cond_false,decide_eq_false_iff_not] at hc
    exact ⟨h,by omega⟩
   obtain ⟨r1,g1,g2,g3,g4⟩:=Zkl hb.old hd.2 (by omega)
   have hz:∃ z,cond (decide (0≤r1)) ((Qu e.New 80 r1).bind fun y4=>some y4) (some r1)=some z∧-1≤z∧z≤1000000∧(0≤z→z≤left - 1 - (e.Words.length:Int) - (e.Ops.length:Int)∧pt e.Old≤1000000∧pt e.New≤1000000):=by
    by_cases h:0≤r1
    ·obtain ⟨r2,f1,f2,f3,f4⟩:=Zkl hb.new h g3
     refine ⟨r2,by rw [decide_eq_true h,f1];rfl,f2,f3,fun h2 => ?_⟩
     have:=f4 h2
     have:=g4 h
     omega
    exact ⟨r1,by rw [decide_eq_false h];rfl,g2,g3,fun h2=>absurd h2 h⟩
   obtain ⟨z,z1,z2,z3,z4⟩:=hz
   rw [g1,Option.bind_some,z1,Option.bind_some]
   obtain ⟨r,h1,h2⟩:=Vm (step:=Xp (Z8 k) e d)
    (fun s=>∃ j:Nat,s.2=j∧j≤e.Kids.length∧-1≤s.1∧s.1≤1000000∧(0≤s.1→s.1+((((e.Kids.take j).map fun k=>ce k.E)).sum:Nat)≤left - 1 - (e.Words.length:Int) - (e.Ops.length:Int)∧(pt e.Old≤1000000∧pt e.New≤1000000)∧∀ k∈e.Kids.take j,ST k.E))
    (fun s=>e.Kids.length - s.2.toNat) (fun r=>-1≤r∧r≤1000000∧(0≤r→r+((e.Kids.map fun k=>ce k.E).sum:Nat)≤left - 1 - (e.Words.length:Int) - (e.Ops.length:Int)∧(pt e.Old≤1000000∧pt e.New≤1000000)∧∀ k∈e.Kids,ST k.E)) (fun s hI=>by
     obtain ⟨l,i⟩:=s
     obtain ⟨j,rfl,hj,g1,g2,g3⟩:=hI
     have hkl:=hb.k
     simp only at g1 g2 g3 ⊢
     unfold Xp
     simp only
     by_cases hji:j < e.Kids.length
     ·rw [V0 hji,cond_true]
      by_cases hl:0≤l
      ·have e1:decide (0≤l)=true:=by simp [hl]
       have hx:e.Kids[j]? = some e.Kids[j]:=List.getElem?_eq_getElem hji
       have hm:e.Kids[j]∈e.Kids:=List.getElem_mem hji
       obtain ⟨r,q1,q2,q3,q4⟩:=Z1z k e.Kids[j].E (d - 1) l (hb.ks _ hm) (by have:=Ub hm;omega) (by omega) (by omega) hl g2
       rw [e1,cond_true,Ym hx,Option.bind_some,Yn (x:=d - 1) (by omega) (by omega),q1,Option.bind_some,Yn (by omega) (by omega)]
       refine .inl ⟨_,rfl,⟨j+1,by simp only;omega,by omega,q2,q3,fun hr => ?_⟩,by simp only;omega⟩
       obtain ⟨w1,w2⟩:=q4 hr
       obtain ⟨w3,w4,w5⟩:=g3 hl
       rw [List.take_add_one,hx]
       simp only [Option.toList_some,List.map_append,List.map_cons,List.map_nil,List.sum_append,List.sum_cons,List.sum_nil]
       simp only at hr
       refine ⟨by omega,w4,fun y hy => ?_⟩
       rcases List.mem_append.1 hy with hy | hy
       ·exact w5 y hy
       rw [List.mem_singleton] at hy;subst hy;exact w2
      have e1:decide (0≤l)=false:=by simp [hl]
      rw [e1,cond_false]
      exact .inr ⟨l,rfl,g1,g2,fun h=>absurd h hl⟩
     have hj':j=e.Kids.length:=by omega
     subst hj'
     rw [Vu,cond_false]
     rw [List.take_length] at g3
     exact .inr ⟨l,rfl,g1,g2,g3⟩) (z,0) ⟨0,rfl,Nat.zero_le _,z2,z3,fun h=>⟨by simpa using (z4 h).1,(z4 h).2,by simp⟩⟩
   rw [h1,Option.bind_some]
   have inner:∀ (j:Nat) (hj:j < e.Ops.length) (l:Int),0≤l→l≤1000000→∃ r,Zx (Xr e (l,(j:Int))) (l,0)=some r∧-1≤r∧r≤1000000∧r≤l∧(0≤r→∀ t∈e.Ops[j].L,pt t≤1000000):=fun j hj l hl hl'=>by
    have hx:e.Ops[j]? = some e.Ops[j]:=List.getElem?_eq_getElem hj
    have hm:e.Ops[j]∈e.Ops:=List.getElem_mem hj
    have hL:=(hb.l _ hm).1
    obtain ⟨r,h1,h2⟩:=Vm (step:=Xr e (l,(j:Int)))
     (fun s=>∃ i:Nat,s.2=i∧i≤e.Ops[j].L.length∧-1≤s.1∧s.1≤1000000∧s.1≤l∧(0≤s.1→∀ t∈e.Ops[j].L.take i,pt t≤1000000))
     (fun s=>e.Ops[j].L.length - s.2.toNat) (fun r=>-1≤r∧r≤1000000∧r≤l∧(0≤r→∀ t∈e.Ops[j].L,pt t≤1000000)) (fun s hI=>by
      obtain ⟨l',i'⟩:=s
      obtain ⟨i,rfl,hi,g1,g2,g3,g4⟩:=hI
      simp only at g1 g2 g3 g4 ⊢
      unfold Xr
      simp only
      rw [Ym hx,Option.bind_some,Option.bind_some]
      by_cases hii:i < e.Ops[j].L.length
      ·rw [V0 hii,cond_true]
       by_cases hl2:0≤l'
       ·have e1:decide (0≤l')=true:=by simp [hl2]
        have hx2:e.Ops[j].L[i]? = some e.Ops[j].L[i]:=List.getElem?_eq_getElem hii
        have hm2:e.Ops[j].L[i]∈e.Ops[j].L:=List.getElem_mem hii
        obtain ⟨r,q1,q2,q3,q4⟩:=Zkl ((hb.l _ hm).2 _ hm2) hl2 g2
        rw [e1,cond_true,Ym hx2,Option.bind_some,q1,Option.bind_some,Yn (by omega) (by omega)]
        refine .inl ⟨_,rfl,⟨i+1,by simp only;omega,by omega,q2,q3,?_⟩,by simp only;omega⟩
        simp only
        refine ⟨?_,fun hr t ht => ?_⟩
        ·by_cases hr:0≤r
         ·have:=q4 hr;omega
         omega
        rw [List.take_add_one,hx2] at ht
        rcases List.mem_append.1 ht with ht | ht
        ·exact g4 hl2 t ht
        simp only [Option.toList_some,List.mem_singleton] at ht
        subst ht
        have:=q4 hr
        omega
       have e1:decide (0≤l')=false:=by simp [hl2]
       rw [e1,cond_false]
       exact .inr ⟨l',rfl,g1,g2,g3,fun h=>absurd h hl2⟩
      have hi':i=e.Ops[j].L.length:=by omega
      subst hi'
      rw [Vu,cond_false]
      rw [List.take_length] at g4
      exact .inr ⟨l',rfl,g1,g2,g3,g4⟩) (l,0) ⟨0,rfl,Nat.zero_le _,by simp only;omega,by simp only;omega,by simp only;omega,fun _=>by simp⟩
    exact ⟨r,h1,h2⟩
   obtain ⟨r',h1',h2'⟩:=Vm (step:=Xq (Z8 k) e d)
    (fun s=>∃ j:Nat,s.2=j∧j≤e.Ops.length∧-1≤s.1∧s.1≤1000000∧(0≤s.1→0≤r∧s.1+((((e.Ops.take j).map fun o=>ce o.E)).sum:Nat)≤r∧∀ o∈e.Ops.take j,ST o.E∧∀ t∈o.L,pt t≤1000000))
    (fun s=>e.Ops.length - s.2.toNat) (fun q=>-1≤q∧q≤1000000∧(0≤q→0≤r∧q+((e.Ops.map fun o=>ce o.E).sum:Nat)≤r∧∀ o∈e.Ops,ST o.E∧∀ t∈o.L,pt t≤1000000)) (fun s hI=>by
     obtain ⟨l,i⟩:=s
     obtain ⟨j,rfl,hj,g1,g2,g3⟩:=hI
     simp only at g1 g2 g3 ⊢
     unfold Xq
     simp only
     by_cases hji:j < e.Ops.length
     ·rw [V0 hji,cond_true]
      by_cases hl:0≤l
      ·have e1:decide (0≤l)=true:=by simp [hl]
       have hx:e.Ops[j]? = some e.Ops[j]:=List.getElem?_eq_getElem hji
       have hm:e.Ops[j]∈e.Ops:=List.getElem_mem hji
       obtain ⟨t,t1,t2,t3,t4,t5⟩:=inner j hji l hl g2
       rw [e1,cond_true,t1,Option.bind_some,Yn (x:=(j:Int)+1) (by omega) (by omega)]
       by_cases ht:0≤t
       ·obtain ⟨r,q1,q2,q3,q4⟩:=Z1z k e.Ops[j].E (d - 1) t (hb.os _ hm) (by have:=Zaw hm;omega) (by omega) (by omega) ht t3
        rw [decide_eq_true ht,cond_true,Ym hx,Option.bind_some,Yn (x:=d - 1) (by omega) (by omega),q1]
        refine .inl ⟨_,rfl,⟨j+1,by simp only;omega,by omega,q2,q3,fun hr => ?_⟩,by simp only;omega⟩
        obtain ⟨w1,w2⟩:=q4 hr
        obtain ⟨w3,w4,w5⟩:=g3 hl
        rw [List.take_add_one,hx]
        simp only [Option.toList_some,List.map_append,List.map_cons,List.map_nil,List.sum_append,List.sum_cons,List.sum_nil]
        simp only at hr
        refine ⟨w3,by omega,fun y hy => ?_⟩
        rcases List.mem_append.1 hy with hy | hy
        ·exact w5 y hy
        rw [List.mem_singleton] at hy;subst hy;exact ⟨w2,t5 ht⟩
       rw [decide_eq_false ht]
       exact .inl ⟨_,rfl,⟨j+1,by simp only;omega,by omega,t2,t3,fun hr=>absurd hr ht⟩,by simp only;omega⟩
      have e1:decide (0≤l)=false:=by simp [hl]
      rw [e1,cond_false]
      exact .inr ⟨l,rfl,g1,g2,fun h=>absurd h hl⟩
     have hj':j=e.Ops.length:=by omega
     subst hj'
     rw [Vu,cond_false]
     rw [List.take_length] at g3
     exact .inr ⟨l,rfl,g1,g2,g3⟩) (r,0) ⟨0,rfl,Nat.zero_le _,h2.1,h2.2.1,fun h=>⟨h,by simp,by simp⟩⟩
   rw [h1']
   refine ⟨r',rfl,h2'.1,h2'.2.1,fun hr => ?_⟩
   obtain ⟨p1,p2,p3⟩:=h2'.2.2 hr
   obtain ⟨p4,p5,p6⟩:=h2.2.2 p1
   exact ⟨by omega,.mk e p5.1 p5.2 (fun o ho=>(p3 o ho).2) p6 fun o ho=>(p3 o ho).1⟩
theorem Yk5 {e:Ed} (h:BE e) (hq:Jr e=some true):ce e≤3000∧ST e:=by
 obtain ⟨r,h1,h2,h3,h4⟩:=Z1z (SizeOf.sizeOf e+1) e 80 3000 h (by omega) (by omega) (by omega) (by omega) (by omega)
 have hr:Zba e 80 3000=some r:=Zeg (SizeOf.sizeOf e+1) fun k hk=>by rw [Zm8 k (SizeOf.sizeOf e+1) e 80 3000 (by omega) (by omega)];exact h1
 unfold Jr at hq
 rw [hr,Option.bind_some] at hq
 have hp:0≤r:=by simpa using hq
 have:=h4 hp
 exact ⟨by omega,this.2⟩
structure GT (t:Tr):Prop where
 n:NT t
 g:Rg t
 x:TX t
theorem GT.z:GT n0T:=⟨NT.z,Rg.z,TX.z⟩
theorem GT.all {t:Tr} (h:GT t):∀ k∈t.Kids,GT k:=fun k hk=>⟨h.n.kids k hk,h.g.all k hk,h.x.all k hk⟩
theorem GT.at_ {t:Tr} (h:GT t) (i:Nat):GT (atD n0T t.Kids i):=⟨Z4u h.n.kids NT.z i,Z4u h.g.all Rg.z i,Z4u h.x.all TX.z i⟩
theorem GT.of {t:Tr} (hb:Bd t) (hx:TX t):GT (nrm t):=⟨NT.of t,hb.nrm.rg,hx.n⟩
def D9 (e:Ed):Prop:=e.Kind=2∨(e.Kind=1∧e.Old.Kind=1∧e.New.Kind=1)
inductive RZ:Ed→Prop
 | same (e:Ed) (h:e.Kind=0):RZ e
 | repl (e:Ed) (h:e.Kind=1) (ho:TX e.Old) (hn:TX e.New):RZ e
 | st (e:Ed) (h:e.Kind=2) (hw:e.Words.Pairwise (fun a b=>a.At < b.At)) (hw2:∀ w∈e.Words,0≤w.At∧w.At≤65534) (hk:e.Kids.Pairwise (fun a b=>a.At < b.At)) (hk2:∀ k∈e.Kids,0≤k.At∧k.At≤65534) (ih:∀ k∈e.Kids,RZ k.E):RZ e
 | li (e:Ed) (h:e.Kind=3) (hl:2≤e.List_∧e.List_≤9) (ho:∀ o∈e.Ops,opk o) (hN:∀ o∈e.Ops,o.Kind=0∨o.Kind=3→o.L=[]) (hT:∀ o∈e.Ops,∀ t∈o.L,TX t∧(e.List_=9→t.Kind=1)) (h9:∀ o∈e.Ops,o.Kind=3→e.List_=9→D9 o.E) (ih:∀ o∈e.Ops,o.Kind=3→RZ o.E):RZ e
theorem Yhs:∀ (n:Nat) (e:Ed) (d:Nat),SizeOf.sizeOf e < n→rE e d=true→RZ e
 | 0,_,_,h,_=>by omega
 | n+1,e,d,hn,h=>by
  rw [Znr] at h
  by_cases hd:d=0
  ·rw [if_pos hd] at h;cases h
  rw [if_neg hd] at h
  by_cases h0:e.Kind=0
  ·exact .same e h0
  rw [if_neg h0] at h
  by_cases h1:e.Kind=1
  ·rw [if_pos h1] at h
   simp only [Bool.and_eq_true] at h
   exact .repl e h1 (Yc6 _ _ 64 (Nat.lt_succ_self _) h.2.1.1) (Yc6 _ _ 64 (Nat.lt_succ_self _) h.2.2.1)
  rw [if_neg h1] at h
  by_cases h2:e.Kind=2
  ·rw [if_pos h2] at h
   simp only [Bool.and_eq_true] at h
   obtain ⟨w1,w2⟩:=Zku Zt3 e.Words (-1) h.2.1
   obtain ⟨k1,k2⟩:=Zku (Z91 (d - 1)) e.Kids (-1) h.2.2
   refine .st e h2 w2 (fun w hw=>by have:=w1 w hw;omega) k2 (fun k hk=>by have:=k1 k hk;omega) fun k hk=>Yhs n k.E (d - 1) (by have:=Ub hk;omega) ?_
   exact Zki (Q:=fun k:Zn=>rE k.E (d - 1)=true) (fun p x hx=>by
    unfold okK okP at hx
    simp only [Bool.and_eq_true] at hx
    exact hx.2.2) e.Kids (-1) h.2.2 k hk
  rw [if_neg h2] at h
  by_cases h3:e.Kind=3
  ·rw [if_pos h3] at h
   simp only [Bool.and_eq_true,decide_eq_true_eq,List.all_eq_true] at h
   have ho:=h.2.2.1
   have hL:∀ o∈e.Ops,o.Kind=0∨o.Kind=3→o.L=[]:=fun o hx k03=>by
    have:=ho o hx
    unfold okO at this
    rcases k03 with k0 | k3
    ·rw [if_pos k0] at this
     simp only [Bool.and_eq_true,beq_iff_eq] at this
     exact List.eq_nil_of_length_eq_zero this.2.1
    rw [if_neg (by omega),if_neg (by omega),if_pos k3] at this
    simp only [Bool.and_eq_true,beq_iff_eq] at this
    exact List.eq_nil_of_length_eq_zero this.2.1
   refine .li e h3 h.2.1 (fun o hx=>Zzm (ho o hx)) hL (fun o hx t ht => ?_) (fun o hx k3 h9 => ?_) fun o hx k3=>Yhs n o.E (d - 1) (by have:=Zaw hx;omega) ?_
   ·have hk:=Yhe (Zzm (ho o hx))
    by_cases k12:o.Kind=1∨o.Kind=2
    ·have:=ho o hx
     unfold okO at this
     rw [if_neg (by omega),if_pos k12] at this
     simp only [Bool.and_eq_true,List.all_eq_true] at this
     obtain ⟨q1,q2⟩:=this.2.2.1 t ht
     refine ⟨Yc6 _ t 63 (Nat.lt_succ_self _) q1,fun h9 => ?_⟩
     unfold okk at q2
     rw [if_neg (by omega),h9] at q2
     simp only [Bool.and_eq_true,Bool.or_eq_true,bne_self_eq_false,Bool.false_eq_true,false_or,beq_iff_eq] at q2
     exact q2.2
    rw [hL o hx (by omega)] at ht
    cases ht
   ·have:=ho o hx
    unfold okO at this
    rw [if_neg (by omega),if_neg (by omega),if_pos k3] at this
    simp only [Bool.and_eq_true] at this
    have q:=this.2.2.2.1
    unfold Zxy at q
    rw [if_neg (by omega),if_pos h9] at q
    simp only [Bool.or_eq_true,Bool.and_eq_true,beq_iff_eq] at q
    exact q
   have:=ho o hx
   unfold okO at this
   rw [if_neg (by omega),if_neg (by omega),if_pos k3] at this
   simp only [Bool.and_eq_true] at this
   exact this.2.2.2.2
  rw [if_neg h3] at h;cases h
def Yq2 {α:Type} (f:α→α→Option α):Option α→Option α→Option α
 | some x,some y=>f x y
 | some x,none=>some x
 | none,y=>y
def Rise {α:Type} (pl:α→Int) (l:List α):Prop:=l.Pairwise (fun a b=>pl a < pl b)∧∀ x∈l,0≤pl x
theorem Rise.tail {α:Type} {pl:α→Int} {x:α} {l:List α} (h:Rise pl (x::l)):Rise pl l:=⟨(List.pairwise_cons.1 h.1).2,fun y hy=>h.2 y (.tail _ hy)⟩
theorem GT.w {t:Tr} (h:GT t) (j:Nat):0≤atD 0 t.Words j∧atD 0 t.Words j < 18446744073709551616:=Ykz h.g.u j
inductive LM:Ed→Prop
 | mk (e:Ed) (hw:e.Words.length≤250000) (hk:e.Kids.length≤250000) (ho:e.Ops.length≤250000) (hs:Znv e.Ops≤4000000) (ik:∀ k∈e.Kids,LM k.E) (io:∀ o∈e.Ops,LM o.E):LM e
theorem LM.w {e:Ed} (h:LM e):e.Words.length≤250000:=by cases h;assumption
theorem LM.k {e:Ed} (h:LM e):e.Kids.length≤250000:=by cases h;assumption
theorem LM.o {e:Ed} (h:LM e):e.Ops.length≤250000:=by cases h;assumption
theorem LM.s {e:Ed} (h:LM e):Znv e.Ops≤4000000:=by cases h;assumption
theorem LM.ks {e:Ed} (h:LM e):∀ k∈e.Kids,LM k.E:=by cases h;assumption
theorem LM.os {e:Ed} (h:LM e):∀ o∈e.Ops,LM o.E:=by cases h;assumption
structure MC (e:Ed):Prop where
 z:RZ e
 b:BE e
 g:GN e
 s:ST e
 m:LM e
theorem RZ.kid {e:Ed} (h:RZ e) (k2:e.Kind=2):∀ k∈e.Kids,RZ k.E:=by
 cases h with
 | st _ _ _ _ _ _ ih=>exact ih
 | same _ k=>omega
 | repl _ k=>omega
 | li _ k=>omega
theorem MC.kid {e:Ed} (h:MC e) (k2:e.Kind=2):∀ k∈e.Kids,MC k.E:=fun k hk=>⟨h.z.kid k2 k hk,h.b.ks k hk,h.g.ks k hk,h.s.ks k hk,h.m.ks k hk⟩
theorem CI.of {a:List EO} (hp:∀ o∈a,opk o) (hs:Znv a≤1073741824):CI a 0:=⟨hp,hs,by unfold Yfw;split <;> omega⟩
theorem Yme:LM eS0 := .mk _ (by simp [eS0]) (by simp [eS0]) (by simp [eS0]) (by simp [eS0,Znv]) (by simp [eS0]) (by simp [eS0])
theorem Z5k {e:Ed} (h:Zbl e=true):LM e:=by rw [Yjt h];exact Yme
theorem Ygv:∀ (n:Nat) (e:Ed) (d:Nat),SizeOf.sizeOf e < n→BE e→GN e→ce e≤3000→rE e d=true→LM e
 | 0,_,_,h,_,_,_,_=>by omega
 | n+1,e,d,hn,hb,hg,hc,h=>by
  have hc':=hc
  rw [Z8w] at hc'
  have hk1:e.Kids.length≤(e.Kids.map fun k=>ce k.E).sum:=Z11 fun x _=>Yf4 _
  have kk:∀ k∈e.Kids,∀ d',rE k.E d'=true→LM k.E:=fun k hk d' hd'=>by
   have:=Zp9 (f:=fun k:Zn=>ce k.E) hk
   exact Ygv n k.E d' (by have:=Ub hk;omega) (hb.ks k hk) (hg.ks k hk) (by omega) hd'
  have oo:∀ o∈e.Ops,∀ d',rE o.E d'=true→LM o.E:=fun o ho d' hd'=>by
   have:=Zp9 (f:=fun o:Zt=>ce o.E) ho
   exact Ygv n o.E d' (by have:=Zaw ho;omega) (hb.os o ho) (hg.os o ho) (by omega) hd'
  have hlens:=Yc3 hb h
  rw [Znr] at h
  by_cases hd:d=0
  ·rw [if_pos hd] at h;cases h
  rw [if_neg hd] at h
  by_cases h0:e.Kind=0
  ·rw [if_pos h0] at h
   exact Z5k h
  rw [if_neg h0] at h
  by_cases h1:e.Kind=1
  ·rw [if_pos h1] at h
   unfold Zi8 Zgd at h
   simp only [Bool.and_eq_true,beq_iff_eq] at h
   have e1:=List.eq_nil_of_length_eq_zero h.1.1.2
   have e2:=List.eq_nil_of_length_eq_zero h.1.2.2
   exact .mk _ (by omega) (by omega) (by omega) (by rw [e2];simp [Znv]) (by rw [e1];simp) (by rw [e2];simp)
  rw [if_neg h1] at h
  by_cases h2:e.Kind=2
  ·rw [if_pos h2] at h
   unfold Zgd at h
   simp only [Bool.and_eq_true,beq_iff_eq] at h
   have e2:=List.eq_nil_of_length_eq_zero h.1.2.2
   refine .mk _ (by omega) (by omega) (by omega) (by rw [e2];simp [Znv]) (fun k hk=>kk k hk (d - 1) ?_) (by rw [e2];simp)
   exact Zki (Q:=fun k:Zn=>rE k.E (d - 1)=true) (fun p x hx=>by
    unfold okK okP at hx
    simp only [Bool.and_eq_true] at hx
    exact hx.2.2) e.Kids (-1) h.2.2 k hk
  rw [if_neg h2] at h
  by_cases h3:e.Kind=3
  ·rw [if_pos h3] at h
   unfold Zi8 at h
   rw [Bool.and_eq_true,Bool.and_eq_true,Bool.and_eq_true,Bool.and_eq_true,Bool.and_eq_true,Bool.and_eq_true,beq_iff_eq,beq_iff_eq,List.all_eq_true] at h
   obtain ⟨⟨_,_,hk⟩,_,hall,hB⟩:=h
   have e1:=List.eq_nil_of_length_eq_zero hk
   refine .mk _ (by omega) (by omega) (by omega) ?_ (by rw [e1];simp) fun o ho => ?_
   ·rw [hlens] at hB
    have:=Z27 (l:=e.List_) (fun o=>rE o.E (d - 1)) e.Ops (0,0) ⟨⟨by decide,by decide⟩,by decide,by decide⟩ hall (fun o ho=>(hb.l o ho).1) hB
    unfold Zk0 at hB
    rw [Bool.and_eq_true,decide_eq_true_eq,decide_eq_true_eq] at hB
    simp only at this
    omega
   have:=hall o ho
   unfold okO at this
   by_cases k0:o.Kind=0
   ·rw [if_pos k0] at this
    simp only [Bool.and_eq_true] at this
    exact Z5k this.2.2
   rw [if_neg k0] at this
   by_cases k12:o.Kind=1∨o.Kind=2
   ·rw [if_pos k12] at this
    simp only [Bool.and_eq_true] at this
    exact Z5k this.2.2.2
   rw [if_neg k12] at this
   by_cases k3:o.Kind=3
   ·rw [if_pos k3] at this
    simp only [Bool.and_eq_true] at this
    exact oo o ho (d - 1) this.2.2.2.2
   rw [if_neg k3] at this;cases this
  rw [if_neg h3] at h;cases h
theorem Yi0 {e:Ed} (hb:BE e):∃ b,Vg e=some b∧(b=true→MC e∧rE e 64=true):=by
 obtain ⟨b,h1,h2⟩:=Ykg hb
 have h3:=Ycf hb (d:=64) (by decide)
 rw [show ((64:Nat):Int)=64 from rfl] at h3
 unfold Vg
 rw [h1,Option.bind_some,h3,Z14 hb]
 refine ⟨b && (rE e 64 && lgt e),?_,fun h => ?_⟩
 ·cases b <;> cases rE e 64 <;> cases lgt e <;> rfl
 simp only [Bool.and_eq_true] at h
 rw [h.1] at h1
 obtain ⟨hc,hs⟩:=Yk5 hb h1
 have hr:=h.2.1
 have hg:=Yci _ e 64 (Nat.lt_succ_self _) hb (by omega) hr
 exact ⟨⟨Yhs _ e 64 (Nat.lt_succ_self _) hr,hb,hg,hs,Ygv _ e 64 (Nat.lt_succ_self _) hb hg hc hr⟩,hr⟩
theorem w_l (a b:Int):IntKind.i64.wrap (IntKind.i64.wrap a+b)=IntKind.i64.wrap (a+b):=by rw [IntKind.wrap_i64 a,IntKind.wrap_i64,IntKind.wrap_i64];omega
theorem w_r (a b:Int):IntKind.i64.wrap (a+IntKind.i64.wrap b)=IntKind.i64.wrap (a+b):=by rw [IntKind.wrap_i64 b,IntKind.wrap_i64,IntKind.wrap_i64];omega
theorem w_w (a:Int):IntKind.i64.wrap (IntKind.i64.wrap a)=IntKind.i64.wrap a:=by rw [IntKind.wrap_i64 a,IntKind.wrap_i64];omega
theorem Z3f (a b:Int):IntKind.i64.wrap (IntKind.i64.wrap a+IntKind.i64.wrap b)=IntKind.i64.wrap (a+b):=by rw [w_l,w_r]
theorem Zkr {α:Type} (g:α→Int):∀ (l:List α) (s:Int),l.foldl (fun s x=>s+g x) s=s+(l.map g).sum
 | [],s=>by simp
 | x::l,s=>by rw [List.foldl_cons,Zkr g l,List.map_cons,List.sum_cons];omega
def frS (s:Int×Int) (x:Tr):Int×Int:=(if s.1 < (x.Words.length:Int) then (x.Words.length:Int) else s.1,if s.2 < (x.Kids.length:Int) then (x.Kids.length:Int) else s.2)
def fr (l:List Tr):Int×Int:=l.foldl frS (0,0)
theorem Z1m {t:Tr} (hl:(t.Kids.length:Int)≤140737488355328):Zdf t=some (fr t.Kids):=by
 unfold Zdf
 rw [(Zaz t.Kids (fun (s:Int×Int) (i:Int)=>(s.1,s.2,i)) frS id (fun _=>True) (Zd0 t) hl (fun s i x _ hi hx hm=>⟨trivial,by
  unfold Zd0
  simp only
  rw [V0 hi,cond_true,Ym hx,Option.bind_some]
  rfl⟩) (fun s _=>by
  unfold Zd0
  simp only
  rw [Vu,cond_false]
  rfl) (0,0) trivial).1,Option.bind_some]
 rfl
theorem Z4f {t:Tr} (hl:(t.Kids.length:Int)≤140737488355328):Zda t=some (fr t.Kids):=by
 unfold Zda
 rw [(Zaz t.Kids (fun (s:Int×Int) (i:Int)=>(s.1,s.2,i)) frS id (fun _=>True) (Zam t) hl (fun s i x _ hi hx hm=>⟨trivial,by
  unfold Zam frS
  simp only
  rw [V0 hi,cond_true,Ym hx,Option.bind_some]
  by_cases h1:s.1 < (x.Words.length:Int) <;> by_cases h2:s.2 < (x.Kids.length:Int) <;> simp [h1,h2]⟩) (fun s _=>by
  unfold Zam
  simp only
  rw [Vu,cond_false]
  rfl) (0,0) trivial).1,Option.bind_some]
 rfl
def h9 (l:List Tr):Int:=IntKind.i64.wrap (1+IntKind.i64.wrap ((l.length:Int) * IntKind.i64.wrap ((fr l).1+(fr l).2)))
def Zql (c:Int) (n:Nat):Int:=((n * wid c+63) / 64:Nat)
def sz (t:Tr):Int :=
 if t.Kind=1 then ((t.Words.length:Int)+(t.Kids.length:Int))+(t.Kids.attach.map fun k=>sz k.1).sum
 else if 2≤t.Kind∧t.Kind≤7 then Zql (t.Kind - 2) t.Kids.length
 else if t.Kind=8 then (t.Kids.length:Int)+(t.Kids.attach.map fun k=>sz k.1).sum
 else if t.Kind=9 then h9 t.Kids+(t.Kids.attach.map fun k=>(k.1.Kids.attach.map fun j=>sz j.1).sum).sum
 else 0
termination_by SizeOf.sizeOf t
decreasing_by
 ·exact Xs k.2
 ·exact Xs k.2
 exact Nat.lt_trans (Xs j.2) (Xs k.2)
theorem Znw (t:Tr):sz t=if t.Kind=1 then ((t.Words.length:Int)+(t.Kids.length:Int))+(t.Kids.map sz).sum
 else if 2≤t.Kind∧t.Kind≤7 then Zql (t.Kind - 2) t.Kids.length
 else if t.Kind=8 then (t.Kids.length:Int)+(t.Kids.map sz).sum
 else if t.Kind=9 then h9 t.Kids+(t.Kids.map fun k=>(k.Kids.map sz).sum).sum
 else 0:=by
 rw [sz]
 have h1:(t.Kids.attach.map fun k=>(k.1.Kids.attach.map fun j=>sz j.1).sum)=t.Kids.map fun k=>(k.Kids.map sz).sum:=by
  have:(fun (k:{ x // x∈t.Kids })=>(k.1.Kids.attach.map fun j=>sz j.1).sum)=fun (k:{ x // x∈t.Kids })=>(fun k:Tr=>(k.Kids.map sz).sum) k.1:=funext fun k=>congrArg List.sum (List.attach_map_val (f:=sz))
  rw [this]
  exact List.attach_map_val (f:=fun k:Tr=>(k.Kids.map sz).sum)
 rw [h1]
 simp only [List.attach_map_val]
theorem c5' {c:Int} (h:0≤c∧c≤5):c=0∨c=1∨c=2∨c=3∨c=4∨c=5:=by omega
theorem Yc7 {c:Int} (h:0≤c∧c≤5):Jk c=some ((wid c:Nat):Int):=by
 unfold Jk
 rcases c5' h with rfl | rfl | rfl | rfl | rfl | rfl <;> rfl
theorem Yae {c:Int} (h:0≤c∧c≤5) {n:Nat} (hn:n≤1099511627776):Zep c (n:Int)=some (((n * wid c+63) / 64:Nat):Int):=by
 unfold Zep
 rw [Yc7 h,Option.bind_some]
 have key:∀ (w p:Nat),(1≤w∧w≤64)→w * p=64→Int.tdiv 64 (w:Int)=(p:Int)→(cond (cond (cond (decide ((w:Int) < 1)) true (decide ((n:Int) < 0))) true (decide ((1099511627776:Int) < (n:Int)))) (some 0) ((some ((w:Nat):Int)).bind fun y5=>(Vs (y5≠0)).bind fun u6=>(Vs ((IntKind.i64.wrap (Int.tdiv 64 y5))≠0)).bind fun u8=>cond (decide (0 < (Int.tmod (n:Int) (IntKind.i64.wrap (Int.tdiv 64 y5))))) ((Vs ((IntKind.i64.wrap (Int.tdiv 64 y5))≠0)).bind fun u10=>some (IntKind.i64.wrap ((IntKind.i64.wrap (Int.tdiv (n:Int) (IntKind.i64.wrap (Int.tdiv 64 y5))))+1))) ((Vs ((IntKind.i64.wrap (Int.tdiv 64 y5))≠0)).bind fun u12=>some (IntKind.i64.wrap (Int.tdiv (n:Int) (IntKind.i64.wrap (Int.tdiv 64 y5)))))))=some (((n * w+63) / 64:Nat):Int):=fun w p hw hp ht=>by
  have hp1:1≤p∧p≤64:=by
   rcases Nat.eq_zero_or_pos p with q | q
   ·rw [q] at hp;omega
   exact ⟨q,by have:=Nat.mul_le_mul_right p hw.1;omega⟩
  have hd:n / p≤n:=Nat.div_le_self _ _
  have hm:p * (n / p)+n % p=n:=Nat.div_add_mod n p
  have hml:n % p < p:=Nat.mod_lt _ hp1.1
  have ed:(n:Int) / (p:Int)=((n / p:Nat):Int):=rfl
  have em:(n:Int) % (p:Int)=((n % p:Nat):Int):=rfl
  have enw:n * w=64 * (n / p)+n % p * w:=by
   have:n * w=(p * (n / p)+n % p) * w:=by rw [hm]
   rw [this,Nat.add_mul,Nat.mul_comm p,Nat.mul_assoc,Nat.mul_comm p,hp,Nat.mul_comm (n / p)]
  rw [show decide ((w:Int) < 1)=false from by rw [decide_eq_false_iff_not];omega,cond_false,show decide ((n:Int) < 0)=false from by rw [decide_eq_false_iff_not];omega,cond_false,show decide ((1099511627776:Int) < (n:Int))=false from by rw [decide_eq_false_iff_not];omega,cond_false,Option.bind_some,ht,Yn (x:=(p:Int)) (by omega) (by omega),Zcs (by omega),Option.bind_some,Zcs (by omega),Option.bind_some,Int.tmod_eq_emod_of_nonneg (by omega),Int.tdiv_eq_ediv_of_nonneg (by omega),ed,em,Yn (x:=((n / p:Nat):Int)) (by omega) (by omega),Yn (x:=((n / p:Nat):Int)+1) (by omega) (by omega)]
  by_cases q:0 < n % p
  ·have h1:1 * w≤n % p * w:=Nat.mul_le_mul_right _ q
   have h2:(n % p+1) * w≤p * w:=Nat.mul_le_mul_right _ hml
   rw [Nat.mul_comm p,hp,Nat.add_mul,Nat.one_mul] at h2
   rw [show decide ((0:Int) < ((n % p:Nat):Int))=true from by rw [decide_eq_true_eq];omega,cond_true,Option.bind_some]
   congr 1
   generalize n % p * w=z at *
   omega
  have h0:n % p=0:=by omega
  rw [h0,Nat.zero_mul] at enw
  rw [show decide ((0:Int) < ((n % p:Nat):Int))=false from by rw [decide_eq_false_iff_not];omega,cond_false,Option.bind_some]
  congr 1
  omega
 rcases c5' h with rfl | rfl | rfl | rfl | rfl | rfl
 ·rw [show decide (((wid 0:Nat):Int) < 1)=true from rfl,cond_true,cond_true,cond_true,show wid 0=0 from rfl,Nat.mul_zero]
  rfl
 ·exact key 1 64 (by decide) rfl rfl
 ·exact key 8 8 (by decide) rfl rfl
 ·exact key 16 4 (by decide) rfl rfl
 ·exact key 32 2 (by decide) rfl rfl
 exact key 64 1 (by decide) rfl rfl
theorem Yas {c:Int} (h:0≤c∧c≤5) {n:Nat} (hn:n≤1048576):Zg7 c (n:Int)=some (Zql c n):=by
 have hw:Gh c=some (((wid c:Nat):Int),true):=by
  unfold Gh
  rcases c5' h with rfl | rfl | rfl | rfl | rfl | rfl <;> rfl
 have hb:wid c≤64:=by rcases c5' h with rfl | rfl | rfl | rfl | rfl | rfl <;> decide
 have hm:n * wid c≤1048576 * 64:=Nat.mul_le_mul hn hb
 unfold Zg7 Zql
 rw [hw,Option.bind_some]
 simp only
 rw [Bool.not_true,cond_false,decide_eq_false (by omega),cond_false,decide_eq_false (by omega),cond_false,← Int.natCast_mul]
 generalize n * wid c=m at hm ⊢
 rw [Yn (x:=(m:Int)) (by omega) (by omega),Yn (x:=(m:Int)+63) (by omega) (by omega),Int.tdiv_eq_ediv_of_nonneg (by omega),Yn (by omega) (by omega)]
 congr 1
theorem Zdn {t:Tr} {d:Nat} (h:rt t d=true):0≤t.Kind∧t.Kind≤10∧t.Kids.length < 1048576∧(t.Kind=0∨t.Kind=10→t.Kids=[])∧∀ k∈t.Kids,rt k (d - 1)=true:=by
 rw [Zj0] at h
 by_cases h0:t.Kind=0
 ·rw [if_pos h0,Bool.and_eq_true,beq_iff_eq,beq_iff_eq] at h
  have:=List.length_eq_zero_iff.1 h.2
  rw [this]
  exact ⟨by omega,by omega,by simp,fun _=>rfl,fun k hk=>by cases hk⟩
 by_cases h1:t.Kind=10
 ·rw [if_neg h0,if_pos h1,Bool.and_eq_true,beq_iff_eq,beq_iff_eq] at h
  have:=List.length_eq_zero_iff.1 h.2
  rw [this]
  exact ⟨by omega,by omega,by simp,fun _=>rfl,fun k hk=>by cases hk⟩
 rw [if_neg h0,if_neg h1] at h
 by_cases hb:t.Kind < 0∨10 < t.Kind∨d=0∨65536≤t.Words.length∨(t.Kind=1∧65536≤t.Kids.length)∨1048576≤t.Kids.length∨(1 < t.Kind∧0 < t.Words.length)
 ·rw [if_pos hb] at h;cases h
 rw [if_neg hb,List.all_eq_true] at h
 refine ⟨by omega,by omega,by omega,fun q=>by omega,fun k hk => ?_⟩
 have:=h k hk
 rw [Bool.and_eq_true] at this
 exact this.1
theorem Ybr {k:Nat} (l:List Tr) (hl:(l.length:Int)≤140737488355328) (h:∀ x∈l,(Xy k).1 x=some (IntKind.i64.wrap (sz x))):Zx (Zay (Xy k).1 l) (0,0)=some (IntKind.i64.wrap (l.map sz).sum):=by
 have:=(Zaz l (fun (s:Int) (i:Int)=>(IntKind.i64.wrap s,i)) (fun s x=>s+sz x) (fun s=>IntKind.i64.wrap s) (fun _=>True) (Zay (Xy k).1 l) hl (fun s i x _ hi hx hm=>⟨trivial,by
  unfold Zay
  simp only
  rw [V0 hi,cond_true,Ym hx,Option.bind_some,h x hm,Option.bind_some,Z3f]⟩) (fun s _=>by
  unfold Zay
  simp only
  rw [Vu,cond_false]) 0 trivial).1
 rw [Zkr,Int.zero_add] at this
 exact this
theorem Yc8:∀ (k:Nat),(∀ (t:Tr) (d:Nat),rt t d=true→2 * SizeOf.sizeOf t < k→(Xy k).1 t=some (IntKind.i64.wrap (sz t))) ∧
  (∀ l:List Tr,0 < k→(l.length:Int)≤140737488355328→(∀ x∈l,(∃ d,rt x d=true)∧2 * SizeOf.sizeOf x+1 < k)→(Xy k).2 l=some (IntKind.i64.wrap (l.map sz).sum))
 | 0=>⟨fun _ _ _ h=>by omega,fun _ h=>by omega⟩
 | k+1=>by
  obtain ⟨i1,i2⟩:=Yc8 k
  refine ⟨fun t d hr hk => ?_,fun l _ hl h => ?_⟩
  ·obtain ⟨r1,r2,r3,r4,r5⟩:=Zdn hr
   have s0:0 < SizeOf.sizeOf t:=by
    obtain ⟨a,b,c⟩:=t
    simp only [Za.mk.sizeOf_spec]
    omega
   have k0:0 < k:=by omega
   have hs:∀ x∈t.Kids,(∃ d,rt x d=true)∧2 * SizeOf.sizeOf x+1 < k:=fun x hx=>⟨⟨_,r5 x hx⟩,by have:=Xs hx;omega⟩
   have hk9:∀ y∈t.Kids,(Xy k).2 y.Kids=some (IntKind.i64.wrap (y.Kids.map sz).sum):=fun y hy =>
    i2 _ k0 (by have:=(Zdn (r5 y hy)).2.2.1;omega) fun x hx=>⟨⟨_,(Zdn (r5 y hy)).2.2.2.2 x hx⟩,by have:=Xs hx;have:=Xs hy;omega⟩
   show Zjo (Xy k).1 (Xy k).2 t=_
   unfold Zjo Zl8
   rw [Znw]
   by_cases h1:t.Kind=1
   ·rw [if_pos h1,show (t.Kind == 1)=true from by rw [h1];rfl,cond_true,i2 _ k0 (by omega) hs,Option.bind_some,Z3f]
   rw [if_neg h1,beq_eq_false_iff_ne.2 h1,cond_false,Option.bind_some]
   by_cases h2:2≤t.Kind∧t.Kind≤7
   ·rw [if_pos h2,decide_eq_true h2.1,cond_true,decide_eq_true h2.2,cond_true,Yn (by omega) (by omega),Yas (by omega) (by omega),Option.bind_some]
    have:IntKind.i64.wrap (Zql (t.Kind - 2) t.Kids.length)=Zql (t.Kind - 2) t.Kids.length:=by
     have hb:wid (t.Kind - 2)≤64:=by rcases c5' (c:=t.Kind - 2) (by omega) with q | q | q | q | q | q <;> rw [q] <;> decide
     have hm:t.Kids.length * wid (t.Kind - 2)≤1048576 * 64:=Nat.mul_le_mul (by omega) hb
     unfold Zql
     rw [Yn (by omega) (by omega)]
    rw [this]
   rw [if_neg h2]
   have hc:cond (decide (2≤t.Kind)) (decide (t.Kind≤7)) false=false:=by
    rw [Zdw,Bool.and_eq_false_iff,decide_eq_false_iff_not,decide_eq_false_iff_not];omega
   rw [hc,cond_false]
   by_cases h8:t.Kind=8
   ·rw [if_pos h8,show (t.Kind == 8)=true from by rw [h8];rfl,cond_true,i2 _ k0 (by omega) hs,Option.bind_some,w_r]
   rw [if_neg h8,beq_eq_false_iff_ne.2 h8,cond_false]
   by_cases h9':t.Kind=9
   ·rw [if_pos h9',show (t.Kind == 9)=true from by rw [h9'];rfl,cond_true,Z1m (by omega),Option.bind_some]
    have:=(Zaz t.Kids (fun (s:Int) (i:Int)=>(IntKind.i64.wrap s,i)) (fun s x=>s+(x.Kids.map sz).sum) (fun s=>IntKind.i64.wrap s) (fun _=>True) (Zcr (Xy k).2 t) (by omega) (fun s i x _ hi hx hm=>⟨trivial,by
     unfold Zcr
     simp only
     rw [V0 hi,cond_true,Ym hx,Option.bind_some,hk9 x hm,Option.bind_some,Z3f]⟩) (fun s _=>by
     unfold Zcr
     simp only
     rw [Vu,cond_false]) (h9 t.Kids) trivial).1
    rw [Zkr,show IntKind.i64.wrap (h9 t.Kids)=h9 t.Kids from w_w _] at this
    show (Zx (Zcr (Xy k).2 t) (h9 t.Kids,0)).bind _=_
    rw [this,Option.bind_some]
   rw [if_neg h9',beq_eq_false_iff_ne.2 h9',cond_false]
   rfl
  show Zht (Xy k).1 (Xy k).2 l=_
  unfold Zht
  rw [Ybr l hl (fun x hx=>by obtain ⟨⟨d,hd⟩,hh⟩:=h x hx;exact i1 x d hd (by omega)),Option.bind_some]
theorem Yju {t:Tr} {d:Nat} (h:rt t d=true):Zqa t=some (IntKind.i64.wrap (sz t)):=Zeg (2 * SizeOf.sizeOf t+1) fun k hk=>(Yc8 k).1 t d h (by omega)
theorem Yb4 {t:Tr} {d:Nat} (hb:Bd t) (h:rt t d=true):Zg5 t=some (IntKind.i64.wrap (sz (nrm t))):=by
 unfold Zg5
 rw [Ycv hb,Option.bind_some,Yju (rtN h),Option.bind_some]
theorem Z2x:∀ (k:Nat) (t:Tr) (d:Nat),rt t d=true→SizeOf.sizeOf t < k→Qc k t=some (IntKind.i64.wrap (sz t))
 | 0,_,_,_,h=>by omega
 | k+1,t,d,hr,hk=>by
  obtain ⟨r1,r2,r3,r4,r5⟩:=Zdn hr
  have ih:∀ x∈t.Kids,Qc k x=some (IntKind.i64.wrap (sz x)):=fun x hx=>Z2x k x _ (r5 x hx) (by have:=Xs hx;omega)
  have ih2:∀ y∈t.Kids,∀ x∈y.Kids,Qc k x=some (IntKind.i64.wrap (sz x)):=fun y hy x hx=>Z2x k x _ ((Zdn (r5 y hy)).2.2.2.2 x hx) (by have:=Xs hx;have:=Xs hy;omega)
  have lp:∀ s:Int,Zx (Ul (Qc k) t) (IntKind.i64.wrap s,0)=some (IntKind.i64.wrap (s+(t.Kids.map sz).sum)):=fun s=>by
   have:=(Zaz t.Kids (fun (s:Int) (i:Int)=>(IntKind.i64.wrap s,i)) (fun s x=>s+sz x) (fun s=>IntKind.i64.wrap s) (fun _=>True) (Ul (Qc k) t) (by omega) (fun s i x _ hi hx hm=>⟨trivial,by
    unfold Ul
    simp only
    rw [V0 hi,cond_true,Ym hx,Option.bind_some,ih x hm,Option.bind_some,Z3f]⟩) (fun s _=>by
    unfold Ul
    simp only
    rw [Vu,cond_false]) s trivial).1
   rw [Zkr] at this
   exact this
  show Zhm (Qc k) t=_
  unfold Zhm
  rw [Znw]
  by_cases h1:t.Kind=1
  ·rw [if_pos h1,show (t.Kind == 1)=true from by rw [h1];rfl,cond_true,Option.bind_some]
   simp only
   rw [lp,Option.bind_some]
  rw [if_neg h1,beq_eq_false_iff_ne.2 h1,cond_false]
  by_cases h8:t.Kind=8
  ·rw [if_neg (by omega),if_pos h8,show (t.Kind == 8)=true from by rw [h8];rfl,cond_true,Option.bind_some]
   simp only
   have:=lp (t.Kids.length:Int)
   rw [Yn (x:=(t.Kids.length:Int)) (by omega) (by omega)] at this
   rw [this,Option.bind_some]
  rw [beq_eq_false_iff_ne.2 h8,cond_false]
  have hc:(cond (t.Kind == 2) (some (t.Kind == 2)) (cond (t.Kind == 3) (some (t.Kind == 3)) (cond (t.Kind == 4) (some (t.Kind == 4)) (cond (t.Kind == 5) (some (t.Kind == 5)) (cond (t.Kind == 6) (some (t.Kind == 6)) (some (t.Kind == 7)))))))=some (decide (2≤t.Kind∧t.Kind≤7)):=by
   by_cases h2:2≤t.Kind∧t.Kind≤7
   ·rcases (show t.Kind=2∨t.Kind=3∨t.Kind=4∨t.Kind=5∨t.Kind=6∨t.Kind=7 by omega) with q | q | q | q | q | q <;> rw [q] <;> rfl
   rw [decide_eq_false h2,beq_eq_false_iff_ne.2 (by omega:¬ t.Kind=2),beq_eq_false_iff_ne.2 (by omega:¬ t.Kind=3),beq_eq_false_iff_ne.2 (by omega:¬ t.Kind=4),beq_eq_false_iff_ne.2 (by omega:¬ t.Kind=5),beq_eq_false_iff_ne.2 (by omega:¬ t.Kind=6),beq_eq_false_iff_ne.2 (by omega:¬ t.Kind=7)]
   rfl
  rw [hc,Option.bind_some]
  by_cases h2:2≤t.Kind∧t.Kind≤7
  ·have hb:wid (t.Kind - 2)≤64:=by rcases c5' (c:=t.Kind - 2) (by omega) with q | q | q | q | q | q <;> rw [q] <;> decide
   have hm:t.Kids.length * wid (t.Kind - 2)≤1048576 * 64:=Nat.mul_le_mul (by omega) hb
   rw [decide_eq_true h2,cond_true,if_pos h2,Yn (x:=t.Kind - 2) (by omega) (by omega),Yae (by omega) (by omega),Option.bind_some,Option.bind_some]
   unfold Zql
   rw [Yn (by omega) (by omega)]
  rw [decide_eq_false h2,cond_false,if_neg h2,if_neg h8]
  by_cases h9':t.Kind=9
  ·rw [if_pos h9',show (t.Kind == 9)=true from by rw [h9'];rfl,cond_true,Z4f (by omega),Option.bind_some]
   have:=(Zaz t.Kids (fun (s:Int) (i:Int)=>(IntKind.i64.wrap s,i)) (fun s x=>s+(x.Kids.map sz).sum) (fun s=>IntKind.i64.wrap s) (fun _=>True) (Za4 (Qc k) t) (by omega) (fun s i x _ hi hx hm=>⟨trivial,by
    have hxl:=(Zdn (r5 x hm)).2.2.1
    have inner:=(Zaz x.Kids (fun (s:Int) (i:Int)=>(IntKind.i64.wrap s,i)) (fun s x=>s+sz x) (fun s=>IntKind.i64.wrap s) (fun _=>True) (Za5 (Qc k) t (IntKind.i64.wrap s,(i:Int))) (by omega) (fun s j y _ hj hy hmy=>⟨trivial,by
     unfold Za5
     simp only
     rw [Ym hx,Option.bind_some,V0 hj,cond_true,Option.bind_some,Ym hy,Option.bind_some,ih2 x hm y hmy,Option.bind_some,Z3f]⟩) (fun s _=>by
     unfold Za5
     simp only
     rw [Ym hx,Option.bind_some,Vu,cond_false]) s trivial).1
    rw [Zkr] at inner
    unfold Za4
    simp only
    rw [V0 hi,cond_true,inner,Option.bind_some]⟩) (fun s _=>by
    unfold Za4
    simp only
    rw [Vu,cond_false]) (h9 t.Kids) trivial).1
   rw [Zkr,show IntKind.i64.wrap (h9 t.Kids)=h9 t.Kids from w_w _] at this
   have h9e:IntKind.i64.wrap (1+IntKind.i64.wrap ((t.Kids.length:Int) * IntKind.i64.wrap ((fr t.Kids).1+(fr t.Kids).2)))=h9 t.Kids:=rfl
   rw [h9e,this,Option.bind_some,Option.bind_some]
  rw [if_neg h9',beq_eq_false_iff_ne.2 h9',cond_false,Option.bind_some]
  simp only
  have:=lp 0
  rw [show IntKind.i64.wrap 0=0 from rfl,r4 (by omega)] at this
  rw [this,Option.bind_some]
  rfl
theorem Yhz {t:Tr} {d:Nat} (h:rt t d=true):Zh8 t=some (IntKind.i64.wrap (sz t)):=Zeg (SizeOf.sizeOf t+1) fun k hk=>Z2x k t d h (by omega)
def hdE (e:Ed):Int:=IntKind.u64.wrap (IntKind.i64.wrap (e.Kind+IntKind.i64.wrap (256 * e.List_)))
def hdO (o:Zt):Int:=IntKind.u64.wrap (IntKind.i64.wrap (o.Kind+IntKind.i64.wrap (256 * o.N)))
def wT (w:Z6):Tr:=⟨1,[IntKind.u64.wrap (IntKind.u64.wrap w.At+IntKind.u64.wrap (4294967296 * IntKind.u64.wrap w.Mask)),w.Old,w.New],[]⟩
def Zls (l:List Tr):Tr:=if l.length=0 then ⟨0,[],[]⟩ else ⟨9,[],l⟩
def kT (k:Zn) (t:Tr):Tr:=⟨1,[IntKind.u64.wrap k.At],[t]⟩
def opT (l:Int) (o:Zt) (t:Tr):Tr:=⟨1,[hdO o],if o.Kind=3 then [t] else if 0 < o.Kind then [⟨l,[],o.L⟩] else []⟩
def TE (e:Ed):Tr :=
 if e.Kind=0 then ⟨0,[],[]⟩
 else if e.Kind=1 then ⟨1,[hdE e],[e.Old,e.New]⟩
 else if e.Kind=2 then ⟨1,[hdE e],[Zls (e.Words.map wT),Zls (e.Kids.attach.map fun k=>kT k.1 (TE k.1.E))]⟩
 else ⟨1,[hdE e],[Zls (e.Ops.attach.map fun o=>opT e.List_ o.1 (TE o.1.E))]⟩
termination_by SizeOf.sizeOf e
decreasing_by
 ·exact Ub k.2
 exact Zaw o.2
theorem Zlt (e:Ed):TE e=if e.Kind=0 then ⟨0,[],[]⟩
 else if e.Kind=1 then ⟨1,[hdE e],[e.Old,e.New]⟩
 else if e.Kind=2 then ⟨1,[hdE e],[Zls (e.Words.map wT),Zls (e.Kids.map fun k=>kT k (TE k.E))]⟩
 else ⟨1,[hdE e],[Zls (e.Ops.map fun o=>opT e.List_ o (TE o.E))]⟩:=by
 rw [TE]
 have h1:(e.Kids.attach.map fun k=>kT k.1 (TE k.1.E))=e.Kids.map fun k=>kT k (TE k.E):=List.attach_map_val (f:=fun k:Zn=>kT k (TE k.E))
 have h2:(e.Ops.attach.map fun o=>opT e.List_ o.1 (TE o.1.E))=e.Ops.map fun o=>opT e.List_ o (TE o.E):=List.attach_map_val (f:=fun o:Zt=>opT e.List_ o (TE o.E))
 rw [h1,h2]
abbrev PT:=Z3
def part (t:Tr):PT:=⟨t.Kind != 0,IntKind.i64.wrap (sz (nrm t))⟩
theorem Zkm {t:Tr} (h:t.Kind=0):sz (nrm t)=0:=by
 rw [Zc1,if_pos h,Znw]
 rfl
theorem Yia (ws:List Int) (ks:List Tr):sz (⟨1,ws,ks⟩:Tr)=((ws.length:Int)+(ks.length:Int))+(ks.map sz).sum:=by rw [Znw];rfl
theorem Yln (l:List Tr):sz (⟨9,[],l⟩:Tr)=h9 l+(l.map fun k=>(k.Kids.map sz).sum).sum:=by rw [Znw];rfl
theorem Zxi {t:Tr} {d:Nat} (hb:Bd t) (h:rt t d=true):Ud t=some (part t):=by
 unfold Ud
 rw [Yb4 hb h,Option.bind_some]
 rfl
theorem Yjw (b:Bool) (s:Int):Qn 1 [⟨b,s⟩]=some ⟨true,IntKind.i64.wrap (IntKind.i64.wrap (1+s)+(if b=true then 1 else 0))⟩:=by
 unfold Qn
 have h1:Jx [⟨b,s⟩] (0,1,0)=some (.inl ((if b=true then 1 else 0),IntKind.i64.wrap (1+s),1)):=by cases b <;> rfl
 have h2:∀ c t,Jx [⟨b,s⟩] (c,t,1)=some (.inr (c,t)):=fun c t=>rfl
 rw [Xv h1,Xe (h2 _ _),Option.bind_some]
theorem Yjx (b:Bool) (s:Int) (b':Bool) (s':Int):Qn 1 [⟨b,s⟩,⟨b',s'⟩]=some ⟨true,IntKind.i64.wrap (IntKind.i64.wrap (IntKind.i64.wrap (1+s)+s')+(if b'=true then 2 else if b=true then 1 else 0))⟩:=by
 unfold Qn
 have h1:Jx [⟨b,s⟩,⟨b',s'⟩] (0,1,0)=some (.inl ((if b=true then 1 else 0),IntKind.i64.wrap (1+s),1)):=by cases b <;> rfl
 have h2:∀ c t,Jx [⟨b,s⟩,⟨b',s'⟩] (c,t,1)=some (.inl ((if b'=true then 2 else c),IntKind.i64.wrap (t+s'),2)):=fun c t=>by cases b' <;> rfl
 have h3:∀ c t,Jx [⟨b,s⟩,⟨b',s'⟩] (c,t,2)=some (.inr (c,t)):=fun c t=>rfl
 rw [Xv h1,Xv (h2 _ _),Xe (h3 _ _),Option.bind_some]
theorem Z8b {w:Int} (h:w≠0):tr (fun x:Int=>x == 0) [w]=[w]:=by
 simp [tr,h]
theorem st1 {w:Int} (hw:w≠0) (a:Tr):Qn 1 [part a]=some (part ⟨1,[w],[a]⟩):=by
 unfold part
 rw [Yjw]
 congr 1
 rw [show nrm (⟨1,[w],[a]⟩:Tr)=⟨1,tr (fun x:Int=>x == 0) [w],tr (fun x:Tr=>x.Kind == 0) [nrm a]⟩ from by rw [Zc1];rfl,Z8b hw,Yia]
 by_cases q:a.Kind=0
 ·rw [show tr (fun x:Tr=>x.Kind == 0) [nrm a]=[] from by simp [tr,Ur,q],Zkm q]
  simp [q]
  rfl
 rw [show tr (fun x:Tr=>x.Kind == 0) [nrm a]=[nrm a] from by simp [tr,Ur,q]]
 simp only [bne_iff_ne,ne_eq,q,not_false_eq_true,if_true,List.length_singleton,List.map_cons,List.map_nil,List.sum_cons,List.sum_nil]
 rw [w_l,IntKind.wrap_i64 (sz (nrm a)),IntKind.wrap_i64,IntKind.wrap_i64]
 congr 1
 omega
theorem st2 {w:Int} (hw:w≠0) (a b:Tr):Qn 1 [part a,part b]=some (part ⟨1,[w],[a,b]⟩):=by
 unfold part
 rw [Yjx]
 congr 1
 rw [show nrm (⟨1,[w],[a,b]⟩:Tr)=⟨1,tr (fun x:Int=>x == 0) [w],tr (fun x:Tr=>x.Kind == 0) [nrm a,nrm b]⟩ from by rw [Zc1];rfl,Z8b hw,Yia]
 have e:∀ x y c z:Int,x+y+c=z→IntKind.i64.wrap (IntKind.i64.wrap (IntKind.i64.wrap (1+IntKind.i64.wrap x)+IntKind.i64.wrap y)+c)=IntKind.i64.wrap (1+z):=fun x y c z h=>by
  rw [w_r 1 x,Z3f,w_l]
  congr 1
  omega
 by_cases q2:b.Kind=0
 ·by_cases q:a.Kind=0
  ·rw [show tr (fun x:Tr=>x.Kind == 0) [nrm a,nrm b]=[] from by simp [tr,Ur,q,q2],Zkm q,Zkm q2]
   simp only [q,q2]
   rfl
  rw [show tr (fun x:Tr=>x.Kind == 0) [nrm a,nrm b]=[nrm a] from by simp [tr,Ur,q,q2],Zkm q2]
  simp only [q2,bne_self_eq_false,Bool.false_eq_true,if_false,bne_iff_ne,ne_eq,q,not_false_eq_true,if_true,List.length_singleton,List.map_cons,List.map_nil,List.sum_cons,List.sum_nil]
  refine congrArg _ ((e _ 0 1 _ rfl).trans (congrArg _ ?_))
  omega
 rw [show tr (fun x:Tr=>x.Kind == 0) [nrm a,nrm b]=[nrm a,nrm b] from by simp [tr,Ur,q2]]
 simp only [bne_iff_ne,ne_eq,q2,not_false_eq_true,if_true,List.length_cons,List.length_nil,List.map_cons,List.map_nil,List.sum_cons,List.sum_nil]
 refine congrArg _ ((e _ _ 2 _ rfl).trans (congrArg _ ?_))
 omega
def mx {α:Type} (f:α→Int) (l:List α) (s:Int):Int:=l.foldl (fun s x=>if s < f x then f x else s) s
theorem Ycg:∀ (l:List Tr) (a b:Int),l.foldl frS (a,b)=(mx (fun x=>(x.Words.length:Int)) l a,mx (fun x=>(x.Kids.length:Int)) l b)
 | [],_,_=>rfl
 | x::l,a,b=>by
  rw [List.foldl_cons]
  exact Ycg l _ _
theorem Zj6 {α β:Type} (g:α→β) (f:β→Int) (l:List α) (s:Int):mx f (l.map g) s=mx (fun x=>f (g x)) l s:=by
 unfold mx
 rw [List.foldl_map]
theorem Zne {α:Type} {f g:α→Int}:∀ {l:List α} {s:Int},(∀ x∈l,f x=g x)→mx f l s=mx g l s
 | [],_,_=>rfl
 | x::l,s,h=>by
  show mx f l (if s < f x then f x else s)=mx g l (if s < g x then g x else s)
  rw [h x (List.mem_cons_self ..)]
  exact Zne fun y hy=>h y (List.mem_cons_of_mem _ hy)
theorem Z17 {α:Type} {c:Int}:∀ (l:List α),mx (fun _=>c) l c=c
 | []=>rfl
 | x::l=>by
  show mx (fun _=>c) l (if c < c then c else c)=c
  rw [if_neg (by omega)]
  exact Z17 l
theorem Yg3 {α:Type} {f:α→Int} {c:Int} (h:0 < c) {x:α} {l:List α} (hf:∀ y∈x::l,f y=c):mx f (x::l) 0=c:=by
 rw [Zne hf]
 show mx (fun _=>c) l (if 0 < c then c else 0)=c
 rw [if_pos h]
 exact Z17 l
theorem Ymi {α:Type} {f:α→Int} {c:Int} (hc:0 < c) {x:α} {l:List α} (hf:c≤f x):mx f (x::l) 0=mx f (x::l) c:=by
 show mx f l (if 0 < f x then f x else 0)=mx f l (if c < f x then f x else c)
 rw [if_pos (by omega)]
 by_cases q:c < f x
 ·rw [if_pos q]
 rw [if_neg q,show f x=c by omega]
theorem Z2w {l:List Tr} {a b s:Int} (hf:l≠[]→fr (l.map nrm)=(a,b)) (hs:((l.map nrm).map fun k=>(k.Kids.map sz).sum).sum=s):Zgv (l.length:Int) a b (IntKind.i64.wrap s)=some (part (Zls l)):=by
 unfold Zgv part Zls
 cases l with
 | nil =>
  rw [show ((([]:List Tr).length:Int) == 0)=true from rfl,cond_true,if_pos List.length_nil,Zkm rfl]
  rfl
 | cons x l =>
  rw [show (((x::l).length:Int) == 0)=false from by rw [beq_eq_false_iff_ne,List.length_cons];omega,cond_false,if_neg (by simp)]
  have e:nrm (⟨9,[],x::l⟩:Tr)=⟨9,[],(x::l).map nrm⟩:=by rw [Zc1];rfl
  rw [e,Yln,hs]
  unfold h9
  rw [hf (by simp),List.length_map,Z3f,w_l]
  rfl
theorem Zsv {x:Int} (h:0≤x∧x < 18446744073709551616):IntKind.u64.wrap x=x:=Yfh (by omega)
def Zto (w:Z6):Int:=if w.New≠0 then 3 else if w.Old≠0 then 2 else 1
theorem Ybz {w:Z6} (h1:0≤w.At∧w.At≤65534) (h2:0 < w.Mask∧w.Mask < 256):((nrm (wT w)).Words.length:Int)=Zto w∧(nrm (wT w)).Kids=[]:=by
 have hx:IntKind.u64.wrap (IntKind.u64.wrap w.At+IntKind.u64.wrap (4294967296 * IntKind.u64.wrap w.Mask))≠0:=by
  rw [Zsv (x:=w.At) (by omega),Zsv (x:=w.Mask) (by omega),Zsv (x:=4294967296 * w.Mask) (by omega),Zsv (by omega)]
  omega
 have e:nrm (wT w)=⟨1,tr (fun x:Int=>x == 0) [IntKind.u64.wrap (IntKind.u64.wrap w.At+IntKind.u64.wrap (4294967296 * IntKind.u64.wrap w.Mask)),w.Old,w.New],[]⟩:=by rw [Zc1];rfl
 rw [e]
 refine ⟨?_,rfl⟩
 unfold Zto
 generalize IntKind.u64.wrap (IntKind.u64.wrap w.At+IntKind.u64.wrap (4294967296 * IntKind.u64.wrap w.Mask))=z at hx ⊢
 by_cases q:w.New=0 <;> by_cases q2:w.Old=0 <;> simp [tr,q,q2,hx]
theorem Yai {α:Type} {g:α→Int}:∀ {l:List α},(∀ x∈l,g x=0)→(l.map g).sum=0
 | [],_=>rfl
 | x::l,h=>by rw [List.map_cons,List.sum_cons,h x (List.mem_cons_self ..),Yai fun y hy=>h y (List.mem_cons_of_mem _ hy)];rfl
theorem Z4k {α:Type} {f g:α→Int} {l:List α} (h:∀ x∈l,f x=g x):(l.map f).sum=(l.map g).sum:=congrArg List.sum (List.map_congr_left h)
theorem Ybf {ws:List Z6} (hl:(ws.length:Int)≤140737488355328) (h:∀ w∈ws,(0≤w.At∧w.At≤65534)∧(0 < w.Mask∧w.Mask < 256)):Ze5 ws=some (part (Zls (ws.map wT))):=by
 unfold Ze5
 have hloop:=(Zaz ws (fun (s:Int) (i:Int)=>(s,i)) (fun s w=>if s < Zto w then Zto w else s) id (fun s=>1≤s∧s≤3) (Zbb ws) hl (fun s i x hI hi hx hm=>by
  refine ⟨by unfold Zto;split <;> split <;> (try split) <;> omega,?_⟩
  unfold Zbb
  simp only
  rw [V0 hi,cond_true,Ym hx,Option.bind_some]
  by_cases q:x.New=0
  ·by_cases q2:x.Old=0
   ·have e:Zto x=1:=by unfold Zto;rw [if_neg (fun c=>c q),if_neg (fun c=>c q2)]
    rw [e,if_neg (by omega:¬ s < 1)]
    simp [q,q2]
   have e:Zto x=2:=by unfold Zto;rw [if_neg (fun c=>c q),if_pos q2]
   rw [e]
   rw [show (x.New != 0)=false from by simp [q],cond_false,show (x.Old != 0)=true from by simp [q2],cond_true,Option.bind_some]
  ·have e:Zto x=3:=by unfold Zto;rw [if_pos q]
   rw [e,show (if s < 3 then 3 else s)=3 from by split <;> omega,show (x.New != 0)=true from by simp [q],cond_true,Option.bind_some]) (fun s _=>by
  unfold Zbb
  simp only
  rw [Vu,cond_false]
  rfl) 1 (by omega)).1
 rw [hloop,Option.bind_some]
 have hrow:=Z2w (l:=ws.map wT) (a:=mx Zto ws 1) (b:=0) (s:=0) (fun hne=>by
  unfold fr
  rw [Ycg,Zj6,Zj6,Zj6,Zj6]
  refine Prod.ext ?_ ?_
  ·show mx (fun w=>((nrm (wT w)).Words.length:Int)) ws 0=mx Zto ws 1
   rw [Zne fun w hw=>(Ybz (h w hw).1 (h w hw).2).1]
   cases ws with
   | nil=>exact absurd rfl hne
   | cons w ws=>exact Ymi (by omega) (by unfold Zto;split <;> (try split) <;> omega)
  ·show mx (fun w=>((nrm (wT w)).Kids.length:Int)) ws 0=0
   rw [Zne (g:=fun _=>0) fun w hw=>by rw [(Ybz (h w hw).1 (h w hw).2).2];rfl]
   exact Z17 ws) (by
  rw [List.map_map,List.map_map]
  refine Yai fun w hw => ?_
  show ((nrm (wT w)).Kids.map sz).sum=0
  rw [(Ybz (h w hw).1 (h w hw).2).2]
  rfl)
 rw [List.length_map,show IntKind.i64.wrap 0=0 from rfl] at hrow
 exact (congrArg (fun z=>Option.bind z fun y9=>some y9) hrow).trans rfl
theorem Ylc {k:Zn} {t:Tr} (h1:0≤k.At∧k.At≤65534) (ht:t.Kind≠0):((nrm (kT k t)).Words.length:Int)=(if 0 < k.At then 1 else 0)∧(nrm (kT k t)).Kids=[nrm t]:=by
 have e:nrm (kT k t)=⟨1,tr (fun x:Int=>x == 0) [k.At],tr (fun x:Tr=>x.Kind == 0) [nrm t]⟩:=by
  rw [Zc1]
  unfold kT
  rw [Zsv (x:=k.At) (by omega)]
  rfl
 rw [e]
 refine ⟨?_,by simp [tr,Ur,ht]⟩
 by_cases q:k.At=0
 ·rw [q];rfl
 rw [Z8b q,if_pos (by omega)];rfl
theorem Yji {l:Int} {o:Zt} {t:Tr} (ho:hdO o≠0) (hk:o.Kind=0∨o.Kind=1∨o.Kind=2∨o.Kind=3) (ht:o.Kind=0→t.Kind=0) (hl:l≠0) :
  ((nrm (opT l o t)).Words.length:Int)=1∧((nrm (opT l o t)).Kids.length:Int)=(if (if o.Kind=1∨o.Kind=2 then (⟨l,[],o.L⟩:Tr) else t).Kind≠0 then 1 else 0)∧((nrm (opT l o t)).Kids.map sz).sum=sz (nrm (if o.Kind=1∨o.Kind=2 then (⟨l,[],o.L⟩:Tr) else t)):=by
 have e:nrm (opT l o t)=⟨1,[hdO o],tr (fun x:Tr=>x.Kind == 0) ((if o.Kind=3 then [t] else if 0 < o.Kind then [(⟨l,[],o.L⟩:Tr)] else []).map nrm)⟩:=by
  rw [Zc1]
  unfold opT
  simp only
  rw [if_neg (by decide),if_pos True.intro,Z8b ho]
 rw [e]
 refine ⟨rfl,?_⟩
 simp only
 have one:∀ x:Tr,((tr (fun x:Tr=>x.Kind == 0) ([x].map nrm)).length:Int)=(if x.Kind≠0 then 1 else 0)∧((tr (fun x:Tr=>x.Kind == 0) ([x].map nrm)).map sz).sum=sz (nrm x):=fun x=>by
  by_cases q:x.Kind=0
  ·rw [show tr (fun x:Tr=>x.Kind == 0) ([x].map nrm)=[] from by simp [tr,Ur,q],if_neg (by omega),Zkm q]
   exact ⟨rfl,rfl⟩
  rw [show tr (fun x:Tr=>x.Kind == 0) ([x].map nrm)=[nrm x] from by simp [tr,Ur,q],if_pos q]
  refine ⟨rfl,?_⟩
  rw [List.map_cons,List.map_nil,List.sum_cons,List.sum_nil]
  omega
 rcases hk with q | q | q | q
 ·rw [if_neg (by omega:¬ o.Kind=3),if_neg (by omega:¬ 0 < o.Kind),if_neg (by omega:¬ (o.Kind=1∨o.Kind=2)),if_neg (by rw [ht q];decide),Zkm (ht q)]
  exact ⟨rfl,rfl⟩
 ·rw [if_neg (by omega:¬ o.Kind=3),if_pos (by omega:0 < o.Kind),if_pos (by omega:(o.Kind=1∨o.Kind=2))]
  exact one _
 ·rw [if_neg (by omega:¬ o.Kind=3),if_pos (by omega:0 < o.Kind),if_pos (by omega:(o.Kind=1∨o.Kind=2))]
  exact one _
 rw [if_pos q,if_neg (by omega:¬ (o.Kind=1∨o.Kind=2))]
 exact one _
theorem Yd3 (e:Ed):(TE e).Kind=if e.Kind=0 then 0 else 1:=by
 rw [Zlt]
 split
 ·rfl
 split
 ·rfl
 split <;> rfl
theorem Yh1 {l:List Tr} {d:Nat} (h:rt (Zls l) d=true):∀ x∈l,rt x (d - 1)=true:=fun x hx=>by
 unfold Zls at h
 rw [if_neg (by intro c;rw [List.length_eq_zero_iff.1 c] at hx;cases hx)] at h
 exact (Zdn h).2.2.2.2 x hx
theorem Zxn {α:Type} (f g:α→Int):∀ (l:List α) (a b:Int),l.foldl (fun (s:Int×Int) x=>(if s.1 < f x then f x else s.1,s.2+g x)) (a,b)=(mx f l a,b+(l.map g).sum)
 | [],a,b=>by
  rw [List.map_nil,List.sum_nil,Int.add_zero]
  rfl
 | x::l,a,b=>by
  rw [List.foldl_cons,Zxn f g l,List.map_cons,List.sum_cons,Int.add_assoc]
  rfl
def fk (x:Zn):Int:=if 0 < x.At then 1 else 0
theorem Ye4 {k:Nat} {l:List Zn} (hl:(l.length:Int)≤140737488355328) (hA:∀ x∈l,0≤x.At∧x.At≤65534) (hK:∀ x∈l,x.E.Kind≠0) (ih:∀ x∈l,(Yb k).1 x.E=some (part (TE x.E))) :
  (Yb (k+1)).2.1 l=some (part (Zls (l.map fun x=>kT x (TE x.E)))):=by
 show Zf6 (Yb k).1 (Yb k).2.1 (Yb k).2.2 l=_
 unfold Zf6
 have hloop:=(Zaz l (fun (s:Int×Int) (i:Int)=>(s.1,IntKind.i64.wrap s.2,i)) (fun (s:Int×Int) x=>(if s.1 < fk x then fk x else s.1,s.2+sz (nrm (TE x.E)))) (fun s=>(s.1,IntKind.i64.wrap s.2)) (fun s=>0≤s.1∧s.1≤1) (Gs (Yb k).1 l) hl (fun s i x hI hi hx hm=>by
  refine ⟨by unfold fk;simp only;split <;> split <;> omega,?_⟩
  unfold Gs
  simp only
  rw [V0 hi,cond_true,Ym hx,Option.bind_some,ih x hm]
  by_cases q:0 < x.At
  ·have e:fk x=1:=if_pos q
   rw [decide_eq_true q,cond_true,Option.bind_some,Option.bind_some,e,show (if s.1 < 1 then 1 else s.1)=1 from by split <;> omega]
   unfold part
   simp only
   rw [Z3f]
  ·have e:fk x=0:=if_neg q
   rw [decide_eq_false q,cond_false,Option.bind_some,Option.bind_some,e,if_neg (by omega:¬ s.1 < 0)]
   unfold part
   simp only
   rw [Z3f]) (fun s _=>by
  unfold Gs
  simp only
  rw [Vu,cond_false]) (0,0) ⟨by decide,by decide⟩).1
 have hloop':Zx (Gs (Yb k).1 l) (0,0,0)=some (mx fk l 0,IntKind.i64.wrap (l.map fun x=>sz (nrm (TE x.E))).sum):=by
  rw [Zxn fk fun x=>sz (nrm (TE x.E))] at hloop
  simp only at hloop
  rw [Int.zero_add] at hloop
  exact hloop
 rw [hloop',Option.bind_some]
 have hn:∀ x∈l,_:=fun x hx=>Ylc (k:=x) (t:=TE x.E) (hA x hx) (by rw [Yd3,if_neg (hK x hx)];decide)
 have hrow:=Z2w (l:=l.map fun x=>kT x (TE x.E)) (a:=mx fk l 0) (b:=1) (s:=(l.map fun x=>sz (nrm (TE x.E))).sum) (fun hne=>by
  unfold fr
  rw [Ycg,Zj6,Zj6,Zj6,Zj6]
  refine Prod.ext ?_ ?_
  ·exact Zne fun x hx=>(hn x hx).1
  ·cases l with
   | nil=>exact absurd rfl hne
   | cons y l=>exact Yg3 (by omega) fun x hx=>by rw [(hn x hx).2];rfl) (by
  rw [List.map_map,List.map_map]
  refine Z4k fun x hx => ?_
  show ((nrm (kT x (TE x.E))).Kids.map sz).sum=_
  rw [(hn x hx).2,List.map_cons,List.map_nil,List.sum_cons,List.sum_nil]
  omega)
 rw [List.length_map] at hrow
 exact (congrArg (fun z=>Option.bind z fun y9=>some y9) hrow).trans rfl
def aT (l:Int) (o:Zt):Tr:=if o.Kind=1∨o.Kind=2 then (⟨l,[],o.L⟩:Tr) else TE o.E
def fo (l:Int) (o:Zt):Int:=if (aT l o).Kind≠0 then 1 else 0
theorem Yg7 {k:Nat} {l:List Zt} {li:Int} (hli:2≤li) (hl:(l.length:Int)≤140737488355328) (hH:∀ x∈l,hdO x≠0) (hK:∀ x∈l,x.Kind=0∨x.Kind=1∨x.Kind=2∨x.Kind=3) (h0:∀ x∈l,x.Kind=0→x.E.Kind=0)
  (hT:∀ x∈l,x.Kind=1∨x.Kind=2→Ud ⟨li,[],x.L⟩=some (part ⟨li,[],x.L⟩)) (ih:∀ x∈l,(Yb k).1 x.E=some (part (TE x.E))) :
  (Yb (k+1)).2.2 li l=some (part (Zls (l.map fun o=>opT li o (TE o.E)))):=by
 show Zhn (Yb k).1 (Yb k).2.1 (Yb k).2.2 li l=_
 unfold Zhn
 have hloop:=(Zaz l (fun (s:Int×Int) (i:Int)=>(s.1,IntKind.i64.wrap s.2,i)) (fun (s:Int×Int) x=>(if s.1 < fo li x then fo li x else s.1,s.2+sz (nrm (aT li x)))) (fun s=>(s.1,IntKind.i64.wrap s.2)) (fun s=>0≤s.1∧s.1≤1) (Zax (Yb k).1 li l) hl (fun s i x hI hi hx hm=>by
  refine ⟨by unfold fo;simp only;split <;> split <;> omega,?_⟩
  unfold Zax
  simp only
  rw [V0 hi,cond_true,Ym hx,Option.bind_some,ih x hm,Option.bind_some]
  have hz:(cond (cond (x.Kind == 1) true (x.Kind == 2)) ((Ud (⟨li,[],x.L⟩:Za)).bind fun y6=>some (y6.something,y6.size)) (some ((part (TE x.E)).something,(part (TE x.E)).size)))=some ((aT li x).Kind != 0,IntKind.i64.wrap (sz (nrm (aT li x)))):=by
   unfold aT
   by_cases q:x.Kind=1∨x.Kind=2
   ·have:cond (x.Kind == 1) true (x.Kind == 2)=true:=by
     rcases q with q | q <;> rw [q] <;> rfl
    rw [this,cond_true,hT x hm q,Option.bind_some,if_pos q]
    rfl
   have:cond (x.Kind == 1) true (x.Kind == 2)=false:=by
    rw [beq_eq_false_iff_ne.2 (fun c=>q (.inl c)),cond_false,beq_eq_false_iff_ne.2 (fun c=>q (.inr c))]
   rw [this,cond_false,if_neg q]
   rfl
  rw [hz,Option.bind_some]
  simp only
  by_cases q:(aT li x).Kind=0
  ·have e:fo li x=0:=if_neg fun c=>c q
   rw [show ((aT li x).Kind != 0)=false from by simp [q],cond_false,Option.bind_some,e,if_neg (by omega:¬ s.1 < 0),Z3f]
  ·have e:fo li x=1:=if_pos q
   rw [show ((aT li x).Kind != 0)=true from by simp [q],cond_true,Option.bind_some,e,show (if s.1 < 1 then 1 else s.1)=1 from by split <;> omega,Z3f]) (fun s _=>by
  unfold Zax
  simp only
  rw [Vu,cond_false]) (0,0) ⟨by decide,by decide⟩).1
 have hloop':Zx (Zax (Yb k).1 li l) (0,0,0)=some (mx (fo li) l 0,IntKind.i64.wrap (l.map fun x=>sz (nrm (aT li x))).sum):=by
  rw [Zxn (fo li) fun x=>sz (nrm (aT li x))] at hloop
  simp only at hloop
  rw [Int.zero_add] at hloop
  exact hloop
 rw [hloop',Option.bind_some]
 have hn:∀ x∈l,_:=fun x hx=>Yji (l:=li) (o:=x) (t:=TE x.E) (hH x hx) (hK x hx) (fun q=>by rw [Yd3,if_pos (h0 x hx q)]) (by omega)
 have hrow:=Z2w (l:=l.map fun o=>opT li o (TE o.E)) (a:=1) (b:=mx (fo li) l 0) (s:=(l.map fun x=>sz (nrm (aT li x))).sum) (fun hne=>by
  unfold fr
  rw [Ycg,Zj6,Zj6,Zj6,Zj6]
  refine Prod.ext ?_ ?_
  ·cases l with
   | nil=>exact absurd rfl hne
   | cons y l=>exact Yg3 (by omega) fun x hx=>(hn x hx).1
  ·exact Zne fun x hx=>(hn x hx).2.1) (by
  rw [List.map_map,List.map_map]
  refine Z4k fun x hx => ?_
  exact (hn x hx).2.2)
 rw [List.length_map] at hrow
 exact (congrArg (fun z=>Option.bind z fun y9=>some y9) hrow).trans rfl
theorem Ybb {e:Ed} (h1:1≤e.Kind∧e.Kind≤3) (h2:0≤e.List_∧e.List_≤9):hdE e≠0:=by
 unfold hdE
 rw [Yn (x:=256 * e.List_) (by omega) (by omega),Yn (by omega) (by omega),Zsv (by omega)]
 omega
theorem Ylb {o:Zt} {l:Int} {r:Bool} (h:okO l o r=true):hdO o≠0∧(o.Kind=0∨o.Kind=1∨o.Kind=2∨o.Kind=3)∧(o.Kind≠3→Zbl o.E=true)∧(o.Kind=3→r=true):=by
 unfold okO at h
 have val:∀ k N:Int,o.Kind=k→o.N=N→0≤k→k≤3→0≤N→N≤1048576→0 < k+N→hdO o≠0:=fun k N hk hN a b c d f=>by
  unfold hdO
  rw [hk,hN,Yn (x:=256 * N) (by omega) (by omega),Yn (by omega) (by omega),Zsv (by omega)]
  omega
 by_cases h0:o.Kind=0
 ·rw [if_pos h0] at h
  simp only [Bool.and_eq_true,decide_eq_true_eq] at h
  exact ⟨val 0 o.N h0 rfl (by omega) (by omega) (by omega) (by omega) (by omega),.inl h0,fun _=>h.2.2,fun q=>by omega⟩
 rw [if_neg h0] at h
 by_cases h1:o.Kind=1∨o.Kind=2
 ·rw [if_pos h1] at h
  simp only [Bool.and_eq_true,beq_iff_eq] at h
  exact ⟨val o.Kind 0 rfl h.1 (by omega) (by omega) (by omega) (by omega) (by omega),by omega,fun _=>h.2.2.2,fun q=>by omega⟩
 rw [if_neg h1] at h
 by_cases h3:o.Kind=3
 ·rw [if_pos h3] at h
  simp only [Bool.and_eq_true,beq_iff_eq] at h
  exact ⟨val 3 0 h3 h.1 (by omega) (by omega) (by omega) (by omega) (by omega),.inr (.inr (.inr h3)),fun q=>absurd h3 q,fun _=>h.2.2.2.2⟩
 rw [if_neg h3] at h;cases h
theorem Yc4 {e:Ed} (h:Zbl e=true):e.Kind=0∧rE e 1=true:=by
 have h0:e.Kind=0:=by
  unfold Zbl at h
  rw [Bool.and_eq_true,beq_iff_eq] at h
  exact h.1
 exact ⟨h0,by rw [Znr,if_neg (by omega),if_pos h0];exact h⟩
theorem Zz5 (d:Nat):rt ⟨0,[],[]⟩ d=true:=by
 rw [Zj0,if_pos rfl]
 rfl
theorem Zyv:∀ (k:Nat) (e:Ed) (d d':Nat),BE e→GN e→rE e d=true→rt (TE e) d'=true→2 * SizeOf.sizeOf e < k→(Yb k).1 e=some (part (TE e))
 | 0,_,_,_,_,_,_,_,h=>by omega
 | 1,e,_,_,_,_,_,_,h=>by
  have:0 < SizeOf.sizeOf e:=by
   obtain ⟨a,b,c,d,f,g,i⟩:=e
   simp only [Zh.mk.sizeOf_spec]
   omega
  omega
 | k+2,e,d,d',hb,hg,hr,ht,hk=>by
  have gk:=hg.k
  have go:=hg.o
  have gw:=hg.w
  show Zf5 (Yb (k+1)).1 (Yb (k+1)).2.1 (Yb (k+1)).2.2 e=_
  unfold Zf5
  rw [Znr] at hr
  by_cases hd:d=0
  ·rw [if_pos hd] at hr;cases hr
  rw [if_neg hd] at hr
  by_cases h0:e.Kind=0
  ·rw [beq_eq_false_iff_ne.2 (by omega:¬ e.Kind=1),cond_false,beq_eq_false_iff_ne.2 (by omega:¬ e.Kind=2),cond_false,beq_eq_false_iff_ne.2 (by omega:¬ e.Kind=3),cond_false,Zlt,if_pos h0]
   unfold part
   rw [Zkm rfl]
   rfl
  rw [if_neg h0] at hr
  by_cases h1:e.Kind=1
  ·rw [if_pos h1] at hr
   simp only [Bool.and_eq_true] at hr
   have hl:e.List_=0:=by
    have:=hr.1.2
    unfold Zgd at this
    rw [Bool.and_eq_true,beq_iff_eq] at this
    exact this.1
   rw [show (e.Kind == 1)=true from by rw [h1];rfl,cond_true,Zxi hb.old hr.2.1.1,Option.bind_some,Zxi hb.new hr.2.2.1,Option.bind_some,st2 (Ybb (e:=e) (by omega) (by omega)),Option.bind_some,Zlt,if_neg h0,if_pos h1]
  rw [if_neg h1] at hr
  by_cases h2:e.Kind=2
  ·rw [if_pos h2] at hr
   simp only [Bool.and_eq_true] at hr
   obtain ⟨⟨_,hlo⟩,hw,hkd⟩:=hr
   have hl:e.List_=0:=by
    unfold Zgd at hlo
    rw [Bool.and_eq_true,beq_iff_eq] at hlo
    exact hlo.1
   rw [Zlt,if_neg h0,if_neg h1,if_pos h2] at ht ⊢
   have hrow:=Yh1 ((Zdn ht).2.2.2.2 _ (List.mem_cons_of_mem _ (List.mem_cons_self ..)))
   have hkr:=Zku (ok:=okK (d - 1)) (pl:=(·.At)) (fun p x hx=>by
    unfold okK okP at hx
    simp only [Bool.and_eq_true,Bool.not_eq_true',Bool.or_eq_false_iff,decide_eq_false_iff_not] at hx
    omega) _ _ hkd
   have hkm:=Zki (Q:=fun x:Zn=>x.E.Kind≠0∧rE x.E (d - 1)=true) (fun p x hx=>by
    unfold okK okP at hx
    simp only [Bool.and_eq_true,bne_iff_ne] at hx
    exact hx.2) _ _ hkd
   have hwr:=Zku Zt3 _ _ hw
   have hwm:=Zki (Q:=fun x:Z6=>x.Mask≠0) (fun p x hx=>by
    unfold okW at hx
    simp only [Bool.not_eq_true',Bool.or_eq_false_iff,beq_eq_false_iff_ne] at hx
    exact hx.1.1.2) _ _ hw
   rw [beq_eq_false_iff_ne.2 h1,cond_false,show (e.Kind == 2)=true from by rw [h2];rfl,cond_true,Ybf (by omega) (fun w hw'=>by
    have a1:=hwr.1 w hw'
    have a2:=hwm w hw'
    have a3:=(hb.ws w hw').1
    omega),Option.bind_some,Ye4 (by omega) (fun x hx=>by have:=hkr.1 x hx;omega) (fun x hx=>(hkm x hx).1) (fun x hx=>by
    have r1:=hrow _ (List.mem_map.2 ⟨x,hx,rfl⟩)
    have r2:=(Zdn r1).2.2.2.2 (TE x.E) (List.mem_cons_self ..)
    exact Zyv k x.E (d - 1) _ (hb.ks x hx) (hg.ks x hx) (hkm x hx).2 r2 (by have:=Ub hx;omega)),Option.bind_some,st2 (Ybb (e:=e) (by omega) (by omega)),Option.bind_some]
  rw [if_neg h2] at hr
  by_cases h3:e.Kind=3
  ·rw [if_pos h3] at hr
   simp only [Bool.and_eq_true,decide_eq_true_eq,List.all_eq_true] at hr
   obtain ⟨_,⟨l2,l9⟩,hops,_⟩:=hr
   rw [Zlt,if_neg h0,if_neg h1,if_neg h2] at ht ⊢
   have hrow:=Yh1 ((Zdn ht).2.2.2.2 _ (List.mem_cons_self ..))
   have hop:=fun o ho=>Ylb (hops o ho)
   rw [beq_eq_false_iff_ne.2 h1,cond_false,beq_eq_false_iff_ne.2 h2,cond_false,show (e.Kind == 3)=true from by rw [h3];rfl,cond_true,Yg7 l2 (by omega) (fun x hx=>(hop x hx).1) (fun x hx=>(hop x hx).2.1) (fun x hx q=>(Yc4 ((hop x hx).2.2.1 (by omega))).1) (fun x hx q=>by
    have r1:=hrow _ (List.mem_map.2 ⟨x,hx,rfl⟩)
    have r2:=(Zdn r1).2.2.2.2 (⟨e.List_,[],x.L⟩:Tr) (by unfold opT;rw [if_neg (by omega),if_pos (by omega)];exact List.mem_cons_self ..)
    exact Zxi (.mk _ (by simp) (hb.l x hx).1 (fun w hw=>by cases hw) (hb.l x hx).2) r2) (fun x hx=>by
    by_cases q:x.Kind=3
    ·have r1:=hrow _ (List.mem_map.2 ⟨x,hx,rfl⟩)
     have r2:=(Zdn r1).2.2.2.2 (TE x.E) (by unfold opT;rw [if_pos q];exact List.mem_cons_self ..)
     exact Zyv k x.E (d - 1) _ (hb.os x hx) (hg.os x hx) ((hop x hx).2.2.2 q) r2 (by have:=Zaw hx;omega)
    obtain ⟨n1,n2⟩:=Yc4 ((hop x hx).2.2.1 q)
    exact Zyv k x.E 1 0 (hb.os x hx) (hg.os x hx) n2 (by rw [Zlt,if_pos n1];exact Zz5 0) (by have:=Zaw hx;omega)),Option.bind_some,st1 (Ybb (e:=e) (by omega) (by omega)),Option.bind_some]
  rw [if_neg h3] at hr;cases hr
theorem Z4w {e:Ed} {d d':Nat} (hb:BE e) (hg:GN e) (hr:rE e d=true) (ht:rt (TE e) d'=true):Zdb e=some (IntKind.i64.wrap (1+sz (nrm (TE e)))):=by
 have:Zmq e=some (part (TE e)):=Zeg (2 * SizeOf.sizeOf e+1) fun k hk=>Zyv k e d d' hb hg hr ht (by omega)
 unfold Zdb
 rw [this,Option.bind_some]
 unfold part
 simp only
 rw [w_r]
theorem Z58 {l:List Tr} (hl:l.length≤1048576) (h:∀ x∈l,Bd x):Bd (Zls l):=by
 unfold Zls
 split
 ·exact .mk _ (by simp) (by simp) (fun _ h=>by cases h) (fun _ h=>by cases h)
 exact .mk _ (by simp) (by simp only;omega) (fun _ h=>by cases h) h
theorem Ypj (x:Int):0≤IntKind.u64.wrap x∧IntKind.u64.wrap x < 18446744073709551616:=by
 rw [show IntKind.u64.wrap x=x % 18446744073709551616 from by simp [IntKind.wrap,IntKind.bits,IntKind.signed]]
 omega
theorem Yid:∀ (n:Nat) (e:Ed),SizeOf.sizeOf e < n→BE e→GN e→Bd (TE e)
 | 0,_,h,_,_=>by omega
 | n+1,e,hn,hb,hg=>by
  have gk:=hg.k
  have go:=hg.o
  have gw:=hg.w
  have nn:∀ {α:Type} {P:α→Prop} {x:α},x∈([]:List α)→P x:=fun h=>by cases h
  have hw1:∀ z:Int,∀ w∈[IntKind.u64.wrap z],0≤w∧w < 18446744073709551616:=fun z w hw=>by
   rw [List.mem_singleton.1 hw];exact Ypj z
  rw [Zlt]
  split
  ·exact .mk _ (by simp) (by simp) (fun _ h=>by cases h) (fun _ h=>by cases h)
  split
  ·refine .mk _ (by simp) (by simp) (hw1 _) (fun k hk => ?_)
   rcases List.mem_cons.1 hk with rfl | hk
   ·exact hb.old
   rw [List.mem_singleton.1 hk];exact hb.new
  split
  ·refine .mk _ (by simp) (by simp) (hw1 _) (fun k hk => ?_)
   rcases List.mem_cons.1 hk with rfl | hk
   ·refine Z58 (by rw [List.length_map];exact gw) fun x hx => ?_
    obtain ⟨w,hw,rfl⟩:=List.mem_map.1 hx
    have:=hb.ws w hw
    refine .mk _ (by simp [wT]) (by simp [wT]) (fun z hz => ?_) (fun _ h=>by cases h)
    rcases List.mem_cons.1 hz with rfl | hz
    ·exact Ypj _
    rcases List.mem_cons.1 hz with rfl | hz
    ·exact this.2.1
    rw [List.mem_singleton.1 hz];exact this.2.2
   rw [List.mem_singleton.1 hk]
   refine Z58 (by rw [List.length_map];exact gk) fun x hx => ?_
   obtain ⟨w,hw,rfl⟩:=List.mem_map.1 hx
   refine .mk _ (by simp [kT]) (by simp [kT]) (hw1 _) (fun z hz => ?_)
   rw [List.mem_singleton.1 hz]
   exact Yid n w.E (by have:=Ub hw;omega) (hb.ks w hw) (hg.ks w hw)
  refine .mk _ (by simp) (by simp) (hw1 _) (fun k hk => ?_)
  rw [List.mem_singleton.1 hk]
  refine Z58 (by rw [List.length_map];exact go) fun x hx => ?_
  obtain ⟨o,ho,rfl⟩:=List.mem_map.1 hx
  unfold opT
  split
  ·refine .mk _ (by simp) (by simp) (hw1 _) (fun z hz => ?_)
   rw [List.mem_singleton.1 hz]
   exact Yid n o.E (by have:=Zaw ho;omega) (hb.os o ho) (hg.os o ho)
  split
  ·refine .mk _ (by simp) (by simp) (hw1 _) (fun z hz => ?_)
   rw [List.mem_singleton.1 hz]
   exact .mk _ (by simp) (hb.l o ho).1 (fun w hw=>by cases hw) (hb.l o ho).2
  exact .mk _ (by simp) (by simp) (hw1 _) (fun _ h=>by cases h)
theorem Yb8:Kt=some true:=by
 have b0:Bd ⟨0,[],[]⟩ := .mk _ (by simp) (by simp) (fun _ h=>by cases h) (fun _ h=>by cases h)
 have bE:∀ k,BE ⟨k,⟨0,[],[]⟩,⟨0,[],[]⟩,[],[],0,[]⟩:=fun k => .mk _ b0 b0 (by simp) (fun _ h=>by cases h) (by simp) (fun _ h=>by cases h) (by simp) (fun _ h=>by cases h) (fun _ h=>by cases h)
 have gE:∀ k,GN ⟨k,⟨0,[],[]⟩,⟨0,[],[]⟩,[],[],0,[]⟩:=fun k => .mk _ (by simp) (by simp) (by simp) (by simp [Znv]) (fun _ h=>by cases h) (fun _ h=>by cases h) (fun _ h=>by cases h)
 have r0:rE ⟨0,⟨0,[],[]⟩,⟨0,[],[]⟩,[],[],0,[]⟩ 1=true:=by rw [Znr,if_neg (by omega),if_pos rfl];decide
 have r1:rE ⟨1,⟨0,[],[]⟩,⟨0,[],[]⟩,[],[],0,[]⟩ 1=true:=by
  rw [Znr,if_neg (by decide),if_neg (by decide),if_pos rfl,Zz5]
  decide
 have t0:TE ⟨0,⟨0,[],[]⟩,⟨0,[],[]⟩,[],[],0,[]⟩=⟨0,[],[]⟩:=by rw [Zlt,if_pos rfl]
 have t1:TE ⟨1,⟨0,[],[]⟩,⟨0,[],[]⟩,[],[],0,[]⟩=⟨1,[1],[⟨0,[],[]⟩,⟨0,[],[]⟩]⟩:=by rw [Zlt,if_neg (by decide),if_pos rfl];rfl
 have q1:rt ⟨1,[1],[⟨0,[],[]⟩,⟨0,[],[]⟩]⟩ 2=true:=by
  rw [Zj0,if_neg (by decide),if_neg (by decide),if_neg (by decide)]
  simp only [List.all_cons,List.all_nil,Zz5]
  decide
 have s1:sz (nrm ⟨1,[1],[⟨0,[],[]⟩,⟨0,[],[]⟩]⟩)=1:=by
  have e0:nrm ⟨0,[],[]⟩=⟨0,[],[]⟩:=by rw [Zc1,if_pos rfl]
  rw [Zc1,if_neg (by decide),if_pos rfl,Yia,List.map_cons,List.map_cons,List.map_nil,e0]
  rfl
 unfold Kt
 rw [Z4w (bE 0) (gE 0) r0 (by rw [t0];exact Zz5 1),Option.bind_some,Z4w (bE 1) (gE 1) r1 (by rw [t1];exact q1),t0,t1,s1,Zkm rfl]
 rfl
def Zbx {α σ:Type} (f:σ→Nat→α→σ):σ→Nat→List α→σ
 | s,_,[]=>s
 | s,i,x::xs=>Zbx f (f s i x) (i+1) xs
theorem Zj5 {α σ S R:Type} (xs:List α) (pack:Int→σ→S) (out:σ→R) (step:S→Option (S ⊕ R)) (f:σ→Nat→α→σ) (I:Nat→σ→Prop) (hl:(xs.length:Int)≤140737488355328)
  (h1:∀ (i:Nat) (s:σ) (x:α),i < xs.length→xs[i]? = some x→x∈xs→I i s→step (pack i s)=some (.inl (pack (IntKind.i64.wrap ((i:Int)+1)) (f s i x)))∧I (i+1) (f s i x))
  (h2:∀ s,I xs.length s→step (pack xs.length s)=some (.inr (out s))) (s:σ) (h0:I 0 s):Zx step (pack 0 s)=some (out (Zbx f s 0 xs))∧I xs.length (Zbx f s 0 xs):=by
 have key:∀ (l pre:List α) (s:σ),xs=pre++l→I pre.length s→Zx step (pack (pre.length:Nat) s)=some (out (Zbx f s pre.length l))∧I xs.length (Zbx f s pre.length l):=fun l=>by
  induction l with
  | nil =>
   intro pre s hp hi
   rw [List.append_nil] at hp
   subst hp
   exact ⟨Xe (h2 s hi),hi⟩
  | cons x l ih =>
   intro pre s hp hI
   have hx:xs[pre.length]? = some x:=by rw [hp,List.getElem?_append_right (Nat.le_refl _),Nat.sub_self];rfl
   have hi:pre.length < xs.length:=by rw [hp];simp
   obtain ⟨a,b⟩:=h1 pre.length s x hi hx (List.mem_of_getElem? hx) hI
   rw [Yn (by omega) (by omega)] at a
   have:=ih (pre++[x]) (f s pre.length x) (by rw [hp];simp) (by rw [List.length_append,List.length_singleton];exact b)
   rw [List.length_append,List.length_singleton] at this
   exact ⟨(Xv a).trans this.1,this.2⟩
 exact key xs [] s rfl h0
theorem Zp6:∀ l m:List Int,(l++m).sum=l.sum+m.sum
 | [],m=>by simp
 | x::l,m=>by simp only [List.cons_append,List.sum_cons,Zp6 l m];omega
theorem Zp7:∀ l:List Int,(∀ x∈l,0≤x)→0≤l.sum
 | [],_=>by simp
 | x::l,h=>by
  have:=Zp7 l fun y hy=>h y (.tail _ hy)
  have:=h x (.head _)
  simp only [List.sum_cons]
  omega
theorem Yah {α:Type} {f:α→Int} {xs:List α} {i:Nat} {x:α} (hx:xs[i]? = some x) (h:∀ x∈xs,0≤f x):((xs.take (i+1)).map f).sum=((xs.take i).map f).sum+f x∧((xs.take i).map f).sum+f x≤(xs.map f).sum:=by
 have e:((xs.take (i+1)).map f).sum=((xs.take i).map f).sum+f x:=by
  rw [List.take_add_one,hx,List.map_append,Zp6]
  simp
 refine ⟨e,?_⟩
 have e2:(xs.map f).sum=((xs.take (i+1)).map f).sum+((xs.drop (i+1)).map f).sum:=by
  rw [← Zp6,← List.map_append,List.take_append_drop]
 have:=Zp7 ((xs.drop (i+1)).map f) fun y hy=>by
  obtain ⟨z,hz,rfl⟩:=List.mem_map.1 hy
  exact h z (List.mem_of_mem_drop hz)
 omega
theorem Gm {α:Type} {f:α→Int} {xs:List α} (h:∀ x∈xs,0≤f x):0≤(xs.map f).sum:=Zp7 _ fun y hy=>by
 obtain ⟨z,hz,rfl⟩:=List.mem_map.1 hy
 exact h z hz
theorem Yl8 {off data ptrs:Int} (a:-536870912≤off) (b:off < 536870912) (c:0≤data) (d:data < 65536) (e:0≤ptrs) (f:ptrs < 65536) (g:¬ (off=0∧data=0∧ptrs=0)) :
  Ue (⟨1,off,data,ptrs,0,0,0,false⟩:Ye)=some (off % 1073741824 * 4+data * 4294967296+ptrs * 281474976710656,true):=by
 have hd:Zmn ((off % 1073741824).toNat * 4+data.toNat * 4294967296+ptrs.toNat * 281474976710656)=⟨1,off,data,ptrs,0,0,0,false⟩:=by
  generalize hw:(off % 1073741824).toNat * 4+data.toNat * 4294967296+ptrs.toNat * 281474976710656=w
  have h1:¬ w=0:=by omega
  have h2:w % 4=0:=by omega
  unfold Zmn
  rw [if_neg h1,if_pos h2]
  unfold Zt0
  simp only [Ye.mk.injEq,true_and,and_true]
  refine ⟨?_,by omega,by omega⟩
  split <;> omega
 have:=Z1i ((off % 1073741824).toNat * 4+data.toNat * 4294967296+ptrs.toNat * 281474976710656) (by omega) (by rw [hd];show ¬ (1:Int)=4;decide)
 rw [hd] at this
 rw [this]
 congr 2
 omega
theorem Yl7 {off code count:Int} (a:-536870912≤off) (b:off < 536870912) (c:0≤code) (d:code < 8) (e:0≤count) (f:count < 536870912) :
  Ue (⟨2,off,0,0,code,count,0,false⟩:Ye)=some (off % 1073741824 * 4+1+code * 4294967296+count * 34359738368,true):=by
 have hd:Zmn ((off % 1073741824).toNat * 4+1+code.toNat * 4294967296+count.toNat * 34359738368)=⟨2,off,0,0,code,count,0,false⟩:=by
  generalize hw:(off % 1073741824).toNat * 4+1+code.toNat * 4294967296+count.toNat * 34359738368=w
  have h1:¬ w=0:=by omega
  have h2:¬ w % 4=0:=by omega
  have h3:w % 4=1:=by omega
  unfold Zmn
  rw [if_neg h1,if_neg h2,if_pos h3]
  unfold Zt0
  simp only [Ye.mk.injEq,true_and,and_true]
  refine ⟨?_,by omega,by omega⟩
  split <;> omega
 have:=Z1i ((off % 1073741824).toNat * 4+1+code.toNat * 4294967296+count.toNat * 34359738368) (by omega) (by rw [hd];show ¬ (2:Int)=4;decide)
 rw [hd] at this
 rw [this]
 congr 2
 omega
theorem Zhf {x:Int} (h0:0≤x) (h1:x < 18446744073709551616):IntKind.u64.wrap x=x:=IntWalk.u64_in _ (by omega)
theorem Zuu {a t k u:Int} (a0:0≤a) (a1:a≤1048576) (t0:0≤t) (t1:t≤1048576) (k0:0≤k) (k1:k≤1) (u0:0≤u) (u1:u < 4294967296) :
  K2 a t k u=some ((t - a - 1) % 1073741824 * 4+k+u * 4294967296):=by
 unfold K2
 rw [Yn (x:=t - a) (by omega) (by omega),Yn (x:=t - a - 1) (by omega) (by omega)]
 by_cases h:t - a - 1 < 0
 ·rw [decide_eq_true h,cond_true,Yn (by omega) (by omega),Option.bind_some,Yn (x:=4 * _) (by omega) (by omega),Yn (by omega) (by omega),Zhf (x:=u * _) (by omega) (by omega),Zhf (x:=_+k) (by omega) (by omega),Zhf (by omega) (by omega)]
  congr 1
  omega
 rw [decide_eq_false h,cond_false,Option.bind_some,Yn (x:=4 * _) (by omega) (by omega),Yn (by omega) (by omega),Zhf (x:=u * _) (by omega) (by omega),Zhf (x:=_+k) (by omega) (by omega),Zhf (by omega) (by omega)]
 congr 1
 omega
def Znq (w:Nat) (out:List Int) (i:Nat) (n:Int):List Int:=Jo out ((i * w / 64:Nat):Int) (out[i * w / 64]?.getD 0+n * 2 ^ (i * w % 64))
def Ybl (w N:Nat) (i:Nat) (out:List Int):Prop:=out.length=(N * w+63) / 64∧∀ (q:Nat) (v:Int),out[q]? = some v→0≤v∧v < 2 ^ min 64 (i * w - q * 64)
theorem Yhn {s w:Nat} {v n:Int} (h0:0≤v) (h1:v < 2 ^ s) (n0:0≤n) (n1:n < 2 ^ w):0≤v+n * 2 ^ s∧v+n * 2 ^ s < 2 ^ (s+w)∧0≤n * 2 ^ s:=by
 have p:(0:Int) < 2 ^ s:=Int.pow_pos (by decide)
 have a:=Int.mul_nonneg n0 (Int.le_of_lt p)
 have b:(n+1) * 2 ^ s≤2 ^ w * 2 ^ s:=Int.mul_le_mul_of_nonneg_right (by omega) (Int.le_of_lt p)
 rw [Int.add_mul,Int.one_mul,Int.mul_comm (2 ^ w),← Int.pow_add] at b
 exact ⟨by omega,by omega,a⟩
theorem Zuk {a b:Nat} (h:a≤b):(2:Int) ^ a≤2 ^ b:=by
 have:=Nat.pow_le_pow_right (n:=2) (by decide) h
 exact_mod_cast this
theorem Ybk {w N i:Nat} {out:List Int} {n:Int} (hw:0 < w) (hs:i * w % 64+w≤64) (hi:i < N) (hI:Ybl w N i out) (n0:0≤n) (n1:n < 2 ^ w) :
  ∃ v:Int,out[i * w / 64]? = some v∧0≤v∧v < 2 ^ (i * w % 64)∧v+n * 2 ^ (i * w % 64) < 18446744073709551616∧0≤n * 2 ^ (i * w % 64)∧Ybl w N (i+1) (Znq w out i n):=by
 obtain ⟨hl,hv⟩:=hI
 have hm:i * w+w≤N * w:=by
  have:=Nat.mul_le_mul_right w (show i+1≤N by omega)
  rwa [Nat.add_mul,Nat.one_mul] at this
 have hq:i * w / 64 < out.length:=by rw [hl];omega
 have hx:out[i * w / 64]? = some out[i * w / 64]:=List.getElem?_eq_getElem hq
 obtain ⟨v0,v1⟩:=hv _ _ hx
 have e:min 64 (i * w - i * w / 64 * 64)=i * w % 64:=by omega
 rw [e] at v1
 obtain ⟨a,b,c⟩:=Yhn v0 v1 n0 n1
 have d:=Zuk hs
 refine ⟨_,hx,v0,v1,by omega,c,by unfold Znq;rw [Q0,hl],fun q u hu => ?_⟩
 unfold Znq Jo at hu
 rw [Int.toNat_natCast,hx,Option.getD_some,List.getElem?_set] at hu
 have e1:(i+1) * w=i * w+w:=by rw [Nat.add_mul,Nat.one_mul]
 by_cases h:i * w / 64=q
 ·rw [if_pos h,if_pos hq] at hu
  cases hu
  subst h
  refine ⟨a,?_⟩
  have:min 64 ((i+1) * w - i * w / 64 * 64)=i * w % 64+w:=by rw [e1];omega
  rw [this]
  exact b
 rw [if_neg h] at hu
 obtain ⟨u0,u1⟩:=hv _ _ hu
 refine ⟨u0,Int.lt_of_lt_of_le u1 (Zuk ?_)⟩
 rw [e1]
 omega
theorem Ybj (w N:Nat):Ybl w N 0 (List.replicate ((N * w+63) / 64) 0):=by
 refine ⟨List.length_replicate,fun q v h => ?_⟩
 have:=List.mem_of_getElem? h
 rw [List.mem_replicate] at this
 rw [this.2]
 exact ⟨by decide,Int.pow_pos (by decide)⟩
def Zr7 (c:Int) (ns:List Int):List Int:=if c=0 then [] else Zbx (Znq (wid c)) (List.replicate ((ns.length * wid c+63) / 64) 0) 0 ns
theorem Yfl {w each:Nat} (hw:0 < w) (hw2:w≤64) (he:0 < each) (he2:each≤64) (hE:IntKind.i64.wrap (Int.tdiv 64 (w:Int))=(each:Int)) (hq:∀ i:Nat,i / each=i * w / 64) (hr:∀ i:Nat,i % each * w=i * w % 64) (hs:∀ i:Nat,i * w % 64+w≤64)
  {ns:List Int} (hn:ns.length≤1048576) (hf:∀ n∈ns,0≤n∧n < 2 ^ w) :
  Zx (Zbv ns ((w:Int),true)) (0,List.replicate ((ns.length * w+63) / 64) 0)=some (Zbx (Znq w) (List.replicate ((ns.length * w+63) / 64) 0) 0 ns)∧Ybl w ns.length ns.length (Zbx (Znq w) (List.replicate ((ns.length * w+63) / 64) 0) 0 ns) :=
 Zj5 ns (fun i s=>(i,s)) (fun s=>s) (Zbv ns ((w:Int),true)) (Znq w) (Ybl w ns.length) (by omega) (fun i s n hi hx hm hI=>by
  obtain ⟨n0,n1⟩:=hf n hm
  obtain ⟨v,hv,v0,v1,v2,v3,v4⟩:=Ybk hw (hs i) hi hI n0 n1
  refine ⟨?_,v4⟩
  unfold Zbv
  simp only
  have e1:IntKind.i64.wrap (Int.tdiv (i:Int) (each:Int))=((i * w / 64:Nat):Int):=by
   have hb:=Nat.mul_le_mul_left i hw2
   rw [Int.tdiv_eq_ediv_of_nonneg (by omega),← Int.natCast_ediv,hq i,Yn (by omega) (by omega)]
  have e2:IntKind.i64.wrap (Int.tmod (i:Int) (each:Int) * (w:Int))=((i * w % 64:Nat):Int):=by
   rw [Int.tmod_eq_emod_of_nonneg (by omega),← Int.natCast_emod,← Int.natCast_mul,hr i,Yn (by omega) (by omega)]
  have e3:min (Int.toNat ((i * w % 64:Nat):Int)) 64=i * w % 64:=by omega
  have e4:IntKind.u64.wrap (n * 2 ^ (i * w % 64))=n * 2 ^ (i * w % 64):=Zhf v3 (by omega)
  have e5:IntKind.u64.wrap (Ut .u64 v (n * 2 ^ (i * w % 64)))=v+n * 2 ^ (i * w % 64):=by
   obtain ⟨a,rfl⟩:=Int.eq_ofNat_of_zero_le v0
   obtain ⟨b,rfl⟩:=Int.eq_ofNat_of_zero_le n0
   have f:((b:Nat):Int) * 2 ^ (i * w % 64)=((b * 2 ^ (i * w % 64):Nat):Int):=by simp
   have f1:a < 2 ^ (i * w % 64):=by exact_mod_cast v1
   rw [f] at v2 v3 ⊢
   rw [Zmo _ _ (by omega) (by omega),Zow _ _ _ f1,Int.natCast_add]
  rw [V0 hi,cond_true,Ym hx,Option.bind_some,hE,Zcs (by omega),Option.bind_some,e1,Ym hv,Option.bind_some,Option.bind_some,e2,Zcs (by omega),Option.bind_some,e3,e4,e5]
  unfold Znq
  rw [hv]
  rfl) (fun s _=>by
  unfold Zbv
  simp only
  rw [Vu,cond_false]) _ (Ybj w ns.length)
theorem Yb1 {c:Int} {ns:List Int} (h:0≤c∧c≤5) (hn:ns.length≤1048576) (hf:∀ n∈ns,0≤n∧Zfx c n=true):Zx (Zee c ns) (true,0)=some true :=
 (Zj5 ns (fun i s=>(s,i)) (fun s=>s) (Zee c ns) (fun s _ _=>s) (fun _ s=>s=true) (by omega) (fun i s n hi hx hm hI=>by
  subst hI
  refine ⟨?_,rfl⟩
  unfold Zee
  simp only
  rw [V0 hi,cond_true,Ym hx,Option.bind_some,cond_true,Yam h.1 h.2 (hf n hm).1,Option.bind_some,(hf n hm).2]
  rfl) (fun s _=>by
  unfold Zee
  simp only
  rw [Vu,cond_false]) true rfl).1.trans (by
  have:∀ (l:List Int) (k:Nat),Zbx (fun (s:Bool) (_:Nat) (_:Int)=>s) true k l=true:=fun l=>by
   induction l with
   | nil=>intro k;rfl
   | cons x l ih=>intro k;exact ih (k+1)
  rw [this])
theorem Yed {c:Int} (h:0≤c∧c≤5) {ns:List Int} (hn:ns.length≤1048576) (hf:∀ n∈ns,0≤n∧Zfx c n=true):Zi7 c ns=some (Zr7 c ns,true)∧(Zr7 c ns).length=(ns.length * wid c+63) / 64:=by
 have hw:Gh c=some (((wid c:Nat):Int),true):=by
  unfold Gh
  rcases c5' h with rfl | rfl | rfl | rfl | rfl | rfl <;> rfl
 have hb:wid c≤64:=by rcases c5' h with rfl | rfl | rfl | rfl | rfl | rfl <;> decide
 have hm:ns.length * wid c≤1048576 * 64:=Nat.mul_le_mul hn hb
 have hf':∀ n∈ns,0≤n∧n < 2 ^ wid c:=fun n hn=>⟨(hf n hn).1,by have:=(hf n hn).2;unfold Zfx at this;exact of_decide_eq_true this⟩
 unfold Zi7 Zr7
 rw [hw,Option.bind_some]
 simp only
 rw [Yb1 h hn hf,Option.bind_some,Bool.not_true,cond_false,Yas h hn,Option.bind_some]
 unfold Zql
 rw [Zqb (by omega) (by omega) (by omega),Option.bind_some,Int.toNat_natCast]
 have key:∀ w each:Nat,wid c=w→0 < w→0 < each→each≤64→IntKind.i64.wrap (Int.tdiv 64 (w:Int))=(each:Int)→(∀ i:Nat,i / each=i * w / 64)→(∀ i:Nat,i % each * w=i * w % 64)→(∀ i:Nat,i * w % 64+w≤64)→¬ c=0 →
   (cond (((wid c:Nat):Int) == 0) (some (List.replicate ((ns.length * wid c+63) / 64) (0:Int),true)) ((Vs (((wid c:Nat):Int)≠0)).bind fun u14=>(Zx (Zbv ns (((wid c:Nat):Int),true)) (0,List.replicate ((ns.length * wid c+63) / 64) 0)).bind fun (z24:(List Int))=>some (z24,true)))=some ((if c=0 then [] else Zbx (Znq (wid c)) (List.replicate ((ns.length * wid c+63) / 64) 0) 0 ns),true)∧(if c=0 then [] else Zbx (Znq (wid c)) (List.replicate ((ns.length * wid c+63) / 64) 0) 0 ns).length=(ns.length * wid c+63) / 64:=by
  intro w each ew a1 a2 a3 a4 a5 a6 a7 a8
  have:=Yfl a1 (by omega) a2 a3 a4 a5 a6 a7 hn (by rw [← ew];exact hf')
  rw [ew,if_neg a8,Vt (by omega),cond_false,Zcs (by omega),Option.bind_some,this.1,Option.bind_some]
  exact ⟨rfl,this.2.1⟩
 rcases c5' h with rfl | rfl | rfl | rfl | rfl | rfl
 ·exact ⟨by simp [wid],by simp [wid]⟩
 ·exact key 1 64 rfl (by decide) (by decide) (by decide) rfl (fun i=>by omega) (fun i=>by omega) (fun i=>by omega) (by decide)
 ·exact key 8 8 rfl (by decide) (by decide) (by decide) rfl (fun i=>by omega) (fun i=>by omega) (fun i=>by omega) (by decide)
 ·exact key 16 4 rfl (by decide) (by decide) (by decide) rfl (fun i=>by omega) (fun i=>by omega) (fun i=>by omega) (by decide)
 ·exact key 32 2 rfl (by decide) (by decide) (by decide) rfl (fun i=>by omega) (fun i=>by omega) (fun i=>by omega) (by decide)
 exact key 64 1 rfl (by decide) (by decide) (by decide) rfl (fun i=>by omega) (fun i=>by omega) (fun i=>by omega) (by decide)
theorem Z82 {y2:Int} {s0:Int×List Int} {s:Nat} {n:Int} (hs:s < 64) (he:Int.tmod (IntKind.i64.wrap (s0.1 * y2)) 64=(s:Int)) (n0:0≤n) (hb:n * 2 ^ s < 18446744073709551616):Zx (Zf1 y2 s0) (n,0)=some (n * 2 ^ s):=by
 refine Ybq (fun st=>∃ j:Nat,j≤s∧st=(n * 2 ^ j,(j:Int))) (fun st=>s - st.2.toNat) ?_ _ ⟨0,by omega,by simp⟩
 rintro st ⟨j,hj,rfl⟩
 unfold Zf1
 simp only
 rw [he]
 by_cases h:j < s
 ·left
  have p:n * 2 ^ (j+1)≤n * 2 ^ s:=Int.mul_le_mul_of_nonneg_left (Zuk (by omega)) n0
  have q:n * 2 ^ j * 2=n * 2 ^ (j+1):=by rw [Int.pow_succ,Int.mul_assoc]
  have r:0≤n * 2 ^ (j+1):=Int.mul_nonneg n0 (Int.le_of_lt (Int.pow_pos (by decide)))
  refine ⟨(n * 2 ^ (j+1),((j+1:Nat):Int)),?_,⟨j+1,by omega,rfl⟩,by simp only;omega⟩
  rw [decide_eq_true (by omega),cond_true,q,Zhf r (by omega),Yn (by omega) (by omega)]
  rfl
 right
 obtain rfl:j=s:=by omega
 rw [decide_eq_false (by omega),cond_false]
theorem Yfe {c:Int} {w:Nat} (h:0≤c∧c≤5) (ew:wid c=w) (hw:0 < w) (hw2:w≤64) (hs:∀ i:Nat,i * w % 64+w≤64)
  {ns:List Int} (hn:ns.length≤1048576) (hu:∀ n∈ns,0≤n∧n < 18446744073709551616∧Zfx c n=true) :
  Zx (X6 c ns (w:Int)) (0,List.replicate ((ns.length * w+63) / 64) 0)=some (.inr (Zbx (Znq w) (List.replicate ((ns.length * w+63) / 64) 0) 0 ns)) :=
 (Zj5 ns (fun i s=>(i,s)) (fun s => .inr s) (X6 c ns (w:Int)) (Znq w) (Ybl w ns.length) (by omega) (fun i s n hi hx hm hI=>by
  obtain ⟨n0,n1,n2⟩:=hu n hm
  have n3:n < 2 ^ w:=by unfold Zfx at n2;rw [← ew];exact of_decide_eq_true n2
  obtain ⟨v,hv,v0,v1,v2,v3,v4⟩:=Ybk hw (hs i) hi hI n0 n3
  refine ⟨?_,v4⟩
  unfold X6
  simp only
  have hb:=Nat.mul_le_mul_left i hw2
  have e1:IntKind.i64.wrap ((i:Int) * (w:Int))=((i * w:Nat):Int):=by
   rw [← Int.natCast_mul,Yn (by omega) (by omega)]
  have e2:IntKind.i64.wrap (Int.tdiv ((i * w:Nat):Int) 64)=((i * w / 64:Nat):Int):=by
   rw [Int.tdiv_eq_ediv_of_nonneg (by omega),Yn (by omega) (by omega)]
   omega
  have e3:Int.tmod (IntKind.i64.wrap ((i:Int) * (w:Int))) 64=((i * w % 64:Nat):Int):=by
   rw [e1,Int.tmod_eq_emod_of_nonneg (by omega)]
   omega
  have e4:=Z82 (y2:=(w:Int)) (s0:=((i:Int),s)) (by omega) e3 n0 (by omega)
  rw [V0 hi,cond_true,Ym hx,Option.bind_some,Z2u h.1 h.2 n0 n1,Option.bind_some,n2,Bool.not_true,cond_false,e4,Option.bind_some,decide_eq_true (by omega),cond_true,e1,e2,Ym hv,Option.bind_some,Option.bind_some,Zhf (by omega) v2]
  unfold Znq
  rw [hv]
  rfl) (fun s _=>by
  unfold X6
  simp only
  rw [Vu,cond_false]) _ (Ybj w ns.length)).1
theorem Ybp {ns:List Int} (hn:ns.length≤1048576) (hu:∀ n∈ns,0≤n∧n < 18446744073709551616∧Zfx 0 n=true) (l0:List Int):Zx (X6 0 ns ((0:Nat):Int)) (0,l0)=some (.inr l0):=by
 have:=(Zj5 ns (fun i s=>(i,s)) (fun s => .inr s) (X6 0 ns ((0:Nat):Int)) (fun s _ _=>s) (fun _ s=>s=l0) (by omega) (fun i s n hi hx hm hI=>by
  obtain ⟨n0,n1,n2⟩:=hu n hm
  refine ⟨?_,hI⟩
  unfold X6
  simp only
  have e3:Int.tmod (IntKind.i64.wrap ((i:Int) * ((0:Nat):Int))) 64=((0:Nat):Int):=by
   rw [Int.natCast_zero,Int.mul_zero]
   rfl
  have e4:=Z82 (y2:=((0:Nat):Int)) (s0:=((i:Int),s)) (by omega) e3 n0 (by omega)
  rw [V0 hi,cond_true,Ym hx,Option.bind_some,Z2u (by decide) (by decide) n0 n1,Option.bind_some,n2,Bool.not_true,cond_false,e4,Option.bind_some,decide_eq_false (by decide),cond_false,Option.bind_some]) (fun s _=>by
  unfold X6
  simp only
  rw [Vu,cond_false]) l0 rfl)
 rw [this.1,this.2]
theorem Yhy {c:Int} (h:0≤c∧c≤5) {ns:List Int} (hn:ns.length≤1048576) (hu:∀ n∈ns,0≤n∧n < 18446744073709551616∧Zfx c n=true):Zi6 c ns=some (Zr7 c ns,true):=by
 have hb:wid c≤64:=by rcases c5' h with rfl | rfl | rfl | rfl | rfl | rfl <;> decide
 have hm:ns.length * wid c≤1048576 * 64:=Nat.mul_le_mul hn hb
 unfold Zi6 Zr7
 rw [Yc7 h,Option.bind_some,decide_eq_false (by omega),cond_false,Yae h (by omega),Option.bind_some,Zqb (by omega) (by omega) (by omega),Option.bind_some,Int.toNat_natCast]
 have key:∀ w:Nat,wid c=w→0 < w→(∀ i:Nat,i * w % 64+w≤64)→¬ c=0→((Zx (X6 c ns ((wid c:Nat):Int)) (0,List.replicate ((ns.length * wid c+63) / 64) 0)).bind fun (z20:(Unit ⊕ (List Int)))=>match z20 with | .inl z20=>some (([]:(List Int)),false) | .inr z20=>some (z20,true))=some ((if c=0 then [] else Zbx (Znq (wid c)) (List.replicate ((ns.length * wid c+63) / 64) 0) 0 ns),true):=by
  intro w ew a1 a2 a3
  rw [if_neg a3,ew,Yfe h ew a1 (by omega) a2 hn hu]
  rfl
 rcases c5' h with rfl | rfl | rfl | rfl | rfl | rfl
 ·rw [show wid 0=0 from rfl,Ybp hn hu,Nat.mul_zero,if_pos rfl]
  rfl
 ·exact key 1 rfl (by decide) (fun i=>by omega) (by decide)
 ·exact key 8 rfl (by decide) (fun i=>by omega) (by decide)
 ·exact key 16 rfl (by decide) (fun i=>by omega) (by decide)
 ·exact key 32 rfl (by decide) (fun i=>by omega) (by decide)
 exact key 64 rfl (by decide) (fun i=>by omega) (by decide)
def ato (t:Tr):List Int:=t.Kids.map fun k=>k.Words.headD 0
theorem Zyu (t:Tr):(ato t).length=t.Kids.length:=by unfold ato;rw [List.length_map]
theorem Ybe {t:Tr} (hk:2≤t.Kind∧t.Kind≤7) (hn:t.Kids.length≤1048576) (ha:∀ k∈t.Kids,∃ w,k.Words=[w]∧0≤w∧Zfx (t.Kind - 2) w=true):Zdy t=some (Zr7 (t.Kind - 2) (ato t)):=by
 have l0:=Z9v t.Kids (fun k=>k.Words.headD 0) (Zab t) [] (by omega) (fun i x out hi hx hm ho=>by
  obtain ⟨w,hw,_⟩:=ha x hm
  have e:Zju x 0=some w:=by
   unfold Zju
   rw [hw]
   rfl
  unfold Zab
  simp only [List.length_nil] at ho ⊢
  rw [V0 hi,cond_true,Ym hx,Option.bind_some,e,Option.bind_some,Zgh (by simp only [List.length_singleton];omega) (by simp only [List.length_singleton];omega),Option.bind_some,hw]
  rfl) (fun out=>by
  unfold Zab
  simp only
  rw [Vu,cond_false])
 unfold Zdy
 rw [l0,Option.bind_some,Yn (by omega) (by omega)]
 have:Zi7 (t.Kind - 2) (ato t)=some (Zr7 (t.Kind - 2) (ato t),true):=(Yed (by omega) (by rw [Zyu];omega) (fun n hn=>by
  obtain ⟨k,hk,rfl⟩:=List.mem_map.1 hn
  obtain ⟨w,hw,h0,h1⟩:=ha k hk
  rw [hw]
  exact ⟨h0,h1⟩)).1
 unfold ato at this
 rw [List.nil_append,this]
 rfl
theorem Yfy {t:Tr} (hn:t.Kids.length≤1048576) (ha:∀ k∈t.Kids,∃ w,k.Words=[w]∧0≤w∧Zfx (t.Kind - 2) w=true):Zgs t=some (ato t):=by
 have l0:=Z9v t.Kids (fun k=>k.Words.headD 0) (Zan t) [] (by omega) (fun i x out hi hx hm ho=>by
  obtain ⟨w,hw,_⟩:=ha x hm
  have e:Xd x.Words 0=some w:=by rw [hw];rfl
  unfold Zan
  simp only [List.length_nil] at ho ⊢
  rw [V0 hi,cond_true,Ym hx,Option.bind_some,e,Option.bind_some,Zgh (by simp only [List.length_singleton];omega) (by simp only [List.length_singleton];omega),Option.bind_some,hw]
  rfl) (fun out=>by
  unfold Zan
  simp only
  rw [Vu,cond_false])
 unfold Zgs
 rw [l0,Option.bind_some,List.nil_append]
 rfl
theorem Z90 {α:Type} {f:α→Nat} {x:α}:∀ {l:List α},x∈l→f x≤(l.map f).sum
 | [],h=>by cases h
 | y::l,h=>by
  simp only [List.map_cons,List.sum_cons]
  rcases List.mem_cons.1 h with rfl | h
  ·omega
  have:=Z90 (f:=f) h;omega
theorem Z9z {α:Type} {f:α→Nat}:∀ {l:List α},(∀ x∈l,1≤f x)→l.length≤(l.map f).sum
 | [],_=>by simp
 | y::l,h=>by
  have:=Z9z fun x hx=>h x (.tail _ hx)
  have:=h y (.head _)
  simp only [List.map_cons,List.sum_cons,List.length_cons]
  omega
theorem Ycw {α β:Type} {f:α→Nat} {g:β→Nat} (p:α→β):∀ {l:List α},(∀ x∈l,g (p x)≤f x)→((l.map p).map g).sum≤(l.map f).sum
 | [],_=>by simp
 | y::l,h=>by
  have:=Ycw p fun x hx=>h x (.tail _ hx)
  have:=h y (.head _)
  simp only [List.map_cons,List.sum_cons]
  omega
theorem Yd4 {α:Type} {p:α→Bool} {f:α→Nat}:∀ l:List α,((tr p l).map f).sum≤(l.map f).sum
 | []=>by simp [tr]
 | x::l=>by
  have:=Yd4 (p:=p) (f:=f) l
  by_cases h:tr p l=[]
  ·rw [Zyd h]
   split <;> simp
  rw [Z3b h]
  simp only [List.map_cons,List.sum_cons]
  omega
theorem Z2o (t:Tr):1≤pt t:=by rw [Zgg];omega
theorem Z54 {t x:Tr} (h:x∈t.Kids):pt x+1≤pt t:=by
 have:=Z90 (f:=pt) h
 rw [Zgg t]
 omega
theorem Zz3 (t:Tr):1+t.Words.length+t.Kids.length≤pt t:=by
 have:=Z9z (f:=pt) (l:=t.Kids) fun x _=>Z2o x
 rw [Zgg t]
 omega
theorem Yc2:∀ (n:Nat) (t:Tr),SizeOf.sizeOf t < n→pt (nrm t)≤pt t
 | 0,_,h=>by omega
 | n+1,t,h=>by
  have ih:∀ x∈t.Kids,pt (nrm x)≤pt x:=fun x hx=>Yc2 n x (by have:=Xs hx;omega)
  have e:=Ycw (f:=pt) (g:=pt) nrm ih
  by_cases h0:t.Kind=0
  ·rw [Zjw h0,Zgg]
   exact Z2o t
  by_cases h1:t.Kind=1
  ·rw [Zdh h1,Zgg,Zgg t]
   simp only
   have a:=Zpc (fun x:Int=>x == 0) t.Words
   have b:=Yd4 (p:=fun x:Tr=>x.Kind == 0) (f:=pt) (t.Kids.map nrm)
   exact Nat.add_le_add (Nat.add_le_add_left a 1) (Nat.le_trans b e)
  rw [Zjv h0 h1,Zgg,Zgg t]
  simp only
  omega
theorem Ygi {M N:Int}:∀ (l:List Tr) (s:Int×Int),(∀ x∈l,(x.Words.length:Int)≤M∧(x.Kids.length:Int)≤N)→0≤s.1→s.1≤M→0≤s.2→s.2≤N →
  s.1≤(l.foldl frS s).1∧(l.foldl frS s).1≤M∧s.2≤(l.foldl frS s).2∧(l.foldl frS s).2≤N∧∀ x∈l,(x.Words.length:Int)≤(l.foldl frS s).1∧(x.Kids.length:Int)≤(l.foldl frS s).2
 | [],s,_,a,b,c,d=>⟨Int.le_refl _,b,Int.le_refl _,d,fun x hx=>by cases hx⟩
 | y::l,s,h,a,b,c,d=>by
  obtain ⟨h1,h2⟩:=h y (.head _)
  have e1:s.1≤(frS s y).1∧(frS s y).1≤M∧(y.Words.length:Int)≤(frS s y).1:=by unfold frS;simp only;split <;> omega
  have e2:s.2≤(frS s y).2∧(frS s y).2≤N∧(y.Kids.length:Int)≤(frS s y).2:=by unfold frS;simp only;split <;> omega
  obtain ⟨k1,k2,k3,k4,k5⟩:=Ygi l (frS s y) (fun x hx=>h x (.tail _ hx)) (by omega) e1.2.1 (by omega) e2.2.1
  rw [List.foldl_cons]
  refine ⟨by omega,k2,by omega,k4,fun x hx => ?_⟩
  rcases List.mem_cons.1 hx with rfl | hx
  ·omega
  exact k5 x hx
theorem Yma {M N:Int} {l:List Tr} (h:∀ x∈l,(x.Words.length:Int)≤M∧(x.Kids.length:Int)≤N) (hM:0≤M) (hN:0≤N) :
  0≤(fr l).1∧(fr l).1≤M∧0≤(fr l).2∧(fr l).2≤N∧∀ x∈l,(x.Words.length:Int)≤(fr l).1∧(x.Kids.length:Int)≤(fr l).2 :=
 Ygi l (0,0) h (Int.le_refl _) hM (Int.le_refl _) hN
theorem Zzc {α:Type} {f:α→Int} {g:α→Nat} {c:Int}:∀ {l:List α},(∀ x∈l,0≤f x∧f x≤c * (g x:Int))→0≤(l.map f).sum∧(l.map f).sum≤c * (((l.map g).sum:Nat):Int)
 | [],_=>by simp
 | y::l,h=>by
  obtain ⟨a,b⟩:=Zzc fun x hx=>h x (.tail _ hx)
  obtain ⟨c1,d⟩:=h y (.head _)
  simp only [List.map_cons,List.sum_cons,Int.natCast_add,Int.mul_add]
  omega
theorem Zlm {t:Tr} {d:Nat} (h:rt t d=true) (h0:¬ t.Kind=0) (h1:¬ t.Kind=10):t.Words.length < 65536∧(t.Kind=1→t.Kids.length < 65536)∧(1 < t.Kind→t.Words=[])∧∀ k∈t.Kids,rt k (d - 1)=true∧okk t.Kind k=true:=by
 rw [Zj0,if_neg h0,if_neg h1] at h
 by_cases hb:t.Kind < 0∨10 < t.Kind∨d=0∨65536≤t.Words.length∨(t.Kind=1∧65536≤t.Kids.length)∨1048576≤t.Kids.length∨(1 < t.Kind∧0 < t.Words.length)
 ·rw [if_pos hb] at h;cases h
 rw [if_neg hb,List.all_eq_true] at h
 refine ⟨by omega,fun h=>by omega,fun h=>List.length_eq_zero_iff.1 (by omega),fun k hk => ?_⟩
 have:=h k hk
 rwa [Bool.and_eq_true] at this
theorem Yki {l:List Tr} (hl:l.length≤200000) (h:∀ x∈l,x.Words.length≤65535∧x.Kids.length≤65535):h9 l=1+(l.length:Int) * ((fr l).1+(fr l).2)∧0≤(l.length:Int) * ((fr l).1+(fr l).2)∧(l.length:Int) * ((fr l).1+(fr l).2)≤26214000000∧(0≤(fr l).1∧(fr l).1≤65535∧0≤(fr l).2∧(fr l).2≤65535∧∀ x∈l,(x.Words.length:Int)≤(fr l).1∧(x.Kids.length:Int)≤(fr l).2):=by
 have f:=Yma (M:=65535) (N:=65535) (l:=l) (fun x hx=>by have:=h x hx;omega) (by decide) (by decide)
 have a:0≤(l.length:Int) * ((fr l).1+(fr l).2):=Int.mul_nonneg (by omega) (by omega)
 have b:(l.length:Int) * ((fr l).1+(fr l).2)≤200000 * 131070:=Int.mul_le_mul (by omega) (by omega) (by omega) (by decide)
 refine ⟨?_,a,by omega,f⟩
 unfold h9
 rw [Yn (x:=(fr l).1+(fr l).2) (by omega) (by omega),Yn (x:=(l.length:Int) * _) (by omega) (by omega),Yn (by omega) (by omega)]
theorem Z57 {c:Int} (h:0≤c∧c≤5) (n:Nat):(n * wid c+63) / 64≤n:=by
 have hb:wid c≤64:=by rcases c5' h with rfl | rfl | rfl | rfl | rfl | rfl <;> decide
 have:=Nat.mul_le_mul_left n hb
 omega
theorem Yh9:∀ (n:Nat) (t:Tr) (d:Nat),SizeOf.sizeOf t < n→rt t d=true→pt t≤200000→0≤sz t∧sz t≤27000000000 * (pt t:Int)
 | 0,_,_,h,_,_=>by omega
 | n+1,t,d,h,hr,hp=>by
  obtain ⟨_,_,_,_,hk⟩:=Zdn hr
  have ih:∀ x∈t.Kids,0≤sz x∧sz x≤27000000000 * (pt x:Int):=fun x hx=>Yh9 n x (d - 1) (by have:=Xs hx;omega) (hk x hx) (by have:=Z54 hx;omega)
  have ih2:∀ x∈t.Kids,0≤(x.Kids.map sz).sum∧(x.Kids.map sz).sum≤27000000000 * (pt x:Int):=fun x hx=>by
   have:=Zzc (f:=sz) (g:=pt) (c:=27000000000) (l:=x.Kids) fun y hy=>Yh9 n y (d - 1 - 1) (by have:=Xs hx;have:=Xs hy;omega) ((Zdn (hk x hx)).2.2.2.2 y hy) (by have:=Z54 hx;have:=Z54 hy;omega)
   rw [Zgg x]
   omega
  have s1:=Zzc ih
  have s2:=Zzc ih2
  have pk:=Zz3 t
  have pe:=Zgg t
  rw [Znw]
  by_cases h1:t.Kind=1
  ·rw [if_pos h1];omega
  by_cases h2:2≤t.Kind∧t.Kind≤7
  ·rw [if_neg h1,if_pos h2]
   have:=Z57 (c:=t.Kind - 2) (by omega) t.Kids.length
   unfold Zql
   omega
  by_cases h8:t.Kind=8
  ·rw [if_neg h1,if_neg h2,if_pos h8];omega
  by_cases h9':t.Kind=9
  ·rw [if_neg h1,if_neg h2,if_neg h8,if_pos h9']
   obtain ⟨e,a,b,_⟩:=Yki (l:=t.Kids) (by omega) (fun x hx=>by
    obtain ⟨r1,r2⟩:=(Zlm hr (by omega) (by omega)).2.2.2 x hx
    unfold okk at r2
    rw [if_neg h2,Bool.and_eq_true,bne_iff_ne,Bool.or_eq_true,bne_iff_ne,beq_iff_eq] at r2
    have k1:x.Kind=1:=by rcases r2.2 with h | h;exact absurd h9' h;exact h
    have:=Zlm r1 (by omega) (by omega)
    have:=this.2.1 k1
    omega)
   omega
  rw [if_neg h1,if_neg h2,if_neg h8,if_neg h9'];omega
theorem Z4l {t:Tr} {d:Nat} (hr:rt t d=true) (hp:pt t≤200000):0≤sz t∧sz t≤5400000000000000:=by
 have:=Yh9 _ t d (Nat.lt_succ_self _) hr hp
 omega
def zs (l:List Int) (N:Nat):List Int:=l++List.replicate (N - l.length) 0
theorem Z3h {l:List Int} {N:Nat} (h:l.length≤N):(zs l N).length=N:=by
 unfold zs
 rw [List.length_append,List.length_replicate]
 omega
theorem Ylt {l:List Int} {N a:Nat} {v:Int} (h:l[a]? = some v):(zs l N)[a]? = some v:=by
 unfold zs
 rw [List.getElem?_append_left (List.getElem?_eq_some_iff.1 h).1,h]
theorem Yb3 {l:List Int} {N a:Nat} {v:Int} (h:a < l.length):Jo (zs l N) (a:Int) v=zs (Jo l (a:Int) v) N:=by
 unfold zs
 rw [Q0]
 unfold Jo
 rw [Int.toNat_natCast,List.set_append_left _ _ h]
theorem Yb2 {l ys:List Int} {N:Nat} (h:l.length+ys.length≤N):Zm2 (zs l N) (l.length:Int) ys=zs (l++ys) N:=by
 unfold Zm2
 rw [Z3h (by omega)]
 unfold zs
 rw [Int.toNat_natCast,List.take_left,List.take_of_length_le (by omega),List.drop_append,List.drop_replicate,List.drop_eq_nil_of_le (by omega),List.nil_append,List.length_append]
 congr 2
 omega
theorem Z8p {l:List Int} {N n:Nat} (h:l.length+n≤N):zs (l++List.replicate n 0) N=zs l N:=by
 unfold zs
 rw [List.length_append,List.length_replicate,List.append_assoc,List.replicate_append_replicate]
 congr 2
 omega
theorem Yax {l:List Int} {n:Nat} (h:l.length+n≤1048576):Zcx l (n:Int)=some (l++List.replicate n 0):=by
 have:=(Zj5 (List.replicate n ()) (fun i s=>(i,s)) (fun s=>s) (Zb9 (n:Int)) (fun s _ _=>s++[0]) (fun i s=>s=l++List.replicate i 0) (by rw [List.length_replicate];omega) (fun i s x hi hx hm hI=>by
  subst hI
  rw [List.length_replicate] at hi
  refine ⟨?_,?_⟩
  ·unfold Zb9
   simp only
   rw [decide_eq_true (by omega),cond_true,Zgh (by rw [List.length_append,List.length_replicate,List.length_singleton];omega) (by rw [List.length_append,List.length_replicate,List.length_singleton];omega)]
   rfl
  ·rw [List.append_assoc,List.replicate_succ']) (fun s _=>by
  unfold Zb9
  simp only
  rw [List.length_replicate,Vu,cond_false]) l (by simp))
 unfold Zcx
 rw [this.1,Option.bind_some,this.2,List.length_replicate]
noncomputable def ly (t:Tr) (l:List Int) (a:Nat):List Int:=(Y6 (SizeOf.sizeOf t+1) l (a:Int) t).getD []
def Sim (t:Tr):Prop:=∀ (l:List Int) (a:Nat),a < l.length→(l.length:Int)+sz t≤131072 →
 ((ly t l a).length:Int)=l.length+sz t∧(∀ j,SizeOf.sizeOf t < j→Y6 j l (a:Int) t=some (ly t l a)) ∧
 (∀ N k:Nat,(l.length:Int)+sz t≤N→N≤131072→4 * SizeOf.sizeOf t < k→(Zl k).1 ⟨zs l N,(l.length:Int)⟩ (a:Int) t=some ⟨zs (ly t l a) N,((ly t l a).length:Int)⟩)
theorem Z24 {t:Tr} {l R:List Int} {a:Nat} (hr:(R.length:Int)=l.length+sz t) (ref:∀ j,SizeOf.sizeOf t≤j→Q2 (Y6 j) l (a:Int) t=some R)
  (prog:∀ N k:Nat,(l.length:Int)+sz t≤N→N≤131072→4 * SizeOf.sizeOf t < k+4→(Zl (k+4)).1 ⟨zs l N,(l.length:Int)⟩ (a:Int) t=some ⟨zs R N,(R.length:Int)⟩) :
  ly t l a=R∧((ly t l a).length:Int)=l.length+sz t∧(∀ j,SizeOf.sizeOf t < j→Y6 j l (a:Int) t=some (ly t l a)) ∧
  (∀ N k:Nat,(l.length:Int)+sz t≤N→N≤131072→4 * SizeOf.sizeOf t < k→(Zl k).1 ⟨zs l N,(l.length:Int)⟩ (a:Int) t=some ⟨zs (ly t l a) N,((ly t l a).length:Int)⟩):=by
 have e:ly t l a=R:=by
  unfold ly
  have:=ref (SizeOf.sizeOf t) (Nat.le_refl _)
  show Option.getD (Q2 (Y6 (SizeOf.sizeOf t)) l (a:Int) t) []=R
  rw [this]
  rfl
 refine ⟨e,by rw [e];exact hr,fun j hj => ?_,fun N k h1 h2 h3 => ?_⟩
 ·obtain ⟨i,rfl⟩:∃ i,j=i+1:=⟨j - 1,by omega⟩
  rw [e]
  exact ref i (by omega)
 have:=Z25 t
 obtain ⟨i,rfl⟩:∃ i,k=i+4:=⟨k - 4,by omega⟩
 rw [e]
 exact prog N i h1 h2 h3
theorem Yi9 (k:Nat):(Zl (k+1)).1=Q6 ((Zl k).1) ((Zl k).2.1) ((Zl k).2.2.1) ((Zl k).2.2.2):=rfl
theorem Yja (k:Nat):(Zl (k+1)).2.1=Qd ((Zl k).1) ((Zl k).2.1) ((Zl k).2.2.1) ((Zl k).2.2.2):=rfl
theorem Ypv (k:Nat):(Zl (k+1)).2.2.1=Vb ((Zl k).1) ((Zl k).2.1) ((Zl k).2.2.1) ((Zl k).2.2.2):=rfl
theorem Ypw (k:Nat):(Zl (k+1)).2.2.2=Vw ((Zl k).1) ((Zl k).2.1) ((Zl k).2.2.1) ((Zl k).2.2.2):=rfl
noncomputable def lyK (b:Nat) (ks:List Tr) (l:List Int):List Int:=Zbx (fun l i x=>ly x l (b+i)) l 0 ks
theorem Zyw {α σ:Type} {f:σ→Nat→α→σ} (I:Nat→σ→Prop) (xs:List α) (h:∀ (i:Nat) (s:σ) (x:α),i < xs.length→xs[i]? = some x→x∈xs→I i s→I (i+1) (f s i x)) {s:σ} (h0:I 0 s):I xs.length (Zbx f s 0 xs):=by
 have key:∀ (l pre:List α) (s:σ),xs=pre++l→I pre.length s→I xs.length (Zbx f s pre.length l):=fun l=>by
  induction l with
  | nil =>
   intro pre s hp hi
   rw [List.append_nil] at hp
   subst hp
   exact hi
  | cons x l ih =>
   intro pre s hp hI
   have hx:xs[pre.length]? = some x:=by rw [hp,List.getElem?_append_right (Nat.le_refl _),Nat.sub_self];rfl
   have hi:pre.length < xs.length:=by rw [hp];simp
   have b:=h pre.length s x hi hx (List.mem_of_getElem? hx) hI
   have:=ih (pre++[x]) (f s pre.length x) (by rw [hp];simp) (by rw [List.length_append,List.length_singleton];exact b)
   rw [List.length_append,List.length_singleton] at this
   exact this
 exact key xs [] s rfl h0
theorem Z1w {ks:List Tr} (hk:∀ x∈ks,Sim x∧0≤sz x) {l:List Int} {b:Nat} (hb:b+ks.length≤l.length) (hs:(l.length:Int)+(ks.map sz).sum≤131072)
  (i:Nat) (s:List Int) (x:Tr) (hi:i < ks.length) (hx:ks[i]? = some x) (hm:x∈ks) (hI:(s.length:Int)=l.length+((ks.take i).map sz).sum) :
  b+i < s.length∧(s.length:Int)+sz x≤l.length+(ks.map sz).sum∧((ly x s (b+i)).length:Int)=l.length+((ks.take (i+1)).map sz).sum:=by
 obtain ⟨h1,h2⟩:=Yah (f:=sz) hx fun y hy=>(hk y hy).2
 have h3:=Gm (f:=sz) (xs:=ks.take i) fun y hy=>(hk y (List.mem_of_mem_take hy)).2
 have h4:=((hk x hm).1 s (b+i) (by omega) (by omega)).1
 exact ⟨by omega,by omega,by omega⟩
theorem Ztn {ks:List Tr} (hk:∀ x∈ks,Sim x∧0≤sz x) {l:List Int} {b:Nat} (hb:b+ks.length≤l.length) (hs:(l.length:Int)+(ks.map sz).sum≤131072):((lyK b ks l).length:Int)=l.length+(ks.map sz).sum:=by
 have:=Zyw (f:=fun l i x=>ly x l (b+i)) (fun i (s:List Int)=>(s.length:Int)=l.length+((ks.take i).map sz).sum) ks (fun i s x hi hx hm hI=>(Z1w hk hb hs i s x hi hx hm hI).2.2) (s:=l) (by simp)
 rw [List.take_length] at this
 exact this
theorem Ygp {ks:List Tr} (hk:∀ x∈ks,Sim x∧0≤sz x) {l:List Int} {b:Nat} (hb:b+ks.length≤l.length) (hs:(l.length:Int)+(ks.map sz).sum≤131072)
  (j:Nat) (step:Int×List Int→Option ((Int×List Int) ⊕ List Int)) (hj:∀ x∈ks,SizeOf.sizeOf x < j)
  (h1:∀ (i:Nat) (s:List Int) (x:Tr) (s':List Int),i < ks.length→ks[i]? = some x→x∈ks→Y6 j s ((b+i:Nat):Int) x=some s'→step ((i:Int),s)=some (.inl (IntKind.i64.wrap ((i:Int)+1),s')))
  (h2:∀ s,step ((ks.length:Int),s)=some (.inr s)):Zx step (0,l)=some (lyK b ks l):=by
 have h3:=Gm (f:=sz) (xs:=ks) fun y hy=>(hk y hy).2
 exact (Zj5 ks (fun i s=>(i,s)) (fun s=>s) step (fun l i x=>ly x l (b+i)) (fun i (s:List Int)=>(s.length:Int)=l.length+((ks.take i).map sz).sum) (by omega) (fun i s x hi hx hm hI=>by
  obtain ⟨a1,a2,a3⟩:=Z1w hk hb hs i s x hi hx hm hI
  exact ⟨h1 i s x _ hi hx hm (((hk x hm).1 s (b+i) a1 (by omega)).2.1 j (hj x hm)),a3⟩) (fun s _=>h2 s) l (by simp)).1
theorem Ygo {ks:List Tr} (hk:∀ x∈ks,Sim x∧0≤sz x) {l:List Int} {b:Nat} (hb:b+ks.length≤l.length) (hs:(l.length:Int)+(ks.map sz).sum≤131072)
  (N m:Nat) (hN:(l.length:Int)+(ks.map sz).sum≤N) (hN2:N≤131072) (hm:∀ x∈ks,4 * SizeOf.sizeOf x < m) :
  (Zl (m+1)).2.2.1 ⟨zs l N,(l.length:Int)⟩ (b:Int) ks=some ⟨zs (lyK b ks l) N,((lyK b ks l).length:Int)⟩:=by
 have h3:=Gm (f:=sz) (xs:=ks) fun y hy=>(hk y hy).2
 rw [Ypv]
 unfold Vb
 have:=(Zj5 ks (fun i (s:List Int)=>(i,zs s N,(s.length:Int))) (fun s=>(zs s N,(s.length:Int))) (Js (Zl m).1 (b:Int) ks) (fun l i x=>ly x l (b+i)) (fun i (s:List Int)=>(s.length:Int)=l.length+((ks.take i).map sz).sum) (by omega) (fun i s x hi hx hm' hI=>by
  obtain ⟨a1,a2,a3⟩:=Z1w hk hb hs i s x hi hx hm' hI
  refine ⟨?_,a3⟩
  unfold Js
  simp only
  have e:IntKind.i64.wrap ((b:Int)+(i:Int))=((b+i:Nat):Int):=by rw [Yn (by omega) (by omega)];omega
  rw [V0 hi,cond_true,Ym hx,Option.bind_some,e,((hk x hm').1 s (b+i) a1 (by omega)).2.2 N m (by omega) hN2 (hm x hm'),Option.bind_some]) (fun s _=>by
  unfold Js
  simp only
  rw [Vu,cond_false]) l (by simp)).1
 rw [this]
 rfl
theorem Zjp {a b:Int} (h:a=b):(a == b)=true:=by rw [h];exact beq_self_eq_true b
theorem Z1s {l:List Int} {a:Nat} (h:a < l.length):Xd l (a:Int)=some l[a]:=Ym (List.getElem?_eq_getElem h)
theorem Yk9 {l:List Int} {a N:Nat} (h:a < l.length):Xd (zs l N) (a:Int)=some l[a]:=Ym (Ylt (List.getElem?_eq_getElem h))
theorem Yjc {ks:List Tr} (h:ks=[]) (b b':Nat) (l:List Int):lyK b ks l=lyK b' ks l:=by subst h;rfl
theorem Yh6 {t:Tr} (h0:t.Kind=0):Sim t:=fun l a ha hs=>by
 have e:sz t=0:=by
  rw [Znw,if_neg (by omega),if_neg (by omega),if_neg (by omega),if_neg (by omega)]
 exact (Z24 (R:=l) (by omega) (fun j _=>by
  unfold Q2
  rw [Zjp h0,cond_true]) (fun N k _ _ _=>by
  rw [Yi9]
  unfold Q6
  rw [Zjp h0,cond_true])).2
def Zt1 (t:Tr) (l:List Int) (a:Nat):Int:=if t.Words.length+t.Kids.length=0 then -1 else (l.length:Int) - a - 1
def RS1 (t:Tr) (l:List Int) (a:Nat):List Int:=Jo l (a:Int) (Zt1 t l a % 1073741824 * 4+(t.Words.length:Int) * 4294967296+(t.Kids.length:Int) * 281474976710656)++t.Words++List.replicate t.Kids.length 0
theorem Z1x {t:Tr} (h1:t.Kind=1) (hw:t.Words.length < 65536) (hkl:t.Kids.length < 65536) (hk:∀ x∈t.Kids,Sim x∧0≤sz x) (l:List Int) (a:Nat) (ha:a < l.length) (hs:(l.length:Int)+sz t≤131072) :
  ly t l a=lyK (l.length+t.Words.length) t.Kids (RS1 t l a)∧((ly t l a).length:Int)=l.length+sz t∧(∀ j,SizeOf.sizeOf t < j→Y6 j l (a:Int) t=some (ly t l a)) ∧
  (∀ N k:Nat,(l.length:Int)+sz t≤N→N≤131072→4 * SizeOf.sizeOf t < k→(Zl k).1 ⟨zs l N,(l.length:Int)⟩ (a:Int) t=some ⟨zs (ly t l a) N,((ly t l a).length:Int)⟩):=by
 have es:sz t=((t.Words.length:Int)+(t.Kids.length:Int))+(t.Kids.map sz).sum:=by rw [Znw,if_pos h1]
 have s0:=Gm (f:=sz) (xs:=t.Kids) fun y hy=>(hk y hy).2
 have k0:(t.Kind == 0)=false:=Vt (by omega)
 have k1:(t.Kind == 1)=true:=Zjp h1
 have l2:(RS1 t l a).length=l.length+t.Words.length+t.Kids.length:=by unfold RS1;rw [List.length_append,List.length_append,Q0,List.length_replicate]
 have hb:l.length+t.Words.length+t.Kids.length≤(RS1 t l a).length:=by omega
 have hs2:((RS1 t l a).length:Int)+(t.Kids.map sz).sum≤131072:=by omega
 have len:=Ztn hk hb hs2
 have ho:-536870912≤Zt1 t l a∧Zt1 t l a < 536870912∧¬ (Zt1 t l a=0∧(t.Words.length:Int)=0∧(t.Kids.length:Int)=0):=by unfold Zt1;split <;> omega
 refine Z24 (by rw [len];omega) (fun j hj => ?_) (fun N k hN hN2 hkk => ?_)
 ·unfold Q2
  rw [k0,cond_false,k1,cond_true]
  have ez:(cond ((IntKind.i64.wrap ((t.Words.length:Int)+(t.Kids.length:Int))) == 0) (some (a:Int)) (some (l.length:Int)))=some (((if t.Words.length+t.Kids.length=0 then a else l.length:Nat):Nat):Int):=by
   rw [Yn (by omega) (by omega)]
   by_cases q:t.Words.length+t.Kids.length=0
   ·rw [Zjp (by omega),cond_true,if_pos q]
   rw [Vt (by omega),cond_false,if_neg q]
  rw [ez,Option.bind_some]
  generalize ht:(if t.Words.length+t.Kids.length=0 then a else l.length)=tt
  have hto:tt≤l.length∧(tt:Int) - a - 1=Zt1 t l a∧(tt=l.length∨t.Kids=[]):=by
   unfold Zt1
   by_cases q:t.Words.length+t.Kids.length=0
   ·rw [if_pos q] at ht ⊢
    exact ⟨by omega,by omega,.inr (List.length_eq_zero_iff.1 (by omega))⟩
   rw [if_neg q] at ht ⊢
   exact ⟨by omega,by omega,.inl ht.symm⟩
  have hto3:t.Kids.length=0∨tt=l.length:=by
   rcases hto.2.2 with h | h
   ·exact .inr h
   exact .inl (by rw [h];rfl)
  rw [Zhf (x:=(t.Words.length:Int)) (by omega) (by omega),Zhf (x:=(t.Kids.length:Int)) (by omega) (by omega),Zhf (x:=65536 * _) (by omega) (by omega),Zhf (by omega) (by omega),Zuu (by omega) (by omega) (by omega) (by omega) (by decide) (by decide) (by omega) (by omega),Option.bind_some,Z1s ha,Option.bind_some,hto.2.1]
  have ev:Zt1 t l a % 1073741824 * 4+0+((t.Words.length:Int)+65536 * (t.Kids.length:Int)) * 4294967296=Zt1 t l a % 1073741824 * 4+(t.Words.length:Int) * 4294967296+(t.Kids.length:Int) * 281474976710656:=by omega
  rw [ev,Zgh (by rw [Q0];omega) (by rw [Q0];omega),Option.bind_some,Yax (by rw [List.length_append,Q0];omega),Option.bind_some]
  have:=Ygp (b:=tt+t.Words.length) hk (by omega) hs2 j (Zb0 (Y6 j) t (tt:Int)) (fun x hx=>by have:=Xs hx;omega) (fun i s x s' hi hx hm hq=>by
   unfold Zb0
   simp only
   have e:IntKind.i64.wrap (IntKind.i64.wrap ((tt:Int)+(t.Words.length:Int))+(i:Int))=((tt+t.Words.length+i:Nat):Int):=by rw [Yn (x:=(tt:Int)+_) (by omega) (by omega),Yn (by omega) (by omega)];omega
   rw [V0 hi,cond_true,Ym hx,Option.bind_some,e,hq,Option.bind_some]) (fun s=>by
   unfold Zb0
   simp only
   rw [Vu,cond_false])
  unfold RS1 at this ⊢
  rw [this,Option.bind_some]
  rcases hto.2.2 with h | h
  ·rw [h]
  rw [Yjc h]
 rw [Yi9]
 unfold Q6
 rw [k0,cond_false]
 have e1:Uc t=some (⟨1,0,(t.Words.length:Int),(t.Kids.length:Int),0,0,0,false⟩:Ye):=by unfold Uc;rw [k1,cond_true]
 have e2:Qg (⟨1,0,(t.Words.length:Int),(t.Kids.length:Int),0,0,0,false⟩:Ye)=some ((t.Words.length:Int)+(t.Kids.length:Int),true):=by
  unfold Qg
  simp only
  rw [Zjp rfl,cond_true,Yn (by omega) (by omega)]
 have e3:(cond (cond ((1:Int) == 1) (((t.Words.length:Int)+(t.Kids.length:Int)) == 0) false) (some (-1)) (some (IntKind.i64.wrap ((IntKind.i64.wrap ((l.length:Int) - (a:Int))) - 1))))=some (Zt1 t l a):=by
  unfold Zt1
  rw [Yn (x:=(l.length:Int) - (a:Int)) (by omega) (by omega),Yn (by omega) (by omega),Zjp rfl,cond_true]
  by_cases q:t.Words.length+t.Kids.length=0
  ·rw [Zjp (by omega),cond_true,if_pos q]
  rw [Vt (by omega),cond_false,if_neg q]
 rw [e1,Option.bind_some,e2,Option.bind_some]
 simp only
 rw [e3,Option.bind_some,Yl8 ho.1 ho.2.1 (by omega) (by omega) (by omega) (by omega) ho.2.2,Option.bind_some,Yk9 ha,Option.bind_some,Yb3 ha,Yja]
 unfold Qd
 simp only
 rw [k1,cond_true]
 have l1:=Q0 l (a:Int) (Zt1 t l a % 1073741824 * 4+(t.Words.length:Int) * 4294967296+(t.Kids.length:Int) * 281474976710656)
 unfold RS1 at l2 len hb hs2 ⊢
 generalize Jo l (a:Int) (Zt1 t l a % 1073741824 * 4+(t.Words.length:Int) * 4294967296+(t.Kids.length:Int) * 281474976710656)=m at *
 rw [Z3h (by omega),Zcs (by omega),Option.bind_some,Yn (x:=(l.length:Int)+_) (by omega) (by omega),Yn (by omega) (by omega),← l1,Yb2 (by omega),← Z8p (n:=t.Kids.length) (by rw [List.length_append];omega)]
 have:=Ygo hk hb hs2 N (k+1) (by omega) hN2 (fun x hx=>by have:=Xs hx;omega)
 have e4:(m.length:Int)+((min t.Words.length (((N:Nat):Int) - (m.length:Int)).toNat:Nat):Int)=((m.length+t.Words.length:Nat):Int):=by omega
 have e5:(m.length:Int)+((t.Words.length:Int)+(t.Kids.length:Int))=((m++t.Words++List.replicate t.Kids.length 0).length:Int):=by omega
 rw [e4,e5,← l1] at *
 rw [this]
 rfl
theorem Yll {c:Int} (h:0≤c∧c≤6):Zg3 c=some (if c=6 then 64 else ((wid c:Nat):Int)):=by
 have:c=0∨c=1∨c=2∨c=3∨c=4∨c=5∨c=6:=by omega
 rcases this with rfl | rfl | rfl | rfl | rfl | rfl | rfl <;> rfl
def rmL (c:Int) (n:Nat):Nat:=if c=6 then n else (n * wid c+63) / 64
theorem Ylm {c off:Int} {n:Nat} (h:0≤c∧c≤6) (hn:n≤200000):Qg (⟨2,off,0,0,c,(n:Int),0,false⟩:Ye)=some (((rmL c n:Nat):Int),true):=by
 unfold Qg
 simp only
 rw [Vt (a:=2) (b:=1) (by decide),cond_false,Zjp (a:=2) (b:=2) rfl,cond_true,Vt (a:=c) (b:=7) (by omega),cond_false,cond_true,decide_eq_true (by omega),cond_true,decide_eq_true (by omega),cond_true,decide_eq_true (by omega),cond_true,decide_eq_true (by omega),cond_true,Yll h,Option.bind_some]
 unfold rmL
 by_cases q:c=6
 ·rw [if_pos q,if_pos q,Yn (x:=(n:Int) * 64) (by omega) (by omega),Yn (x:=(n:Int) * 64+63) (by omega) (by omega),Int.tdiv_eq_ediv_of_nonneg (by omega),Yn (by omega) (by omega)]
  congr 2
  omega
 rw [if_neg q,if_neg q]
 have hb:wid c≤64:=by rcases c5' (show 0≤c∧c≤5 by omega) with rfl | rfl | rfl | rfl | rfl | rfl <;> decide
 have hm:n * wid c≤200000 * 64:=Nat.mul_le_mul hn hb
 rw [← Int.natCast_mul]
 generalize n * wid c=m at hm ⊢
 rw [Yn (x:=(m:Int)) (by omega) (by omega),Yn (x:=(m:Int)+63) (by omega) (by omega),Int.tdiv_eq_ediv_of_nonneg (by omega),Yn (by omega) (by omega)]
 congr 1
def hdL (t:Tr) (l:List Int) (a:Nat):Int:=((l.length:Int) - a - 1) % 1073741824 * 4+1+(t.Kind - 2) * 4294967296+(t.Kids.length:Int) * 34359738368
theorem Ylk {t:Tr} (h2:2≤t.Kind∧t.Kind≤8):Uc t=some (⟨2,0,0,0,t.Kind - 2,(t.Kids.length:Int),0,false⟩:Ye):=by
 unfold Uc
 rw [Vt (by omega),cond_false,Vt (by omega),cond_false,Yn (by omega) (by omega)]
theorem Z2n {t:Tr} (h2:2≤t.Kind∧t.Kind≤8) (hn:t.Kids.length≤200000) {l:List Int} {a N:Nat} (ha:a < l.length) (hl:l.length≤131072) (k:Nat) :
  (Zl (k+1)).1 ⟨zs l N,(l.length:Int)⟩ (a:Int) t=((Zl k).2.1 ⟨zs (Jo l (a:Int) (hdL t l a)) N,((l.length+rmL (t.Kind - 2) t.Kids.length:Nat):Int)⟩ (l.length:Int) t).bind fun y=>some ⟨y.words,y.next⟩:=by
 rw [Yi9]
 unfold Q6
 have hr:rmL (t.Kind - 2) t.Kids.length≤t.Kids.length:=by
  unfold rmL
  split
  ·exact Nat.le_refl _
  exact Z57 (by omega) _
 rw [Vt (by omega),cond_false,Ylk h2,Option.bind_some,Ylm (by omega) hn,Option.bind_some]
 simp only
 rw [Vt (a:=2) (b:=1) (by decide),cond_false,cond_false,Option.bind_some,Yn (x:=(l.length:Int) - (a:Int)) (by omega) (by omega),Yn (by omega) (by omega),Yl7 (by omega) (by omega) (by omega) (by omega) (by omega) (by omega),Option.bind_some,Yk9 ha,Option.bind_some,Yb3 ha,Yn (by omega) (by omega)]
 rfl
theorem Z9r {t:Tr} (h8:t.Kind=8) (hn:t.Kids.length≤200000) (hk:∀ x∈t.Kids,Sim x∧0≤sz x) (l:List Int) (a:Nat) (ha:a < l.length) (hs:(l.length:Int)+sz t≤131072) :
  ly t l a=lyK l.length t.Kids (Jo l (a:Int) (hdL t l a)++List.replicate t.Kids.length 0)∧((ly t l a).length:Int)=l.length+sz t∧(∀ j,SizeOf.sizeOf t < j→Y6 j l (a:Int) t=some (ly t l a)) ∧
  (∀ N k:Nat,(l.length:Int)+sz t≤N→N≤131072→4 * SizeOf.sizeOf t < k→(Zl k).1 ⟨zs l N,(l.length:Int)⟩ (a:Int) t=some ⟨zs (ly t l a) N,((ly t l a).length:Int)⟩):=by
 have es:sz t=(t.Kids.length:Int)+(t.Kids.map sz).sum:=by rw [Znw,if_neg (by omega),if_neg (by omega),if_pos h8]
 have s0:=Gm (f:=sz) (xs:=t.Kids) fun y hy=>(hk y hy).2
 have l1:=Q0 l (a:Int) (hdL t l a)
 have l2:(Jo l (a:Int) (hdL t l a)++List.replicate t.Kids.length 0).length=l.length+t.Kids.length:=by rw [List.length_append,Q0,List.length_replicate]
 have hb:l.length+t.Kids.length≤(Jo l (a:Int) (hdL t l a)++List.replicate t.Kids.length 0).length:=by omega
 have hs2:((Jo l (a:Int) (hdL t l a)++List.replicate t.Kids.length 0).length:Int)+(t.Kids.map sz).sum≤131072:=by omega
 have len:=Ztn hk hb hs2
 refine Z24 (by rw [len];omega) (fun j hj => ?_) (fun N k hN hN2 hkk => ?_)
 ·unfold Q2
  rw [Vt (by omega),cond_false,Vt (by omega),cond_false,Zjp h8,cond_true,Zhf (x:=(t.Kids.length:Int)) (by omega) (by omega),Zhf (x:=8 * _) (by omega) (by omega),Zhf (by omega) (by omega),Zuu (by omega) (by omega) (by omega) (by omega) (by decide) (by decide) (by omega) (by omega),Option.bind_some,Z1s ha,Option.bind_some]
  have ev:((l.length:Int) - (a:Int) - 1) % 1073741824 * 4+1+(6+8 * (t.Kids.length:Int)) * 4294967296=hdL t l a:=by unfold hdL;rw [h8];omega
  rw [ev,Yax (by omega),Option.bind_some]
  have:=Ygp hk hb hs2 j (Zb1 (Y6 j) l t) (fun x hx=>by have:=Xs hx;omega) (fun i s x s' hi hx hm hq=>by
   unfold Zb1
   simp only
   have e:IntKind.i64.wrap ((l.length:Int)+(i:Int))=((l.length+i:Nat):Int):=by rw [Yn (by omega) (by omega)];omega
   rw [V0 hi,cond_true,Ym hx,Option.bind_some,e,hq,Option.bind_some]) (fun s=>by
   unfold Zb1
   simp only
   rw [Vu,cond_false])
  rw [this,Option.bind_some]
 rw [Z2n (by omega) hn ha (by omega),Yja]
 unfold Qd
 simp only
 rw [Vt (by omega),cond_false,Zjp h8,cond_true]
 have e0:rmL (t.Kind - 2) t.Kids.length=t.Kids.length:=by unfold rmL;rw [if_pos (by omega)]
 have:=Ygo hk hb hs2 N (k+1) (by omega) hN2 (fun x hx=>by have:=Xs hx;omega)
 rw [Z8p (by omega),l2] at this
 rw [e0,this]
 rfl
theorem Z9p {t:Tr} (h2:2≤t.Kind∧t.Kind≤7) (hn:t.Kids.length≤200000) (hat:∀ k∈t.Kids,∃ w,k.Words=[w]∧0≤w∧w < 18446744073709551616∧Zfx (t.Kind - 2) w=true) (l:List Int) (a:Nat) (ha:a < l.length) (hs:(l.length:Int)+sz t≤131072) :
  ly t l a=Jo l (a:Int) (hdL t l a)++Zr7 (t.Kind - 2) (ato t)∧((ly t l a).length:Int)=l.length+sz t∧(∀ j,SizeOf.sizeOf t < j→Y6 j l (a:Int) t=some (ly t l a)) ∧
  (∀ N k:Nat,(l.length:Int)+sz t≤N→N≤131072→4 * SizeOf.sizeOf t < k→(Zl k).1 ⟨zs l N,(l.length:Int)⟩ (a:Int) t=some ⟨zs (ly t l a) N,((ly t l a).length:Int)⟩):=by
 have es:sz t=((rmL (t.Kind - 2) t.Kids.length:Nat):Int):=by
  rw [Znw,if_neg (by omega),if_pos h2]
  unfold Zql rmL
  rw [if_neg (by omega)]
 have hr:rmL (t.Kind - 2) t.Kids.length≤t.Kids.length:=by
  unfold rmL
  rw [if_neg (by omega)]
  exact Z57 (by omega) _
 have l1:=Q0 l (a:Int) (hdL t l a)
 have hp:(Zr7 (t.Kind - 2) (ato t)).length=rmL (t.Kind - 2) t.Kids.length:=by
  have:=(Yed (c:=t.Kind - 2) (by omega) (ns:=ato t) (by rw [Zyu];omega) (fun n hn=>by
   obtain ⟨k,hk,rfl⟩:=List.mem_map.1 hn
   obtain ⟨w,hw,h0,_,h1⟩:=hat k hk
   rw [hw]
   exact ⟨h0,h1⟩)).2
  rw [this,Zyu]
  unfold rmL
  rw [if_neg (by omega)]
 have l2:(Jo l (a:Int) (hdL t l a)++Zr7 (t.Kind - 2) (ato t)).length=l.length+rmL (t.Kind - 2) t.Kids.length:=by rw [List.length_append,Q0,hp]
 refine Z24 (by rw [l2];omega) (fun j hj => ?_) (fun N k hN hN2 hkk => ?_)
 ·unfold Q2
  rw [Vt (by omega),cond_false,Vt (by omega),cond_false,Vt (by omega),cond_false,Vt (by omega),cond_false,Yfy (by omega) (fun k hk=>by obtain ⟨w,a,b,_,c⟩:=hat k hk;exact ⟨w,a,b,c⟩),Option.bind_some,Yn (x:=t.Kind - 2) (by omega) (by omega),Yhy (by omega) (by rw [Zyu];omega) (fun n hn=>by
   obtain ⟨k,hk,rfl⟩:=List.mem_map.1 hn
   obtain ⟨w,hw,h0,h1,h2⟩:=hat k hk
   rw [hw]
   exact ⟨h0,h1,h2⟩),Option.bind_some,Zhf (x:=t.Kind - 2) (by omega) (by omega),Zhf (x:=(t.Kids.length:Int)) (by omega) (by omega),Zhf (x:=8 * _) (by omega) (by omega),Zhf (by omega) (by omega),Zuu (by omega) (by omega) (by omega) (by omega) (by decide) (by decide) (by omega) (by omega),Option.bind_some,Z1s ha,Option.bind_some]
  have ev:((l.length:Int) - (a:Int) - 1) % 1073741824 * 4+1+(t.Kind - 2+8 * (t.Kids.length:Int)) * 4294967296=hdL t l a:=by unfold hdL;omega
  simp only
  rw [ev,Zgh (by omega) (by omega)]
  rfl
 rw [Z2n (by omega) hn ha (by omega),Yja]
 unfold Qd
 simp only
 rw [Vt (by omega),cond_false,Vt (by omega),cond_false,Vt (by omega),cond_false,Z3h (by omega),Zcs (by omega),Option.bind_some,Ybe h2 (by omega) (fun k hk=>by obtain ⟨w,a,b,_,c⟩:=hat k hk;exact ⟨w,a,b,c⟩),Option.bind_some,Option.bind_some]
 have:=Yb2 (l:=Jo l (a:Int) (hdL t l a)) (ys:=Zr7 (t.Kind - 2) (ato t)) (N:=N) (by omega)
 rw [l1] at this
 simp only
 rw [this,l2]
theorem Ylu {l:List Int} {N:Nat} (v:Int) (h:l.length < N):Jo (zs l N) (l.length:Int) v=zs (l++[v]) N:=by
 unfold zs Jo
 rw [Int.toNat_natCast,List.set_append_right _ _ (Nat.le_refl _),Nat.sub_self,List.length_append,List.length_singleton,List.append_assoc]
 congr 1
 obtain ⟨m,hm⟩:∃ m,N - l.length=m+1:=⟨N - l.length - 1,by omega⟩
 have:N - (l.length+1)=m:=by omega
 rw [hm,this,List.replicate_succ,List.set_cons_zero]
 rfl
def cpW (W K:Nat) (ks:List Tr) (l:List Int):List Int:=Zbx (fun s _ x=>s++x.Words++List.replicate (W+K - x.Words.length) 0) l 0 ks
noncomputable def cpK (W K b:Nat) (ks:List Tr) (l:List Int):List Int:=Zbx (fun s i x=>lyK (b+i * (W+K)+W) x.Kids s) l 0 ks
def hd9 (t:Tr) (W K:Nat) (l:List Int) (a:Nat):Int:=((l.length:Int) - a - 1) % 1073741824 * 4+1+7 * 4294967296+((t.Kids.length * (W+K):Nat):Int) * 34359738368
def Zpx (t:Tr) (W K:Nat):Int:=(t.Kids.length:Int) * 4+(W:Int) * 4294967296+(K:Int) * 281474976710656
theorem Zg9 {i n m:Nat} (h:i < n):i * m+m≤n * m:=by
 have:=Nat.mul_le_mul_right m (show i+1≤n by omega)
 rwa [Nat.add_mul,Nat.one_mul] at this
theorem Ycc {W K:Nat} {ks:List Tr} (hw:∀ x∈ks,x.Words.length≤W) (l:List Int):(cpW W K ks l).length=l.length+ks.length * (W+K) :=
 Zyw (f:=fun (s:List Int) _ (x:Tr)=>s++x.Words++List.replicate (W+K - x.Words.length) 0) (fun i s=>s.length=l.length+i * (W+K)) ks (fun i s x hi hx hm hI=>by
  have:=hw x hm
  rw [List.length_append,List.length_append,List.length_replicate,hI,Nat.add_mul,Nat.one_mul]
  omega) (s:=l) (by omega)
def szK (k:Tr):Int:=(k.Kids.map sz).sum
theorem Z9o {t:Tr} (h9:t.Kind=9) (hn:t.Kids.length≤200000) {W K:Nat} (hf:fr t.Kids=((W:Int),(K:Int))) (hW:W≤65535) (hK:K≤65535) (hwk:∀ x∈t.Kids,x.Words.length≤W∧x.Kids.length≤K)
  (hk:∀ x∈t.Kids,∀ y∈x.Kids,Sim y∧0≤sz y) (es:sz t=1+((t.Kids.length * (W+K):Nat):Int)+(t.Kids.map szK).sum) (l:List Int) (a:Nat) (ha:a < l.length) (hs:(l.length:Int)+sz t≤131072) :
  ly t l a=cpK W K (l.length+1) t.Kids (cpW W K t.Kids (Jo l (a:Int) (hd9 t W K l a)++[Zpx t W K]))∧((ly t l a).length:Int)=l.length+sz t∧(∀ j,SizeOf.sizeOf t < j→Y6 j l (a:Int) t=some (ly t l a)) ∧
  (∀ N k:Nat,(l.length:Int)+sz t≤N→N≤131072→4 * SizeOf.sizeOf t < k→(Zl k).1 ⟨zs l N,(l.length:Int)⟩ (a:Int) t=some ⟨zs (ly t l a) N,((ly t l a).length:Int)⟩):=by
 have hq:∀ x∈t.Kids,0≤szK x:=fun x hx=>Gm fun y hy=>(hk x hx y hy).2
 have s0:=Gm (f:=szK) (xs:=t.Kids) hq
 have hc:t.Kids.length * (W+K)≤131072:=by omega
 have ec:IntKind.i64.wrap ((t.Kids.length:Int) * (IntKind.i64.wrap ((W:Int)+(K:Int))))=((t.Kids.length * (W+K):Nat):Int):=by
  rw [Yn (x:=(W:Int)+_) (by omega) (by omega),← Int.natCast_add,← Int.natCast_mul,Yn (by omega) (by omega)]
 have ei:∀ i:Nat,i < t.Kids.length→IntKind.i64.wrap ((IntKind.i64.wrap ((l.length:Int)+1))+(IntKind.i64.wrap ((i:Int) * (IntKind.i64.wrap ((W:Int)+(K:Int))))))=((l.length+1+i * (W+K):Nat):Int):=fun i hi=>by
  have:=Zg9 (m:=W+K) hi
  rw [Yn (x:=(W:Int)+_) (by omega) (by omega),← Int.natCast_add,← Int.natCast_mul,Yn (x:=(l.length:Int)+1) (by omega) (by omega),Yn (x:=((i * (W+K):Nat):Int)) (by omega) (by omega),Yn (by omega) (by omega)]
  omega
 have l1:=Q0 l (a:Int) (hd9 t W K l a)
 have l3:(Jo l (a:Int) (hd9 t W K l a)++[Zpx t W K]).length=l.length+1:=by rw [List.length_append,l1];rfl
 have l4:(cpW W K t.Kids (Jo l (a:Int) (hd9 t W K l a)++[Zpx t W K])).length=l.length+1+t.Kids.length * (W+K):=by rw [Ycc (fun x hx=>(hwk x hx).1),l3]
 generalize hL4:cpW W K t.Kids (Jo l (a:Int) (hd9 t W K l a)++[Zpx t W K])=L4 at *
 have kst:∀ (i:Nat) (s:List Int) (x:Tr),i < t.Kids.length→t.Kids[i]? = some x→x∈t.Kids→(s.length:Int)=L4.length+((t.Kids.take i).map szK).sum →
   l.length+1+i * (W+K)+W+x.Kids.length≤s.length∧(s.length:Int)+(x.Kids.map sz).sum≤l.length+sz t∧((lyK (l.length+1+i * (W+K)+W) x.Kids s).length:Int)=L4.length+((t.Kids.take (i+1)).map szK).sum:=fun i s x hi hx hm hI=>by
  obtain ⟨h1,h2⟩:=Yah (f:=szK) hx hq
  have h3:=Gm (f:=szK) (xs:=t.Kids.take i) fun y hy=>hq y (List.mem_of_mem_take hy)
  have h4:=Zg9 (m:=W+K) hi
  have h5:=(hwk x hm).2
  have h8:szK x=(x.Kids.map sz).sum:=rfl
  have h6:l.length+1+i * (W+K)+W+x.Kids.length≤s.length:=by omega
  have h7:=Ztn (ks:=x.Kids) (hk x hm) h6 (by omega)
  exact ⟨h6,by omega,by omega⟩
 have len:((cpK W K (l.length+1) t.Kids L4).length:Int)=l.length+sz t:=by
  have:=Zyw (f:=fun (s:List Int) i (x:Tr)=>lyK (l.length+1+i * (W+K)+W) x.Kids s) (fun i s=>(s.length:Int)=L4.length+((t.Kids.take i).map szK).sum) t.Kids (fun i s x hi hx hm hI=>(kst i s x hi hx hm hI).2.2) (s:=L4) (by simp)
  rw [List.take_length] at this
  unfold cpK
  omega
 refine Z24 len (fun j hj => ?_) (fun N k hN hN2 hkk => ?_)
 ·unfold Q2
  rw [Vt (by omega),cond_false,Vt (by omega),cond_false,Vt (by omega),cond_false,Zjp h9,cond_true,Z4f (by omega),Option.bind_some,hf]
  simp only
  rw [ec,Zhf (x:=((t.Kids.length * (W+K):Nat):Int)) (by omega) (by omega),Zhf (x:=8 * _) (by omega) (by omega),Zhf (x:=7+_) (by omega) (by omega),Zuu (by omega) (by omega) (by omega) (by omega) (by decide) (by decide) (by omega) (by omega),Option.bind_some,Z1s ha,Option.bind_some]
  have ev:((l.length:Int) - (a:Int) - 1) % 1073741824 * 4+1+(7+8 * ((t.Kids.length * (W+K):Nat):Int)) * 4294967296=hd9 t W K l a:=by unfold hd9;omega
  rw [ev,Yn (x:=4 * (t.Kids.length:Int)) (by omega) (by omega),Zhf (x:=4 * (t.Kids.length:Int)) (by omega) (by omega),Zhf (x:=(W:Int)) (by omega) (by omega),Zhf (x:=(K:Int)) (by omega) (by omega),Zhf (x:=65536 * _) (by omega) (by omega),Zhf (x:=(W:Int)+_) (by omega) (by omega),Zhf (x:=4294967296 * _) (by omega) (by omega),Zhf (x:=4 * (t.Kids.length:Int)+_) (by omega) (by omega)]
  have et:4 * (t.Kids.length:Int)+4294967296 * ((W:Int)+65536 * (K:Int))=Zpx t W K:=by unfold Zpx;omega
  rw [et,Zgh (by rw [l1];simp only [List.length_singleton];omega) (by rw [l1];simp only [List.length_singleton];omega),Option.bind_some]
  have a1:=(Zj5 t.Kids (fun i s=>(i,s)) (fun s=>s) (Zb2 t ((W:Int),(K:Int))) (fun (s:List Int) _ (x:Tr)=>s++x.Words++List.replicate (W+K - x.Words.length) 0) (fun i s=>s.length=l.length+1+i * (W+K)) (by omega) (fun i s x hi hx hm hI=>by
   have h5:=(hwk x hm).1
   have h4:=Zg9 (m:=W+K) hi
   refine ⟨?_,by rw [List.length_append,List.length_append,List.length_replicate,hI,Nat.add_mul,Nat.one_mul];omega⟩
   unfold Zb2
   simp only
   have e:IntKind.i64.wrap (IntKind.i64.wrap ((W:Int)+(K:Int)) - (x.Words.length:Int))=((W+K - x.Words.length:Nat):Int):=by rw [Yn (x:=(W:Int)+_) (by omega) (by omega),Yn (by omega) (by omega)];omega
   rw [V0 hi,cond_true,Ym hx,Option.bind_some,Zgh (by omega) (by omega),Option.bind_some,Option.bind_some,e,Yax (by rw [List.length_append];omega),Option.bind_some]) (fun s _=>by
   unfold Zb2
   simp only
   rw [Vu,cond_false]) (Jo l (a:Int) (hd9 t W K l a)++[Zpx t W K]) (by rw [l3];omega)).1
  unfold cpW at hL4
  rw [a1,Option.bind_some,hL4]
  have a2:=(Zj5 t.Kids (fun i s=>(i,s)) (fun s=>s) (Zb3 (Y6 j) l t ((W:Int),(K:Int))) (fun (s:List Int) i (x:Tr)=>lyK (l.length+1+i * (W+K)+W) x.Kids s) (fun i s=>(s.length:Int)=L4.length+((t.Kids.take i).map szK).sum) (by omega) (fun i s x hi hx hm hI=>by
   obtain ⟨b1,b2,b3⟩:=kst i s x hi hx hm hI
   refine ⟨?_,b3⟩
   have b5:0≤(x.Kids.map sz).sum:=hq x hm
   have b4:=Ygp (ks:=x.Kids) (hk x hm) b1 (by omega) j (Zb4 (Y6 j) l t ((W:Int),(K:Int)) ((i:Int),s)) (fun y hy=>by have:=Xs hm;have:=Xs hy;omega) (fun i' s' y s'' hi' hy hm' hq=>by
    unfold Zb4
    simp only
    have e:IntKind.i64.wrap (IntKind.i64.wrap (((l.length+1+i * (W+K):Nat):Int)+(W:Int))+(i':Int))=((l.length+1+i * (W+K)+W+i':Nat):Int):=by rw [Yn (x:=_+(W:Int)) (by omega) (by omega),Yn (by omega) (by omega)];omega
    rw [Ym hx,Option.bind_some,V0 hi',cond_true,Option.bind_some,Ym hy,Option.bind_some,ei i hi,e,hq,Option.bind_some]) (fun s'=>by
    unfold Zb4
    simp only
    rw [Ym hx,Option.bind_some,Vu,cond_false])
   unfold Zb3
   simp only
   rw [V0 hi,cond_true,b4,Option.bind_some]) (fun s _=>by
   unfold Zb3
   simp only
   rw [Vu,cond_false]) L4 (by simp)).1
  rw [a2]
  rfl
 rw [Yi9]
 unfold Q6
 have e1:Uc t=some (⟨2,0,0,0,7,((t.Kids.length * (W+K):Nat):Int),0,false⟩:Ye):=by
  unfold Uc
  rw [Vt (by omega),cond_false,Zjp h9,cond_true,Z1m (by omega),Option.bind_some,hf]
  simp only
  rw [ec]
 have e2:Qg (⟨2,0,0,0,7,((t.Kids.length * (W+K):Nat):Int),0,false⟩:Ye)=some (((t.Kids.length * (W+K):Nat):Int)+1,true):=by
  unfold Qg
  simp only
  rw [Vt (a:=2) (b:=1) (by decide),cond_false,Zjp (a:=2) (b:=2) rfl,cond_true,Zjp (a:=7) (b:=7) rfl,cond_true,Yn (by omega) (by omega)]
 rw [Vt (by omega),cond_false,e1,Option.bind_some,e2,Option.bind_some]
 simp only
 rw [Vt (a:=2) (b:=1) (by decide),cond_false,cond_false,Option.bind_some,Yn (x:=(l.length:Int) - (a:Int)) (by omega) (by omega),Yn (by omega) (by omega),Yl7 (by omega) (by omega) (by omega) (by omega) (by omega) (by omega),Option.bind_some,Yk9 ha,Option.bind_some,Yb3 ha,Yn (by omega) (by omega)]
 have ev:((l.length:Int) - (a:Int) - 1) % 1073741824 * 4+1+7 * 4294967296+((t.Kids.length * (W+K):Nat):Int) * 34359738368=hd9 t W K l a:=by unfold hd9;rfl
 simp only
 rw [ev,Yja]
 unfold Qd
 simp only
 rw [Vt (by omega),cond_false,Vt (by omega),cond_false,Zjp h9,cond_true,Ypw]
 unfold Vw
 rw [Z1m (by omega),Option.bind_some,hf]
 simp only
 have ez:(cond (decide (0 < (t.Kids.length:Int))) ((Ue (⟨1,(t.Kids.length:Int),(W:Int),(K:Int),0,0,0,false⟩:Ye)).bind fun y4=>(Xd (zs (Jo l (a:Int) (hd9 t W K l a)) N) (l.length:Int)).bind fun x5=>some (Jo (zs (Jo l (a:Int) (hd9 t W K l a)) N) (l.length:Int) y4.1)) (some (zs (Jo l (a:Int) (hd9 t W K l a)) N)))=some (zs (Jo l (a:Int) (hd9 t W K l a)++[Zpx t W K]) N):=by
  by_cases q:0 < t.Kids.length
  ·have g:Xd (zs (Jo l (a:Int) (hd9 t W K l a)) N) (l.length:Int)=some (zs (Jo l (a:Int) (hd9 t W K l a)) N)[l.length]! := by
    have:l.length < (zs (Jo l (a:Int) (hd9 t W K l a)) N).length:=by rw [Z3h (by omega)];omega
    rw [Z1s this,List.getElem!_eq_getElem?_getD,List.getElem?_eq_getElem this]
    rfl
   rw [decide_eq_true (by omega),cond_true,Yl8 (by omega) (by omega) (by omega) (by omega) (by omega) (by omega) (by omega),Option.bind_some,g,Option.bind_some]
   have:=Ylu (N:=N) (l:=Jo l (a:Int) (hd9 t W K l a)) (Zpx t W K) (by omega)
   rw [l1] at this
   rw [← this]
   congr 2
   unfold Zpx
   omega
  have q0:t.Kids=[]:=List.length_eq_zero_iff.1 (by omega)
  rw [q0] at hf
  have hW0:W=0∧K=0:=by
   have:((0:Int),(0:Int))=((W:Int),(K:Int)):=hf
   rw [Prod.mk.injEq] at this
   omega
  have t0:Zpx t W K=0:=by unfold Zpx;rw [hW0.1,hW0.2,q0];rfl
  rw [decide_eq_false (by omega),cond_false,t0]
  have:=Z8p (N:=N) (n:=1) (l:=Jo l (a:Int) (hd9 t W K l a)) (by omega)
  rw [List.replicate_one] at this
  rw [this]
 rw [ez,Option.bind_some]
 have a1:=(Zj5 t.Kids (fun i s=>(i,zs s N)) (fun s=>zs s N) (Kf (l.length:Int) t ((W:Int),(K:Int))) (fun (s:List Int) _ (x:Tr)=>s++x.Words++List.replicate (W+K - x.Words.length) 0) (fun i s=>s.length=l.length+1+i * (W+K)) (by omega) (fun i s x hi hx hm hI=>by
  have h5:=(hwk x hm).1
  have h4:=Zg9 (m:=W+K) hi
  refine ⟨?_,by rw [List.length_append,List.length_append,List.length_replicate,hI,Nat.add_mul,Nat.one_mul];omega⟩
  unfold Kf
  simp only
  rw [V0 hi,cond_true,Ym hx,Option.bind_some,ei i hi,Z3h (by omega),Zcs (by omega),Option.bind_some,← hI,Yb2 (by omega),Z8p (by rw [List.length_append];omega)]) (fun s _=>by
  unfold Kf
  simp only
  rw [Vu,cond_false]) (Jo l (a:Int) (hd9 t W K l a)++[Zpx t W K]) (by rw [l3];omega)).1
 unfold cpW at hL4
 rw [a1,Option.bind_some,hL4]
 have a2:=(Zj5 t.Kids (fun i s=>(i,zs s N,(s.length:Int))) (fun s=>(zs s N,(s.length:Int))) (Kg (Zl (k+1)).2.2.1 (l.length:Int) t ((W:Int),(K:Int))) (fun (s:List Int) i (x:Tr)=>lyK (l.length+1+i * (W+K)+W) x.Kids s) (fun i s=>(s.length:Int)=L4.length+((t.Kids.take i).map szK).sum) (by omega) (fun i s x hi hx hm hI=>by
  obtain ⟨b1,b2,b3⟩:=kst i s x hi hx hm hI
  refine ⟨?_,b3⟩
  have b5:0≤(x.Kids.map sz).sum:=hq x hm
  have h4:=Zg9 (m:=W+K) hi
  have b4:=Ygo (ks:=x.Kids) (hk x hm) b1 (by omega) N k (by omega) hN2 (fun y hy=>by have:=Xs hm;have:=Xs hy;omega)
  unfold Kg
  simp only
  have e:IntKind.i64.wrap (((l.length+1+i * (W+K):Nat):Int)+(W:Int))=((l.length+1+i * (W+K)+W:Nat):Int):=by rw [Yn (by omega) (by omega)];omega
  rw [V0 hi,cond_true,Ym hx,Option.bind_some,ei i hi,e,b4,Option.bind_some]) (fun s _=>by
  unfold Kg
  simp only
  rw [Vu,cond_false]) L4 (by simp)).1
 have e6:(l.length:Int)+(((t.Kids.length * (W+K):Nat):Int)+1)=(L4.length:Int):=by omega
 rw [e6,a2]
 rfl
theorem Z9q {t:Tr} (h0:t.Kind=0) (l:List Int) (a:Nat):ly t l a=l:=by
 unfold ly
 show Option.getD (Q2 (Y6 (SizeOf.sizeOf t)) l (a:Int) t) []=l
 unfold Q2
 rw [Zjp h0,cond_true]
 rfl
theorem Zq8 {kind:Int} {k:Tr} (h:¬ (2≤kind∧kind≤7)) (hk:okk kind k=true):¬ k.Kind=10∧(kind=9→k.Kind=1):=by
 unfold okk at hk
 rw [if_neg h,Bool.and_eq_true,bne_iff_ne,Bool.or_eq_true,bne_iff_ne,beq_iff_eq] at hk
 exact ⟨hk.1,fun h9=>by rcases hk.2 with h | h;exact absurd h9 h;exact h⟩
theorem Z94 {kind:Int} {k:Tr} {d:Nat} (h:2≤kind∧kind≤7) (hb:Bd k) (hr:rt k d=true) (hk:okk kind k=true):∃ w,k.Words=[w]∧0≤w∧w < 18446744073709551616∧Zfx (kind - 2) w=true:=by
 unfold okk at hk
 rw [if_pos h,Bool.and_eq_true,beq_iff_eq] at hk
 obtain ⟨w,hw⟩:=Zxt hk.1 hr
 have hu:=hb.u w (by rw [hw];exact .head _)
 refine ⟨w,hw,hu.1,hu.2,?_⟩
 have:=hk.2
 rwa [hw] at this
structure Fine (t:Tr) (d:Nat):Prop where
 bd:Bd t
 rt:rt t d=true
 pt:pt t≤200000
theorem Fine.kid {t x:Tr} {d:Nat} (h:Fine t d) (hx:x∈t.Kids):Fine x (d - 1):=⟨h.bd.all x hx,(Zdn h.rt).2.2.2.2 x hx,by have:=h.pt;have:=Z54 hx;omega⟩
theorem Z1j {t:Tr} {d:Nat} (h:Fine t d) (h9:t.Kind=9):∃ W K:Nat,fr t.Kids=((W:Int),(K:Int))∧W≤65535∧K≤65535∧(∀ x∈t.Kids,x.Words.length≤W∧x.Kids.length≤K)∧sz t=1+((t.Kids.length * (W+K):Nat):Int)+(t.Kids.map szK).sum:=by
 have p:=h.pt
 have pk:=Zz3 t
 obtain ⟨e,_,_,f0,f1,f2,f3,f4⟩:=Yki (l:=t.Kids) (by omega) (fun x hx=>by
  obtain ⟨r1,r2⟩:=(Zlm h.rt (by omega) (by omega)).2.2.2 x hx
  have k1:=(Zq8 (by omega) r2).2 h9
  obtain ⟨a1,a2,_⟩:=Zlm r1 (by omega) (by omega)
  have:=a2 k1
  omega)
 obtain ⟨W,hW⟩:=Int.eq_ofNat_of_zero_le f0
 obtain ⟨K,hK⟩:=Int.eq_ofNat_of_zero_le f2
 rw [hW] at f1
 rw [hK] at f3
 refine ⟨W,K,Prod.ext hW hK,by omega,by omega,fun x hx => ?_,?_⟩
 ·have:=f4 x hx
  rw [hW,hK] at this
  omega
 rw [Znw,if_neg (by omega),if_neg (by omega),if_neg (by omega),if_pos h9,e,hW,hK,← Int.natCast_add,← Int.natCast_mul]
 rfl
theorem Zz8:∀ (n:Nat) (t:Tr) (d:Nat),SizeOf.sizeOf t < n→Fine t d→¬ t.Kind=10→Sim t
 | 0,_,_,h,_,_=>by omega
 | n+1,t,d,h,hf,h10=>by
  have p:=hf.pt
  have pk:=Zz3 t
  obtain ⟨g1,g2,_⟩:=Zdn hf.rt
  by_cases h0:t.Kind=0
  ·exact Yh6 h0
  obtain ⟨i1,i2,i3,i4⟩:=Zlm hf.rt h0 h10
  have hk:¬ (2≤t.Kind∧t.Kind≤7)→∀ x∈t.Kids,Sim x∧0≤sz x:=fun hn x hx =>
   ⟨Zz8 n x (d - 1) (by have:=Xs hx;omega) (hf.kid hx) (Zq8 hn (i4 x hx).2).1,(Z4l (hf.kid hx).rt (hf.kid hx).pt).1⟩
  by_cases h1:t.Kind=1
  ·exact fun l a ha hs=>(Z1x h1 i1 (i2 h1) (hk (by omega)) l a ha hs).2
  by_cases h2:2≤t.Kind∧t.Kind≤7
  ·exact fun l a ha hs=>(Z9p h2 (by omega) (fun k hk=>Z94 h2 (hf.bd.all k hk) (hf.kid hk).rt (i4 k hk).2) l a ha hs).2
  by_cases h8:t.Kind=8
  ·exact fun l a ha hs=>(Z9r h8 (by omega) (hk (by omega)) l a ha hs).2
  have h9:t.Kind=9:=by omega
  obtain ⟨W,K,e1,e2,e3,e4,e5⟩:=Z1j hf h9
  exact fun l a ha hs=>(Z9o h9 (by omega) e1 e2 e3 e4 (fun x hx y hy=>by
   have k1:=(Zq8 (by omega) (i4 x hx).2).2 h9
   have j4:=(Zlm (hf.kid hx).rt (by omega) (by omega)).2.2.2 y hy
   have fy:=(hf.kid hx).kid hy
   exact ⟨Zz8 n y (d - 1 - 1) (by have:=Xs hx;have:=Xs hy;omega) fy (Zq8 (by omega) j4.2).1,(Z4l fy.rt fy.pt).1⟩) e5 l a ha hs).2
theorem Fine.nrm {t:Tr} {d:Nat} (h:Fine t d):Fine (nrm t) d:=⟨h.bd.nrm,rtN h.rt,Nat.le_trans (Yc2 _ t (Nat.lt_succ_self _)) h.pt⟩
noncomputable def enc (t:Tr) (most:Int):List Int×Bool:=if t.Kind=10∨rt t 64=false then ([],false) else if most≤sz (nrm t)∨131072≤sz (nrm t) then ([],false) else (ly (nrm t) [0] 0,true)
theorem Ykl {t:Tr} (hf:Fine t 64) (h10:¬ t.Kind=10) (hs:sz t < 131072):((ly t [0] 0).length:Int)=1+sz t∧Znb [0] 0 t=some (ly t [0] 0)∧(Zke 8 (IntKind.i64.wrap (1+sz t)) (0:Int)).bind (fun l11=>(Zb8 (⟨l11,1⟩:Ze) 0 t).bind fun y13=>some (y13.words,true))=some (ly t [0] 0,true):=by
 have s0:=(Z4l hf.rt hf.pt).1
 obtain ⟨a,b,c⟩:=Zz8 _ t 64 (Nat.lt_succ_self _) hf h10 [0] 0 (by decide) (by simp only [List.length_singleton];omega)
 simp only [List.length_singleton] at a c
 refine ⟨by omega,Zeg (SizeOf.sizeOf t+1) fun k hk=>b k (by omega),?_⟩
 have e:Zb8 (⟨zs [0] (1+sz t).toNat,1⟩:Ze) 0 t=some ⟨zs (ly t [0] 0) (1+sz t).toNat,((ly t [0] 0).length:Int)⟩:=Zeg (4 * SizeOf.sizeOf t+1) fun k hk=>c (1+sz t).toNat k (by omega) (by omega) (by omega)
 have e2:List.replicate (1+sz t).toNat (0:Int)=zs [0] (1+sz t).toNat:=by
  unfold zs
  obtain ⟨m,hm⟩:∃ m,(1+sz t).toNat=m+1:=⟨(sz t).toNat,by omega⟩
  rw [hm,List.replicate_succ]
  rfl
 have e3:zs (ly t [0] 0) (1+sz t).toNat=ly t [0] 0:=by
  unfold zs
  rw [show (1+sz t).toNat - (ly t [0] 0).length=0 by omega,List.replicate_zero,List.append_nil]
 rw [Yn (by omega) (by omega),Zqb (by omega) (by omega) (by omega),Option.bind_some,e2,e,Option.bind_some,e3]
theorem Yeq {t:Tr} (hb:Bd t) (hp:pt t≤200000) (most:Int):Ze4 t most=some (enc t most)∧Zkd t most=some (enc t most)∧(((enc t most).1.length:Nat):Int)≤131072:=by
 unfold Ze4 Zkd enc
 rw [Z2v hb,Option.bind_some,show ((64:Int))=((64:Nat):Int) from rfl,Zrk hb (Nat.le_refl _),Option.bind_some]
 by_cases h10:t.Kind=10
 ·rw [if_pos (.inl h10),Zjp h10]
  simp
 cases hr:rt t 64 with
 | false =>
  rw [if_pos (.inr rfl),Vt h10]
  simp
 | true =>
  have hf:Fine (nrm t) 64:=Fine.nrm ⟨hb,hr,hp⟩
  have hn:=Z4l hf.rt hf.pt
  rw [if_neg (by simp [h10]),Vt h10]
  simp only [cond_false,cond_true,Bool.not_true,Option.bind_some]
  rw [Ycv hb,Yhx hb,Option.bind_some,Option.bind_some,Yb4 (d:=64) hb.nrm hf.rt,Option.bind_some,Ztz,Yhz hf.rt,Option.bind_some,Option.bind_some,Yn (x:=sz (nrm t)) (by omega) (by omega),Yn (x:=1+sz (nrm t)) (by omega) (by omega)]
  by_cases q:most≤sz (nrm t)∨131072≤sz (nrm t)
  ·rw [if_pos q]
   have q1:(cond (decide (most < 1+sz (nrm t))) true (decide (131072 < 1+sz (nrm t))))=true:=by
    by_cases q2:most≤sz (nrm t)
    ·rw [decide_eq_true (by omega),cond_true]
    rw [decide_eq_false (by omega),cond_false,decide_eq_true (by omega)]
   have q2:(cond (decide (most≤sz (nrm t))) (some true) (some (cond (decide (most≤sz (nrm t))) true (decide (131072≤sz (nrm t))))))=some true:=by
    by_cases q2:most≤sz (nrm t)
    ·rw [decide_eq_true q2,cond_true]
    rw [decide_eq_false q2,cond_false,cond_false,decide_eq_true (by omega)]
   rw [q1,q2,cond_true,Option.bind_some,cond_true]
   exact ⟨rfl,rfl,by decide⟩
  rw [if_neg q]
  obtain ⟨a,b,c⟩:=Ykl hf (by rw [Ur];exact h10) (by omega)
  rw [Yn (x:=1+sz (nrm t)) (by omega) (by omega)] at c
  have q1:(cond (decide (most < 1+sz (nrm t))) true (decide (131072 < 1+sz (nrm t))))=false:=by
   rw [decide_eq_false (by omega),cond_false,decide_eq_false (by omega)]
  have q2:(cond (decide (most≤sz (nrm t))) (some true) (some (cond (decide (most≤sz (nrm t))) true (decide (131072≤sz (nrm t))))))=some false:=by
   rw [decide_eq_false (by omega),cond_false,cond_false,decide_eq_false (by omega)]
  rw [q1,q2,cond_false,Option.bind_some,cond_false,c,b]
  exact ⟨rfl,rfl,by simp only;omega⟩
def Yjl (w N:Nat) (ns:List Int) (i:Nat) (s:List Int):Prop:=Ybl w N i s∧∀ (j:Nat) (n:Int),j < i→ns[j]? = some n→(s[j * w / 64]?.getD 0) / 2 ^ (j * w % 64) % 2 ^ w=n
theorem Yfa {w N i:Nat} {ns s:List Int} {n:Int} (hw:0 < w) (hs:∀ i:Nat,i * w % 64+w≤64) (hi:i < N) (hx:ns[i]? = some n) (hI:Yjl w N ns i s) (n0:0≤n) (n1:n < 2 ^ w):Yjl w N ns (i+1) (Znq w s i n):=by
 obtain ⟨v,hv,v0,v1,v2,v3,v4⟩:=Ybk hw (hs i) hi hI.1 n0 n1
 refine ⟨v4,fun j m hj hm => ?_⟩
 have hq:i * w / 64 < s.length:=(List.getElem?_eq_some_iff.1 hv).1
 have e0:Znq w s i n=s.set (i * w / 64) (v+n * 2 ^ (i * w % 64)):=by
  unfold Znq Jo
  rw [hv,Int.toNat_natCast]
  rfl
 rw [e0,List.getElem?_set]
 have pz:∀ k:Nat,(2:Int) ^ k≠0:=fun k=>Int.ne_of_gt (Int.pow_pos (by decide))
 by_cases h:i * w / 64=j * w / 64
 ·rw [if_pos h,if_pos hq,Option.getD_some]
  by_cases hji:j=i
  ·subst hji
   rw [hx] at hm
   cases hm
   rw [Int.add_mul_ediv_right _ _ (pz _),Int.ediv_eq_zero_of_lt v0 v1,Int.zero_add,Int.emod_eq_of_lt n0 n1]
  have hlt:j < i:=by omega
  have h2:=Zg9 (m:=w) hlt
  have h3:j * w % 64+w≤i * w % 64:=by omega
  have e:n * 2 ^ (i * w % 64)=n * 2 ^ (i * w % 64 - (j * w % 64+w)) * 2 ^ w * 2 ^ (j * w % 64):=by
   rw [Int.mul_assoc,Int.mul_assoc,← Int.pow_add,← Int.pow_add]
   congr 2
   omega
  rw [e,Int.add_mul_ediv_right _ _ (pz _),Int.add_mul_emod_self_right]
  have:=hI.2 j m hlt hm
  rw [← h,hv,Option.getD_some] at this
  exact this
 rw [if_neg h]
 have hlt:j < i:=by
  rcases Nat.lt_or_ge j i with q | q
  ·exact q
  exact absurd (by rw [show j=i by omega]) h
 exact hI.2 j m hlt hm
theorem Yhq {w:Nat} (hw:0 < w) (hs:∀ i:Nat,i * w % 64+w≤64) {ns:List Int} (hf:∀ n∈ns,0≤n∧n < 2 ^ w):Yjl w ns.length ns ns.length (Zbx (Znq w) (List.replicate ((ns.length * w+63) / 64) 0) 0 ns) :=
 Zyw (f:=Znq w) (Yjl w ns.length ns) ns (fun i s x hi hx hm hI=>Yfa hw hs hi hx hI (hf x hm).1 (hf x hm).2) ⟨Ybj w ns.length,fun j n hj=>by omega⟩
structure Nm (t:Tr) (d:Nat):Prop where
 f:Fine t d
 n:nrm t=t
 k:¬ t.Kind=10
theorem Nm.kid {t x:Tr} {d:Nat} (h:Nm t d) (h0:¬ t.Kind=0) (hx:x∈t.Kids) (h10:¬ x.Kind=10):Nm x (d - 1):=by
 refine ⟨h.f.kid hx,?_,h10⟩
 have hn:=h.n
 by_cases h1:t.Kind=1
 ·rw [Zdh h1] at hn
  rw [← hn] at hx
  simp only at hx
  obtain ⟨y,_,rfl⟩:=List.mem_map.1 (Zmz hx)
  exact Ztz y
 rw [Zjv h0 h1] at hn
 rw [← hn] at hx
 simp only at hx
 obtain ⟨y,_,rfl⟩:=List.mem_map.1 hx
 exact Ztz y
theorem Nm.words {t:Tr} {d:Nat} (h:Nm t d) (h1:t.Kind=1):tr (fun x=>x == 0) t.Words=t.Words:=by
 have hn:=h.n
 rw [Zdh h1] at hn
 exact congrArg Za.Words hn
theorem Nm.kids {t:Tr} {d:Nat} (h:Nm t d) (h1:t.Kind=1):tr (fun x=>x.Kind == 0) t.Kids=t.Kids:=by
 have hn:=h.n
 rw [Zdh h1] at hn
 have:=congrArg Za.Kids hn
 simp only at this
 rw [← this,Z4n]
theorem Nm.sim {t:Tr} {d:Nat} (h:Nm t d):Sim t∧0≤sz t:=⟨Zz8 _ t d (Nat.lt_succ_self _) h.f h.k,(Z4l h.f.rt h.f.pt).1⟩
theorem Nm.okids {t:Tr} {d:Nat} (h:Nm t d) (h18:t.Kind=1∨t.Kind=8):∀ x∈t.Kids,Nm x (d - 1):=fun x hx =>
 h.kid (by omega) hx (Zq8 (by omega) ((Zlm h.f.rt (by omega) h.k).2.2.2 x hx).2).1
theorem Nm.structs {t:Tr} {d:Nat} (h:Nm t d) (h9:t.Kind=9):∀ x∈t.Kids,Nm x (d - 1)∧x.Kind=1:=fun x hx=>by
 have k1:=(Zq8 (by omega) ((Zlm h.f.rt (by omega) h.k).2.2.2 x hx).2).2 h9
 exact ⟨h.kid (by omega) hx (by omega),k1⟩
theorem Nm.null {t:Tr} {d:Nat} (h:Nm t d) (h0:t.Kind=0):t=⟨0,[],[]⟩:=by
 have:=h.n
 rwa [Zjw h0,eq_comm] at this
def Zwx (t:Tr):Prop:=∀ (l:List Int) (a:Nat),a < l.length→(l.length:Int)+sz t≤131072→∀ p,p < l.length→¬ p=a→(ly t l a)[p]? = l[p]?
theorem Zjq {α σ:Type}:∀ (xs:List α) (f:σ→Nat→α→σ) (s:σ) (k:Nat),Zbx f s k xs=Zbx (fun s i x=>f s (k+i) x) s 0 xs
 | [],f,s,k=>rfl
 | x::xs,f,s,k=>by
  show Zbx f (f s k x) (k+1) xs=Zbx (fun s i x=>f s (k+i) x) (f s (k+0) x) (0+1) xs
  rw [Zjq xs f _ (k+1),Zjq xs (fun s i x=>f s (k+i) x) _ (0+1)]
  have:(fun (s:σ) (i:Nat) (x:α)=>f s (k+(0+1+i)) x)=fun s i x=>f s (k+1+i) x:=by
   funext s i x
   rw [show k+(0+1+i)=k+1+i by omega]
  rw [this]
  rfl
theorem Z9x (b:Nat) (x:Tr) (xs:List Tr) (l:List Int):lyK b (x::xs) l=lyK (b+1) xs (ly x l b):=by
 unfold lyK
 show Zbx (fun l i x=>ly x l (b+i)) (ly x l (b+0)) (0+1) xs=_
 rw [Zjq]
 have:(fun (l:List Int) (i:Nat) (x:Tr)=>ly x l (b+(0+1+i)))=fun l i x=>ly x l (b+1+i):=by
  funext s i x
  rw [show b+(0+1+i)=b+1+i by omega]
 rw [this]
 rfl
theorem Yc0:∀ {ks:List Tr},(∀ x∈ks,(Sim x∧0≤sz x)∧Zwx x)→∀ {l:List Int} {b:Nat},b+ks.length≤l.length→(l.length:Int)+(ks.map sz).sum≤131072→∀ p,p < l.length→(p < b∨b+ks.length≤p)→(lyK b ks l)[p]? = l[p]?
 | [],_,l,b,_,_,p,_,_=>rfl
 | x::xs,hk,l,b,hb,hs,p,hp,hq=>by
  obtain ⟨⟨h1,h2⟩,h3⟩:=hk x (.head _)
  have hp2:=Gm (f:=sz) (xs:=xs) fun y hy=>(hk y (.tail _ hy)).1.2
  simp only [List.map_cons,List.sum_cons,List.length_cons] at hb hs hq
  have e:=(h1 l b (by omega) (by omega)).1
  rw [Z9x,Yc0 (fun y hy=>hk y (.tail _ hy)) (by omega) (by omega) p (by omega) (by omega),h3 l b (by omega) (by omega) p hp (by omega)]
theorem Zz7 {l:List Int} {a p:Nat} {v:Int} (ha:a < l.length):(Jo l (a:Int) v)[p]? = if a=p then some v else l[p]? := by
 unfold Jo
 rw [Int.toNat_natCast,List.getElem?_set]
 by_cases h:a=p
 ·rw [if_pos h,if_pos h,if_pos ha]
 rw [if_neg h,if_neg h]
theorem Ztb {l m:List Int} {p:Nat} (h:p < l.length):(l++m)[p]? = l[p]? := List.getElem?_append_left h
def hdS (t:Tr) (l:List Int) (a:Nat):Int:=Zt1 t l a % 1073741824 * 4+(t.Words.length:Int) * 4294967296+(t.Kids.length:Int) * 281474976710656
theorem Yjr {t:Tr} {l:List Int} {a p:Nat} (ha:a < l.length) (hp:p < l.length):(RS1 t l a)[p]? = if a=p then some (hdS t l a) else l[p]? := by
 unfold RS1
 rw [List.append_assoc,Ztb (by rw [Q0];exact hp),Zz7 ha]
 rfl
theorem Z6a (t:Tr) (l:List Int) (a:Nat):(RS1 t l a).length=l.length+t.Words.length+t.Kids.length:=by unfold RS1;rw [List.length_append,List.length_append,Q0,List.length_replicate]
theorem Yc9 {t:Tr} {d:Nat} (h:Nm t d) (h1:t.Kind=1) (hP:∀ x∈t.Kids,Zwx x) {l:List Int} {a:Nat} (ha:a < l.length) (hs:(l.length:Int)+sz t≤131072) :
  ly t l a=lyK (l.length+t.Words.length) t.Kids (RS1 t l a)∧t.Words.length < 65536∧t.Kids.length < 65536∧(∀ x∈t.Kids,(Sim x∧0≤sz x)∧Zwx x)∧((RS1 t l a).length:Int)+(t.Kids.map sz).sum≤131072 ∧
  ∀ p,p < (RS1 t l a).length→(p < l.length+t.Words.length∨l.length+t.Words.length+t.Kids.length≤p)→(ly t l a)[p]? = (RS1 t l a)[p]? := by
 obtain ⟨i1,i2,_,i4⟩:=Zlm h.f.rt (by omega) h.k
 have hk:∀ x∈t.Kids,(Sim x∧0≤sz x)∧Zwx x:=fun x hx=>⟨(h.okids (.inl h1) x hx).sim,hP x hx⟩
 have e:=(Z1x h1 i1 (i2 h1) (fun x hx=>(hk x hx).1) l a ha hs).1
 have es:sz t=((t.Words.length:Int)+(t.Kids.length:Int))+(t.Kids.map sz).sum:=by rw [Znw,if_pos h1]
 have l2:=Z6a t l a
 have hs2:((RS1 t l a).length:Int)+(t.Kids.map sz).sum≤131072:=by omega
 refine ⟨e,i1,i2 h1,hk,hs2,fun p hp hq => ?_⟩
 rw [e]
 exact Yc0 hk (by omega) hs2 p hp hq
def RP8 (t:Tr) (l:List Int) (a:Nat):List Int:=Jo l (a:Int) (hdL t l a)++List.replicate t.Kids.length 0
theorem Yjq {t:Tr} {l:List Int} {a p:Nat} (ha:a < l.length) (hp:p < l.length):(RP8 t l a)[p]? = if a=p then some (hdL t l a) else l[p]? := by
 unfold RP8
 rw [Ztb (by rw [Q0];exact hp),Zz7 ha]
theorem Z59 (t:Tr) (l:List Int) (a:Nat):(RP8 t l a).length=l.length+t.Kids.length:=by unfold RP8;rw [List.length_append,Q0,List.length_replicate]
theorem Z5g {t:Tr} {d:Nat} (h:Nm t d):t.Kids.length≤200000:=by
 have:=Zz3 t
 have:=h.f.pt
 omega
theorem Yc1 {t:Tr} {d:Nat} (h:Nm t d) (h8:t.Kind=8) (hP:∀ x∈t.Kids,Zwx x) {l:List Int} {a:Nat} (ha:a < l.length) (hs:(l.length:Int)+sz t≤131072) :
  ly t l a=lyK l.length t.Kids (RP8 t l a)∧(∀ x∈t.Kids,(Sim x∧0≤sz x)∧Zwx x)∧((RP8 t l a).length:Int)+(t.Kids.map sz).sum≤131072 ∧
  ∀ p,p < (RP8 t l a).length→(p < l.length∨l.length+t.Kids.length≤p)→(ly t l a)[p]? = (RP8 t l a)[p]? := by
 have hk:∀ x∈t.Kids,(Sim x∧0≤sz x)∧Zwx x:=fun x hx=>⟨(h.okids (.inr h8) x hx).sim,hP x hx⟩
 have e:=(Z9r h8 (Z5g h) (fun x hx=>(hk x hx).1) l a ha hs).1
 have es:sz t=(t.Kids.length:Int)+(t.Kids.map sz).sum:=by rw [Znw,if_neg (by omega),if_neg (by omega),if_pos h8]
 have l2:=Z59 t l a
 have hs2:((RP8 t l a).length:Int)+(t.Kids.map sz).sum≤131072:=by omega
 refine ⟨e,hk,hs2,fun p hp hq => ?_⟩
 rw [e]
 exact Yc0 hk (by omega) hs2 p hp hq
theorem Nm.atoms {t:Tr} {d:Nat} (h:Nm t d) (h2:2≤t.Kind∧t.Kind≤7):∀ k∈t.Kids,∃ w,k=⟨10,[w],[]⟩∧0≤w∧w < 18446744073709551616∧Zfx (t.Kind - 2) w=true:=fun k hk=>by
 have i4:=(Zlm h.f.rt (by omega) h.k).2.2.2 k hk
 obtain ⟨w,hw,a,b,c⟩:=Z94 h2 (h.f.bd.all k hk) i4.1 i4.2
 have k10:k.Kind=10:=by
  have:=i4.2
  unfold okk at this
  rw [if_pos h2,Bool.and_eq_true,beq_iff_eq] at this
  exact this.1
 have k0:k.Kids=[]:=(Zdn i4.1).2.2.2.1 (.inr k10)
 refine ⟨w,?_,a,b,c⟩
 obtain ⟨x,y,z⟩:=k
 simp only at hw k10 k0
 rw [hw,k10,k0]
theorem Ycd {t:Tr} {d:Nat} (h:Nm t d) (h2:2≤t.Kind∧t.Kind≤7) {l:List Int} {a:Nat} (ha:a < l.length) (hs:(l.length:Int)+sz t≤131072) :
  ly t l a=Jo l (a:Int) (hdL t l a)++Zr7 (t.Kind - 2) (ato t) :=
 (Z9p h2 (Z5g h) (fun k hk=>by obtain ⟨w,e,a,b,c⟩:=h.atoms h2 k hk;exact ⟨w,by rw [e],a,b,c⟩) l a ha hs).1
theorem Z80 (W K b:Nat) (x:Tr) (xs:List Tr) (l:List Int):cpK W K b (x::xs) l=cpK W K (b+(W+K)) xs (lyK (b+W) x.Kids l):=by
 unfold cpK
 show Zbx (fun s i x=>lyK (b+i * (W+K)+W) x.Kids s) (lyK (b+0 * (W+K)+W) x.Kids l) (0+1) xs=_
 rw [Zjq]
 have:(fun (s:List Int) (i:Nat) (x:Tr)=>lyK (b+(0+1+i) * (W+K)+W) x.Kids s)=fun s i x=>lyK (b+(W+K)+i * (W+K)+W) x.Kids s:=by
  funext s i x
  rw [show (0+1+i) * (W+K)=(W+K)+i * (W+K) by rw [Nat.add_mul,Nat.zero_add,Nat.one_mul],Nat.add_assoc b (W+K)]
 rw [this,Nat.zero_mul,Nat.add_zero]
theorem Ykm {W K:Nat}:∀ {ks:List Tr},(∀ x∈ks,x.Kids.length≤K∧∀ y∈x.Kids,(Sim y∧0≤sz y)∧Zwx y)→∀ {l:List Int} {b:Nat},b+ks.length * (W+K)≤l.length→(l.length:Int)+(ks.map szK).sum≤131072 →
  ((cpK W K b ks l).length:Int)=l.length+(ks.map szK).sum∧∀ p,p < l.length→(∀ (i:Nat) (x:Tr),ks[i]? = some x→p < b+i * (W+K)+W∨b+i * (W+K)+W+x.Kids.length≤p)→(cpK W K b ks l)[p]? = l[p]?
 | [],_,l,b,_,_=>⟨by simp [cpK,Zbx],fun p _ _=>rfl⟩
 | x::xs,hk,l,b,hb,hs=>by
  obtain ⟨hx1,hx2⟩:=hk x (.head _)
  have hm:(x::xs).length * (W+K)=W+K+xs.length * (W+K):=by rw [List.length_cons,Nat.add_mul,Nat.one_mul,Nat.add_comm]
  have hz:=Gm (f:=szK) (xs:=xs) fun y hy=>Gm fun z hz=>((hk y (.tail _ hy)).2 z hz).1.2
  have hs':(l.length:Int)+((x.Kids.map sz).sum+(xs.map szK).sum)≤131072:=hs
  have ln:=Ztn (ks:=x.Kids) (b:=b+W) (l:=l) (fun y hy=>(hx2 y hy).1) (by omega) (by omega)
  obtain ⟨q1,q2⟩:=Ykm (W:=W) (K:=K) (ks:=xs) (fun y hy=>hk y (.tail _ hy)) (l:=lyK (b+W) x.Kids l) (b:=b+(W+K)) (by have:=Gm (f:=sz) (xs:=x.Kids) fun z hz=>(hx2 z hz).1.2;omega) (by omega)
  rw [Z80]
  refine ⟨by rw [q1,ln];simp only [List.map_cons,List.sum_cons];unfold szK;omega,fun p hp hq => ?_⟩
  have h0:=hq 0 x rfl
  rw [Nat.zero_mul,Nat.add_zero] at h0
  rw [q2 p (by have:=Gm (f:=sz) (xs:=x.Kids) fun z hz=>(hx2 z hz).1.2;omega) (fun i y hy=>by
   have:=hq (i+1) y (by rw [List.getElem?_cons_succ];exact hy)
   rw [Nat.add_mul,Nat.one_mul] at this
   omega),Yc0 hx2 (by omega) (by omega) p hp h0]
theorem Z81 (W K:Nat) (x:Tr) (xs:List Tr) (l:List Int):cpW W K (x::xs) l=cpW W K xs (l++x.Words++List.replicate (W+K - x.Words.length) 0):=by
 unfold cpW
 show Zbx _ _ (0+1) xs=_
 rw [Zjq]
theorem Ycb {W K:Nat}:∀ (ks:List Tr),(∀ x∈ks,x.Words.length≤W)→∀ (l:List Int),(∀ p,p < l.length→(cpW W K ks l)[p]? = l[p]?)∧∀ (i:Nat) (x:Tr),ks[i]? = some x→∀ j,j < W+K→(cpW W K ks l)[l.length+i * (W+K)+j]? = some (x.Words[j]?.getD 0)
 | [],_,l=>⟨fun p _=>rfl,fun i x h=>by simp at h⟩
 | x::xs,hk,l=>by
  have hx:=hk x (.head _)
  have le:(l++x.Words++List.replicate (W+K - x.Words.length) 0).length=l.length+(W+K):=by rw [List.length_append,List.length_append,List.length_replicate];omega
  obtain ⟨q1,q2⟩:=Ycb xs (fun y hy=>hk y (.tail _ hy)) (l++x.Words++List.replicate (W+K - x.Words.length) 0)
  rw [Z81]
  refine ⟨fun p hp => ?_,fun i y hy j hj => ?_⟩
  ·rw [q1 p (by omega),List.append_assoc,Ztb hp]
  cases i with
  | zero =>
   simp only [List.getElem?_cons_zero,Option.some.injEq] at hy
   subst hy
   rw [Nat.zero_mul,Nat.add_zero,q1 _ (by omega),List.append_assoc,List.getElem?_append_right (by omega),show l.length+j - l.length=j by omega]
   by_cases h:j < x.Words.length
   ·rw [List.getElem?_append_left h,List.getElem?_eq_getElem h]
    rfl
   rw [List.getElem?_append_right (by omega),List.getElem?_replicate,if_pos (by omega),List.getElem?_eq_none (by omega)]
   rfl
  | succ i =>
   rw [List.getElem?_cons_succ] at hy
   have:=q2 i y hy j hj
   rw [le] at this
   rw [← this,show l.length+(i+1) * (W+K)+j=l.length+(W+K)+i * (W+K)+j by rw [Nat.add_mul,Nat.one_mul];omega]
def RC9 (t:Tr) (W K:Nat) (l:List Int) (a:Nat):List Int:=cpW W K t.Kids (Jo l (a:Int) (hd9 t W K l a)++[Zpx t W K])
theorem Yca {t:Tr} {d:Nat} (h:Nm t d) (h9:t.Kind=9) (hP:∀ x∈t.Kids,∀ y∈x.Kids,Zwx y) {l:List Int} {a:Nat} (ha:a < l.length) (hs:(l.length:Int)+sz t≤131072) :
  ∃ W K:Nat,W≤65535∧K≤65535∧(∀ x∈t.Kids,x.Words.length≤W∧x.Kids.length≤K∧∀ y∈x.Kids,(Sim y∧0≤sz y)∧Zwx y)∧t.Kids.length * (W+K)≤131072∧fr t.Kids=((W:Int),(K:Int)) ∧
  (RC9 t W K l a).length=l.length+1+t.Kids.length * (W+K)∧((RC9 t W K l a).length:Int)+(t.Kids.map szK).sum≤131072∧ly t l a=cpK W K (l.length+1) t.Kids (RC9 t W K l a) ∧
  (∀ p,p < l.length→(RC9 t W K l a)[p]? = if a=p then some (hd9 t W K l a) else l[p]?)∧(RC9 t W K l a)[l.length]? = some (Zpx t W K) ∧
  (∀ (i:Nat) (x:Tr),t.Kids[i]? = some x→∀ j,j < W+K→(RC9 t W K l a)[l.length+1+i * (W+K)+j]? = some (x.Words[j]?.getD 0)):=by
 obtain ⟨W,K,e1,e2,e3,e4,e5⟩:=Z1j h.f h9
 have hk:∀ x∈t.Kids,∀ y∈x.Kids,(Sim y∧0≤sz y)∧Zwx y:=fun x hx y hy=>by
  obtain ⟨nx,k1⟩:=h.structs h9 x hx
  exact ⟨(nx.okids (.inl k1) y hy).sim,hP x hx y hy⟩
 have hz:=Gm (f:=szK) (xs:=t.Kids) fun y hy=>Gm fun z hz=>(hk y hy z hz).1.2
 have e:=(Z9o h9 (Z5g h) e1 e2 e3 e4 (fun x hx y hy=>(hk x hx y hy).1) e5 l a ha hs).1
 have l3:(Jo l (a:Int) (hd9 t W K l a)++[Zpx t W K]).length=l.length+1:=by rw [List.length_append,Q0];rfl
 have l4:(RC9 t W K l a).length=l.length+1+t.Kids.length * (W+K):=by unfold RC9;rw [Ycc (fun x hx=>(e4 x hx).1),l3]
 obtain ⟨g1,g2⟩:=Ycb (K:=K) t.Kids (fun x hx=>(e4 x hx).1) (Jo l (a:Int) (hd9 t W K l a)++[Zpx t W K])
 rw [l3] at g2
 refine ⟨W,K,e2,e3,fun x hx=>⟨(e4 x hx).1,(e4 x hx).2,hk x hx⟩,by omega,e1,l4,by omega,e,fun p hp => ?_,?_,g2⟩
 ·unfold RC9
  rw [g1 p (by omega),Ztb (by rw [Q0];exact hp),Zz7 ha]
 unfold RC9
 rw [g1 _ (by omega),List.getElem?_append_right (by rw [Q0];exact Nat.le_refl _),Q0,Nat.sub_self]
 rfl
theorem Zul:∀ (n:Nat) (t:Tr) (d:Nat),SizeOf.sizeOf t < n→Nm t d→Zwx t
 | 0,_,_,h,_=>by omega
 | n+1,t,d,h,hm=>fun l a ha hs p hp hpa=>by
  have g:=Zdn hm.f.rt
  have h10:=hm.k
  by_cases h0:t.Kind=0
  ·rw [Z9q h0]
  by_cases h1:t.Kind=1
  ·have k:=Yc9 hm h1 (fun x hx=>Zul n x (d - 1) (by have:=Xs hx;omega) (hm.okids (.inl h1) x hx)) ha hs
   rw [k.2.2.2.2.2 p (by rw [Z6a];omega) (by omega),Yjr ha hp,if_neg (fun h=>hpa h.symm)]
  by_cases h2:2≤t.Kind∧t.Kind≤7
  ·rw [Ycd hm h2 ha hs,Ztb (by rw [Q0];exact hp),Zz7 ha,if_neg (fun h=>hpa h.symm)]
  by_cases h8:t.Kind=8
  ·have k:=Yc1 hm h8 (fun x hx=>Zul n x (d - 1) (by have:=Xs hx;omega) (hm.okids (.inr h8) x hx)) ha hs
   rw [k.2.2.2 p (by rw [Z59];omega) (by omega),Yjq ha hp,if_neg (fun h=>hpa h.symm)]
  have h9:t.Kind=9:=by omega
  obtain ⟨W,K,_,_,k3,_,_,k6,k7,k8,k9,_⟩:=Yca hm h9 (fun x hx y hy=>Zul n y (d - 1 - 1) (by have:=Xs hx;have:=Xs hy;omega) ((hm.structs h9 x hx).1.okids (.inl (hm.structs h9 x hx).2) y hy)) ha hs
  rw [k8,(Ykm (fun x hx=>(k3 x hx).2) (by omega) k7).2 p (by omega) (fun i x hx=>by omega),k9 p hp,if_neg (fun h=>hpa h.symm)]
theorem Nm.pres {t:Tr} {d:Nat} (h:Nm t d):Zwx t:=Zul _ t d (Nat.lt_succ_self _) h
def hv (t:Tr) (l:List Int) (a:Nat) (c:Int):Int:=if t.Kind=0 then 0 else if t.Kind=1 then hdS t l a else ((l.length:Int) - a - 1) % 1073741824 * 4+1+(t.Kind - 2) * 4294967296+c * 34359738368
def StN (W K:Nat) (x:Tr):Prop:=x.Kind=1∧(∃ d,Nm x d)∧x.Words.length≤W∧x.Kids.length≤K
theorem StN.kids {W K:Nat} {x:Tr} (h:StN W K x):∀ y∈x.Kids,∃ d,Nm y d:=fun y hy=>by
 obtain ⟨k,⟨d,n⟩,_⟩:=h
 exact ⟨_,n.okids (.inl k) y hy⟩
theorem Yga {t:Tr} {most:Int} (h:(enc t most).2=true):¬ t.Kind=10∧rt t 64=true∧sz (nrm t) < 131072∧(enc t most).1=ly (nrm t) [0] 0:=by
 unfold enc at h ⊢
 by_cases q:t.Kind=10∨rt t 64=false
 ·rw [if_pos q] at h;cases h
 rw [if_neg q] at h ⊢
 by_cases q2:most≤sz (nrm t)∨131072≤sz (nrm t)
 ·rw [if_pos q2] at h;cases h
 rw [if_neg q2]
 refine ⟨fun k=>q (.inl k),?_,by omega,rfl⟩
 cases e:rt t 64 with
 | true=>rfl
 | false=>exact absurd (.inr e) q
section
variable {A:Zw}
inductive MR (A:Zw):Zf→Tr→Prop
 | mk (r:Zf) (t:Tr) (ho:OKr A r) (hk:t.Kind=r.kind) (hw:t.Words=Zsy A r) (hl:(t.Kids.length:Int)=Xl r)
   (he:∀ (i:Nat) (x:Tr),t.Kids[i]? = some x→(Us A r i).2=0) (hs:∀ (i:Nat) (x:Tr),t.Kids[i]? = some x→MR A (Us A r i).1 x):MR A r t
theorem MR.o {r:Zf} {t:Tr} (h:MR A r t):OKr A r:=by cases h;assumption
theorem MR.ws {r:Zf} {t:Tr} (h:MR A r t):t.Words=Zsy A r:=by cases h;assumption
theorem MR.kid {r:Zf} {t:Tr} (h:MR A r t) {i:Nat} {x:Tr} (hx:t.Kids[i]? = some x):(Us A r i).2=0∧MR A (Us A r i).1 x:=by
 cases h with
 | mk _ _ _ _ _ _ he hs=>exact ⟨he i x hx,hs i x hx⟩
end
def U6 (l:List Int):Prop:=∀ w∈l,0≤w∧w < 18446744073709551616
theorem Zsw {l m:List Int} (h1:U6 l) (h2:U6 m):U6 (l++m):=fun w hw=>by
 rcases List.mem_append.1 hw with q | q
 ·exact h1 w q
 exact h2 w q
theorem Yby (n:Nat):U6 (List.replicate n 0):=fun w hw=>by rw [(List.mem_replicate.1 hw).2];decide
theorem Z8d {l:List Int} {a:Nat} {v:Int} (h:U6 l) (hv:0≤v∧v < 18446744073709551616):U6 (Jo l (a:Int) v):=fun w hw=>by
 unfold Jo at hw
 rcases List.mem_or_eq_of_mem_set hw with q | q
 ·exact h w q
 rw [q];exact hv
def UP (t:Tr):Prop:=∀ (l:List Int) (a:Nat),a < l.length→(l.length:Int)+sz t≤131072→U6 l→U6 (ly t l a)
theorem Yjb:∀ {ks:List Tr},(∀ x∈ks,(Sim x∧0≤sz x)∧UP x)→∀ {l:List Int} {b:Nat},b+ks.length≤l.length→(l.length:Int)+(ks.map sz).sum≤131072→U6 l→U6 (lyK b ks l)
 | [],_,l,b,_,_,h=>h
 | x::xs,hk,l,b,hb,hs,h=>by
  obtain ⟨⟨h1,h2⟩,h3⟩:=hk x (.head _)
  have hp2:=Gm (f:=sz) (xs:=xs) fun y hy=>(hk y (.tail _ hy)).1.2
  have hs':(l.length:Int)+(sz x+(xs.map sz).sum)≤131072:=hs
  rw [List.length_cons] at hb
  have ln:=(h1 l b (by omega) (by omega)).1
  rw [Z9x]
  exact Yjb (fun y hy=>hk y (.tail _ hy)) (by omega) (by omega) (h3 l b (by omega) (by omega) h)
theorem Yl5 {W K:Nat}:∀ {ks:List Tr},(∀ x∈ks,x.Kids.length≤K∧∀ y∈x.Kids,(Sim y∧0≤sz y)∧UP y)→∀ {l:List Int} {b:Nat},b+ks.length * (W+K)≤l.length→(l.length:Int)+(ks.map szK).sum≤131072→U6 l→U6 (cpK W K b ks l)
 | [],_,l,b,_,_,h=>h
 | x::xs,hk,l,b,hb,hs,h=>by
  obtain ⟨hx1,hx2⟩:=hk x (.head _)
  have hm:(x::xs).length * (W+K)=W+K+xs.length * (W+K):=by rw [List.length_cons,Nat.add_mul,Nat.one_mul,Nat.add_comm]
  have hz:=Gm (f:=szK) (xs:=xs) fun y hy=>Gm fun z hz=>((hk y (.tail _ hy)).2 z hz).1.2
  have hun:=Gm (f:=sz) (xs:=x.Kids) fun z hz=>(hx2 z hz).1.2
  have hs':(l.length:Int)+((x.Kids.map sz).sum+(xs.map szK).sum)≤131072:=hs
  have ln:=Ztn (ks:=x.Kids) (b:=b+W) (l:=l) (fun y hy=>(hx2 y hy).1) (by omega) (by omega)
  rw [Z80]
  exact Yl5 (fun y hy=>hk y (.tail _ hy)) (by omega) (by omega) (Yjb hx2 (by omega) (by omega) h)
theorem Yl6 {W K:Nat}:∀ {ks:List Tr},(∀ x∈ks,U6 x.Words)→∀ {l:List Int},U6 l→U6 (cpW W K ks l)
 | [],_,l,h=>h
 | x::xs,hk,l,h=>by
  rw [Z81]
  exact Yl6 (fun y hy=>hk y (.tail _ hy)) (Zsw (Zsw h (hk x (.head _))) (Yby _))
theorem Yjk {c:Int} (h:0≤c∧c≤5) {ns:List Int} (hn:∀ n∈ns,0≤n∧Zfx c n=true):U6 (Zr7 c ns):=by
 by_cases h0:c=0
 ·unfold Zr7
  rw [if_pos h0]
  intro w hw
  cases hw
 have ff:∀ n∈ns,0≤n∧n < 2 ^ wid c:=fun n hm=>⟨(hn n hm).1,by have:=(hn n hm).2;unfold Zfx at this;exact of_decide_eq_true this⟩
 have key:0 < wid c∧∀ i:Nat,i * wid c % 64+wid c≤64:=by
  rcases c5' h with rfl | rfl | rfl | rfl | rfl | rfl
  ·exact absurd rfl h0
  ·exact ⟨by decide,fun i=>by show i * 1 % 64+1≤64;omega⟩
  ·exact ⟨by decide,fun i=>by show i * 8 % 64+8≤64;omega⟩
  ·exact ⟨by decide,fun i=>by show i * 16 % 64+16≤64;omega⟩
  ·exact ⟨by decide,fun i=>by show i * 32 % 64+32≤64;omega⟩
  exact ⟨by decide,fun i=>by show i * 64 % 64+64≤64;omega⟩
 have b:=Yhq key.1 key.2 ff
 have e:Zr7 c ns=Zbx (Znq (wid c)) (List.replicate ((ns.length * wid c+63) / 64) 0) 0 ns:=by unfold Zr7;rw [if_neg h0]
 intro w hw
 rw [e] at hw
 obtain ⟨q,hq⟩:=List.mem_iff_getElem?.1 hw
 obtain ⟨v0,v1⟩:=b.1.2 q w hq
 refine ⟨v0,Int.lt_of_lt_of_le v1 (Int.le_trans (Zuk (b:=64) (by omega)) (by decide))⟩
theorem Ycp:∀ (n:Nat) (t:Tr) (d:Nat),SizeOf.sizeOf t < n→Nm t d→UP t
 | 0,_,_,h,_=>by omega
 | n+1,t,d,h,hm=>fun l a ha hs hu=>by
  have g:=Zdn hm.f.rt
  have h10:=hm.k
  have lb:=Z5g hm
  by_cases h0:t.Kind=0
  ·rw [Z9q h0];exact hu
  have hri:=Zlm hm.f.rt h0 h10
  by_cases h1:t.Kind=1
  ·obtain ⟨e,i1,i2,hk,hs2,_⟩:=Yc9 hm h1 (fun x hx=>(hm.okids (.inl h1) x hx).pres) ha hs
   have l2:=Z6a t l a
   rw [e]
   refine Yjb (fun x hx=>⟨(hk x hx).1,Ycp n x (d - 1) (by have:=Xs hx;omega) (hm.okids (.inl h1) x hx)⟩) (by omega) hs2 ?_
   unfold RS1
   exact Zsw (Zsw (Z8d hu (by omega)) hm.f.bd.u) (Yby _)
  by_cases h2:2≤t.Kind∧t.Kind≤7
  ·rw [Ycd hm h2 ha hs]
   refine Zsw (Z8d hu (by unfold hdL;omega)) (Yjk (by omega) fun v hv => ?_)
   obtain ⟨k,hk,rfl⟩:=List.mem_map.1 hv
   obtain ⟨w,hw,w0,_,w1⟩:=hm.atoms h2 k hk
   rw [hw]
   exact ⟨w0,w1⟩
  by_cases h8:t.Kind=8
  ·obtain ⟨e,hk,hs2,_⟩:=Yc1 hm h8 (fun x hx=>(hm.okids (.inr h8) x hx).pres) ha hs
   have l2:=Z59 t l a
   rw [e]
   refine Yjb (fun x hx=>⟨(hk x hx).1,Ycp n x (d - 1) (by have:=Xs hx;omega) (hm.okids (.inr h8) x hx)⟩) (by omega) hs2 ?_
   unfold RP8
   exact Zsw (Z8d hu (by unfold hdL;omega)) (Yby _)
  have h9:t.Kind=9:=by omega
  have hkk:∀ x∈t.Kids,∀ y∈x.Kids,Nm y (d - 1 - 1):=fun x hx y hy=>(hm.structs h9 x hx).1.okids (.inl (hm.structs h9 x hx).2) y hy
  obtain ⟨W,K,W1,K1,k3,k4,_,k6,k7,k8,_,_,_⟩:=Yca hm h9 (fun x hx y hy=>(hkk x hx y hy).pres) ha hs
  rw [k8]
  refine Yl5 (fun x hx=>⟨(k3 x hx).2.1,fun y hy=>⟨((k3 x hx).2.2 y hy).1,Ycp n y (d - 1 - 1) (by have:=Xs hx;have:=Xs hy;omega) (hkk x hx y hy)⟩⟩) (by omega) k7 ?_
  unfold RC9
  refine Yl6 (fun x hx=>(hm.f.bd.all x hx).u) (Zsw (Z8d hu (by unfold hd9;omega)) fun w hw => ?_)
  rw [List.mem_singleton.1 hw]
  unfold Zpx
  omega
theorem Ypl {t:Tr} (hm:Nm t 64) (hs:sz t < 131072):WS [ly t [0] 0]:=by
 have ln:=(hm.sim.1 [0] 0 (by decide) (by simp only [List.length_singleton];omega)).1
 refine Yls _ (Ycp _ t 64 (Nat.lt_succ_self _) hm [0] 0 (by decide) (by simp only [List.length_singleton];omega) fun w hw => ?_) (by simp only [List.length_singleton] at ln;omega)
 rw [List.mem_singleton.1 hw]
 decide
def cT (e:Ed):Nat:=1+e.Words.length+e.Ops.length+(pt e.Old+pt e.New)+(e.Kids.attach.map fun k=>cT k.1.E).sum+(e.Ops.attach.map fun o=>(o.1.L.map pt).sum+cT o.1.E).sum
termination_by SizeOf.sizeOf e
decreasing_by
 ·exact Ub k.2
 exact Zaw o.2
theorem Yf3 (e:Ed):cT e=1+e.Words.length+e.Ops.length+(pt e.Old+pt e.New)+(e.Kids.map fun k=>cT k.E).sum+(e.Ops.map fun o=>(o.L.map pt).sum+cT o.E).sum:=by
 rw [cT]
 have h1:(e.Kids.attach.map fun k=>cT k.1.E)=e.Kids.map fun k=>cT k.E:=List.attach_map_val (f:=fun k:Zn=>cT k.E)
 have h2:(e.Ops.attach.map fun o=>(o.1.L.map pt).sum+cT o.1.E)=e.Ops.map fun o=>(o.L.map pt).sum+cT o.E:=List.attach_map_val (f:=fun o:Zt=>(o.L.map pt).sum+cT o.E)
 rw [h1,h2]
theorem Z10:∀ (k:Nat) (e:Ed) (d left:Int),BE e→SizeOf.sizeOf e < k→0≤d→d≤100→0≤left→left≤1000000→∃ r,Z8 k e d left=some r∧-1≤r∧r≤1000000∧(0≤r→r+(cT e:Nat)≤left)
 | 0,e,_,_,_,h,_,_,_,_=>by omega
 | k+1,e,d,left,hb,hk,hd0,hd1,hl0,hl1=>by
  have hw:=hb.w
  have ho:=hb.o
  show ∃ r,X0 (Z8 k) e d left=some r∧_
  unfold X0
  rw [Yn (x:=left - 1) (by omega) (by omega),Yn (x:=left - 1 - (e.Words.length:Int)) (by omega) (by omega),Yn (by omega) (by omega),Yf3]
  cases hc:cond (d == 0) true (decide (left - 1 - (e.Words.length:Int) - (e.Ops.length:Int) < 0)) with
  | true=>exact ⟨-1,rfl,by omega,by omega,fun h=>by omega⟩
  | false =>
   rw [cond_false]
   have hd:¬ d=0∧0≤left - 1 - (e.Words.length:Int) - (e.Ops.length:Int):=by
    by_cases h:d=0
    ·simp [h] at hc
    have e:(d == 0)=false:=by simp [h]
    rw [e,cond_false,decide_eq_false_iff_not] at hc
    exact ⟨h,by omega⟩
   obtain ⟨r1,g1,g2,g3,g4⟩:=Zkl hb.old hd.2 (by omega)
   have hz:∃ z,cond (decide (0≤r1)) ((Qu e.New 80 r1).bind fun y4=>some y4) (some r1)=some z∧-1≤z∧z≤1000000∧(0≤z→z+((pt e.Old+pt e.New:Nat):Int)≤left - 1 - (e.Words.length:Int) - (e.Ops.length:Int)):=by
    by_cases h:0≤r1
    ·obtain ⟨r2,f1,f2,f3,f4⟩:=Zkl hb.new h g3
     refine ⟨r2,by rw [decide_eq_true h,f1];rfl,f2,f3,fun h2 => ?_⟩
     have:=f4 h2
     have:=g4 h
     omega
    exact ⟨r1,by rw [decide_eq_false h];rfl,g2,g3,fun h2=>absurd h2 h⟩
   obtain ⟨z,z1,z2,z3,z4⟩:=hz
   rw [g1,Option.bind_some,z1,Option.bind_some]
   obtain ⟨r,h1,h2⟩:=Vm (step:=Xp (Z8 k) e d)
    (fun s=>∃ j:Nat,s.2=j∧j≤e.Kids.length∧-1≤s.1∧s.1≤1000000∧(0≤s.1→s.1+((((e.Kids.take j).map fun k=>cT k.E)).sum:Nat)+((pt e.Old+pt e.New:Nat):Int)≤left - 1 - (e.Words.length:Int) - (e.Ops.length:Int)))
    (fun s=>e.Kids.length - s.2.toNat) (fun r=>-1≤r∧r≤1000000∧(0≤r→r+((e.Kids.map fun k=>cT k.E).sum:Nat)+((pt e.Old+pt e.New:Nat):Int)≤left - 1 - (e.Words.length:Int) - (e.Ops.length:Int))) (fun s hI=>by
     obtain ⟨l,i⟩:=s
     obtain ⟨j,rfl,hj,g1,g2,g3⟩:=hI
     have hkl:=hb.k
     simp only at g1 g2 g3 ⊢
     unfold Xp
     simp only
     by_cases hji:j < e.Kids.length
     ·rw [V0 hji,cond_true]
      by_cases hl:0≤l
      ·have e1:decide (0≤l)=true:=by simp [hl]
       have hx:e.Kids[j]? = some e.Kids[j]:=List.getElem?_eq_getElem hji
       have hm:e.Kids[j]∈e.Kids:=List.getElem_mem hji
       obtain ⟨r,q1,q2,q3,q4⟩:=Z10 k e.Kids[j].E (d - 1) l (hb.ks _ hm) (by have:=Ub hm;omega) (by omega) (by omega) hl g2
       rw [e1,cond_true,Ym hx,Option.bind_some,Yn (x:=d - 1) (by omega) (by omega),q1,Option.bind_some,Yn (by omega) (by omega)]
       refine .inl ⟨_,rfl,⟨j+1,by simp only;omega,by omega,q2,q3,fun hr => ?_⟩,by simp only;omega⟩
       have w1:=q4 hr
       have w3:=g3 hl
       rw [List.take_add_one,hx]
       simp only [Option.toList_some,List.map_append,List.map_cons,List.map_nil,List.sum_append,List.sum_cons,List.sum_nil]
       simp only at hr
       omega
      have e1:decide (0≤l)=false:=by simp [hl]
      rw [e1,cond_false]
      exact .inr ⟨l,rfl,g1,g2,fun h=>absurd h hl⟩
     have hj':j=e.Kids.length:=by omega
     subst hj'
     rw [Vu,cond_false]
     rw [List.take_length] at g3
     exact .inr ⟨l,rfl,g1,g2,g3⟩) (z,0) ⟨0,rfl,Nat.zero_le _,z2,z3,fun h=>by have:=z4 h;simp only [List.take_zero,List.map_nil,List.sum_nil];omega⟩
   rw [h1,Option.bind_some]
   have inner:∀ (j:Nat) (hj:j < e.Ops.length) (l:Int),0≤l→l≤1000000→∃ r,Zx (Xr e (l,(j:Int))) (l,0)=some r∧-1≤r∧r≤1000000∧(0≤r→r+(((e.Ops[j].L.map pt).sum:Nat):Int)≤l):=fun j hj l hl hl'=>by
    have hx:e.Ops[j]? = some e.Ops[j]:=List.getElem?_eq_getElem hj
    have hm:e.Ops[j]∈e.Ops:=List.getElem_mem hj
    have hL:=(hb.l _ hm).1
    obtain ⟨r,h1,h2⟩:=Vm (step:=Xr e (l,(j:Int)))
     (fun s=>∃ i:Nat,s.2=i∧i≤e.Ops[j].L.length∧-1≤s.1∧s.1≤1000000∧(0≤s.1→s.1+((((e.Ops[j].L.take i).map pt).sum:Nat):Int)≤l))
     (fun s=>e.Ops[j].L.length - s.2.toNat) (fun r=>-1≤r∧r≤1000000∧(0≤r→r+(((e.Ops[j].L.map pt).sum:Nat):Int)≤l)) (fun s hI=>by
      obtain ⟨l',i'⟩:=s
      obtain ⟨i,rfl,hi,g1,g2,g4⟩:=hI
      simp only at g1 g2 g4 ⊢
      unfold Xr
      simp only
      rw [Ym hx,Option.bind_some,Option.bind_some]
      by_cases hii:i < e.Ops[j].L.length
      ·rw [V0 hii,cond_true]
       by_cases hl2:0≤l'
       ·have e1:decide (0≤l')=true:=by simp [hl2]
        have hx2:e.Ops[j].L[i]? = some e.Ops[j].L[i]:=List.getElem?_eq_getElem hii
        have hm2:e.Ops[j].L[i]∈e.Ops[j].L:=List.getElem_mem hii
        obtain ⟨r,q1,q2,q3,q4⟩:=Zkl ((hb.l _ hm).2 _ hm2) hl2 g2
        rw [e1,cond_true,Ym hx2,Option.bind_some,q1,Option.bind_some,Yn (by omega) (by omega)]
        refine .inl ⟨_,rfl,⟨i+1,by simp only;omega,by omega,q2,q3,?_⟩,by simp only;omega⟩
        simp only
        intro hr
        have w1:=q4 hr
        have w2:=g4 hl2
        rw [List.take_add_one,hx2]
        simp only [Option.toList_some,List.map_append,List.map_cons,List.map_nil,List.sum_append,List.sum_cons,List.sum_nil]
        omega
       have e1:decide (0≤l')=false:=by simp [hl2]
       rw [e1,cond_false]
       exact .inr ⟨l',rfl,g1,g2,fun h=>absurd h hl2⟩
      have hi':i=e.Ops[j].L.length:=by omega
      subst hi'
      rw [Vu,cond_false]
      rw [List.take_length] at g4
      exact .inr ⟨l',rfl,g1,g2,g4⟩) (l,0) ⟨0,rfl,Nat.zero_le _,by simp only;omega,by simp only;omega,fun _=>by simp⟩
    exact ⟨r,h1,h2⟩
   obtain ⟨r',h1',h2'⟩:=Vm (step:=Xq (Z8 k) e d)
    (fun s=>∃ j:Nat,s.2=j∧j≤e.Ops.length∧-1≤s.1∧s.1≤1000000∧(0≤s.1→0≤r∧s.1+((((e.Ops.take j).map fun o=>(o.L.map pt).sum+cT o.E)).sum:Nat)≤r))
    (fun s=>e.Ops.length - s.2.toNat) (fun q=>-1≤q∧q≤1000000∧(0≤q→0≤r∧q+((e.Ops.map fun o=>(o.L.map pt).sum+cT o.E).sum:Nat)≤r)) (fun s hI=>by
     obtain ⟨l,i⟩:=s
     obtain ⟨j,rfl,hj,g1,g2,g3⟩:=hI
     simp only at g1 g2 g3 ⊢
     unfold Xq
     simp only
     by_cases hji:j < e.Ops.length
     ·rw [V0 hji,cond_true]
      by_cases hl:0≤l
      ·have e1:decide (0≤l)=true:=by simp [hl]
       have hx:e.Ops[j]? = some e.Ops[j]:=List.getElem?_eq_getElem hji
       have hm:e.Ops[j]∈e.Ops:=List.getElem_mem hji
       obtain ⟨t,t1,t2,t3,t5⟩:=inner j hji l hl g2
       rw [e1,cond_true,t1,Option.bind_some,Yn (x:=(j:Int)+1) (by omega) (by omega)]
       by_cases ht:0≤t
       ·obtain ⟨r,q1,q2,q3,q4⟩:=Z10 k e.Ops[j].E (d - 1) t (hb.os _ hm) (by have:=Zaw hm;omega) (by omega) (by omega) ht t3
        rw [decide_eq_true ht,cond_true,Ym hx,Option.bind_some,Yn (x:=d - 1) (by omega) (by omega),q1]
        refine .inl ⟨_,rfl,⟨j+1,by simp only;omega,by omega,q2,q3,fun hr => ?_⟩,by simp only;omega⟩
        have w1:=q4 hr
        obtain ⟨w3,w4⟩:=g3 hl
        have w5:=t5 ht
        rw [List.take_add_one,hx]
        simp only [Option.toList_some,List.map_append,List.map_cons,List.map_nil,List.sum_append,List.sum_cons,List.sum_nil]
        simp only at hr
        exact ⟨w3,by omega⟩
       rw [decide_eq_false ht]
       exact .inl ⟨_,rfl,⟨j+1,by simp only;omega,by omega,t2,t3,fun hr=>absurd hr ht⟩,by simp only;omega⟩
      have e1:decide (0≤l)=false:=by simp [hl]
      rw [e1,cond_false]
      exact .inr ⟨l,rfl,g1,g2,fun h=>absurd h hl⟩
     have hj':j=e.Ops.length:=by omega
     subst hj'
     rw [Vu,cond_false]
     rw [List.take_length] at g3
     exact .inr ⟨l,rfl,g1,g2,g3⟩) (r,0) ⟨0,rfl,Nat.zero_le _,h2.1,h2.2.1,fun h=>⟨h,by simp⟩⟩
   rw [h1']
   refine ⟨r',rfl,h2'.1,h2'.2.1,fun hr => ?_⟩
   obtain ⟨p1,p2⟩:=h2'.2.2 hr
   have p4:=h2.2.2 p1
   omega
theorem Yk6 {e:Ed} (h:BE e) (hq:Jr e=some true):cT e≤3000:=by
 obtain ⟨r,h1,h2,h3,h4⟩:=Z10 (SizeOf.sizeOf e+1) e 80 3000 h (by omega) (by omega) (by omega) (by omega) (by omega)
 have hr:Zba e 80 3000=some r:=Zeg (SizeOf.sizeOf e+1) fun k hk=>by rw [Zm8 k (SizeOf.sizeOf e+1) e 80 3000 (by omega) (by omega)];exact h1
 unfold Jr at hq
 rw [hr,Option.bind_some] at hq
 have hp:0≤r:=by simpa using hq
 have:=h4 hp
 omega
theorem Yi1 {e:Ed} (hb:BE e) (h:Vg e=some true):cT e≤3000:=by
 obtain ⟨b,h1,_⟩:=Ykg hb
 have h3:=Ycf hb (d:=64) (by decide)
 rw [show ((64:Nat):Int)=64 from rfl] at h3
 unfold Vg at h
 rw [h1,Option.bind_some,h3,Z14 hb] at h
 refine Yk6 hb ?_
 rw [h1]
 cases b
 ·revert h
  cases rE e 64 <;> cases lgt e <;> simp
 rfl
theorem Z55 (l:List Tr):pt (Zls l)≤1+(l.map pt).sum:=by
 unfold Zls
 split
 ·rw [Zgg];simp
 rw [Zgg];simp
theorem Yho:∀ (n:Nat) (e:Ed),SizeOf.sizeOf e < n→pt (TE e)+2≤10 * cT e
 | 0,_,h=>by omega
 | n+1,e,h=>by
  have hc:=Yf3 e
  rw [Zlt]
  split
  ·rw [Zgg];simp;omega
  split
  ·rw [Zgg];simp;omega
  split
  ·have hw:((e.Words.map wT).map pt).sum=e.Words.length * 4:=by
    rw [List.map_map]
    have:∀ l:List Z6,(l.map (pt ∘ wT)).sum=l.length * 4:=fun l=>by
     induction l with
     | nil=>rfl
     | cons x l ih =>
      have e1:(pt ∘ wT) x=4:=by show pt (wT x)=4;rw [Zgg];rfl
      simp only [List.map_cons,List.sum_cons,ih,List.length_cons,e1]
      omega
    exact this _
   have hk:((e.Kids.map fun k=>kT k (TE k.E)).map pt).sum≤(e.Kids.map fun k=>10 * cT k.E).sum:=by
    rw [List.map_map]
    refine Ybv _ fun k hk => ?_
    have:=Yho n k.E (by have:=Ub hk;omega)
    have e1:pt (kT k (TE k.E))=2+pt (TE k.E):=by rw [Zgg];simp [kT]
    show pt (kT k (TE k.E))≤10 * cT k.E
    omega
   rw [Z6g] at hk
   have r1:=Z55 (e.Words.map wT)
   have r2:=Z55 (e.Kids.map fun k=>kT k (TE k.E))
   rw [Zgg]
   simp only [List.length_singleton,List.map_cons,List.map_nil,List.sum_cons,List.sum_nil]
   omega
  have ho:((e.Ops.map fun o=>opT e.List_ o (TE o.E)).map pt).sum≤(e.Ops.map fun o=>10 * ((o.L.map pt).sum+cT o.E)).sum:=by
   rw [List.map_map]
   refine Ybv _ fun o ho => ?_
   have:=Yho n o.E (by have:=Zaw ho;omega)
   have c1:=Yf3 o.E
   show pt (opT e.List_ o (TE o.E))≤10 * ((o.L.map pt).sum+cT o.E)
   have e1:pt (opT e.List_ o (TE o.E))≤2+(o.L.map pt).sum+pt (TE o.E):=by
    have p0:=Z2o (TE o.E)
    unfold opT
    rw [Zgg]
    simp only [List.length_singleton]
    split
    ·simp only [List.map_cons,List.map_nil,List.sum_cons,List.sum_nil];omega
    split
    ·simp only [List.map_cons,List.map_nil,List.sum_cons,List.sum_nil]
     rw [Zgg]
     simp only [List.length_nil]
     omega
    simp only [List.map_nil,List.sum_nil];omega
   have p1:=Z2o o.E.Old
   have p2:=Z2o o.E.New
   omega
  rw [Z6g] at ho
  have r1:=Z55 (e.Ops.map fun o=>opT e.List_ o (TE o.E))
  rw [Zgg]
  simp only [List.length_singleton,List.map_cons,List.map_nil,List.sum_cons,List.sum_nil]
  omega
theorem Zin (ws:List Int) (ks:List Tr):Vh ws ks=some ⟨1,ws,ks⟩:=rfl
theorem Z52 (l:List Tr):Ze7 l=some (Zls l):=by
 unfold Ze7 Zls
 cases l with
 | nil=>rfl
 | cons x l =>
  have:(((x::l).length:Int) == 0)=false:=by rw [beq_eq_false_iff_ne,List.length_cons];omega
  rw [this,cond_false,if_neg (by simp)]
theorem Yhl {α:Type} (xs:List α) (g:α→Tr) (step:Int×List Tr→Option ((Int×List Tr) ⊕ List Tr)) (hl:xs.length≤1048576)
  (h1:∀ (i:Nat) (x:α) (out:List Tr),i < xs.length→xs[i]? = some x→x∈xs→out.length≤1048576→step ((i:Int),out)=some (.inl (IntKind.i64.wrap ((i:Int)+1),out++[g x])))
  (h2:∀ out,step ((xs.length:Int),out)=some (.inr out)):Zx step (0,[])=some (xs.map g):=by
 have main:=Zj5 xs (fun i (s:List Tr)=>(i,s)) (fun s=>s) step (fun s _ x=>s++[g x]) (fun i s=>s=(xs.take i).map g) (by omega) (fun i s x hi hx hm hI=>⟨h1 i x s hi hx hm (by rw [hI,List.length_map,List.length_take];omega),by rw [hI,List.take_add_one,hx,List.map_append];rfl⟩) (fun s _=>h2 s) [] (by simp)
 rw [main.1,main.2,List.take_length]
theorem Z33 {out:List Tr} {x:Tr} (h:out.length≤1048576):Zjm 56 out [x]=some (out++[x]):=Zgh (by rw [List.length_singleton];omega) (by rw [List.length_singleton];omega)
theorem Yj9 {w:Z6} (h1:0≤w.At∧w.At≤65534) (h2:0 < w.Mask∧w.Mask < 256):IntKind.u64.wrap (Ut .u64 (IntKind.u64.wrap w.At) (IntKind.u64.wrap ((IntKind.u64.wrap w.Mask) * 2 ^ min (Int.toNat 32) 64)))=IntKind.u64.wrap (IntKind.u64.wrap w.At+IntKind.u64.wrap (4294967296 * IntKind.u64.wrap w.Mask)):=by
 rw [Ymf h1.1 (by omega) (by omega) (by omega),Zsv (x:=w.At) (by omega),Zsv (x:=w.Mask) (by omega),Zsv (x:=4294967296 * w.Mask) (by omega),Zsv (by omega)]
 omega
theorem Yfc {ws:List Z6} (hl:ws.length≤1048576) (h:∀ w∈ws,(0≤w.At∧w.At≤65534)∧(0 < w.Mask∧w.Mask < 256)):Zbe ws=some (Zls (ws.map wT)):=by
 unfold Zbe
 rw [Yhl ws wT (Up ws) hl (fun i x out hi hx hm ho=>by
  unfold Up
  simp only
  rw [V0 hi,cond_true,Ym hx,Option.bind_some,Yj9 (h x hm).1 (h x hm).2,Zin,Option.bind_some,Z33 ho]
  rfl) (fun out=>by
  unfold Up
  simp only
  rw [Vu,cond_false]),Option.bind_some,Z52]
 rfl
theorem Z49 {e:Ed} (h1:0≤e.Kind∧e.Kind≤3) (h2:0≤e.List_∧e.List_≤9):hdE e=e.Kind+256 * e.List_:=by
 unfold hdE
 rw [Yn (x:=256 * e.List_) (by omega) (by omega),Yn (by omega) (by omega),Zsv (by omega)]
theorem Yi2 {o:Zt} (h1:0≤o.Kind∧o.Kind≤3) (h2:0≤o.N∧o.N≤1048576):IntKind.u64.wrap (Ut .u64 (IntKind.u64.wrap o.Kind) (IntKind.u64.wrap ((IntKind.u64.wrap o.N) * 2 ^ min (Int.toNat 8) 64)))=hdO o:=by
 unfold hdO
 rw [Ymg h1.1 (by omega) h2.1 (by omega),Yn (x:=256 * o.N) (by omega) (by omega),Yn (by omega) (by omega),Zsv (by omega)]
 omega
theorem Ymj {l:Int} {o:Zt} {r:Bool} (h:okO l o r=true):(0≤o.Kind∧o.Kind≤3)∧(0≤o.N∧o.N≤1048576)∧(o.Kind=3→r=true):=by
 unfold okO at h
 by_cases k0:o.Kind=0
 ·rw [if_pos k0] at h
  simp only [Bool.and_eq_true,decide_eq_true_eq] at h
  exact ⟨by omega,by omega,fun k=>by omega⟩
 rw [if_neg k0] at h
 by_cases k1:o.Kind=1∨o.Kind=2
 ·rw [if_pos k1,Bool.and_eq_true,beq_iff_eq] at h
  exact ⟨by omega,by omega,fun k=>by omega⟩
 rw [if_neg k1] at h
 by_cases k3:o.Kind=3
 ·rw [if_pos k3] at h
  simp only [Bool.and_eq_true,beq_iff_eq] at h
  exact ⟨by omega,by omega,fun _=>h.2.2.2.2⟩
 rw [if_neg k3] at h
 cases h
theorem Z2p:∀ (k:Nat) (e:Ed) (d:Nat),BE e→GN e→rE e d=true→2 * SizeOf.sizeOf e < k→(Yv k).1 e=some (TE e)
 | 0,_,_,_,_,_,h=>by omega
 | 1,e,_,_,_,_,h=>by
  have:0 < SizeOf.sizeOf e:=by
   obtain ⟨a,b,c,d,f,g,i⟩:=e
   simp only [Zh.mk.sizeOf_spec]
   omega
  omega
 | k+2,e,d,hb,hg,hr,hk=>by
  have gk:=hg.k
  have go:=hg.o
  have gw:=hg.w
  show Zhq (Yv (k+1)).1 (Yv (k+1)).2.1 (Yv (k+1)).2.2 e=_
  unfold Zhq
  rw [Znr] at hr
  by_cases hd:d=0
  ·rw [if_pos hd] at hr;cases hr
  rw [if_neg hd] at hr
  by_cases h0:e.Kind=0
  ·rw [beq_eq_false_iff_ne.2 (by omega:¬ e.Kind=1),cond_false,beq_eq_false_iff_ne.2 (by omega:¬ e.Kind=2),cond_false,beq_eq_false_iff_ne.2 (by omega:¬ e.Kind=3),cond_false,Zlt,if_pos h0]
  rw [if_neg h0] at hr
  by_cases h1:e.Kind=1
  ·rw [if_pos h1] at hr
   simp only [Bool.and_eq_true] at hr
   have hl:e.List_=0:=by
    have:=hr.1.2
    unfold Zgd at this
    rw [Bool.and_eq_true,beq_iff_eq] at this
    exact this.1
   have ev:IntKind.u64.wrap e.Kind=hdE e:=by rw [Z49 (by omega) (by omega),Zsv (by omega),hl];omega
   rw [show (e.Kind == 1)=true from by rw [h1];rfl,cond_true,Zin,Option.bind_some,Zlt,if_neg h0,if_pos h1,ev]
  rw [if_neg h1] at hr
  rw [beq_eq_false_iff_ne.2 h1,cond_false]
  by_cases h2:e.Kind=2
  ·rw [if_pos h2] at hr
   simp only [Bool.and_eq_true] at hr
   obtain ⟨⟨_,hlo⟩,hw,hkd⟩:=hr
   have hl:e.List_=0:=by
    unfold Zgd at hlo
    rw [Bool.and_eq_true,beq_iff_eq] at hlo
    exact hlo.1
   have ev:IntKind.u64.wrap e.Kind=hdE e:=by rw [Z49 (by omega) (by omega),Zsv (by omega),hl];omega
   have hwr:=Zku Zt3 _ _ hw
   have hwm:=Zki (Q:=fun x:Z6=>x.Mask≠0) (fun p x hx=>by
    unfold okW at hx
    simp only [Bool.not_eq_true',Bool.or_eq_false_iff,beq_eq_false_iff_ne] at hx
    exact hx.1.1.2) _ _ hw
   have hkm:=Zki (Q:=fun x:Zn=>x.E.Kind≠0∧rE x.E (d - 1)=true) (fun p x hx=>by
    unfold okK okP at hx
    simp only [Bool.and_eq_true,bne_iff_ne] at hx
    exact hx.2) _ _ hkd
   have hkids:(Yv (k+1)).2.1 e.Kids=some (Zls (e.Kids.map fun k=>kT k (TE k.E))):=by
    show Zcp (Yv k).1 (Yv k).2.1 (Yv k).2.2 e.Kids=_
    unfold Zcp
    rw [Yhl e.Kids (fun k=>kT k (TE k.E)) (U9 (Yv k).1 e.Kids) gk (fun i x out hi hx hm ho=>by
     unfold U9
     simp only
     rw [V0 hi,cond_true,Ym hx,Option.bind_some,Z2p k x.E (d - 1) (hb.ks x hm) (hg.ks x hm) (hkm x hm).2 (by have:=Ub hm;omega),Option.bind_some,Zin,Option.bind_some,Z33 ho]
     rfl) (fun out=>by
     unfold U9
     simp only
     rw [Vu,cond_false]),Option.bind_some,Z52]
    rfl
   rw [show (e.Kind == 2)=true from by rw [h2];rfl,cond_true,Yfc gw (fun w hw'=>by
    have a1:=hwr.1 w hw'
    have a2:=hwm w hw'
    have a3:=(hb.ws w hw').1
    omega),Option.bind_some,hkids,Option.bind_some,Zin,Option.bind_some,Zlt,if_neg h0,if_neg h1,if_pos h2,ev]
  rw [if_neg h2] at hr
  rw [beq_eq_false_iff_ne.2 h2,cond_false]
  by_cases h3:e.Kind=3
  ·rw [if_pos h3] at hr
   simp only [Bool.and_eq_true,decide_eq_true_eq,List.all_eq_true] at hr
   obtain ⟨_,⟨l2,l9⟩,hops,_⟩:=hr
   have ev:IntKind.u64.wrap (Ut .u64 (IntKind.u64.wrap e.Kind) (IntKind.u64.wrap ((IntKind.u64.wrap e.List_) * 2 ^ min (Int.toNat 8) 64)))=hdE e:=by
    rw [Z49 (by omega) (by omega),Ymg (by omega) (by omega) (by omega) (by omega)]
    omega
   have hopt:(Yv (k+1)).2.2 e.List_ e.Ops=some (Zls (e.Ops.map fun o=>opT e.List_ o (TE o.E))):=by
    show Zdt (Yv k).1 (Yv k).2.1 (Yv k).2.2 e.List_ e.Ops=_
    unfold Zdt
    rw [Yhl e.Ops (fun o=>opT e.List_ o (TE o.E)) (G5 (Yv k).1 e.List_ e.Ops) go (fun i x out hi hx hm ho=>by
     obtain ⟨k1,k2,k3⟩:=Ymj (hops x hm)
     have hv:=Yi2 k1 k2
     unfold G5
     simp only
     rw [V0 hi,cond_true,Ym hx,Option.bind_some,hv]
     unfold opT
     by_cases q0:x.Kind=0
     ·rw [show (x.Kind == 0)=true from by rw [q0];rfl,cond_true,Zin,Option.bind_some,Z33 ho,if_neg (by omega),if_neg (by omega)]
      rfl
     rw [beq_eq_false_iff_ne.2 q0,cond_false]
     by_cases q3:x.Kind=3
     ·rw [beq_eq_false_iff_ne.2 (by omega:¬ x.Kind=1),cond_false,Option.bind_some]
      simp only
      rw [beq_eq_false_iff_ne.2 (by omega:¬ x.Kind=2),cond_false,show (x.Kind == 3)=true from by rw [q3];rfl,cond_true,Z2p k x.E (d - 1) (hb.os x hm) (hg.os x hm) (k3 q3) (by have:=Zaw hm;omega),Option.bind_some,Zin,Option.bind_some,Z33 ho,if_pos q3]
      rfl
     ·rw [if_neg q3,if_pos (by omega)]
      by_cases q1:x.Kind=1
      ·rw [show (x.Kind == 1)=true from by rw [q1];rfl,cond_true,Option.bind_some]
       simp only
       rw [cond_true,Zin,Option.bind_some,Z33 ho]
       rfl
      rw [beq_eq_false_iff_ne.2 q1,cond_false,Option.bind_some]
      simp only
      rw [show (x.Kind == 2)=true from by rw [show x.Kind=2 by omega];rfl,cond_true,Zin,Option.bind_some,Z33 ho]
      rfl) (fun out=>by
     unfold G5
     simp only
     rw [Vu,cond_false]),Option.bind_some,Z52]
    rfl
   rw [show (e.Kind == 3)=true from by rw [h3];rfl,cond_true,hopt,Option.bind_some,ev,Zin,Option.bind_some,Zlt,if_neg h0,if_neg h1,if_neg h2]
  rw [if_neg h3] at hr;cases hr
theorem Yhp {e:Ed} {d:Nat} (hb:BE e) (hg:GN e) (hr:rE e d=true):Zoo e=some (TE e):=Zeg (2 * SizeOf.sizeOf e+1) fun k hk=>Z2p k e d hb hg hr (by omega)
theorem Z8z {e:Ed} (hb:BE e):Gg e=some true:=by
 obtain ⟨b,h1,h2⟩:=Yi0 hb
 unfold Gg
 rw [h1,Option.bind_some]
 cases b with
 | false=>rw [Yb8];rfl
 | true =>
 rw [Bool.not_true,cond_false]
 obtain ⟨mc,hr⟩:=h2 rfl
 have bt:=Yid _ e (Nat.lt_succ_self _) hb mc.g
 have hct:=Yi1 hb h1
 have hpt:=Yho _ e (Nat.lt_succ_self _)
 have hren:Zkk e=some (rE e 64):=Yer hb
 unfold Zid
 rw [hren,hr,Option.bind_some,Bool.not_true,cond_false,Yhp hb mc.g hr,Option.bind_some,(Yeq bt (by omega) 131072).1,Option.bind_some,Yb8]
 cases q:(enc (TE e) 131072).2 with
 | false=>rfl
 | true =>
 obtain ⟨a1,a2,a3,a4⟩:=Yga q
 have hf:Fine (nrm (TE e)) 64:=Fine.nrm ⟨bt,a2,by omega⟩
 have hm:Nm (nrm (TE e)) 64:=⟨hf,Ztz _,by rw [Ur];exact a1⟩
 have hsz:=Z4l hf.rt hf.pt
 have hln:=(Ykl hf hm.k a3).1
 have hws:=Ypl hm a3
 have hlim:Zie=some (⟨64,65536,0,0⟩:X4):=rfl
 rw [Bool.not_true,cond_false,a4,Yky hws,Option.bind_some,hlim,Option.bind_some,Yf5 (A:=⟨[ly (nrm (TE e)) [0] 0],0,0⟩) hws,Option.bind_some]
 by_cases hv:(Yf6 ⟨[ly (nrm (TE e)) [0] 0],0,0⟩ ⟨64,65536,0,0⟩).2=0
 ·have e0:((Yf6 ⟨[ly (nrm (TE e)) [0] 0],0,0⟩ ⟨64,65536,0,0⟩).2 != 0)=false:=bne_eq_false_iff_eq.2 hv
  have el:(((ly (nrm (TE e)) [0] 0).length:Int) == IntKind.i64.wrap (1+sz (nrm (TE e))))=true:=by
   rw [Yn (by omega) (by omega),beq_iff_eq]
   exact hln
  rw [e0,cond_false,Option.bind_some]
  simp only
  rw [cond_true,Z4w hb mc.g hr a2,Option.bind_some,el]
  rfl
 have e0:((Yf6 ⟨[ly (nrm (TE e)) [0] 0],0,0⟩ ⟨64,65536,0,0⟩).2 != 0)=true:=bne_iff_ne.2 hv
 rw [e0,cond_true]
 rfl
end Go.Proofs.YtmlcnhambfkjaaaGreat
