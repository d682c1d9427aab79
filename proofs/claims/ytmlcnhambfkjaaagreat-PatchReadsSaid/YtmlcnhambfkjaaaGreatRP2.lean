/- Plain facts on this seat's mirrors (part RP2); each theorem bears its own conditions. -/
import Derived.Test.YtmlcnhambfkjaaaGreatRP1
import Derived.IntWalk
namespace Go.Proofs.YtmlcnhambfkjaaaGreat
open Go.RowKit
set_option linter.unusedVariables false
set_option linter.unusedSimpArgs false
theorem Ya0:∀ (k:Nat),(∀ (e:Ed) (d:Nat),BE e→2 * SizeOf.sizeOf e < k→d≤64→(Y2 k).1 e (d:Int)=some (rE e d)) ∧
  (∀ (l:Int) (o:Zt) (d:Nat),2≤l→l≤9→BO o→2 * SizeOf.sizeOf o.E+1 < k→d≤64→(Y2 k).2 l o (d:Int)=some (okO l o (rE o.E d)))
 | 0=>⟨fun e d _ h=>by omega,fun l o d _ _ _ h=>by omega⟩
 | k+1=>by
  obtain ⟨i1,i2⟩:=Ya0 k
  refine ⟨fun e d hb hk hd => ?_,fun l o d h2 h9 hb hk hd => ?_⟩
  ·show Zaa (Y2 k).1 (Y2 k).2 e (d:Int)=_
   unfold Zaa
   rw [Zrb,Zws hb.old,Zws hb.new,Yf2 hb,Ydw,Z62 hb,Ygm hb]
   by_cases hd0:d=0
   ·subst hd0
    rw [if_pos rfl]
    rfl
   have ed:((d:Int) == 0)=false:=by rw [beq_eq_false_iff_ne];omega
   rw [if_neg hd0,ed,cond_false]
   obtain ⟨d',rfl⟩:∃ d',d=d'+1:=⟨d - 1,by omega⟩
   have ed':IntKind.i64.wrap (((d'+1:Nat):Int) - 1)=(d':Int):=by rw [Ur (by omega) (by omega)];omega
   by_cases hbad:e.Kind < 0∨3 < e.Kind
   ·have q:cond (decide (e.Kind < 0)) true (decide (3 < e.Kind))=true:=by
     rcases hbad with h | h
     ·rw [decide_eq_true h];rfl
     rw [decide_eq_true h];cases decide (e.Kind < 0) <;> rfl
    rw [q,cond_true,if_neg (by omega),if_neg (by omega),if_neg (by omega),if_neg (by omega)]
   have q:cond (decide (e.Kind < 0)) true (decide (3 < e.Kind))=false:=by
    rw [decide_eq_false (by omega),decide_eq_false (by omega)]
    rfl
   rw [q,cond_false]
   simp only [Option.bind_some]
   have hkids:Z3 (Ka (Y2 k).1 e ((d'+1:Nat):Int)) (-1,0)=some (if chk (·.At) (okK d') (-1) e.Kids=true then Sum.inr () else Sum.inl ()) :=
    Ztc e.Kids (·.At) (okK d') (Ka (Y2 k).1 e ((d'+1:Nat):Int)) (.inl ()) (.inr ()) hb.k (fun p i x hi hx hm=>by
     unfold Ka
     simp only
     rw [Zba hi,cond_true,Xa hx,Option.bind_some,ed',i1 x.E d' (hb.ks x hm) (by have:=Zht hm;omega) (by omega)]
     simp only [Option.bind_some]
     unfold okK okP bne
     simp only
     generalize decide (x.At≤p)=q1
     generalize decide (65534 < x.At)=q2
     generalize (x.E.Kind == 0)=q3
     generalize rE x.E d'=q4
     cases q1 <;> cases q2 <;> cases q3 <;> cases q4 <;> rfl) (fun p=>by unfold Ka;simp only;rw [Zbz];rfl) (-1)
   have hnil:e.Ops=[]→Z3 (Jm (Y2 k).2 e ((d'+1:Nat):Int)) 0=some (Sum.inr ()):=fun h=>Y8 (by
    unfold Jm
    rw [h]
    rfl)
   have wk_nil:Zjq e=true→e.Words=[]∧e.Kids=[]:=fun h=>by
    unfold Zjq at h
    rw [Bool.and_eq_true,beq_iff_eq,beq_iff_eq] at h
    exact ⟨List.eq_nil_of_length_eq_zero h.1,List.eq_nil_of_length_eq_zero h.2⟩
   have lo_nil:Zg9 e=true→e.List_=0∧e.Ops=[]:=fun h=>by
    unfold Zg9 at h
    rw [Bool.and_eq_true,beq_iff_eq,beq_iff_eq] at h
    exact ⟨h.1,List.eq_nil_of_length_eq_zero h.2⟩
   rw [Nat.add_sub_cancel]
   by_cases h0:e.Kind=0
   ·rw [if_pos h0]
    unfold Zdy Zkp
    rw [h0]
    cases hwk:Zjq e with
    | false=>cases Zby e.Old <;> cases Zby e.New <;> cases Zg9 e <;> rfl
    | true =>
     cases hlo:Zg9 e with
     | false=>cases Zby e.Old <;> cases Zby e.New <;> rfl
     | true =>
      obtain ⟨w0,k0⟩:=wk_nil hwk
      obtain ⟨l0,o0⟩:=lo_nil hlo
      rw [hkids,hnil o0,w0,k0,o0]
      cases Zby e.Old <;> cases Zby e.New <;> rfl
   rw [if_neg h0]
   by_cases h1:e.Kind=1
   ·have r1:=Zqj hb.old (d:=64) (by decide)
    have r2:=Zqj hb.new (d:=64) (by decide)
    rw [show ((64:Nat):Int)=64 from rfl] at r1 r2
    rw [if_pos h1,h1,r1,r2]
    simp only [Option.bind_some]
    generalize Zjq e=q1
    generalize Zg9 e=q2
    generalize rt e.Old 64=q3
    generalize rt e.New 64=q4
    generalize (e.Old.Kind != 10)=q5
    generalize (e.New.Kind != 10)=q6
    cases q1 <;> cases q2 <;> cases q3 <;> cases q4 <;> cases q5 <;> cases q6 <;> rfl
   rw [if_neg h1]
   by_cases h2:e.Kind=2
   ·rw [if_pos h2,h2]
    unfold Zkp
    cases hlo:Zg9 e with
    | false=>cases Zby e.Old <;> cases Zby e.New <;> rfl
    | true =>
     obtain ⟨l0,o0⟩:=lo_nil hlo
     rw [hkids,hnil o0,o0]
     generalize chk (·.At) okW (-1) e.Words=q1
     generalize chk (·.At) (okK d') (-1) e.Kids=q2
     cases Zby e.Old <;> cases Zby e.New <;> cases q1 <;> cases q2 <;> rfl
   have h3:e.Kind=3:=by omega
   rw [if_neg h2,if_pos h3,h3]
   unfold Zkp
   cases hwk:Zjq e with
   | false=>cases Zby e.Old <;> cases Zby e.New <;> rfl
   | true =>
    obtain ⟨w0,k0⟩:=wk_nil hwk
    rw [hkids,w0,k0]
    by_cases hl:2≤e.List_∧e.List_≤9
    ·have hops:Z3 (Jm (Y2 k).2 e ((d'+1:Nat):Int)) 0=some (if (e.Ops.all fun o=>okO e.List_ o (rE o.E d'))=true then Sum.inr () else Sum.inl ()) :=
      Zer e.Ops _ (fun o=>okO e.List_ o (rE o.E d')) (Sum.inl ():Unit ⊕ Unit) (Sum.inr ()) hb.o (fun i x hi hx hm=>by
       unfold Jm
       rw [Zba hi,cond_true,Xa hx,Option.bind_some,ed',i2 e.List_ x d' hl.1 hl.2 ⟨hb.l x hm,hb.os x hm⟩ (by have:=Zk3 hm;omega) (by omega),Option.bind_some]
       cases okO e.List_ x (rE x.E d') <;> rfl) (by unfold Jm;rw [Zbz];rfl)
     rw [hops,decide_eq_true hl.1,decide_eq_true hl.2,decide_eq_false (p:=e.List_ < 2) (by omega),decide_eq_false (p:=9 < e.List_) (by omega)]
     unfold Zlw
     generalize (e.Ops.all fun o=>okO e.List_ o (rE o.E d'))=q1
     generalize decide ((e.Ops.foldl stR (0,0)).1 < 1048576)=q2
     generalize decide ((e.Ops.foldl stR (0,0)).2 < 1048576)=q3
     cases Zby e.Old <;> cases Zby e.New <;> cases q1 <;> cases q2 <;> cases q3 <;> rfl
    have q:cond (decide (e.List_ < 2)) true (decide (9 < e.List_))=true:=by
     by_cases h:e.List_ < 2
     ·rw [decide_eq_true h];rfl
     rw [decide_eq_true (p:=9 < e.List_) (by omega)];cases decide (e.List_ < 2) <;> rfl
    have q':(decide (2≤e.List_) && decide (e.List_≤9))=false:=by rw [Bool.and_eq_false_iff,decide_eq_false_iff_not,decide_eq_false_iff_not];omega
    rw [q,q']
    cases Zby e.Old <;> cases Zby e.New <;> rfl
  show Zdf (Y2 k).1 (Y2 k).2 l o (d:Int)=_
  have hlen:(o.L.length:Int)≤140737488355328:=by have:=hb.1.1;omega
  have hloop:Z3 (Zab l o) 0=some (if (o.L.all fun t=>rt t 63 && okk l t)=true then Sum.inr () else Sum.inl ()) :=
   Zer o.L _ (fun t=>rt t 63 && okk l t) (Sum.inl ():Unit ⊕ Unit) (Sum.inr ()) hlen (fun i x hi hx hm=>by
    unfold Zab
    have hbx:Bd ⟨l,[],[x]⟩:=Yhq ⟨by simp,fun t ht=>by rw [List.mem_singleton.1 ht];exact hb.1.2 x hm⟩
    have r1:=Zqj hbx (d:=64) (by decide)
    rw [show ((64:Nat):Int)=64 from rfl,Yh0 h2 h9] at r1
    rw [Zba hi,cond_true,Yg5 hx hlen,Option.bind_some,r1,Option.bind_some]
    simp only [List.all_cons,List.all_nil,Bool.and_true,List.length_singleton]
    cases rt x 63 && okk l x <;> rfl) (by unfold Zab;rw [Zbz];rfl)
  unfold Zdf okO
  rw [Yet hb.2,i1 o.E d hb.2 (by omega) hd,hloop,Z8c,Z3e,Z6j]
  simp only [Option.bind_some]
  by_cases h0:o.Kind=0
  ·rw [if_pos h0,h0]
   generalize decide (1≤o.N)=q1
   generalize decide (o.N≤1048576)=q2
   generalize (o.L.length == 0)=q3
   generalize Zdy o.E=q4
   cases q1 <;> cases q2 <;> cases q3 <;> cases q4 <;> rfl
  rw [if_neg h0,beq_eq_false_iff_ne.2 h0,cond_false]
  by_cases h12:o.Kind=1∨o.Kind=2
  ·rw [if_pos h12,decide_eq_false (p:=o.Kind < 0) (by omega),decide_eq_false (p:=3 < o.Kind) (by omega),decide_eq_true (p:=o.Kind < 3) (by omega)]
   unfold bne
   generalize (o.N == 0)=q1
   generalize (o.L.length == 0)=q2
   generalize (o.L.all fun t=>rt t 63 && okk l t)=q3
   generalize Zdy o.E=q4
   cases q1 <;> cases q2 <;> cases q3 <;> cases q4 <;> rfl
  rw [if_neg h12]
  by_cases h3:o.Kind=3
  ·rw [if_pos h3,h3]
   unfold bne Zxh
   by_cases k0:o.E.Kind=0
   ·rw [k0]
    generalize (o.N == 0)=q1
    generalize (o.L.length == 0)=q2
    cases q1 <;> cases q2 <;> rfl
   rw [beq_eq_false_iff_ne.2 k0]
   by_cases l8:l=8
   ·rw [if_pos l8,l8]
    unfold bne
    rw [beq_eq_false_iff_ne.2 k0]
    generalize (o.N == 0)=q1
    generalize (o.L.length == 0)=q2
    generalize rE o.E d=q3
    cases q1 <;> cases q2 <;> cases q3 <;> rfl
   rw [if_neg l8]
   by_cases l9:l=9
   ·rw [if_pos l9,l9]
    generalize (o.N == 0)=q1
    generalize (o.L.length == 0)=q2
    generalize rE o.E d=q3
    generalize (o.E.Kind == 2)=q4
    generalize (o.E.Kind == 1)=q5
    generalize (o.E.Old.Kind == 1)=q6
    generalize (o.E.New.Kind == 1)=q7
    cases q1 <;> cases q2 <;> cases q3 <;> cases q4 <;> cases q5 <;> cases q6 <;> cases q7 <;> rfl
   rw [if_neg l9,decide_eq_true (p:=l≤7) (by omega)]
   generalize (o.N == 0)=q1
   generalize (o.L.length == 0)=q2
   cases q1 <;> cases q2 <;> rfl
  rw [if_neg h3]
  have q:cond (cond (o.N != 0) true (decide (o.Kind < 0))) true (decide (3 < o.Kind))=true:=by
   by_cases h:o.Kind < 0
   ·rw [decide_eq_true h];cases o.N != 0 <;> rfl
   rw [decide_eq_true (p:=3 < o.Kind) (by omega)];cases cond (o.N != 0) true (decide (o.Kind < 0)) <;> rfl
  rw [q]
  rfl
theorem Ygg {e:Ed} (h:BE e) {d:Nat} (hd:d≤64):Zc4 e (d:Int)=some (rE e d):=Zbs (2 * SizeOf.sizeOf e+1) fun k hk=>(Ya0 k).1 e d h (by omega) hd
def ce (e:Ed):Nat:=1+e.Words.length+e.Ops.length+(e.Kids.attach.map fun k=>ce k.1.E).sum+(e.Ops.attach.map fun o=>ce o.1.E).sum
termination_by SizeOf.sizeOf e
decreasing_by
 ·exact Zht k.2
 exact Zk3 o.2
theorem Yay (e:Ed):ce e=1+e.Words.length+e.Ops.length+(e.Kids.map fun k=>ce k.E).sum+(e.Ops.map fun o=>ce o.E).sum:=by
 rw [ce]
 have h1:(e.Kids.attach.map fun k=>ce k.1.E)=e.Kids.map fun k=>ce k.E:=List.attach_map_val (f:=fun k:Zl=>ce k.E)
 have h2:(e.Ops.attach.map fun o=>ce o.1.E)=e.Ops.map fun o=>ce o.E:=List.attach_map_val (f:=fun o:Zt=>ce o.E)
 rw [h1,h2]
theorem Ygw {e:Ed} (hb:BE e) {d:Nat} (h:rE e d=true):e.Ops.foldl stR (0,0)=e.Ops.foldl stI (0,0):=by
 have h0:Sm (0,0):=by unfold Sm;simp
 have hnil:Zg9 e=true→e.Ops.foldl stR (0,0)=e.Ops.foldl stI (0,0):=fun h=>by
  unfold Zg9 at h
  rw [Bool.and_eq_true,beq_iff_eq,beq_iff_eq] at h
  rw [List.eq_nil_of_length_eq_zero h.2]
  rfl
 rw [Zrb] at h
 split at h
 ·cases h
 split at h
 ·unfold Zdy at h
  simp only [Bool.and_eq_true] at h
  exact hnil h.2.2.2
 split at h
 ·simp only [Bool.and_eq_true] at h
  exact hnil h.1.2
 split at h
 ·simp only [Bool.and_eq_true] at h
  exact hnil h.1.2
 split at h
 ·simp only [Bool.and_eq_true] at h
  exact (Zus (fun o=>rE o.E (d - 1)) e.Ops (0,0) h0 (List.all_eq_true.1 h.2.2.1) (fun o ho=>(hb.l o ho).1)).1
 cases h
theorem Zp1 {α:Type} {pl:α→Int} {ok:Int→α→Bool} {Q:α→Prop} (h:∀ p x,ok p x=true→Q x):∀ (xs:List α) (p:Int),chk pl ok p xs=true→∀ x∈xs,Q x
 | [],_,_=>fun x hx=>by cases hx
 | y::xs,p,hc=>fun x hx=>by
  rw [chk,Bool.and_eq_true] at hc
  rcases List.mem_cons.1 hx with rfl | hx
  ·exact h p _ hc.1
  exact Zp1 h xs (pl y) hc.2 x hx
abbrev EO:=Zt
def n0T:Tr:=⟨0,[],[]⟩
theorem Zjb {α β:Type} (xs:List α) (f:α→β) (step:Int×List β→Option ((Int×List β) ⊕ List β)) (acc:List β) (hl:(xs.length:Int)≤140737488355328)
  (h1:∀ (i:Nat) (x:α) (out:List β),i < xs.length→xs[i]? = some x→x∈xs→out.length=acc.length+i→step ((i:Int),out)=some (.inl (IntKind.i64.wrap ((i:Int)+1),out++[f x])))
  (h2:∀ out,step ((xs.length:Int),out)=some (.inr out)):Z3 step (0,acc)=some (acc++xs.map f):=by
 have key:∀ m i,i+m=xs.length→Z3 step ((i:Int),acc++(xs.take i).map f)=some (acc++xs.map f):=fun m=>by
  induction m with
  | zero =>
   intro i hi
   have hi':i=xs.length:=by omega
   subst hi'
   rw [List.take_length]
   exact Y8 (h2 _)
  | succ m ih =>
   intro i hi
   have hx:xs[i]? = some xs[i]:=List.getElem?_eq_getElem (by omega)
   have h:=h1 i _ (acc++(xs.take i).map f) (by omega) hx (List.mem_of_getElem? hx) (by rw [List.length_append,List.length_map,List.length_take];omega)
   rw [Ur (by omega) (by omega)] at h
   rw [Qh h]
   have e:acc++(xs.take i).map f++[f xs[i]]=acc++(xs.take (i+1)).map f:=by
    rw [List.take_add_one,hx,List.map_append,List.append_assoc]
    rfl
   rw [e]
   exact ih (i+1) (by omega)
 have:=key xs.length 0 (by omega)
 simpa using this
def thN (o:EO):Nat:=if o.Kind=0 then o.N.toNat else if o.Kind=3 then 1 else o.L.length
def opk (o:EO):Prop:=(o.Kind=0∧1≤o.N)∨(o.Kind=1∧o.L≠[])∨(o.Kind=2∧o.L≠[])∨o.Kind=3
def Zom (l:List EO):Nat:=(l.map thN).sum
inductive GN:Ed→Prop
 | mk (e:Ed) (hw:e.Words.length≤1048576) (hk:e.Kids.length≤1048576) (ho:e.Ops.length≤1048576) (hs:Zom e.Ops≤1073741824) (hp:∀ o∈e.Ops,opk o) (ik:∀ k∈e.Kids,GN k.E) (io:∀ o∈e.Ops,GN o.E):GN e
theorem GN.w {e:Ed} (h:GN e):e.Words.length≤1048576:=by cases h;assumption
theorem GN.k {e:Ed} (h:GN e):e.Kids.length≤1048576:=by cases h;assumption
theorem GN.o {e:Ed} (h:GN e):e.Ops.length≤1048576:=by cases h;assumption
theorem GN.s {e:Ed} (h:GN e):Zom e.Ops≤1073741824:=by cases h;assumption
theorem GN.ks {e:Ed} (h:GN e):∀ k∈e.Kids,GN k.E:=by cases h;assumption
theorem GN.os {e:Ed} (h:GN e):∀ o∈e.Ops,GN o.E:=by cases h;assumption
theorem Ygi {e:Ed} (h:Zdy e=true):GN e:=by
 unfold Zdy Zjq Zg9 at h
 simp only [Bool.and_eq_true,beq_iff_eq] at h
 obtain ⟨_,_,⟨h1,h2⟩,_,h3⟩:=h
 have w:=List.eq_nil_of_length_eq_zero h1
 have k:=List.eq_nil_of_length_eq_zero h2
 have o:=List.eq_nil_of_length_eq_zero h3
 exact .mk _ (by rw [w];simp) (by rw [k];simp) (by rw [o];simp) (by rw [o];simp [Zom]) (by rw [o];simp) (by rw [k];simp) (by rw [o];simp)
theorem Yhg {l:Int} {o:EO} {r:Bool} (h:okO l o r=true):((thN o:Nat):Int)=thr o:=by
 unfold okO at h
 unfold thN thr
 by_cases h0:o.Kind=0
 ·rw [if_pos h0] at h
  simp only [Bool.and_eq_true,decide_eq_true_eq] at h
  rw [if_pos h0,if_pos h0]
  split <;> split at * <;> omega
 rw [if_neg h0] at h ⊢
 rw [if_neg h0]
 by_cases h12:o.Kind=1∨o.Kind=2
 ·rw [if_pos h12,if_neg (by omega)]
 rw [if_neg h12] at h ⊢
 by_cases h3:o.Kind=3
 ·rw [if_pos h3,if_pos h3];rfl
 rw [if_neg h3] at h;cases h
theorem Ybf {l:Int} {o:EO} {r:Bool} (h:okO l o r=true):opk o:=by
 unfold okO at h
 unfold opk
 by_cases h0:o.Kind=0
 ·rw [if_pos h0] at h
  simp only [Bool.and_eq_true,decide_eq_true_eq] at h
  exact .inl ⟨h0,h.1.1⟩
 rw [if_neg h0] at h
 by_cases h12:o.Kind=1∨o.Kind=2
 ·rw [if_pos h12] at h
  simp only [Bool.and_eq_true,decide_eq_true_eq] at h
  have hne:o.L≠[]:=by
   intro he
   rw [he] at h
   simp at h
  rcases h12 with h1 | h2
  ·exact .inr (.inl ⟨h1,hne⟩)
  exact .inr (.inr (.inl ⟨h2,hne⟩))
 rw [if_neg h12] at h
 by_cases h3:o.Kind=3
 ·exact .inr (.inr (.inr h3))
 rw [if_neg h3] at h;cases h
theorem Z7f {l:Int} (r:EO→Bool):∀ (os:List EO) (s:Int×Int),Sm s→(∀ o∈os,okO l o (r o)=true)→(∀ o∈os,o.L.length * 56≤140737488355328)→Zlw (os.foldl stI s)=true→s.1+s.2+((Zom os:Nat):Int)≤(os.foldl stI s).1+(os.foldl stI s).2
 | [],s,_,_,_,_=>by simp [Zom]
 | o::os,s,hs,h,hl,hb=>by
  have hsm:=Zy2 hs (hl o (.head _))
  have hup:=Z2k os (stI s o) hsm (fun x hx=>hl x (.tail _ hx))
  have ih:=Z7f r os (stI s o) hsm (fun x hx=>h x (.tail _ hx)) (fun x hx=>hl x (.tail _ hx)) hb
  have hso:Zom (o::os)=thN o+Zom os:=by unfold Zom;simp
  have ht:=Yhg (h o (.head _))
  rw [List.foldl_cons] at hb ⊢
  unfold Zlw at hb
  rw [Bool.and_eq_true,decide_eq_true_eq,decide_eq_true_eq] at hb
  have n1:(stI s o).1≠1048576:=fun he=>by have:=hup.1 he;omega
  have n2:(stI s o).2≠1048576:=fun he=>by have:=hup.2 he;omega
  have key:s.1+s.2+thr o≤(stI s o).1+(stI s o).2:=by
   have hth:0≤thr o:=by omega
   unfold stI Zrc at n1 n2 ⊢
   simp only at n1 n2 ⊢
   by_cases k2:o.Kind=2
   ·rw [if_neg (by omega:¬ o.Kind=1)] at n2 ⊢
    rw [if_pos k2]
    split at n2
    ·omega
    rename_i h5;rw [if_neg h5];omega
   rw [if_neg k2] at n1 ⊢
   split at n1
   ·omega
   rename_i h5
   rw [if_neg h5]
   by_cases k1:o.Kind=1
   ·rw [if_pos k1];omega
   rw [if_neg k1] at n2 ⊢
   split at n2
   ·omega
   rename_i h6;rw [if_neg h6];omega
  rw [hso]
  omega
theorem Zxu {α:Type} {f:α→Nat} {x:α}:∀ {l:List α},x∈l→f x≤(l.map f).sum
 | y::l,h=>by
  rw [List.map_cons,List.sum_cons]
  rcases List.mem_cons.1 h with rfl | h
  ·omega
  have:=Zxu (f:=f) h;omega
theorem Z6k {α:Type} {f:α→Nat}:∀ {l:List α},(∀ x∈l,1≤f x)→l.length≤(l.map f).sum
 | [],_=>Nat.le_refl _
 | y::l,h=>by
  rw [List.map_cons,List.sum_cons,List.length_cons]
  have:=Z6k (f:=f) (l:=l) fun x hx=>h x (by simp [hx])
  have:=h y (by simp)
  omega
theorem Yjs (e:Ed):1≤ce e:=by rw [Yay];omega
theorem Ya2:∀ (n:Nat) (e:Ed) (d:Nat),SizeOf.sizeOf e < n→BE e→ce e≤1000000→rE e d=true→GN e
 | 0,_,_,h,_,_,_=>by omega
 | n+1,e,d,hn,hb,hc,h=>by
  have hc':=hc
  rw [Yay] at hc'
  have hk1:e.Kids.length≤(e.Kids.map fun k=>ce k.E).sum:=Z6k fun x _=>Yjs _
  have hlens:=Ygw hb h
  have hparts:(∀ k∈e.Kids,∃ d',rE k.E d'=true)∧(∀ o∈e.Ops,opk o∧(Zdy o.E=true∨∃ d',rE o.E d'=true))∧Zom e.Ops≤2097152:=by
   rw [Zrb] at h
   by_cases hd:d=0
   ·rw [if_pos hd] at h;cases h
   rw [if_neg hd] at h
   by_cases h0:e.Kind=0
   ·rw [if_pos h0] at h
    unfold Zdy Zjq Zg9 at h
    simp only [Bool.and_eq_true,beq_iff_eq] at h
    obtain ⟨_,_,⟨h1,h2⟩,_,h3⟩:=h
    rw [List.eq_nil_of_length_eq_zero h2,List.eq_nil_of_length_eq_zero h3]
    simp [Zom]
   rw [if_neg h0] at h
   by_cases h1:e.Kind=1
   ·rw [if_pos h1] at h
    unfold Zjq Zg9 at h
    simp only [Bool.and_eq_true,beq_iff_eq] at h
    rw [List.eq_nil_of_length_eq_zero h.1.1.2,List.eq_nil_of_length_eq_zero h.1.2.2]
    simp [Zom]
   rw [if_neg h1] at h
   by_cases h2:e.Kind=2
   ·rw [if_pos h2] at h
    unfold Zg9 at h
    simp only [Bool.and_eq_true,beq_iff_eq] at h
    rw [List.eq_nil_of_length_eq_zero h.1.2.2]
    refine ⟨fun k hk=>⟨d - 1,?_⟩,by simp,by simp [Zom]⟩
    exact Zp1 (Q:=fun k:Zl=>rE k.E (d - 1)=true) (fun p x hx=>by
     unfold okK okP at hx
     simp only [Bool.and_eq_true] at hx
     exact hx.2.2) e.Kids (-1) h.2.2 k hk
   rw [if_neg h2] at h
   by_cases h3:e.Kind=3
   ·rw [if_pos h3] at h
    unfold Zjq at h
    rw [Bool.and_eq_true,Bool.and_eq_true,Bool.and_eq_true,Bool.and_eq_true,Bool.and_eq_true,Bool.and_eq_true,beq_iff_eq,beq_iff_eq,List.all_eq_true] at h
    obtain ⟨⟨_,_,hk⟩,_,hall,hB⟩:=h
    rw [List.eq_nil_of_length_eq_zero hk]
    refine ⟨by simp,fun o ho=>⟨Ybf (hall o ho),?_⟩,?_⟩
    ·have:=hall o ho
     unfold okO at this
     by_cases k0:o.Kind=0
     ·rw [if_pos k0] at this
      simp only [Bool.and_eq_true] at this
      exact .inl this.2.2
     rw [if_neg k0] at this
     by_cases k12:o.Kind=1∨o.Kind=2
     ·rw [if_pos k12] at this
      simp only [Bool.and_eq_true] at this
      exact .inl this.2.2.2
     rw [if_neg k12] at this
     by_cases k3:o.Kind=3
     ·rw [if_pos k3] at this
      simp only [Bool.and_eq_true] at this
      exact .inr ⟨d - 1,this.2.2.2.2⟩
     rw [if_neg k3] at this;cases this
    rw [hlens] at hB
    have:=Z7f (l:=e.List_) (fun o=>rE o.E (d - 1)) e.Ops (0,0) ⟨⟨by decide,by decide⟩,by decide,by decide⟩ hall (fun o ho=>(hb.l o ho).1) hB
    unfold Zlw at hB
    rw [Bool.and_eq_true,decide_eq_true_eq,decide_eq_true_eq] at hB
    simp only at this
    omega
   rw [if_neg h3] at h;cases h
  refine .mk _ (by omega) (by omega) (by omega) (by omega) (fun o ho=>(hparts.2.1 o ho).1) (fun k hk => ?_) (fun o ho => ?_)
  ·obtain ⟨d',hd'⟩:=hparts.1 k hk
   have:=Zxu (f:=fun k:Zl=>ce k.E) hk
   exact Ya2 n k.E d' (by have:=Zht hk;omega) (hb.ks k hk) (by omega) hd'
  rcases (hparts.2.1 o ho).2 with hs | ⟨d',hd'⟩
  ·exact Ygi hs
  have:=Zxu (f:=fun o:Zt=>ce o.E) ho
  exact Ya2 n o.E d' (by have:=Zk3 ho;omega) (hb.os o ho) (by omega) hd'
theorem Zyx {L:List Tr} (hl:(L.length:Int)≤140737488355328) (hL:∀ t∈L,Bd t):Ve L L=some true:=by
 unfold Ve
 have e:((L.length:Int) != (L.length:Int))=false:=by simp
 rw [e,cond_false,Zer L _ (fun _=>true) (Sum.inl ():Unit ⊕ Unit) (Sum.inr ()) hl (fun i x hi hx hm=>by
  unfold Vw
  rw [Zba hi,cond_true,Xa hx,Option.bind_some,Option.bind_some,Zwx (hL x hm) (hL x hm),Zs3]
  rfl) (by unfold Vw;rw [Zbz];rfl)]
 simp
theorem Zxj:∀ (k:Nat) (e:Ed),BE e→SizeOf.sizeOf e < k→Kx k e e=some true
 | 0,_,_,h=>by omega
 | k+1,e,hb,hk=>by
  show Za7 (Kx k) e e=_
  unfold Za7
  have ne:∀ x:Int,(x != x)=false:=fun x=>by simp
  have l0:Z3 (Uj e e) 0=some (if (e.Words.all fun _=>true)=true then Sum.inr () else Sum.inl ()) :=
   Zer e.Words _ (fun _=>true) (Sum.inl ():Unit ⊕ Unit) (Sum.inr ()) hb.w (fun i x hi hx hm=>by
    unfold Uj
    rw [Zba hi,cond_true,Xa hx,Option.bind_some,Option.bind_some]
    simp) (by unfold Uj;rw [Zbz];rfl)
  have l1:Z3 (Uk (Kx k) e e) 0=some (if (e.Kids.all fun _=>true)=true then Sum.inr () else Sum.inl ()) :=
   Zer e.Kids _ (fun _=>true) (Sum.inl ():Unit ⊕ Unit) (Sum.inr ()) hb.k (fun i x hi hx hm=>by
    unfold Uk
    rw [Zba hi,cond_true,Xa hx,Option.bind_some,Option.bind_some,ne,cond_false,Zxj k x.E (hb.ks x hm) (by have:=Zht hm;omega)]
    simp) (by unfold Uk;rw [Zbz];rfl)
  have l2:Z3 (Ul (Kx k) e e) 0=some (if (e.Ops.all fun _=>true)=true then Sum.inr () else Sum.inl ()) :=
   Zer e.Ops _ (fun _=>true) (Sum.inl ():Unit ⊕ Unit) (Sum.inr ()) hb.o (fun i x hi hx hm=>by
    have hL:=hb.l x hm
    unfold Ul
    rw [Zba hi,cond_true,Xa hx,Option.bind_some,Option.bind_some,ne,ne,cond_false,cond_false,Zyx (by omega) hL.2,Option.bind_some,cond_true,Zxj k x.E (hb.os x hm) (by have:=Zk3 hm;omega)]
    simp) (by unfold Ul;rw [Zbz];rfl)
  rw [ne,ne,Zwx hb.old hb.old,Zwx hb.new hb.new,Zs3,Zs3,l0,l1,l2]
  simp
theorem Z53 {e:Ed} (hb:BE e):Zbd e e=some true:=Zbs (SizeOf.sizeOf e+1) fun k hk=>Zxj k e hb (by omega)
theorem Ygt {k:Int} {t:Tr} (h:okk k t=true):okk k (nrm t)=true:=by
 unfold okk at h ⊢
 rw [Zcp]
 split
 ·rename_i hk
  rw [if_pos hk,Bool.and_eq_true,beq_iff_eq] at h
  rw [Zdq (by omega) (by omega),h.1]
  simp only [BEq.rfl,Bool.true_and]
  exact h.2
 rename_i hk
 rw [if_neg hk] at h
 exact h
theorem Yer:∀ (n:Nat) (t:Tr) (d:Nat),SizeOf.sizeOf t < n→rt t d=true→rt (nrm t) d=true
 | 0,_,_,h,_=>by omega
 | n+1,t,d,hn,h=>by
  have hk:=Zcp t
  by_cases h0:t.Kind=0
  ·rw [Zgf h0,Zjl,if_pos rfl];rfl
  rw [Zjl,if_neg h0] at h
  by_cases h10:t.Kind=10
  ·rw [if_pos h10] at h
   rw [Zdq h0 (by omega),Zjl,if_neg h0,if_pos h10]
   simp only [List.length_map]
   exact h
  rw [if_neg h10] at h
  by_cases hc:t.Kind < 0∨10 < t.Kind∨d=0∨65536≤t.Words.length∨(t.Kind=1∧65536≤t.Kids.length)∨1048576≤t.Kids.length∨(1 < t.Kind∧0 < t.Words.length)
  ·rw [if_pos hc] at h;cases h
  rw [if_neg hc,List.all_eq_true] at h
  have hkid:∀ x∈t.Kids,(rt (nrm x) (d - 1) && okk t.Kind (nrm x))=true:=fun x hx=>by
   have:=h x hx
   rw [Bool.and_eq_true] at this ⊢
   exact ⟨Yer n x (d - 1) (by have:=Je hx;omega) this.1,Ygt this.2⟩
  by_cases h1:t.Kind=1
  ·obtain ⟨W,K,e1,lW,lK,mK⟩:∃ W K,nrm t=⟨1,W,K⟩∧W.length≤t.Words.length∧K.length≤t.Kids.length∧∀ x∈K,x∈t.Kids.map nrm :=
    ⟨_,_,V8 h1,Zlh _ _,by have h:=Zlh (fun x:Tr=>x.Kind == 0) (t.Kids.map nrm);rw [List.length_map] at h;exact h,fun x hx=>Zjx hx⟩
   rw [e1,Zjl]
   simp only
   rw [if_neg (by decide),if_neg (by decide),if_neg (by omega),List.all_eq_true]
   intro x hx
   obtain ⟨y,hy,rfl⟩:=List.mem_map.1 (mK x hx)
   rw [← h1]
   exact hkid y hy
  rw [Zdq h0 h1,Zjl]
  simp only [List.length_map]
  rw [if_neg h0,if_neg h10,if_neg hc,List.all_eq_true]
  intro x hx
  obtain ⟨y,hy,rfl⟩:=List.mem_map.1 hx
  exact hkid y hy
theorem rtN {t:Tr} {d:Nat} (h:rt t d=true):rt (nrm t) d=true:=Yer _ t d (Nat.lt_succ_self _) h
def oN (o:EO):Nat:=if o.Kind=2 then 0 else thN o
def atD {α:Type} (z:α) (l:List α) (i:Nat):α:=(l[i]?).getD z
def Ycv {α:Type} (z:α) (p:α→Bool) (l:List α) (i:Nat) (v:α):List α :=
 if i < l.length then l.set i v else if p v=true then l else l++List.replicate (i - l.length) z++[v]
theorem Ygb {α:Type} {z:α} {p:α→Bool} {l:List α} {i j:Nat} {v:α} (hv:p v=true→v=z):atD z (Ycv z p l i v) j=if j=i then v else atD z l j:=by
 unfold atD Ycv
 by_cases hi:i < l.length
 ·rw [if_pos hi,List.getElem?_set]
  by_cases e:i=j
  ·subst e;rw [if_pos rfl,if_pos hi,if_pos rfl];rfl
  rw [if_neg e,if_neg (fun q=>e q.symm)]
 rw [if_neg hi]
 cases hp:p v with
 | true =>
  rw [if_pos rfl]
  split
  ·rename_i e;subst e;rw [List.getElem?_eq_none (by omega),hv hp];rfl
  rfl
 | false =>
  rw [if_neg (by simp)]
  by_cases h1:j < l.length
  ·rw [List.append_assoc,List.getElem?_append_left h1,if_neg (by omega)]
  by_cases h2:j < i
  ·rw [List.getElem?_append_left (by simp only [List.length_append,List.length_replicate];omega),List.getElem?_append_right (by omega),List.getElem?_replicate,if_pos (by omega),if_neg (by omega),List.getElem?_eq_none (by omega)]
   rfl
  by_cases h3:j=i
  ·subst h3
   rw [if_pos rfl,List.getElem?_append_right (by simp only [List.length_append,List.length_replicate];omega)]
   simp only [List.length_append,List.length_replicate]
   rw [show j - (l.length+(j - l.length))=0 by omega]
   rfl
  rw [if_neg h3,List.getElem?_eq_none (by simp only [List.length_append,List.length_replicate,List.length_singleton];omega),List.getElem?_eq_none (by omega)]
def p0 (x:Int):Bool:=x == 0
def pT (x:Tr):Bool:=x.Kind == 0
instance decTr:DecidableEq Tr:=fun a b=>decidable_of_iff (eqT a b=true) eqT_iff
def NT (t:Tr):Prop:=nrm t=t
theorem NT.null {t:Tr} (h:NT t) (hk:pT t=true):t=n0T:=by
 unfold pT at hk
 rw [beq_iff_eq] at hk
 rw [← h,Zgf hk]
 rfl
theorem NT.of (t:Tr):NT (nrm t):=Z3o t
theorem NT.z:NT n0T:=Zgf rfl
theorem NT.kids {t:Tr} (h:NT t):∀ k∈t.Kids,NT k:=fun k hk=>by
 unfold NT at h
 rw [← h] at hk
 by_cases h0:t.Kind=0
 ·rw [Zgf h0] at hk;cases hk
 by_cases h1:t.Kind=1
 ·rw [V8 h1] at hk
  obtain ⟨y,_,rfl⟩:=List.mem_map.1 (Zjx hk)
  exact NT.of y
 rw [Zdq h0 h1] at hk
 obtain ⟨y,_,rfl⟩:=List.mem_map.1 hk
 exact NT.of y
theorem NT.map {l:List Tr} (h:∀ k∈l,NT k):l.map nrm=l:=by
 conv=>rhs;rw [← List.map_id l]
 exact List.map_congr_left fun x hx=>h x hx
theorem NT.words {t:Tr} (h:NT t) (h1:t.Kind=1):tr p0 t.Words=t.Words∧tr pT t.Kids=t.Kids:=by
 have hk:=NT.map h.kids
 unfold NT at h
 rw [V8 h1] at h
 have hw:=congrArg Za.Words h
 have hk2:=congrArg Za.Kids h
 simp only at hw hk2
 rw [hk] at hk2
 exact ⟨hw,hk2⟩
theorem NT.st {ws:List Int} {ks:List Tr} (h:∀ k∈ks,NT k):NT ⟨1,tr p0 ws,tr pT ks⟩:=by
 unfold NT
 rw [V8 rfl]
 simp only
 rw [NT.map (l:=tr pT ks) fun k hk=>h k (Zjx hk)]
 congr 1
 ·exact Z18 ws
 exact Z18 ks
theorem NT.li {k:Int} {ks:List Tr} (h0:¬ k=0) (h1:¬ k=1) (h:∀ k∈ks,NT k):NT ⟨k,[],ks⟩:=by
 unfold NT
 rw [Zdq h0 h1]
 simp only
 rw [NT.map h]
inductive Rg:Tr→Prop
 | mk (t:Tr) (h3:∀ w∈t.Words,0≤w∧w < 18446744073709551616) (h4:∀ k∈t.Kids,Rg k):Rg t
theorem Rg.u {t:Tr} (h:Rg t):∀ w∈t.Words,0≤w∧w < 18446744073709551616:=by cases h;assumption
theorem Rg.all {t:Tr} (h:Rg t):∀ k∈t.Kids,Rg k:=by cases h;assumption
theorem Rg.z:Rg n0T := .mk _ (by simp [n0T]) (by simp [n0T])
theorem Rg.of:∀ (n:Nat) (t:Tr),SizeOf.sizeOf t < n→Bd t→Rg t
 | 0,_,h,_=>by omega
 | n+1,t,hn,h => .mk _ h.u fun k hk=>Rg.of n k (by have:=Je hk;omega) (h.all k hk)
theorem Bd.rg {t:Tr} (h:Bd t):Rg t:=Rg.of _ t (Nat.lt_succ_self _) h
inductive RX:Ed→Prop
 | same (e:Ed) (h:e.Kind=0):RX e
 | repl (e:Ed) (h:e.Kind=1):RX e
 | st (e:Ed) (h:e.Kind=2) (hw:e.Words.Pairwise (fun a b=>a.At.toNat≠b.At.toNat)) (hw2:∀ w∈e.Words,0≤w.At∧w.At≤65534) (hk:e.Kids.Pairwise (fun a b=>a.At.toNat≠b.At.toNat)) (hk2:∀ k∈e.Kids,0≤k.At∧k.At≤65534) (ih:∀ k∈e.Kids,RX k.E):RX e
 | li (e:Ed) (h:e.Kind=3) (hl:2≤e.List_∧e.List_≤9) (ho:∀ o∈e.Ops,opk o) (hN:∀ o∈e.Ops,o.Kind=0∨o.Kind=3→o.L=[]) (ih:∀ o∈e.Ops,o.Kind=3→RX o.E):RX e
theorem RX.kind {e:Ed} (h:RX e):e.Kind=0∨e.Kind=1∨e.Kind=2∨e.Kind=3:=by
 cases h with
 | same _ h=>exact .inl h
 | repl _ h=>exact .inr (.inl h)
 | st _ h=>exact .inr (.inr (.inl h))
 | li _ h=>exact .inr (.inr (.inr h))
theorem Zxf {α:Type} {pl:α→Int} {ok:Int→α→Bool} (h:∀ p x,ok p x=true→p < pl x∧pl x≤65534):∀ (xs:List α) (p:Int),chk pl ok p xs=true→(∀ x∈xs,p < pl x∧pl x≤65534)∧xs.Pairwise (fun a b=>pl a < pl b)
 | [],_,_=>⟨fun x hx=>(by cases hx),.nil⟩
 | x::xs,p,hc=>by
  rw [chk,Bool.and_eq_true] at hc
  have h1:=h p x hc.1
  obtain ⟨h2,h3⟩:=Zxf h xs (pl x) hc.2
  refine ⟨fun y hy => ?_,.cons (fun y hy=>(h2 y hy).1) h3⟩
  rcases List.mem_cons.1 hy with rfl | hy
  ·exact h1
  have:=h2 y hy;omega
theorem Ydj {α:Type} {pl:α→Int} {ok:Int→α→Bool} (h:∀ p x,ok p x=true→p < pl x∧pl x≤65534) {xs:List α} (hc:chk pl ok (-1) xs=true):(∀ x∈xs,0≤pl x∧pl x≤65534)∧xs.Pairwise (fun a b=>(pl a).toNat≠(pl b).toNat):=by
 obtain ⟨h1,h2⟩:=Zxf h xs (-1) hc
 refine ⟨fun x hx=>by have:=h1 x hx;omega,?_⟩
 exact h2.imp_of_mem fun {a b} ha hb hab=>by
  have:=h1 a ha
  have:=h1 b hb
  omega
theorem Z6t (p:Int) (w:Zx) (h:okW p w=true):p < w.At∧w.At≤65534:=by
 unfold okW at h
 simp only [Bool.not_eq_true',Bool.or_eq_false_iff,decide_eq_false_iff_not] at h
 omega
theorem Yd6 (d:Nat) (p:Int) (k:Zl) (h:okK d p k=true):p < k.At∧k.At≤65534:=by
 unfold okK okP at h
 simp only [Bool.and_eq_true,Bool.not_eq_true',Bool.or_eq_false_iff,decide_eq_false_iff_not] at h
 omega
theorem Yek:∀ (n:Nat) (e:Ed) (d:Nat),SizeOf.sizeOf e < n→rE e d=true→RX e
 | 0,_,_,h,_=>by omega
 | n+1,e,d,hn,h=>by
  rw [Zrb] at h
  by_cases hd:d=0
  ·rw [if_pos hd] at h;cases h
  rw [if_neg hd] at h
  by_cases h0:e.Kind=0
  ·exact .same e h0
  rw [if_neg h0] at h
  by_cases h1:e.Kind=1
  ·exact .repl e h1
  rw [if_neg h1] at h
  by_cases h2:e.Kind=2
  ·rw [if_pos h2] at h
   simp only [Bool.and_eq_true] at h
   obtain ⟨w1,w2⟩:=Ydj Z6t h.2.1
   obtain ⟨k1,k2⟩:=Ydj (Yd6 (d - 1)) h.2.2
   refine .st e h2 w2 w1 k2 k1 fun k hk=>Yek n k.E (d - 1) (by have:=Zht hk;omega) ?_
   exact Zp1 (Q:=fun k:Zl=>rE k.E (d - 1)=true) (fun p x hx=>by
    unfold okK okP at hx
    simp only [Bool.and_eq_true] at hx
    exact hx.2.2) e.Kids (-1) h.2.2 k hk
  rw [if_neg h2] at h
  by_cases h3:e.Kind=3
  ·rw [if_pos h3] at h
   simp only [Bool.and_eq_true,decide_eq_true_eq,List.all_eq_true] at h
   have ho:=h.2.2.1
   refine .li e h3 h.2.1 (fun o hx=>Ybf (ho o hx)) (fun o hx k03 => ?_) fun o hx k3=>Yek n o.E (d - 1) (by have:=Zk3 hx;omega) ?_
   ·have:=ho o hx
    unfold okO at this
    rcases k03 with k0 | k3
    ·rw [if_pos k0] at this
     simp only [Bool.and_eq_true,beq_iff_eq] at this
     exact List.eq_nil_of_length_eq_zero this.2.1
    rw [if_neg (by omega),if_neg (by omega),if_pos k3] at this
    simp only [Bool.and_eq_true,beq_iff_eq] at this
    exact List.eq_nil_of_length_eq_zero this.2.1
   have:=ho o hx
   unfold okO at this
   rw [if_neg (by omega),if_neg (by omega),if_pos k3] at this
   simp only [Bool.and_eq_true] at this
   exact this.2.2.2.2
  rw [if_neg h3] at h;cases h
inductive TX:Tr→Prop
 | mk (t:Tr) (h1:2≤t.Kind∧t.Kind≤9→t.Words=[]) (h9:t.Kind=9→∀ k∈t.Kids,k.Kind=1) (ih:∀ k∈t.Kids,TX k):TX t
theorem TX.w {t:Tr} (h:TX t):2≤t.Kind∧t.Kind≤9→t.Words=[]:=by cases h;assumption
theorem TX.s {t:Tr} (h:TX t):t.Kind=9→∀ k∈t.Kids,k.Kind=1:=by cases h;assumption
theorem TX.all {t:Tr} (h:TX t):∀ k∈t.Kids,TX k:=by cases h;assumption
theorem TX.z:TX n0T := .mk _ (fun _=>rfl) (fun h=>by simp [n0T] at h) (by simp [n0T])
theorem TX.nn:∀ (n:Nat) (t:Tr),SizeOf.sizeOf t < n→TX t→TX (nrm t)
 | 0,_,h,_=>by omega
 | n+1,t,hn,h=>by
  by_cases h0:t.Kind=0
  ·rw [Zgf h0];exact TX.z
  by_cases h1:t.Kind=1
  ·rw [V8 h1]
   refine .mk _ (fun h=>by simp only at h;omega) (fun h=>by simp only at h;omega) fun k hk => ?_
   obtain ⟨y,hy,rfl⟩:=List.mem_map.1 (Zjx hk)
   exact TX.nn n y (by have:=Je hy;omega) (h.all y hy)
  rw [Zdq h0 h1]
  refine .mk _ h.w (fun h9 k hk => ?_) fun k hk => ?_
  ·obtain ⟨y,hy,rfl⟩:=List.mem_map.1 hk
   rw [Zcp];exact h.s h9 y hy
  obtain ⟨y,hy,rfl⟩:=List.mem_map.1 hk
  exact TX.nn n y (by have:=Je hy;omega) (h.all y hy)
theorem TX.n {t:Tr} (h:TX t):TX (nrm t):=TX.nn _ t (Nat.lt_succ_self _) h
theorem Yav {α:Type} {z:α} {l:List α} {i:Nat}:atD z l i∈l∨atD z l i=z:=by
 unfold atD
 cases h:l[i]? with
 | none=>exact .inr rfl
 | some x=>exact .inl (List.mem_of_getElem? h)
theorem Z2f {l:List Tr} {Q:Tr→Prop} (h:∀ x∈l,Q x) (hz:Q n0T) (i:Nat):Q (atD n0T l i):=by
 rcases Yav (z:=n0T) (l:=l) (i:=i) with q | q
 ·exact h _ q
 rw [q];exact hz
theorem Yjm {l:List Int} (h:∀ x∈l,0≤x∧x < 18446744073709551616) (i:Nat):0≤atD 0 l i∧atD 0 l i < 18446744073709551616:=by
 rcases Yav (z:=(0:Int)) (l:=l) (i:=i) with q | q
 ·exact h _ q
 rw [q];omega
theorem Ydc {α β:Type} {z:α} {p:α→Bool} {l:List α} {i j:Nat} {v:α} (f:α→β) (hv:p v=true→f v=f z):f (atD z (Ycv z p l i v) j)=if j=i then f v else f (atD z l j):=by
 unfold atD Ycv
 by_cases hi:i < l.length
 ·rw [if_pos hi,List.getElem?_set]
  by_cases e:i=j
  ·subst e;rw [if_pos rfl,if_pos hi,if_pos rfl];rfl
  rw [if_neg e,if_neg (fun q=>e q.symm)]
 rw [if_neg hi]
 cases hp:p v with
 | true =>
  rw [if_pos rfl]
  split
  ·rename_i e;subst e;rw [List.getElem?_eq_none (by omega),hv hp];rfl
  rfl
 | false =>
  rw [if_neg (by simp)]
  by_cases h1:j < l.length
  ·rw [List.append_assoc,List.getElem?_append_left h1,if_neg (by omega)]
  by_cases h2:j < i
  ·rw [List.getElem?_append_left (by simp only [List.length_append,List.length_replicate];omega),List.getElem?_append_right (by omega),List.getElem?_replicate,if_pos (by omega),if_neg (by omega),List.getElem?_eq_none (by omega)]
   rfl
  by_cases h3:j=i
  ·subst h3
   rw [if_pos rfl,List.getElem?_append_right (by simp only [List.length_append,List.length_replicate];omega)]
   simp only [List.length_append,List.length_replicate]
   rw [show j - (l.length+(j - l.length))=0 by omega]
   rfl
  rw [if_neg h3,List.getElem?_eq_none (by simp only [List.length_append,List.length_replicate,List.length_singleton];omega),List.getElem?_eq_none (by omega)]
def RN (c cN:List Tr):Prop:=∀ j,nrm (atD n0T c j)=atD n0T cN j
theorem RN.put {c cN:List Tr} (h:RN c cN) {i:Nat} {v u:Tr} (hv:nrm v=u):RN (Ycv n0T pT c i v) (Ycv n0T pT cN i u):=fun j=>by
 have hnu:NT u:=by rw [← hv];exact NT.of v
 rw [Ygb (fun q=>hnu.null q),Ydc nrm (fun q=>by unfold pT at q;rw [beq_iff_eq] at q;rw [Zgf q];exact NT.z.symm),hv,h j]
structure CA (e:Ed) (t:Tr):Prop where
 x:RX e
 b:BE e
 g:GN e
 p:pt t≤1000000
 t:Bd t
theorem CA.of {e:Ed} {t:Tr} (hb:BE e) (hr:rE e 64=true) (hc:ce e≤3000) (ht:Bd t) (hp:pt t≤3000):CA e t :=
 ⟨Yek _ e 64 (Nat.lt_succ_self _) hr,hb,Ya2 _ e 64 (Nat.lt_succ_self _) hb (by omega) hr,by omega,ht⟩
def Ydd (a:List EO) (g:Nat):Prop:=match a with
 | []=>g=0
 | o::_=>g≤thN o
structure CI (a:List EO) (g:Nat):Prop where
 p:∀ o∈a,opk o
 s:Zom a≤1073741824
 g:Ydd a g
inductive ST:Ed→Prop
 | mk (e:Ed) (ho:pt e.Old≤1000000) (hn:pt e.New≤1000000) (hl:∀ o∈e.Ops,∀ t∈o.L,pt t≤1000000) (ik:∀ k∈e.Kids,ST k.E) (io:∀ o∈e.Ops,ST o.E):ST e
theorem ST.old {e:Ed} (h:ST e):pt e.Old≤1000000:=by cases h;assumption
theorem ST.new {e:Ed} (h:ST e):pt e.New≤1000000:=by cases h;assumption
theorem ST.l {e:Ed} (h:ST e):∀ o∈e.Ops,∀ t∈o.L,pt t≤1000000:=by cases h;assumption
theorem ST.ks {e:Ed} (h:ST e):∀ k∈e.Kids,ST k.E:=by cases h;assumption
theorem ST.os {e:Ed} (h:ST e):∀ o∈e.Ops,ST o.E:=by cases h;assumption
structure GT (t:Tr):Prop where
 n:NT t
 g:Rg t
 x:TX t
theorem GT.z:GT n0T:=⟨NT.z,Rg.z,TX.z⟩
theorem GT.all {t:Tr} (h:GT t):∀ k∈t.Kids,GT k:=fun k hk=>⟨h.n.kids k hk,h.g.all k hk,h.x.all k hk⟩
theorem GT.at_ {t:Tr} (h:GT t) (i:Nat):GT (atD n0T t.Kids i):=⟨Z2f h.n.kids NT.z i,Z2f h.g.all Rg.z i,Z2f h.x.all TX.z i⟩
theorem GT.of {t:Tr} (hb:Bd t) (hx:TX t):GT (nrm t):=⟨NT.of t,hb.nrm.rg,hx.n⟩
def D9 (e:Ed):Prop:=e.Kind=2∨(e.Kind=1∧e.Old.Kind=1∧e.New.Kind=1)
inductive RZ:Ed→Prop
 | same (e:Ed) (h:e.Kind=0):RZ e
 | repl (e:Ed) (h:e.Kind=1) (ho:TX e.Old) (hn:TX e.New):RZ e
 | st (e:Ed) (h:e.Kind=2) (hw:e.Words.Pairwise (fun a b=>a.At < b.At)) (hw2:∀ w∈e.Words,0≤w.At∧w.At≤65534) (hk:e.Kids.Pairwise (fun a b=>a.At < b.At)) (hk2:∀ k∈e.Kids,0≤k.At∧k.At≤65534) (ih:∀ k∈e.Kids,RZ k.E):RZ e
 | li (e:Ed) (h:e.Kind=3) (hl:2≤e.List_∧e.List_≤9) (ho:∀ o∈e.Ops,opk o) (hN:∀ o∈e.Ops,o.Kind=0∨o.Kind=3→o.L=[]) (hT:∀ o∈e.Ops,∀ t∈o.L,TX t∧(e.List_=9→t.Kind=1)) (h9:∀ o∈e.Ops,o.Kind=3→e.List_=9→D9 o.E) (ih:∀ o∈e.Ops,o.Kind=3→RZ o.E):RZ e
def Yqu {α:Type} (f:α→α→Option α):Option α→Option α→Option α
 | some x,some y=>f x y
 | some x,none=>some x
 | none,y=>y
def Rise {α:Type} (pl:α→Int) (l:List α):Prop:=l.Pairwise (fun a b=>pl a < pl b)∧∀ x∈l,0≤pl x
theorem Rise.tail {α:Type} {pl:α→Int} {x:α} {l:List α} (h:Rise pl (x::l)):Rise pl l:=⟨(List.pairwise_cons.1 h.1).2,fun y hy=>h.2 y (.tail _ hy)⟩
abbrev KE:=Zl
theorem GT.w {t:Tr} (h:GT t) (j:Nat):0≤atD 0 t.Words j∧atD 0 t.Words j < 18446744073709551616:=Yjm h.g.u j
inductive LM:Ed→Prop
 | mk (e:Ed) (hw:e.Words.length≤250000) (hk:e.Kids.length≤250000) (ho:e.Ops.length≤250000) (hs:Zom e.Ops≤4000000) (ik:∀ k∈e.Kids,LM k.E) (io:∀ o∈e.Ops,LM o.E):LM e
theorem LM.w {e:Ed} (h:LM e):e.Words.length≤250000:=by cases h;assumption
theorem LM.k {e:Ed} (h:LM e):e.Kids.length≤250000:=by cases h;assumption
theorem LM.o {e:Ed} (h:LM e):e.Ops.length≤250000:=by cases h;assumption
theorem LM.s {e:Ed} (h:LM e):Zom e.Ops≤4000000:=by cases h;assumption
theorem LM.ks {e:Ed} (h:LM e):∀ k∈e.Kids,LM k.E:=by cases h;assumption
theorem LM.os {e:Ed} (h:LM e):∀ o∈e.Ops,LM o.E:=by cases h;assumption
structure MC (e:Ed):Prop where
 z:RZ e
 b:BE e
 g:GN e
 s:ST e
 m:LM e
theorem RZ.kid {e:Ed} (h:RZ e) (k2:e.Kind=2):∀ k∈e.Kids,RZ k.E:=by
 cases h with
 | st _ _ _ _ _ _ ih=>exact ih
 | same _ k=>omega
 | repl _ k=>omega
 | li _ k=>omega
theorem MC.kid {e:Ed} (h:MC e) (k2:e.Kind=2):∀ k∈e.Kids,MC k.E:=fun k hk=>⟨h.z.kid k2 k hk,h.b.ks k hk,h.g.ks k hk,h.s.ks k hk,h.m.ks k hk⟩
def fK (F:Ed→Ed→Option (Ed×Bool)) (x y:KE):Option KE:=match F x.E y.E with
 | some (e,true)=>some ⟨x.At,e⟩
 | _=>none
theorem CI.of {a:List EO} (hp:∀ o∈a,opk o) (hs:Zom a≤1073741824):CI a 0:=⟨hp,hs,by unfold Ydd;split <;> omega⟩
theorem w_l (a b:Int):IntKind.i64.wrap (IntKind.i64.wrap a+b)=IntKind.i64.wrap (a+b):=by rw [IntKind.wrap_i64 a,IntKind.wrap_i64,IntKind.wrap_i64];omega
theorem w_r (a b:Int):IntKind.i64.wrap (a+IntKind.i64.wrap b)=IntKind.i64.wrap (a+b):=by rw [IntKind.wrap_i64 b,IntKind.wrap_i64,IntKind.wrap_i64];omega
theorem w_w (a:Int):IntKind.i64.wrap (IntKind.i64.wrap a)=IntKind.i64.wrap a:=by rw [IntKind.wrap_i64 a,IntKind.wrap_i64];omega
theorem Ykp (a b:Int):IntKind.i64.wrap (IntKind.i64.wrap a+IntKind.i64.wrap b)=IntKind.i64.wrap (a+b):=by rw [w_l,w_r]
theorem Zvu {α:Type} (g:α→Int):∀ (l:List α) (s:Int),l.foldl (fun s x=>s+g x) s=s+(l.map g).sum
 | [],s=>by simp
 | x::l,s=>by rw [List.foldl_cons,Zvu g l,List.map_cons,List.sum_cons];omega
def frS (s:Int×Int) (x:Tr):Int×Int:=(if s.1 < (x.Words.length:Int) then (x.Words.length:Int) else s.1,if s.2 < (x.Kids.length:Int) then (x.Kids.length:Int) else s.2)
def fr (l:List Tr):Int×Int:=l.foldl frS (0,0)
theorem Ydq {t:Tr} (hl:(t.Kids.length:Int)≤140737488355328):Zc5 t=some (fr t.Kids):=by
 unfold Zc5
 rw [(Zmr t.Kids (fun (s:Int×Int) (i:Int)=>(s.1,s.2,i)) frS id (fun _=>True) (Zdp t) hl (fun s i x _ hi hx hm=>⟨trivial,by
  unfold Zdp
  simp only
  rw [Zba hi,cond_true,Xa hx,Option.bind_some]
  rfl⟩) (fun s _=>by
  unfold Zdp
  simp only
  rw [Zbz,cond_false]
  rfl) (0,0) trivial).1,Option.bind_some]
 rfl
def h9 (l:List Tr):Int:=IntKind.i64.wrap (1+IntKind.i64.wrap ((l.length:Int) * IntKind.i64.wrap ((fr l).1+(fr l).2)))
def Zyu (c:Int) (n:Nat):Int:=((n * wid c+63) / 64:Nat)
def sz (t:Tr):Int :=
 if t.Kind=1 then ((t.Words.length:Int)+(t.Kids.length:Int))+(t.Kids.attach.map fun k=>sz k.1).sum
 else if 2≤t.Kind∧t.Kind≤7 then Zyu (t.Kind - 2) t.Kids.length
 else if t.Kind=8 then (t.Kids.length:Int)+(t.Kids.attach.map fun k=>sz k.1).sum
 else if t.Kind=9 then h9 t.Kids+(t.Kids.attach.map fun k=>(k.1.Kids.attach.map fun j=>sz j.1).sum).sum
 else 0
termination_by SizeOf.sizeOf t
decreasing_by
 ·exact Je k.2
 ·exact Je k.2
 exact Nat.lt_trans (Je j.2) (Je k.2)
theorem Ye0 (t:Tr):sz t=if t.Kind=1 then ((t.Words.length:Int)+(t.Kids.length:Int))+(t.Kids.map sz).sum
 else if 2≤t.Kind∧t.Kind≤7 then Zyu (t.Kind - 2) t.Kids.length
 else if t.Kind=8 then (t.Kids.length:Int)+(t.Kids.map sz).sum
 else if t.Kind=9 then h9 t.Kids+(t.Kids.map fun k=>(k.Kids.map sz).sum).sum
 else 0:=by
 rw [sz]
 have h1:(t.Kids.attach.map fun k=>(k.1.Kids.attach.map fun j=>sz j.1).sum)=t.Kids.map fun k=>(k.Kids.map sz).sum:=by
  have:(fun (k:{ x // x∈t.Kids })=>(k.1.Kids.attach.map fun j=>sz j.1).sum)=fun (k:{ x // x∈t.Kids })=>(fun k:Tr=>(k.Kids.map sz).sum) k.1:=funext fun k=>congrArg List.sum (List.attach_map_val (f:=sz))
  rw [this]
  exact List.attach_map_val (f:=fun k:Tr=>(k.Kids.map sz).sum)
 rw [h1]
 simp only [List.attach_map_val]
theorem c5' {c:Int} (h:0≤c∧c≤5):c=0∨c=1∨c=2∨c=3∨c=4∨c=5:=by omega
theorem Yf7 {c:Int} (h:0≤c∧c≤5) {n:Nat} (hn:n≤1048576):Zg4 c (n:Int)=some (Zyu c n):=by
 have hw:Gx c=some (((wid c:Nat):Int),true):=by
  unfold Gx
  rcases c5' h with rfl | rfl | rfl | rfl | rfl | rfl <;> rfl
 have hb:wid c≤64:=by rcases c5' h with rfl | rfl | rfl | rfl | rfl | rfl <;> decide
 have hm:n * wid c≤1048576 * 64:=Nat.mul_le_mul hn hb
 unfold Zg4 Zyu
 rw [hw,Option.bind_some]
 simp only
 rw [Bool.not_true,cond_false,decide_eq_false (by omega),cond_false,decide_eq_false (by omega),cond_false,← Int.natCast_mul]
 generalize n * wid c=m at hm ⊢
 rw [Ur (x:=(m:Int)) (by omega) (by omega),Ur (x:=(m:Int)+63) (by omega) (by omega),Int.tdiv_eq_ediv_of_nonneg (by omega),Ur (by omega) (by omega)]
 congr 1
theorem Z4j {t:Tr} {d:Nat} (h:rt t d=true):0≤t.Kind∧t.Kind≤10∧t.Kids.length < 1048576∧(t.Kind=0∨t.Kind=10→t.Kids=[])∧∀ k∈t.Kids,rt k (d - 1)=true:=by
 rw [Zjl] at h
 by_cases h0:t.Kind=0
 ·rw [if_pos h0,Bool.and_eq_true,beq_iff_eq,beq_iff_eq] at h
  have:=List.length_eq_zero_iff.1 h.2
  rw [this]
  exact ⟨by omega,by omega,by simp,fun _=>rfl,fun k hk=>by cases hk⟩
 by_cases h1:t.Kind=10
 ·rw [if_neg h0,if_pos h1,Bool.and_eq_true,beq_iff_eq,beq_iff_eq] at h
  have:=List.length_eq_zero_iff.1 h.2
  rw [this]
  exact ⟨by omega,by omega,by simp,fun _=>rfl,fun k hk=>by cases hk⟩
 rw [if_neg h0,if_neg h1] at h
 by_cases hb:t.Kind < 0∨10 < t.Kind∨d=0∨65536≤t.Words.length∨(t.Kind=1∧65536≤t.Kids.length)∨1048576≤t.Kids.length∨(1 < t.Kind∧0 < t.Words.length)
 ·rw [if_pos hb] at h;cases h
 rw [if_neg hb,List.all_eq_true] at h
 refine ⟨by omega,by omega,by omega,fun q=>by omega,fun k hk => ?_⟩
 have:=h k hk
 rw [Bool.and_eq_true] at this
 exact this.1
theorem Z8r {k:Nat} (l:List Tr) (hl:(l.length:Int)≤140737488355328) (h:∀ x∈l,(X4 k).1 x=some (IntKind.i64.wrap (sz x))):Z3 (Zaz (X4 k).1 l) (0,0)=some (IntKind.i64.wrap (l.map sz).sum):=by
 have:=(Zmr l (fun (s:Int) (i:Int)=>(IntKind.i64.wrap s,i)) (fun s x=>s+sz x) (fun s=>IntKind.i64.wrap s) (fun _=>True) (Zaz (X4 k).1 l) hl (fun s i x _ hi hx hm=>⟨trivial,by
  unfold Zaz
  simp only
  rw [Zba hi,cond_true,Xa hx,Option.bind_some,h x hm,Option.bind_some,Ykp]⟩) (fun s _=>by
  unfold Zaz
  simp only
  rw [Zbz,cond_false]) 0 trivial).1
 rw [Zvu,Int.zero_add] at this
 exact this
theorem Ybl:∀ (k:Nat),(∀ (t:Tr) (d:Nat),rt t d=true→2 * SizeOf.sizeOf t < k→(X4 k).1 t=some (IntKind.i64.wrap (sz t))) ∧
  (∀ l:List Tr,0 < k→(l.length:Int)≤140737488355328→(∀ x∈l,(∃ d,rt x d=true)∧2 * SizeOf.sizeOf x+1 < k)→(X4 k).2 l=some (IntKind.i64.wrap (l.map sz).sum))
 | 0=>⟨fun _ _ _ h=>by omega,fun _ h=>by omega⟩
 | k+1=>by
  obtain ⟨i1,i2⟩:=Ybl k
  refine ⟨fun t d hr hk => ?_,fun l _ hl h => ?_⟩
  ·obtain ⟨r1,r2,r3,r4,r5⟩:=Z4j hr
   have s0:0 < SizeOf.sizeOf t:=by
    obtain ⟨a,b,c⟩:=t
    simp only [Za.mk.sizeOf_spec]
    omega
   have k0:0 < k:=by omega
   have hs:∀ x∈t.Kids,(∃ d,rt x d=true)∧2 * SizeOf.sizeOf x+1 < k:=fun x hx=>⟨⟨_,r5 x hx⟩,by have:=Je hx;omega⟩
   have hk9:∀ y∈t.Kids,(X4 k).2 y.Kids=some (IntKind.i64.wrap (y.Kids.map sz).sum):=fun y hy =>
    i2 _ k0 (by have:=(Z4j (r5 y hy)).2.2.1;omega) fun x hx=>⟨⟨_,(Z4j (r5 y hy)).2.2.2.2 x hx⟩,by have:=Je hx;have:=Je hy;omega⟩
   show Zi4 (X4 k).1 (X4 k).2 t=_
   unfold Zi4 Zlx
   rw [Ye0]
   by_cases h1:t.Kind=1
   ·rw [if_pos h1,show (t.Kind == 1)=true from by rw [h1];rfl,cond_true,i2 _ k0 (by omega) hs,Option.bind_some,Ykp]
   rw [if_neg h1,beq_eq_false_iff_ne.2 h1,cond_false,Option.bind_some]
   by_cases h2:2≤t.Kind∧t.Kind≤7
   ·rw [if_pos h2,decide_eq_true h2.1,cond_true,decide_eq_true h2.2,cond_true,Ur (by omega) (by omega),Yf7 (by omega) (by omega),Option.bind_some]
    have:IntKind.i64.wrap (Zyu (t.Kind - 2) t.Kids.length)=Zyu (t.Kind - 2) t.Kids.length:=by
     have hb:wid (t.Kind - 2)≤64:=by rcases c5' (c:=t.Kind - 2) (by omega) with q | q | q | q | q | q <;> rw [q] <;> decide
     have hm:t.Kids.length * wid (t.Kind - 2)≤1048576 * 64:=Nat.mul_le_mul (by omega) hb
     unfold Zyu
     rw [Ur (by omega) (by omega)]
    rw [this]
   rw [if_neg h2]
   have hc:cond (decide (2≤t.Kind)) (decide (t.Kind≤7)) false=false:=by
    rw [Zdl,Bool.and_eq_false_iff,decide_eq_false_iff_not,decide_eq_false_iff_not];omega
   rw [hc,cond_false]
   by_cases h8:t.Kind=8
   ·rw [if_pos h8,show (t.Kind == 8)=true from by rw [h8];rfl,cond_true,i2 _ k0 (by omega) hs,Option.bind_some,w_r]
   rw [if_neg h8,beq_eq_false_iff_ne.2 h8,cond_false]
   by_cases h9':t.Kind=9
   ·rw [if_pos h9',show (t.Kind == 9)=true from by rw [h9'];rfl,cond_true,Ydq (by omega),Option.bind_some]
    have:=(Zmr t.Kids (fun (s:Int) (i:Int)=>(IntKind.i64.wrap s,i)) (fun s x=>s+(x.Kids.map sz).sum) (fun s=>IntKind.i64.wrap s) (fun _=>True) (Zcc (X4 k).2 t) (by omega) (fun s i x _ hi hx hm=>⟨trivial,by
     unfold Zcc
     simp only
     rw [Zba hi,cond_true,Xa hx,Option.bind_some,hk9 x hm,Option.bind_some,Ykp]⟩) (fun s _=>by
     unfold Zcc
     simp only
     rw [Zbz,cond_false]) (h9 t.Kids) trivial).1
    rw [Zvu,show IntKind.i64.wrap (h9 t.Kids)=h9 t.Kids from w_w _] at this
    show (Z3 (Zcc (X4 k).2 t) (h9 t.Kids,0)).bind _=_
    rw [this,Option.bind_some]
   rw [if_neg h9',beq_eq_false_iff_ne.2 h9',cond_false]
   rfl
  show Zhk (X4 k).1 (X4 k).2 l=_
  unfold Zhk
  rw [Z8r l hl (fun x hx=>by obtain ⟨⟨d,hd⟩,hh⟩:=h x hx;exact i1 x d hd (by omega)),Option.bind_some]
theorem Yg2 {t:Tr} {d:Nat} (h:rt t d=true):Zo6 t=some (IntKind.i64.wrap (sz t)):=Zbs (2 * SizeOf.sizeOf t+1) fun k hk=>(Ybl k).1 t d h (by omega)
theorem Yas {t:Tr} {d:Nat} (hb:Bd t) (h:rt t d=true):Zey t=some (IntKind.i64.wrap (sz (nrm t))):=by
 unfold Zey
 rw [Zwt hb,Option.bind_some,Yg2 (rtN h),Option.bind_some]
theorem Z1u {α β γ:Type} (xs:List α) (f:α→β) (c:γ) (step:Int×γ×List β→Option ((Int×γ×List β) ⊕ (γ×List β))) (hl:(xs.length:Int)≤140737488355328)
  (h1:∀ (i:Nat) (x:α) (out:List β),i < xs.length→xs[i]? = some x→x∈xs→out.length=i→step ((i:Int),c,out)=some (.inl (IntKind.i64.wrap ((i:Int)+1),c,out++[f x])))
  (h2:∀ out,step ((xs.length:Int),c,out)=some (.inr (c,out))):Z3 step (0,c,[])=some (c,xs.map f):=by
 have key:∀ m i,i+m=xs.length→Z3 step ((i:Int),c,(xs.take i).map f)=some (c,xs.map f):=fun m=>by
  induction m with
  | zero =>
   intro i hi
   have hi':i=xs.length:=by omega
   subst hi'
   rw [List.take_length]
   exact Y8 (h2 _)
  | succ m ih =>
   intro i hi
   have hx:xs[i]? = some xs[i]:=List.getElem?_eq_getElem (by omega)
   have h:=h1 i _ ((xs.take i).map f) (by omega) hx (List.mem_of_getElem? hx) (by rw [List.length_map,List.length_take];omega)
   rw [Ur (by omega) (by omega)] at h
   rw [Qh h]
   have e:(xs.take i).map f++[f xs[i]]=(xs.take (i+1)).map f:=by
    rw [List.take_add_one,hx,List.map_append]
    rfl
   rw [e]
   exact ih (i+1) (by omega)
 have:=key xs.length 0 (by omega)
 simpa using this
def hdE (e:Ed):Int:=IntKind.u64.wrap (IntKind.i64.wrap (e.Kind+IntKind.i64.wrap (256 * e.List_)))
def hdO (o:Zt):Int:=IntKind.u64.wrap (IntKind.i64.wrap (o.Kind+IntKind.i64.wrap (256 * o.N)))
def wT (w:Zx):Tr:=⟨1,[IntKind.u64.wrap (IntKind.u64.wrap w.At+IntKind.u64.wrap (4294967296 * IntKind.u64.wrap w.Mask)),w.Old,w.New],[]⟩
def Znu (l:List Tr):Tr:=if l.length=0 then ⟨0,[],[]⟩ else ⟨9,[],l⟩
def kT (k:Zl) (t:Tr):Tr:=⟨1,[IntKind.u64.wrap k.At],[t]⟩
def opT (l:Int) (o:Zt) (t:Tr):Tr:=⟨1,[hdO o],if o.Kind=3 then [t] else if 0 < o.Kind then [⟨l,[],o.L⟩] else []⟩
def TE (e:Ed):Tr :=
 if e.Kind=0 then ⟨0,[],[]⟩
 else if e.Kind=1 then ⟨1,[hdE e],[e.Old,e.New]⟩
 else if e.Kind=2 then ⟨1,[hdE e],[Znu (e.Words.map wT),Znu (e.Kids.attach.map fun k=>kT k.1 (TE k.1.E))]⟩
 else ⟨1,[hdE e],[Znu (e.Ops.attach.map fun o=>opT e.List_ o.1 (TE o.1.E))]⟩
termination_by SizeOf.sizeOf e
decreasing_by
 ·exact Zht k.2
 exact Zk3 o.2
theorem Zlq (e:Ed):TE e=if e.Kind=0 then ⟨0,[],[]⟩
 else if e.Kind=1 then ⟨1,[hdE e],[e.Old,e.New]⟩
 else if e.Kind=2 then ⟨1,[hdE e],[Znu (e.Words.map wT),Znu (e.Kids.map fun k=>kT k (TE k.E))]⟩
 else ⟨1,[hdE e],[Znu (e.Ops.map fun o=>opT e.List_ o (TE o.E))]⟩:=by
 rw [TE]
 have h1:(e.Kids.attach.map fun k=>kT k.1 (TE k.1.E))=e.Kids.map fun k=>kT k (TE k.E):=List.attach_map_val (f:=fun k:Zl=>kT k (TE k.E))
 have h2:(e.Ops.attach.map fun o=>opT e.List_ o.1 (TE o.1.E))=e.Ops.map fun o=>opT e.List_ o (TE o.E):=List.attach_map_val (f:=fun o:Zt=>opT e.List_ o (TE o.E))
 rw [h1,h2]
theorem Z8q (l:List Tr):V6 l=some (Znu l):=by
 unfold V6 Znu
 cases l with
 | nil=>rfl
 | cons x l =>
  have:(((x::l).length:Int) == 0)=false:=by rw [beq_eq_false_iff_ne,List.length_cons];omega
  rw [this,cond_false,if_neg (by simp)]
theorem Yfu:∀ (k:Nat) (e:Ed),GN e→SizeOf.sizeOf e < k→Ky k e=some (TE e)
 | 0,_,_,h=>by omega
 | k+1,e,hg,hk=>by
  have gw:=hg.w
  have gk:=hg.k
  have go:=hg.o
  show Za8 (Ky k) e=_
  unfold Za8
  rw [Zlq]
  by_cases h0:e.Kind=0
  ·rw [if_pos h0,show (e.Kind == 0)=true from by rw [h0];rfl,cond_true];rfl
  rw [if_neg h0,beq_eq_false_iff_ne.2 h0,cond_false]
  by_cases h1:e.Kind=1
  ·rw [if_pos h1,show (e.Kind == 1)=true from by rw [h1];rfl,cond_true];rfl
  rw [if_neg h1,beq_eq_false_iff_ne.2 h1,cond_false]
  by_cases h2:e.Kind=2
  ·rw [if_pos h2,show (e.Kind == 2)=true from by rw [h2];rfl,cond_true]
   have l0:=Z1u e.Words wT [hdE e] (Um e) (by omega) (fun i x out hi hx hm ho=>by
    unfold Um
    simp only
    rw [Zba hi,cond_true,Xa hx,Option.bind_some,Vv (by simp only [List.length_singleton];omega) (by simp only [List.length_singleton];omega),Option.bind_some]
    rfl) (fun out=>by
    unfold Um
    simp only
    rw [Zbz,cond_false])
   have l1:=Zjb e.Kids (fun k=>kT k (TE k.E)) (Un (Ky k) e) [] (by omega) (fun i x out hi hx hm ho=>by
    unfold Un
    simp only [List.length_nil] at ho ⊢
    rw [Zba hi,cond_true,Xa hx,Option.bind_some,Yfu k x.E (hg.ks x hm) (by have:=Zht hm;omega),Option.bind_some,Vv (by simp only [List.length_singleton];omega) (by simp only [List.length_singleton];omega),Option.bind_some]
    rfl) (fun out=>by
    unfold Un
    simp only
    rw [Zbz,cond_false])
   unfold hdE at l0
   rw [l0,Option.bind_some,l1,Option.bind_some,Z8q,Option.bind_some,Z8q,Option.bind_some,Option.bind_some]
   rfl
  rw [if_neg h2,beq_eq_false_iff_ne.2 h2,cond_false]
  have l2:=Z1u e.Ops (fun o=>opT e.List_ o (TE o.E)) [hdE e] (Uo (Ky k) e) (by omega) (fun i x out hi hx hm ho=>by
   unfold Uo
   simp only
   rw [Zba hi,cond_true,Xa hx,Option.bind_some,Yfu k x.E (hg.os x hm) (by have:=Zk3 hm;omega),Option.bind_some]
   have:(cond (x.Kind == 3) (some (([IntKind.u64.wrap (IntKind.i64.wrap (x.Kind+IntKind.i64.wrap (256 * x.N)))]:List Int),([TE x.E]:List Za))) (cond (decide (0 < x.Kind)) (some (([IntKind.u64.wrap (IntKind.i64.wrap (x.Kind+IntKind.i64.wrap (256 * x.N)))]:List Int),([(⟨e.List_,[],x.L⟩:Za)]:List Za))) (some (([IntKind.u64.wrap (IntKind.i64.wrap (x.Kind+IntKind.i64.wrap (256 * x.N)))]:List Int),([]:List Za)))))=some ((opT e.List_ x (TE x.E)).Words,(opT e.List_ x (TE x.E)).Kids):=by
    unfold opT hdO
    by_cases q:x.Kind=3
    ·rw [if_pos q,show (x.Kind == 3)=true from by rw [q];rfl,cond_true]
    rw [if_neg q,beq_eq_false_iff_ne.2 q,cond_false]
    by_cases q2:0 < x.Kind
    ·rw [if_pos q2,decide_eq_true q2,cond_true]
    rw [if_neg q2,decide_eq_false q2,cond_false]
   rw [this,Option.bind_some,Vv (by simp only [List.length_singleton];omega) (by simp only [List.length_singleton];omega),Option.bind_some]
   rfl) (fun out=>by
   unfold Uo
   simp only
   rw [Zbz,cond_false])
  unfold hdE at l2
  rw [l2,Option.bind_some,Z8q,Option.bind_some,Option.bind_some]
  rfl
theorem Yl1 {e:Ed} (h:GN e):Zhw e=some (TE e):=Zbs (SizeOf.sizeOf e+1) fun k hk=>Yfu k e h (by omega)
theorem Zso {x:Int} (h:0≤x∧x < 18446744073709551616):IntKind.u64.wrap x=x:=Yc1 (by omega)
theorem Yhf (e:Ed):(TE e).Kind=if e.Kind=0 then 0 else 1:=by
 rw [Zlq]
 split
 ·rfl
 split
 ·rfl
 split <;> rfl
def fk (x:Zl):Int:=if 0 < x.At then 1 else 0
def aT (l:Int) (o:Zt):Tr:=if o.Kind=1∨o.Kind=2 then (⟨l,[],o.L⟩:Tr) else TE o.E
def fo (l:Int) (o:Zt):Int:=if (aT l o).Kind≠0 then 1 else 0
theorem Z4i {l:List Tr} (hl:l.length≤1048576) (h:∀ x∈l,Bd x):Bd (Znu l):=by
 unfold Znu
 split
 ·exact .mk _ (by simp) (by simp) (fun _ h=>by cases h) (fun _ h=>by cases h)
 exact .mk _ (by simp) (by simp only;omega) (fun _ h=>by cases h) h
theorem Yot (x:Int):0≤IntKind.u64.wrap x∧IntKind.u64.wrap x < 18446744073709551616:=by
 rw [show IntKind.u64.wrap x=x % 18446744073709551616 from by simp [IntKind.wrap,IntKind.bits,IntKind.signed]]
 omega
theorem Z7j:∀ (n:Nat) (e:Ed),SizeOf.sizeOf e < n→BE e→GN e→Bd (TE e)
 | 0,_,h,_,_=>by omega
 | n+1,e,hn,hb,hg=>by
  have gk:=hg.k
  have go:=hg.o
  have gw:=hg.w
  have nn:∀ {α:Type} {P:α→Prop} {x:α},x∈([]:List α)→P x:=fun h=>by cases h
  have hw1:∀ z:Int,∀ w∈[IntKind.u64.wrap z],0≤w∧w < 18446744073709551616:=fun z w hw=>by
   rw [List.mem_singleton.1 hw];exact Yot z
  rw [Zlq]
  split
  ·exact .mk _ (by simp) (by simp) (fun _ h=>by cases h) (fun _ h=>by cases h)
  split
  ·refine .mk _ (by simp) (by simp) (hw1 _) (fun k hk => ?_)
   rcases List.mem_cons.1 hk with rfl | hk
   ·exact hb.old
   rw [List.mem_singleton.1 hk];exact hb.new
  split
  ·refine .mk _ (by simp) (by simp) (hw1 _) (fun k hk => ?_)
   rcases List.mem_cons.1 hk with rfl | hk
   ·refine Z4i (by rw [List.length_map];exact gw) fun x hx => ?_
    obtain ⟨w,hw,rfl⟩:=List.mem_map.1 hx
    have:=hb.ws w hw
    refine .mk _ (by simp [wT]) (by simp [wT]) (fun z hz => ?_) (fun _ h=>by cases h)
    rcases List.mem_cons.1 hz with rfl | hz
    ·exact Yot _
    rcases List.mem_cons.1 hz with rfl | hz
    ·exact this.2.1
    rw [List.mem_singleton.1 hz];exact this.2.2
   rw [List.mem_singleton.1 hk]
   refine Z4i (by rw [List.length_map];exact gk) fun x hx => ?_
   obtain ⟨w,hw,rfl⟩:=List.mem_map.1 hx
   refine .mk _ (by simp [kT]) (by simp [kT]) (hw1 _) (fun z hz => ?_)
   rw [List.mem_singleton.1 hz]
   exact Z7j n w.E (by have:=Zht hw;omega) (hb.ks w hw) (hg.ks w hw)
  refine .mk _ (by simp) (by simp) (hw1 _) (fun k hk => ?_)
  rw [List.mem_singleton.1 hk]
  refine Z4i (by rw [List.length_map];exact go) fun x hx => ?_
  obtain ⟨o,ho,rfl⟩:=List.mem_map.1 hx
  unfold opT
  split
  ·refine .mk _ (by simp) (by simp) (hw1 _) (fun z hz => ?_)
   rw [List.mem_singleton.1 hz]
   exact Z7j n o.E (by have:=Zk3 ho;omega) (hb.os o ho) (hg.os o ho)
  split
  ·refine .mk _ (by simp) (by simp) (hw1 _) (fun z hz => ?_)
   rw [List.mem_singleton.1 hz]
   exact .mk _ (by simp) (hb.l o ho).1 (fun w hw=>by cases hw) (hb.l o ho).2
  exact .mk _ (by simp) (by simp) (hw1 _) (fun _ h=>by cases h)
def Z56 {α σ:Type} (f:σ→Nat→α→σ):σ→Nat→List α→σ
 | s,_,[]=>s
 | s,i,x::xs=>Z56 f (f s i x) (i+1) xs
theorem Yj1 {α σ S R:Type} (xs:List α) (pack:Int→σ→S) (out:σ→R) (step:S→Option (S ⊕ R)) (f:σ→Nat→α→σ) (I:Nat→σ→Prop) (hl:(xs.length:Int)≤140737488355328)
  (h1:∀ (i:Nat) (s:σ) (x:α),i < xs.length→xs[i]? = some x→x∈xs→I i s→step (pack i s)=some (.inl (pack (IntKind.i64.wrap ((i:Int)+1)) (f s i x)))∧I (i+1) (f s i x))
  (h2:∀ s,I xs.length s→step (pack xs.length s)=some (.inr (out s))) (s:σ) (h0:I 0 s):Z3 step (pack 0 s)=some (out (Z56 f s 0 xs))∧I xs.length (Z56 f s 0 xs):=by
 have key:∀ (l pre:List α) (s:σ),xs=pre++l→I pre.length s→Z3 step (pack (pre.length:Nat) s)=some (out (Z56 f s pre.length l))∧I xs.length (Z56 f s pre.length l):=fun l=>by
  induction l with
  | nil =>
   intro pre s hp hi
   rw [List.append_nil] at hp
   subst hp
   exact ⟨Y8 (h2 s hi),hi⟩
  | cons x l ih =>
   intro pre s hp hI
   have hx:xs[pre.length]? = some x:=by rw [hp,List.getElem?_append_right (Nat.le_refl _),Nat.sub_self];rfl
   have hi:pre.length < xs.length:=by rw [hp];simp
   obtain ⟨a,b⟩:=h1 pre.length s x hi hx (List.mem_of_getElem? hx) hI
   rw [Ur (by omega) (by omega)] at a
   have:=ih (pre++[x]) (f s pre.length x) (by rw [hp];simp) (by rw [List.length_append,List.length_singleton];exact b)
   rw [List.length_append,List.length_singleton] at this
   exact ⟨(Qh a).trans this.1,this.2⟩
 exact key xs [] s rfl h0
theorem Z6s {α:Type} {f:α→Nat} {x:α}:∀ {l:List α},x∈l→f x≤(l.map f).sum
 | [],h=>by cases h
 | y::l,h=>by
  simp only [List.map_cons,List.sum_cons]
  rcases List.mem_cons.1 h with rfl | h
  ·omega
  have:=Z6s (f:=f) h;omega
theorem Ybc {α β:Type} {f:α→Nat} {g:β→Nat} (p:α→β):∀ {l:List α},(∀ x∈l,g (p x)≤f x)→((l.map p).map g).sum≤(l.map f).sum
 | [],_=>by simp
 | y::l,h=>by
  have:=Ybc p fun x hx=>h x (.tail _ hx)
  have:=h y (.head _)
  simp only [List.map_cons,List.sum_cons]
  omega
theorem Yb1 {α:Type} {p:α→Bool} {f:α→Nat}:∀ l:List α,((tr p l).map f).sum≤(l.map f).sum
 | []=>by simp [tr]
 | x::l=>by
  have:=Yb1 (p:=p) (f:=f) l
  by_cases h:tr p l=[]
  ·rw [Zwc h]
   split <;> simp
  rw [Z0w h]
  simp only [List.map_cons,List.sum_cons]
  omega
theorem Zvj (t:Tr):1≤pt t:=by rw [Zjj];omega
theorem Ykc {t x:Tr} (h:x∈t.Kids):pt x+1≤pt t:=by
 have:=Z6s (f:=pt) h
 rw [Zjj t]
 omega
theorem Ybh:∀ (n:Nat) (t:Tr),SizeOf.sizeOf t < n→pt (nrm t)≤pt t
 | 0,_,h=>by omega
 | n+1,t,h=>by
  have ih:∀ x∈t.Kids,pt (nrm x)≤pt x:=fun x hx=>Ybh n x (by have:=Je hx;omega)
  have e:=Ybc (f:=pt) (g:=pt) nrm ih
  by_cases h0:t.Kind=0
  ·rw [Zgf h0,Zjj]
   exact Zvj t
  by_cases h1:t.Kind=1
  ·rw [V8 h1,Zjj,Zjj t]
   simp only
   have a:=Zlh (fun x:Int=>x == 0) t.Words
   have b:=Yb1 (p:=fun x:Tr=>x.Kind == 0) (f:=pt) (t.Kids.map nrm)
   exact Nat.add_le_add (Nat.add_le_add_left a 1) (Nat.le_trans b e)
  rw [Zdq h0 h1,Zjj,Zjj t]
  simp only
  omega
theorem Ykf {t:Tr} {d:Nat} (h:rt t d=true) (h0:¬ t.Kind=0) (h1:¬ t.Kind=10):t.Words.length < 65536∧(t.Kind=1→t.Kids.length < 65536)∧(1 < t.Kind→t.Words=[])∧∀ k∈t.Kids,rt k (d - 1)=true∧okk t.Kind k=true:=by
 rw [Zjl,if_neg h0,if_neg h1] at h
 by_cases hb:t.Kind < 0∨10 < t.Kind∨d=0∨65536≤t.Words.length∨(t.Kind=1∧65536≤t.Kids.length)∨1048576≤t.Kids.length∨(1 < t.Kind∧0 < t.Words.length)
 ·rw [if_pos hb] at h;cases h
 rw [if_neg hb,List.all_eq_true] at h
 refine ⟨by omega,fun h=>by omega,fun h=>List.length_eq_zero_iff.1 (by omega),fun k hk => ?_⟩
 have:=h k hk
 rwa [Bool.and_eq_true] at this
def zs (l:List Int) (N:Nat):List Int:=l++List.replicate (N - l.length) 0
def Ypk (t:Tr) (l:List Int) (a:Nat):Int:=if t.Words.length+t.Kids.length=0 then -1 else (l.length:Int) - a - 1
theorem Ygs {kind:Int} {k:Tr} (h:¬ (2≤kind∧kind≤7)) (hk:okk kind k=true):¬ k.Kind=10∧(kind=9→k.Kind=1):=by
 unfold okk at hk
 rw [if_neg h,Bool.and_eq_true,bne_iff_ne,Bool.or_eq_true,bne_iff_ne,beq_iff_eq] at hk
 exact ⟨hk.1,fun h9=>by rcases hk.2 with h | h;exact absurd h9 h;exact h⟩
structure Fine (t:Tr) (d:Nat):Prop where
 bd:Bd t
 rt:rt t d=true
 pt:pt t≤200000
theorem Fine.kid {t x:Tr} {d:Nat} (h:Fine t d) (hx:x∈t.Kids):Fine x (d - 1):=⟨h.bd.all x hx,(Z4j h.rt).2.2.2.2 x hx,by have:=h.pt;have:=Ykc hx;omega⟩
theorem Fine.nrm {t:Tr} {d:Nat} (h:Fine t d):Fine (nrm t) d:=⟨h.bd.nrm,rtN h.rt,Nat.le_trans (Ybh _ t (Nat.lt_succ_self _)) h.pt⟩
structure Nm (t:Tr) (d:Nat):Prop where
 f:Fine t d
 n:nrm t=t
 k:¬ t.Kind=10
theorem Nm.kid {t x:Tr} {d:Nat} (h:Nm t d) (h0:¬ t.Kind=0) (hx:x∈t.Kids) (h10:¬ x.Kind=10):Nm x (d - 1):=by
 refine ⟨h.f.kid hx,?_,h10⟩
 have hn:=h.n
 by_cases h1:t.Kind=1
 ·rw [V8 h1] at hn
  rw [← hn] at hx
  simp only at hx
  obtain ⟨y,_,rfl⟩:=List.mem_map.1 (Zjx hx)
  exact Z3o y
 rw [Zdq h0 h1] at hn
 rw [← hn] at hx
 simp only at hx
 obtain ⟨y,_,rfl⟩:=List.mem_map.1 hx
 exact Z3o y
theorem Nm.words {t:Tr} {d:Nat} (h:Nm t d) (h1:t.Kind=1):tr (fun x=>x == 0) t.Words=t.Words:=by
 have hn:=h.n
 rw [V8 h1] at hn
 exact congrArg Za.Words hn
theorem Nm.kids {t:Tr} {d:Nat} (h:Nm t d) (h1:t.Kind=1):tr (fun x=>x.Kind == 0) t.Kids=t.Kids:=by
 have hn:=h.n
 rw [V8 h1] at hn
 have:=congrArg Za.Kids hn
 simp only at this
 rw [← this,Z18]
theorem Nm.okids {t:Tr} {d:Nat} (h:Nm t d) (h18:t.Kind=1∨t.Kind=8):∀ x∈t.Kids,Nm x (d - 1):=fun x hx =>
 h.kid (by omega) hx (Ygs (by omega) ((Ykf h.f.rt (by omega) h.k).2.2.2 x hx).2).1
theorem Nm.null {t:Tr} {d:Nat} (h:Nm t d) (h0:t.Kind=0):t=⟨0,[],[]⟩:=by
 have:=h.n
 rwa [Zgf h0,eq_comm] at this
def hdS (t:Tr) (l:List Int) (a:Nat):Int:=Ypk t l a % 1073741824 * 4+(t.Words.length:Int) * 4294967296+(t.Kids.length:Int) * 281474976710656
def hv (t:Tr) (l:List Int) (a:Nat) (c:Int):Int:=if t.Kind=0 then 0 else if t.Kind=1 then hdS t l a else ((l.length:Int) - a - 1) % 1073741824 * 4+1+(t.Kind - 2) * 4294967296+c * 34359738368
def StN (W K:Nat) (x:Tr):Prop:=x.Kind=1∧(∃ d,Nm x d)∧x.Words.length≤W∧x.Kids.length≤K
theorem StN.kids {W K:Nat} {x:Tr} (h:StN W K x):∀ y∈x.Kids,∃ d,Nm y d:=fun y hy=>by
 obtain ⟨k,⟨d,n⟩,_⟩:=h
 exact ⟨_,n.okids (.inl k) y hy⟩
section
variable {A:Zz}
inductive MR (A:Zz):Zj→Tr→Prop
 | mk (r:Zj) (t:Tr) (ho:OKr A r) (hk:t.Kind=r.kind) (hw:t.Words=Zsz A r) (hl:(t.Kids.length:Int)=Ydv r)
   (he:∀ (i:Nat) (x:Tr),t.Kids[i]? = some x→(Yco A r i).2=0) (hs:∀ (i:Nat) (x:Tr),t.Kids[i]? = some x→MR A (Yco A r i).1 x):MR A r t
theorem MR.o {r:Zj} {t:Tr} (h:MR A r t):OKr A r:=by cases h;assumption
theorem MR.ws {r:Zj} {t:Tr} (h:MR A r t):t.Words=Zsz A r:=by cases h;assumption
theorem MR.kid {r:Zj} {t:Tr} (h:MR A r t) {i:Nat} {x:Tr} (hx:t.Kids[i]? = some x):(Yco A r i).2=0∧MR A (Yco A r i).1 x:=by
 cases h with
 | mk _ _ _ _ _ _ he hs=>exact ⟨he i x hx,hs i x hx⟩
end
theorem Zia (ws:List Int) (ks:List Tr):Vf ws ks=some ⟨1,ws,ks⟩:=rfl
theorem Z35 (l:List Tr):Zew l=some (Znu l):=by
 unfold Zew Znu
 cases l with
 | nil=>rfl
 | cons x l =>
  have:(((x::l).length:Int) == 0)=false:=by rw [beq_eq_false_iff_ne,List.length_cons];omega
  rw [this,cond_false,if_neg (by simp)]
theorem Yeg {α:Type} (xs:List α) (g:α→Tr) (step:Int×List Tr→Option ((Int×List Tr) ⊕ List Tr)) (hl:xs.length≤1048576)
  (h1:∀ (i:Nat) (x:α) (out:List Tr),i < xs.length→xs[i]? = some x→x∈xs→out.length≤1048576→step ((i:Int),out)=some (.inl (IntKind.i64.wrap ((i:Int)+1),out++[g x])))
  (h2:∀ out,step ((xs.length:Int),out)=some (.inr out)):Z3 step (0,[])=some (xs.map g):=by
 have main:=Yj1 xs (fun i (s:List Tr)=>(i,s)) (fun s=>s) step (fun s _ x=>s++[g x]) (fun i s=>s=(xs.take i).map g) (by omega) (fun i s x hi hx hm hI=>⟨h1 i x s hi hx hm (by rw [hI,List.length_map,List.length_take];omega),by rw [hI,List.take_add_one,hx,List.map_append];rfl⟩) (fun s _=>h2 s) [] (by simp)
 rw [main.1,main.2,List.take_length]
theorem Z1m {out:List Tr} {x:Tr} (h:out.length≤1048576):Zf9 56 out [x]=some (out++[x]):=Vv (by rw [List.length_singleton];omega) (by rw [List.length_singleton];omega)
theorem Yhj {w:Zx} (h1:0≤w.At∧w.At≤65534) (h2:0 < w.Mask∧w.Mask < 256):IntKind.u64.wrap (Zci .u64 (IntKind.u64.wrap w.At) (IntKind.u64.wrap ((IntKind.u64.wrap w.Mask) * 2 ^ min (Int.toNat 32) 64)))=IntKind.u64.wrap (IntKind.u64.wrap w.At+IntKind.u64.wrap (4294967296 * IntKind.u64.wrap w.Mask)):=by
 rw [Yla h1.1 (by omega) (by omega) (by omega),Zso (x:=w.At) (by omega),Zso (x:=w.Mask) (by omega),Zso (x:=4294967296 * w.Mask) (by omega),Zso (by omega)]
 omega
theorem Ycw {ws:List Zx} (hl:ws.length≤1048576) (h:∀ w∈ws,(0≤w.At∧w.At≤65534)∧(0 < w.Mask∧w.Mask < 256)):Zbi ws=some (Znu (ws.map wT)):=by
 unfold Zbi
 rw [Yeg ws wT (Uz ws) hl (fun i x out hi hx hm ho=>by
  unfold Uz
  simp only
  rw [Zba hi,cond_true,Xa hx,Option.bind_some,Yhj (h x hm).1 (h x hm).2,Zia,Option.bind_some,Z1m ho]
  rfl) (fun out=>by
  unfold Uz
  simp only
  rw [Zbz,cond_false]),Option.bind_some,Z35]
 rfl
theorem Ztb {e:Ed} (h1:0≤e.Kind∧e.Kind≤3) (h2:0≤e.List_∧e.List_≤9):hdE e=e.Kind+256 * e.List_:=by
 unfold hdE
 rw [Ur (x:=256 * e.List_) (by omega) (by omega),Ur (by omega) (by omega),Zso (by omega)]
theorem Ygj {o:Zt} (h1:0≤o.Kind∧o.Kind≤3) (h2:0≤o.N∧o.N≤1048576):IntKind.u64.wrap (Zci .u64 (IntKind.u64.wrap o.Kind) (IntKind.u64.wrap ((IntKind.u64.wrap o.N) * 2 ^ min (Int.toNat 8) 64)))=hdO o:=by
 unfold hdO
 rw [Ylb h1.1 (by omega) h2.1 (by omega),Ur (x:=256 * o.N) (by omega) (by omega),Ur (by omega) (by omega),Zso (by omega)]
 omega
theorem Yhw {l:Int} {o:Zt} {r:Bool} (h:okO l o r=true):(0≤o.Kind∧o.Kind≤3)∧(0≤o.N∧o.N≤1048576)∧(o.Kind=3→r=true):=by
 unfold okO at h
 by_cases k0:o.Kind=0
 ·rw [if_pos k0] at h
  simp only [Bool.and_eq_true,decide_eq_true_eq] at h
  exact ⟨by omega,by omega,fun k=>by omega⟩
 rw [if_neg k0] at h
 by_cases k1:o.Kind=1∨o.Kind=2
 ·rw [if_pos k1,Bool.and_eq_true,beq_iff_eq] at h
  exact ⟨by omega,by omega,fun k=>by omega⟩
 rw [if_neg k1] at h
 by_cases k3:o.Kind=3
 ·rw [if_pos k3] at h
  simp only [Bool.and_eq_true,beq_iff_eq] at h
  exact ⟨by omega,by omega,fun _=>h.2.2.2.2⟩
 rw [if_neg k3] at h
 cases h
theorem Zyp:∀ (k:Nat) (e:Ed) (d:Nat),BE e→GN e→rE e d=true→2 * SizeOf.sizeOf e < k→(Y0 k).1 e=some (TE e)
 | 0,_,_,_,_,_,h=>by omega
 | 1,e,_,_,_,_,h=>by
  have:0 < SizeOf.sizeOf e:=by
   obtain ⟨a,b,c,d,f,g,i⟩:=e
   simp only [Zf.mk.sizeOf_spec]
   omega
  omega
 | k+2,e,d,hb,hg,hr,hk=>by
  have gk:=hg.k
  have go:=hg.o
  have gw:=hg.w
  show Zhg (Y0 (k+1)).1 (Y0 (k+1)).2.1 (Y0 (k+1)).2.2 e=_
  unfold Zhg
  rw [Zrb] at hr
  by_cases hd:d=0
  ·rw [if_pos hd] at hr;cases hr
  rw [if_neg hd] at hr
  by_cases h0:e.Kind=0
  ·rw [beq_eq_false_iff_ne.2 (by omega:¬ e.Kind=1),cond_false,beq_eq_false_iff_ne.2 (by omega:¬ e.Kind=2),cond_false,beq_eq_false_iff_ne.2 (by omega:¬ e.Kind=3),cond_false,Zlq,if_pos h0]
  rw [if_neg h0] at hr
  by_cases h1:e.Kind=1
  ·rw [if_pos h1] at hr
   simp only [Bool.and_eq_true] at hr
   have hl:e.List_=0:=by
    have:=hr.1.2
    unfold Zg9 at this
    rw [Bool.and_eq_true,beq_iff_eq] at this
    exact this.1
   have ev:IntKind.u64.wrap e.Kind=hdE e:=by rw [Ztb (by omega) (by omega),Zso (by omega),hl];omega
   rw [show (e.Kind == 1)=true from by rw [h1];rfl,cond_true,Zia,Option.bind_some,Zlq,if_neg h0,if_pos h1,ev]
  rw [if_neg h1] at hr
  rw [beq_eq_false_iff_ne.2 h1,cond_false]
  by_cases h2:e.Kind=2
  ·rw [if_pos h2] at hr
   simp only [Bool.and_eq_true] at hr
   obtain ⟨⟨_,hlo⟩,hw,hkd⟩:=hr
   have hl:e.List_=0:=by
    unfold Zg9 at hlo
    rw [Bool.and_eq_true,beq_iff_eq] at hlo
    exact hlo.1
   have ev:IntKind.u64.wrap e.Kind=hdE e:=by rw [Ztb (by omega) (by omega),Zso (by omega),hl];omega
   have hwr:=Zxf Z6t _ _ hw
   have hwm:=Zp1 (Q:=fun x:Zx=>x.Mask≠0) (fun p x hx=>by
    unfold okW at hx
    simp only [Bool.not_eq_true',Bool.or_eq_false_iff,beq_eq_false_iff_ne] at hx
    exact hx.1.1.2) _ _ hw
   have hkm:=Zp1 (Q:=fun x:Zl=>x.E.Kind≠0∧rE x.E (d - 1)=true) (fun p x hx=>by
    unfold okK okP at hx
    simp only [Bool.and_eq_true,bne_iff_ne] at hx
    exact hx.2) _ _ hkd
   have hkids:(Y0 (k+1)).2.1 e.Kids=some (Znu (e.Kids.map fun k=>kT k (TE k.E))):=by
    show Zca (Y0 k).1 (Y0 k).2.1 (Y0 k).2.2 e.Kids=_
    unfold Zca
    rw [Yeg e.Kids (fun k=>kT k (TE k.E)) (Gp (Y0 k).1 e.Kids) gk (fun i x out hi hx hm ho=>by
     unfold Gp
     simp only
     rw [Zba hi,cond_true,Xa hx,Option.bind_some,Zyp k x.E (d - 1) (hb.ks x hm) (hg.ks x hm) (hkm x hm).2 (by have:=Zht hm;omega),Option.bind_some,Zia,Option.bind_some,Z1m ho]
     rfl) (fun out=>by
     unfold Gp
     simp only
     rw [Zbz,cond_false]),Option.bind_some,Z35]
    rfl
   rw [show (e.Kind == 2)=true from by rw [h2];rfl,cond_true,Ycw gw (fun w hw'=>by
    have a1:=hwr.1 w hw'
    have a2:=hwm w hw'
    have a3:=(hb.ws w hw').1
    omega),Option.bind_some,hkids,Option.bind_some,Zia,Option.bind_some,Zlq,if_neg h0,if_neg h1,if_pos h2,ev]
  rw [if_neg h2] at hr
  rw [beq_eq_false_iff_ne.2 h2,cond_false]
  by_cases h3:e.Kind=3
  ·rw [if_pos h3] at hr
   simp only [Bool.and_eq_true,decide_eq_true_eq,List.all_eq_true] at hr
   obtain ⟨_,⟨l2,l9⟩,hops,_⟩:=hr
   have ev:IntKind.u64.wrap (Zci .u64 (IntKind.u64.wrap e.Kind) (IntKind.u64.wrap ((IntKind.u64.wrap e.List_) * 2 ^ min (Int.toNat 8) 64)))=hdE e:=by
    rw [Ztb (by omega) (by omega),Ylb (by omega) (by omega) (by omega) (by omega)]
    omega
   have hopt:(Y0 (k+1)).2.2 e.List_ e.Ops=some (Znu (e.Ops.map fun o=>opT e.List_ o (TE o.E))):=by
    show Zdh (Y0 k).1 (Y0 k).2.1 (Y0 k).2.2 e.List_ e.Ops=_
    unfold Zdh
    rw [Yeg e.Ops (fun o=>opT e.List_ o (TE o.E)) (Zae (Y0 k).1 e.List_ e.Ops) go (fun i x out hi hx hm ho=>by
     obtain ⟨k1,k2,k3⟩:=Yhw (hops x hm)
     have hv:=Ygj k1 k2
     unfold Zae
     simp only
     rw [Zba hi,cond_true,Xa hx,Option.bind_some,hv]
     unfold opT
     by_cases q0:x.Kind=0
     ·rw [show (x.Kind == 0)=true from by rw [q0];rfl,cond_true,Zia,Option.bind_some,Z1m ho,if_neg (by omega),if_neg (by omega)]
      rfl
     rw [beq_eq_false_iff_ne.2 q0,cond_false]
     by_cases q3:x.Kind=3
     ·rw [beq_eq_false_iff_ne.2 (by omega:¬ x.Kind=1),cond_false,Option.bind_some]
      simp only
      rw [beq_eq_false_iff_ne.2 (by omega:¬ x.Kind=2),cond_false,show (x.Kind == 3)=true from by rw [q3];rfl,cond_true,Zyp k x.E (d - 1) (hb.os x hm) (hg.os x hm) (k3 q3) (by have:=Zk3 hm;omega),Option.bind_some,Zia,Option.bind_some,Z1m ho,if_pos q3]
      rfl
     ·rw [if_neg q3,if_pos (by omega)]
      by_cases q1:x.Kind=1
      ·rw [show (x.Kind == 1)=true from by rw [q1];rfl,cond_true,Option.bind_some]
       simp only
       rw [cond_true,Zia,Option.bind_some,Z1m ho]
       rfl
      rw [beq_eq_false_iff_ne.2 q1,cond_false,Option.bind_some]
      simp only
      rw [show (x.Kind == 2)=true from by rw [show x.Kind=2 by omega];rfl,cond_true,Zia,Option.bind_some,Z1m ho]
      rfl) (fun out=>by
     unfold Zae
     simp only
     rw [Zbz,cond_false]),Option.bind_some,Z35]
    rfl
   rw [show (e.Kind == 3)=true from by rw [h3];rfl,cond_true,hopt,Option.bind_some,ev,Zia,Option.bind_some,Zlq,if_neg h0,if_neg h1,if_neg h2]
  rw [if_neg h3] at hr;cases hr
theorem Ztq {e:Ed} {d:Nat} (hb:BE e) (hg:GN e) (hr:rE e d=true):Zj6 e=some (TE e):=Zbs (2 * SizeOf.sizeOf e+1) fun k hk=>Zyp k e d hb hg hr (by omega)
theorem Z6r {t:Tr} (h:Zby t=true):t=⟨0,[],[]⟩:=by
 obtain ⟨k,w,c⟩:=t
 unfold Zby at h
 simp only [Bool.and_eq_true,beq_iff_eq,List.length_eq_zero_iff] at h
 obtain ⟨h1,h2,h3⟩:=h
 rw [h1,h2,h3]
theorem Zl2 {a b:Ed} (h1:a.Kind=b.Kind) (h2:a.Old=b.Old) (h3:a.New=b.New) (h4:a.Words=b.Words) (h5:a.Kids=b.Kids) (h6:a.List_=b.List_) (h7:a.Ops=b.Ops):a=b:=by
 obtain ⟨_,_,_,_,_,_,_⟩:=a
 obtain ⟨_,_,_,_,_,_,_⟩:=b
 simp only at h1 h2 h3 h4 h5 h6 h7
 subst h1 h2 h3 h4 h5 h6 h7
 rfl
theorem Zmf {a b:Zt} (h1:a.Kind=b.Kind) (h2:a.N=b.N) (h3:a.L=b.L) (h4:a.E=b.E):a=b:=by
 obtain ⟨_,_,_,_⟩:=a
 obtain ⟨_,_,_,_⟩:=b
 simp only at h1 h2 h3 h4
 subst h1 h2 h3 h4
 rfl
def E0:Ed:=⟨0,⟨0,[],[]⟩,⟨0,[],[]⟩,[],[],0,[]⟩
theorem Ybj {e:Ed} (h:Zdy e=true):e=E0:=by
 unfold Zdy Zkp Zjq Zg9 at h
 simp only [Bool.and_eq_true,beq_iff_eq,List.length_eq_zero_iff] at h
 obtain ⟨h1,⟨h2,h3⟩,⟨h4,h5⟩,h6,h7⟩:=h
 exact Zl2 h1 (Z6r h2) (Z6r h3) h4 h5 h6 h7
theorem Ypg {a b:Int} (h0:0≤a) (h1:a < 256) (h2:0≤b) (h3:b < 281474976710656):IntKind.i64.wrap (IntKind.u64.wrap (Qq .u64 (a+256 * b) 255))=a:=by
 obtain ⟨x,rfl⟩:=Int.eq_ofNat_of_zero_le h0
 obtain ⟨y,rfl⟩:=Int.eq_ofNat_of_zero_le h2
 have h:=Zp8 (x+256 * y) 8 (by omega) (by decide)
 have e:IntKind.u64.wrap (IntKind.u64.wrap (1 * 2 ^ min (Int.toNat ((8:Nat):Int)) 64) - 1)=255:=by decide
 have c:((x+256 * y:Nat):Int)=(x:Int)+256 * (y:Int):=by omega
 have m:(x+256 * y) % 2 ^ 8=x:=by omega
 rw [e,c,m] at h
 rw [h,Ur (by omega) (by omega)]
theorem Yld {a b:Int} (h0:0≤a) (h1:a < 4294967296) (h2:0≤b) (h3:b < 4294967296):IntKind.i64.wrap (IntKind.u64.wrap (Qq .u64 (a+4294967296 * b) 4294967295))=a:=by
 obtain ⟨x,rfl⟩:=Int.eq_ofNat_of_zero_le h0
 obtain ⟨y,rfl⟩:=Int.eq_ofNat_of_zero_le h2
 have h:=Zp8 (x+4294967296 * y) 32 (by omega) (by decide)
 have e:IntKind.u64.wrap (IntKind.u64.wrap (1 * 2 ^ min (Int.toNat ((32:Nat):Int)) 64) - 1)=4294967295:=by decide
 have c:((x+4294967296 * y:Nat):Int)=(x:Int)+4294967296 * (y:Int):=by omega
 have m:(x+4294967296 * y) % 2 ^ 32=x:=by omega
 rw [e,c,m] at h
 rw [h,Ur (by omega) (by omega)]
theorem Yll {a b:Int} (h0:0≤a) (h1:a < 4294967296) (h2:0≤b) (h3:b < 4294967296):Int.fdiv (a+4294967296 * b) (2 ^ min (Int.toNat 32) 64)=b:=by
 have e:(2:Int) ^ min (Int.toNat 32) 64=4294967296:=by decide
 rw [e,Int.fdiv_eq_ediv_of_nonneg _ (by omega)]
 omega
theorem u8e {x:Int} (h:0≤x∧x < 256):IntKind.u8.wrap x=x:=IntWalk.u8_in x (by omega)
theorem Z4f {ws:List Zx} {t:Tr} (ht:t.Kids=ws.map wT) (hl:ws.length≤1048576) (h:∀ w∈ws,(0≤w.At∧w.At≤65534)∧(0≤w.Mask∧w.Mask < 256)):J5 t=some ws:=by
 have len:t.Kids.length=ws.length:=by rw [ht,List.length_map]
 unfold J5
 rw [Zjb ws id (Q9 t) [] (by omega) (fun i x out hi hx hm ho=>by
  obtain ⟨h1,h2⟩:=h x hm
  rw [List.length_nil] at ho
  have gx:Xs t.Kids (i:Int)=some (wT x):=Xa (by rw [ht,List.getElem?_map,hx];rfl)
  have ev:IntKind.u64.wrap (IntKind.u64.wrap x.At+IntKind.u64.wrap (4294967296 * IntKind.u64.wrap x.Mask))=x.At+4294967296 * x.Mask:=by
   rw [Zso (x:=x.At) (by omega),Zso (x:=x.Mask) (by omega),Zso (x:=4294967296 * x.Mask) (by omega),Zso (by omega)]
  unfold Q9
  simp only
  rw [len,Zba hi,cond_true,gx,Option.bind_some,show Xx (wT x) 0=some (x.At+4294967296 * x.Mask) from congrArg some ev,Option.bind_some,show Xx (wT x) 1=some x.Old from rfl,Option.bind_some,show Xx (wT x) 2=some x.New from rfl,Option.bind_some,Vv (by rw [List.length_singleton];omega) (by rw [List.length_singleton];omega),Option.bind_some,Yld (by omega) (by omega) (by omega) (by omega),Yll (by omega) (by omega) (by omega) (by omega),u8e h2]
  rfl) (fun out=>by
  unfold Q9
  simp only
  rw [len,Zbz,cond_false]),Option.bind_some,List.nil_append,List.map_id]
theorem Yd7 {l:Int} {o:Zt} {r:Bool} (h:okO l o r=true):(o.Kind=0→o.L=[]∧o.E=E0)∧(o.Kind=1∨o.Kind=2→o.N=0∧o.E=E0)∧(o.Kind=3→o.N=0∧o.L=[]):=by
 unfold okO at h
 by_cases k0:o.Kind=0
 ·rw [if_pos k0] at h
  simp only [Bool.and_eq_true,decide_eq_true_eq,beq_iff_eq,List.length_eq_zero_iff] at h
  exact ⟨fun _=>⟨h.2.1,Ybj h.2.2⟩,fun k=>by omega,fun k=>by omega⟩
 rw [if_neg k0] at h
 by_cases k1:o.Kind=1∨o.Kind=2
 ·rw [if_pos k1] at h
  simp only [Bool.and_eq_true,beq_iff_eq] at h
  exact ⟨fun k=>absurd k k0,fun _=>⟨h.1,Ybj h.2.2.2⟩,fun k=>by omega⟩
 rw [if_neg k1] at h
 by_cases k3:o.Kind=3
 ·rw [if_pos k3] at h
  simp only [Bool.and_eq_true,beq_iff_eq,List.length_eq_zero_iff] at h
  exact ⟨fun k=>absurd k k0,fun k=>absurd k k1,fun _=>⟨h.1,h.2.1⟩⟩
 rw [if_neg k3] at h
 cases h
theorem Zpt (t:Tr):(⟨t.Kind,t.Words,t.Kids⟩:Tr)=t:=by cases t;rfl
theorem bd0:Bd ⟨0,[],[]⟩ := .mk _ (by simp) (by simp) (by simp) (by simp)
def SE:Ed:=⟨2,⟨0,[],[]⟩,⟨0,[],[]⟩,[],[],0,[]⟩
theorem Ylh:rE E0 64=true:=by rw [Zrb];rfl
theorem Ygy:rE SE 64=true:=by rw [Zrb];rfl
theorem Ypq:TE E0=⟨0,[],[]⟩:=by rw [Zlq];rfl
theorem Yhe:TE SE=⟨1,[2],[⟨0,[],[]⟩,⟨0,[],[]⟩]⟩:=by rw [Zlq];rfl
theorem Yhv:nrm ⟨1,[2],[⟨0,[],[]⟩,⟨0,[],[]⟩]⟩=⟨1,[2],[]⟩:=by simp [Zfw,tr]
theorem Ybb:nrm ⟨1,[2],[]⟩=⟨1,[2],[]⟩:=by simp [Zfw,tr]
theorem Yhu:nrm ⟨0,[],[]⟩=⟨0,[],[]⟩:=by simp [Zfw,tr]
theorem Yke (d:Nat):rt ⟨0,[],[]⟩ d=true:=by rw [Zjl];rfl
theorem Ypn:rt ⟨1,[2],[⟨0,[],[]⟩,⟨0,[],[]⟩]⟩ 64=true:=by
 rw [Zjl,if_neg (by decide),if_neg (by decide),if_neg (by simp)]
 simp only [List.all_cons,List.all_nil,Yke,Nat.reduceSub]
 rfl
theorem Ylj:rt ⟨1,[2],[]⟩ 64=true:=by
 rw [Zjl,if_neg (by decide),if_neg (by decide),if_neg (by simp)]
 rfl
theorem Ypp:sz ⟨1,[2],[]⟩=1:=by simp [Ye0]
theorem Ypo:sz ⟨0,[],[]⟩=0:=by simp [Ye0]
theorem Yk2:BE E0 := .mk _ bd0 bd0 (by simp [E0]) (by simp [E0]) (by simp [E0]) (by simp [E0]) (by simp [E0]) (by simp [E0]) (by simp [E0])
theorem Yde:BE SE := .mk _ bd0 bd0 (by simp [SE]) (by simp [SE]) (by simp [SE]) (by simp [SE]) (by simp [SE]) (by simp [SE]) (by simp [SE])
theorem Ype:GN E0 := .mk _ (by simp [E0]) (by simp [E0]) (by simp [E0]) (by simp [E0,Zom]) (by simp [E0]) (by simp [E0]) (by simp [E0])
theorem Yjw:GN SE := .mk _ (by simp [SE]) (by simp [SE]) (by simp [SE]) (by simp [SE,Zom]) (by simp [SE]) (by simp [SE]) (by simp [SE])
theorem Yqs:WS [[0]]:=by constructor <;> simp
theorem Yov:WS [[4294967296,2]]:=by constructor <;> simp
theorem Yo8:Us ⟨0,[],[]⟩ 1=some ([0],true):=by
 have hp:Zb2 ⟨[0],1⟩ 0 ⟨0,[],[]⟩=some ⟨[0],1⟩:=Zbs 1 fun k hk=>by
  obtain ⟨j,rfl⟩:∃ j,k=j+1:=⟨k - 1,by omega⟩
  rfl
 have hs:Zey ⟨0,[],[]⟩=some 0:=by rw [Yas bd0 (Yke 64),Yhu,Ypo];rfl
 unfold Us
 simp only
 rw [show ((0:Int) == 10)=false from rfl,cond_false,Ztx bd0,Yke,Option.bind_some,Option.bind_some,show (cond false true (!true))=false from rfl,cond_false,Zwt bd0,Yhu,Option.bind_some,hs,Option.bind_some,show (cond (decide ((1:Int) < IntKind.i64.wrap (1+0))) true (decide (131072 < IntKind.i64.wrap (1+0))))=false from by decide,cond_false,show Zj0 8 (IntKind.i64.wrap (1+0)) (0:Int)=some [0] from rfl,Option.bind_some,hp]
 rfl
theorem Ypa:Zb2 ⟨[0,0],1⟩ 0 ⟨1,[2],[]⟩=some ⟨[4294967296,2],2⟩:=Zbs 3 fun k hk=>by
 obtain ⟨j,rfl⟩:∃ j,k=j+3:=⟨k - 3,by omega⟩
 have h3:∀ l n a,(Z0 (j+1)).2.2.1 ⟨l,n⟩ a []=some ⟨l,n⟩:=fun l n a=>by
  show Vb (Z0 j).1 (Z0 j).2.1 (Z0 j).2.2.1 (Z0 j).2.2.2 ⟨l,n⟩ a []=_
  unfold Vb
  rw [Y8 (r:=(l,n)) rfl]
  rfl
 have h2:(Z0 (j+2)).2.1 ⟨[4294967296,0],2⟩ 1 ⟨1,[2],[]⟩=some ⟨[4294967296,2],2⟩:=by
  show Vx (Z0 (j+1)).1 (Z0 (j+1)).2.1 (Z0 (j+1)).2.2.1 (Z0 (j+1)).2.2.2 ⟨[4294967296,0],2⟩ 1 ⟨1,[2],[]⟩=_
  unfold Vx
  simp only
  rw [show ((1:Int) == 1)=true from rfl,cond_true,show Vr (0 < List.length ([4294967296,0]:List Int)∧(0:Int)≤1∧(1:Int)≤(List.length ([4294967296,0]:List Int):Int))=some () from rfl,Option.bind_some,h3]
  rfl
 show Gm (Z0 (j+2)).1 (Z0 (j+2)).2.1 (Z0 (j+2)).2.2.1 (Z0 (j+2)).2.2.2 ⟨[0,0],1⟩ 0 ⟨1,[2],[]⟩=_
 unfold Gm
 simp only
 rw [show ((1:Int) == 0)=false from rfl,cond_false,show Zi2 ⟨1,[2],[]⟩=some ⟨1,0,1,0,0,0,0,false⟩ from rfl,Option.bind_some,show Zdo ⟨1,0,1,0,0,0,0,false⟩=some (1,true) from rfl]
 simp only [Option.bind_some]
 rw [show cond (cond ((1:Int) == 1) ((1:Int) == 0) false) (some (-1:Int)) (some (IntKind.i64.wrap (IntKind.i64.wrap (1 - 0) - 1)))=some 0 from rfl,Option.bind_some,show Zhy ⟨1,0,1,0,0,0,0,false⟩=some (4294967296,true) from rfl]
 simp only [Option.bind_some]
 rw [show Xs ([0,0]:List Int) 0=some 0 from rfl,Option.bind_some,show Zka ([0,0]:List Int) 0 4294967296=[4294967296,0] from rfl,show IntKind.i64.wrap (1+1)=2 from rfl,h2]
 rfl
theorem Yk4 {t:Tr} (hb:Bd t) (hr:rt t 64=true) (hk:t.Kind=1) (hn:nrm t=⟨1,[2],[]⟩):Us t 2=some ([4294967296,2],true):=by
 have hs:Zey ⟨1,[2],[]⟩=some 1:=by rw [Yas (.mk _ (by simp) (by simp) (by simp) (by simp)) Ylj,Ybb,Ypp];rfl
 unfold Us
 rw [hk,show ((1:Int) == 10)=false from rfl,cond_false,Ztx hb,hr,Option.bind_some,Option.bind_some,show (cond false true (!true))=false from rfl,cond_false,Zwt hb,hn,Option.bind_some,hs,Option.bind_some,show (cond (decide ((2:Int) < IntKind.i64.wrap (1+1))) true (decide (131072 < IntKind.i64.wrap (1+1))))=false from by decide,cond_false,show Zj0 8 (IntKind.i64.wrap (1+1)) (0:Int)=some [0,0] from rfl,Option.bind_some,Ypa]
 rfl
theorem Ypm:Zd2 (some ⟨[[0]],0,0⟩)=some (⟨none,0,0,0,0,0,0,0,0⟩,0):=by rfl
theorem Yli:Zd2 (some ⟨[[4294967296,2]],0,0⟩)=some (⟨some ⟨[[4294967296,2]],0,0⟩,1,0,1,1,0,0,0,0⟩,0):=by rfl
theorem vl:Zh3 ⟨64,65536,0,0⟩=some ⟨64,65536,0,0⟩:=by rfl
theorem Ypb:∃ w,Zav ⟨65536⟩ ⟨none,0,0,0,0,0,0,0,0⟩ 64=some (0,⟨w⟩):=⟨_,Zbs 1 fun k hk=>by
 obtain ⟨j,rfl⟩:∃ j,k=j+1:=⟨k - 1,by omega⟩
 rfl⟩
theorem Ypc:Zav ⟨65536⟩ ⟨some ⟨[[4294967296,2]],0,0⟩,1,0,1,1,0,0,0,0⟩ 64=some (0,⟨65534⟩):=Zbs 2 fun k hk=>by
 obtain ⟨j,rfl⟩:∃ j,k=j+2:=⟨k - 2,by omega⟩
 have h2:(Ya (j+1)).2.1 ⟨65534⟩ ⟨some ⟨[[4294967296,2]],0,0⟩,1,0,1,1,0,0,0,0⟩ 63=some (0,⟨65534⟩):=by
  show Up (Ya j).1 (Ya j).2.1 (Ya j).2.2 ⟨65534⟩ ⟨some ⟨[[4294967296,2]],0,0⟩,1,0,1,1,0,0,0,0⟩ 63=_
  unfold Up
  rw [show Xj ⟨some ⟨[[4294967296,2]],0,0⟩,1,0,1,1,0,0,0,0⟩=some 0 from rfl,Option.bind_some,Y8 (r := .inr 65534) rfl]
  rfl
 show Vz (Ya (j+1)).1 (Ya (j+1)).2.1 (Ya (j+1)).2.2 ⟨65536⟩ ⟨some ⟨[[4294967296,2]],0,0⟩,1,0,1,1,0,0,0,0⟩ 64=_
 unfold Vz
 rw [show Zh4 ⟨some ⟨[[4294967296,2]],0,0⟩,1,0,1,1,0,0,0,0⟩=some 1 from rfl,show Zez ⟨some ⟨[[4294967296,2]],0,0⟩,1,0,1,1,0,0,0,0⟩=some 2 from rfl,show Qa ⟨some ⟨[[4294967296,2]],0,0⟩,1,0,1,1,0,0,0,0⟩=some 1 from rfl]
 simp only [Option.bind_some]
 rw [show (cond (decide ((64:Int) < 1)) (some true) (some (cond (decide ((64:Int) < 1)) true (decide ((65536:Int) < 2)))))=some false from by decide,Option.bind_some,cond_false,show cond ((1:Int) == 1) (some ((1:Int) == 1)) (some ((1:Int) == 8))=some true from rfl,Option.bind_some,cond_true,show IntKind.i64.wrap (65536 - 2)=65534 from rfl,show IntKind.i64.wrap (64 - 1)=63 from rfl,h2]
 rfl
theorem Yo9:∃ w,Gz (some ⟨[[0]],0,0⟩) ⟨64,65536,0,0⟩=some (w,0):=by
 obtain ⟨w,hw⟩:=Ypb
 unfold Gz
 rw [vl,Ypm]
 simp only [Option.bind_some]
 rw [show ((0:Int) != 0)=false from rfl,cond_false,hw]
 exact ⟨_,rfl⟩
theorem Yk5:∃ w,Gz (some ⟨[[4294967296,2]],0,0⟩) ⟨64,65536,0,0⟩=some (w,0):=by
 unfold Gz
 rw [vl,Yli]
 simp only [Option.bind_some]
 rw [show ((0:Int) != 0)=false from rfl,cond_false,Ypc]
 exact ⟨_,rfl⟩
theorem Yqr:∃ w,Zco ⟨65536⟩ ⟨some ⟨[[4294967296,2]],0,0⟩,1,0,1,1,0,0,0,0⟩ 64=some (⟨1,[2],[]⟩,0,w):=⟨⟨65534⟩,Zbs 1 fun k hk=>by
 obtain ⟨j,rfl⟩:∃ j,k=j+1:=⟨k - 1,by omega⟩
 show K2 (Ud j) ⟨65536⟩ ⟨some ⟨[[4294967296,2]],0,0⟩,1,0,1,1,0,0,0,0⟩ 64=_
 unfold K2
 rw [show Zgj ⟨some ⟨[[4294967296,2]],0,0⟩,1,0,1,1,0,0,0,0⟩=some 2 from rfl,show Qa ⟨some ⟨[[4294967296,2]],0,0⟩,1,0,1,1,0,0,0,0⟩=some 1 from rfl,show K0 ⟨some ⟨[[4294967296,2]],0,0⟩,1,0,1,1,0,0,0,0⟩=some 1 from rfl,show Xj ⟨some ⟨[[4294967296,2]],0,0⟩,1,0,1,1,0,0,0,0⟩=some 0 from rfl]
 simp only [Option.bind_some]
 rw [show (cond (decide (IntKind.i64.wrap (65536 - 2) < 0)) (some true) (cond ((64:Int) == 0) ((Zh2 ⟨some ⟨[[4294967296,2]],0,0⟩,1,0,1,1,0,0,0,0⟩).bind fun y6=>some (cond (decide (IntKind.i64.wrap (65536 - 2) < 0)) true (cond ((64:Int) == 0) y6 false))) (some (cond (decide (IntKind.i64.wrap (65536 - 2) < 0)) true false))))=some false from rfl,Option.bind_some,cond_false,Qh (s':=(1,[2])) rfl,Y8 (r:=[2]) rfl,Option.bind_some,Y8 (r := .inr ([],65534)) rfl]
 rfl⟩
theorem Yqq:Zcn (some ⟨[[4294967296,2]],0,0⟩) ⟨64,65536,0,0⟩=some (⟨1,[2],[]⟩,0):=by
 obtain ⟨w,hw⟩:=Yk5
 obtain ⟨u,hu⟩:=Yqr
 unfold Zcn Zh1
 rw [hw,Yli]
 simp only [Option.bind_some]
 rw [show ((0:Int) != 0)=false from rfl,cond_false,cond_false,hu,Option.bind_some,Option.bind_some]
 simp only
 rw [Zwt (.mk _ (by simp) (by simp) (by simp) (by simp)),Ybb]
 rfl
theorem Yeu (l:List Int) (h:(l.length:Int)≤140737488355328):J3 l l=some true:=by rw [Z7c h,beq_self_eq_true]
theorem Yj9:Uy E0 1=some ([0],true):=by
 have hl:Zam=some (⟨64,65536,0,0⟩:X2):=rfl
 obtain ⟨w,hw⟩:=Yo9
 unfold Uy
 rw [Zp2 Yk2,Ylh,Option.bind_some,Bool.not_true,cond_false,Ztq Yk2 Ype Ylh,Ypq,Option.bind_some,Yo8,Option.bind_some]
 simp only
 rw [Bool.not_true,cond_false,Z7s Yqs,Option.bind_some,hl,Option.bind_some,hw]
 rfl
theorem Yk0:Bd (TE SE):=Z7j _ SE (Nat.lt_succ_self _) Yde Yjw
theorem Yk1:Bd ⟨1,[2],[]⟩ := .mk _ (by simp) (by simp) (by simp) (by simp)
theorem Yka:Uy SE 2=some ([4294967296,2],true):=by
 have hl:Zam=some (⟨64,65536,0,0⟩:X2):=rfl
 have hb:=Yk0
 obtain ⟨w,hw⟩:=Yk5
 unfold Uy
 rw [Yhe] at hb
 rw [Zp2 Yde,Ygy,Option.bind_some,Bool.not_true,cond_false,Ztq Yde Yjw Ygy,Yhe,Option.bind_some,Yk4 hb Ypn rfl Yhv,Option.bind_some]
 simp only
 rw [Bool.not_true,cond_false,Z7s Yov,Option.bind_some,hl,Option.bind_some,hw]
 rfl
theorem Ygv:Zj7 ⟨1,[2],[]⟩=some SE:=Zbs 2 fun k hk=>by
 obtain ⟨k,rfl⟩:∃ j,k=j+2:=⟨k - 2,by omega⟩
 have h1:J5 ⟨0,[],[]⟩=some []:=Z4f (ws:=[]) rfl (by simp) (by simp)
 have h2:(Ye (k+1)).2.1 ⟨0,[],[]⟩=some []:=by
  show V2 (Ye k).1 (Ye k).2.1 (Ye k).2.2 ⟨0,[],[]⟩=_
  unfold V2
  rw [Y8 (r:=([]:List Zl)) rfl]
  rfl
 show Zc2 (Ye (k+1)).1 (Ye (k+1)).2.1 (Ye (k+1)).2.2 ⟨1,[2],[]⟩=_
 unfold Zc2
 have lw:IntKind.i64.wrap (IntKind.u64.wrap (Qq .u64 2 255))=2:=by decide
 have n0:((1:Int) == 0)=false:=rfl
 simp only
 rw [n0,cond_false,show Xx ⟨1,[2],[]⟩ 0=some 2 from rfl,Option.bind_some,lw,show ((2:Int) == 1)=false from rfl,cond_false,show ((2:Int) == 2)=true from rfl,cond_true,show X5 ⟨1,[2],[]⟩ 0=some ⟨0,[],[]⟩ from rfl,Option.bind_some,h1,Option.bind_some,show X5 ⟨1,[2],[]⟩ 1=some ⟨0,[],[]⟩ from rfl,Option.bind_some,h2]
 rfl
theorem Yj8:Zev [4294967296,2]=some (SE,0):=by
 have hl:Zam=some (⟨64,65536,0,0⟩:X2):=rfl
 have hb:=Yk0
 rw [Yhe] at hb
 have hc:Zes [4294967296,2] ⟨64,65536,0,0⟩=some (⟨1,[2],[]⟩,0):=by
  unfold Zes
  rw [Z7s Yov,Option.bind_some,Yqq,Option.bind_some]
  simp only
  rw [show ((0:Int) != 0)=false from rfl,cond_false,show ((([4294967296,2]:List Int).length:Nat):Int)=2 from rfl,Yk4 Yk1 Ylj rfl Ybb,Option.bind_some]
  simp only
  rw [cond_true,Zuo (by decide),beq_self_eq_true]
  rfl
 unfold Zev
 rw [hl,Option.bind_some,hc,Option.bind_some]
 simp only
 rw [show ((0:Int) != 0)=false from rfl,cond_false]
 have hr:Zbh ⟨1,[2],[]⟩=some (SE,true):=by
  unfold Zbh
  rw [Ygv,Option.bind_some,Zp2 Yde,Ygy,Option.bind_some,cond_true,Ztq Yde Yjw Ygy,Yhe,Option.bind_some,Z52 hb Yk1,Yhv,Ybb,Zs3]
  rfl
 rw [hr]
 rfl
theorem Ygc:V4=some true:=by
 unfold V4
 have a:=Yj9
 have b:=Yka
 unfold E0 at a
 unfold SE at b
 rw [a,b,Yj8]
 simp only [Option.bind_some]
 rw [cond_true,cond_true,Yeu _ (by decide),Yeu _ (by decide)]
 rfl
def Vq (t:Tr) (i:Nat):Int:=(t.Words[i]?).getD 0
def Kv (t:Tr) (i:Nat):Tr:=(t.Kids[i]?).getD ⟨0,[],[]⟩
theorem Za0 (t:Tr) (i:Nat):Kv t i∈t.Kids∨Kv t i=⟨0,[],[]⟩:=by
 unfold Kv
 cases h:t.Kids[i]? with
 | none=>exact .inr rfl
 | some x=>exact .inl (List.mem_of_getElem? h)
theorem Z5n {α:Type} (p:α→Bool) (z:α):∀ l:List α,(∀ x∈l,p x=true→x=z)→∀ i:Nat,((tr p l)[i]?).getD z=(l[i]?).getD z
 | [],_,i=>rfl
 | x::l,h,i=>by
  have ih:=Z5n p z l (fun y hy=>h y (.tail _ hy))
  unfold tr
  cases e:tr p l with
  | nil =>
   rw [e] at ih
   simp only
   by_cases hp:p x=true
   ·rw [if_pos hp]
    cases i with
    | zero=>exact (h x (.head _) hp).symm
    | succ i=>exact ih i
   rw [if_neg hp]
   cases i with
   | zero=>rfl
   | succ i=>exact ih i
  | cons y ys =>
   rw [e] at ih
   simp only
   cases i with
   | zero=>rfl
   | succ i=>exact ih i
theorem Yb2 {t:Tr} (h:t.Kind=1) (i:Nat):Vq (nrm t) i=Vq t i:=by
 rw [V8 h]
 exact Z5n _ 0 t.Words (fun x _ hx=>by simpa using hx) i
theorem Ya3 {t:Tr} (h:t.Kind=1) (i:Nat):Kv (nrm t) i=nrm (Kv t i):=by
 rw [V8 h]
 refine (Z5n _ ⟨0,[],[]⟩ (t.Kids.map nrm) (fun x hx hk => ?_) i).trans ?_
 ·obtain ⟨y,_,rfl⟩:=List.mem_map.1 hx
  rw [beq_iff_eq,Zcp] at hk
  exact Zgf hk
 rw [List.getElem?_map]
 unfold Kv
 cases t.Kids[i]? with
 | none=>exact (Zgf rfl).symm
 | some x=>rfl
theorem Zu7 {a b:Tr} (h:nrm a=nrm b):a.Kind=b.Kind:=by rw [← Zcp a,h,Zcp]
theorem Z7a {u:Tr} {f:Tr→Tr} (h:nrm (Znu (u.Kids.map f))=nrm u):∀ x∈u.Kids,nrm (f x)=nrm x:=fun x hx=>by
 have hne:¬ (u.Kids.map f).length=0:=fun hz=>by
  rw [List.length_map,List.length_eq_zero_iff] at hz
  rw [hz] at hx
  cases hx
 unfold Znu at h
 rw [if_neg hne] at h
 have hk:u.Kind=9:=(Zu7 h).symm
 rw [Zdq (t:=⟨9,[],u.Kids.map f⟩) (show ¬ (9:Int)=0 by decide) (show ¬ (9:Int)=1 by decide),Zdq (t:=u) (by omega) (by omega)] at h
 have hh:(u.Kids.map f).map nrm=u.Kids.map nrm:=congrArg Za.Kids h
 rw [List.map_map] at hh
 exact List.map_inj_left.1 hh x hx
def Ygp (g:Bool) (w:Int):Int:=if g=true then w / 256 % 256 else 0
def rW (x:Tr):Zx:=⟨Vq x 0 % 4294967296,Vq x 0 / 4294967296 % 256,Vq x 1,Vq x 2⟩
def rK (F:Tr→Ed) (x:Tr):Zl:=⟨Vq x 0 % 4294967296,F (Kv x 0)⟩
def rO (g:Bool) (F:Tr→Ed) (x:Tr):Zt:=⟨Vq x 0 % 256,if g=true then Vq x 0 / 256 % 1099511627776 else if Vq x 0 % 256=0 then Vq x 0 / 256 else 0,if Vq x 0 % 256=1∨Vq x 0 % 256=2 then (Kv x 0).Kids else [],if Vq x 0 % 256=3 then F (Kv x 0) else E0⟩
def rdR (g:Bool) (F:Tr→Ed) (t:Tr):Ed:=⟨Vq t 0 % 256,if Vq t 0 % 256=1 then Kv t 0 else ⟨0,[],[]⟩,if Vq t 0 % 256=1 then Kv t 1 else ⟨0,[],[]⟩,if Vq t 0 % 256=2 then (Kv t 0).Kids.map rW else [],if Vq t 0 % 256=2 then (Kv t 1).Kids.map (rK F) else [],if Vq t 0 % 256=3 then Vq t 0 / 256 % 256 else Ygp g (Vq t 0),if Vq t 0 % 256=3 then (Kv t 0).Kids.map (rO g F) else []⟩
def rdB (g:Bool) (F:Tr→Ed) (t:Tr):Ed:=if t.Kind=0∨(g=true∧¬ t.Kind=1) then E0 else rdR g F t
def rdF (g:Bool):Nat→Tr→Ed
 | 0,_=>E0
 | k+1,t=>rdB g (rdF g k) t
theorem Z4d (g:Bool) (k:Nat):rdF g k ⟨0,[],[]⟩=E0:=by
 cases k with
 | zero=>rfl
 | succ k=>unfold rdF rdB;rw [if_pos (.inl rfl)]
theorem Ydu {t x:Tr} {i:Nat} (hx:x∈(Kv t i).Kids):Kv t i∈t.Kids:=by
 rcases Za0 t i with h | h
 ·exact h
 rw [h] at hx;cases hx
theorem Z1z {g:Bool} {F F':Tr→Ed} {t:Tr} (h:∀ i x,x∈(Kv t i).Kids→F (Kv x 0)=F' (Kv x 0)):rdB g F t=rdB g F' t:=by
 have h1:(Kv t 1).Kids.map (rK F)=(Kv t 1).Kids.map (rK F'):=List.map_congr_left fun x hx=>by
  unfold rK
  rw [h 1 x hx]
 have h2:(Kv t 0).Kids.map (rO g F)=(Kv t 0).Kids.map (rO g F'):=List.map_congr_left fun x hx=>by
  unfold rO
  rw [h 0 x hx]
 unfold rdB rdR
 rw [h1,h2]
theorem Zpr {t x:Tr} {i:Nat} (hx:x∈(Kv t i).Kids):SizeOf.sizeOf x+2≤SizeOf.sizeOf t:=by
 have:=Je hx
 have:=Je (Ydu hx)
 omega
theorem Z63 (g:Bool):∀ (k k':Nat) (t:Tr),SizeOf.sizeOf t < k→SizeOf.sizeOf t < k'→rdF g k t=rdF g k' t
 | 0,_,t,h,_=>by omega
 | k+1,0,t,_,h=>by omega
 | k+1,k'+1,t,h,h'=>Z1z fun i x hx=>by
  rcases Za0 x 0 with q | q
  ·have:=Je q
   have:=Zpr hx
   exact Z63 g k k' _ (by omega) (by omega)
  rw [q,Z4d,Z4d]
noncomputable def rd (g:Bool) (t:Tr):Ed:=rdF g (SizeOf.sizeOf t+1) t
theorem Ztu (g:Bool):rd g ⟨0,[],[]⟩=E0:=Z4d g _
theorem Ztt (g:Bool) (t:Tr):rd g t=rdB g (rd g) t:=Z1z fun i x hx=>by
 rcases Za0 x 0 with q | q
 ·have:=Je q
  have:=Zpr hx
  exact Z63 g _ _ _ (by omega) (by omega)
 rw [q,Z4d,Ztu]
theorem Zod {t:Tr} (h:Bd t) (i:Nat):0≤Vq t i∧Vq t i < 18446744073709551616:=by
 unfold Vq
 cases e:t.Words[i]? with
 | none=>exact ⟨by decide,by decide⟩
 | some w=>exact h.u w (List.mem_of_getElem? e)
theorem Zhs {t:Tr} (h:Bd t) (i:Nat):Bd (Kv t i):=by
 rcases Za0 t i with q | q
 ·exact h.all _ q
 rw [q];exact .mk _ (by simp) (by simp) (by simp) (by simp)
theorem Yaw:BE E0 := .mk _ (.mk _ (by simp [E0]) (by simp [E0]) (by simp [E0]) (by simp [E0])) (.mk _ (by simp [E0]) (by simp [E0]) (by simp [E0]) (by simp [E0])) (by simp [E0]) (by simp [E0]) (by simp [E0]) (by simp [E0]) (by simp [E0]) (by simp [E0]) (by simp [E0])
theorem Yhy (g:Bool):∀ (n:Nat) (t:Tr),SizeOf.sizeOf t < n→Bd t→BE (rd g t)
 | 0,_,h,_=>by omega
 | n+1,t,hn,hb=>by
  have sub:∀ i x,x∈(Kv t i).Kids→Bd x∧BE (rd g (Kv x 0)):=fun i x hx=>by
   have bx:=(Zhs hb i).all x hx
   refine ⟨bx,?_⟩
   rcases Za0 x 0 with q | q
   ·have:=Je q
    have:=Zpr hx
    exact Yhy g n _ (by omega) (bx.all _ q)
   rw [q,Ztu];exact Yaw
  have b0:Bd ⟨0,[],[]⟩ := .mk _ (by simp) (by simp) (by simp) (by simp)
  have k0:=(Zhs hb 0).k
  have k1:=(Zhs hb 1).k
  rw [Ztt]
  unfold rdB rdR
  split
  ·exact Yaw
  refine .mk _ ?_ ?_ ?_ ?_ ?_ ?_ ?_ ?_ ?_
  ·simp only;split;exact Zhs hb 0;exact b0
  ·simp only;split;exact Zhs hb 1;exact b0
  ·simp only;split
   ·rw [List.length_map];omega
   simp
  ·intro w hw
   simp only at hw
   split at hw
   ·obtain ⟨x,hx,rfl⟩:=List.mem_map.1 hw
    have bx:=(sub 0 x hx).1
    have:=Zod bx 0
    exact ⟨by unfold rW;simp only;omega,Zod bx 1,Zod bx 2⟩
   cases hw
  ·simp only;split
   ·rw [List.length_map];omega
   simp
  ·intro w hw
   simp only at hw
   split at hw
   ·obtain ⟨x,hx,rfl⟩:=List.mem_map.1 hw
    exact (sub 1 x hx).2
   cases hw
  ·simp only;split
   ·rw [List.length_map];omega
   simp
  ·intro w hw
   simp only at hw
   split at hw
   ·obtain ⟨x,hx,rfl⟩:=List.mem_map.1 hw
    have bk:=Zhs (sub 0 x hx).1 0
    unfold rO
    simp only
    split
    ·exact ⟨bk.k,bk.all⟩
    simp
   cases hw
  intro w hw
  simp only at hw
  split at hw
  ·obtain ⟨x,hx,rfl⟩:=List.mem_map.1 hw
   unfold rO
   simp only
   split
   ·exact (sub 0 x hx).2
   exact Yaw
  cases hw
theorem Ydi:ce E0=1:=by rw [Yay];rfl
theorem Z4p {α:Type} {f g:α→Nat}:∀ {l:List α},(∀ x∈l,f x≤3 * g x)→(l.map f).sum≤3 * (l.map g).sum
 | [],_=>by simp
 | x::l,h=>by
  have:=Z4p (f:=f) (g:=g) (l:=l) fun y hy=>h y (.tail _ hy)
  have:=h x (.head _)
  simp only [List.map_cons,List.sum_cons]
  omega
theorem Zza {α:Type} {f:α→Nat}:∀ {l:List α},(∀ x∈l,1≤f x)→l.length≤(l.map f).sum
 | [],_=>by simp
 | x::l,h=>by
  have:=Zza (f:=f) (l:=l) fun y hy=>h y (.tail _ hy)
  have:=h x (.head _)
  simp only [List.map_cons,List.sum_cons,List.length_cons]
  omega
theorem Yej (t:Tr) (i:Nat) (h:Kv t i∈t.Kids):pt (Kv t i)+1≤pt t:=by
 have:=Z3c (f:=pt) h
 rw [Zjj t]
 omega
theorem Yhz (g:Bool):∀ (n:Nat) (t:Tr),SizeOf.sizeOf t < n→ce (rd g t)≤3 * pt t
 | 0,_,h=>by omega
 | n+1,t,hn=>by
  have p1:=Zvj t
  have sub:∀ i x,x∈(Kv t i).Kids→ce (rd g (Kv x 0))+2≤3 * pt x:=fun i x hx=>by
   have px:=Zvj x
   rcases Za0 x 0 with q | q
   ·have:=Je q
    have:=Zpr hx
    have:=Yhz g n (Kv x 0) (by omega)
    have:=Yej x 0 q
    omega
   rw [q,Ztu,Ydi];omega
  have row:∀ i,(((Kv t i).Kids.map pt).sum+2≤pt t)∨(Kv t i).Kids=[]:=fun i=>by
   rcases Za0 t i with q | q
   ·have:=Yej t i q
    rw [Zjj (Kv t i)] at this
    exact .inl (by omega)
   rw [q];exact .inr rfl
  have len:∀ i,(Kv t i).Kids.length≤((Kv t i).Kids.map pt).sum:=fun i=>Zza fun x _=>Zvj x
  rw [Ztt]
  unfold rdB rdR
  split
  ·rw [Ydi];omega
  rw [Yay]
  simp only
  have r0:=row 0
  have r1:=row 1
  have l0:=len 0
  by_cases h2:Vq t 0 % 256=2
  ·rw [if_pos h2,if_pos h2,if_neg (by omega),List.length_map,List.map_map]
   have s:((Kv t 1).Kids.map ((fun k=>ce k.E) ∘ rK (rd g))).sum≤3 * ((Kv t 1).Kids.map pt).sum:=Z4p fun x hx=>by
    have:=sub 1 x hx
    show ce (rd g (Kv x 0))≤_
    omega
   have two:((Kv t 0).Kids.map pt).sum+((Kv t 1).Kids.map pt).sum+1≤pt t:=by
    rcases hk:t.Kids with _ | ⟨a,_ | ⟨b,ks⟩⟩
    ·have e0:Kv t 0=⟨0,[],[]⟩:=by unfold Kv;rw [hk];rfl
     have e1:Kv t 1=⟨0,[],[]⟩:=by unfold Kv;rw [hk];rfl
     rw [e0,e1]
     simpa using p1
    ·have e0:Kv t 0=a:=by unfold Kv;rw [hk];rfl
     have e1:Kv t 1=⟨0,[],[]⟩:=by unfold Kv;rw [hk];rfl
     rw [e0,e1,Zjj t,hk,List.map_cons,List.sum_cons,Zjj a]
     simp
     omega
    have e0:Kv t 0=a:=by unfold Kv;rw [hk];rfl
    have e1:Kv t 1=b:=by unfold Kv;rw [hk];rfl
    rw [e0,e1,Zjj t,hk,List.map_cons,List.sum_cons,List.map_cons,List.sum_cons,Zjj a,Zjj b]
    omega
   simp only [List.length_nil,List.map_nil,List.sum_nil]
   omega
  rw [if_neg h2,if_neg h2]
  by_cases h3:Vq t 0 % 256=3
  ·rw [if_pos h3,List.length_map,List.map_map]
   have s:((Kv t 0).Kids.map fun x=>ce (rO g (rd g) x).E+1).sum≤3 * ((Kv t 0).Kids.map pt).sum:=Z4p fun x hx=>by
    have:=sub 0 x hx
    have px:=Zvj x
    unfold rO
    simp only
    split
    ·omega
    rw [Ydi];omega
   rw [Z7e] at s
   have s':(List.map ((fun o:Zt=>ce o.E) ∘ rO g (rd g)) (Kv t 0).Kids).sum=((Kv t 0).Kids.map fun x=>ce (rO g (rd g) x).E).sum:=rfl
   rw [s']
   simp only [List.length_nil,List.map_nil,List.sum_nil]
   rcases r0 with r0 | r0
   ·omega
   rw [r0] at s ⊢
   simp only [List.length_nil,List.map_nil,List.sum_nil]
   omega
  rw [if_neg h3]
  simp only [List.length_nil,List.map_nil,List.sum_nil]
  omega
theorem Z3a {a b:Tr} (h:nrm a=nrm b) (ha:a.Kind=1) (i:Nat):nrm (Kv a i)=nrm (Kv b i):=by rw [← Ya3 ha,← Ya3 ((Zu7 h).symm.trans ha),h]
theorem Yfx {a b:Tr} (h:nrm a=nrm b) (ha:a.Kind=1) (i:Nat):Vq a i=Vq b i:=by rw [← Yb2 ha,← Yb2 ((Zu7 h).symm.trans ha),h]
theorem Z4e {g:Bool} {F F':Tr→Ed} {t:Tr} (hl:¬ Vq t 0 % 256=3→0≤Vq t 0∧Vq t 0 < 256) (hk:Vq t 0 % 256=2→∀ x∈(Kv t 1).Kids,rK F x=rK F' x) (ho:Vq t 0 % 256=3→∀ x∈(Kv t 0).Kids,rO (!g) F x=rO g F' x):rdR (!g) F t=rdR g F' t:=by
 unfold rdR
 refine Zl2 rfl rfl rfl rfl ?_ ?_ ?_
 ·simp only
  by_cases q:Vq t 0 % 256=2
  ·rw [if_pos q,if_pos q]
   exact List.map_congr_left (hk q)
  rw [if_neg q,if_neg q]
 ·simp only
  by_cases q:Vq t 0 % 256=3
  ·rw [if_pos q,if_pos q]
  rw [if_neg q,if_neg q]
  have:=hl q
  unfold Ygp
  cases g
  ·show Vq t 0 / 256 % 256=0
   omega
  show 0=Vq t 0 / 256 % 256
  omega
 simp only
 by_cases q:Vq t 0 % 256=3
 ·rw [if_pos q,if_pos q]
  exact List.map_congr_left (ho q)
 rw [if_neg q,if_neg q]
theorem Yjy {o:Zt} (h1:0≤o.Kind∧o.Kind≤3) (h2:0≤o.N∧o.N≤1048576):hdO o=o.Kind+256 * o.N:=by
 unfold hdO
 rw [Ur (x:=256 * o.N) (by omega) (by omega),Ur (by omega) (by omega),Zso (by omega)]
theorem Z8n (g:Bool):∀ (n:Nat) (t:Tr) (d:Nat),SizeOf.sizeOf t < n→Bd t→rE (rd g t) d=true→nrm (TE (rd g t))=nrm t→rd (!g) t=rd g t
 | 0,_,_,h,_,_,_=>by omega
 | n+1,t,d,hn,hb,hr,he=>by
  have wr:=Zod hb 0
  by_cases h0:t.Kind=0
  ·rw [Ztt,Ztt g]
   unfold rdB
   rw [if_pos (.inl h0),if_pos (.inl h0)]
  by_cases h1:g=true∧¬ t.Kind=1
  ·exfalso
   have e0:rd g t=E0:=by
    rw [Ztt]
    unfold rdB
    rw [if_pos (.inr h1)]
   rw [e0] at he
   have:=Zu7 he
   rw [Zlq,if_pos (show E0.Kind=0 from rfl)] at this
   exact h0 this.symm
  have hR:rd g t=rdR g (rd g) t:=by
   rw [Ztt]
   unfold rdB
   rw [if_neg (fun q=>q.elim h0 h1)]
  rw [hR] at hr he
  rw [hR]
  obtain ⟨R,eR⟩:∃ R,rdR g (rd g) t=R:=⟨_,rfl⟩
  have fK:R.Kind=Vq t 0 % 256:=by rw [← eR];rfl
  have fL:R.List_=if Vq t 0 % 256=3 then Vq t 0 / 256 % 256 else Ygp g (Vq t 0):=by rw [← eR];rfl
  have fk:R.Kids=if Vq t 0 % 256=2 then (Kv t 1).Kids.map (rK (rd g)) else []:=by rw [← eR];rfl
  have fo:R.Ops=if Vq t 0 % 256=3 then (Kv t 0).Kids.map (rO g (rd g)) else []:=by rw [← eR];rfl
  rw [eR] at hr he
  rw [Zrb] at hr
  by_cases hd:d=0
  ·rw [if_pos hd] at hr;cases hr
  rw [if_neg hd] at hr
  have hk0:¬ R.Kind=0:=fun q=>by
   have:=Zu7 he
   rw [Zlq,if_pos q] at this
   exact h0 this.symm
  rw [if_neg hk0] at hr
  have hT:(TE R).Kind=1:=by rw [Yhf,if_neg hk0]
  have ht:t.Kind=1:=(Zu7 he).symm.trans hT
  have hR':rd (!g) t=rdR (!g) (rd (!g)) t:=by
   rw [Ztt]
   unfold rdB
   rw [if_neg (fun q=>q.elim h0 fun q=>q.2 ht)]
  have hw:hdE R=Vq t 0:=by
   have:=Yfx he hT 0
   rw [← this,Zlq,if_neg hk0]
   split
   ·rfl
   split <;> rfl
  rw [hR']
  by_cases k1:R.Kind=1
  ·rw [if_pos k1] at hr
   unfold Zg9 at hr
   simp only [Bool.and_eq_true,beq_iff_eq] at hr
   have hv:=Ztb (e:=R) (by omega) (by omega)
   exact Z4e (fun _=>by omega) (fun q=>by omega) (fun q=>by omega)
  rw [if_neg k1] at hr
  by_cases k2:R.Kind=2
  ·rw [if_pos k2] at hr
   simp only [Bool.and_eq_true] at hr
   obtain ⟨⟨_,hlo⟩,_,hkd⟩:=hr
   unfold Zg9 at hlo
   simp only [Bool.and_eq_true,beq_iff_eq] at hlo
   have hv:=Ztb (e:=R) (by omega) (by omega)
   refine Z4e (fun _=>by omega) (fun q x hx => ?_) (fun q=>by omega)
   rw [if_pos q] at fk
   have hkm:=Zp1 (Q:=fun x:Zl=>rE x.E (d - 1)=true) (fun p x hx=>by
    unfold okK okP at hx
    simp only [Bool.and_eq_true] at hx
    exact hx.2.2) _ _ hkd
   have r1:rE (rd g (Kv x 0)) (d - 1)=true:=hkm (rK (rd g) x) (by rw [fk];exact List.mem_map_of_mem hx)
   have hrow:nrm (Znu (R.Kids.map fun k=>kT k (TE k.E)))=nrm (Kv t 1):=by
    have:=Z3a he hT 1
    rw [Zlq,if_neg hk0,if_neg k1,if_pos k2] at this
    exact this
   rw [fk,List.map_map] at hrow
   have hx2:=Z7a hrow x hx
   have r2:nrm (TE (rd g (Kv x 0)))=nrm (Kv x 0):=Z3a hx2 rfl 0
   unfold rK
   rcases Za0 x 0 with u | u
   ·have:=Je u
    have:=Zpr hx
    rw [Z8n g n (Kv x 0) (d - 1) (by omega) (((Zhs hb 1).all x hx).all _ u) r1 r2]
   rw [u,Ztu,Ztu]
  rw [if_neg k2] at hr
  by_cases k3:R.Kind=3
  ·rw [if_pos k3] at hr
   simp only [Bool.and_eq_true,decide_eq_true_eq,List.all_eq_true] at hr
   obtain ⟨_,⟨l2,l9⟩,hops,_⟩:=hr
   refine Z4e (fun q=>by omega) (fun q=>by omega) (fun q x hx => ?_)
   rw [if_pos q] at fo
   have hok:=hops (rO g (rd g) x) (by rw [fo];exact List.mem_map_of_mem hx)
   have hrow:nrm (Znu (R.Ops.map fun o=>opT R.List_ o (TE o.E)))=nrm (Kv t 0):=by
    have:=Z3a he hT 0
    rw [Zlq,if_neg hk0,if_neg k1,if_neg k2] at this
    exact this
   rw [fo,List.map_map] at hrow
   have hx2:nrm (opT R.List_ (rO g (rd g) x) (TE (rO g (rd g) x).E))=nrm x:=Z7a hrow x hx
   obtain ⟨a1,a2,a3⟩:=Yhw hok
   obtain ⟨_,b1,b3⟩:=Yd7 hok
   have hwx:hdO (rO g (rd g) x)=Vq x 0:=Yfx hx2 rfl 0
   rw [Yjy a1 a2] at hwx
   have oK:(rO g (rd g) x).Kind=Vq x 0 % 256:=rfl
   have oN:(rO g (rd g) x).N=if g=true then Vq x 0 / 256 % 1099511627776 else if Vq x 0 % 256=0 then Vq x 0 / 256 else 0:=rfl
   have oE:(rO g (rd g) x).E=if Vq x 0 % 256=3 then rd g (Kv x 0) else E0:=rfl
   refine Zmf rfl ?_ rfl ?_
   ·show (if (!g)=true then Vq x 0 / 256 % 1099511627776 else if Vq x 0 % 256=0 then Vq x 0 / 256 else 0)=_
    cases g
    ·rw [if_pos (show (!false)=true from rfl)]
     rw [if_neg (by decide)] at oN
     split at oN <;> omega
    rw [if_neg (show ¬ (!true)=true by decide)]
    rw [if_pos rfl] at oN
    split <;> omega
   show (if Vq x 0 % 256=3 then rd (!g) (Kv x 0) else E0)=(if Vq x 0 % 256=3 then rd g (Kv x 0) else E0)
   by_cases u3:Vq x 0 % 256=3
   ·rw [if_pos u3,if_pos u3]
    rw [if_pos u3] at oE
    have r1:=a3 (oK.trans u3)
    rw [oE] at r1 hx2
    have r2:nrm (TE (rd g (Kv x 0)))=nrm (Kv x 0):=by
     have:=Z3a hx2 rfl 0
     unfold opT at this
     rw [if_pos (oK.trans u3)] at this
     exact this
    rcases Za0 x 0 with u | u
    ·have:=Je u
     have:=Zpr hx
     exact Z8n g n (Kv x 0) (d - 1) (by omega) (((Zhs hb 0).all x hx).all _ u) r1 r2
    rw [u,Ztu,Ztu]
   rw [if_neg u3,if_neg u3]
  rw [if_neg k3] at hr;cases hr
theorem Yl2 {t:Tr} {i:Int} (h0:0≤i):X5 t i=some ((t.Kids[i.toNat]?).getD ⟨0,[],[]⟩):=by
 unfold X5
 rw [decide_eq_false (by omega:¬ i < 0),cond_false]
 by_cases h:(t.Kids.length:Int)≤i
 ·rw [decide_eq_true h,cond_true,List.getElem?_eq_none (by omega)];rfl
 have hx:t.Kids[i.toNat]? = some t.Kids[i.toNat]:=List.getElem?_eq_getElem (by omega)
 have hg:=Xa hx
 rw [Int.toNat_of_nonneg h0] at hg
 rw [decide_eq_false h,cond_false,hg,hx];rfl
theorem Yko {t:Tr} {i:Int} (h0:0≤i):Xx t i=some ((t.Words[i.toNat]?).getD 0):=by
 unfold Xx
 rw [decide_eq_false (by omega:¬ i < 0),cond_false]
 by_cases h:(t.Words.length:Int)≤i
 ·rw [decide_eq_true h,cond_true,List.getElem?_eq_none (by omega)];rfl
 have hx:t.Words[i.toNat]? = some t.Words[i.toNat]:=List.getElem?_eq_getElem (by omega)
 have hg:=Xa hx
 rw [Int.toNat_of_nonneg h0] at hg
 rw [decide_eq_false h,cond_false,hg,hx];rfl
theorem Zm6 {t:Tr} (i:Nat):Xx t (i:Int)=some (Vq t i):=by
 have h:=Yko (t:=t) (i:=(i:Int)) (by omega)
 exact h
theorem Zkb {t:Tr} (i:Nat):X5 t (i:Int)=some (Kv t i):=by
 have h:=Yl2 (t:=t) (i:=(i:Int)) (by omega)
 exact h
theorem l8w {w:Int} (h:0≤w∧w < 18446744073709551616):IntKind.i64.wrap (IntKind.u64.wrap (Qq .u64 w 255))=w % 256:=by
 have:=Ypg (a:=w % 256) (b:=w / 256 % 281474976710656) (by omega) (by omega) (by omega) (by omega)
 obtain ⟨x,rfl⟩:=Int.eq_ofNat_of_zero_le h.1
 have h2:=Zp8 x 8 (by omega) (by decide)
 have e:IntKind.u64.wrap (IntKind.u64.wrap (1 * 2 ^ min (Int.toNat ((8:Nat):Int)) 64) - 1)=255:=by decide
 rw [e] at h2
 rw [h2,Ur (by omega) (by omega)]
 omega
theorem Yk8 {w:Int} (h:0≤w∧w < 18446744073709551616):IntKind.i64.wrap (IntKind.u64.wrap (Qq .u64 w 4294967295))=w % 4294967296:=by
 obtain ⟨x,rfl⟩:=Int.eq_ofNat_of_zero_le h.1
 have h2:=Zp8 x 32 (by omega) (by decide)
 have e:IntKind.u64.wrap (IntKind.u64.wrap (1 * 2 ^ min (Int.toNat ((32:Nat):Int)) 64) - 1)=4294967295:=by decide
 rw [e] at h2
 rw [h2,Ur (by omega) (by omega)]
 omega
theorem Yh1 {w:Int} (h:0≤w):Int.fdiv w (2 ^ min (Int.toNat 8) 64)=w / 256:=by
 have e:(2:Int) ^ min (Int.toNat 8) 64=256:=by decide
 rw [e,Int.fdiv_eq_ediv_of_nonneg _ (by omega)]
theorem Ykg {w:Int} (h:0≤w):Int.fdiv w (2 ^ min (Int.toNat 32) 64)=w / 4294967296:=by
 have e:(2:Int) ^ min (Int.toNat 32) 64=4294967296:=by decide
 rw [e,Int.fdiv_eq_ediv_of_nonneg _ (by omega)]
theorem u8m (x:Int):IntKind.u8.wrap x=x % 256:=rfl
theorem Z29 (t:Tr) (i:Nat):(Kv t i).Kids.length≤pt t:=by
 have h:=Zza (f:=pt) (l:=(Kv t i).Kids) fun x _=>Zvj x
 rcases Za0 t i with q | q
 ·have:=Yej t i q
  rw [Zjj (Kv t i)] at this
  omega
 rw [q];exact Nat.zero_le _
theorem Yez {t x:Tr} {i:Nat} (hx:x∈(Kv t i).Kids) (q:Kv x 0∈x.Kids):pt (Kv x 0)≤pt t:=Nat.le_trans (Z8a q) (Nat.le_trans (Z8a hx) (Z8a (Ydu hx)))
theorem Ycu {t:Tr} (hb:Bd t) (hl:t.Kids.length≤1000000):J5 t=some (t.Kids.map rW):=by
 have hk:=hb.k
 unfold J5
 rw [Zjb t.Kids rW (Q9 t) [] (by omega) (fun i x out hi hx hm ho=>by
  have w0:=Zod (hb.all x hm) 0
  rw [List.length_nil] at ho
  unfold Q9
  simp only
  rw [Zba hi,cond_true,Xa hx,Option.bind_some,show Xx x 0=some (Vq x 0) from Zm6 0,Option.bind_some,show Xx x 1=some (Vq x 1) from Zm6 1,Option.bind_some,show Xx x 2=some (Vq x 2) from Zm6 2,Option.bind_some,Vv (by rw [List.length_singleton];omega) (by rw [List.length_singleton];omega),Option.bind_some,Yk8 w0,Ykg w0.1,u8m]
  rfl) (fun out=>by
  unfold Q9
  simp only
  rw [Zbz,cond_false]),Option.bind_some,List.nil_append]
theorem Yei:∀ (k:Nat) (t:Tr),Bd t→pt t≤1000000→2 * SizeOf.sizeOf t < k→(Ye k).1 t=some (rd false t)
 | 0,_,_,_,h=>by omega
 | 1,t,_,_,h=>by
  have:=Zm4 t
  omega
 | k+2,t,hb,hp,hk=>by
  have m0:=Z29 t 0
  have m1:=Z29 t 1
  have w0:=Zod hb 0
  have b0:=Zhs hb 0
  have b1:=Zhs hb 1
  have k0:=b0.k
  have k1:=b1.k
  have sub:∀ i x,x∈(Kv t i).Kids→(Ye k).1 (Kv x 0)=some (rd false (Kv x 0)):=fun i x hx=>by
   have:=Zpr hx
   rcases Za0 x 0 with q | q
   ·have:=Je q
    exact Yei k _ (((Zhs hb i).all x hx).all _ q) (by have:=Yez hx q;omega) (by omega)
   rw [q,Ztu]
   obtain ⟨j,rfl⟩:∃ j,k=j+1:=⟨k - 1,by have:=Zm4 x;omega⟩
   rfl
  show Zc2 (Ye (k+1)).1 (Ye (k+1)).2.1 (Ye (k+1)).2.2 t=_
  unfold Zc2
  rw [Ztt]
  unfold rdB
  by_cases h0:t.Kind=0
  ·rw [if_pos (.inl h0),show (t.Kind == 0)=true from by rw [h0];rfl,cond_true]
   rfl
  rw [if_neg (fun q=>q.elim h0 fun q=>Bool.noConfusion q.1),beq_eq_false_iff_ne.2 h0,cond_false,show Xx t 0=some (Vq t 0) from Zm6 0,Option.bind_some,l8w w0]
  unfold rdR
  by_cases h1:Vq t 0 % 256=1
  ·rw [show (Vq t 0 % 256 == 1)=true from by rw [h1];rfl,cond_true,show X5 t 0=some (Kv t 0) from Zkb 0,Option.bind_some,show X5 t 1=some (Kv t 1) from Zkb 1,Option.bind_some,Option.bind_some]
   refine congrArg some (Zl2 rfl ?_ ?_ ?_ ?_ ?_ ?_)
   ·exact (Zpt _).trans (if_pos h1).symm
   ·exact (Zpt _).trans (if_pos h1).symm
   ·exact (if_neg (by omega)).symm
   ·exact (if_neg (by omega)).symm
   ·exact (if_neg (by omega)).symm
   exact (if_neg (by omega)).symm
  rw [beq_eq_false_iff_ne.2 h1,cond_false]
  by_cases h2:Vq t 0 % 256=2
  ·have hkids:(Ye (k+1)).2.1 (Kv t 1)=some ((Kv t 1).Kids.map (rK (rd false))):=by
    show V2 (Ye k).1 (Ye k).2.1 (Ye k).2.2 (Kv t 1)=_
    unfold V2
    rw [Zjb (Kv t 1).Kids (rK (rd false)) (Gq (Ye k).1 (Kv t 1)) [] (by omega) (fun i x out hi hx hm ho=>by
     have wx:=Zod (b1.all x hm) 0
     rw [List.length_nil] at ho
     unfold Gq
     simp only
     rw [Zba hi,cond_true,Xa hx,Option.bind_some,show Xx x 0=some (Vq x 0) from Zm6 0,Option.bind_some,show X5 x 0=some (Kv x 0) from Zkb 0,Option.bind_some,sub 1 x hm,Option.bind_some,Vv (by rw [List.length_singleton];omega) (by rw [List.length_singleton];omega),Option.bind_some,Yk8 wx]
     rfl) (fun out=>by
     unfold Gq
     simp only
     rw [Zbz,cond_false]),Option.bind_some,List.nil_append]
   rw [show (Vq t 0 % 256 == 2)=true from by rw [h2];rfl,cond_true,show X5 t 0=some (Kv t 0) from Zkb 0,Option.bind_some,Ycu b0 (by omega),Option.bind_some,show X5 t 1=some (Kv t 1) from Zkb 1,Option.bind_some,hkids,Option.bind_some,Option.bind_some]
   refine congrArg some (Zl2 rfl ?_ ?_ ?_ ?_ ?_ ?_)
   ·exact (if_neg (by omega)).symm
   ·exact (if_neg (by omega)).symm
   ·exact (if_pos h2).symm
   ·exact (if_pos h2).symm
   ·exact (if_neg (by omega)).symm
   exact (if_neg (by omega)).symm
  rw [beq_eq_false_iff_ne.2 h2,cond_false]
  by_cases h3:Vq t 0 % 256=3
  ·have hops:(Ye (k+1)).2.2 (Kv t 0)=some ((Kv t 0).Kids.map (rO false (rd false))):=by
    show Zdi (Ye k).1 (Ye k).2.1 (Ye k).2.2 (Kv t 0)=_
    unfold Zdi
    rw [Zjb (Kv t 0).Kids (rO false (rd false)) (Zaf (Ye k).1 (Kv t 0)) [] (by omega) (fun i x out hi hx hm ho=>by
     have wx:=Zod (b0.all x hm) 0
     rw [List.length_nil] at ho
     unfold Zaf
     simp only
     rw [Zba hi,cond_true,Xa hx,Option.bind_some,show Xx x 0=some (Vq x 0) from Zm6 0,Option.bind_some,l8w wx,Yh1 wx.1,Ur (x:=Vq x 0 / 256) (by omega) (by omega)]
     have fin:∀ o:Zt,o=rO false (rd false) x→(some (Sum.inl (IntKind.i64.wrap ((i:Int)+1),out++[o])):Option ((Int×List Zt) ⊕ List Zt))=some (Sum.inl (IntKind.i64.wrap ((i:Int)+1),out++[rO false (rd false) x])):=fun o ho=>by rw [ho]
     by_cases q0:Vq x 0 % 256=0
     ·rw [show (Vq x 0 % 256 == 0)=true from by rw [q0];rfl,cond_true,Option.bind_some,Vv (by rw [List.length_singleton];omega) (by rw [List.length_singleton];omega),Option.bind_some]
      exact fin _ (Zmf rfl (if_pos q0).symm (if_neg (by omega)).symm (if_neg (by omega)).symm)
     rw [beq_eq_false_iff_ne.2 q0,cond_false]
     by_cases q3:Vq x 0 % 256=3
     ·rw [beq_eq_false_iff_ne.2 (by omega:¬ Vq x 0 % 256=1),cond_false,Option.bind_some]
      simp only
      rw [beq_eq_false_iff_ne.2 (by omega:¬ Vq x 0 % 256=2),cond_false,show (Vq x 0 % 256 == 3)=true from by rw [q3];rfl,cond_true,show X5 x 0=some (Kv x 0) from Zkb 0,Option.bind_some,sub 0 x hm,Option.bind_some,Option.bind_some,Vv (by rw [List.length_singleton];omega) (by rw [List.length_singleton];omega),Option.bind_some]
      exact fin _ (Zmf rfl (if_neg q0).symm (if_neg (by omega)).symm (Eq.trans (b:=rd false (Kv x 0)) (Zl2 rfl (Zpt _) (Zpt _) rfl rfl rfl rfl) (if_pos q3).symm))
     ·by_cases q1:Vq x 0 % 256=1
      ·rw [show (Vq x 0 % 256 == 1)=true from by rw [q1];rfl,cond_true,Option.bind_some]
       simp only
       rw [cond_true,show X5 x 0=some (Kv x 0) from Zkb 0,Option.bind_some,Option.bind_some,Vv (by rw [List.length_singleton];omega) (by rw [List.length_singleton];omega),Option.bind_some]
       exact fin _ (Zmf rfl (if_neg q0).symm (if_pos (.inl q1)).symm (if_neg q3).symm)
      by_cases q2:Vq x 0 % 256=2
      ·rw [beq_eq_false_iff_ne.2 q1,cond_false,Option.bind_some]
       simp only
       rw [show (Vq x 0 % 256 == 2)=true from by rw [q2];rfl,cond_true,show X5 x 0=some (Kv x 0) from Zkb 0,Option.bind_some,Option.bind_some,Vv (by rw [List.length_singleton];omega) (by rw [List.length_singleton];omega),Option.bind_some]
       exact fin _ (Zmf rfl (if_neg q0).symm (if_pos (.inr q2)).symm (if_neg q3).symm)
      rw [beq_eq_false_iff_ne.2 q1,cond_false,Option.bind_some]
      simp only
      rw [beq_eq_false_iff_ne.2 q2,cond_false,beq_eq_false_iff_ne.2 q3,cond_false,Option.bind_some,Vv (by rw [List.length_singleton];omega) (by rw [List.length_singleton];omega),Option.bind_some]
      exact fin _ (Zmf rfl (if_neg q0).symm (if_neg (by omega)).symm (if_neg q3).symm)) (fun out=>by
     unfold Zaf
     simp only
     rw [Zbz,cond_false]),Option.bind_some,List.nil_append]
   rw [show (Vq t 0 % 256 == 3)=true from by rw [h3];rfl,cond_true,show X5 t 0=some (Kv t 0) from Zkb 0,Option.bind_some,hops,Option.bind_some,Yh1 w0.1,l8w (w:=Vq t 0 / 256) (by omega),Option.bind_some]
   refine congrArg some (Zl2 rfl ?_ ?_ ?_ ?_ ?_ ?_)
   ·exact (if_neg (by omega)).symm
   ·exact (if_neg (by omega)).symm
   ·exact (if_neg (by omega)).symm
   ·exact (if_neg (by omega)).symm
   ·exact (if_pos h3).symm
   exact (if_pos h3).symm
  rw [beq_eq_false_iff_ne.2 h3,cond_false,Option.bind_some]
  refine congrArg some (Zl2 rfl ?_ ?_ ?_ ?_ ?_ ?_)
  ·exact (if_neg h1).symm
  ·exact (if_neg h1).symm
  ·exact (if_neg h2).symm
  ·exact (if_neg h2).symm
  ·exact (if_neg h3).symm
  exact (if_neg h3).symm
theorem Ykb {t:Tr} (hb:Bd t) (hp:pt t≤1000000):Zj7 t=some (rd false t):=Zbs (2 * SizeOf.sizeOf t+1) fun k hk=>Yei k t hb hp (by omega)
theorem Zm3 {t:Tr} (i:Nat):Y7 t (i:Int)=some (Vq t i):=by
 unfold Y7 Vq
 by_cases h:i < t.Words.length
 ·have hx:t.Words[i]? = some t.Words[i]:=List.getElem?_eq_getElem h
  rw [Zba h,cond_true,Xa hx,hx];rfl
 rw [decide_eq_false (by omega:¬ (i:Int) < (t.Words.length:Int)),cond_false,List.getElem?_eq_none (by omega)];rfl
theorem Zqi {t:Tr} (i:Nat):Xl t (i:Int)=some (Kv t i):=by
 unfold Xl Kv
 by_cases h:i < t.Kids.length
 ·have hx:t.Kids[i]? = some t.Kids[i]:=List.getElem?_eq_getElem h
  rw [Zba h,cond_true,Xa hx,hx];rfl
 rw [decide_eq_false (by omega:¬ (i:Int) < (t.Kids.length:Int)),cond_false,List.getElem?_eq_none (by omega)];rfl
theorem gw8 {w:Int} (h:0≤w):IntKind.i64.wrap (Int.tmod w 256)=w % 256:=by
 rw [Int.tmod_eq_emod_of_nonneg h,Ur (by omega) (by omega)]
theorem Yk7 {w:Int} (h:0≤w):IntKind.i64.wrap (Int.tmod w 4294967296)=w % 4294967296:=by
 rw [Int.tmod_eq_emod_of_nonneg h,Ur (by omega) (by omega)]
theorem gwD {w:Int} {d:Int} (hd:d=256∨d=4294967296) (h:0≤w∧w < 18446744073709551616):IntKind.u64.wrap (Int.tdiv w d)=w / d:=by
 rw [Int.tdiv_eq_ediv_of_nonneg h.1]
 rcases hd with rfl | rfl
 ·exact Zso (by omega)
 exact Zso (by omega)
theorem gwL {w:Int} (h:0≤w∧w < 18446744073709551616):IntKind.i64.wrap (Int.tmod (IntKind.u64.wrap (Int.tdiv w 256)) 256)=w / 256 % 256:=by
 rw [gwD (.inl rfl) h,gw8 (by omega)]
theorem gwN {w:Int} (h:0≤w∧w < 18446744073709551616):IntKind.i64.wrap (Int.tmod (IntKind.u64.wrap (Int.tdiv w 256)) 1099511627776)=w / 256 % 1099511627776:=by
 rw [gwD (.inl rfl) h,Int.tmod_eq_emod_of_nonneg (by omega),Ur (by omega) (by omega)]
theorem gwM {w:Int} (h:0≤w∧w < 18446744073709551616):IntKind.u8.wrap (Int.tmod (IntKind.u64.wrap (Int.tdiv w 4294967296)) 256)=w / 4294967296 % 256:=by
 rw [gwD (.inr rfl) h,Int.tmod_eq_emod_of_nonneg (by omega),u8m]
 omega
theorem Yep:∀ (k:Nat) (t:Tr),Bd t→pt t≤1000000→SizeOf.sizeOf t < k→Jl k t=some (rd true t)
 | 0,_,_,_,h=>by omega
 | k+1,t,hb,hp,hk=>by
  have m0:=Z29 t 0
  have m1:=Z29 t 1
  have w0:=Zod hb 0
  have b0:=Zhs hb 0
  have b1:=Zhs hb 1
  have k0:=b0.k
  have k1:=b1.k
  have sub:∀ i x,x∈(Kv t i).Kids→Jl k (Kv x 0)=some (rd true (Kv x 0)):=fun i x hx=>by
   have:=Zpr hx
   rcases Za0 x 0 with q | q
   ·have:=Je q
    exact Yep k _ (((Zhs hb i).all x hx).all _ q) (by have:=Yez hx q;omega) (by omega)
   rw [q,Ztu]
   obtain ⟨j,rfl⟩:∃ j,k=j+1:=⟨k - 1,by have:=Zm4 x;omega⟩
   rfl
  have dead:∀ b:Bool,cond b false false=false:=fun b=>by cases b <;> rfl
  show Zac (Jl k) t=_
  unfold Zac
  rw [Ztt]
  unfold rdB
  by_cases h1:t.Kind=1
  ·have l0:Z3 (Kb (Vq t 0) (Kv t 0)) (0,([]:List Zx))=some (if Vq t 0 % 256=2 then (Kv t 0).Kids.map rW else []):=by
    by_cases q:Vq t 0 % 256=2
    ·rw [if_pos q,Zjb (Kv t 0).Kids rW _ [] (by omega) (fun i x out hi hx hm ho=>by
      have wx:=Zod (b0.all x hm) 0
      rw [List.length_nil] at ho
      unfold Kb
      simp only
      rw [Zba hi,cond_true,gw8 w0.1,show (Vq t 0 % 256 == 2)=true from by rw [q];rfl,cond_true,Xa hx,Option.bind_some,show Y7 x 0=some (Vq x 0) from Zm3 0,Option.bind_some,Option.bind_some,show Y7 x 1=some (Vq x 1) from Zm3 1,Option.bind_some,show Y7 x 2=some (Vq x 2) from Zm3 2,Option.bind_some,Vv (by rw [List.length_singleton];omega) (by rw [List.length_singleton];omega),Option.bind_some,Yk7 wx.1,gwM wx]
      rfl) (fun out=>by
      unfold Kb
      simp only
      rw [Zbz,cond_false,cond_false]),List.nil_append]
    rw [if_neg q]
    refine Y8 ?_
    unfold Kb
    simp only
    rw [gw8 w0.1,beq_eq_false_iff_ne.2 q,dead,cond_false]
   have l1:Z3 (Kc (Jl k) (Vq t 0) (Kv t 1)) (0,([]:List Zl))=some (if Vq t 0 % 256=2 then (Kv t 1).Kids.map (rK (rd true)) else []):=by
    by_cases q:Vq t 0 % 256=2
    ·rw [if_pos q,Zjb (Kv t 1).Kids (rK (rd true)) _ [] (by omega) (fun i x out hi hx hm ho=>by
      have wx:=Zod (b1.all x hm) 0
      rw [List.length_nil] at ho
      unfold Kc
      simp only
      rw [Zba hi,cond_true,gw8 w0.1,show (Vq t 0 % 256 == 2)=true from by rw [q];rfl,cond_true,Xa hx,Option.bind_some,show Y7 x 0=some (Vq x 0) from Zm3 0,Option.bind_some,show Xl x 0=some (Kv x 0) from Zqi 0,Option.bind_some,sub 1 x hm,Option.bind_some,Vv (by rw [List.length_singleton];omega) (by rw [List.length_singleton];omega),Option.bind_some,Yk7 wx.1]
      rfl) (fun out=>by
      unfold Kc
      simp only
      rw [Zbz,cond_false,cond_false]),List.nil_append]
    rw [if_neg q]
    refine Y8 ?_
    unfold Kc
    simp only
    rw [gw8 w0.1,beq_eq_false_iff_ne.2 q,dead,cond_false]
   have l2:Z3 (Ke (Jl k) (Vq t 0) (Kv t 0)) (0,([]:List Zt))=some (if Vq t 0 % 256=3 then (Kv t 0).Kids.map (rO true (rd true)) else []):=by
    by_cases q:Vq t 0 % 256=3
    ·rw [if_pos q,Zjb (Kv t 0).Kids (rO true (rd true)) _ [] (by omega) (fun i x out hi hx hm ho=>by
      have wx:=Zod (b0.all x hm) 0
      rw [List.length_nil] at ho
      have fin:∀ o:Zt,o=rO true (rd true) x→(some (Sum.inl (IntKind.i64.wrap ((i:Int)+1),out++[o])):Option ((Int×List Zt) ⊕ List Zt))=some (Sum.inl (IntKind.i64.wrap ((i:Int)+1),out++[rO true (rd true) x])):=fun o ho=>by rw [ho]
      unfold Ke
      simp only
      rw [Zba hi,cond_true,gw8 w0.1,show (Vq t 0 % 256 == 3)=true from by rw [q];rfl,cond_true,Xa hx,Option.bind_some,show Y7 x 0=some (Vq x 0) from Zm3 0,Option.bind_some,Option.bind_some,gw8 wx.1,gwN wx]
      by_cases q3:Vq x 0 % 256=3
      ·rw [show (Vq x 0 % 256 == 3)=true from by rw [q3];rfl,cond_true,show Xl x 0=some (Kv x 0) from Zqi 0,Option.bind_some,sub 0 x hm,Option.bind_some,Option.bind_some,Vv (by rw [List.length_singleton];omega) (by rw [List.length_singleton];omega),Option.bind_some]
       exact fin _ (Zmf rfl rfl (if_neg (by omega)).symm (Eq.trans (b:=rd true (Kv x 0)) (Zl2 rfl (Zpt _) (Zpt _) rfl rfl rfl rfl) (if_pos q3).symm))
      rw [beq_eq_false_iff_ne.2 q3,cond_false]
      by_cases q1:Vq x 0 % 256=1
      ·rw [show (Vq x 0 % 256 == 1)=true from by rw [q1];rfl,cond_true,cond_true,show Xl x 0=some (Kv x 0) from Zqi 0,Option.bind_some,Option.bind_some,Vv (by rw [List.length_singleton];omega) (by rw [List.length_singleton];omega),Option.bind_some]
       exact fin _ (Zmf rfl rfl (if_pos (.inl q1)).symm (if_neg q3).symm)
      rw [beq_eq_false_iff_ne.2 q1,cond_false]
      by_cases q2:Vq x 0 % 256=2
      ·rw [show (Vq x 0 % 256 == 2)=true from by rw [q2];rfl,cond_true,show Xl x 0=some (Kv x 0) from Zqi 0,Option.bind_some,Option.bind_some,Vv (by rw [List.length_singleton];omega) (by rw [List.length_singleton];omega),Option.bind_some]
       exact fin _ (Zmf rfl rfl (if_pos (.inr q2)).symm (if_neg q3).symm)
      ·rw [beq_eq_false_iff_ne.2 q2,cond_false,Option.bind_some,Vv (by rw [List.length_singleton];omega) (by rw [List.length_singleton];omega),Option.bind_some]
       exact fin _ (Zmf rfl rfl (if_neg (by omega)).symm (if_neg q3).symm)) (fun out=>by
      unfold Ke
      simp only
      rw [Zbz,cond_false,cond_false]),List.nil_append]
    rw [if_neg q]
    refine Y8 ?_
    unfold Ke
    simp only
    rw [gw8 w0.1,beq_eq_false_iff_ne.2 q,dead,cond_false]
   have fL:Vq t 0 / 256 % 256=if Vq t 0 % 256=3 then Vq t 0 / 256 % 256 else Ygp true (Vq t 0):=by split <;> rfl
   rw [if_neg (fun q=>q.elim (by omega) fun q=>q.2 h1),show (t.Kind != 1)=false from by rw [h1];rfl,cond_false,show Y7 t 0=some (Vq t 0) from Zm3 0,Option.bind_some,show Xl t 0=some (Kv t 0) from Zqi 0,Option.bind_some,show Xl t 1=some (Kv t 1) from Zqi 1,Option.bind_some,l0,l1,l2,gw8 w0.1,gwL w0]
   unfold rdR
   by_cases q1:Vq t 0 % 256=1
   ·rw [show (Vq t 0 % 256 == 1)=true from by rw [q1];rfl,cond_true,Option.bind_some,Option.bind_some,Option.bind_some,Option.bind_some]
    exact congrArg some (Zl2 rfl ((Zpt _).trans (if_pos q1).symm) ((Zpt _).trans (if_pos q1).symm) rfl rfl fL rfl)
   rw [beq_eq_false_iff_ne.2 q1,cond_false,Option.bind_some,Option.bind_some,Option.bind_some,Option.bind_some]
   exact congrArg some (Zl2 rfl (if_neg q1).symm (if_neg q1).symm rfl rfl fL rfl)
  rw [if_pos (.inr ⟨rfl,h1⟩),show (t.Kind != 1)=true from by rw [bne_iff_ne];exact h1,cond_true]
  rfl
theorem Ykd {t:Tr} (hb:Bd t) (hp:pt t≤1000000):Zgu t=some (rd true t):=Zbs (SizeOf.sizeOf t+1) fun k hk=>Yep k t hb hp (by omega)
theorem Z30 {t:Tr} (hb:Bd t):U1 t=some true:=by
 obtain ⟨b,f1,f2⟩:=Yju hb
 have hR:Kz t 64=some (rt t 64):=Zqj hb (d:=64) (by decide)
 unfold U1
 rw [f1,Option.bind_some,Ygc,hR]
 clear hR
 cases b with
 | false=>rfl
 | true =>
 have p3:=f2 rfl
 cases hrt:rt t 64 with
 | false=>rfl
 | true =>
 have hB:∀ g,BE (rd g t):=fun g=>Yhy g _ t (Nat.lt_succ_self _) hb
 have hG:∀ g,rE (rd g t) 64=true→GN (rd g t):=fun g h=>Ya2 _ _ 64 (Nat.lt_succ_self _) (hB g) (by have:=Yhz g _ t (Nat.lt_succ_self _);omega) h
 have hp:Zbh t=some (if (rE (rd false t) 64 && eqT (nrm (TE (rd false t))) (nrm t))=true then (rd false t,true) else (E0,false)):=by
  unfold Zbh
  rw [Ykb hb (by omega),Option.bind_some,Zp2 (hB false)]
  cases hr:rE (rd false t) 64 with
  | false=>rfl
  | true =>
   rw [Option.bind_some,cond_true,Ztq (hB false) (hG false hr) hr,Option.bind_some,Z52 (Z7j _ _ (Nat.lt_succ_self _) (hB false) (hG false hr)) hb]
   cases eqT (nrm (TE (rd false t))) (nrm t) <;> rfl
 have hq:Zbe t=some (if (rE (rd true t) 64 && eqT (nrm (TE (rd true t))) (nrm t))=true then (rd true t,true) else (E0,false)):=by
  unfold Zbe
  rw [Ykd hb (by omega),Option.bind_some,show Zc4 (rd true t) 64=some (rE (rd true t) 64) from Ygg (hB true) (d:=64) (by decide)]
  cases hr:rE (rd true t) 64 with
  | false=>rfl
  | true =>
   rw [Option.bind_some,cond_true,Yl1 (hG true hr),Option.bind_some,Ycx (Z7j _ _ (Nat.lt_succ_self _) (hB true) (hG true hr)) hb]
   cases eqT (nrm (TE (rd true t))) (nrm t) <;> rfl
 have two:∀ g,(rE (rd g t) 64 && eqT (nrm (TE (rd g t))) (nrm t))=true→rd (!g) t=rd g t:=fun g h=>by
  rw [Bool.and_eq_true] at h
  exact Z8n g _ t 64 (Nat.lt_succ_self _) hb h.1 (eqT_iff.1 h.2)
 rw [hp,hq]
 by_cases c:(rE (rd false t) 64 && eqT (nrm (TE (rd false t))) (nrm t))=true
 ·have e:rd true t=rd false t:=two false c
  rw [e,if_pos c]
  have s:=Z53 (hB false)
  generalize rd false t=z at s
  show ((cond (true == true) ((Zbd z z).bind _) _).bind _)=_
  rw [s]
  rfl
 have c2:¬ (rE (rd true t) 64 && eqT (nrm (TE (rd true t))) (nrm t))=true:=fun h=>by
  have e:rd false t=rd true t:=two true h
  rw [e] at c
  exact c h
 rw [if_neg c,if_neg c2]
 have s:=Z53 Yaw
 generalize E0=z at s
 show ((cond (false == false) ((Zbd z z).bind _) _).bind _)=_
 rw [s]
 rfl
end Go.Proofs.YtmlcnhambfkjaaaGreat
