/- Plain facts on this seat's mirrors (part AP2); each theorem bears its own conditions. -/
import Derived.Test.YtmlcnhambfkjaaaGreatAP1
import Derived.IntWalk
namespace Go.Proofs.YtmlcnhambfkjaaaGreat
open Go.RowKit
set_option linter.unusedVariables false
set_option linter.unusedSimpArgs false
theorem Ygm {e:Ed} (h:BE e) {d:Nat} (hd:d≤64):Zh9 e (d:Int)=some (rE e d):=Zb2 (2 * SizeOf.sizeOf e+1) fun k hk=>(Ycc k).1 e d h (by omega) hd
def ce (e:Ed):Nat:=1+e.Words.length+e.Ops.length+(e.Kids.attach.map fun k=>ce k.1.E).sum+(e.Ops.attach.map fun o=>ce o.1.E).sum
termination_by SizeOf.sizeOf e
decreasing_by
 ·exact Vn k.2
 exact Zbi o.2
theorem Z8x (e:Ed):ce e=1+e.Words.length+e.Ops.length+(e.Kids.map fun k=>ce k.E).sum+(e.Ops.map fun o=>ce o.E).sum:=by
 rw [ce]
 have h1:(e.Kids.attach.map fun k=>ce k.1.E)=e.Kids.map fun k=>ce k.E:=List.attach_map_val (f:=fun k:Zl=>ce k.E)
 have h2:(e.Ops.attach.map fun o=>ce o.1.E)=e.Ops.map fun o=>ce o.E:=List.attach_map_val (f:=fun o:Zt=>ce o.E)
 rw [h1,h2]
theorem Z7x:∀ (k:Nat) (e:Ed) (d left:Int),BE e→SizeOf.sizeOf e < k→0≤d→d≤100→0≤left→left≤1000000→∃ r,Yp k e d left=some r∧-1≤r∧r≤1000000∧(0≤r→r+(ce e:Nat)≤left)
 | 0,e,_,_,_,h,_,_,_,_=>by omega
 | k+1,e,d,left,hb,hk,hd0,hd1,hl0,hl1=>by
  have hw:=hb.w
  have ho:=hb.o
  show ∃ r,Q4 (Yp k) e d left=some r∧_
  unfold Q4
  rw [K0 (x:=left - 1) (by omega) (by omega),K0 (x:=left - 1 - (e.Words.length:Int)) (by omega) (by omega),K0 (by omega) (by omega),Z8x]
  cases hc:cond (d == 0) true (decide (left - 1 - (e.Words.length:Int) - (e.Ops.length:Int) < 0)) with
  | true=>exact ⟨-1,rfl,by omega,by omega,fun h=>by omega⟩
  | false =>
   rw [cond_false]
   have hd:¬ d=0∧0≤left - 1 - (e.Words.length:Int) - (e.Ops.length:Int):=by
    by_cases h:d=0
    ·simp [h] at hc
    have e:(d == 0)=false:=by simp [h]
    rw [e,cond_false,decide_eq_false_iff_not] at hc
    exact ⟨h,by omega⟩
   obtain ⟨r1,g1,g2,g3,g4⟩:=Zvh hb.old hd.2 (by omega)
   have hz:∃ z,cond (decide (0≤r1)) ((Jy e.New 80 r1).bind fun y4=>some y4) (some r1)=some z∧-1≤z∧z≤1000000∧(0≤z→z≤left - 1 - (e.Words.length:Int) - (e.Ops.length:Int)):=by
    by_cases h:0≤r1
    ·obtain ⟨r2,f1,f2,f3,f4⟩:=Zvh hb.new h g3
     refine ⟨r2,by rw [decide_eq_true h,f1];rfl,f2,f3,fun h2 => ?_⟩
     have:=f4 h2
     have:=g4 h
     omega
    exact ⟨r1,by rw [decide_eq_false h];rfl,g2,g3,fun h2=>absurd h2 h⟩
   obtain ⟨z,z1,z2,z3,z4⟩:=hz
   rw [g1,Option.bind_some,z1,Option.bind_some]
   obtain ⟨r,h1,h2⟩:=Zer (step:=Qn (Yp k) e d)
    (fun s=>∃ j:Nat,s.2=j∧j≤e.Kids.length∧-1≤s.1∧s.1≤1000000∧(0≤s.1→s.1+((((e.Kids.take j).map fun k=>ce k.E)).sum:Nat)≤left - 1 - (e.Words.length:Int) - (e.Ops.length:Int)))
    (fun s=>e.Kids.length - s.2.toNat) (fun r=>-1≤r∧r≤1000000∧(0≤r→r+((e.Kids.map fun k=>ce k.E).sum:Nat)≤left - 1 - (e.Words.length:Int) - (e.Ops.length:Int))) (fun s hI=>by
     obtain ⟨l,i⟩:=s
     obtain ⟨j,rfl,hj,g1,g2,g3⟩:=hI
     have hkl:=hb.k
     simp only at g1 g2 g3 ⊢
     unfold Qn
     simp only
     by_cases hji:j < e.Kids.length
     ·rw [Zcf hji,cond_true]
      by_cases hl:0≤l
      ·have e1:decide (0≤l)=true:=by simp [hl]
       have hx:e.Kids[j]? = some e.Kids[j]:=List.getElem?_eq_getElem hji
       have hm:e.Kids[j]∈e.Kids:=List.getElem_mem hji
       obtain ⟨r,q1,q2,q3,q4⟩:=Z7x k e.Kids[j].E (d - 1) l (hb.ks _ hm) (by have:=Vn hm;omega) (by omega) (by omega) hl g2
       rw [e1,cond_true,Y8 hx,Option.bind_some,K0 (x:=d - 1) (by omega) (by omega),q1,Option.bind_some,K0 (by omega) (by omega)]
       refine .inl ⟨_,rfl,⟨j+1,by simp only;omega,by omega,q2,q3,fun hr => ?_⟩,by simp only;omega⟩
       have:=q4 hr
       have:=g3 hl
       rw [List.take_add_one,hx]
       simp only [Option.toList_some,List.map_append,List.map_cons,List.map_nil,List.sum_append,List.sum_cons,List.sum_nil]
       simp only at hr
       omega
      have e1:decide (0≤l)=false:=by simp [hl]
      rw [e1,cond_false]
      exact .inr ⟨l,rfl,g1,g2,fun h=>absurd h hl⟩
     have hj':j=e.Kids.length:=by omega
     subst hj'
     rw [Zce,cond_false]
     rw [List.take_length] at g3
     exact .inr ⟨l,rfl,g1,g2,g3⟩) (z,0) ⟨0,rfl,Nat.zero_le _,z2,z3,fun h=>by simpa using z4 h⟩
   rw [h1,Option.bind_some]
   have inner:∀ (j:Nat) (hj:j < e.Ops.length) (l:Int),0≤l→l≤1000000→∃ r,Z4 (Jb e (l,(j:Int))) (l,0)=some r∧-1≤r∧r≤1000000∧r≤l:=fun j hj l hl hl'=>by
    have hx:e.Ops[j]? = some e.Ops[j]:=List.getElem?_eq_getElem hj
    have hm:e.Ops[j]∈e.Ops:=List.getElem_mem hj
    have hL:=(hb.l _ hm).1
    obtain ⟨r,h1,h2⟩:=Zer (step:=Jb e (l,(j:Int)))
     (fun s=>∃ i:Nat,s.2=i∧i≤e.Ops[j].L.length∧-1≤s.1∧s.1≤1000000∧s.1≤l)
     (fun s=>e.Ops[j].L.length - s.2.toNat) (fun r=>-1≤r∧r≤1000000∧r≤l) (fun s hI=>by
      obtain ⟨l',i'⟩:=s
      obtain ⟨i,rfl,hi,g1,g2,g3⟩:=hI
      simp only at g1 g2 g3 ⊢
      unfold Jb
      simp only
      rw [Y8 hx,Option.bind_some,Option.bind_some]
      by_cases hii:i < e.Ops[j].L.length
      ·rw [Zcf hii,cond_true]
       by_cases hl2:0≤l'
       ·have e1:decide (0≤l')=true:=by simp [hl2]
        have hx2:e.Ops[j].L[i]? = some e.Ops[j].L[i]:=List.getElem?_eq_getElem hii
        have hm2:e.Ops[j].L[i]∈e.Ops[j].L:=List.getElem_mem hii
        obtain ⟨r,q1,q2,q3,q4⟩:=Zvh ((hb.l _ hm).2 _ hm2) hl2 g2
        rw [e1,cond_true,Y8 hx2,Option.bind_some,q1,Option.bind_some,K0 (by omega) (by omega)]
        refine .inl ⟨_,rfl,⟨i+1,by simp only;omega,by omega,q2,q3,?_⟩,by simp only;omega⟩
        simp only
        by_cases hr:0≤r
        ·have:=q4 hr;omega
        omega
       have e1:decide (0≤l')=false:=by simp [hl2]
       rw [e1,cond_false]
       exact .inr ⟨l',rfl,g1,g2,g3⟩
      have hi':i=e.Ops[j].L.length:=by omega
      subst hi'
      rw [Zce,cond_false]
      exact .inr ⟨l',rfl,g1,g2,g3⟩) (l,0) ⟨0,rfl,Nat.zero_le _,by simp only;omega,by simp only;omega,by simp only;omega⟩
    exact ⟨r,h1,h2⟩
   obtain ⟨r',h1',h2'⟩:=Zer (step:=Qo (Yp k) e d)
    (fun s=>∃ j:Nat,s.2=j∧j≤e.Ops.length∧-1≤s.1∧s.1≤1000000∧(0≤s.1→0≤r∧s.1+((((e.Ops.take j).map fun o=>ce o.E)).sum:Nat)≤r))
    (fun s=>e.Ops.length - s.2.toNat) (fun q=>-1≤q∧q≤1000000∧(0≤q→0≤r∧q+((e.Ops.map fun o=>ce o.E).sum:Nat)≤r)) (fun s hI=>by
     obtain ⟨l,i⟩:=s
     obtain ⟨j,rfl,hj,g1,g2,g3⟩:=hI
     simp only at g1 g2 g3 ⊢
     unfold Qo
     simp only
     by_cases hji:j < e.Ops.length
     ·rw [Zcf hji,cond_true]
      by_cases hl:0≤l
      ·have e1:decide (0≤l)=true:=by simp [hl]
       have hx:e.Ops[j]? = some e.Ops[j]:=List.getElem?_eq_getElem hji
       have hm:e.Ops[j]∈e.Ops:=List.getElem_mem hji
       obtain ⟨t,t1,t2,t3,t4⟩:=inner j hji l hl g2
       rw [e1,cond_true,t1,Option.bind_some,K0 (x:=(j:Int)+1) (by omega) (by omega)]
       by_cases ht:0≤t
       ·obtain ⟨r,q1,q2,q3,q4⟩:=Z7x k e.Ops[j].E (d - 1) t (hb.os _ hm) (by have:=Zbi hm;omega) (by omega) (by omega) ht t3
        rw [decide_eq_true ht,cond_true,Y8 hx,Option.bind_some,K0 (x:=d - 1) (by omega) (by omega),q1]
        refine .inl ⟨_,rfl,⟨j+1,by simp only;omega,by omega,q2,q3,fun hr => ?_⟩,by simp only;omega⟩
        have:=q4 hr
        have:=g3 hl
        rw [List.take_add_one,hx]
        simp only [Option.toList_some,List.map_append,List.map_cons,List.map_nil,List.sum_append,List.sum_cons,List.sum_nil]
        simp only at hr
        omega
       rw [decide_eq_false ht]
       exact .inl ⟨_,rfl,⟨j+1,by simp only;omega,by omega,t2,t3,fun hr=>absurd hr ht⟩,by simp only;omega⟩
      have e1:decide (0≤l)=false:=by simp [hl]
      rw [e1,cond_false]
      exact .inr ⟨l,rfl,g1,g2,fun h=>absurd h hl⟩
     have hj':j=e.Ops.length:=by omega
     subst hj'
     rw [Zce,cond_false]
     rw [List.take_length] at g3
     exact .inr ⟨l,rfl,g1,g2,g3⟩) (r,0) ⟨0,rfl,Nat.zero_le _,h2.1,h2.2.1,fun h=>⟨h,by simp⟩⟩
   rw [h1']
   refine ⟨r',rfl,h2'.1,h2'.2.1,fun hr => ?_⟩
   have p1:=h2'.2.2 hr
   have p2:=h2.2.2 p1.1
   omega
theorem Zu8:∀ (k k':Nat) (e:Ed) (d left:Int),SizeOf.sizeOf e < k→SizeOf.sizeOf e < k'→Yp k e d left=Yp k' e d left
 | 0,_,e,_,_,h,_=>by omega
 | k+1,0,e,_,_,_,h=>by omega
 | k+1,k'+1,e,d,left,h,h'=>by
  show Q4 (Yp k) e d left=Q4 (Yp k') e d left
  have e1:Qn (Yp k) e d=Qn (Yp k') e d:=funext fun s=>by
   unfold Qn
   cases hx:Xp e.Kids s.2 with
   | none=>rfl
   | some x=>simp only [Option.bind_some,Zu8 k k' x.E (IntKind.i64.wrap (d - 1)) s.1 (by have:=Vn (Zo4 hx);omega) (by have:=Vn (Zo4 hx);omega)]
  have e2:Qo (Yp k) e d=Qo (Yp k') e d:=funext fun s=>by
   unfold Qo
   cases hx:Xp e.Ops s.2 with
   | none=>rfl
   | some x=>
    have:∀ z,Yp k x.E (IntKind.i64.wrap (d - 1)) z=Yp k' x.E (IntKind.i64.wrap (d - 1)) z:=fun z=>Zu8 k k' x.E _ z (by have:=Zbi (Zo4 hx);omega) (by have:=Zbi (Zo4 hx);omega)
    simp only [Option.bind_some,this]
  unfold Q4
  rw [e1,e2]
theorem Yje {e:Ed} (h:BE e):∃ b,U4 e=some b∧(b=true→ce e≤3000):=by
 obtain ⟨r,h1,h2,h3,h4⟩:=Z7x (SizeOf.sizeOf e+1) e 80 3000 h (by omega) (by omega) (by omega) (by omega) (by omega)
 have hr:Zfv e 80 3000=some r:=Zb2 (SizeOf.sizeOf e+1) fun k hk=>by rw [Zu8 k (SizeOf.sizeOf e+1) e 80 3000 (by omega) (by omega)];exact h1
 unfold U4
 rw [hr,Option.bind_some]
 refine ⟨_,rfl,fun hb => ?_⟩
 have:=h4 (by simpa using hb)
 have:0≤r:=by simpa using hb
 omega
theorem Ycu {e:Ed} (hb:BE e) {d:Nat} (h:rE e d=true):e.Ops.foldl stR (0,0)=e.Ops.foldl stI (0,0):=by
 have h0:Sm (0,0):=by unfold Sm;simp
 have hnil:Zg6 e=true→e.Ops.foldl stR (0,0)=e.Ops.foldl stI (0,0):=fun h=>by
  unfold Zg6 at h
  rw [Bool.and_eq_true,beq_iff_eq,beq_iff_eq] at h
  rw [List.eq_nil_of_length_eq_zero h.2]
  rfl
 rw [Zri] at h
 split at h
 ·cases h
 split at h
 ·unfold Zde at h
  simp only [Bool.and_eq_true] at h
  exact hnil h.2.2.2
 split at h
 ·simp only [Bool.and_eq_true] at h
  exact hnil h.1.2
 split at h
 ·simp only [Bool.and_eq_true] at h
  exact hnil h.1.2
 split at h
 ·simp only [Bool.and_eq_true] at h
  exact (Z0i (fun o=>rE o.E (d - 1)) e.Ops (0,0) h0 (List.all_eq_true.1 h.2.2.1) (fun o ho=>(hb.l o ho).1)).1
 cases h
theorem Znz {α:Type} {pl:α→Int} {ok:Int→α→Bool} {Q:α→Prop} (h:∀ p x,ok p x=true→Q x):∀ (xs:List α) (p:Int),chk pl ok p xs=true→∀ x∈xs,Q x
 | [],_,_=>fun x hx=>by cases hx
 | y::xs,p,hc=>fun x hx=>by
  rw [chk,Bool.and_eq_true] at hc
  rcases List.mem_cons.1 hx with rfl | hx
  ·exact h p _ hc.1
  exact Znz h xs (pl y) hc.2 x hx
abbrev EO:=Zt
def n0T:Tr:=⟨0,[],[]⟩
def eS0:Ed:=⟨0,⟨0,[],[]⟩,⟨0,[],[]⟩,[],[],0,[]⟩
theorem Zxw {α β:Type} (xs:List α) (f:α→β) (step:Int×List β→Option ((Int×List β) ⊕ List β)) (acc:List β) (hl:(xs.length:Int)≤140737488355328)
  (h1:∀ (i:Nat) (x:α) (out:List β),i < xs.length→xs[i]? = some x→x∈xs→out.length=acc.length+i→step ((i:Int),out)=some (.inl (IntKind.i64.wrap ((i:Int)+1),out++[f x])))
  (h2:∀ out,step ((xs.length:Int),out)=some (.inr out)):Z4 step (0,acc)=some (acc++xs.map f):=by
 have key:∀ m i,i+m=xs.length→Z4 step ((i:Int),acc++(xs.take i).map f)=some (acc++xs.map f):=fun m=>by
  induction m with
  | zero =>
   intro i hi
   have hi':i=xs.length:=by omega
   subst hi'
   rw [List.take_length]
   exact Xe (h2 _)
  | succ m ih =>
   intro i hi
   have hx:xs[i]? = some xs[i]:=List.getElem?_eq_getElem (by omega)
   have h:=h1 i _ (acc++(xs.take i).map f) (by omega) hx (List.mem_of_getElem? hx) (by rw [List.length_append,List.length_map,List.length_take];omega)
   rw [K0 (by omega) (by omega)] at h
   rw [Qh h]
   have e:acc++(xs.take i).map f++[f xs[i]]=acc++(xs.take (i+1)).map f:=by
    rw [List.take_add_one,hx,List.map_append,List.append_assoc]
    rfl
   rw [e]
   exact ih (i+1) (by omega)
 have:=key xs.length 0 (by omega)
 simpa using this
def thN (o:EO):Nat:=if o.Kind=0 then o.N.toNat else if o.Kind=3 then 1 else o.L.length
def opk (o:EO):Prop:=(o.Kind=0∧1≤o.N)∨(o.Kind=1∧o.L≠[])∨(o.Kind=2∧o.L≠[])∨o.Kind=3
def Zor (l:List EO):Nat:=(l.map thN).sum
inductive GN:Ed→Prop
 | mk (e:Ed) (hw:e.Words.length≤1048576) (hk:e.Kids.length≤1048576) (ho:e.Ops.length≤1048576) (hs:Zor e.Ops≤1073741824) (hp:∀ o∈e.Ops,opk o) (ik:∀ k∈e.Kids,GN k.E) (io:∀ o∈e.Ops,GN o.E):GN e
theorem GN.w {e:Ed} (h:GN e):e.Words.length≤1048576:=by cases h;assumption
theorem GN.k {e:Ed} (h:GN e):e.Kids.length≤1048576:=by cases h;assumption
theorem GN.o {e:Ed} (h:GN e):e.Ops.length≤1048576:=by cases h;assumption
theorem GN.s {e:Ed} (h:GN e):Zor e.Ops≤1073741824:=by cases h;assumption
theorem GN.ks {e:Ed} (h:GN e):∀ k∈e.Kids,GN k.E:=by cases h;assumption
theorem GN.os {e:Ed} (h:GN e):∀ o∈e.Ops,GN o.E:=by cases h;assumption
theorem Ygo {e:Ed} (h:Zde e=true):GN e:=by
 unfold Zde Ziq Zg6 at h
 simp only [Bool.and_eq_true,beq_iff_eq] at h
 obtain ⟨_,_,⟨h1,h2⟩,_,h3⟩:=h
 have w:=List.eq_nil_of_length_eq_zero h1
 have k:=List.eq_nil_of_length_eq_zero h2
 have o:=List.eq_nil_of_length_eq_zero h3
 exact .mk _ (by rw [w];simp) (by rw [k];simp) (by rw [o];simp) (by rw [o];simp [Zor]) (by rw [o];simp) (by rw [k];simp) (by rw [o];simp)
theorem Yhd {l:Int} {o:EO} {r:Bool} (h:okO l o r=true):((thN o:Nat):Int)=thr o:=by
 unfold okO at h
 unfold thN thr
 by_cases h0:o.Kind=0
 ·rw [if_pos h0] at h
  simp only [Bool.and_eq_true,decide_eq_true_eq] at h
  rw [if_pos h0,if_pos h0]
  split <;> split at * <;> omega
 rw [if_neg h0] at h ⊢
 rw [if_neg h0]
 by_cases h12:o.Kind=1∨o.Kind=2
 ·rw [if_pos h12,if_neg (by omega)]
 rw [if_neg h12] at h ⊢
 by_cases h3:o.Kind=3
 ·rw [if_pos h3,if_pos h3];rfl
 rw [if_neg h3] at h;cases h
theorem Z14 {l:Int} {o:EO} {r:Bool} (h:okO l o r=true):opk o:=by
 unfold okO at h
 unfold opk
 by_cases h0:o.Kind=0
 ·rw [if_pos h0] at h
  simp only [Bool.and_eq_true,decide_eq_true_eq] at h
  exact .inl ⟨h0,h.1.1⟩
 rw [if_neg h0] at h
 by_cases h12:o.Kind=1∨o.Kind=2
 ·rw [if_pos h12] at h
  simp only [Bool.and_eq_true,decide_eq_true_eq] at h
  have hne:o.L≠[]:=by
   intro he
   rw [he] at h
   simp at h
  rcases h12 with h1 | h2
  ·exact .inr (.inl ⟨h1,hne⟩)
  exact .inr (.inr (.inl ⟨h2,hne⟩))
 rw [if_neg h12] at h
 by_cases h3:o.Kind=3
 ·exact .inr (.inr (.inr h3))
 rw [if_neg h3] at h;cases h
theorem Z3y {l:Int} (r:EO→Bool):∀ (os:List EO) (s:Int×Int),Sm s→(∀ o∈os,okO l o (r o)=true)→(∀ o∈os,o.L.length * 56≤140737488355328)→Zmk (os.foldl stI s)=true→s.1+s.2+((Zor os:Nat):Int)≤(os.foldl stI s).1+(os.foldl stI s).2
 | [],s,_,_,_,_=>by simp [Zor]
 | o::os,s,hs,h,hl,hb=>by
  have hsm:=Z3x hs (hl o (.head _))
  have hup:=Z7k os (stI s o) hsm (fun x hx=>hl x (.tail _ hx))
  have ih:=Z3y r os (stI s o) hsm (fun x hx=>h x (.tail _ hx)) (fun x hx=>hl x (.tail _ hx)) hb
  have hso:Zor (o::os)=thN o+Zor os:=by unfold Zor;simp
  have ht:=Yhd (h o (.head _))
  rw [List.foldl_cons] at hb ⊢
  unfold Zmk at hb
  rw [Bool.and_eq_true,decide_eq_true_eq,decide_eq_true_eq] at hb
  have n1:(stI s o).1≠1048576:=fun he=>by have:=hup.1 he;omega
  have n2:(stI s o).2≠1048576:=fun he=>by have:=hup.2 he;omega
  have key:s.1+s.2+thr o≤(stI s o).1+(stI s o).2:=by
   have hth:0≤thr o:=by omega
   unfold stI Zv1 at n1 n2 ⊢
   simp only at n1 n2 ⊢
   by_cases k2:o.Kind=2
   ·rw [if_neg (by omega:¬ o.Kind=1)] at n2 ⊢
    rw [if_pos k2]
    split at n2
    ·omega
    rename_i h5;rw [if_neg h5];omega
   rw [if_neg k2] at n1 ⊢
   split at n1
   ·omega
   rename_i h5
   rw [if_neg h5]
   by_cases k1:o.Kind=1
   ·rw [if_pos k1];omega
   rw [if_neg k1] at n2 ⊢
   split at n2
   ·omega
   rename_i h6;rw [if_neg h6];omega
  rw [hso]
  omega
theorem Zr9 {α:Type} {f:α→Nat} {x:α}:∀ {l:List α},x∈l→f x≤(l.map f).sum
 | y::l,h=>by
  rw [List.map_cons,List.sum_cons]
  rcases List.mem_cons.1 h with rfl | h
  ·omega
  have:=Zr9 (f:=f) h;omega
theorem Z2u {α:Type} {f:α→Nat}:∀ {l:List α},(∀ x∈l,1≤f x)→l.length≤(l.map f).sum
 | [],_=>Nat.le_refl _
 | y::l,h=>by
  rw [List.map_cons,List.sum_cons,List.length_cons]
  have:=Z2u (f:=f) (l:=l) fun x hx=>h x (by simp [hx])
  have:=h y (by simp)
  omega
theorem Yed (e:Ed):1≤ce e:=by rw [Z8x];omega
theorem Yce:∀ (n:Nat) (e:Ed) (d:Nat),SizeOf.sizeOf e < n→BE e→ce e≤1000000→rE e d=true→GN e
 | 0,_,_,h,_,_,_=>by omega
 | n+1,e,d,hn,hb,hc,h=>by
  have hc':=hc
  rw [Z8x] at hc'
  have hk1:e.Kids.length≤(e.Kids.map fun k=>ce k.E).sum:=Z2u fun x _=>Yed _
  have hlens:=Ycu hb h
  have hparts:(∀ k∈e.Kids,∃ d',rE k.E d'=true)∧(∀ o∈e.Ops,opk o∧(Zde o.E=true∨∃ d',rE o.E d'=true))∧Zor e.Ops≤2097152:=by
   rw [Zri] at h
   by_cases hd:d=0
   ·rw [if_pos hd] at h;cases h
   rw [if_neg hd] at h
   by_cases h0:e.Kind=0
   ·rw [if_pos h0] at h
    unfold Zde Ziq Zg6 at h
    simp only [Bool.and_eq_true,beq_iff_eq] at h
    obtain ⟨_,_,⟨h1,h2⟩,_,h3⟩:=h
    rw [List.eq_nil_of_length_eq_zero h2,List.eq_nil_of_length_eq_zero h3]
    simp [Zor]
   rw [if_neg h0] at h
   by_cases h1:e.Kind=1
   ·rw [if_pos h1] at h
    unfold Ziq Zg6 at h
    simp only [Bool.and_eq_true,beq_iff_eq] at h
    rw [List.eq_nil_of_length_eq_zero h.1.1.2,List.eq_nil_of_length_eq_zero h.1.2.2]
    simp [Zor]
   rw [if_neg h1] at h
   by_cases h2:e.Kind=2
   ·rw [if_pos h2] at h
    unfold Zg6 at h
    simp only [Bool.and_eq_true,beq_iff_eq] at h
    rw [List.eq_nil_of_length_eq_zero h.1.2.2]
    refine ⟨fun k hk=>⟨d - 1,?_⟩,by simp,by simp [Zor]⟩
    exact Znz (Q:=fun k:Zl=>rE k.E (d - 1)=true) (fun p x hx=>by
     unfold okK okP at hx
     simp only [Bool.and_eq_true] at hx
     exact hx.2.2) e.Kids (-1) h.2.2 k hk
   rw [if_neg h2] at h
   by_cases h3:e.Kind=3
   ·rw [if_pos h3] at h
    unfold Ziq at h
    rw [Bool.and_eq_true,Bool.and_eq_true,Bool.and_eq_true,Bool.and_eq_true,Bool.and_eq_true,Bool.and_eq_true,beq_iff_eq,beq_iff_eq,List.all_eq_true] at h
    obtain ⟨⟨_,_,hk⟩,_,hall,hB⟩:=h
    rw [List.eq_nil_of_length_eq_zero hk]
    refine ⟨by simp,fun o ho=>⟨Z14 (hall o ho),?_⟩,?_⟩
    ·have:=hall o ho
     unfold okO at this
     by_cases k0:o.Kind=0
     ·rw [if_pos k0] at this
      simp only [Bool.and_eq_true] at this
      exact .inl this.2.2
     rw [if_neg k0] at this
     by_cases k12:o.Kind=1∨o.Kind=2
     ·rw [if_pos k12] at this
      simp only [Bool.and_eq_true] at this
      exact .inl this.2.2.2
     rw [if_neg k12] at this
     by_cases k3:o.Kind=3
     ·rw [if_pos k3] at this
      simp only [Bool.and_eq_true] at this
      exact .inr ⟨d - 1,this.2.2.2.2⟩
     rw [if_neg k3] at this;cases this
    rw [hlens] at hB
    have:=Z3y (l:=e.List_) (fun o=>rE o.E (d - 1)) e.Ops (0,0) ⟨⟨by decide,by decide⟩,by decide,by decide⟩ hall (fun o ho=>(hb.l o ho).1) hB
    unfold Zmk at hB
    rw [Bool.and_eq_true,decide_eq_true_eq,decide_eq_true_eq] at hB
    simp only at this
    omega
   rw [if_neg h3] at h;cases h
  refine .mk _ (by omega) (by omega) (by omega) (by omega) (fun o ho=>(hparts.2.1 o ho).1) (fun k hk => ?_) (fun o ho => ?_)
  ·obtain ⟨d',hd'⟩:=hparts.1 k hk
   have:=Zr9 (f:=fun k:Zl=>ce k.E) hk
   exact Yce n k.E d' (by have:=Vn hk;omega) (hb.ks k hk) (by omega) hd'
  rcases (hparts.2.1 o ho).2 with hs | ⟨d',hd'⟩
  ·exact Ygo hs
  have:=Zr9 (f:=fun o:Zt=>ce o.E) ho
  exact Yce n o.E d' (by have:=Zbi ho;omega) (hb.os o ho) (by omega) hd'
def lgt (e:Ed):Bool:=(!(decide (2000 < (e.Ops.foldl stR (0,0)).1) || decide (2000 < (e.Ops.foldl stR (0,0)).2))) && ((e.Kids.attach.map fun k=>lgt k.1.E).all id && (e.Ops.attach.map fun o=>lgt o.1.E).all id)
termination_by SizeOf.sizeOf e
decreasing_by
 ·exact Vn k.2
 exact Zbi o.2
theorem Yih (e:Ed):lgt e=((!(decide (2000 < (e.Ops.foldl stR (0,0)).1) || decide (2000 < (e.Ops.foldl stR (0,0)).2))) && ((e.Kids.all fun k=>lgt k.E) && (e.Ops.all fun o=>lgt o.E))):=by
 have h1:(e.Kids.attach.map fun k=>lgt k.1.E)=e.Kids.map fun k=>lgt k.E:=List.attach_map_val (f:=fun k:Zl=>lgt k.E)
 have h2:(e.Ops.attach.map fun o=>lgt o.1.E)=e.Ops.map fun o=>lgt o.E:=List.attach_map_val (f:=fun o:EO=>lgt o.E)
 rw [lgt,h1,h2,List.all_map,List.all_map]
 rfl
theorem Z2w:∀ (k:Nat) (e:Ed),BE e→SizeOf.sizeOf e < k→Ka k e=some (lgt e)
 | 0,_,_,h=>by omega
 | k+1,e,hb,hk=>by
  show Zbt (Ka k) e=_
  unfold Zbt
  have l0:Z4 (Ul (Ka k) e) 0=some (if (e.Kids.all fun x=>lgt x.E)=true then Sum.inr () else Sum.inl ()) :=
   Zhl e.Kids _ (fun x=>lgt x.E) (Sum.inl ():Unit ⊕ Unit) (Sum.inr ()) hb.k (fun i x hi hx hm=>by
    unfold Ul
    rw [Zcf hi,cond_true,Y8 hx,Option.bind_some,Z2w k x.E (hb.ks x hm) (by have:=Vn hm;omega),Option.bind_some]
    cases lgt x.E <;> rfl) (by unfold Ul;rw [Zce];rfl)
  have l1:Z4 (Um (Ka k) e) 0=some (if (e.Ops.all fun x=>lgt x.E)=true then Sum.inr () else Sum.inl ()) :=
   Zhl e.Ops _ (fun x=>lgt x.E) (Sum.inl ():Unit ⊕ Unit) (Sum.inr ()) hb.o (fun i x hi hx hm=>by
    unfold Um
    rw [Zcf hi,cond_true,Y8 hx,Option.bind_some,Z2w k x.E (hb.os x hm) (by have:=Zbi hm;omega),Option.bind_some]
    cases lgt x.E <;> rfl) (by unfold Um;rw [Zce];rfl)
  rw [Yih,Ych hb,Option.bind_some,l0,l1]
  generalize decide (2000 < (e.Ops.foldl stR (0,0)).1)=q1
  generalize decide (2000 < (e.Ops.foldl stR (0,0)).2)=q2
  generalize (e.Kids.all fun x=>lgt x.E)=q3
  generalize (e.Ops.all fun x=>lgt x.E)=q4
  cases q1 <;> cases q2 <;> cases q3 <;> cases q4 <;> rfl
theorem Ybs {e:Ed} (hb:BE e):Zh8 e=some (lgt e):=Zb2 (SizeOf.sizeOf e+1) fun k hk=>Z2w k e hb (by omega)
theorem Ygz {k:Int} {t:Tr} (h:okk k t=true):okk k (nrm t)=true:=by
 unfold okk at h ⊢
 rw [Zhn]
 split
 ·rename_i hk
  rw [if_pos hk,Bool.and_eq_true,beq_iff_eq] at h
  rw [Zho (by omega) (by omega),h.1]
  simp only [BEq.rfl,Bool.true_and]
  exact h.2
 rename_i hk
 rw [if_neg hk] at h
 exact h
theorem Yfp:∀ (n:Nat) (t:Tr) (d:Nat),SizeOf.sizeOf t < n→rt t d=true→rt (nrm t) d=true
 | 0,_,_,h,_=>by omega
 | n+1,t,d,hn,h=>by
  have hk:=Zhn t
  by_cases h0:t.Kind=0
  ·rw [Zku h0,Zj0,if_pos rfl];rfl
  rw [Zj0,if_neg h0] at h
  by_cases h10:t.Kind=10
  ·rw [if_pos h10] at h
   rw [Zho h0 (by omega),Zj0,if_neg h0,if_pos h10]
   simp only [List.length_map]
   exact h
  rw [if_neg h10] at h
  by_cases hc:t.Kind < 0∨10 < t.Kind∨d=0∨65536≤t.Words.length∨(t.Kind=1∧65536≤t.Kids.length)∨1048576≤t.Kids.length∨(1 < t.Kind∧0 < t.Words.length)
  ·rw [if_pos hc] at h;cases h
  rw [if_neg hc,List.all_eq_true] at h
  have hkid:∀ x∈t.Kids,(rt (nrm x) (d - 1) && okk t.Kind (nrm x))=true:=fun x hx=>by
   have:=h x hx
   rw [Bool.and_eq_true] at this ⊢
   exact ⟨Yfp n x (d - 1) (by have:=Vw hx;omega) this.1,Ygz this.2⟩
  by_cases h1:t.Kind=1
  ·obtain ⟨W,K,e1,lW,lK,mK⟩:∃ W K,nrm t=⟨1,W,K⟩∧W.length≤t.Words.length∧K.length≤t.Kids.length∧∀ x∈K,x∈t.Kids.map nrm :=
    ⟨_,_,Zb7 h1,Zni _ _,by have h:=Zni (fun x:Tr=>x.Kind == 0) (t.Kids.map nrm);rw [List.length_map] at h;exact h,fun x hx=>Zlk hx⟩
   rw [e1,Zj0]
   simp only
   rw [if_neg (by decide),if_neg (by decide),if_neg (by omega),List.all_eq_true]
   intro x hx
   obtain ⟨y,hy,rfl⟩:=List.mem_map.1 (mK x hx)
   rw [← h1]
   exact hkid y hy
  rw [Zho h0 h1,Zj0]
  simp only [List.length_map]
  rw [if_neg h0,if_neg h10,if_neg hc,List.all_eq_true]
  intro x hx
  obtain ⟨y,hy,rfl⟩:=List.mem_map.1 hx
  exact hkid y hy
theorem rtN {t:Tr} {d:Nat} (h:rt t d=true):rt (nrm t) d=true:=Yfp _ t d (Nat.lt_succ_self _) h
theorem Ycm {t:Tr} (h:Zch t=true):t=⟨0,[],[]⟩:=by
 unfold Zch at h
 simp only [Bool.and_eq_true,beq_iff_eq] at h
 obtain ⟨k,w,l⟩:=t
 simp only at h
 rw [h.1,List.eq_nil_of_length_eq_zero h.2.1,List.eq_nil_of_length_eq_zero h.2.2]
theorem Yg6 {e:Ed} (h:Zde e=true):e=eS0:=by
 unfold Zde Zjt Ziq Zg6 at h
 simp only [Bool.and_eq_true,beq_iff_eq] at h
 obtain ⟨k,a,b,w,ks,li,os⟩:=e
 simp only at h
 obtain ⟨h0,⟨h1,h2⟩,⟨h3,h4⟩,h5,h6⟩:=h
 rw [h0,Ycm h1,Ycm h2,List.eq_nil_of_length_eq_zero h3,List.eq_nil_of_length_eq_zero h4,h5,List.eq_nil_of_length_eq_zero h6]
 rfl
def atD {α:Type} (z:α) (l:List α) (i:Nat):α:=(l[i]?).getD z
def Ydq {α:Type} (z:α) (p:α→Bool) (l:List α) (i:Nat) (v:α):List α :=
 if i < l.length then l.set i v else if p v=true then l else l++List.replicate (i - l.length) z++[v]
theorem Ygh {α:Type} {z:α} {p:α→Bool} {l:List α} {i j:Nat} {v:α} (hv:p v=true→v=z):atD z (Ydq z p l i v) j=if j=i then v else atD z l j:=by
 unfold atD Ydq
 by_cases hi:i < l.length
 ·rw [if_pos hi,List.getElem?_set]
  by_cases e:i=j
  ·subst e;rw [if_pos rfl,if_pos hi,if_pos rfl];rfl
  rw [if_neg e,if_neg (fun q=>e q.symm)]
 rw [if_neg hi]
 cases hp:p v with
 | true =>
  rw [if_pos rfl]
  split
  ·rename_i e;subst e;rw [List.getElem?_eq_none (by omega),hv hp];rfl
  rfl
 | false =>
  rw [if_neg (by simp)]
  by_cases h1:j < l.length
  ·rw [List.append_assoc,List.getElem?_append_left h1,if_neg (by omega)]
  by_cases h2:j < i
  ·rw [List.getElem?_append_left (by simp only [List.length_append,List.length_replicate];omega),List.getElem?_append_right (by omega),List.getElem?_replicate,if_pos (by omega),if_neg (by omega),List.getElem?_eq_none (by omega)]
   rfl
  by_cases h3:j=i
  ·subst h3
   rw [if_pos rfl,List.getElem?_append_right (by simp only [List.length_append,List.length_replicate];omega)]
   simp only [List.length_append,List.length_replicate]
   rw [show j - (l.length+(j - l.length))=0 by omega]
   rfl
  rw [if_neg h3,List.getElem?_eq_none (by simp only [List.length_append,List.length_replicate,List.length_singleton];omega),List.getElem?_eq_none (by omega)]
def p0 (x:Int):Bool:=x == 0
def pT (x:Tr):Bool:=x.Kind == 0
instance decTr:DecidableEq Tr:=fun a b=>decidable_of_iff (eqT a b=true) eqT_iff
def NT (t:Tr):Prop:=nrm t=t
theorem NT.null {t:Tr} (h:NT t) (hk:pT t=true):t=n0T:=by
 unfold pT at hk
 rw [beq_iff_eq] at hk
 rw [← h,Zku hk]
 rfl
theorem NT.of (t:Tr):NT (nrm t):=Z73 t
theorem NT.z:NT n0T:=Zku rfl
theorem NT.kids {t:Tr} (h:NT t):∀ k∈t.Kids,NT k:=fun k hk=>by
 unfold NT at h
 rw [← h] at hk
 by_cases h0:t.Kind=0
 ·rw [Zku h0] at hk;cases hk
 by_cases h1:t.Kind=1
 ·rw [Zb7 h1] at hk
  obtain ⟨y,_,rfl⟩:=List.mem_map.1 (Zlk hk)
  exact NT.of y
 rw [Zho h0 h1] at hk
 obtain ⟨y,_,rfl⟩:=List.mem_map.1 hk
 exact NT.of y
theorem NT.map {l:List Tr} (h:∀ k∈l,NT k):l.map nrm=l:=by
 conv=>rhs;rw [← List.map_id l]
 exact List.map_congr_left fun x hx=>h x hx
theorem NT.words {t:Tr} (h:NT t) (h1:t.Kind=1):tr p0 t.Words=t.Words∧tr pT t.Kids=t.Kids:=by
 have hk:=NT.map h.kids
 unfold NT at h
 rw [Zb7 h1] at h
 have hw:=congrArg Za.Words h
 have hk2:=congrArg Za.Kids h
 simp only at hw hk2
 rw [hk] at hk2
 exact ⟨hw,hk2⟩
theorem NT.st {ws:List Int} {ks:List Tr} (h:∀ k∈ks,NT k):NT ⟨1,tr p0 ws,tr pT ks⟩:=by
 unfold NT
 rw [Zb7 rfl]
 simp only
 rw [NT.map (l:=tr pT ks) fun k hk=>h k (Zlk hk)]
 congr 1
 ·exact Z7b ws
 exact Z7b ks
theorem NT.li {k:Int} {ks:List Tr} (h0:¬ k=0) (h1:¬ k=1) (h:∀ k∈ks,NT k):NT ⟨k,[],ks⟩:=by
 unfold NT
 rw [Zho h0 h1]
 simp only
 rw [NT.map h]
inductive Rg:Tr→Prop
 | mk (t:Tr) (h3:∀ w∈t.Words,0≤w∧w < 18446744073709551616) (h4:∀ k∈t.Kids,Rg k):Rg t
theorem Rg.u {t:Tr} (h:Rg t):∀ w∈t.Words,0≤w∧w < 18446744073709551616:=by cases h;assumption
theorem Rg.all {t:Tr} (h:Rg t):∀ k∈t.Kids,Rg k:=by cases h;assumption
theorem Rg.z:Rg n0T := .mk _ (by simp [n0T]) (by simp [n0T])
theorem Rg.of:∀ (n:Nat) (t:Tr),SizeOf.sizeOf t < n→Bd t→Rg t
 | 0,_,h,_=>by omega
 | n+1,t,hn,h => .mk _ h.u fun k hk=>Rg.of n k (by have:=Vw hk;omega) (h.all k hk)
theorem Bd.rg {t:Tr} (h:Bd t):Rg t:=Rg.of _ t (Nat.lt_succ_self _) h
inductive RX:Ed→Prop
 | same (e:Ed) (h:e.Kind=0):RX e
 | repl (e:Ed) (h:e.Kind=1):RX e
 | st (e:Ed) (h:e.Kind=2) (hw:e.Words.Pairwise (fun a b=>a.At.toNat≠b.At.toNat)) (hw2:∀ w∈e.Words,0≤w.At∧w.At≤65534) (hk:e.Kids.Pairwise (fun a b=>a.At.toNat≠b.At.toNat)) (hk2:∀ k∈e.Kids,0≤k.At∧k.At≤65534) (ih:∀ k∈e.Kids,RX k.E):RX e
 | li (e:Ed) (h:e.Kind=3) (hl:2≤e.List_∧e.List_≤9) (ho:∀ o∈e.Ops,opk o) (hN:∀ o∈e.Ops,o.Kind=0∨o.Kind=3→o.L=[]) (ih:∀ o∈e.Ops,o.Kind=3→RX o.E):RX e
theorem RX.kind {e:Ed} (h:RX e):e.Kind=0∨e.Kind=1∨e.Kind=2∨e.Kind=3:=by
 cases h with
 | same _ h=>exact .inl h
 | repl _ h=>exact .inr (.inl h)
 | st _ h=>exact .inr (.inr (.inl h))
 | li _ h=>exact .inr (.inr (.inr h))
theorem Zma {α:Type} {pl:α→Int} {ok:Int→α→Bool} (h:∀ p x,ok p x=true→p < pl x∧pl x≤65534):∀ (xs:List α) (p:Int),chk pl ok p xs=true→(∀ x∈xs,p < pl x∧pl x≤65534)∧xs.Pairwise (fun a b=>pl a < pl b)
 | [],_,_=>⟨fun x hx=>(by cases hx),.nil⟩
 | x::xs,p,hc=>by
  rw [chk,Bool.and_eq_true] at hc
  have h1:=h p x hc.1
  obtain ⟨h2,h3⟩:=Zma h xs (pl x) hc.2
  refine ⟨fun y hy => ?_,.cons (fun y hy=>(h2 y hy).1) h3⟩
  rcases List.mem_cons.1 hy with rfl | hy
  ·exact h1
  have:=h2 y hy;omega
theorem Yee {α:Type} {pl:α→Int} {ok:Int→α→Bool} (h:∀ p x,ok p x=true→p < pl x∧pl x≤65534) {xs:List α} (hc:chk pl ok (-1) xs=true):(∀ x∈xs,0≤pl x∧pl x≤65534)∧xs.Pairwise (fun a b=>(pl a).toNat≠(pl b).toNat):=by
 obtain ⟨h1,h2⟩:=Zma h xs (-1) hc
 refine ⟨fun x hx=>by have:=h1 x hx;omega,?_⟩
 exact h2.imp_of_mem fun {a b} ha hb hab=>by
  have:=h1 a ha
  have:=h1 b hb
  omega
theorem Zx1 (p:Int) (w:Zz) (h:okW p w=true):p < w.At∧w.At≤65534:=by
 unfold okW at h
 simp only [Bool.not_eq_true',Bool.or_eq_false_iff,decide_eq_false_iff_not] at h
 omega
theorem Z9o (d:Nat) (p:Int) (k:Zl) (h:okK d p k=true):p < k.At∧k.At≤65534:=by
 unfold okK okP at h
 simp only [Bool.and_eq_true,Bool.not_eq_true',Bool.or_eq_false_iff,decide_eq_false_iff_not] at h
 omega
theorem Yfh:∀ (n:Nat) (e:Ed) (d:Nat),SizeOf.sizeOf e < n→rE e d=true→RX e
 | 0,_,_,h,_=>by omega
 | n+1,e,d,hn,h=>by
  rw [Zri] at h
  by_cases hd:d=0
  ·rw [if_pos hd] at h;cases h
  rw [if_neg hd] at h
  by_cases h0:e.Kind=0
  ·exact .same e h0
  rw [if_neg h0] at h
  by_cases h1:e.Kind=1
  ·exact .repl e h1
  rw [if_neg h1] at h
  by_cases h2:e.Kind=2
  ·rw [if_pos h2] at h
   simp only [Bool.and_eq_true] at h
   obtain ⟨w1,w2⟩:=Yee Zx1 h.2.1
   obtain ⟨k1,k2⟩:=Yee (Z9o (d - 1)) h.2.2
   refine .st e h2 w2 w1 k2 k1 fun k hk=>Yfh n k.E (d - 1) (by have:=Vn hk;omega) ?_
   exact Znz (Q:=fun k:Zl=>rE k.E (d - 1)=true) (fun p x hx=>by
    unfold okK okP at hx
    simp only [Bool.and_eq_true] at hx
    exact hx.2.2) e.Kids (-1) h.2.2 k hk
  rw [if_neg h2] at h
  by_cases h3:e.Kind=3
  ·rw [if_pos h3] at h
   simp only [Bool.and_eq_true,decide_eq_true_eq,List.all_eq_true] at h
   have ho:=h.2.2.1
   refine .li e h3 h.2.1 (fun o hx=>Z14 (ho o hx)) (fun o hx k03 => ?_) fun o hx k3=>Yfh n o.E (d - 1) (by have:=Zbi hx;omega) ?_
   ·have:=ho o hx
    unfold okO at this
    rcases k03 with k0 | k3
    ·rw [if_pos k0] at this
     simp only [Bool.and_eq_true,beq_iff_eq] at this
     exact List.eq_nil_of_length_eq_zero this.2.1
    rw [if_neg (by omega),if_neg (by omega),if_pos k3] at this
    simp only [Bool.and_eq_true,beq_iff_eq] at this
    exact List.eq_nil_of_length_eq_zero this.2.1
   have:=ho o hx
   unfold okO at this
   rw [if_neg (by omega),if_neg (by omega),if_pos k3] at this
   simp only [Bool.and_eq_true] at this
   exact this.2.2.2.2
  rw [if_neg h3] at h;cases h
inductive TX:Tr→Prop
 | mk (t:Tr) (h1:2≤t.Kind∧t.Kind≤9→t.Words=[]) (h9:t.Kind=9→∀ k∈t.Kids,k.Kind=1) (ih:∀ k∈t.Kids,TX k):TX t
theorem TX.w {t:Tr} (h:TX t):2≤t.Kind∧t.Kind≤9→t.Words=[]:=by cases h;assumption
theorem TX.s {t:Tr} (h:TX t):t.Kind=9→∀ k∈t.Kids,k.Kind=1:=by cases h;assumption
theorem TX.all {t:Tr} (h:TX t):∀ k∈t.Kids,TX k:=by cases h;assumption
theorem TX.z:TX n0T := .mk _ (fun _=>rfl) (fun h=>by simp [n0T] at h) (by simp [n0T])
theorem Ycw:∀ (n:Nat) (t:Tr) (d:Nat),SizeOf.sizeOf t < n→rt t d=true→TX t
 | 0,_,_,h,_=>by omega
 | n+1,t,d,hn,h=>by
  rw [Zj0] at h
  by_cases h0:t.Kind=0
  ·rw [if_pos h0] at h
   simp only [Bool.and_eq_true,beq_iff_eq] at h
   have hk:=List.eq_nil_of_length_eq_zero h.2
   exact .mk _ (fun h=>by omega) (fun h=>by omega) (by rw [hk];simp)
  rw [if_neg h0] at h
  by_cases h10:t.Kind=10
  ·rw [if_pos h10] at h
   simp only [Bool.and_eq_true,beq_iff_eq] at h
   have hk:=List.eq_nil_of_length_eq_zero h.2
   exact .mk _ (fun h=>by omega) (fun h=>by omega) (by rw [hk];simp)
  rw [if_neg h10] at h
  by_cases hc:t.Kind < 0∨10 < t.Kind∨d=0∨65536≤t.Words.length∨(t.Kind=1∧65536≤t.Kids.length)∨1048576≤t.Kids.length∨(1 < t.Kind∧0 < t.Words.length)
  ·rw [if_pos hc] at h;cases h
  rw [if_neg hc,List.all_eq_true] at h
  refine .mk _ (fun hk=>List.eq_nil_of_length_eq_zero (by omega)) (fun h9 k hk => ?_) fun k hk => ?_
  ·have:=h k hk
   rw [Bool.and_eq_true] at this
   have h2:=this.2
   unfold okk at h2
   rw [if_neg (by omega),h9] at h2
   simp only [Bool.and_eq_true,Bool.or_eq_true,bne_self_eq_false,Bool.false_eq_true,false_or,beq_iff_eq] at h2
   exact h2.2
  have:=h k hk
  rw [Bool.and_eq_true] at this
  exact Ycw n k (d - 1) (by have:=Vw hk;omega) this.1
theorem TX.nn:∀ (n:Nat) (t:Tr),SizeOf.sizeOf t < n→TX t→TX (nrm t)
 | 0,_,h,_=>by omega
 | n+1,t,hn,h=>by
  by_cases h0:t.Kind=0
  ·rw [Zku h0];exact TX.z
  by_cases h1:t.Kind=1
  ·rw [Zb7 h1]
   refine .mk _ (fun h=>by simp only at h;omega) (fun h=>by simp only at h;omega) fun k hk => ?_
   obtain ⟨y,hy,rfl⟩:=List.mem_map.1 (Zlk hk)
   exact TX.nn n y (by have:=Vw hy;omega) (h.all y hy)
  rw [Zho h0 h1]
  refine .mk _ h.w (fun h9 k hk => ?_) fun k hk => ?_
  ·obtain ⟨y,hy,rfl⟩:=List.mem_map.1 hk
   rw [Zhn];exact h.s h9 y hy
  obtain ⟨y,hy,rfl⟩:=List.mem_map.1 hk
  exact TX.nn n y (by have:=Vw hy;omega) (h.all y hy)
theorem TX.n {t:Tr} (h:TX t):TX (nrm t):=TX.nn _ t (Nat.lt_succ_self _) h
theorem Yb9 {α:Type} {z:α} {l:List α} {i:Nat}:atD z l i∈l∨atD z l i=z:=by
 unfold atD
 cases h:l[i]? with
 | none=>exact .inr rfl
 | some x=>exact .inl (List.mem_of_getElem? h)
theorem Z7h {l:List Tr} {Q:Tr→Prop} (h:∀ x∈l,Q x) (hz:Q n0T) (i:Nat):Q (atD n0T l i):=by
 rcases Yb9 (z:=n0T) (l:=l) (i:=i) with q | q
 ·exact h _ q
 rw [q];exact hz
theorem Yh5 {l:List Int} (h:∀ x∈l,0≤x∧x < 18446744073709551616) (i:Nat):0≤atD 0 l i∧atD 0 l i < 18446744073709551616:=by
 rcases Yb9 (z:=(0:Int)) (l:=l) (i:=i) with q | q
 ·exact h _ q
 rw [q];omega
theorem Yd5 {α β:Type} {z:α} {p:α→Bool} {l:List α} {i j:Nat} {v:α} (f:α→β) (hv:p v=true→f v=f z):f (atD z (Ydq z p l i v) j)=if j=i then f v else f (atD z l j):=by
 unfold atD Ydq
 by_cases hi:i < l.length
 ·rw [if_pos hi,List.getElem?_set]
  by_cases e:i=j
  ·subst e;rw [if_pos rfl,if_pos hi,if_pos rfl];rfl
  rw [if_neg e,if_neg (fun q=>e q.symm)]
 rw [if_neg hi]
 cases hp:p v with
 | true =>
  rw [if_pos rfl]
  split
  ·rename_i e;subst e;rw [List.getElem?_eq_none (by omega),hv hp];rfl
  rfl
 | false =>
  rw [if_neg (by simp)]
  by_cases h1:j < l.length
  ·rw [List.append_assoc,List.getElem?_append_left h1,if_neg (by omega)]
  by_cases h2:j < i
  ·rw [List.getElem?_append_left (by simp only [List.length_append,List.length_replicate];omega),List.getElem?_append_right (by omega),List.getElem?_replicate,if_pos (by omega),if_neg (by omega),List.getElem?_eq_none (by omega)]
   rfl
  by_cases h3:j=i
  ·subst h3
   rw [if_pos rfl,List.getElem?_append_right (by simp only [List.length_append,List.length_replicate];omega)]
   simp only [List.length_append,List.length_replicate]
   rw [show j - (l.length+(j - l.length))=0 by omega]
   rfl
  rw [if_neg h3,List.getElem?_eq_none (by simp only [List.length_append,List.length_replicate,List.length_singleton];omega),List.getElem?_eq_none (by omega)]
def RN (c cN:List Tr):Prop:=∀ j,nrm (atD n0T c j)=atD n0T cN j
theorem RN.put {c cN:List Tr} (h:RN c cN) {i:Nat} {v u:Tr} (hv:nrm v=u):RN (Ydq n0T pT c i v) (Ydq n0T pT cN i u):=fun j=>by
 have hnu:NT u:=by rw [← hv];exact NT.of v
 rw [Ygh (fun q=>hnu.null q),Yd5 nrm (fun q=>by unfold pT at q;rw [beq_iff_eq] at q;rw [Zku q];exact NT.z.symm),hv,h j]
structure CA (e:Ed) (t:Tr):Prop where
 x:RX e
 b:BE e
 g:GN e
 p:pt t≤1000000
 t:Bd t
theorem CA.of {e:Ed} {t:Tr} (hb:BE e) (hr:rE e 64=true) (hc:ce e≤3000) (ht:Bd t) (hp:pt t≤3000):CA e t :=
 ⟨Yfh _ e 64 (Nat.lt_succ_self _) hr,hb,Yce _ e 64 (Nat.lt_succ_self _) hb (by omega) hr,by omega,ht⟩
def Yd6 (a:List EO) (g:Nat):Prop:=match a with
 | []=>g=0
 | o::_=>g≤thN o
structure CI (a:List EO) (g:Nat):Prop where
 p:∀ o∈a,opk o
 s:Zor a≤1073741824
 g:Yd6 a g
theorem Ye6 {o:EO} (h:opk o):o.Kind=0∨o.Kind=1∨o.Kind=2∨o.Kind=3:=by
 rcases h with ⟨k,_⟩ | ⟨k,_⟩ | ⟨k,_⟩ | k
 ·exact .inl k
 ·exact .inr (.inl k)
 ·exact .inr (.inr (.inl k))
 exact .inr (.inr (.inr k))
inductive ST:Ed→Prop
 | mk (e:Ed) (ho:pt e.Old≤1000000) (hn:pt e.New≤1000000) (hl:∀ o∈e.Ops,∀ t∈o.L,pt t≤1000000) (ik:∀ k∈e.Kids,ST k.E) (io:∀ o∈e.Ops,ST o.E):ST e
theorem ST.old {e:Ed} (h:ST e):pt e.Old≤1000000:=by cases h;assumption
theorem ST.new {e:Ed} (h:ST e):pt e.New≤1000000:=by cases h;assumption
theorem ST.l {e:Ed} (h:ST e):∀ o∈e.Ops,∀ t∈o.L,pt t≤1000000:=by cases h;assumption
theorem ST.ks {e:Ed} (h:ST e):∀ k∈e.Kids,ST k.E:=by cases h;assumption
theorem ST.os {e:Ed} (h:ST e):∀ o∈e.Ops,ST o.E:=by cases h;assumption
theorem Z2s:∀ (k:Nat) (e:Ed) (d left:Int),BE e→SizeOf.sizeOf e < k→0≤d→d≤100→0≤left→left≤1000000→∃ r,Yp k e d left=some r∧-1≤r∧r≤1000000∧(0≤r→r+(ce e:Nat)≤left∧ST e)
 | 0,e,_,_,_,h,_,_,_,_=>by omega
 | k+1,e,d,left,hb,hk,hd0,hd1,hl0,hl1=>by
  have hw:=hb.w
  have ho:=hb.o
  show ∃ r,Q4 (Yp k) e d left=some r∧_
  unfold Q4
  rw [K0 (x:=left - 1) (by omega) (by omega),K0 (x:=left - 1 - (e.Words.length:Int)) (by omega) (by omega),K0 (by omega) (by omega),Z8x]
  cases hc:cond (d == 0) true (decide (left - 1 - (e.Words.length:Int) - (e.Ops.length:Int) < 0)) with
  | true=>exact ⟨-1,rfl,by omega,by omega,fun h=>by omega⟩
  | false =>
   rw [cond_false]
   have hd:¬ d=0∧0≤left - 1 - (e.Words.length:Int) - (e.Ops.length:Int):=by
    by_cases h:d=0
    ·simp [h] at hc
    have e:(d == 0)=false:=by simp [h]
    rw [e,cond_false,decide_eq_false_iff_not] at hc
    exact ⟨h,by omega⟩
   obtain ⟨r1,g1,g2,g3,g4⟩:=Zvh hb.old hd.2 (by omega)
   have hz:∃ z,cond (decide (0≤r1)) ((Jy e.New 80 r1).bind fun y4=>some y4) (some r1)=some z∧-1≤z∧z≤1000000∧(0≤z→z≤left - 1 - (e.Words.length:Int) - (e.Ops.length:Int)∧pt e.Old≤1000000∧pt e.New≤1000000):=by
    by_cases h:0≤r1
    ·obtain ⟨r2,f1,f2,f3,f4⟩:=Zvh hb.new h g3
     refine ⟨r2,by rw [decide_eq_true h,f1];rfl,f2,f3,fun h2 => ?_⟩
     have:=f4 h2
     have:=g4 h
     omega
    exact ⟨r1,by rw [decide_eq_false h];rfl,g2,g3,fun h2=>absurd h2 h⟩
   obtain ⟨z,z1,z2,z3,z4⟩:=hz
   rw [g1,Option.bind_some,z1,Option.bind_some]
   obtain ⟨r,h1,h2⟩:=Zer (step:=Qn (Yp k) e d)
    (fun s=>∃ j:Nat,s.2=j∧j≤e.Kids.length∧-1≤s.1∧s.1≤1000000∧(0≤s.1→s.1+((((e.Kids.take j).map fun k=>ce k.E)).sum:Nat)≤left - 1 - (e.Words.length:Int) - (e.Ops.length:Int)∧(pt e.Old≤1000000∧pt e.New≤1000000)∧∀ k∈e.Kids.take j,ST k.E))
    (fun s=>e.Kids.length - s.2.toNat) (fun r=>-1≤r∧r≤1000000∧(0≤r→r+((e.Kids.map fun k=>ce k.E).sum:Nat)≤left - 1 - (e.Words.length:Int) - (e.Ops.length:Int)∧(pt e.Old≤1000000∧pt e.New≤1000000)∧∀ k∈e.Kids,ST k.E)) (fun s hI=>by
     obtain ⟨l,i⟩:=s
     obtain ⟨j,rfl,hj,g1,g2,g3⟩:=hI
     have hkl:=hb.k
     simp only at g1 g2 g3 ⊢
     unfold Qn
     simp only
     by_cases hji:j < e.Kids.length
     ·rw [Zcf hji,cond_true]
      by_cases hl:0≤l
      ·have e1:decide (0≤l)=true:=by simp [hl]
       have hx:e.Kids[j]? = some e.Kids[j]:=List.getElem?_eq_getElem hji
       have hm:e.Kids[j]∈e.Kids:=List.getElem_mem hji
       obtain ⟨r,q1,q2,q3,q4⟩:=Z2s k e.Kids[j].E (d - 1) l (hb.ks _ hm) (by have:=Vn hm;omega) (by omega) (by omega) hl g2
       rw [e1,cond_true,Y8 hx,Option.bind_some,K0 (x:=d - 1) (by omega) (by omega),q1,Option.bind_some,K0 (by omega) (by omega)]
       refine .inl ⟨_,rfl,⟨j+1,by simp only;omega,by omega,q2,q3,fun hr => ?_⟩,by simp only;omega⟩
       obtain ⟨w1,w2⟩:=q4 hr
       obtain ⟨w3,w4,w5⟩:=g3 hl
       rw [List.take_add_one,hx]
       simp only [Option.toList_some,List.map_append,List.map_cons,List.map_nil,List.sum_append,List.sum_cons,List.sum_nil]
       simp only at hr
       refine ⟨by omega,w4,fun y hy => ?_⟩
       rcases List.mem_append.1 hy with hy | hy
       ·exact w5 y hy
       rw [List.mem_singleton] at hy;subst hy;exact w2
      have e1:decide (0≤l)=false:=by simp [hl]
      rw [e1,cond_false]
      exact .inr ⟨l,rfl,g1,g2,fun h=>absurd h hl⟩
     have hj':j=e.Kids.length:=by omega
     subst hj'
     rw [Zce,cond_false]
     rw [List.take_length] at g3
     exact .inr ⟨l,rfl,g1,g2,g3⟩) (z,0) ⟨0,rfl,Nat.zero_le _,z2,z3,fun h=>⟨by simpa using (z4 h).1,(z4 h).2,by simp⟩⟩
   rw [h1,Option.bind_some]
   have inner:∀ (j:Nat) (hj:j < e.Ops.length) (l:Int),0≤l→l≤1000000→∃ r,Z4 (Jb e (l,(j:Int))) (l,0)=some r∧-1≤r∧r≤1000000∧r≤l∧(0≤r→∀ t∈e.Ops[j].L,pt t≤1000000):=fun j hj l hl hl'=>by
    have hx:e.Ops[j]? = some e.Ops[j]:=List.getElem?_eq_getElem hj
    have hm:e.Ops[j]∈e.Ops:=List.getElem_mem hj
    have hL:=(hb.l _ hm).1
    obtain ⟨r,h1,h2⟩:=Zer (step:=Jb e (l,(j:Int)))
     (fun s=>∃ i:Nat,s.2=i∧i≤e.Ops[j].L.length∧-1≤s.1∧s.1≤1000000∧s.1≤l∧(0≤s.1→∀ t∈e.Ops[j].L.take i,pt t≤1000000))
     (fun s=>e.Ops[j].L.length - s.2.toNat) (fun r=>-1≤r∧r≤1000000∧r≤l∧(0≤r→∀ t∈e.Ops[j].L,pt t≤1000000)) (fun s hI=>by
      obtain ⟨l',i'⟩:=s
      obtain ⟨i,rfl,hi,g1,g2,g3,g4⟩:=hI
      simp only at g1 g2 g3 g4 ⊢
      unfold Jb
      simp only
      rw [Y8 hx,Option.bind_some,Option.bind_some]
      by_cases hii:i < e.Ops[j].L.length
      ·rw [Zcf hii,cond_true]
       by_cases hl2:0≤l'
       ·have e1:decide (0≤l')=true:=by simp [hl2]
        have hx2:e.Ops[j].L[i]? = some e.Ops[j].L[i]:=List.getElem?_eq_getElem hii
        have hm2:e.Ops[j].L[i]∈e.Ops[j].L:=List.getElem_mem hii
        obtain ⟨r,q1,q2,q3,q4⟩:=Zvh ((hb.l _ hm).2 _ hm2) hl2 g2
        rw [e1,cond_true,Y8 hx2,Option.bind_some,q1,Option.bind_some,K0 (by omega) (by omega)]
        refine .inl ⟨_,rfl,⟨i+1,by simp only;omega,by omega,q2,q3,?_⟩,by simp only;omega⟩
        simp only
        refine ⟨?_,fun hr t ht => ?_⟩
        ·by_cases hr:0≤r
         ·have:=q4 hr;omega
         omega
        rw [List.take_add_one,hx2] at ht
        rcases List.mem_append.1 ht with ht | ht
        ·exact g4 hl2 t ht
        simp only [Option.toList_some,List.mem_singleton] at ht
        subst ht
        have:=q4 hr
        omega
       have e1:decide (0≤l')=false:=by simp [hl2]
       rw [e1,cond_false]
       exact .inr ⟨l',rfl,g1,g2,g3,fun h=>absurd h hl2⟩
      have hi':i=e.Ops[j].L.length:=by omega
      subst hi'
      rw [Zce,cond_false]
      rw [List.take_length] at g4
      exact .inr ⟨l',rfl,g1,g2,g3,g4⟩) (l,0) ⟨0,rfl,Nat.zero_le _,by simp only;omega,by simp only;omega,by simp only;omega,fun _=>by simp⟩
    exact ⟨r,h1,h2⟩
   obtain ⟨r',h1',h2'⟩:=Zer (step:=Qo (Yp k) e d)
    (fun s=>∃ j:Nat,s.2=j∧j≤e.Ops.length∧-1≤s.1∧s.1≤1000000∧(0≤s.1→0≤r∧s.1+((((e.Ops.take j).map fun o=>ce o.E)).sum:Nat)≤r∧∀ o∈e.Ops.take j,ST o.E∧∀ t∈o.L,pt t≤1000000))
    (fun s=>e.Ops.length - s.2.toNat) (fun q=>-1≤q∧q≤1000000∧(0≤q→0≤r∧q+((e.Ops.map fun o=>ce o.E).sum:Nat)≤r∧∀ o∈e.Ops,ST o.E∧∀ t∈o.L,pt t≤1000000)) (fun s hI=>by
     obtain ⟨l,i⟩:=s
     obtain ⟨j,rfl,hj,g1,g2,g3⟩:=hI
     simp only at g1 g2 g3 ⊢
     unfold Qo
     simp only
     by_cases hji:j < e.Ops.length
     ·rw [Zcf hji,cond_true]
      by_cases hl:0≤l
      ·have e1:decide (0≤l)=true:=by simp [hl]
       have hx:e.Ops[j]? = some e.Ops[j]:=List.getElem?_eq_getElem hji
       have hm:e.Ops[j]∈e.Ops:=List.getElem_mem hji
       obtain ⟨t,t1,t2,t3,t4,t5⟩:=inner j hji l hl g2
       rw [e1,cond_true,t1,Option.bind_some,K0 (x:=(j:Int)+1) (by omega) (by omega)]
       by_cases ht:0≤t
       ·obtain ⟨r,q1,q2,q3,q4⟩:=Z2s k e.Ops[j].E (d - 1) t (hb.os _ hm) (by have:=Zbi hm;omega) (by omega) (by omega) ht t3
        rw [decide_eq_true ht,cond_true,Y8 hx,Option.bind_some,K0 (x:=d - 1) (by omega) (by omega),q1]
        refine .inl ⟨_,rfl,⟨j+1,by simp only;omega,by omega,q2,q3,fun hr => ?_⟩,by simp only;omega⟩
        obtain ⟨w1,w2⟩:=q4 hr
        obtain ⟨w3,w4,w5⟩:=g3 hl
        rw [List.take_add_one,hx]
        simp only [Option.toList_some,List.map_append,List.map_cons,List.map_nil,List.sum_append,List.sum_cons,List.sum_nil]
        simp only at hr
        refine ⟨w3,by omega,fun y hy => ?_⟩
        rcases List.mem_append.1 hy with hy | hy
        ·exact w5 y hy
        rw [List.mem_singleton] at hy;subst hy;exact ⟨w2,t5 ht⟩
       rw [decide_eq_false ht]
       exact .inl ⟨_,rfl,⟨j+1,by simp only;omega,by omega,t2,t3,fun hr=>absurd hr ht⟩,by simp only;omega⟩
      have e1:decide (0≤l)=false:=by simp [hl]
      rw [e1,cond_false]
      exact .inr ⟨l,rfl,g1,g2,fun h=>absurd h hl⟩
     have hj':j=e.Ops.length:=by omega
     subst hj'
     rw [Zce,cond_false]
     rw [List.take_length] at g3
     exact .inr ⟨l,rfl,g1,g2,g3⟩) (r,0) ⟨0,rfl,Nat.zero_le _,h2.1,h2.2.1,fun h=>⟨h,by simp,by simp⟩⟩
   rw [h1']
   refine ⟨r',rfl,h2'.1,h2'.2.1,fun hr => ?_⟩
   obtain ⟨p1,p2,p3⟩:=h2'.2.2 hr
   obtain ⟨p4,p5,p6⟩:=h2.2.2 p1
   exact ⟨by omega,.mk e p5.1 p5.2 (fun o ho=>(p3 o ho).2) p6 fun o ho=>(p3 o ho).1⟩
theorem Yib {e:Ed} (h:BE e) (hq:U4 e=some true):ce e≤3000∧ST e:=by
 obtain ⟨r,h1,h2,h3,h4⟩:=Z2s (SizeOf.sizeOf e+1) e 80 3000 h (by omega) (by omega) (by omega) (by omega) (by omega)
 have hr:Zfv e 80 3000=some r:=Zb2 (SizeOf.sizeOf e+1) fun k hk=>by rw [Zu8 k (SizeOf.sizeOf e+1) e 80 3000 (by omega) (by omega)];exact h1
 unfold U4 at hq
 rw [hr,Option.bind_some] at hq
 have hp:0≤r:=by simpa using hq
 have:=h4 hp
 exact ⟨by omega,this.2⟩
structure GT (t:Tr):Prop where
 n:NT t
 g:Rg t
 x:TX t
theorem GT.z:GT n0T:=⟨NT.z,Rg.z,TX.z⟩
theorem GT.all {t:Tr} (h:GT t):∀ k∈t.Kids,GT k:=fun k hk=>⟨h.n.kids k hk,h.g.all k hk,h.x.all k hk⟩
theorem GT.at_ {t:Tr} (h:GT t) (i:Nat):GT (atD n0T t.Kids i):=⟨Z7h h.n.kids NT.z i,Z7h h.g.all Rg.z i,Z7h h.x.all TX.z i⟩
theorem GT.of {t:Tr} (hb:Bd t) (hx:TX t):GT (nrm t):=⟨NT.of t,hb.nrm.rg,hx.n⟩
def D9 (e:Ed):Prop:=e.Kind=2∨(e.Kind=1∧e.Old.Kind=1∧e.New.Kind=1)
inductive RZ:Ed→Prop
 | same (e:Ed) (h:e.Kind=0):RZ e
 | repl (e:Ed) (h:e.Kind=1) (ho:TX e.Old) (hn:TX e.New):RZ e
 | st (e:Ed) (h:e.Kind=2) (hw:e.Words.Pairwise (fun a b=>a.At < b.At)) (hw2:∀ w∈e.Words,0≤w.At∧w.At≤65534) (hk:e.Kids.Pairwise (fun a b=>a.At < b.At)) (hk2:∀ k∈e.Kids,0≤k.At∧k.At≤65534) (ih:∀ k∈e.Kids,RZ k.E):RZ e
 | li (e:Ed) (h:e.Kind=3) (hl:2≤e.List_∧e.List_≤9) (ho:∀ o∈e.Ops,opk o) (hN:∀ o∈e.Ops,o.Kind=0∨o.Kind=3→o.L=[]) (hT:∀ o∈e.Ops,∀ t∈o.L,TX t∧(e.List_=9→t.Kind=1)) (h9:∀ o∈e.Ops,o.Kind=3→e.List_=9→D9 o.E) (ih:∀ o∈e.Ops,o.Kind=3→RZ o.E):RZ e
theorem Yfi:∀ (n:Nat) (e:Ed) (d:Nat),SizeOf.sizeOf e < n→rE e d=true→RZ e
 | 0,_,_,h,_=>by omega
 | n+1,e,d,hn,h=>by
  rw [Zri] at h
  by_cases hd:d=0
  ·rw [if_pos hd] at h;cases h
  rw [if_neg hd] at h
  by_cases h0:e.Kind=0
  ·exact .same e h0
  rw [if_neg h0] at h
  by_cases h1:e.Kind=1
  ·rw [if_pos h1] at h
   simp only [Bool.and_eq_true] at h
   exact .repl e h1 (Ycw _ _ 64 (Nat.lt_succ_self _) h.2.1.1) (Ycw _ _ 64 (Nat.lt_succ_self _) h.2.2.1)
  rw [if_neg h1] at h
  by_cases h2:e.Kind=2
  ·rw [if_pos h2] at h
   simp only [Bool.and_eq_true] at h
   obtain ⟨w1,w2⟩:=Zma Zx1 e.Words (-1) h.2.1
   obtain ⟨k1,k2⟩:=Zma (Z9o (d - 1)) e.Kids (-1) h.2.2
   refine .st e h2 w2 (fun w hw=>by have:=w1 w hw;omega) k2 (fun k hk=>by have:=k1 k hk;omega) fun k hk=>Yfi n k.E (d - 1) (by have:=Vn hk;omega) ?_
   exact Znz (Q:=fun k:Zl=>rE k.E (d - 1)=true) (fun p x hx=>by
    unfold okK okP at hx
    simp only [Bool.and_eq_true] at hx
    exact hx.2.2) e.Kids (-1) h.2.2 k hk
  rw [if_neg h2] at h
  by_cases h3:e.Kind=3
  ·rw [if_pos h3] at h
   simp only [Bool.and_eq_true,decide_eq_true_eq,List.all_eq_true] at h
   have ho:=h.2.2.1
   have hL:∀ o∈e.Ops,o.Kind=0∨o.Kind=3→o.L=[]:=fun o hx k03=>by
    have:=ho o hx
    unfold okO at this
    rcases k03 with k0 | k3
    ·rw [if_pos k0] at this
     simp only [Bool.and_eq_true,beq_iff_eq] at this
     exact List.eq_nil_of_length_eq_zero this.2.1
    rw [if_neg (by omega),if_neg (by omega),if_pos k3] at this
    simp only [Bool.and_eq_true,beq_iff_eq] at this
    exact List.eq_nil_of_length_eq_zero this.2.1
   refine .li e h3 h.2.1 (fun o hx=>Z14 (ho o hx)) hL (fun o hx t ht => ?_) (fun o hx k3 h9 => ?_) fun o hx k3=>Yfi n o.E (d - 1) (by have:=Zbi hx;omega) ?_
   ·have hk:=Ye6 (Z14 (ho o hx))
    by_cases k12:o.Kind=1∨o.Kind=2
    ·have:=ho o hx
     unfold okO at this
     rw [if_neg (by omega),if_pos k12] at this
     simp only [Bool.and_eq_true,List.all_eq_true] at this
     obtain ⟨q1,q2⟩:=this.2.2.1 t ht
     refine ⟨Ycw _ t 63 (Nat.lt_succ_self _) q1,fun h9 => ?_⟩
     unfold okk at q2
     rw [if_neg (by omega),h9] at q2
     simp only [Bool.and_eq_true,Bool.or_eq_true,bne_self_eq_false,Bool.false_eq_true,false_or,beq_iff_eq] at q2
     exact q2.2
    rw [hL o hx (by omega)] at ht
    cases ht
   ·have:=ho o hx
    unfold okO at this
    rw [if_neg (by omega),if_neg (by omega),if_pos k3] at this
    simp only [Bool.and_eq_true] at this
    have q:=this.2.2.2.1
    unfold Z07 at q
    rw [if_neg (by omega),if_pos h9] at q
    simp only [Bool.or_eq_true,Bool.and_eq_true,beq_iff_eq] at q
    exact q
   have:=ho o hx
   unfold okO at this
   rw [if_neg (by omega),if_neg (by omega),if_pos k3] at this
   simp only [Bool.and_eq_true] at this
   exact this.2.2.2.2
  rw [if_neg h3] at h;cases h
def Yos {α:Type} (f:α→α→Option α):Option α→Option α→Option α
 | some x,some y=>f x y
 | some x,none=>some x
 | none,y=>y
def Rise {α:Type} (pl:α→Int) (l:List α):Prop:=l.Pairwise (fun a b=>pl a < pl b)∧∀ x∈l,0≤pl x
theorem Rise.tail {α:Type} {pl:α→Int} {x:α} {l:List α} (h:Rise pl (x::l)):Rise pl l:=⟨(List.pairwise_cons.1 h.1).2,fun y hy=>h.2 y (.tail _ hy)⟩
theorem GT.w {t:Tr} (h:GT t) (j:Nat):0≤atD 0 t.Words j∧atD 0 t.Words j < 18446744073709551616:=Yh5 h.g.u j
inductive LM:Ed→Prop
 | mk (e:Ed) (hw:e.Words.length≤250000) (hk:e.Kids.length≤250000) (ho:e.Ops.length≤250000) (hs:Zor e.Ops≤4000000) (ik:∀ k∈e.Kids,LM k.E) (io:∀ o∈e.Ops,LM o.E):LM e
theorem LM.w {e:Ed} (h:LM e):e.Words.length≤250000:=by cases h;assumption
theorem LM.k {e:Ed} (h:LM e):e.Kids.length≤250000:=by cases h;assumption
theorem LM.o {e:Ed} (h:LM e):e.Ops.length≤250000:=by cases h;assumption
theorem LM.s {e:Ed} (h:LM e):Zor e.Ops≤4000000:=by cases h;assumption
theorem LM.ks {e:Ed} (h:LM e):∀ k∈e.Kids,LM k.E:=by cases h;assumption
theorem LM.os {e:Ed} (h:LM e):∀ o∈e.Ops,LM o.E:=by cases h;assumption
structure MC (e:Ed):Prop where
 z:RZ e
 b:BE e
 g:GN e
 s:ST e
 m:LM e
theorem RZ.kid {e:Ed} (h:RZ e) (k2:e.Kind=2):∀ k∈e.Kids,RZ k.E:=by
 cases h with
 | st _ _ _ _ _ _ ih=>exact ih
 | same _ k=>omega
 | repl _ k=>omega
 | li _ k=>omega
theorem MC.kid {e:Ed} (h:MC e) (k2:e.Kind=2):∀ k∈e.Kids,MC k.E:=fun k hk=>⟨h.z.kid k2 k hk,h.b.ks k hk,h.g.ks k hk,h.s.ks k hk,h.m.ks k hk⟩
theorem CI.of {a:List EO} (hp:∀ o∈a,opk o) (hs:Zor a≤1073741824):CI a 0:=⟨hp,hs,by unfold Yd6;split <;> omega⟩
theorem Yjh:LM eS0 := .mk _ (by simp [eS0]) (by simp [eS0]) (by simp [eS0]) (by simp [eS0,Zor]) (by simp [eS0]) (by simp [eS0])
theorem Z70 {e:Ed} (h:Zde e=true):LM e:=by rw [Yg6 h];exact Yjh
theorem Yeq:∀ (n:Nat) (e:Ed) (d:Nat),SizeOf.sizeOf e < n→BE e→GN e→ce e≤3000→rE e d=true→LM e
 | 0,_,_,h,_,_,_,_=>by omega
 | n+1,e,d,hn,hb,hg,hc,h=>by
  have hc':=hc
  rw [Z8x] at hc'
  have hk1:e.Kids.length≤(e.Kids.map fun k=>ce k.E).sum:=Z2u fun x _=>Yed _
  have kk:∀ k∈e.Kids,∀ d',rE k.E d'=true→LM k.E:=fun k hk d' hd'=>by
   have:=Zr9 (f:=fun k:Zl=>ce k.E) hk
   exact Yeq n k.E d' (by have:=Vn hk;omega) (hb.ks k hk) (hg.ks k hk) (by omega) hd'
  have oo:∀ o∈e.Ops,∀ d',rE o.E d'=true→LM o.E:=fun o ho d' hd'=>by
   have:=Zr9 (f:=fun o:Zt=>ce o.E) ho
   exact Yeq n o.E d' (by have:=Zbi ho;omega) (hb.os o ho) (hg.os o ho) (by omega) hd'
  have hlens:=Ycu hb h
  rw [Zri] at h
  by_cases hd:d=0
  ·rw [if_pos hd] at h;cases h
  rw [if_neg hd] at h
  by_cases h0:e.Kind=0
  ·rw [if_pos h0] at h
   exact Z70 h
  rw [if_neg h0] at h
  by_cases h1:e.Kind=1
  ·rw [if_pos h1] at h
   unfold Ziq Zg6 at h
   simp only [Bool.and_eq_true,beq_iff_eq] at h
   have e1:=List.eq_nil_of_length_eq_zero h.1.1.2
   have e2:=List.eq_nil_of_length_eq_zero h.1.2.2
   exact .mk _ (by omega) (by omega) (by omega) (by rw [e2];simp [Zor]) (by rw [e1];simp) (by rw [e2];simp)
  rw [if_neg h1] at h
  by_cases h2:e.Kind=2
  ·rw [if_pos h2] at h
   unfold Zg6 at h
   simp only [Bool.and_eq_true,beq_iff_eq] at h
   have e2:=List.eq_nil_of_length_eq_zero h.1.2.2
   refine .mk _ (by omega) (by omega) (by omega) (by rw [e2];simp [Zor]) (fun k hk=>kk k hk (d - 1) ?_) (by rw [e2];simp)
   exact Znz (Q:=fun k:Zl=>rE k.E (d - 1)=true) (fun p x hx=>by
    unfold okK okP at hx
    simp only [Bool.and_eq_true] at hx
    exact hx.2.2) e.Kids (-1) h.2.2 k hk
  rw [if_neg h2] at h
  by_cases h3:e.Kind=3
  ·rw [if_pos h3] at h
   unfold Ziq at h
   rw [Bool.and_eq_true,Bool.and_eq_true,Bool.and_eq_true,Bool.and_eq_true,Bool.and_eq_true,Bool.and_eq_true,beq_iff_eq,beq_iff_eq,List.all_eq_true] at h
   obtain ⟨⟨_,_,hk⟩,_,hall,hB⟩:=h
   have e1:=List.eq_nil_of_length_eq_zero hk
   refine .mk _ (by omega) (by omega) (by omega) ?_ (by rw [e1];simp) fun o ho => ?_
   ·rw [hlens] at hB
    have:=Z3y (l:=e.List_) (fun o=>rE o.E (d - 1)) e.Ops (0,0) ⟨⟨by decide,by decide⟩,by decide,by decide⟩ hall (fun o ho=>(hb.l o ho).1) hB
    unfold Zmk at hB
    rw [Bool.and_eq_true,decide_eq_true_eq,decide_eq_true_eq] at hB
    simp only at this
    omega
   have:=hall o ho
   unfold okO at this
   by_cases k0:o.Kind=0
   ·rw [if_pos k0] at this
    simp only [Bool.and_eq_true] at this
    exact Z70 this.2.2
   rw [if_neg k0] at this
   by_cases k12:o.Kind=1∨o.Kind=2
   ·rw [if_pos k12] at this
    simp only [Bool.and_eq_true] at this
    exact Z70 this.2.2.2
   rw [if_neg k12] at this
   by_cases k3:o.Kind=3
   ·rw [if_pos k3] at this
    simp only [Bool.and_eq_true] at this
    exact oo o ho (d - 1) this.2.2.2.2
   rw [if_neg k3] at this;cases this
  rw [if_neg h3] at h;cases h
theorem Ygp {e:Ed} (hb:BE e):∃ b,Zcy e=some b∧(b=true→MC e∧rE e 64=true):=by
 obtain ⟨b,h1,h2⟩:=Yje hb
 have h3:=Ygm hb (d:=64) (by decide)
 rw [show ((64:Nat):Int)=64 from rfl] at h3
 unfold Zcy
 rw [h1,Option.bind_some,h3,Ybs hb]
 refine ⟨b && (rE e 64 && lgt e),?_,fun h => ?_⟩
 ·cases b <;> cases rE e 64 <;> cases lgt e <;> rfl
 simp only [Bool.and_eq_true] at h
 rw [h.1] at h1
 obtain ⟨hc,hs⟩:=Yib hb h1
 have hr:=h.2.1
 have hg:=Yce _ e 64 (Nat.lt_succ_self _) hb (by omega) hr
 exact ⟨⟨Yfi _ e 64 (Nat.lt_succ_self _) hr,hb,hg,hs,Yeq _ e 64 (Nat.lt_succ_self _) hb hg hc hr⟩,hr⟩
theorem w_l (a b:Int):IntKind.i64.wrap (IntKind.i64.wrap a+b)=IntKind.i64.wrap (a+b):=by rw [IntKind.wrap_i64 a,IntKind.wrap_i64,IntKind.wrap_i64];omega
theorem w_r (a b:Int):IntKind.i64.wrap (a+IntKind.i64.wrap b)=IntKind.i64.wrap (a+b):=by rw [IntKind.wrap_i64 b,IntKind.wrap_i64,IntKind.wrap_i64];omega
theorem w_w (a:Int):IntKind.i64.wrap (IntKind.i64.wrap a)=IntKind.i64.wrap a:=by rw [IntKind.wrap_i64 a,IntKind.wrap_i64];omega
theorem Yix (a b:Int):IntKind.i64.wrap (IntKind.i64.wrap a+IntKind.i64.wrap b)=IntKind.i64.wrap (a+b):=by rw [w_l,w_r]
theorem Z04 {α:Type} (g:α→Int):∀ (l:List α) (s:Int),l.foldl (fun s x=>s+g x) s=s+(l.map g).sum
 | [],s=>by simp
 | x::l,s=>by rw [List.foldl_cons,Z04 g l,List.map_cons,List.sum_cons];omega
def frS (s:Int×Int) (x:Tr):Int×Int:=(if s.1 < (x.Words.length:Int) then (x.Words.length:Int) else s.1,if s.2 < (x.Kids.length:Int) then (x.Kids.length:Int) else s.2)
def fr (l:List Tr):Int×Int:=l.foldl frS (0,0)
theorem Yel {t:Tr} (hl:(t.Kids.length:Int)≤140737488355328):Zek t=some (fr t.Kids):=by
 unfold Zek
 rw [(Zo9 t.Kids (fun (s:Int×Int) (i:Int)=>(s.1,s.2,i)) frS id (fun _=>True) (Ze3 t) hl (fun s i x _ hi hx hm=>⟨trivial,by
  unfold Ze3
  simp only
  rw [Zcf hi,cond_true,Y8 hx,Option.bind_some]
  rfl⟩) (fun s _=>by
  unfold Ze3
  simp only
  rw [Zce,cond_false]
  rfl) (0,0) trivial).1,Option.bind_some]
 rfl
def h9 (l:List Tr):Int:=IntKind.i64.wrap (1+IntKind.i64.wrap ((l.length:Int) * IntKind.i64.wrap ((fr l).1+(fr l).2)))
def Z3r (c:Int) (n:Nat):Int:=((n * wid c+63) / 64:Nat)
def sz (t:Tr):Int :=
 if t.Kind=1 then ((t.Words.length:Int)+(t.Kids.length:Int))+(t.Kids.attach.map fun k=>sz k.1).sum
 else if 2≤t.Kind∧t.Kind≤7 then Z3r (t.Kind - 2) t.Kids.length
 else if t.Kind=8 then (t.Kids.length:Int)+(t.Kids.attach.map fun k=>sz k.1).sum
 else if t.Kind=9 then h9 t.Kids+(t.Kids.attach.map fun k=>(k.1.Kids.attach.map fun j=>sz j.1).sum).sum
 else 0
termination_by SizeOf.sizeOf t
decreasing_by
 ·exact Vw k.2
 ·exact Vw k.2
 exact Nat.lt_trans (Vw j.2) (Vw k.2)
theorem Yfx (t:Tr):sz t=if t.Kind=1 then ((t.Words.length:Int)+(t.Kids.length:Int))+(t.Kids.map sz).sum
 else if 2≤t.Kind∧t.Kind≤7 then Z3r (t.Kind - 2) t.Kids.length
 else if t.Kind=8 then (t.Kids.length:Int)+(t.Kids.map sz).sum
 else if t.Kind=9 then h9 t.Kids+(t.Kids.map fun k=>(k.Kids.map sz).sum).sum
 else 0:=by
 rw [sz]
 have h1:(t.Kids.attach.map fun k=>(k.1.Kids.attach.map fun j=>sz j.1).sum)=t.Kids.map fun k=>(k.Kids.map sz).sum:=by
  have:(fun (k:{ x // x∈t.Kids })=>(k.1.Kids.attach.map fun j=>sz j.1).sum)=fun (k:{ x // x∈t.Kids })=>(fun k:Tr=>(k.Kids.map sz).sum) k.1:=funext fun k=>congrArg List.sum (List.attach_map_val (f:=sz))
  rw [this]
  exact List.attach_map_val (f:=fun k:Tr=>(k.Kids.map sz).sum)
 rw [h1]
 simp only [List.attach_map_val]
theorem c5' {c:Int} (h:0≤c∧c≤5):c=0∨c=1∨c=2∨c=3∨c=4∨c=5:=by omega
theorem Ygc {c:Int} (h:0≤c∧c≤5) {n:Nat} (hn:n≤1048576):Zik c (n:Int)=some (Z3r c n):=by
 have hw:Zbg c=some (((wid c:Nat):Int),true):=by
  unfold Zbg
  rcases c5' h with rfl | rfl | rfl | rfl | rfl | rfl <;> rfl
 have hb:wid c≤64:=by rcases c5' h with rfl | rfl | rfl | rfl | rfl | rfl <;> decide
 have hm:n * wid c≤1048576 * 64:=Nat.mul_le_mul hn hb
 unfold Zik Z3r
 rw [hw,Option.bind_some]
 simp only
 rw [Bool.not_true,cond_false,decide_eq_false (by omega),cond_false,decide_eq_false (by omega),cond_false,← Int.natCast_mul]
 generalize n * wid c=m at hm ⊢
 rw [K0 (x:=(m:Int)) (by omega) (by omega),K0 (x:=(m:Int)+63) (by omega) (by omega),Int.tdiv_eq_ediv_of_nonneg (by omega),K0 (by omega) (by omega)]
 congr 1
theorem Z8g {t:Tr} {d:Nat} (h:rt t d=true):0≤t.Kind∧t.Kind≤10∧t.Kids.length < 1048576∧(t.Kind=0∨t.Kind=10→t.Kids=[])∧∀ k∈t.Kids,rt k (d - 1)=true:=by
 rw [Zj0] at h
 by_cases h0:t.Kind=0
 ·rw [if_pos h0,Bool.and_eq_true,beq_iff_eq,beq_iff_eq] at h
  have:=List.length_eq_zero_iff.1 h.2
  rw [this]
  exact ⟨by omega,by omega,by simp,fun _=>rfl,fun k hk=>by cases hk⟩
 by_cases h1:t.Kind=10
 ·rw [if_neg h0,if_pos h1,Bool.and_eq_true,beq_iff_eq,beq_iff_eq] at h
  have:=List.length_eq_zero_iff.1 h.2
  rw [this]
  exact ⟨by omega,by omega,by simp,fun _=>rfl,fun k hk=>by cases hk⟩
 rw [if_neg h0,if_neg h1] at h
 by_cases hb:t.Kind < 0∨10 < t.Kind∨d=0∨65536≤t.Words.length∨(t.Kind=1∧65536≤t.Kids.length)∨1048576≤t.Kids.length∨(1 < t.Kind∧0 < t.Words.length)
 ·rw [if_pos hb] at h;cases h
 rw [if_neg hb,List.all_eq_true] at h
 refine ⟨by omega,by omega,by omega,fun q=>by omega,fun k hk => ?_⟩
 have:=h k hk
 rw [Bool.and_eq_true] at this
 exact this.1
theorem Yb1 {k:Nat} (l:List Tr) (hl:(l.length:Int)≤140737488355328) (h:∀ x∈l,(X6 k).1 x=some (IntKind.i64.wrap (sz x))):Z4 (Zcn (X6 k).1 l) (0,0)=some (IntKind.i64.wrap (l.map sz).sum):=by
 have:=(Zo9 l (fun (s:Int) (i:Int)=>(IntKind.i64.wrap s,i)) (fun s x=>s+sz x) (fun s=>IntKind.i64.wrap s) (fun _=>True) (Zcn (X6 k).1 l) hl (fun s i x _ hi hx hm=>⟨trivial,by
  unfold Zcn
  simp only
  rw [Zcf hi,cond_true,Y8 hx,Option.bind_some,h x hm,Option.bind_some,Yix]⟩) (fun s _=>by
  unfold Zcn
  simp only
  rw [Zce,cond_false]) 0 trivial).1
 rw [Z04,Int.zero_add] at this
 exact this
theorem Ycz:∀ (k:Nat),(∀ (t:Tr) (d:Nat),rt t d=true→2 * SizeOf.sizeOf t < k→(X6 k).1 t=some (IntKind.i64.wrap (sz t))) ∧
  (∀ l:List Tr,0 < k→(l.length:Int)≤140737488355328→(∀ x∈l,(∃ d,rt x d=true)∧2 * SizeOf.sizeOf x+1 < k)→(X6 k).2 l=some (IntKind.i64.wrap (l.map sz).sum))
 | 0=>⟨fun _ _ _ h=>by omega,fun _ h=>by omega⟩
 | k+1=>by
  obtain ⟨i1,i2⟩:=Ycz k
  refine ⟨fun t d hr hk => ?_,fun l _ hl h => ?_⟩
  ·obtain ⟨r1,r2,r3,r4,r5⟩:=Z8g hr
   have s0:0 < SizeOf.sizeOf t:=by
    obtain ⟨a,b,c⟩:=t
    simp only [Za.mk.sizeOf_spec]
    omega
   have k0:0 < k:=by omega
   have hs:∀ x∈t.Kids,(∃ d,rt x d=true)∧2 * SizeOf.sizeOf x+1 < k:=fun x hx=>⟨⟨_,r5 x hx⟩,by have:=Vw hx;omega⟩
   have hk9:∀ y∈t.Kids,(X6 k).2 y.Kids=some (IntKind.i64.wrap (y.Kids.map sz).sum):=fun y hy =>
    i2 _ k0 (by have:=(Z8g (r5 y hy)).2.2.1;omega) fun x hx=>⟨⟨_,(Z8g (r5 y hy)).2.2.2.2 x hx⟩,by have:=Vw hx;have:=Vw hy;omega⟩
   show Zkd (X6 k).1 (X6 k).2 t=_
   unfold Zkd Zn6
   rw [Yfx]
   by_cases h1:t.Kind=1
   ·rw [if_pos h1,show (t.Kind == 1)=true from by rw [h1];rfl,cond_true,i2 _ k0 (by omega) hs,Option.bind_some,Yix]
   rw [if_neg h1,beq_eq_false_iff_ne.2 h1,cond_false,Option.bind_some]
   by_cases h2:2≤t.Kind∧t.Kind≤7
   ·rw [if_pos h2,decide_eq_true h2.1,cond_true,decide_eq_true h2.2,cond_true,K0 (by omega) (by omega),Ygc (by omega) (by omega),Option.bind_some]
    have:IntKind.i64.wrap (Z3r (t.Kind - 2) t.Kids.length)=Z3r (t.Kind - 2) t.Kids.length:=by
     have hb:wid (t.Kind - 2)≤64:=by rcases c5' (c:=t.Kind - 2) (by omega) with q | q | q | q | q | q <;> rw [q] <;> decide
     have hm:t.Kids.length * wid (t.Kind - 2)≤1048576 * 64:=Nat.mul_le_mul (by omega) hb
     unfold Z3r
     rw [K0 (by omega) (by omega)]
    rw [this]
   rw [if_neg h2]
   have hc:cond (decide (2≤t.Kind)) (decide (t.Kind≤7)) false=false:=by
    rw [Zey,Bool.and_eq_false_iff,decide_eq_false_iff_not,decide_eq_false_iff_not];omega
   rw [hc,cond_false]
   by_cases h8:t.Kind=8
   ·rw [if_pos h8,show (t.Kind == 8)=true from by rw [h8];rfl,cond_true,i2 _ k0 (by omega) hs,Option.bind_some,w_r]
   rw [if_neg h8,beq_eq_false_iff_ne.2 h8,cond_false]
   by_cases h9':t.Kind=9
   ·rw [if_pos h9',show (t.Kind == 9)=true from by rw [h9'];rfl,cond_true,Yel (by omega),Option.bind_some]
    have:=(Zo9 t.Kids (fun (s:Int) (i:Int)=>(IntKind.i64.wrap s,i)) (fun s x=>s+(x.Kids.map sz).sum) (fun s=>IntKind.i64.wrap s) (fun _=>True) (Zds (X6 k).2 t) (by omega) (fun s i x _ hi hx hm=>⟨trivial,by
     unfold Zds
     simp only
     rw [Zcf hi,cond_true,Y8 hx,Option.bind_some,hk9 x hm,Option.bind_some,Yix]⟩) (fun s _=>by
     unfold Zds
     simp only
     rw [Zce,cond_false]) (h9 t.Kids) trivial).1
    rw [Z04,show IntKind.i64.wrap (h9 t.Kids)=h9 t.Kids from w_w _] at this
    show (Z4 (Zds (X6 k).2 t) (h9 t.Kids,0)).bind _=_
    rw [this,Option.bind_some]
   rw [if_neg h9',beq_eq_false_iff_ne.2 h9',cond_false]
   rfl
  show Zi1 (X6 k).1 (X6 k).2 l=_
  unfold Zi1
  rw [Yb1 l hl (fun x hx=>by obtain ⟨⟨d,hd⟩,hh⟩:=h x hx;exact i1 x d hd (by omega)),Option.bind_some]
theorem Yg7 {t:Tr} {d:Nat} (h:rt t d=true):Zsh t=some (IntKind.i64.wrap (sz t)):=Zb2 (2 * SizeOf.sizeOf t+1) fun k hk=>(Ycz k).1 t d h (by omega)
theorem Yb5 {t:Tr} {d:Nat} (hb:Bd t) (h:rt t d=true):Zga t=some (IntKind.i64.wrap (sz (nrm t))):=by
 unfold Zga
 rw [Z12 hb,Option.bind_some,Yg7 (rtN h),Option.bind_some]
theorem Z61 {α β γ:Type} (xs:List α) (f:α→β) (c:γ) (step:Int×γ×List β→Option ((Int×γ×List β) ⊕ (γ×List β))) (hl:(xs.length:Int)≤140737488355328)
  (h1:∀ (i:Nat) (x:α) (out:List β),i < xs.length→xs[i]? = some x→x∈xs→out.length=i→step ((i:Int),c,out)=some (.inl (IntKind.i64.wrap ((i:Int)+1),c,out++[f x])))
  (h2:∀ out,step ((xs.length:Int),c,out)=some (.inr (c,out))):Z4 step (0,c,[])=some (c,xs.map f):=by
 have key:∀ m i,i+m=xs.length→Z4 step ((i:Int),c,(xs.take i).map f)=some (c,xs.map f):=fun m=>by
  induction m with
  | zero =>
   intro i hi
   have hi':i=xs.length:=by omega
   subst hi'
   rw [List.take_length]
   exact Xe (h2 _)
  | succ m ih =>
   intro i hi
   have hx:xs[i]? = some xs[i]:=List.getElem?_eq_getElem (by omega)
   have h:=h1 i _ ((xs.take i).map f) (by omega) hx (List.mem_of_getElem? hx) (by rw [List.length_map,List.length_take];omega)
   rw [K0 (by omega) (by omega)] at h
   rw [Qh h]
   have e:(xs.take i).map f++[f xs[i]]=(xs.take (i+1)).map f:=by
    rw [List.take_add_one,hx,List.map_append]
    rfl
   rw [e]
   exact ih (i+1) (by omega)
 have:=key xs.length 0 (by omega)
 simpa using this
def hdE (e:Ed):Int:=IntKind.u64.wrap (IntKind.i64.wrap (e.Kind+IntKind.i64.wrap (256 * e.List_)))
def hdO (o:Zt):Int:=IntKind.u64.wrap (IntKind.i64.wrap (o.Kind+IntKind.i64.wrap (256 * o.N)))
def wT (w:Zz):Tr:=⟨1,[IntKind.u64.wrap (IntKind.u64.wrap w.At+IntKind.u64.wrap (4294967296 * IntKind.u64.wrap w.Mask)),w.Old,w.New],[]⟩
def Zpt (l:List Tr):Tr:=if l.length=0 then ⟨0,[],[]⟩ else ⟨9,[],l⟩
def kT (k:Zl) (t:Tr):Tr:=⟨1,[IntKind.u64.wrap k.At],[t]⟩
def opT (l:Int) (o:Zt) (t:Tr):Tr:=⟨1,[hdO o],if o.Kind=3 then [t] else if 0 < o.Kind then [⟨l,[],o.L⟩] else []⟩
def TE (e:Ed):Tr :=
 if e.Kind=0 then ⟨0,[],[]⟩
 else if e.Kind=1 then ⟨1,[hdE e],[e.Old,e.New]⟩
 else if e.Kind=2 then ⟨1,[hdE e],[Zpt (e.Words.map wT),Zpt (e.Kids.attach.map fun k=>kT k.1 (TE k.1.E))]⟩
 else ⟨1,[hdE e],[Zpt (e.Ops.attach.map fun o=>opT e.List_ o.1 (TE o.1.E))]⟩
termination_by SizeOf.sizeOf e
decreasing_by
 ·exact Vn k.2
 exact Zbi o.2
theorem Zq4 (e:Ed):TE e=if e.Kind=0 then ⟨0,[],[]⟩
 else if e.Kind=1 then ⟨1,[hdE e],[e.Old,e.New]⟩
 else if e.Kind=2 then ⟨1,[hdE e],[Zpt (e.Words.map wT),Zpt (e.Kids.map fun k=>kT k (TE k.E))]⟩
 else ⟨1,[hdE e],[Zpt (e.Ops.map fun o=>opT e.List_ o (TE o.E))]⟩:=by
 rw [TE]
 have h1:(e.Kids.attach.map fun k=>kT k.1 (TE k.1.E))=e.Kids.map fun k=>kT k (TE k.E):=List.attach_map_val (f:=fun k:Zl=>kT k (TE k.E))
 have h2:(e.Ops.attach.map fun o=>opT e.List_ o.1 (TE o.1.E))=e.Ops.map fun o=>opT e.List_ o (TE o.E):=List.attach_map_val (f:=fun o:Zt=>opT e.List_ o (TE o.E))
 rw [h1,h2]
theorem Yb0 (l:List Tr):U5 l=some (Zpt l):=by
 unfold U5 Zpt
 cases l with
 | nil=>rfl
 | cons x l =>
  have:(((x::l).length:Int) == 0)=false:=by rw [beq_eq_false_iff_ne,List.length_cons];omega
  rw [this,cond_false,if_neg (by simp)]
theorem Yf5:∀ (k:Nat) (e:Ed),GN e→SizeOf.sizeOf e < k→K6 k e=some (TE e)
 | 0,_,_,h=>by omega
 | k+1,e,hg,hk=>by
  have gw:=hg.w
  have gk:=hg.k
  have go:=hg.o
  show Zct (K6 k) e=_
  unfold Zct
  rw [Zq4]
  by_cases h0:e.Kind=0
  ·rw [if_pos h0,show (e.Kind == 0)=true from by rw [h0];rfl,cond_true];rfl
  rw [if_neg h0,beq_eq_false_iff_ne.2 h0,cond_false]
  by_cases h1:e.Kind=1
  ·rw [if_pos h1,show (e.Kind == 1)=true from by rw [h1];rfl,cond_true];rfl
  rw [if_neg h1,beq_eq_false_iff_ne.2 h1,cond_false]
  by_cases h2:e.Kind=2
  ·rw [if_pos h2,show (e.Kind == 2)=true from by rw [h2];rfl,cond_true]
   have l0:=Z61 e.Words wT [hdE e] (Gj e) (by omega) (fun i x out hi hx hm ho=>by
    unfold Gj
    simp only
    rw [Zcf hi,cond_true,Y8 hx,Option.bind_some,Zfs (by simp only [List.length_singleton];omega) (by simp only [List.length_singleton];omega),Option.bind_some]
    rfl) (fun out=>by
    unfold Gj
    simp only
    rw [Zce,cond_false])
   have l1:=Zxw e.Kids (fun k=>kT k (TE k.E)) (Gk (K6 k) e) [] (by omega) (fun i x out hi hx hm ho=>by
    unfold Gk
    simp only [List.length_nil] at ho ⊢
    rw [Zcf hi,cond_true,Y8 hx,Option.bind_some,Yf5 k x.E (hg.ks x hm) (by have:=Vn hm;omega),Option.bind_some,Zfs (by simp only [List.length_singleton];omega) (by simp only [List.length_singleton];omega),Option.bind_some]
    rfl) (fun out=>by
    unfold Gk
    simp only
    rw [Zce,cond_false])
   unfold hdE at l0
   rw [l0,Option.bind_some,l1,Option.bind_some,Yb0,Option.bind_some,Yb0,Option.bind_some,Option.bind_some]
   rfl
  rw [if_neg h2,beq_eq_false_iff_ne.2 h2,cond_false]
  have l2:=Z61 e.Ops (fun o=>opT e.List_ o (TE o.E)) [hdE e] (Gl (K6 k) e) (by omega) (fun i x out hi hx hm ho=>by
   unfold Gl
   simp only
   rw [Zcf hi,cond_true,Y8 hx,Option.bind_some,Yf5 k x.E (hg.os x hm) (by have:=Zbi hm;omega),Option.bind_some]
   have:(cond (x.Kind == 3) (some (([IntKind.u64.wrap (IntKind.i64.wrap (x.Kind+IntKind.i64.wrap (256 * x.N)))]:List Int),([TE x.E]:List Za))) (cond (decide (0 < x.Kind)) (some (([IntKind.u64.wrap (IntKind.i64.wrap (x.Kind+IntKind.i64.wrap (256 * x.N)))]:List Int),([(⟨e.List_,[],x.L⟩:Za)]:List Za))) (some (([IntKind.u64.wrap (IntKind.i64.wrap (x.Kind+IntKind.i64.wrap (256 * x.N)))]:List Int),([]:List Za)))))=some ((opT e.List_ x (TE x.E)).Words,(opT e.List_ x (TE x.E)).Kids):=by
    unfold opT hdO
    by_cases q:x.Kind=3
    ·rw [if_pos q,show (x.Kind == 3)=true from by rw [q];rfl,cond_true]
    rw [if_neg q,beq_eq_false_iff_ne.2 q,cond_false]
    by_cases q2:0 < x.Kind
    ·rw [if_pos q2,decide_eq_true q2,cond_true]
    rw [if_neg q2,decide_eq_false q2,cond_false]
   rw [this,Option.bind_some,Zfs (by simp only [List.length_singleton];omega) (by simp only [List.length_singleton];omega),Option.bind_some]
   rfl) (fun out=>by
   unfold Gl
   simp only
   rw [Zce,cond_false])
  unfold hdE at l2
  rw [l2,Option.bind_some,Yb0,Option.bind_some,Option.bind_some]
  rfl
theorem Yj0 {e:Ed} (h:GN e):Zja e=some (TE e):=Zb2 (SizeOf.sizeOf e+1) fun k hk=>Yf5 k e h (by omega)
theorem Zz1 {x:Int} (h:0≤x∧x < 18446744073709551616):IntKind.u64.wrap x=x:=Ydu (by omega)
theorem Z8f {l:List Tr} (hl:l.length≤1048576) (h:∀ x∈l,Bd x):Bd (Zpt l):=by
 unfold Zpt
 split
 ·exact .mk _ (by simp) (by simp) (fun _ h=>by cases h) (fun _ h=>by cases h)
 exact .mk _ (by simp) (by simp only;omega) (fun _ h=>by cases h) h
theorem Ymr (x:Int):0≤IntKind.u64.wrap x∧IntKind.u64.wrap x < 18446744073709551616:=by
 rw [show IntKind.u64.wrap x=x % 18446744073709551616 from by simp [IntKind.wrap,IntKind.bits,IntKind.signed]]
 omega
theorem Yax:∀ (n:Nat) (e:Ed),SizeOf.sizeOf e < n→BE e→GN e→Bd (TE e)
 | 0,_,h,_,_=>by omega
 | n+1,e,hn,hb,hg=>by
  have gk:=hg.k
  have go:=hg.o
  have gw:=hg.w
  have nn:∀ {α:Type} {P:α→Prop} {x:α},x∈([]:List α)→P x:=fun h=>by cases h
  have hw1:∀ z:Int,∀ w∈[IntKind.u64.wrap z],0≤w∧w < 18446744073709551616:=fun z w hw=>by
   rw [List.mem_singleton.1 hw];exact Ymr z
  rw [Zq4]
  split
  ·exact .mk _ (by simp) (by simp) (fun _ h=>by cases h) (fun _ h=>by cases h)
  split
  ·refine .mk _ (by simp) (by simp) (hw1 _) (fun k hk => ?_)
   rcases List.mem_cons.1 hk with rfl | hk
   ·exact hb.old
   rw [List.mem_singleton.1 hk];exact hb.new
  split
  ·refine .mk _ (by simp) (by simp) (hw1 _) (fun k hk => ?_)
   rcases List.mem_cons.1 hk with rfl | hk
   ·refine Z8f (by rw [List.length_map];exact gw) fun x hx => ?_
    obtain ⟨w,hw,rfl⟩:=List.mem_map.1 hx
    have:=hb.ws w hw
    refine .mk _ (by simp [wT]) (by simp [wT]) (fun z hz => ?_) (fun _ h=>by cases h)
    rcases List.mem_cons.1 hz with rfl | hz
    ·exact Ymr _
    rcases List.mem_cons.1 hz with rfl | hz
    ·exact this.2.1
    rw [List.mem_singleton.1 hz];exact this.2.2
   rw [List.mem_singleton.1 hk]
   refine Z8f (by rw [List.length_map];exact gk) fun x hx => ?_
   obtain ⟨w,hw,rfl⟩:=List.mem_map.1 hx
   refine .mk _ (by simp [kT]) (by simp [kT]) (hw1 _) (fun z hz => ?_)
   rw [List.mem_singleton.1 hz]
   exact Yax n w.E (by have:=Vn hw;omega) (hb.ks w hw) (hg.ks w hw)
  refine .mk _ (by simp) (by simp) (hw1 _) (fun k hk => ?_)
  rw [List.mem_singleton.1 hk]
  refine Z8f (by rw [List.length_map];exact go) fun x hx => ?_
  obtain ⟨o,ho,rfl⟩:=List.mem_map.1 hx
  unfold opT
  split
  ·refine .mk _ (by simp) (by simp) (hw1 _) (fun z hz => ?_)
   rw [List.mem_singleton.1 hz]
   exact Yax n o.E (by have:=Zbi ho;omega) (hb.os o ho) (hg.os o ho)
  split
  ·refine .mk _ (by simp) (by simp) (hw1 _) (fun z hz => ?_)
   rw [List.mem_singleton.1 hz]
   exact .mk _ (by simp) (hb.l o ho).1 (fun w hw=>by cases hw) (hb.l o ho).2
  exact .mk _ (by simp) (by simp) (hw1 _) (fun _ h=>by cases h)
def Z84 {α σ:Type} (f:σ→Nat→α→σ):σ→Nat→List α→σ
 | s,_,[]=>s
 | s,i,x::xs=>Z84 f (f s i x) (i+1) xs
theorem Yii {α σ S R:Type} (xs:List α) (pack:Int→σ→S) (out:σ→R) (step:S→Option (S ⊕ R)) (f:σ→Nat→α→σ) (I:Nat→σ→Prop) (hl:(xs.length:Int)≤140737488355328)
  (h1:∀ (i:Nat) (s:σ) (x:α),i < xs.length→xs[i]? = some x→x∈xs→I i s→step (pack i s)=some (.inl (pack (IntKind.i64.wrap ((i:Int)+1)) (f s i x)))∧I (i+1) (f s i x))
  (h2:∀ s,I xs.length s→step (pack xs.length s)=some (.inr (out s))) (s:σ) (h0:I 0 s):Z4 step (pack 0 s)=some (out (Z84 f s 0 xs))∧I xs.length (Z84 f s 0 xs):=by
 have key:∀ (l pre:List α) (s:σ),xs=pre++l→I pre.length s→Z4 step (pack (pre.length:Nat) s)=some (out (Z84 f s pre.length l))∧I xs.length (Z84 f s pre.length l):=fun l=>by
  induction l with
  | nil =>
   intro pre s hp hi
   rw [List.append_nil] at hp
   subst hp
   exact ⟨Xe (h2 s hi),hi⟩
  | cons x l ih =>
   intro pre s hp hI
   have hx:xs[pre.length]? = some x:=by rw [hp,List.getElem?_append_right (Nat.le_refl _),Nat.sub_self];rfl
   have hi:pre.length < xs.length:=by rw [hp];simp
   obtain ⟨a,b⟩:=h1 pre.length s x hi hx (List.mem_of_getElem? hx) hI
   rw [K0 (by omega) (by omega)] at a
   have:=ih (pre++[x]) (f s pre.length x) (by rw [hp];simp) (by rw [List.length_append,List.length_singleton];exact b)
   rw [List.length_append,List.length_singleton] at this
   exact ⟨(Qh a).trans this.1,this.2⟩
 exact key xs [] s rfl h0
theorem Z9n {α:Type} {f:α→Nat} {x:α}:∀ {l:List α},x∈l→f x≤(l.map f).sum
 | [],h=>by cases h
 | y::l,h=>by
  simp only [List.map_cons,List.sum_cons]
  rcases List.mem_cons.1 h with rfl | h
  ·omega
  have:=Z9n (f:=f) h;omega
theorem Ycp {α β:Type} {f:α→Nat} {g:β→Nat} (p:α→β):∀ {l:List α},(∀ x∈l,g (p x)≤f x)→((l.map p).map g).sum≤(l.map f).sum
 | [],_=>by simp
 | y::l,h=>by
  have:=Ycp p fun x hx=>h x (.tail _ hx)
  have:=h y (.head _)
  simp only [List.map_cons,List.sum_cons]
  omega
theorem Yc1 {α:Type} {p:α→Bool} {f:α→Nat}:∀ l:List α,((tr p l).map f).sum≤(l.map f).sum
 | []=>by simp [tr]
 | x::l=>by
  have:=Yc1 (p:=p) (f:=f) l
  by_cases h:tr p l=[]
  ·rw [Z1l h]
   split <;> simp
  rw [Z5y h]
  simp only [List.map_cons,List.sum_cons]
  omega
theorem Yit (t:Tr):1≤pt t:=by rw [Z1h];omega
theorem Yis {t x:Tr} (h:x∈t.Kids):pt x+1≤pt t:=by
 have:=Z9n (f:=pt) h
 rw [Z1h t]
 omega
theorem Yct:∀ (n:Nat) (t:Tr),SizeOf.sizeOf t < n→pt (nrm t)≤pt t
 | 0,_,h=>by omega
 | n+1,t,h=>by
  have ih:∀ x∈t.Kids,pt (nrm x)≤pt x:=fun x hx=>Yct n x (by have:=Vw hx;omega)
  have e:=Ycp (f:=pt) (g:=pt) nrm ih
  by_cases h0:t.Kind=0
  ·rw [Zku h0,Z1h]
   exact Yit t
  by_cases h1:t.Kind=1
  ·rw [Zb7 h1,Z1h,Z1h t]
   simp only
   have a:=Zni (fun x:Int=>x == 0) t.Words
   have b:=Yc1 (p:=fun x:Tr=>x.Kind == 0) (f:=pt) (t.Kids.map nrm)
   exact Nat.add_le_add (Nat.add_le_add_left a 1) (Nat.le_trans b e)
  rw [Zho h0 h1,Z1h,Z1h t]
  simp only
  omega
theorem Yiv {t:Tr} {d:Nat} (h:rt t d=true) (h0:¬ t.Kind=0) (h1:¬ t.Kind=10):t.Words.length < 65536∧(t.Kind=1→t.Kids.length < 65536)∧(1 < t.Kind→t.Words=[])∧∀ k∈t.Kids,rt k (d - 1)=true∧okk t.Kind k=true:=by
 rw [Zj0,if_neg h0,if_neg h1] at h
 by_cases hb:t.Kind < 0∨10 < t.Kind∨d=0∨65536≤t.Words.length∨(t.Kind=1∧65536≤t.Kids.length)∨1048576≤t.Kids.length∨(1 < t.Kind∧0 < t.Words.length)
 ·rw [if_pos hb] at h;cases h
 rw [if_neg hb,List.all_eq_true] at h
 refine ⟨by omega,fun h=>by omega,fun h=>List.length_eq_zero_iff.1 (by omega),fun k hk => ?_⟩
 have:=h k hk
 rwa [Bool.and_eq_true] at this
def zs (l:List Int) (N:Nat):List Int:=l++List.replicate (N - l.length) 0
def Yng (t:Tr) (l:List Int) (a:Nat):Int:=if t.Words.length+t.Kids.length=0 then -1 else (l.length:Int) - a - 1
theorem Ygy {kind:Int} {k:Tr} (h:¬ (2≤kind∧kind≤7)) (hk:okk kind k=true):¬ k.Kind=10∧(kind=9→k.Kind=1):=by
 unfold okk at hk
 rw [if_neg h,Bool.and_eq_true,bne_iff_ne,Bool.or_eq_true,bne_iff_ne,beq_iff_eq] at hk
 exact ⟨hk.1,fun h9=>by rcases hk.2 with h | h;exact absurd h9 h;exact h⟩
structure Fine (t:Tr) (d:Nat):Prop where
 bd:Bd t
 rt:rt t d=true
 pt:pt t≤200000
theorem Fine.kid {t x:Tr} {d:Nat} (h:Fine t d) (hx:x∈t.Kids):Fine x (d - 1):=⟨h.bd.all x hx,(Z8g h.rt).2.2.2.2 x hx,by have:=h.pt;have:=Yis hx;omega⟩
theorem Fine.nrm {t:Tr} {d:Nat} (h:Fine t d):Fine (nrm t) d:=⟨h.bd.nrm,rtN h.rt,Nat.le_trans (Yct _ t (Nat.lt_succ_self _)) h.pt⟩
structure Nm (t:Tr) (d:Nat):Prop where
 f:Fine t d
 n:nrm t=t
 k:¬ t.Kind=10
theorem Nm.kid {t x:Tr} {d:Nat} (h:Nm t d) (h0:¬ t.Kind=0) (hx:x∈t.Kids) (h10:¬ x.Kind=10):Nm x (d - 1):=by
 refine ⟨h.f.kid hx,?_,h10⟩
 have hn:=h.n
 by_cases h1:t.Kind=1
 ·rw [Zb7 h1] at hn
  rw [← hn] at hx
  simp only at hx
  obtain ⟨y,_,rfl⟩:=List.mem_map.1 (Zlk hx)
  exact Z73 y
 rw [Zho h0 h1] at hn
 rw [← hn] at hx
 simp only at hx
 obtain ⟨y,_,rfl⟩:=List.mem_map.1 hx
 exact Z73 y
theorem Nm.words {t:Tr} {d:Nat} (h:Nm t d) (h1:t.Kind=1):tr (fun x=>x == 0) t.Words=t.Words:=by
 have hn:=h.n
 rw [Zb7 h1] at hn
 exact congrArg Za.Words hn
theorem Nm.kids {t:Tr} {d:Nat} (h:Nm t d) (h1:t.Kind=1):tr (fun x=>x.Kind == 0) t.Kids=t.Kids:=by
 have hn:=h.n
 rw [Zb7 h1] at hn
 have:=congrArg Za.Kids hn
 simp only at this
 rw [← this,Z7b]
theorem Nm.okids {t:Tr} {d:Nat} (h:Nm t d) (h18:t.Kind=1∨t.Kind=8):∀ x∈t.Kids,Nm x (d - 1):=fun x hx =>
 h.kid (by omega) hx (Ygy (by omega) ((Yiv h.f.rt (by omega) h.k).2.2.2 x hx).2).1
theorem Nm.null {t:Tr} {d:Nat} (h:Nm t d) (h0:t.Kind=0):t=⟨0,[],[]⟩:=by
 have:=h.n
 rwa [Zku h0,eq_comm] at this
def hdS (t:Tr) (l:List Int) (a:Nat):Int:=Yng t l a % 1073741824 * 4+(t.Words.length:Int) * 4294967296+(t.Kids.length:Int) * 281474976710656
def hv (t:Tr) (l:List Int) (a:Nat) (c:Int):Int:=if t.Kind=0 then 0 else if t.Kind=1 then hdS t l a else ((l.length:Int) - a - 1) % 1073741824 * 4+1+(t.Kind - 2) * 4294967296+c * 34359738368
def StN (W K:Nat) (x:Tr):Prop:=x.Kind=1∧(∃ d,Nm x d)∧x.Words.length≤W∧x.Kids.length≤K
theorem StN.kids {W K:Nat} {x:Tr} (h:StN W K x):∀ y∈x.Kids,∃ d,Nm y d:=fun y hy=>by
 obtain ⟨k,⟨d,n⟩,_⟩:=h
 exact ⟨_,n.okids (.inl k) y hy⟩
section
variable {A:Z0}
inductive MR (A:Z0):Zj→Tr→Prop
 | mk (r:Zj) (t:Tr) (ho:OKr A r) (hk:t.Kind=r.kind) (hw:t.Words=Zws A r) (hl:(t.Kids.length:Int)=Yep r)
   (he:∀ (i:Nat) (x:Tr),t.Kids[i]? = some x→(Ydl A r i).2=0) (hs:∀ (i:Nat) (x:Tr),t.Kids[i]? = some x→MR A (Ydl A r i).1 x):MR A r t
theorem MR.o {r:Zj} {t:Tr} (h:MR A r t):OKr A r:=by cases h;assumption
theorem MR.ws {r:Zj} {t:Tr} (h:MR A r t):t.Words=Zws A r:=by cases h;assumption
theorem MR.kid {r:Zj} {t:Tr} (h:MR A r t) {i:Nat} {x:Tr} (hx:t.Kids[i]? = some x):(Ydl A r i).2=0∧MR A (Ydl A r i).1 x:=by
 cases h with
 | mk _ _ _ _ _ _ he hs=>exact ⟨he i x hx,hs i x hx⟩
end
theorem Zjp (ws:List Int) (ks:List Tr):V0 ws ks=some ⟨1,ws,ks⟩:=rfl
theorem Z8c (l:List Tr):Zf8 l=some (Zpt l):=by
 unfold Zf8 Zpt
 cases l with
 | nil=>rfl
 | cons x l =>
  have:(((x::l).length:Int) == 0)=false:=by rw [beq_eq_false_iff_ne,List.length_cons];omega
  rw [this,cond_false,if_neg (by simp)]
theorem Yfe {α:Type} (xs:List α) (g:α→Tr) (step:Int×List Tr→Option ((Int×List Tr) ⊕ List Tr)) (hl:xs.length≤1048576)
  (h1:∀ (i:Nat) (x:α) (out:List Tr),i < xs.length→xs[i]? = some x→x∈xs→out.length≤1048576→step ((i:Int),out)=some (.inl (IntKind.i64.wrap ((i:Int)+1),out++[g x])))
  (h2:∀ out,step ((xs.length:Int),out)=some (.inr out)):Z4 step (0,[])=some (xs.map g):=by
 have main:=Yii xs (fun i (s:List Tr)=>(i,s)) (fun s=>s) step (fun s _ x=>s++[g x]) (fun i s=>s=(xs.take i).map g) (by omega) (fun i s x hi hx hm hI=>⟨h1 i x s hi hx hm (by rw [hI,List.length_map,List.length_take];omega),by rw [hI,List.take_add_one,hx,List.map_append];rfl⟩) (fun s _=>h2 s) [] (by simp)
 rw [main.1,main.2,List.take_length]
theorem Z6u {out:List Tr} {x:Tr} (h:out.length≤1048576):Ziu 56 out [x]=some (out++[x]):=Zfs (by rw [List.length_singleton];omega) (by rw [List.length_singleton];omega)
theorem Yhg {w:Zz} (h1:0≤w.At∧w.At≤65534) (h2:0 < w.Mask∧w.Mask < 256):IntKind.u64.wrap (Zdx .u64 (IntKind.u64.wrap w.At) (IntKind.u64.wrap ((IntKind.u64.wrap w.Mask) * 2 ^ min (Int.toNat 32) 64)))=IntKind.u64.wrap (IntKind.u64.wrap w.At+IntKind.u64.wrap (4294967296 * IntKind.u64.wrap w.Mask)):=by
 rw [Yji h1.1 (by omega) (by omega) (by omega),Zz1 (x:=w.At) (by omega),Zz1 (x:=w.Mask) (by omega),Zz1 (x:=4294967296 * w.Mask) (by omega),Zz1 (by omega)]
 omega
theorem Ydr {ws:List Zz} (hl:ws.length≤1048576) (h:∀ w∈ws,(0≤w.At∧w.At≤65534)∧(0 < w.Mask∧w.Mask < 256)):Zc2 ws=some (Zpt (ws.map wT)):=by
 unfold Zc2
 rw [Yfe ws wT (Gx ws) hl (fun i x out hi hx hm ho=>by
  unfold Gx
  simp only
  rw [Zcf hi,cond_true,Y8 hx,Option.bind_some,Yhg (h x hm).1 (h x hm).2,Zjp,Option.bind_some,Z6u ho]
  rfl) (fun out=>by
  unfold Gx
  simp only
  rw [Zce,cond_false]),Option.bind_some,Z8c]
 rfl
theorem Zu7 {e:Ed} (h1:0≤e.Kind∧e.Kind≤3) (h2:0≤e.List_∧e.List_≤9):hdE e=e.Kind+256 * e.List_:=by
 unfold hdE
 rw [K0 (x:=256 * e.List_) (by omega) (by omega),K0 (by omega) (by omega),Zz1 (by omega)]
theorem Ygq {o:Zt} (h1:0≤o.Kind∧o.Kind≤3) (h2:0≤o.N∧o.N≤1048576):IntKind.u64.wrap (Zdx .u64 (IntKind.u64.wrap o.Kind) (IntKind.u64.wrap ((IntKind.u64.wrap o.N) * 2 ^ min (Int.toNat 8) 64)))=hdO o:=by
 unfold hdO
 rw [Yjj h1.1 (by omega) h2.1 (by omega),K0 (x:=256 * o.N) (by omega) (by omega),K0 (by omega) (by omega),Zz1 (by omega)]
 omega
theorem Yhv {l:Int} {o:Zt} {r:Bool} (h:okO l o r=true):(0≤o.Kind∧o.Kind≤3)∧(0≤o.N∧o.N≤1048576)∧(o.Kind=3→r=true):=by
 unfold okO at h
 by_cases k0:o.Kind=0
 ·rw [if_pos k0] at h
  simp only [Bool.and_eq_true,decide_eq_true_eq] at h
  exact ⟨by omega,by omega,fun k=>by omega⟩
 rw [if_neg k0] at h
 by_cases k1:o.Kind=1∨o.Kind=2
 ·rw [if_pos k1,Bool.and_eq_true,beq_iff_eq] at h
  exact ⟨by omega,by omega,fun k=>by omega⟩
 rw [if_neg k1] at h
 by_cases k3:o.Kind=3
 ·rw [if_pos k3] at h
  simp only [Bool.and_eq_true,beq_iff_eq] at h
  exact ⟨by omega,by omega,fun _=>h.2.2.2.2⟩
 rw [if_neg k3] at h
 cases h
theorem Z3m:∀ (k:Nat) (e:Ed) (d:Nat),BE e→GN e→rE e d=true→2 * SizeOf.sizeOf e < k→(Y5 k).1 e=some (TE e)
 | 0,_,_,_,_,_,h=>by omega
 | 1,e,_,_,_,_,h=>by
  have:0 < SizeOf.sizeOf e:=by
   obtain ⟨a,b,c,d,f,g,i⟩:=e
   simp only [Zf.mk.sizeOf_spec]
   omega
  omega
 | k+2,e,d,hb,hg,hr,hk=>by
  have gk:=hg.k
  have go:=hg.o
  have gw:=hg.w
  show Zix (Y5 (k+1)).1 (Y5 (k+1)).2.1 (Y5 (k+1)).2.2 e=_
  unfold Zix
  rw [Zri] at hr
  by_cases hd:d=0
  ·rw [if_pos hd] at hr;cases hr
  rw [if_neg hd] at hr
  by_cases h0:e.Kind=0
  ·rw [beq_eq_false_iff_ne.2 (by omega:¬ e.Kind=1),cond_false,beq_eq_false_iff_ne.2 (by omega:¬ e.Kind=2),cond_false,beq_eq_false_iff_ne.2 (by omega:¬ e.Kind=3),cond_false,Zq4,if_pos h0]
  rw [if_neg h0] at hr
  by_cases h1:e.Kind=1
  ·rw [if_pos h1] at hr
   simp only [Bool.and_eq_true] at hr
   have hl:e.List_=0:=by
    have:=hr.1.2
    unfold Zg6 at this
    rw [Bool.and_eq_true,beq_iff_eq] at this
    exact this.1
   have ev:IntKind.u64.wrap e.Kind=hdE e:=by rw [Zu7 (by omega) (by omega),Zz1 (by omega),hl];omega
   rw [show (e.Kind == 1)=true from by rw [h1];rfl,cond_true,Zjp,Option.bind_some,Zq4,if_neg h0,if_pos h1,ev]
  rw [if_neg h1] at hr
  rw [beq_eq_false_iff_ne.2 h1,cond_false]
  by_cases h2:e.Kind=2
  ·rw [if_pos h2] at hr
   simp only [Bool.and_eq_true] at hr
   obtain ⟨⟨_,hlo⟩,hw,hkd⟩:=hr
   have hl:e.List_=0:=by
    unfold Zg6 at hlo
    rw [Bool.and_eq_true,beq_iff_eq] at hlo
    exact hlo.1
   have ev:IntKind.u64.wrap e.Kind=hdE e:=by rw [Zu7 (by omega) (by omega),Zz1 (by omega),hl];omega
   have hwr:=Zma Zx1 _ _ hw
   have hwm:=Znz (Q:=fun x:Zz=>x.Mask≠0) (fun p x hx=>by
    unfold okW at hx
    simp only [Bool.not_eq_true',Bool.or_eq_false_iff,beq_eq_false_iff_ne] at hx
    exact hx.1.1.2) _ _ hw
   have hkm:=Znz (Q:=fun x:Zl=>x.E.Kind≠0∧rE x.E (d - 1)=true) (fun p x hx=>by
    unfold okK okP at hx
    simp only [Bool.and_eq_true,bne_iff_ne] at hx
    exact hx.2) _ _ hkd
   have hkids:(Y5 (k+1)).2.1 e.Kids=some (Zpt (e.Kids.map fun k=>kT k (TE k.E))):=by
    show Zdq (Y5 k).1 (Y5 k).2.1 (Y5 k).2.2 e.Kids=_
    unfold Zdq
    rw [Yfe e.Kids (fun k=>kT k (TE k.E)) (Zay (Y5 k).1 e.Kids) gk (fun i x out hi hx hm ho=>by
     unfold Zay
     simp only
     rw [Zcf hi,cond_true,Y8 hx,Option.bind_some,Z3m k x.E (d - 1) (hb.ks x hm) (hg.ks x hm) (hkm x hm).2 (by have:=Vn hm;omega),Option.bind_some,Zjp,Option.bind_some,Z6u ho]
     rfl) (fun out=>by
     unfold Zay
     simp only
     rw [Zce,cond_false]),Option.bind_some,Z8c]
    rfl
   rw [show (e.Kind == 2)=true from by rw [h2];rfl,cond_true,Ydr gw (fun w hw'=>by
    have a1:=hwr.1 w hw'
    have a2:=hwm w hw'
    have a3:=(hb.ws w hw').1
    omega),Option.bind_some,hkids,Option.bind_some,Zjp,Option.bind_some,Zq4,if_neg h0,if_neg h1,if_pos h2,ev]
  rw [if_neg h2] at hr
  rw [beq_eq_false_iff_ne.2 h2,cond_false]
  by_cases h3:e.Kind=3
  ·rw [if_pos h3] at hr
   simp only [Bool.and_eq_true,decide_eq_true_eq,List.all_eq_true] at hr
   obtain ⟨_,⟨l2,l9⟩,hops,_⟩:=hr
   have ev:IntKind.u64.wrap (Zdx .u64 (IntKind.u64.wrap e.Kind) (IntKind.u64.wrap ((IntKind.u64.wrap e.List_) * 2 ^ min (Int.toNat 8) 64)))=hdE e:=by
    rw [Zu7 (by omega) (by omega),Yjj (by omega) (by omega) (by omega) (by omega)]
    omega
   have hopt:(Y5 (k+1)).2.2 e.List_ e.Ops=some (Zpt (e.Ops.map fun o=>opT e.List_ o (TE o.E))):=by
    show Zeu (Y5 k).1 (Y5 k).2.1 (Y5 k).2.2 e.List_ e.Ops=_
    unfold Zeu
    rw [Yfe e.Ops (fun o=>opT e.List_ o (TE o.E)) (Zbx (Y5 k).1 e.List_ e.Ops) go (fun i x out hi hx hm ho=>by
     obtain ⟨k1,k2,k3⟩:=Yhv (hops x hm)
     have hv:=Ygq k1 k2
     unfold Zbx
     simp only
     rw [Zcf hi,cond_true,Y8 hx,Option.bind_some,hv]
     unfold opT
     by_cases q0:x.Kind=0
     ·rw [show (x.Kind == 0)=true from by rw [q0];rfl,cond_true,Zjp,Option.bind_some,Z6u ho,if_neg (by omega),if_neg (by omega)]
      rfl
     rw [beq_eq_false_iff_ne.2 q0,cond_false]
     by_cases q3:x.Kind=3
     ·rw [beq_eq_false_iff_ne.2 (by omega:¬ x.Kind=1),cond_false,Option.bind_some]
      simp only
      rw [beq_eq_false_iff_ne.2 (by omega:¬ x.Kind=2),cond_false,show (x.Kind == 3)=true from by rw [q3];rfl,cond_true,Z3m k x.E (d - 1) (hb.os x hm) (hg.os x hm) (k3 q3) (by have:=Zbi hm;omega),Option.bind_some,Zjp,Option.bind_some,Z6u ho,if_pos q3]
      rfl
     ·rw [if_neg q3,if_pos (by omega)]
      by_cases q1:x.Kind=1
      ·rw [show (x.Kind == 1)=true from by rw [q1];rfl,cond_true,Option.bind_some]
       simp only
       rw [cond_true,Zjp,Option.bind_some,Z6u ho]
       rfl
      rw [beq_eq_false_iff_ne.2 q1,cond_false,Option.bind_some]
      simp only
      rw [show (x.Kind == 2)=true from by rw [show x.Kind=2 by omega];rfl,cond_true,Zjp,Option.bind_some,Z6u ho]
      rfl) (fun out=>by
     unfold Zbx
     simp only
     rw [Zce,cond_false]),Option.bind_some,Z8c]
    rfl
   rw [show (e.Kind == 3)=true from by rw [h3];rfl,cond_true,hopt,Option.bind_some,ev,Zjp,Option.bind_some,Zq4,if_neg h0,if_neg h1,if_neg h2]
  rw [if_neg h3] at hr;cases hr
theorem Zs0 {e:Ed} {d:Nat} (hb:BE e) (hg:GN e) (hr:rE e d=true):Zjc e=some (TE e):=Zb2 (2 * SizeOf.sizeOf e+1) fun k hk=>Z3m k e d hb hg hr (by omega)
theorem Zpd {t:Tr} (h:Zch t=true):t=⟨0,[],[]⟩:=by
 obtain ⟨k,w,c⟩:=t
 unfold Zch at h
 simp only [Bool.and_eq_true,beq_iff_eq,List.length_eq_zero_iff] at h
 obtain ⟨h1,h2,h3⟩:=h
 rw [h1,h2,h3]
theorem Z2e {a b:Ed} (h1:a.Kind=b.Kind) (h2:a.Old=b.Old) (h3:a.New=b.New) (h4:a.Words=b.Words) (h5:a.Kids=b.Kids) (h6:a.List_=b.List_) (h7:a.Ops=b.Ops):a=b:=by
 obtain ⟨_,_,_,_,_,_,_⟩:=a
 obtain ⟨_,_,_,_,_,_,_⟩:=b
 simp only at h1 h2 h3 h4 h5 h6 h7
 subst h1 h2 h3 h4 h5 h6 h7
 rfl
theorem Ybw {a b:Zt} (h1:a.Kind=b.Kind) (h2:a.N=b.N) (h3:a.L=b.L) (h4:a.E=b.E):a=b:=by
 obtain ⟨_,_,_,_⟩:=a
 obtain ⟨_,_,_,_⟩:=b
 simp only at h1 h2 h3 h4
 subst h1 h2 h3 h4
 rfl
def E0:Ed:=⟨0,⟨0,[],[]⟩,⟨0,[],[]⟩,[],[],0,[]⟩
theorem Z8j {e:Ed} (h:Zde e=true):e=E0:=by
 unfold Zde Zjt Ziq Zg6 at h
 simp only [Bool.and_eq_true,beq_iff_eq,List.length_eq_zero_iff] at h
 obtain ⟨h1,⟨h2,h3⟩,⟨h4,h5⟩,h6,h7⟩:=h
 exact Z2e h1 (Zpd h2) (Zpd h3) h4 h5 h6 h7
theorem Yet {a b:Int} (h0:0≤a) (h1:a < 256) (h2:0≤b) (h3:b < 281474976710656):IntKind.i64.wrap (IntKind.u64.wrap (Qj .u64 (a+256 * b) 255))=a:=by
 obtain ⟨x,rfl⟩:=Int.eq_ofNat_of_zero_le h0
 obtain ⟨y,rfl⟩:=Int.eq_ofNat_of_zero_le h2
 have h:=Z60 (x+256 * y) 8 (by omega) (by decide)
 have e:IntKind.u64.wrap (IntKind.u64.wrap (1 * 2 ^ min (Int.toNat ((8:Nat):Int)) 64) - 1)=255:=by decide
 have c:((x+256 * y:Nat):Int)=(x:Int)+256 * (y:Int):=by omega
 have m:(x+256 * y) % 2 ^ 8=x:=by omega
 rw [e,c,m] at h
 rw [h,K0 (by omega) (by omega)]
theorem Yhs {a b:Int} (h0:0≤a) (h1:a < 4294967296) (h2:0≤b) (h3:b < 4294967296):IntKind.i64.wrap (IntKind.u64.wrap (Qj .u64 (a+4294967296 * b) 4294967295))=a:=by
 obtain ⟨x,rfl⟩:=Int.eq_ofNat_of_zero_le h0
 obtain ⟨y,rfl⟩:=Int.eq_ofNat_of_zero_le h2
 have h:=Z60 (x+4294967296 * y) 32 (by omega) (by decide)
 have e:IntKind.u64.wrap (IntKind.u64.wrap (1 * 2 ^ min (Int.toNat ((32:Nat):Int)) 64) - 1)=4294967295:=by decide
 have c:((x+4294967296 * y:Nat):Int)=(x:Int)+4294967296 * (y:Int):=by omega
 have m:(x+4294967296 * y) % 2 ^ 32=x:=by omega
 rw [e,c,m] at h
 rw [h,K0 (by omega) (by omega)]
theorem Yjy {a b:Int} (h0:0≤a) (h1:a < 256) (h2:0≤b) (h3:b < 281474976710656):Int.fdiv (a+256 * b) (2 ^ min (Int.toNat 8) 64)=b:=by
 have e:(2:Int) ^ min (Int.toNat 8) 64=256:=by decide
 rw [e,Int.fdiv_eq_ediv_of_nonneg _ (by omega)]
 omega
theorem Yjx {a b:Int} (h0:0≤a) (h1:a < 4294967296) (h2:0≤b) (h3:b < 4294967296):Int.fdiv (a+4294967296 * b) (2 ^ min (Int.toNat 32) 64)=b:=by
 have e:(2:Int) ^ min (Int.toNat 32) 64=4294967296:=by decide
 rw [e,Int.fdiv_eq_ediv_of_nonneg _ (by omega)]
 omega
theorem u8e {x:Int} (h:0≤x∧x < 256):IntKind.u8.wrap x=x:=IntWalk.u8_in x (by omega)
theorem Z02 (l:List Tr):(Zpt l).Kids=l:=by
 cases l with
 | nil=>rfl
 | cons x l=>rfl
theorem Zyu {ws:List Zz} {t:Tr} (ht:t.Kids=ws.map wT) (hl:ws.length≤1048576) (h:∀ w∈ws,(0≤w.At∧w.At≤65534)∧(0≤w.Mask∧w.Mask < 256)):Zai t=some ws:=by
 have len:t.Kids.length=ws.length:=by rw [ht,List.length_map]
 unfold Zai
 rw [Zxw ws id (Gw t) [] (by omega) (fun i x out hi hx hm ho=>by
  obtain ⟨h1,h2⟩:=h x hm
  rw [List.length_nil] at ho
  have gx:Xp t.Kids (i:Int)=some (wT x):=Y8 (by rw [ht,List.getElem?_map,hx];rfl)
  have ev:IntKind.u64.wrap (IntKind.u64.wrap x.At+IntKind.u64.wrap (4294967296 * IntKind.u64.wrap x.Mask))=x.At+4294967296 * x.Mask:=by
   rw [Zz1 (x:=x.At) (by omega),Zz1 (x:=x.Mask) (by omega),Zz1 (x:=4294967296 * x.Mask) (by omega),Zz1 (by omega)]
  unfold Gw
  simp only
  rw [len,Zcf hi,cond_true,gx,Option.bind_some,show Jo (wT x) 0=some (x.At+4294967296 * x.Mask) from congrArg some ev,Option.bind_some,show Jo (wT x) 1=some x.Old from rfl,Option.bind_some,show Jo (wT x) 2=some x.New from rfl,Option.bind_some,Zfs (by rw [List.length_singleton];omega) (by rw [List.length_singleton];omega),Option.bind_some,Yhs (by omega) (by omega) (by omega) (by omega),Yjx (by omega) (by omega) (by omega) (by omega),u8e h2]
  rfl) (fun out=>by
  unfold Gw
  simp only
  rw [len,Zce,cond_false]),Option.bind_some,List.nil_append,List.map_id]
theorem Ye1 {l:Int} {o:Zt} {r:Bool} (h:okO l o r=true):(o.Kind=0→o.L=[]∧o.E=E0)∧(o.Kind=1∨o.Kind=2→o.N=0∧o.E=E0)∧(o.Kind=3→o.N=0∧o.L=[]):=by
 unfold okO at h
 by_cases k0:o.Kind=0
 ·rw [if_pos k0] at h
  simp only [Bool.and_eq_true,decide_eq_true_eq,beq_iff_eq,List.length_eq_zero_iff] at h
  exact ⟨fun _=>⟨h.2.1,Z8j h.2.2⟩,fun k=>by omega,fun k=>by omega⟩
 rw [if_neg k0] at h
 by_cases k1:o.Kind=1∨o.Kind=2
 ·rw [if_pos k1] at h
  simp only [Bool.and_eq_true,beq_iff_eq] at h
  exact ⟨fun k=>absurd k k0,fun _=>⟨h.1,Z8j h.2.2.2⟩,fun k=>by omega⟩
 rw [if_neg k1] at h
 by_cases k3:o.Kind=3
 ·rw [if_pos k3] at h
  simp only [Bool.and_eq_true,beq_iff_eq,List.length_eq_zero_iff] at h
  exact ⟨fun k=>absurd k k0,fun k=>absurd k k1,fun _=>⟨h.1,h.2.1⟩⟩
 rw [if_neg k3] at h
 cases h
theorem Z8n (t:Tr):(⟨t.Kind,t.Words,t.Kids⟩:Tr)=t:=by cases t;rfl
theorem Ygs (k:Zl):(⟨k.At,k.E⟩:Zl)=k:=by cases k;rfl
theorem Z3l:∀ (k:Nat) (e:Ed) (d:Nat),BE e→GN e→rE e d=true→2 * SizeOf.sizeOf e < k→(Yg k).1 (TE e)=some e
 | 0,_,_,_,_,_,h=>by omega
 | 1,e,_,_,_,_,h=>by
  have:0 < SizeOf.sizeOf e:=by
   obtain ⟨a,b,c,d,f,g,i⟩:=e
   simp only [Zf.mk.sizeOf_spec]
   omega
  omega
 | k+2,e,d,hb,hg,hr,hk=>by
  have gk:=hg.k
  have go:=hg.o
  have gw:=hg.w
  show Zef (Yg (k+1)).1 (Yg (k+1)).2.1 (Yg (k+1)).2.2 (TE e)=_
  unfold Zef
  rw [Zri] at hr
  by_cases hd:d=0
  ·rw [if_pos hd] at hr;cases hr
  rw [if_neg hd] at hr
  by_cases h0:e.Kind=0
  ·rw [if_pos h0] at hr
   rw [Zq4,if_pos h0]
   exact congrArg some (Z8j hr).symm
  rw [if_neg h0] at hr
  have wd:∀ ks:List Tr,Jo ⟨1,[hdE e],ks⟩ 0=some (hdE e):=fun _=>rfl
  have kd0:∀ (ws:List Int) (a:Tr),Jr ⟨1,ws,[a]⟩ 0=some a:=fun _ _=>rfl
  have kd1:∀ (ws:List Int) (a b:Tr),Jr ⟨1,ws,[a,b]⟩ 0=some a:=fun _ _ _=>rfl
  have kd2:∀ (ws:List Int) (a b:Tr),Jr ⟨1,ws,[a,b]⟩ 1=some b:=fun _ _ _=>rfl
  have n0:((1:Int) == 0)=false:=rfl
  by_cases h1:e.Kind=1
  ·rw [if_pos h1] at hr
   simp only [Bool.and_eq_true] at hr
   obtain ⟨⟨hwk,hlo⟩,_⟩:=hr
   unfold Ziq at hwk
   unfold Zg6 at hlo
   simp only [Bool.and_eq_true,beq_iff_eq,List.length_eq_zero_iff] at hwk hlo
   have lw:IntKind.i64.wrap (IntKind.u64.wrap (Qj .u64 (hdE e) 255))=e.Kind:=by rw [Zu7 (by omega) (by omega)];exact Yet (by omega) (by omega) (by omega) (by omega)
   rw [Zq4,if_neg h0,if_pos h1]
   simp only
   rw [n0,cond_false,wd,Option.bind_some,lw,show (e.Kind == 1)=true from by rw [h1];rfl,cond_true,kd1,Option.bind_some,kd2,Option.bind_some,Option.bind_some]
   exact congrArg some (Z2e rfl (Z8n _) (Z8n _) hwk.1.symm hwk.2.symm hlo.1.symm hlo.2.symm)
  rw [if_neg h1] at hr
  by_cases h2:e.Kind=2
  ·rw [if_pos h2] at hr
   simp only [Bool.and_eq_true] at hr
   obtain ⟨⟨hn,hlo⟩,hw,hkd⟩:=hr
   unfold Zjt at hn
   unfold Zg6 at hlo
   simp only [Bool.and_eq_true,beq_iff_eq,List.length_eq_zero_iff] at hn hlo
   have lw:IntKind.i64.wrap (IntKind.u64.wrap (Qj .u64 (hdE e) 255))=e.Kind:=by rw [Zu7 (by omega) (by omega)];exact Yet (by omega) (by omega) (by omega) (by omega)
   have hwr:=Zma Zx1 _ _ hw
   have hkr:=Zma (ok:=okK (d - 1)) (pl:=fun x:Zl=>x.At) (fun p x hx=>by
    unfold okK okP at hx
    simp only [Bool.and_eq_true,Bool.not_eq_true',Bool.or_eq_false_iff,decide_eq_false_iff_not] at hx
    omega) _ _ hkd
   have hkm:=Znz (Q:=fun x:Zl=>x.E.Kind≠0∧rE x.E (d - 1)=true) (fun p x hx=>by
    unfold okK okP at hx
    simp only [Bool.and_eq_true,bne_iff_ne] at hx
    exact hx.2) _ _ hkd
   have hkids:(Yg (k+1)).2.1 (Zpt (e.Kids.map fun k=>kT k (TE k.E)))=some e.Kids:=by
    have ht:=Z02 (e.Kids.map fun k=>kT k (TE k.E))
    generalize Zpt (e.Kids.map fun k=>kT k (TE k.E))=t at ht
    have len:t.Kids.length=e.Kids.length:=by rw [ht,List.length_map]
    show Uy (Yg k).1 (Yg k).2.1 (Yg k).2.2 t=_
    unfold Uy
    rw [Zxw e.Kids id (Zaz (Yg k).1 t) [] (by omega) (fun i x out hi hx hm ho=>by
     have hat:=hkr.1 x hm
     rw [List.length_nil] at ho
     have gx:Xp t.Kids (i:Int)=some (kT x (TE x.E)):=Y8 (by rw [ht,List.getElem?_map,hx];rfl)
     have ev:IntKind.u64.wrap x.At=x.At+4294967296 * 0:=by rw [Zz1 (by omega)];omega
     unfold Zaz
     simp only
     rw [len,Zcf hi,cond_true,gx,Option.bind_some,show Jo (kT x (TE x.E)) 0=some (x.At+4294967296 * 0) from congrArg some ev,Option.bind_some,show Jr (kT x (TE x.E)) 0=some (TE x.E) from rfl,Option.bind_some,Z3l k x.E (d - 1) (hb.ks x hm) (hg.ks x hm) (hkm x hm).2 (by have:=Vn hm;omega),Option.bind_some,Zfs (by rw [List.length_singleton];omega) (by rw [List.length_singleton];omega),Option.bind_some,Yhs (by omega) (by omega) (by omega) (by omega)]
     exact congrArg (fun y=>some (Sum.inl (IntKind.i64.wrap ((i:Int)+1),out++[y]))) (Ygs x)) (fun out=>by
     unfold Zaz
     simp only
     rw [len,Zce,cond_false]),Option.bind_some,List.nil_append,List.map_id]
   rw [Zq4,if_neg h0,if_neg h1,if_pos h2]
   simp only
   rw [n0,cond_false,wd,Option.bind_some,lw,beq_eq_false_iff_ne.2 h1,cond_false,show (e.Kind == 2)=true from by rw [h2];rfl,cond_true,kd1,Option.bind_some,Zyu (Z02 _) gw (fun w hw'=>by
    have a1:=hwr.1 w hw'
    have a3:=(hb.ws w hw').1
    omega),Option.bind_some,kd2,Option.bind_some,hkids,Option.bind_some,Option.bind_some]
   exact congrArg some (Z2e rfl (Zpd hn.1).symm (Zpd hn.2).symm rfl rfl hlo.1.symm hlo.2.symm)
  rw [if_neg h2] at hr
  by_cases h3:e.Kind=3
  ·rw [if_pos h3] at hr
   simp only [Bool.and_eq_true,decide_eq_true_eq,List.all_eq_true] at hr
   obtain ⟨⟨hn,hwk⟩,⟨l2,l9⟩,hops,_⟩:=hr
   unfold Zjt at hn
   unfold Ziq at hwk
   simp only [Bool.and_eq_true,beq_iff_eq,List.length_eq_zero_iff] at hn hwk
   have hv:=Zu7 (e:=e) (by omega) (by omega)
   have lw:IntKind.i64.wrap (IntKind.u64.wrap (Qj .u64 (hdE e) 255))=e.Kind:=by rw [hv];exact Yet (by omega) (by omega) (by omega) (by omega)
   have ll:IntKind.i64.wrap (IntKind.u64.wrap (Qj .u64 (Int.fdiv (hdE e) (2 ^ min (Int.toNat 8) 64)) 255))=e.List_:=by
    rw [hv,Yjy (by omega) (by omega) (by omega) (by omega)]
    have:=Yet (a:=e.List_) (b:=0) (by omega) (by omega) (by omega) (by omega)
    rw [show e.List_+256 * 0=e.List_ by omega] at this
    exact this
   have hopt:(Yg (k+1)).2.2 (Zpt (e.Ops.map fun o=>opT e.List_ o (TE o.E)))=some e.Ops:=by
    have ht:=Z02 (e.Ops.map fun o=>opT e.List_ o (TE o.E))
    generalize Zpt (e.Ops.map fun o=>opT e.List_ o (TE o.E))=t at ht
    have len:t.Kids.length=e.Ops.length:=by rw [ht,List.length_map]
    show Zev (Yg k).1 (Yg k).2.1 (Yg k).2.2 t=_
    unfold Zev
    rw [Zxw e.Ops id (Zby (Yg k).1 t) [] (by omega) (fun i x out hi hx hm ho=>by
     obtain ⟨k1,k2,k3⟩:=Yhv (hops x hm)
     obtain ⟨r0,r1,r3⟩:=Ye1 (hops x hm)
     have ev:hdO x=x.Kind+256 * x.N:=by
      unfold hdO
      rw [K0 (x:=256 * x.N) (by omega) (by omega),K0 (by omega) (by omega),Zz1 (by omega)]
     have lo:IntKind.i64.wrap (IntKind.u64.wrap (Qj .u64 (hdO x) 255))=x.Kind:=by rw [ev];exact Yet (by omega) (by omega) (by omega) (by omega)
     have ln:IntKind.i64.wrap (Int.fdiv (hdO x) (2 ^ min (Int.toNat 8) 64))=x.N:=by rw [ev,Yjy (by omega) (by omega) (by omega) (by omega),K0 (by omega) (by omega)]
     rw [List.length_nil] at ho
     have gx:Xp t.Kids (i:Int)=some (opT e.List_ x (TE x.E)):=Y8 (by rw [ht,List.getElem?_map,hx];rfl)
     have wo:Jo (opT e.List_ x (TE x.E)) 0=some (hdO x):=rfl
     unfold Zby
     simp only
     rw [len,Zcf hi,cond_true,gx,Option.bind_some,wo,Option.bind_some,lo,ln]
     by_cases q0:x.Kind=0
     ·rw [show (x.Kind == 0)=true from by rw [q0];rfl,cond_true,Option.bind_some,Zfs (by rw [List.length_singleton];omega) (by rw [List.length_singleton];omega),Option.bind_some]
      exact congrArg (fun y=>some (Sum.inl (IntKind.i64.wrap ((i:Int)+1),out++[y]))) (Ybw rfl rfl (r0 q0).1.symm (r0 q0).2.symm)
     rw [beq_eq_false_iff_ne.2 q0,cond_false]
     by_cases q3:x.Kind=3
     ·have kx:Jr (opT e.List_ x (TE x.E)) 0=some (TE x.E):=by
       unfold opT
       rw [if_pos q3]
       rfl
      rw [beq_eq_false_iff_ne.2 (by omega:¬ x.Kind=1),cond_false,Option.bind_some]
      simp only
      rw [beq_eq_false_iff_ne.2 (by omega:¬ x.Kind=2),cond_false,show (x.Kind == 3)=true from by rw [q3];rfl,cond_true,kx,Option.bind_some,Z3l k x.E (d - 1) (hb.os x hm) (hg.os x hm) (k3 q3) (by have:=Zbi hm;omega),Option.bind_some,Option.bind_some,Zfs (by rw [List.length_singleton];omega) (by rw [List.length_singleton];omega),Option.bind_some]
      exact congrArg (fun y=>some (Sum.inl (IntKind.i64.wrap ((i:Int)+1),out++[y]))) (Ybw rfl (r3 q3).1.symm (r3 q3).2.symm (Z2e rfl (Z8n _) (Z8n _) rfl rfl rfl rfl))
     ·have q12:x.Kind=1∨x.Kind=2:=by omega
      have kx:Jr (opT e.List_ x (TE x.E)) 0=some ⟨e.List_,[],x.L⟩:=by
       unfold opT
       rw [if_neg q3,if_pos (by omega)]
       rfl
      have fin:(some (Sum.inl (IntKind.i64.wrap ((i:Int)+1),out++[(⟨x.Kind,0,x.L,⟨0,⟨0,[],[]⟩,⟨0,[],[]⟩,[],[],0,[]⟩⟩:Zt)])):Option ((Int×List Zt) ⊕ List Zt))=some (Sum.inl (IntKind.i64.wrap ((i:Int)+1),out++[id x])) :=
       congrArg (fun y=>some (Sum.inl (IntKind.i64.wrap ((i:Int)+1),out++[y]))) (Ybw rfl (r1 q12).1.symm rfl (r1 q12).2.symm)
      rcases q12 with q1 | q2
      ·rw [show (x.Kind == 1)=true from by rw [q1];rfl,cond_true,Option.bind_some]
       simp only
       rw [cond_true,kx,Option.bind_some,Option.bind_some,Zfs (by rw [List.length_singleton];omega) (by rw [List.length_singleton];omega),Option.bind_some]
       exact fin
      rw [beq_eq_false_iff_ne.2 (by omega:¬ x.Kind=1),cond_false,Option.bind_some]
      simp only
      rw [show (x.Kind == 2)=true from by rw [q2];rfl,cond_true,kx,Option.bind_some,Option.bind_some,Zfs (by rw [List.length_singleton];omega) (by rw [List.length_singleton];omega),Option.bind_some]
      exact fin) (fun out=>by
     unfold Zby
     simp only
     rw [len,Zce,cond_false]),Option.bind_some,List.nil_append,List.map_id]
   rw [Zq4,if_neg h0,if_neg h1,if_neg h2]
   simp only
   rw [n0,cond_false,wd,Option.bind_some,lw,beq_eq_false_iff_ne.2 h1,cond_false,beq_eq_false_iff_ne.2 h2,cond_false,show (e.Kind == 3)=true from by rw [h3];rfl,cond_true,kd0,Option.bind_some,hopt,Option.bind_some,ll,Option.bind_some]
   exact congrArg some (Z2e rfl (Zpd hn.1).symm (Zpd hn.2).symm hwk.1.symm hwk.2.symm rfl rfl)
  rw [if_neg h3] at hr;cases hr
theorem Yfg {e:Ed} {d:Nat} (hb:BE e) (hg:GN e) (hr:rE e d=true):Zlt (TE e)=some e:=Zb2 (2 * SizeOf.sizeOf e+1) fun k hk=>Z3l k e d hb hg hr (by omega)
def Zeg {α:Type} (q:α→α→Bool):List α→List α→Bool
 | [],[]=>true
 | x::xs,y::ys=>q x y && Zeg q xs ys
 | _,_=>false
theorem Zr3 {α:Type} {q:α→α→Bool}:∀ {xs ys:List α},xs.length≠ys.length→Zeg q xs ys=false
 | [],[],h=>absurd rfl h
 | [],_::_,_=>rfl
 | _::_,[],_=>rfl
 | x::xs,y::ys,h=>by rw [Zeg,Zr3 (xs:=xs) (ys:=ys) (fun e=>h (by simp [e])),Bool.and_false]
theorem Z80 {α:Type} {q:α→α→Bool}:∀ {xs ys:List α},xs.length=ys.length→Zeg q xs ys=(xs.zip ys).all fun p=>q p.1 p.2
 | [],[],_=>rfl
 | [],_::_,h=>by simp at h
 | _::_,[],h=>by simp at h
 | x::xs,y::ys,h=>by rw [Zeg,List.zip_cons_cons,List.all_cons,Z80 (xs:=xs) (ys:=ys) (by simpa using h)]
theorem Zmb {α:Type} {q q':α→α→Bool}:∀ {xs ys:List α},(∀ x∈xs,∀ y,q x y=q' x y)→Zeg q xs ys=Zeg q' xs ys
 | [],[],_=>rfl
 | [],_::_,_=>rfl
 | _::_,[],_=>rfl
 | x::xs,y::ys,h=>by rw [Zeg,Zeg,h x (.head _) y,Zmb (xs:=xs) (ys:=ys) fun z hz=>h z (.tail _ hz)]
theorem Zo2 {α:Type} {q:α→α→Bool}:∀ {xs:List α},(∀ x∈xs,q x x=true)→Zeg q xs xs=true
 | [],_=>rfl
 | x::xs,h=>by rw [Zeg,h x (.head _),Zo2 (xs:=xs) fun z hz=>h z (.tail _ hz)];rfl
theorem Zxx {α R:Type} (xs ys:List α) (q:α→α→Bool) (step:Int→Option (Int ⊕ R)) (e o:R) (hl:(xs.length:Int)≤140737488355328) (hlen:xs.length=ys.length)
  (h1:∀ (i:Nat) (x y:α),i < xs.length→xs[i]? = some x→ys[i]? = some y→x∈xs→y∈ys→step i=some (if q x y=true then .inl (IntKind.i64.wrap ((i:Int)+1)) else .inr e)) (h2:step xs.length=some (.inr o)):Z4 step 0=some (if Zeg q xs ys=true then o else e):=by
 have hz:(xs.zip ys).length=xs.length:=by rw [List.length_zip];omega
 rw [Z80 hlen]
 refine Zhl (xs.zip ys) step (fun p=>q p.1 p.2) e o (by rw [hz];exact hl) (fun i p hi hp hm => ?_) (by rw [hz];exact h2)
 rw [hz] at hi
 have e1:xs[i]? = some xs[i]:=List.getElem?_eq_getElem hi
 have hi2:i < ys.length:=by omega
 have e2:ys[i]? = some ys[i]:=List.getElem?_eq_getElem hi2
 have e3:p=(xs[i],ys[i]):=by
  rw [List.getElem?_eq_getElem (by rw [hz];exact hi),List.getElem_zip] at hp
  exact (Option.some.inj hp).symm
 rw [h1 i _ _ hi e1 e2 (List.getElem_mem hi) (List.getElem_mem hi2),e3]
def wEq (x y:Zz):Bool:=(x.At == y.At) && ((x.Mask == y.Mask) && ((x.Old == y.Old) && (x.New == y.New)))
def Z1n (t u:Tr):Bool:=eqT (nrm t) (nrm u)
def kEq (q:Ed→Ed→Bool) (x y:Zl):Bool:=x.At == y.At && q x.E y.E
def oEq (q:Ed→Ed→Bool) (x y:Zt):Bool:=x.Kind == y.Kind && (x.N == y.N && (Zeg Z1n x.L y.L && q x.E y.E))
def eqF:Nat→Ed→Ed→Bool
 | 0,_,_=>false
 | k+1,a,b=>a.Kind == b.Kind && (a.List_ == b.List_ && (Z1n a.Old b.Old && (Z1n a.New b.New && (Zeg wEq a.Words b.Words && (Zeg (kEq (eqF k)) a.Kids b.Kids && Zeg (oEq (eqF k)) a.Ops b.Ops)))))
theorem Zwx:∀ (k k':Nat) (a b:Ed),SizeOf.sizeOf a < k→SizeOf.sizeOf a < k'→eqF k a b=eqF k' a b
 | 0,_,a,_,h,_=>by omega
 | k+1,0,a,_,_,h=>by omega
 | k+1,k'+1,a,b,h,h'=>by
  have h1:Zeg (kEq (eqF k)) a.Kids b.Kids=Zeg (kEq (eqF k')) a.Kids b.Kids:=Zmb fun x hx y=>by
   unfold kEq
   rw [Zwx k k' x.E y.E (by have:=Vn hx;omega) (by have:=Vn hx;omega)]
  have h2:Zeg (oEq (eqF k)) a.Ops b.Ops=Zeg (oEq (eqF k')) a.Ops b.Ops:=Zmb fun x hx y=>by
   unfold oEq
   rw [Zwx k k' x.E y.E (by have:=Zbi hx;omega) (by have:=Zbi hx;omega)]
  rw [eqF,eqF,h1,h2]
noncomputable def eqE (a b:Ed):Bool:=eqF (SizeOf.sizeOf a+1) a b
theorem Yia (a b:Ed):eqE a b=(a.Kind == b.Kind && (a.List_ == b.List_ && (Z1n a.Old b.Old && (Z1n a.New b.New && (Zeg wEq a.Words b.Words && (Zeg (kEq eqE) a.Kids b.Kids && Zeg (oEq eqE) a.Ops b.Ops)))))):=by
 have h1:Zeg (kEq (eqF (SizeOf.sizeOf a))) a.Kids b.Kids=Zeg (kEq eqE) a.Kids b.Kids:=Zmb fun x hx y=>by
  unfold kEq eqE
  rw [Zwx (SizeOf.sizeOf a) (SizeOf.sizeOf x.E+1) x.E y.E (by have:=Vn hx;omega) (by omega)]
 have h2:Zeg (oEq (eqF (SizeOf.sizeOf a))) a.Ops b.Ops=Zeg (oEq eqE) a.Ops b.Ops:=Zmb fun x hx y=>by
  unfold oEq eqE
  rw [Zwx (SizeOf.sizeOf a) (SizeOf.sizeOf x.E+1) x.E y.E (by have:=Zbi hx;omega) (by omega)]
 rw [← h1,← h2]
 rfl
theorem Z2g:∀ (k:Nat) (a:Ed),SizeOf.sizeOf a < k→eqF k a a=true
 | 0,a,h=>by omega
 | k+1,a,h=>by
  have ht:∀ t,Z1n t t=true:=fun t=>Zwy _
  rw [eqF,beq_iff_eq.2 rfl,beq_iff_eq.2 rfl,ht,ht,Zo2 (fun x _=>by unfold wEq;simp),Zo2 (fun x hx=>by unfold kEq;rw [Z2g k x.E (by have:=Vn hx;omega)];simp),Zo2 (fun x hx=>by unfold oEq;rw [Z2g k x.E (by have:=Zbi hx;omega),Zo2 fun t _=>ht t];simp)]
  rfl
theorem Z72 {a b:Nat}:((a:Int) != (b:Int)) = !(a == b):=Z2t
theorem Z8i {a b:List Tr} (ha:a.length * 56≤140737488355328∧∀ t∈a,Bd t) (hb:∀ t∈b,Bd t):Vz a b=some (Zeg Z1n a b):=by
 unfold Vz
 rw [Z72]
 by_cases hl:a.length=b.length
 ·rw [Zxx a b Z1n (J5 a b) (.inl ()) (.inr ()) (by have:=ha.1;omega) hl (fun i x y hi hx hy hm hm2=>by
   unfold J5
   rw [Zcf hi,cond_true,Y8 hx,Option.bind_some,Y8 hy,Option.bind_some,Z01 (ha.2 x hm) (hb y hm2),Option.bind_some]
   show cond (!(Z1n x y)) _ _=_
   cases Z1n x y <;> rfl) (by unfold J5;rw [Zce];rfl),hl,beq_self_eq_true]
  cases Zeg Z1n a b <;> rfl
 rw [Zr3 hl,beq_eq_false_iff_ne.2 hl]
 rfl
theorem Z3o:∀ (k:Nat) (a b:Ed),BE a→BE b→SizeOf.sizeOf a < k→J9 k a b=some (eqE a b)
 | 0,a,_,_,_,h=>by omega
 | k+1,a,b,ha,hb,hk=>by
  show Zbs (J9 k) a b=_
  unfold Zbs
  rw [Yia,Z01 ha.old hb.old,Z01 ha.new hb.new,Z72,Z72,Z72]
  simp only [Option.bind_some]
  unfold bne
  show _=some ((a.Kind == b.Kind) && ((a.List_ == b.List_) && (eqT (nrm a.Old) (nrm b.Old) && (eqT (nrm a.New) (nrm b.New) && (Zeg wEq a.Words b.Words && (Zeg (kEq eqE) a.Kids b.Kids && Zeg (oEq eqE) a.Ops b.Ops))))))
  cases (a.Kind == b.Kind) with
  | false=>rfl
  | true =>
  cases (a.List_ == b.List_) with
  | false=>rfl
  | true =>
  cases eqT (nrm a.Old) (nrm b.Old) with
  | false=>rfl
  | true =>
  cases eqT (nrm a.New) (nrm b.New) with
  | false=>rfl
  | true =>
  by_cases lw:a.Words.length=b.Words.length
  ·by_cases lk:a.Kids.length=b.Kids.length
   ·by_cases lo:a.Ops.length=b.Ops.length
    ·rw [Zxx a.Words b.Words wEq (Ui a b) (.inl ()) (.inr ()) ha.w lw (fun i x y hi hx hy _ _=>by
      unfold Ui
      rw [Zcf hi,cond_true,Y8 hx,Option.bind_some,Y8 hy,Option.bind_some]
      show cond (!(wEq x y)) _ _=_
      cases wEq x y <;> rfl) (by unfold Ui;rw [Zce];rfl),
      Zxx a.Kids b.Kids (kEq eqE) (Uj (J9 k) a b) (.inl ()) (.inr ()) ha.k lk (fun i x y hi hx hy hm hm2=>by
      unfold Uj kEq bne
      rw [Zcf hi,cond_true,Y8 hx,Option.bind_some,Y8 hy,Option.bind_some,Z3o k x.E y.E (ha.ks x hm) (hb.ks y hm2) (by have:=Vn hm;omega)]
      cases (x.At == y.At) <;> cases eqE x.E y.E <;> rfl) (by unfold Uj;rw [Zce];rfl),
      Zxx a.Ops b.Ops (oEq eqE) (Uk (J9 k) a b) (.inl ()) (.inr ()) ha.o lo (fun i x y hi hx hy hm hm2=>by
      unfold Uk oEq bne
      rw [Zcf hi,cond_true,Y8 hx,Option.bind_some,Y8 hy,Option.bind_some,Z3o k x.E y.E (ha.os x hm) (hb.os y hm2) (by have:=Zbi hm;omega),Z8i (ha.l x hm) (hb.l y hm2).2]
      simp only [Option.bind_some]
      cases (x.Kind == y.Kind) <;> cases (x.N == y.N) <;> cases Zeg Z1n x.L y.L <;> cases eqE x.E y.E <;> rfl) (by unfold Uk;rw [Zce];rfl),lw,lk,lo,beq_self_eq_true,beq_self_eq_true,beq_self_eq_true]
     cases Zeg wEq a.Words b.Words <;> cases Zeg (kEq eqE) a.Kids b.Kids <;> cases Zeg (oEq eqE) a.Ops b.Ops <;> rfl
    rw [Zr3 lo,beq_eq_false_iff_ne.2 lo]
    cases (a.Words.length == b.Words.length) <;> cases (a.Kids.length == b.Kids.length) <;> cases Zeg wEq a.Words b.Words <;> cases Zeg (kEq eqE) a.Kids b.Kids <;> rfl
   rw [Zr3 lk,beq_eq_false_iff_ne.2 lk]
   cases (a.Words.length == b.Words.length) <;> cases Zeg wEq a.Words b.Words <;> rfl
  rw [Zr3 lw,beq_eq_false_iff_ne.2 lw]
  rfl
theorem Yfk {a b:Ed} (ha:BE a) (hb:BE b):Zh7 a b=some (eqE a b):=Zb2 (SizeOf.sizeOf a+1) fun k hk=>Z3o k a b ha hb (by omega)
theorem bd0:Bd ⟨0,[],[]⟩ := .mk _ (by simp) (by simp) (by simp) (by simp)
def SE:Ed:=⟨2,⟨0,[],[]⟩,⟨0,[],[]⟩,[],[],0,[]⟩
theorem Yjt:rE E0 64=true:=by rw [Zri];rfl
theorem Yg2:rE SE 64=true:=by rw [Zri];rfl
theorem Yno:TE E0=⟨0,[],[]⟩:=by rw [Zq4];rfl
theorem Yhc:TE SE=⟨1,[2],[⟨0,[],[]⟩,⟨0,[],[]⟩]⟩:=by rw [Zq4];rfl
theorem Yhu:nrm ⟨1,[2],[⟨0,[],[]⟩,⟨0,[],[]⟩]⟩=⟨1,[2],[]⟩:=by simp [Zg7,tr]
theorem Yco:nrm ⟨1,[2],[]⟩=⟨1,[2],[]⟩:=by simp [Zg7,tr]
theorem Yht:nrm ⟨0,[],[]⟩=⟨0,[],[]⟩:=by simp [Zg7,tr]
theorem Yiu (d:Nat):rt ⟨0,[],[]⟩ d=true:=by rw [Zj0];rfl
theorem Ynl:rt ⟨1,[2],[⟨0,[],[]⟩,⟨0,[],[]⟩]⟩ 64=true:=by
 rw [Zj0,if_neg (by decide),if_neg (by decide),if_neg (by simp)]
 simp only [List.all_cons,List.all_nil,Yiu,Nat.reduceSub]
 rfl
theorem Yjv:rt ⟨1,[2],[]⟩ 64=true:=by
 rw [Zj0,if_neg (by decide),if_neg (by decide),if_neg (by simp)]
 rfl
theorem Ynn:sz ⟨1,[2],[]⟩=1:=by simp [Yfx]
theorem Ynm:sz ⟨0,[],[]⟩=0:=by simp [Yfx]
theorem Yja:BE E0 := .mk _ bd0 bd0 (by simp [E0]) (by simp [E0]) (by simp [E0]) (by simp [E0]) (by simp [E0]) (by simp [E0]) (by simp [E0])
theorem Yd7:BE SE := .mk _ bd0 bd0 (by simp [SE]) (by simp [SE]) (by simp [SE]) (by simp [SE]) (by simp [SE]) (by simp [SE]) (by simp [SE])
theorem Ynb:GN E0 := .mk _ (by simp [E0]) (by simp [E0]) (by simp [E0]) (by simp [E0,Zor]) (by simp [E0]) (by simp [E0]) (by simp [E0])
theorem Yid:GN SE := .mk _ (by simp [SE]) (by simp [SE]) (by simp [SE]) (by simp [SE,Zor]) (by simp [SE]) (by simp [SE]) (by simp [SE])
theorem Yoq:WS [[0]]:=by constructor <;> simp
theorem Ymt:WS [[4294967296,2]]:=by constructor <;> simp
theorem Ym5:Gq ⟨0,[],[]⟩ 1=some ([0],true):=by
 have hp:Zdh ⟨[0],1⟩ 0 ⟨0,[],[]⟩=some ⟨[0],1⟩:=Zb2 1 fun k hk=>by
  obtain ⟨j,rfl⟩:∃ j,k=j+1:=⟨k - 1,by omega⟩
  rfl
 have hs:Zga ⟨0,[],[]⟩=some 0:=by rw [Yb5 bd0 (Yiu 64),Yht,Ynm];rfl
 unfold Gq
 simp only
 rw [show ((0:Int) == 10)=false from rfl,cond_false,Zyz bd0,Yiu,Option.bind_some,Option.bind_some,show (cond false true (!true))=false from rfl,cond_false,Z12 bd0,Yht,Option.bind_some,hs,Option.bind_some,show (cond (decide ((1:Int) < IntKind.i64.wrap (1+0))) true (decide (131072 < IntKind.i64.wrap (1+0))))=false from by decide,cond_false,show Zlm 8 (IntKind.i64.wrap (1+0)) (0:Int)=some [0] from rfl,Option.bind_some,hp]
 rfl
theorem Ym7:Zdh ⟨[0,0],1⟩ 0 ⟨1,[2],[]⟩=some ⟨[4294967296,2],2⟩:=Zb2 3 fun k hk=>by
 obtain ⟨j,rfl⟩:∃ j,k=j+3:=⟨k - 3,by omega⟩
 have h3:∀ l n a,(Z3 (j+1)).2.2.1 ⟨l,n⟩ a []=some ⟨l,n⟩:=fun l n a=>by
  show Vt (Z3 j).1 (Z3 j).2.1 (Z3 j).2.2.1 (Z3 j).2.2.2 ⟨l,n⟩ a []=_
  unfold Vt
  rw [Xe (r:=(l,n)) rfl]
  rfl
 have h2:(Z3 (j+2)).2.1 ⟨[4294967296,0],2⟩ 1 ⟨1,[2],[]⟩=some ⟨[4294967296,2],2⟩:=by
  show Ug (Z3 (j+1)).1 (Z3 (j+1)).2.1 (Z3 (j+1)).2.2.1 (Z3 (j+1)).2.2.2 ⟨[4294967296,0],2⟩ 1 ⟨1,[2],[]⟩=_
  unfold Ug
  simp only
  rw [show ((1:Int) == 1)=true from rfl,cond_true,show Uc (0 < List.length ([4294967296,0]:List Int)∧(0:Int)≤1∧(1:Int)≤(List.length ([4294967296,0]:List Int):Int))=some () from rfl,Option.bind_some,h3]
  rfl
 show Zaw (Z3 (j+2)).1 (Z3 (j+2)).2.1 (Z3 (j+2)).2.2.1 (Z3 (j+2)).2.2.2 ⟨[0,0],1⟩ 0 ⟨1,[2],[]⟩=_
 unfold Zaw
 simp only
 rw [show ((1:Int) == 0)=false from rfl,cond_false,show Zkb ⟨1,[2],[]⟩=some ⟨1,0,1,0,0,0,0,false⟩ from rfl,Option.bind_some,show Ze2 ⟨1,0,1,0,0,0,0,false⟩=some (1,true) from rfl]
 simp only [Option.bind_some]
 rw [show cond (cond ((1:Int) == 1) ((1:Int) == 0) false) (some (-1:Int)) (some (IntKind.i64.wrap (IntKind.i64.wrap (1 - 0) - 1)))=some 0 from rfl,Option.bind_some,show Zjd ⟨1,0,1,0,0,0,0,false⟩=some (4294967296,true) from rfl]
 simp only [Option.bind_some]
 rw [show Xp ([0,0]:List Int) 0=some 0 from rfl,Option.bind_some,show Zlv ([0,0]:List Int) 0 4294967296=[4294967296,0] from rfl,show IntKind.i64.wrap (1+1)=2 from rfl,h2]
 rfl
theorem Yjc {t:Tr} (hb:Bd t) (hr:rt t 64=true) (hk:t.Kind=1) (hn:nrm t=⟨1,[2],[]⟩):Gq t 2=some ([4294967296,2],true):=by
 have hs:Zga ⟨1,[2],[]⟩=some 1:=by rw [Yb5 (.mk _ (by simp) (by simp) (by simp) (by simp)) Yjv,Yco,Ynn];rfl
 unfold Gq
 rw [hk,show ((1:Int) == 10)=false from rfl,cond_false,Zyz hb,hr,Option.bind_some,Option.bind_some,show (cond false true (!true))=false from rfl,cond_false,Z12 hb,hn,Option.bind_some,hs,Option.bind_some,show (cond (decide ((2:Int) < IntKind.i64.wrap (1+1))) true (decide (131072 < IntKind.i64.wrap (1+1))))=false from by decide,cond_false,show Zlm 8 (IntKind.i64.wrap (1+1)) (0:Int)=some [0,0] from rfl,Option.bind_some,Ym7]
 rfl
theorem Ynk:Zfk (some ⟨[[0]],0,0⟩)=some (⟨none,0,0,0,0,0,0,0,0⟩,0):=by rfl
theorem Yju:Zfk (some ⟨[[4294967296,2]],0,0⟩)=some (⟨some ⟨[[4294967296,2]],0,0⟩,1,0,1,1,0,0,0,0⟩,0):=by rfl
theorem vl:Zji ⟨64,65536,0,0⟩=some ⟨64,65536,0,0⟩:=by rfl
theorem Ym8:∃ w,Zcd ⟨65536⟩ ⟨none,0,0,0,0,0,0,0,0⟩ 64=some (0,⟨w⟩):=⟨_,Zb2 1 fun k hk=>by
 obtain ⟨j,rfl⟩:∃ j,k=j+1:=⟨k - 1,by omega⟩
 rfl⟩
theorem Ym9:Zcd ⟨65536⟩ ⟨some ⟨[[4294967296,2]],0,0⟩,1,0,1,1,0,0,0,0⟩ 64=some (0,⟨65534⟩):=Zb2 2 fun k hk=>by
 obtain ⟨j,rfl⟩:∃ j,k=j+2:=⟨k - 2,by omega⟩
 have h2:(Yb (j+1)).2.1 ⟨65534⟩ ⟨some ⟨[[4294967296,2]],0,0⟩,1,0,1,1,0,0,0,0⟩ 63=some (0,⟨65534⟩):=by
  show Gm (Yb j).1 (Yb j).2.1 (Yb j).2.2 ⟨65534⟩ ⟨some ⟨[[4294967296,2]],0,0⟩,1,0,1,1,0,0,0,0⟩ 63=_
  unfold Gm
  rw [show Xn ⟨some ⟨[[4294967296,2]],0,0⟩,1,0,1,1,0,0,0,0⟩=some 0 from rfl,Option.bind_some,Xe (r := .inr 65534) rfl]
  rfl
 show Un (Yb (j+1)).1 (Yb (j+1)).2.1 (Yb (j+1)).2.2 ⟨65536⟩ ⟨some ⟨[[4294967296,2]],0,0⟩,1,0,1,1,0,0,0,0⟩ 64=_
 unfold Un
 rw [show Zjj ⟨some ⟨[[4294967296,2]],0,0⟩,1,0,1,1,0,0,0,0⟩=some 1 from rfl,show Zgb ⟨some ⟨[[4294967296,2]],0,0⟩,1,0,1,1,0,0,0,0⟩=some 2 from rfl,show Qa ⟨some ⟨[[4294967296,2]],0,0⟩,1,0,1,1,0,0,0,0⟩=some 1 from rfl]
 simp only [Option.bind_some]
 rw [show (cond (decide ((64:Int) < 1)) (some true) (some (cond (decide ((64:Int) < 1)) true (decide ((65536:Int) < 2)))))=some false from by decide,Option.bind_some,cond_false,show cond ((1:Int) == 1) (some ((1:Int) == 1)) (some ((1:Int) == 8))=some true from rfl,Option.bind_some,cond_true,show IntKind.i64.wrap (65536 - 2)=65534 from rfl,show IntKind.i64.wrap (64 - 1)=63 from rfl,h2]
 rfl
theorem Ym6:∃ w,Zbj (some ⟨[[0]],0,0⟩) ⟨64,65536,0,0⟩=some (w,0):=by
 obtain ⟨w,hw⟩:=Ym8
 unfold Zbj
 rw [vl,Ynk]
 simp only [Option.bind_some]
 rw [show ((0:Int) != 0)=false from rfl,cond_false,hw]
 exact ⟨_,rfl⟩
theorem Yjd:∃ w,Zbj (some ⟨[[4294967296,2]],0,0⟩) ⟨64,65536,0,0⟩=some (w,0):=by
 unfold Zbj
 rw [vl,Yju]
 simp only [Option.bind_some]
 rw [show ((0:Int) != 0)=false from rfl,cond_false,Ym9]
 exact ⟨_,rfl⟩
theorem Yop:∃ w,Zd2 ⟨65536⟩ ⟨some ⟨[[4294967296,2]],0,0⟩,1,0,1,1,0,0,0,0⟩ 64=some (⟨1,[2],[]⟩,0,w):=⟨⟨65534⟩,Zb2 1 fun k hk=>by
 obtain ⟨j,rfl⟩:∃ j,k=j+1:=⟨k - 1,by omega⟩
 show Vc (Gb j) ⟨65536⟩ ⟨some ⟨[[4294967296,2]],0,0⟩,1,0,1,1,0,0,0,0⟩ 64=_
 unfold Vc
 rw [show Zhy ⟨some ⟨[[4294967296,2]],0,0⟩,1,0,1,1,0,0,0,0⟩=some 2 from rfl,show Qa ⟨some ⟨[[4294967296,2]],0,0⟩,1,0,1,1,0,0,0,0⟩=some 1 from rfl,show K9 ⟨some ⟨[[4294967296,2]],0,0⟩,1,0,1,1,0,0,0,0⟩=some 1 from rfl,show Xn ⟨some ⟨[[4294967296,2]],0,0⟩,1,0,1,1,0,0,0,0⟩=some 0 from rfl]
 simp only [Option.bind_some]
 rw [show (cond (decide (IntKind.i64.wrap (65536 - 2) < 0)) (some true) (cond ((64:Int) == 0) ((Zjh ⟨some ⟨[[4294967296,2]],0,0⟩,1,0,1,1,0,0,0,0⟩).bind fun y6=>some (cond (decide (IntKind.i64.wrap (65536 - 2) < 0)) true (cond ((64:Int) == 0) y6 false))) (some (cond (decide (IntKind.i64.wrap (65536 - 2) < 0)) true false))))=some false from rfl,Option.bind_some,cond_false,Qh (s':=(1,[2])) rfl,Xe (r:=[2]) rfl,Option.bind_some,Xe (r := .inr ([],65534)) rfl]
 rfl⟩
theorem Yoo:Zd1 (some ⟨[[4294967296,2]],0,0⟩) ⟨64,65536,0,0⟩=some (⟨1,[2],[]⟩,0):=by
 obtain ⟨w,hw⟩:=Yjd
 obtain ⟨u,hu⟩:=Yop
 unfold Zd1 Zjg
 rw [hw,Yju]
 simp only [Option.bind_some]
 rw [show ((0:Int) != 0)=false from rfl,cond_false,cond_false,hu,Option.bind_some,Option.bind_some]
 simp only
 rw [Z12 (.mk _ (by simp) (by simp) (by simp) (by simp)),Yco]
 rfl
theorem Yfs (l:List Int) (h:(l.length:Int)≤140737488355328):Kg l l=some true:=by rw [Z93 h,beq_self_eq_true]
theorem Yiq:Gv E0 1=some ([0],true):=by
 have hl:Zb5=some (⟨64,65536,0,0⟩:X4):=rfl
 obtain ⟨w,hw⟩:=Ym6
 unfold Gv
 rw [Zu5 Yja,Yjt,Option.bind_some,Bool.not_true,cond_false,Zs0 Yja Ynb Yjt,Yno,Option.bind_some,Ym5,Option.bind_some]
 simp only
 rw [Bool.not_true,cond_false,Ybc Yoq,Option.bind_some,hl,Option.bind_some,hw]
 rfl
theorem Yi8:Bd (TE SE):=Yax _ SE (Nat.lt_succ_self _) Yd7 Yid
theorem Yi9:Bd ⟨1,[2],[]⟩ := .mk _ (by simp) (by simp) (by simp) (by simp)
theorem Yir:Gv SE 2=some ([4294967296,2],true):=by
 have hl:Zb5=some (⟨64,65536,0,0⟩:X4):=rfl
 have hb:=Yi8
 obtain ⟨w,hw⟩:=Yjd
 unfold Gv
 rw [Yhc] at hb
 rw [Zu5 Yd7,Yg2,Option.bind_some,Bool.not_true,cond_false,Zs0 Yd7 Yid Yg2,Yhc,Option.bind_some,Yjc hb Ynl rfl Yhu,Option.bind_some]
 simp only
 rw [Bool.not_true,cond_false,Ybc Ymt,Option.bind_some,hl,Option.bind_some,hw]
 rfl
theorem Yg0:Zlt ⟨1,[2],[]⟩=some SE:=Zb2 2 fun k hk=>by
 obtain ⟨k,rfl⟩:∃ j,k=j+2:=⟨k - 2,by omega⟩
 have h1:Zai ⟨0,[],[]⟩=some []:=Zyu (ws:=[]) rfl (by simp) (by simp)
 have h2:(Yg (k+1)).2.1 ⟨0,[],[]⟩=some []:=by
  show Uy (Yg k).1 (Yg k).2.1 (Yg k).2.2 ⟨0,[],[]⟩=_
  unfold Uy
  rw [Xe (r:=([]:List Zl)) rfl]
  rfl
 show Zef (Yg (k+1)).1 (Yg (k+1)).2.1 (Yg (k+1)).2.2 ⟨1,[2],[]⟩=_
 unfold Zef
 have lw:IntKind.i64.wrap (IntKind.u64.wrap (Qj .u64 2 255))=2:=by decide
 have n0:((1:Int) == 0)=false:=rfl
 simp only
 rw [n0,cond_false,show Jo ⟨1,[2],[]⟩ 0=some 2 from rfl,Option.bind_some,lw,show ((2:Int) == 1)=false from rfl,cond_false,show ((2:Int) == 2)=true from rfl,cond_true,show Jr ⟨1,[2],[]⟩ 0=some ⟨0,[],[]⟩ from rfl,Option.bind_some,h1,Option.bind_some,show Jr ⟨1,[2],[]⟩ 1=some ⟨0,[],[]⟩ from rfl,Option.bind_some,h2]
 rfl
theorem Yip:Zf7 [4294967296,2]=some (SE,0):=by
 have hl:Zb5=some (⟨64,65536,0,0⟩:X4):=rfl
 have hb:=Yi8
 rw [Yhc] at hb
 have hc:Zf5 [4294967296,2] ⟨64,65536,0,0⟩=some (⟨1,[2],[]⟩,0):=by
  unfold Zf5
  rw [Ybc Ymt,Option.bind_some,Yoo,Option.bind_some]
  simp only
  rw [show ((0:Int) != 0)=false from rfl,cond_false,show ((([4294967296,2]:List Int).length:Nat):Int)=2 from rfl,Yjc Yi9 Yjv rfl Yco,Option.bind_some]
  simp only
  rw [cond_true,Z0d (by decide),beq_self_eq_true]
  rfl
 unfold Zf7
 rw [hl,Option.bind_some,hc,Option.bind_some]
 simp only
 rw [show ((0:Int) != 0)=false from rfl,cond_false]
 have hr:Zc1 ⟨1,[2],[]⟩=some (SE,true):=by
  unfold Zc1
  rw [Yg0,Option.bind_some,Zu5 Yd7,Yg2,Option.bind_some,cond_true,Zs0 Yd7 Yid Yg2,Yhc,Option.bind_some,Z82 hb Yi9,Yhu,Yco,Zwy]
  rfl
 rw [hr]
 rfl
theorem Ygi:K7=some true:=by
 unfold K7
 have a:=Yiq
 have b:=Yir
 unfold E0 at a
 unfold SE at b
 rw [a,b,Yip]
 simp only [Option.bind_some]
 rw [cond_true,cond_true,Yfs _ (by decide),Yfs _ (by decide)]
 rfl
theorem Yfd {e:Ed} (hb:BE e) (hg:GN e) (hr:rE e 64=true):Zc1 (TE e)=some (e,true):=by
 have bt:=Yax _ e (Nat.lt_succ_self _) hb hg
 unfold Zc1
 rw [Yfg hb hg hr,Option.bind_some,Zu5 hb,hr,Option.bind_some,cond_true,Zs0 hb hg hr,Option.bind_some,Z82 bt bt,Zwy]
 rfl
theorem Z79 {e:Ed} (hb:BE e):Zaf e=some true:=by
 obtain ⟨b,h1,h2⟩:=Ygp hb
 unfold Zaf
 rw [h1,Option.bind_some,Ygi]
 cases b with
 | false=>rfl
 | true =>
 obtain ⟨mc,hr⟩:=h2 rfl
 have bt:=Yax _ e (Nat.lt_succ_self _) hb mc.g
 have hq:eqE e e=true:=Z2g _ e (by omega)
 rw [Bool.not_true,cond_false,Zs0 hb mc.g hr,Option.bind_some,Yj0 mc.g,Option.bind_some,Ycy bt bt,Zwy,Option.bind_some,Bool.not_true,cond_false,Yfd hb mc.g hr,Option.bind_some,show (64:Int)=((64:Nat):Int) from rfl,Zvf bt (by decide),Yfk hb hb,hq]
 cases rt (TE e) 64 <;> rfl
end Go.Proofs.YtmlcnhambfkjaaaGreat
