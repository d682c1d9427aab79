/- Plain facts on this seat's mirrors (part FP7); each theorem bears its own conditions. -/
import Derived.Test.YtfjkcekfifobpaaFP5
import Derived.IntWalk
namespace Go.Proofs.Ytfjkcekfifobpaa
open Go.RowKit
set_option linter.unusedVariables false
set_option linter.unusedSimpArgs false
theorem Z0a:∀ (k:Nat) (e:Ed) (d left:Int),BE e→SizeOf.sizeOf e < k→0≤d→d≤100→0≤left→left≤1000000→∃ r,Yd k e d left=some r∧-1≤r∧r≤1000000∧(0≤r→r+(ce e:Nat)≤left∧ST e)
 | 0,e,_,_,_,h,_,_,_,_=>by omega
 | k+1,e,d,left,hb,hk,hd0,hd1,hl0,hl1=>by
  have hw:=hb.w
  have ho:=hb.o
  show ∃ r,Qn (Yd k) e d left=some r∧_
  unfold Qn
  rw [Jm (x:=left - 1) (by omega) (by omega),Jm (x:=left - 1 - (e.Words.length:Int)) (by omega) (by omega),Jm (by omega) (by omega),Z6g]
  cases hc:cond (d == 0) true (decide (left - 1 - (e.Words.length:Int) - (e.Ops.length:Int) < 0)) with
  | true=>exact ⟨-1,rfl,by omega,by omega,fun h=>by omega⟩
  | false =>
   rw [cond_false]
   have hd:¬ d=0∧0≤left - 1 - (e.Words.length:Int) - (e.Ops.length:Int):=by
    by_cases h:d=0
    ·simp [h] at hc
    have e:(d == 0)=false:=by simp [h]
    rw [e,cond_false,decide_eq_false_iff_not] at hc
    exact ⟨h,by omega⟩
   obtain ⟨r1,g1,g2,g3,g4⟩:=Zqo hb.old hd.2 (by omega)
   have hz:∃ z,cond (decide (0≤r1)) ((X8 e.New 80 r1).bind fun y4=>some y4) (some r1)=some z∧-1≤z∧z≤1000000∧(0≤z→z≤left - 1 - (e.Words.length:Int) - (e.Ops.length:Int)∧pt e.Old≤1000000∧pt e.New≤1000000):=by
    by_cases h:0≤r1
    ·obtain ⟨r2,f1,f2,f3,f4⟩:=Zqo hb.new h g3
     refine ⟨r2,by rw [decide_eq_true h,f1];rfl,f2,f3,fun h2 => ?_⟩
     have:=f4 h2
     have:=g4 h
     omega
    exact ⟨r1,by rw [decide_eq_false h];rfl,g2,g3,fun h2=>absurd h2 h⟩
   obtain ⟨z,z1,z2,z3,z4⟩:=hz
   rw [g1,Option.bind_some,z1,Option.bind_some]
   obtain ⟨r,h1,h2⟩:=Zce (step:=X5 (Yd k) e d)
    (fun s=>∃ j:Nat,s.2=j∧j≤e.Kids.length∧-1≤s.1∧s.1≤1000000∧(0≤s.1→s.1+((((e.Kids.take j).map fun k=>ce k.E)).sum:Nat)≤left - 1 - (e.Words.length:Int) - (e.Ops.length:Int)∧(pt e.Old≤1000000∧pt e.New≤1000000)∧∀ k∈e.Kids.take j,ST k.E))
    (fun s=>e.Kids.length - s.2.toNat) (fun r=>-1≤r∧r≤1000000∧(0≤r→r+((e.Kids.map fun k=>ce k.E).sum:Nat)≤left - 1 - (e.Words.length:Int) - (e.Ops.length:Int)∧(pt e.Old≤1000000∧pt e.New≤1000000)∧∀ k∈e.Kids,ST k.E)) (fun s hI=>by
     obtain ⟨l,i⟩:=s
     obtain ⟨j,rfl,hj,g1,g2,g3⟩:=hI
     have hkl:=hb.k
     simp only at g1 g2 g3 ⊢
     unfold X5
     simp only
     by_cases hji:j < e.Kids.length
     ·rw [Us hji,cond_true]
      by_cases hl:0≤l
      ·have e1:decide (0≤l)=true:=by simp [hl]
       have hx:e.Kids[j]? = some e.Kids[j]:=List.getElem?_eq_getElem hji
       have hm:e.Kids[j]∈e.Kids:=List.getElem_mem hji
       obtain ⟨r,q1,q2,q3,q4⟩:=Z0a k e.Kids[j].E (d - 1) l (hb.ks _ hm) (by have:=Jz hm;omega) (by omega) (by omega) hl g2
       rw [e1,cond_true,Z6 hx,Option.bind_some,Jm (x:=d - 1) (by omega) (by omega),q1,Option.bind_some,Jm (by omega) (by omega)]
       refine .inl ⟨_,rfl,⟨j+1,by simp only;omega,by omega,q2,q3,fun hr => ?_⟩,by simp only;omega⟩
       obtain ⟨w1,w2⟩:=q4 hr
       obtain ⟨w3,w4,w5⟩:=g3 hl
       rw [List.take_add_one,hx]
       simp only [Option.toList_some,List.map_append,List.map_cons,List.map_nil,List.sum_append,List.sum_cons,List.sum_nil]
       simp only at hr
       refine ⟨by omega,w4,fun y hy => ?_⟩
       rcases List.mem_append.1 hy with hy | hy
       ·exact w5 y hy
       rw [List.mem_singleton] at hy;subst hy;exact w2
      have e1:decide (0≤l)=false:=by simp [hl]
      rw [e1,cond_false]
      exact .inr ⟨l,rfl,g1,g2,fun h=>absurd h hl⟩
     have hj':j=e.Kids.length:=by omega
     subst hj'
     rw [Zbh,cond_false]
     rw [List.take_length] at g3
     exact .inr ⟨l,rfl,g1,g2,g3⟩) (z,0) ⟨0,rfl,Nat.zero_le _,z2,z3,fun h=>⟨by simpa using (z4 h).1,(z4 h).2,by simp⟩⟩
   rw [h1,Option.bind_some]
   have inner:∀ (j:Nat) (hj:j < e.Ops.length) (l:Int),0≤l→l≤1000000→∃ r,Zv (Qt e (l,(j:Int))) (l,0)=some r∧-1≤r∧r≤1000000∧r≤l∧(0≤r→∀ t∈e.Ops[j].L,pt t≤1000000):=fun j hj l hl hl'=>by
    have hx:e.Ops[j]? = some e.Ops[j]:=List.getElem?_eq_getElem hj
    have hm:e.Ops[j]∈e.Ops:=List.getElem_mem hj
    have hL:=(hb.l _ hm).1
    obtain ⟨r,h1,h2⟩:=Zce (step:=Qt e (l,(j:Int)))
     (fun s=>∃ i:Nat,s.2=i∧i≤e.Ops[j].L.length∧-1≤s.1∧s.1≤1000000∧s.1≤l∧(0≤s.1→∀ t∈e.Ops[j].L.take i,pt t≤1000000))
     (fun s=>e.Ops[j].L.length - s.2.toNat) (fun r=>-1≤r∧r≤1000000∧r≤l∧(0≤r→∀ t∈e.Ops[j].L,pt t≤1000000)) (fun s hI=>by
      obtain ⟨l',i'⟩:=s
      obtain ⟨i,rfl,hi,g1,g2,g3,g4⟩:=hI
      simp only at g1 g2 g3 g4 ⊢
      unfold Qt
      simp only
      rw [Z6 hx,Option.bind_some,Option.bind_some]
      by_cases hii:i < e.Ops[j].L.length
      ·rw [Us hii,cond_true]
       by_cases hl2:0≤l'
       ·have e1:decide (0≤l')=true:=by simp [hl2]
        have hx2:e.Ops[j].L[i]? = some e.Ops[j].L[i]:=List.getElem?_eq_getElem hii
        have hm2:e.Ops[j].L[i]∈e.Ops[j].L:=List.getElem_mem hii
        obtain ⟨r,q1,q2,q3,q4⟩:=Zqo ((hb.l _ hm).2 _ hm2) hl2 g2
        rw [e1,cond_true,Z6 hx2,Option.bind_some,q1,Option.bind_some,Jm (by omega) (by omega)]
        refine .inl ⟨_,rfl,⟨i+1,by simp only;omega,by omega,q2,q3,?_⟩,by simp only;omega⟩
        simp only
        refine ⟨?_,fun hr t ht => ?_⟩
        ·by_cases hr:0≤r
         ·have:=q4 hr;omega
         omega
        rw [List.take_add_one,hx2] at ht
        rcases List.mem_append.1 ht with ht | ht
        ·exact g4 hl2 t ht
        simp only [Option.toList_some,List.mem_singleton] at ht
        subst ht
        have:=q4 hr
        omega
       have e1:decide (0≤l')=false:=by simp [hl2]
       rw [e1,cond_false]
       exact .inr ⟨l',rfl,g1,g2,g3,fun h=>absurd h hl2⟩
      have hi':i=e.Ops[j].L.length:=by omega
      subst hi'
      rw [Zbh,cond_false]
      rw [List.take_length] at g4
      exact .inr ⟨l',rfl,g1,g2,g3,g4⟩) (l,0) ⟨0,rfl,Nat.zero_le _,by simp only;omega,by simp only;omega,by simp only;omega,fun _=>by simp⟩
    exact ⟨r,h1,h2⟩
   obtain ⟨r',h1',h2'⟩:=Zce (step:=X6 (Yd k) e d)
    (fun s=>∃ j:Nat,s.2=j∧j≤e.Ops.length∧-1≤s.1∧s.1≤1000000∧(0≤s.1→0≤r∧s.1+((((e.Ops.take j).map fun o=>ce o.E)).sum:Nat)≤r∧∀ o∈e.Ops.take j,ST o.E∧∀ t∈o.L,pt t≤1000000))
    (fun s=>e.Ops.length - s.2.toNat) (fun q=>-1≤q∧q≤1000000∧(0≤q→0≤r∧q+((e.Ops.map fun o=>ce o.E).sum:Nat)≤r∧∀ o∈e.Ops,ST o.E∧∀ t∈o.L,pt t≤1000000)) (fun s hI=>by
     obtain ⟨l,i⟩:=s
     obtain ⟨j,rfl,hj,g1,g2,g3⟩:=hI
     simp only at g1 g2 g3 ⊢
     unfold X6
     simp only
     by_cases hji:j < e.Ops.length
     ·rw [Us hji,cond_true]
      by_cases hl:0≤l
      ·have e1:decide (0≤l)=true:=by simp [hl]
       have hx:e.Ops[j]? = some e.Ops[j]:=List.getElem?_eq_getElem hji
       have hm:e.Ops[j]∈e.Ops:=List.getElem_mem hji
       obtain ⟨t,t1,t2,t3,t4,t5⟩:=inner j hji l hl g2
       rw [e1,cond_true,t1,Option.bind_some,Jm (x:=(j:Int)+1) (by omega) (by omega)]
       by_cases ht:0≤t
       ·obtain ⟨r,q1,q2,q3,q4⟩:=Z0a k e.Ops[j].E (d - 1) t (hb.os _ hm) (by have:=Uh hm;omega) (by omega) (by omega) ht t3
        rw [decide_eq_true ht,cond_true,Z6 hx,Option.bind_some,Jm (x:=d - 1) (by omega) (by omega),q1]
        refine .inl ⟨_,rfl,⟨j+1,by simp only;omega,by omega,q2,q3,fun hr => ?_⟩,by simp only;omega⟩
        obtain ⟨w1,w2⟩:=q4 hr
        obtain ⟨w3,w4,w5⟩:=g3 hl
        rw [List.take_add_one,hx]
        simp only [Option.toList_some,List.map_append,List.map_cons,List.map_nil,List.sum_append,List.sum_cons,List.sum_nil]
        simp only at hr
        refine ⟨w3,by omega,fun y hy => ?_⟩
        rcases List.mem_append.1 hy with hy | hy
        ·exact w5 y hy
        rw [List.mem_singleton] at hy;subst hy;exact ⟨w2,t5 ht⟩
       rw [decide_eq_false ht]
       exact .inl ⟨_,rfl,⟨j+1,by simp only;omega,by omega,t2,t3,fun hr=>absurd hr ht⟩,by simp only;omega⟩
      have e1:decide (0≤l)=false:=by simp [hl]
      rw [e1,cond_false]
      exact .inr ⟨l,rfl,g1,g2,fun h=>absurd h hl⟩
     have hj':j=e.Ops.length:=by omega
     subst hj'
     rw [Zbh,cond_false]
     rw [List.take_length] at g3
     exact .inr ⟨l,rfl,g1,g2,g3⟩) (r,0) ⟨0,rfl,Nat.zero_le _,h2.1,h2.2.1,fun h=>⟨h,by simp,by simp⟩⟩
   rw [h1']
   refine ⟨r',rfl,h2'.1,h2'.2.1,fun hr => ?_⟩
   obtain ⟨p1,p2,p3⟩:=h2'.2.2 hr
   obtain ⟨p4,p5,p6⟩:=h2.2.2 p1
   exact ⟨by omega,.mk e p5.1 p5.2 (fun o ho=>(p3 o ho).2) p6 fun o ho=>(p3 o ho).1⟩
theorem Yhs {e:Ed} (h:BE e) (hq:V9 e=some true):ce e≤3000∧ST e:=by
 obtain ⟨r,h1,h2,h3,h4⟩:=Z0a (SizeOf.sizeOf e+1) e 80 3000 h (by omega) (by omega) (by omega) (by omega) (by omega)
 have hr:Zeu e 80 3000=some r:=Zcr (SizeOf.sizeOf e+1) fun k hk=>by rw [Zp7 k (SizeOf.sizeOf e+1) e 80 3000 (by omega) (by omega)];exact h1
 unfold V9 at hq
 rw [hr,Option.bind_some] at hq
 have hp:0≤r:=by simpa using hq
 have:=h4 hp
 exact ⟨by omega,this.2⟩
structure GT (t:Tr):Prop where
 n:NT t
 g:Rg t
 x:TX t
theorem GT.z:GT Jj:=⟨NT.z,Rg.z,TX.z⟩
theorem GT.all {t:Tr} (h:GT t):∀ k∈t.Kids,GT k:=fun k hk=>⟨h.n.kids k hk,h.g.all k hk,h.x.all k hk⟩
theorem GT.at_ {t:Tr} (h:GT t) (i:Nat):GT (Vn Jj t.Kids i):=⟨Zjo h.n.kids NT.z i,Zjo h.g.all Rg.z i,Zjo h.x.all TX.z i⟩
theorem GT.of {t:Tr} (hb:Bd t) (hx:TX t):GT (nrm t):=⟨NT.of t,hb.nrm.rg,hx.n⟩
def D9 (e:Ed):Prop:=e.Kind=2∨(e.Kind=1∧e.Old.Kind=1∧e.New.Kind=1)
inductive RZ:Ed→Prop
 | same (e:Ed) (h:e.Kind=0):RZ e
 | repl (e:Ed) (h:e.Kind=1) (ho:TX e.Old) (hn:TX e.New):RZ e
 | st (e:Ed) (h:e.Kind=2) (hw:e.Words.Pairwise (fun a b=>a.At < b.At)) (hw2:∀ w∈e.Words,0≤w.At∧w.At≤65534) (hk:e.Kids.Pairwise (fun a b=>a.At < b.At)) (hk2:∀ k∈e.Kids,0≤k.At∧k.At≤65534) (ih:∀ k∈e.Kids,RZ k.E):RZ e
 | li (e:Ed) (h:e.Kind=3) (hl:2≤e.List_∧e.List_≤9) (ho:∀ o∈e.Ops,opk o) (hN:∀ o∈e.Ops,o.Kind=0∨o.Kind=3→o.L=[]) (hT:∀ o∈e.Ops,∀ t∈o.L,TX t∧(e.List_=9→t.Kind=1)) (h9:∀ o∈e.Ops,o.Kind=3→e.List_=9→D9 o.E) (ih:∀ o∈e.Ops,o.Kind=3→RZ o.E):RZ e
theorem Ztv {α:Type} {f:α→Int} {l:List α} (h:l.Pairwise (fun a b=>f a < f b)) (h2:∀ x∈l,0≤f x∧f x≤65534):l.Pairwise (fun a b=>(f a).toNat≠(f b).toNat) :=
 h.imp_of_mem fun {a b} ha hb hab=>by have:=h2 a ha;have:=h2 b hb;omega
theorem RZ.rx {e:Ed} (h:RZ e):RX e:=by
 induction h with
 | same e h=>exact .same e h
 | repl e h _ _=>exact .repl e h
 | st e h hw hw2 hk hk2 _ ih=>exact .st e h (Ztv hw hw2) hw2 (Ztv hk hk2) hk2 ih
 | li e h hl ho hN hT h9 _ ih=>exact .li e h hl ho hN ih
theorem Z7g:∀ (n:Nat) (e:Ed) (d:Nat),SizeOf.sizeOf e < n→rE e d=true→RZ e
 | 0,_,_,h,_=>by omega
 | n+1,e,d,hn,h=>by
  rw [Zoo] at h
  by_cases hd:d=0
  ·rw [if_pos hd] at h;cases h
  rw [if_neg hd] at h
  by_cases h0:e.Kind=0
  ·exact .same e h0
  rw [if_neg h0] at h
  by_cases h1:e.Kind=1
  ·rw [if_pos h1] at h
   simp only [Bool.and_eq_true] at h
   exact .repl e h1 (Z7o _ _ 64 (Nat.lt_succ_self _) h.2.1.1) (Z7o _ _ 64 (Nat.lt_succ_self _) h.2.2.1)
  rw [if_neg h1] at h
  by_cases h2:e.Kind=2
  ·rw [if_pos h2] at h
   simp only [Bool.and_eq_true] at h
   obtain ⟨w1,w2⟩:=Zsq Z69 e.Words (-1) h.2.1
   obtain ⟨k1,k2⟩:=Zsq (Z68 (d - 1)) e.Kids (-1) h.2.2
   refine .st e h2 w2 (fun w hw=>by have:=w1 w hw;omega) k2 (fun k hk=>by have:=k1 k hk;omega) fun k hk=>Z7g n k.E (d - 1) (by have:=Jz hk;omega) ?_
   exact Zp3 (Q:=fun k:Zk=>rE k.E (d - 1)=true) (fun p x hx=>by
    unfold okK okP at hx
    simp only [Bool.and_eq_true] at hx
    exact hx.2.2) e.Kids (-1) h.2.2 k hk
  rw [if_neg h2] at h
  by_cases h3:e.Kind=3
  ·rw [if_pos h3] at h
   simp only [Bool.and_eq_true,decide_eq_true_eq,List.all_eq_true] at h
   have ho:=h.2.2.1
   have hL:∀ o∈e.Ops,o.Kind=0∨o.Kind=3→o.L=[]:=fun o hx k03=>by
    have:=ho o hx
    unfold okO at this
    rcases k03 with k0 | k3
    ·rw [if_pos k0] at this
     simp only [Bool.and_eq_true,beq_iff_eq] at this
     exact List.eq_nil_of_length_eq_zero this.2.1
    rw [if_neg (by omega),if_neg (by omega),if_pos k3] at this
    simp only [Bool.and_eq_true,beq_iff_eq] at this
    exact List.eq_nil_of_length_eq_zero this.2.1
   refine .li e h3 h.2.1 (fun o hx=>Zxo (ho o hx)) hL (fun o hx t ht => ?_) (fun o hx k3 h9 => ?_) fun o hx k3=>Z7g n o.E (d - 1) (by have:=Uh hx;omega) ?_
   ·have hk:=Z0u (Zxo (ho o hx))
    by_cases k12:o.Kind=1∨o.Kind=2
    ·have:=ho o hx
     unfold okO at this
     rw [if_neg (by omega),if_pos k12] at this
     simp only [Bool.and_eq_true,List.all_eq_true] at this
     obtain ⟨q1,q2⟩:=this.2.2.1 t ht
     refine ⟨Z7o _ t 63 (Nat.lt_succ_self _) q1,fun h9 => ?_⟩
     unfold okk at q2
     rw [if_neg (by omega),h9] at q2
     simp only [Bool.and_eq_true,Bool.or_eq_true,bne_self_eq_false,Bool.false_eq_true,false_or,beq_iff_eq] at q2
     exact q2.2
    rw [hL o hx (by omega)] at ht
    cases ht
   ·have:=ho o hx
    unfold okO at this
    rw [if_neg (by omega),if_neg (by omega),if_pos k3] at this
    simp only [Bool.and_eq_true] at this
    have q:=this.2.2.2.1
    unfold Zoi at q
    rw [if_neg (by omega),if_pos h9] at q
    simp only [Bool.or_eq_true,Bool.and_eq_true,beq_iff_eq] at q
    exact q
   have:=ho o hx
   unfold okO at this
   rw [if_neg (by omega),if_neg (by omega),if_pos k3] at this
   simp only [Bool.and_eq_true] at this
   exact this.2.2.2.2
  rw [if_neg h3] at h;cases h
theorem Z86:∀ (n:Nat) (e:Ed) (t u:Tr),SizeOf.sizeOf e < n→RZ e→BE e→GT t→ap e t=some u→GT u∧(D9 e→u.Kind=1)
 | 0,_,_,_,h,_,_,_,_=>by omega
 | n+1,e,t,u,hn,hz,hb,gt,h=>by
  obtain ⟨q1,q2,_⟩:=Z24 _ e t u (Nat.lt_succ_self _) hz.rx hb gt.n gt.g gt.x h
  have key:TX u∧(D9 e→u.Kind=1)→GT u∧(D9 e→u.Kind=1):=fun k=>⟨⟨q1,q2,k.1⟩,k.2⟩
  refine key ?_
  rw [Zjw] at h
  cases hz with
  | same _ k0 =>
   rw [if_pos k0] at h
   injection h with h
   subst h
   exact ⟨gt.x,fun d=>by unfold D9 at d;omega⟩
  | repl _ k1 ho hn' =>
   rw [if_neg (by omega),if_pos k1] at h
   split at h
   ·injection h with h
    subst h
    exact ⟨hn'.n,fun d=>by rw [Ky];unfold D9 at d;omega⟩
   cases h
  | st _ k2 hw hw2 hk hk2 ih =>
   rw [if_neg (by omega),if_neg (by omega),if_pos k2] at h
   split at h
   ·obtain ⟨ws,e1,h⟩:=Option.bind_eq_some_iff.1 h
    obtain ⟨ks,e2,h⟩:=Option.bind_eq_some_iff.1 h
    injection h with h
    subst h
    have hm:=Zqm t.Kids TX TX.z (apK e.Kids) t.Kids ks (fun w hw v hv=>by
     obtain ⟨k,hkm,rfl⟩:=List.mem_map.1 hw
     exact (Z86 n k.E _ v (by have:=Jz hkm;omega) (ih k hkm) (hb.ks k hkm) (gt.at_ _) hv).1.x) gt.x.all e2
    exact ⟨.mk _ (fun q=>by simp only at q;omega) (fun q=>by simp at q) fun k hk=>hm k (Zg6 hk),fun _=>rfl⟩
   cases h
  | li _ k3 hl ho hN hT h9 ih =>
   rw [if_neg (by omega),if_neg (by omega),if_neg (by omega),if_pos k3] at h
   split at h
   ·rename_i ht
    obtain ⟨out,e1,rfl⟩:=Z6i h
    have hm:=Z4o (fun x=>GT x∧(e.List_=9→x.Kind=1)) (fun x=>TX x∧(e.List_=9→x.Kind=1)) (fun x q=>⟨q.1.x,q.2⟩) (apO e.Ops) t.Kids [] [] out (fun x hx=>⟨gt.all x hx,fun q=>gt.x.s (by omega) x hx⟩) (fun x hx=>by cases hx) (fun o hom hk x hx=>by
     obtain ⟨q,hq,rfl⟩:=List.mem_map.1 hom
     obtain ⟨r1,r2⟩:=hT q hq x hx
     exact ⟨r1.n,fun q9=>by rw [Ky];exact r2 q9⟩) (fun o hom hk x v hx hv=>by
     obtain ⟨q,hq,rfl⟩:=List.mem_map.1 hom
     obtain ⟨r1,r2⟩:=Z86 n q.E x v (by have:=Uh hq;omega) (ih q hq hk) (hb.os q hq) hx.1 hv
     exact ⟨r1.x,fun q9=>r2 (h9 q hq hk q9)⟩) e1
    refine ⟨.mk _ (fun _=>rfl) (fun q9 k hk=>(hm.2 k hk).2 (by simp only at q9;omega)) fun k hk=>(hm.2 k hk).1,fun d=>by unfold D9 at d;omega⟩
   cases h
abbrev WE:=Zt
def fd {α:Type} (pl:α→Int) (l:List α) (j:Nat):Option α:=l.find? fun w=>(pl w).toNat == j
theorem Yfp {α:Type} {pl:α→Int} {l:List α} {j:Nat} (h:∀ x∈l,(pl x).toNat≠j):fd pl l j=none:=by
 unfold fd
 rw [List.find?_eq_none]
 intro x hx
 rw [beq_iff_eq]
 exact h x hx
theorem Ydc {α:Type} {pl:α→Int} {l:List α} {j:Nat} {x:α} (h:fd pl l j=some x):x∈l∧(pl x).toNat=j:=by
 unfold fd at h
 exact ⟨List.mem_of_find?_eq_some h,by have:=List.find?_some h;simpa using this⟩
def Ylr {α:Type} (f:α→α→Option α):Option α→Option α→Option α
 | some x,some y=>f x y
 | some x,none=>some x
 | none,y=>y
def Rise {α:Type} (pl:α→Int) (l:List α):Prop:=l.Pairwise (fun a b=>pl a < pl b)∧∀ x∈l,0≤pl x
theorem Rise.tail {α:Type} {pl:α→Int} {x:α} {l:List α} (h:Rise pl (x::l)):Rise pl l:=⟨(List.pairwise_cons.1 h.1).2,fun y hy=>h.2 y (.tail _ hy)⟩
abbrev KE:=Zk
def stW (ws:List WE) (j:Nat) (x:Int):Option Int:=match fd (·.At) ws j with
 | none=>some x
 | some w=>if cW x w=true then some (Zmb x w) else none
def stK (ks:List KE) (j:Nat) (x:Tr):Option Tr:=match fd (·.At) ks j with
 | none=>some x
 | some k=>ap k.E x
theorem Z3a {α:Type} {pl:α→Int} {l:List α} (h:l.Pairwise (fun a b=>(pl a).toNat≠(pl b).toNat)) {w:α} (hw:w∈l):fd pl l (pl w).toNat=some w:=by
 cases hf:fd pl l (pl w).toNat with
 | none =>
  unfold fd at hf
  have:=List.find?_eq_none.1 hf w hw
  simp at this
 | some x =>
  obtain ⟨h1,h2⟩:=Ydc hf
  rw [Z4m (f:=fun a=>(pl a).toNat) h x h1 w hw h2]
theorem Yf8 {o:List Int} {ws:List WE} (h:ws.Pairwise (fun a b=>a.At.toNat≠b.At.toNat)) (q:∀ j,stW ws j (Vn 0 o j)≠none):Z1t o ws:=fun w hw=>by
 have:=q w.At.toNat
 unfold stW at this
 rw [Z3a (pl:=fun w:WE=>w.At) h hw] at this
 simp only at this
 exact Classical.byContradiction fun c=>this (by rw [if_neg c])
theorem Yib {o:List Int} {ws:List WE} (q:Z1t o ws) (j:Nat):stW ws j (Vn 0 o j)=some (upW o ws (Vn 0 o) j):=by
 unfold stW upW fd
 cases hf:ws.find? (fun w=>w.At.toNat == j) with
 | none=>rfl
 | some w =>
  have h2:=List.find?_some hf
  rw [beq_iff_eq] at h2
  have:=q w (List.mem_of_find?_eq_some hf)
  rw [h2] at this
  simp only
  rw [if_pos this]
theorem Yhm (ks:List KE) (j:Nat):(apK ks).find? (fun k=>k.1 == j)=(fd (·.At) ks j).map fun k=>(k.At.toNat,ap k.E):=by
 unfold apK fd
 rw [List.find?_map]
 rfl
theorem Yf7 {o:List Tr} {ks:List KE} (h:ks.Pairwise (fun a b=>a.At.toNat≠b.At.toNat)) (q:∀ j,stK ks j (Vn Jj o j)≠none):Yb5 o (apK ks):=fun w hw=>by
 obtain ⟨k,hk,rfl⟩:=List.mem_map.1 hw
 have:=q k.At.toNat
 unfold stK at this
 rw [Z3a (pl:=fun w:KE=>w.At) h hk] at this
 simp only at this ⊢
 exact Option.isSome_iff_ne_none.2 this
theorem Yh9 {o:List Tr} {ks:List KE} (q:Yb5 o (apK ks)) (j:Nat):stK ks j (Vn Jj o j)=some (upK o (apK ks) (Vn Jj o) j):=by
 unfold stK upK
 rw [Yhm]
 cases hf:fd (fun k:KE=>k.At) ks j with
 | none=>rfl
 | some k =>
  obtain ⟨h1,h2⟩:=Ydc hf
  have:=q (k.At.toNat,ap k.E) (List.mem_map.2 ⟨k,h1,rfl⟩)
  simp only at this
  rw [h2] at this
  obtain ⟨u,hu⟩:=Option.isSome_iff_exists.1 this
  simp only [Option.map_some]
  rw [hu]
  rfl
theorem Ygh {e:Ed} {t:Tr} (k2:e.Kind=2) (hz:RZ e) (hb:BE e) (gt:GT t) (k1:t.Kind=1) :
  (∃ u,ap e t=some u∧GT u∧u.Kind=1∧(∀ j,stW e.Words j (Vn 0 t.Words j)=some (Vn 0 u.Words j))∧∀ j,stK e.Kids j (Vn Jj t.Kids j)=some (Vn Jj u.Kids j)) ∨
  (ap e t=none∧((∃ j,stW e.Words j (Vn 0 t.Words j)=none)∨∃ j,stK e.Kids j (Vn Jj t.Kids j)=none)):=by
 have hz':=hz
 cases hz with
 | same _ k=>omega
 | repl _ k=>omega
 | li _ k=>omega
 | st _ _ hw hw2 hk hk2 ih =>
  have nw:=Ztv hw hw2
  have nk:=Ztv hk hk2
  have e0:ap e t=(rnW t.Words e.Words t.Words).bind fun ws=>(rnK t.Kids (apK e.Kids) t.Kids).bind fun ks=>some ⟨1,tr p0 ws,tr pT ks⟩:=by
   rw [Zjw,if_neg (by omega),if_neg (by omega),if_pos k2,if_pos k1]
  have hnt:∀ w∈apK e.Kids,∀ v,w.2 (Vn Jj t.Kids w.1)=some v→NT v:=fun w hwm v hv=>by
   obtain ⟨k,hkm,rfl⟩:=List.mem_map.1 hwm
   exact (Z86 _ k.E _ v (Nat.lt_succ_self _) (ih k hkm) (hb.ks k hkm) (gt.at_ _) hv).1.n
  obtain ⟨s1,s2⟩:=Zmj t.Words e.Words t.Words nw
  obtain ⟨r1,r2⟩:=Ztw t.Kids (apK e.Kids) t.Kids (List.pairwise_map.2 nk) hnt
  by_cases okw:Z1t t.Words e.Words
  ·by_cases okk:Yb5 t.Kids (apK e.Kids)
   ·obtain ⟨ws,f1,f2⟩:=s1 okw
    obtain ⟨ks,g1,g2⟩:=r1 okk
    have hm:=Zqm t.Kids NT NT.z (apK e.Kids) t.Kids ks hnt gt.n.kids g1
    rw [f1,Option.bind_some,g1,Option.bind_some] at e0
    refine .inl ⟨_,e0,(Z86 _ e t _ (Nat.lt_succ_self _) hz' hb gt e0).1,rfl,fun j => ?_,fun j => ?_⟩
    ·rw [Yib okw]
     simp only
     rw [Zwj ws fun x _ hx=>Z4h hx,f2 j]
    rw [Yh9 okk]
    simp only
    rw [Zwj ks fun x hx hp=>(hm x hx).null hp,g2 j]
   refine .inr ⟨?_,.inr (Classical.byContradiction fun c=>okk (Yf7 nk fun j h=>c ⟨j,h⟩))⟩
   rw [e0,r2 okk]
   cases rnW t.Words e.Words t.Words <;> rfl
  refine .inr ⟨?_,.inl (Classical.byContradiction fun c=>okw (Yf8 nw fun j h=>c ⟨j,h⟩))⟩
  rw [e0,s2 okw]
  rfl
theorem Ygg {e:Ed} {t:Tr} (k2:e.Kind=2) (k1:¬ t.Kind=1):ap e t=none:=by rw [Zjw,if_neg (by omega),if_neg (by omega),if_pos k2,if_neg k1]
theorem GT.w {t:Tr} (h:GT t) (j:Nat):0≤Vn 0 t.Words j∧Vn 0 t.Words j < 18446744073709551616:=Z77 h.g.u j
inductive LM:Ed→Prop
 | mk (e:Ed) (hw:e.Words.length≤250000) (hk:e.Kids.length≤250000) (ho:e.Ops.length≤250000) (hs:X2 e.Ops≤4000000) (ik:∀ k∈e.Kids,LM k.E) (io:∀ o∈e.Ops,LM o.E):LM e
theorem LM.w {e:Ed} (h:LM e):e.Words.length≤250000:=by cases h;assumption
theorem LM.k {e:Ed} (h:LM e):e.Kids.length≤250000:=by cases h;assumption
theorem LM.o {e:Ed} (h:LM e):e.Ops.length≤250000:=by cases h;assumption
theorem LM.s {e:Ed} (h:LM e):X2 e.Ops≤4000000:=by cases h;assumption
theorem LM.ks {e:Ed} (h:LM e):∀ k∈e.Kids,LM k.E:=by cases h;assumption
theorem LM.os {e:Ed} (h:LM e):∀ o∈e.Ops,LM o.E:=by cases h;assumption
structure MC (e:Ed):Prop where
 z:RZ e
 b:BE e
 g:GN e
 s:ST e
 m:LM e
def QS (Q:Ed→Prop) (o:EO):Prop:=(∀ t∈o.L,pt t≤1000000)∧Q o.E
structure SI (Q:Ed→Prop) (s:NW):Prop where
 out:∀ o∈s.out,QS Q o
 gone:∀ t∈s.gone,pt t≤1000000
 come:∀ t∈s.come,pt t≤1000000
theorem SI.fl {Q:Ed→Prop} (q0:Q eS0) {s:NW} (h:SI Q s):∀ o∈s.flush,QS Q o:=fun o ho=>by
 unfold NW.flush at ho
 rcases List.mem_append.1 ho with ho | ho
 ·exact h.out o ho
 rcases List.mem_append.1 ho with ho | ho
 ·by_cases hg:s.gone=[]
  ·rw [hg] at ho;simp [Zak] at ho
  rw [Zgq hg,List.mem_singleton] at ho
  subst ho;exact ⟨h.gone,q0⟩
 by_cases hg:s.come=[]
 ·rw [hg] at ho;simp [Zdi] at ho
 rw [Zgr hg,List.mem_singleton] at ho
 subst ho;exact ⟨h.come,q0⟩
theorem Yit:LM eS0 := .mk _ (by simp [eS0]) (by simp [eS0]) (by simp [eS0]) (by simp [eS0,X2]) (by simp [eS0]) (by simp [eS0])
theorem Z31 {e:Ed} (h:Zdp e=true):LM e:=by rw [Zx6 h];exact Yit
theorem Yds:∀ (n:Nat) (e:Ed) (d:Nat),SizeOf.sizeOf e < n→BE e→GN e→ce e≤3000→rE e d=true→LM e
 | 0,_,_,h,_,_,_,_=>by omega
 | n+1,e,d,hn,hb,hg,hc,h=>by
  have hc':=hc
  rw [Z6g] at hc'
  have hk1:e.Kids.length≤(e.Kids.map fun k=>ce k.E).sum:=Zl8 fun x _=>Yc1 _
  have kk:∀ k∈e.Kids,∀ d',rE k.E d'=true→LM k.E:=fun k hk d' hd'=>by
   have:=Zl7 (f:=fun k:Zk=>ce k.E) hk
   exact Yds n k.E d' (by have:=Jz hk;omega) (hb.ks k hk) (hg.ks k hk) (by omega) hd'
  have oo:∀ o∈e.Ops,∀ d',rE o.E d'=true→LM o.E:=fun o ho d' hd'=>by
   have:=Zl7 (f:=fun o:Zh=>ce o.E) ho
   exact Yds n o.E d' (by have:=Uh ho;omega) (hb.os o ho) (hg.os o ho) (by omega) hd'
  have hlens:=Z95 hb h
  rw [Zoo] at h
  by_cases hd:d=0
  ·rw [if_pos hd] at h;cases h
  rw [if_neg hd] at h
  by_cases h0:e.Kind=0
  ·rw [if_pos h0] at h
   exact Z31 h
  rw [if_neg h0] at h
  by_cases h1:e.Kind=1
  ·rw [if_pos h1] at h
   unfold Zhy Zhg at h
   simp only [Bool.and_eq_true,beq_iff_eq] at h
   have e1:=List.eq_nil_of_length_eq_zero h.1.1.2
   have e2:=List.eq_nil_of_length_eq_zero h.1.2.2
   exact .mk _ (by omega) (by omega) (by omega) (by rw [e2];simp [X2]) (by rw [e1];simp) (by rw [e2];simp)
  rw [if_neg h1] at h
  by_cases h2:e.Kind=2
  ·rw [if_pos h2] at h
   unfold Zhg at h
   simp only [Bool.and_eq_true,beq_iff_eq] at h
   have e2:=List.eq_nil_of_length_eq_zero h.1.2.2
   refine .mk _ (by omega) (by omega) (by omega) (by rw [e2];simp [X2]) (fun k hk=>kk k hk (d - 1) ?_) (by rw [e2];simp)
   exact Zp3 (Q:=fun k:Zk=>rE k.E (d - 1)=true) (fun p x hx=>by
    unfold okK okP at hx
    simp only [Bool.and_eq_true] at hx
    exact hx.2.2) e.Kids (-1) h.2.2 k hk
  rw [if_neg h2] at h
  by_cases h3:e.Kind=3
  ·rw [if_pos h3] at h
   unfold Zhy at h
   rw [Bool.and_eq_true,Bool.and_eq_true,Bool.and_eq_true,Bool.and_eq_true,Bool.and_eq_true,Bool.and_eq_true,beq_iff_eq,beq_iff_eq,List.all_eq_true] at h
   obtain ⟨⟨_,_,hk⟩,_,hall,hB⟩:=h
   have e1:=List.eq_nil_of_length_eq_zero hk
   refine .mk _ (by omega) (by omega) (by omega) ?_ (by rw [e1];simp) fun o ho => ?_
   ·rw [hlens] at hB
    have:=Z1d (l:=e.List_) (fun o=>rE o.E (d - 1)) e.Ops (0,0) ⟨⟨by decide,by decide⟩,by decide,by decide⟩ hall (fun o ho=>(hb.l o ho).1) hB
    unfold Zj5 at hB
    rw [Bool.and_eq_true,decide_eq_true_eq,decide_eq_true_eq] at hB
    simp only at this
    omega
   have:=hall o ho
   unfold okO at this
   by_cases k0:o.Kind=0
   ·rw [if_pos k0] at this
    simp only [Bool.and_eq_true] at this
    exact Z31 this.2.2
   rw [if_neg k0] at this
   by_cases k12:o.Kind=1∨o.Kind=2
   ·rw [if_pos k12] at this
    simp only [Bool.and_eq_true] at this
    exact Z31 this.2.2.2
   rw [if_neg k12] at this
   by_cases k3:o.Kind=3
   ·rw [if_pos k3] at this
    simp only [Bool.and_eq_true] at this
    exact oo o ho (d - 1) this.2.2.2.2
   rw [if_neg k3] at this;cases this
  rw [if_neg h3] at h;cases h
theorem Yfu {e:Ed} (hb:BE e):∃ b,Zb1 e=some b∧(b=true→MC e∧rE e 64=true):=by
 obtain ⟨b,h1,h2⟩:=Yip hb
 have h3:=Yfn hb (d:=64) (by decide)
 rw [show ((64:Nat):Int)=64 from rfl] at h3
 unfold Zb1
 rw [h1,Option.bind_some,h3,Ydq hb]
 refine ⟨b && (rE e 64 && lgt e),?_,fun h => ?_⟩
 ·cases b <;> cases rE e 64 <;> cases lgt e <;> rfl
 simp only [Bool.and_eq_true] at h
 rw [h.1] at h1
 obtain ⟨hc,hs⟩:=Yhs hb h1
 have hr:=h.2.1
 have hg:=Z9k _ e 64 (Nat.lt_succ_self _) hb (by omega) hr
 exact ⟨⟨Z7g _ e 64 (Nat.lt_succ_self _) hr,hb,hg,hs,Yds _ e 64 (Nat.lt_succ_self _) hb hg hc hr⟩,hr⟩
abbrev St:=Zx
theorem Ydu {R:Type} (n:Nat) (step:Int→Option (Int ⊕ R)) (F:Nat→R) (hn:(n:Int)≤140737488355328)
  (h:∀ i:Nat,i≤n→(i < n∧step (i:Int)=some (.inl (IntKind.i64.wrap ((i:Int)+1)))∧F i=F (i+1))∨step (i:Int)=some (.inr (F i))):Zv step 0=some (F 0):=by
 have key:∀ m i,i+m=n→Zv step (i:Int)=some (F i):=fun m=>by
  induction m with
  | zero =>
   intro i hi
   rcases h i (by omega) with ⟨h1,_⟩ | h1
   ·omega
   exact Z7 h1
  | succ m ih =>
   intro i hi
   rcases h i (by omega) with ⟨h1,h2,h3⟩ | h1
   ·rw [Jm (by omega) (by omega)] at h2
    rw [Y9 h2,h3]
    exact ih (i+1) (by omega)
   exact Z7 h1
 exact key n 0 (by omega)
def c1 (x y:St):Int:=if x.Kind < y.Kind then -1 else if y.Kind < x.Kind then 1 else if x.At < y.At then -1 else if y.At < x.At then 1 else 0
def Z8t (a b:St):Bool:=a.Kind == b.Kind && a.At == b.At
def Z4r:List St→List St→Bool
 | [],[]=>true
 | x::xs,y::ys=>Z8t x y && Z4r xs ys
 | _,_=>false
theorem Yc8 {α:Type} {l:List α} {i:Nat} (h:l.length≤i):l.drop i=[]:=List.drop_eq_nil_of_le h
theorem Z7p:∀ {a b:List St},a.length≠b.length→Z4r a b=false
 | [],[],h=>by simp at h
 | [],_::_,_=>rfl
 | _::_,[],_=>rfl
 | x::xs,y::ys,h=>by rw [Z4r,Z7p (by simpa using h),Bool.and_false]
def Yce:List St→List St→Unit ⊕ Unit
 | x::xs,y::ys=>if Z8t x y=true then Yce xs ys else .inl ()
 | _,_ => .inr ()
theorem Yab:∀ {a b:List St},a.length=b.length→Yce a b=if Z4r a b=true then .inr () else .inl ()
 | [],[],_=>rfl
 | [],_::_,h=>by simp at h
 | _::_,[],h=>by simp at h
 | x::xs,y::ys,h=>by
  rw [Yce,Z4r,Yab (by simpa using h)]
  cases Z8t x y <;> simp
theorem Yem {a b:List St} (ha:(a.length:Int)≤140737488355328):Gd a b=some (Z4r a b):=by
 unfold Gd
 rw [Z0b]
 by_cases hl:a.length=b.length
 ·have e:(!(a.length == b.length))=false:=by rw [hl];simp
  rw [e,cond_false]
  rw [Ydu a.length _ (fun i=>Yce (a.drop i) (b.drop i)) ha (fun i hi=>by
   unfold Zfb
   by_cases h:i < a.length
   ·obtain ⟨x,hx,ex⟩:=Z27 h
    obtain ⟨y,hy,ey⟩:=Z27 (show i < b.length by omega)
    rw [Us h,cond_true,Z6 hx,Option.bind_some,Z6 hy,Option.bind_some]
    simp only [ex,ey,Yce]
    show (_∧cond (!(Z8t x y)) _ _=_∧_)∨cond (!(Z8t x y)) _ _=_
    cases hs:Z8t x y with
    | true=>exact .inl ⟨h,rfl,by rw [if_pos rfl]⟩
    | false=>exact .inr rfl
   have hi':i=a.length:=by omega
   subst hi'
   refine .inr ?_
   rw [Zbh,cond_false]
   simp only [Yc8 (Nat.le_refl a.length),Yce]),Option.bind_some]
  simp only [List.drop_zero]
  rw [Yab hl]
  cases Z4r a b <;> rfl
 have e:(!(a.length == b.length))=true:=by simp [hl]
 rw [e,cond_true,Z7p hl]
def stp (t:Tr) (s:St):Option Tr :=
 if s.Kind=0∧t.Kind=1∧0≤s.At∧s.At≤65534 then some ((t.Kids[s.At.toNat]?).getD ⟨0,[],[]⟩)
 else if s.Kind=0∧(2≤t.Kind∧t.Kind≤9)∧0≤s.At∧s.At < t.Kids.length then t.Kids[s.At.toNat]?
 else if s.Kind=1∧t.Kind=1∧0≤s.At∧s.At≤65534 then some ⟨1,[(t.Words[s.At.toNat]?).getD 0],[]⟩
 else if s.Kind=2∧(2≤t.Kind∧t.Kind≤9)∧0≤s.At∧s.At≤t.Kids.length then some ⟨t.Kind,[],[]⟩
 else none
def Zl3:Tr→List St→Option Tr
 | t,[]=>some t
 | t,s::l=>match stp t s with
  | none=>none
  | some u=>if s.Kind≠0∧l≠[] then none else Zl3 u l
def Z8f (o:Option Tr):Tr×Bool:=match o with
 | none=>(⟨0,[],[]⟩,false)
 | some u=>(nrm u,true)
theorem Yhw {t:Tr} {i:Int} (h0:0≤i):Zfe t i=some ((t.Kids[i.toNat]?).getD ⟨0,[],[]⟩):=by
 unfold Zfe
 rw [decide_eq_false (by omega:¬ i < 0),cond_false]
 by_cases h:(t.Kids.length:Int)≤i
 ·rw [decide_eq_true h,cond_true,List.getElem?_eq_none (by omega)];rfl
 have hx:t.Kids[i.toNat]? = some t.Kids[i.toNat]:=List.getElem?_eq_getElem (by omega)
 have hg:=Z6 hx
 rw [Int.toNat_of_nonneg h0] at hg
 rw [decide_eq_false h,cond_false,hg,hx];rfl
theorem Zz1 {α:Type} {xs:List α} {i:Int} (h0:0≤i) (h:i < xs.length):∃ x,Y7 xs i=some x∧xs[i.toNat]? = some x:=by
 have hx:xs[i.toNat]? = some xs[i.toNat]:=List.getElem?_eq_getElem (by omega)
 have hg:=Z6 hx
 rw [Int.toNat_of_nonneg h0] at hg
 exact ⟨_,hg,hx⟩
theorem Z8z (t:Tr):(⟨t.Kind,t.Words,t.Kids⟩:Tr)=t:=by cases t;rfl
theorem Yic {t u:Tr} {s:St} (ht:Bd t) (h:stp t s=some u):Bd u:=by
 have b0:Bd ⟨0,[],[]⟩:=Zww 0 [] (by simp) (fun x h=>by simp at h)
 unfold stp at h
 split at h
 ·injection h with h
  cases hq:t.Kids[s.At.toNat]? with
  | none=>rw [hq] at h;subst h;exact b0
  | some v=>rw [hq] at h;subst h;exact ht.all _ (List.mem_of_getElem? hq)
 split at h
 ·exact ht.all _ (List.mem_of_getElem? h)
 split at h
 ·injection h with h
  subst h
  refine Zww 1 _ (by simp) fun x hx => ?_
  rw [List.mem_singleton.1 hx]
  cases hq:t.Words[s.At.toNat]? with
  | none=>simp
  | some v=>exact ht.u _ (List.mem_of_getElem? hq)
 split at h
 ·injection h with h
  subst h
  exact Zww _ [] (by simp) (fun x h=>by simp at h)
 cases h
theorem Z9j:∀ {l:List St} {t u:Tr},Bd t→Zl3 t l=some u→Bd u
 | [],t,u,ht,h=>by rw [Zl3] at h;injection h with h;subst h;exact ht
 | s::l,t,u,ht,h=>by
  rw [Zl3] at h
  cases hq:stp t s with
  | none=>rw [hq] at h;cases h
  | some v =>
   rw [hq] at h
   simp only at h
   split at h
   ·cases h
   exact Z9j (Yic ht hq) h
inductive Z23:Tr→Prop
 | mk (t:Tr) (h:¬ t.Kind=1→¬ (2≤t.Kind∧t.Kind≤9)→t.Kids=[]) (hk:∀ k∈t.Kids,Z23 k):Z23 t
theorem Yba:∀ (n:Nat) (t:Tr) (d:Nat),SizeOf.sizeOf t < n→rt t d=true→Z23 t
 | 0,_,_,h,_=>by omega
 | n+1,t,d,hn,h=>by
  rw [Zli] at h
  by_cases h0:t.Kind=0
  ·rw [if_pos h0,Bool.and_eq_true,beq_iff_eq,beq_iff_eq] at h
   have hk:=List.eq_nil_of_length_eq_zero h.2
   exact .mk _ (fun _ _=>hk) (by rw [hk];simp)
  rw [if_neg h0] at h
  by_cases h10:t.Kind=10
  ·rw [if_pos h10,Bool.and_eq_true,beq_iff_eq,beq_iff_eq] at h
   have hk:=List.eq_nil_of_length_eq_zero h.2
   exact .mk _ (fun _ _=>hk) (by rw [hk];simp)
  rw [if_neg h10] at h
  split at h
  ·cases h
  rename_i hc
  rw [List.all_eq_true] at h
  refine .mk _ (fun h1 h2=>by omega) fun k hk => ?_
  have:=h k hk
  rw [Bool.and_eq_true] at this
  exact Yba n k (d - 1) (by have:=Zbg hk;omega) this.1
theorem Zqv {α:Type} (x:α) (l:List α):Zf1 (x::l) 1 ((x::l).length:Int)=some l:=by
 rw [Zn4 (by omega) (by simp;omega) (by omega)]
 simp
theorem Yf6 (w:Int):nrm ⟨1,[w],[]⟩=⟨1,if w=0 then [] else [w],[]⟩:=by
 rw [Gm rfl]
 by_cases h:w=0 <;> simp [tr,h]
theorem Yb4 {k:Int} (h:2≤k∧k≤9):nrm ⟨k,[],[]⟩=⟨k,[],[]⟩:=by
 rw [Zea (by simp only;omega) (by simp only;omega)];rfl
theorem Z98:∀ (l:List St) (k:Nat) (t:Tr),l.length < k→Bd t→Z23 t→Vb k t l=some (Z8f (Zl3 t l))
 | _,0,_,h,_,_=>by omega
 | [],k+1,t,_,hb,_=>by
  show V5 (Vb k) t []=_
  unfold V5
  rw [Ztx hb]
  rfl
 | s::l,k+1,t,hk,hb,htm=>by
  have htk:∀ x∈t.Kids,Z23 x:=by cases htm;assumption
  have hte:¬ t.Kind=1→¬ (2≤t.Kind∧t.Kind≤9)→t.Kids=[]:=by cases htm;assumption
  have ih:∀ x,Bd x→Z23 x→Vb k x l=some (Z8f (Zl3 x l)):=fun x=>Z98 l k x (by simp at hk;omega)
  have b0:Bd ⟨0,[],[]⟩:=Zww 0 [] (by simp) (fun x h=>by simp at h)
  have t0:Z23 ⟨0,[],[]⟩ := .mk _ (fun _ _=>rfl) (by simp)
  show V5 (Vb k) t (s::l)=_
  unfold V5
  have e0:(((s::l).length:Int) == 0)=false:=by rw [beq_eq_false_iff_ne];simp;omega
  rw [e0,cond_false,show Y7 (s::l) 0=some s from rfl,Option.bind_some,Zl3]
  by_cases hA:s.At < 0
  ·rw [decide_eq_true hA,cond_true,cond_true]
   have:stp t s=none:=by unfold stp;rw [if_neg (by omega),if_neg (by omega),if_neg (by omega),if_neg (by omega)]
   rw [this];rfl
  rw [decide_eq_false hA,cond_false]
  by_cases hS:t.Kind=1
  ·have f1:(t.Kind == 1)=true:=by rw [hS];rfl
   rw [f1]
   by_cases hB:65535≤s.At
   ·rw [decide_eq_true hB]
    have:stp t s=none:=by unfold stp;rw [if_neg (by omega),if_neg (by omega),if_neg (by omega),if_neg (by omega)]
    rw [this];rfl
   rw [decide_eq_false hB]
   simp only [cond_true,cond_false]
   by_cases k0:s.Kind=0
   ·have g0:(s.Kind == 0)=true:=by rw [k0];rfl
    have hstp:stp t s=some ((t.Kids[s.At.toNat]?).getD ⟨0,[],[]⟩):=by unfold stp;rw [if_pos ⟨k0,hS,by omega,by omega⟩]
    rw [g0,cond_true,hstp]
    simp only
    rw [if_neg (by omega)]
    by_cases hlt:s.At < (t.Kids.length:Int)
    ·obtain ⟨x,h1,h2⟩:=Zz1 (xs:=t.Kids) (by omega) hlt
     have hm:=List.mem_of_getElem? h2
     rw [decide_eq_true hlt,cond_true,h1,h2,Option.bind_some,Zqv,Option.bind_some,ih x (hb.all x hm) (htk x hm)]
     simp only [Option.bind_some,Option.getD_some,Z8z]
    rw [decide_eq_false hlt,cond_false,Zqv,Option.bind_some,ih _ b0 t0,List.getElem?_eq_none (by omega)]
    simp only [Option.bind_some,Option.getD_none,Z8z]
   have g0:(s.Kind == 0)=false:=by rw [beq_eq_false_iff_ne];exact k0
   rw [g0,cond_false]
   by_cases k1:s.Kind=1
   ·have g1:(s.Kind == 1)=true:=by rw [k1];rfl
    have hstp:stp t s=some ⟨1,[(t.Words[s.At.toNat]?).getD 0],[]⟩:=by unfold stp;rw [if_neg (by omega),if_neg (by omega),if_pos ⟨k1,hS,by omega,by omega⟩]
    rw [g1,cond_true,hstp]
    cases l with
    | nil =>
     simp only [Zl3,ne_eq,not_true_eq_false,and_false,if_false]
     rw [show ((([s]:List St).length:Int) == 1)=true from rfl]
     simp only [cond_true]
     unfold Z8f
     simp only
     rw [Yf6]
     by_cases hlt:s.At < (t.Words.length:Int)
     ·obtain ⟨x,h1,h2⟩:=Zz1 (xs:=t.Words) (by omega) hlt
      rw [decide_eq_true hlt,h1,h2]
      by_cases hx:x=0
      ·subst hx;rfl
      simp only [cond_true,Option.bind_some,Option.getD_some,if_neg hx,(bne_iff_ne (a:=x) (b:=0)).2 hx]
     rw [decide_eq_false hlt,List.getElem?_eq_none (by omega)];rfl
    | cons s' l' =>
     simp only
     rw [if_pos ⟨k0,by simp⟩]
     have e1:(((s::s'::l').length:Int) == 1)=false:=by rw [beq_eq_false_iff_ne];simp;omega
     rw [e1];rfl
   have hstp:stp t s=none:=by unfold stp;rw [if_neg (by omega),if_neg (by omega),if_neg (by omega),if_neg (by omega)]
   have e2:(decide (2≤t.Kind))=false:=by rw [hS];rfl
   rw [beq_eq_false_iff_ne.2 k1,cond_false,hstp,e2]
   cases s.Kind == 2 <;> cases (((s::l).length:Int) == 1) <;> rfl
  have f1:(t.Kind == 1)=false:=by rw [beq_eq_false_iff_ne];exact hS
  rw [f1]
  simp only [cond_false]
  by_cases k0:s.Kind=0
  ·have g0:(s.Kind == 0)=true:=by rw [k0];rfl
   rw [g0,cond_true]
   by_cases hlt:s.At < (t.Kids.length:Int)
   ·obtain ⟨x,h1,h2⟩:=Zz1 (xs:=t.Kids) (by omega) hlt
    have hm:=List.mem_of_getElem? h2
    have hL:2≤t.Kind∧t.Kind≤9:=by
     refine Classical.byContradiction fun hn => ?_
     rw [hte hS hn] at hlt
     simp at hlt;omega
    have hstp:stp t s=some x:=by unfold stp;rw [if_neg (by omega),if_pos ⟨k0,hL,by omega,hlt⟩,h2]
    rw [decide_eq_true hlt,cond_true,h1,Option.bind_some,Zqv,Option.bind_some,ih x (hb.all x hm) (htk x hm),hstp]
    simp only
    rw [if_neg (by omega)]
    simp only [Option.bind_some,Z8z]
   have hstp:stp t s=none:=by unfold stp;rw [if_neg (by omega),if_neg (by omega),if_neg (by omega),if_neg (by omega)]
   rw [decide_eq_false hlt,hstp];rfl
  have g0:(s.Kind == 0)=false:=by rw [beq_eq_false_iff_ne];exact k0
  rw [g0,cond_false]
  by_cases k1:s.Kind=1
  ·have hstp:stp t s=none:=by unfold stp;rw [if_neg (by omega),if_neg (by omega),if_neg (by omega),if_neg (by omega)]
   have g1:(s.Kind == 1)=true:=by rw [k1];rfl
   rw [hstp,g1]
   cases (((s::l).length:Int) == 1) <;> rfl
  rw [beq_eq_false_iff_ne.2 k1,cond_false]
  by_cases k2:s.Kind=2
  ·have g2:(s.Kind == 2)=true:=by rw [k2];rfl
   rw [g2,cond_true]
   by_cases hC:(2≤t.Kind∧t.Kind≤9)∧s.At≤(t.Kids.length:Int)
   ·have hstp:stp t s=some ⟨t.Kind,[],[]⟩:=by unfold stp;rw [if_neg (by omega),if_neg (by omega),if_neg (by omega),if_pos ⟨k2,hC.1,by omega,hC.2⟩]
    rw [hstp,decide_eq_true hC.1.1,decide_eq_true hC.1.2,decide_eq_true hC.2]
    cases l with
    | nil =>
     simp only [Zl3,ne_eq,not_true_eq_false,and_false,if_false]
     rw [show ((([s]:List St).length:Int) == 1)=true from rfl]
     unfold Z8f
     simp only
     rw [Yb4 hC.1]
     rfl
    | cons s' l' =>
     simp only
     rw [if_pos ⟨k0,by simp⟩]
     have e1:(((s::s'::l').length:Int) == 1)=false:=by rw [beq_eq_false_iff_ne];simp;omega
     rw [e1];rfl
   have hstp:stp t s=none:=by unfold stp;rw [if_neg (by omega),if_neg (by omega),if_neg (by omega),if_neg (by omega)]
   rw [hstp]
   have:(cond (cond (cond (((s::l).length:Int) == 1) (cond (decide (2≤t.Kind)) (decide (t.Kind≤9)) false) false) (decide (s.At≤(t.Kids.length:Int))) false) (some (Sum.inr (true,t.Kind,([]:List Int),([]:List Zb)))) (some (Sum.inl ())):Option (Unit ⊕ (Bool×Int×(List Int)×(List Zb))))=some (Sum.inl ()):=by
    by_cases h1:2≤t.Kind
    ·by_cases h2:t.Kind≤9
     ·rw [decide_eq_false (by omega:¬ s.At≤(t.Kids.length:Int))]
      cases (((s::l).length:Int) == 1) <;> cases decide (2≤t.Kind) <;> cases decide (t.Kind≤9) <;> rfl
     rw [decide_eq_false h2]
     cases (((s::l).length:Int) == 1) <;> cases decide (2≤t.Kind) <;> rfl
    rw [decide_eq_false h1]
    cases (((s::l).length:Int) == 1) <;> rfl
   rw [this];rfl
  have hstp:stp t s=none:=by unfold stp;rw [if_neg (by omega),if_neg (by omega),if_neg (by omega),if_neg (by omega)]
  rw [beq_eq_false_iff_ne.2 k2,hstp];rfl
theorem Z99 {t:Tr} {l:List St} (hb:Bd t) (ht:Z23 t):Zfv t l=some (Z8f (Zl3 t l)):=Zcr (l.length+1) fun k hk=>Z98 l k t (by omega) hb ht
inductive N1:Ed→Prop
 | mk (e:Ed) (h:∀ o∈e.Ops,(o.Kind=0∧o.E=eS0)∨(o.Kind≠0∧o.N≤1)) (ik:∀ k∈e.Kids,N1 k.E) (io:∀ o∈e.Ops,N1 o.E):N1 e
theorem N1.ops {e:Ed} (h:N1 e):∀ o∈e.Ops,(o.Kind=0∧o.E=eS0)∨(o.Kind≠0∧o.N≤1):=by cases h;assumption
theorem N1.ks {e:Ed} (h:N1 e):∀ k∈e.Kids,N1 k.E:=by cases h;assumption
theorem N1.os {e:Ed} (h:N1 e):∀ o∈e.Ops,N1 o.E:=by cases h;assumption
theorem N1.z:N1 eS0 := .mk _ (by simp [eS0]) (by simp [eS0]) (by simp [eS0])
theorem N1.of:∀ (n:Nat) (e:Ed) (d:Nat),SizeOf.sizeOf e < n→rE e d=true→N1 e
 | 0,_,_,h,_=>by omega
 | n+1,e,d,hn,h=>by
  rw [Zoo] at h
  by_cases hd:d=0
  ·rw [if_pos hd] at h;cases h
  rw [if_neg hd] at h
  by_cases h0:e.Kind=0
  ·rw [if_pos h0] at h
   rw [Zx6 h]
   exact .z
  rw [if_neg h0] at h
  by_cases h1:e.Kind=1
  ·rw [if_pos h1] at h
   unfold Zhy Zhg at h
   simp only [Bool.and_eq_true,beq_iff_eq] at h
   have e1:=List.eq_nil_of_length_eq_zero h.1.1.2
   have e2:=List.eq_nil_of_length_eq_zero h.1.2.2
   exact .mk _ (by rw [e2];simp) (by rw [e1];simp) (by rw [e2];simp)
  rw [if_neg h1] at h
  by_cases h2:e.Kind=2
  ·rw [if_pos h2] at h
   unfold Zhg at h
   simp only [Bool.and_eq_true,beq_iff_eq] at h
   have e2:=List.eq_nil_of_length_eq_zero h.1.2.2
   refine .mk _ (by rw [e2];simp) (fun k hk=>N1.of n k.E (d - 1) (by have:=Jz hk;omega) ?_) (by rw [e2];simp)
   exact Zp3 (Q:=fun k:Zk=>rE k.E (d - 1)=true) (fun p x hx=>by
    unfold okK okP at hx
    simp only [Bool.and_eq_true] at hx
    exact hx.2.2) e.Kids (-1) h.2.2 k hk
  rw [if_neg h2] at h
  by_cases h3:e.Kind=3
  ·rw [if_pos h3] at h
   unfold Zhy at h
   rw [Bool.and_eq_true,Bool.and_eq_true,Bool.and_eq_true,Bool.and_eq_true,Bool.and_eq_true,Bool.and_eq_true,beq_iff_eq,beq_iff_eq,List.all_eq_true] at h
   obtain ⟨⟨_,_,hk⟩,_,hall,hB⟩:=h
   have e1:=List.eq_nil_of_length_eq_zero hk
   have key:∀ o∈e.Ops,((o.Kind=0∧o.E=eS0)∨(o.Kind≠0∧o.N≤1))∧N1 o.E:=fun o ho=>by
    have:=hall o ho
    unfold okO at this
    by_cases k0:o.Kind=0
    ·rw [if_pos k0] at this
     simp only [Bool.and_eq_true] at this
     have q:=Zx6 this.2.2
     exact ⟨.inl ⟨k0,q⟩,by rw [q];exact .z⟩
    rw [if_neg k0] at this
    by_cases k12:o.Kind=1∨o.Kind=2
    ·rw [if_pos k12] at this
     simp only [Bool.and_eq_true,beq_iff_eq] at this
     exact ⟨.inr ⟨k0,by omega⟩,by rw [Zx6 this.2.2.2];exact .z⟩
    rw [if_neg k12] at this
    by_cases k3:o.Kind=3
    ·rw [if_pos k3] at this
     simp only [Bool.and_eq_true,beq_iff_eq] at this
     exact ⟨.inr ⟨k0,by omega⟩,N1.of n o.E (d - 1) (by have:=Uh ho;omega) this.2.2.2.2⟩
    rw [if_neg k3] at this;cases this
   exact .mk _ (fun o ho=>(key o ho).1) (by rw [e1];simp) fun o ho=>(key o ho).2
  rw [if_neg h3] at h;cases h
def thF (o:EO):Int:=if (if 1 < o.N then o.N else 1) < (o.L.length:Int) then (o.L.length:Int) else (if 1 < o.N then o.N else 1)
theorem Yig {o:EO} (hp:opk o) (hL:o.Kind=0∨o.Kind=3→o.L=[]) (h1:(o.Kind=0∧o.E=eS0)∨(o.Kind≠0∧o.N≤1)):thF o=(J7 o:Int):=by
 have key:∀ n:Int,(o.Kind=0→o.L.length=0∧1≤o.N∧n=o.N)→(o.Kind≠0→o.N≤1∧(n=o.L.length∧1≤o.L.length∨n=1∧o.L.length=0))→thF o=n:=fun n q0 q1=>by
  unfold thF
  by_cases k:o.Kind=0
  ·obtain ⟨a1,a2,a3⟩:=q0 k
   rw [a1]
   split <;> split <;> omega
  obtain ⟨a1,a2⟩:=q1 k
  rw [if_neg (show ¬ 1 < o.N by omega)]
  split <;> omega
 refine key _ (fun k => ?_) fun k => ?_
 ·have ht:J7 o=o.N.toNat:=by unfold J7;rw [if_pos k]
  rcases hp with ⟨_,hk⟩ | ⟨q,_⟩ | ⟨q,_⟩ | q
  ·exact ⟨by rw [hL (.inl k)];rfl,hk,by omega⟩
  ·omega
  ·omega
  omega
 refine ⟨by rcases h1 with h1 | h1 <;> omega,?_⟩
 rcases hp with ⟨q,_⟩ | ⟨q,hk⟩ | ⟨q,hk⟩ | q
 ·omega
 ·have ht:J7 o=o.L.length:=by unfold J7;rw [if_neg (by omega),if_neg (by omega)]
  have:o.L.length≠0:=fun q=>hk (List.eq_nil_of_length_eq_zero q)
  exact .inl ⟨by omega,by omega⟩
 ·have ht:J7 o=o.L.length:=by unfold J7;rw [if_neg (by omega),if_neg (by omega)]
  have:o.L.length≠0:=fun q=>hk (List.eq_nil_of_length_eq_zero q)
  exact .inl ⟨by omega,by omega⟩
 have ht:J7 o=1:=by unfold J7;rw [if_neg (by omega),if_pos q]
 exact .inr ⟨by omega,by rw [hL (.inr q)];rfl⟩
def inl (a:Nat):List EO→Nat→Nat→Option (Ed×Nat)
 | [],_,_=>none
 | o::os,gone,now =>
  if o.Kind=2 then inl a os gone (now+J7 o)
  else if a < gone+J7 o then (if o.Kind=1 then none else some (o.E,now+a - gone))
  else inl a os (gone+J7 o) (if o.Kind=1 then now else now+J7 o)
theorem Ycm {os:List EO} (hp:∀ o∈os,opk o) {l out:List Tr} {s':List Tr×List Tr} (h:RO os (l,out)=some s'):∃ m,s'.2=out++m:=by
 rw [Ycj os hp] at h
 obtain ⟨y,h1,rfl⟩:=Option.map_eq_some_iff.1 h
 exact ⟨y.2,rfl⟩
theorem Zz7 {a:Nat}:∀ (os:List EO) (gone now:Nat) (left out:List Tr) (s':List Tr×List Tr) (e:Ed) (b:Nat) (w:Tr),
  (∀ o∈os,opk o)→(∀ o∈os,(o.Kind=0∧o.E=eS0)∨(o.Kind≠0∧o.N≤1))→RO os (left,out)=some s'→out.length=now→gone≤a→left[a - gone]? = some w→inl a os gone now=some (e,b)→∃ w',s'.2[b]? = some w'∧ap e w=some w'
 | [],_,_,_,_,_,_,_,_,_,_,_,_,_,_,h=>by cases h
 | o::os,gone,now,left,out,s',e,b,w,hp,hn,hr,ho,hg,hw,h=>by
  have hpo:=hp o (.head _)
  have hp':∀ o∈os,opk o:=fun x hx=>hp x (.tail _ hx)
  have hn':∀ o∈os,(o.Kind=0∧o.E=eS0)∨(o.Kind≠0∧o.N≤1):=fun x hx=>hn x (.tail _ hx)
  rw [Zsk] at hr
  obtain ⟨s1,h1,h2⟩:=Option.bind_eq_some_iff.1 hr
  unfold inl at h
  rcases hpo with ⟨k,hk⟩ | ⟨k,hk⟩ | ⟨k,hk⟩ | k
  ·have ht:J7 o=o.N.toNat:=by unfold J7;rw [if_pos k]
   rw [if_neg (by omega)] at h
   rw [Z1c k] at h1
   unfold Zwd at h1
   split at h1
   ·rename_i hb
    simp only at hb
    cases h1
    split at h
    ·rename_i hlt
     rw [if_neg (by omega)] at h
     cases h
     obtain ⟨m,hm⟩:=Ycm hp' h2
     refine ⟨w,?_,?_⟩
     ·have hl:a - gone < (left.take o.N.toNat).length:=by
       have:a - gone < left.length:=by
        rcases Nat.lt_or_ge (a - gone) left.length with q | q
        ·exact q
        rw [List.getElem?_eq_none q] at hw;cases hw
       rw [List.length_take]
       omega
      have hi:a - gone < o.N.toNat:=by omega
      rw [hm,List.append_assoc,show now+a - gone=out.length+(a - gone) by omega,List.getElem?_append_right (Nat.le_add_right _ _),Nat.add_sub_cancel_left,List.getElem?_append_left hl,List.getElem?_take,if_pos hi,hw]
     rcases hn o (.head _) with q | q
     ·rw [q.2,Zjw];exact if_pos rfl
     omega
    rename_i hlt
    rw [if_neg (by omega)] at h
    have hl:(out++left.take o.N.toNat).length=now+J7 o:=by rw [List.length_append,List.length_take];omega
    refine Zz7 os (gone+J7 o) (now+J7 o) _ _ s' e b w hp' hn' h2 hl (by omega) ?_ h
    rw [List.getElem?_drop,← hw]
    congr 1
    omega
   cases h1
  ·have ht:J7 o=o.L.length:=by unfold J7;rw [if_neg (by omega),if_neg (by omega)]
   rw [if_neg (by omega)] at h
   rw [Z4s k] at h1
   unfold Yc7 at h1
   split at h1
   ·cases h1
    split at h
    ·cases h
    rename_i hlt
    refine Zz7 os (gone+J7 o) now _ _ s' e b w hp' hn' h2 ho (by omega) ?_ h
    rw [List.getElem?_drop,← hw]
    congr 1
    omega
   cases h1
  ·have ht:J7 o=o.L.length:=by unfold J7;rw [if_neg (by omega),if_neg (by omega)]
   rw [if_pos k] at h
   rw [Z8u k] at h1
   unfold Yfy at h1
   cases h1
   have hl:(out++o.L.map nrm).length=now+J7 o:=by rw [List.length_append,List.length_map];omega
   exact Zz7 os gone (now+J7 o) _ _ s' e b w hp' hn' h2 hl hg hw h
  have ht:J7 o=1:=by unfold J7;rw [if_neg (by omega),if_pos k]
  rw [if_neg (by omega)] at h
  rw [Z7s k] at h1
  cases left with
  | nil=>simp at hw
  | cons y left =>
   simp only at h1
   obtain ⟨u,hu,h1⟩:=Option.map_eq_some_iff.1 h1
   subst h1
   split at h
   ·rename_i hlt
    rw [if_neg (by omega)] at h
    cases h
    obtain ⟨m,hm⟩:=Ycm hp' h2
    have e0:a - gone=0:=by omega
    rw [e0] at hw
    simp only [List.getElem?_cons_zero,Option.some.injEq] at hw
    subst hw
    refine ⟨u,?_,hu⟩
    rw [hm,List.append_assoc,show now+a - gone=out.length+0 by omega,List.getElem?_append_right (Nat.le_add_right _ _),Nat.add_sub_cancel_left]
    rfl
   rename_i hlt
   rw [if_neg (by omega)] at h
   have hl:(out++[u]).length=now+J7 o:=by rw [List.length_append,List.length_singleton];omega
   refine Zz7 os (gone+J7 o) (now+J7 o) _ _ s' e b w hp' hn' h2 hl (by omega) ?_ h
   rw [← hw,show a - gone=(a - (gone+J7 o))+1 by omega,List.getElem?_cons_succ]
theorem Yg6 {e:Ed} (k:e.Kind=3) (t:Tr):ap e t=if t.Kind=e.List_ then Yc9 t.Kind (RO e.Ops (t.Kids,[])) else none:=by
 rw [Zjw,if_neg (by omega),if_neg (by omega),if_neg (by omega),if_pos k]
 rfl
structure FQ (e:Ed):Prop where
 z:RZ e
 b:BE e
 g:GN e
 n:N1 e
theorem FQ.s0:FQ eS0:=⟨.same _ rfl,Zsn,Zsw,.z⟩
theorem fqK {e:Ed} (h:FQ e) (k2:e.Kind=2):∀ k∈e.Kids,FQ k.E:=fun k hk=>by
 refine ⟨?_,h.b.ks k hk,h.g.ks k hk,h.n.ks k hk⟩
 cases h.z with
 | same _ q=>omega
 | repl _ q=>omega
 | li _ q=>omega
 | st _ _ _ _ _ _ ih=>exact ih k hk
theorem fqO {e:Ed} (h:FQ e) (k3:e.Kind=3):∀ o∈e.Ops,o.Kind=0∨o.Kind=3→FQ o.E:=fun o ho k=>by
 rcases k with k | k
 ·rcases h.n.ops o ho with q | q
  ·rw [q.2];exact .s0
  exact absurd k q.1
 refine ⟨?_,h.b.os o ho,h.g.os o ho,h.n.os o ho⟩
 cases h.z with
 | same _ q=>omega
 | repl _ q=>omega
 | st _ q=>omega
 | li _ _ _ _ _ _ _ ih=>exact ih o ho k
def nrw (e:Ed) (s:St):Option (Ed×Int) :=
 if s.Kind≠0∨s.At < 0 then none
 else if e.Kind=0 then some (eS0,s.At)
 else if e.Kind=2 then (match fd (·.At) e.Kids s.At.toNat with
  | none=>some (eS0,s.At)
  | some k=>some (k.E,s.At))
 else if e.Kind=3 then (inl s.At.toNat e.Ops 0 0).map fun x=>(x.1,(x.2:Int))
 else none
def Zlo:Ed→List St→List St→Option (Ed×List St)
 | e,[],m=>some (e,m)
 | e,s::l,m=>match nrw e s with
  | none=>none
  | some x=>Zlo x.1 l (m++[⟨0,x.2⟩])
theorem Z3q {a:Nat}:∀ (os:List EO) (g n:Nat) (e:Ed) (b:Nat),inl a os g n=some (e,b)→(∀ o∈os,opk o)→∃ o∈os,o.E=e∧(o.Kind=0∨o.Kind=3)
 | [],_,_,_,_,h,_=>by cases h
 | o::os,g,n,e,b,h,hp=>by
  have hpo:=Z0u (hp o (.head _))
  unfold inl at h
  split at h
  ·obtain ⟨x,h1,h2⟩:=Z3q os _ _ e b h fun x hx=>hp x (.tail _ hx)
   exact ⟨x,.tail _ h1,h2⟩
  split at h
  ·split at h
   ·cases h
   cases h
   exact ⟨o,.head _,rfl,by omega⟩
  obtain ⟨x,h1,h2⟩:=Z3q os _ _ e b h fun x hx=>hp x (.tail _ hx)
  exact ⟨x,.tail _ h1,h2⟩
theorem Yfo {α:Type} {pl:α→Int} {l:List α} {j:Nat} {x:α} (h:fd pl l j=some x):x∈l∧(pl x).toNat=j:=by
 unfold fd at h
 exact ⟨List.mem_of_find?_eq_some h,by have:=List.find?_some h;simpa using this⟩
theorem Yd2 {e:Ed} (h:FQ e) {s:St} {x:Ed×Int} (q:nrw e s=some x):FQ x.1:=by
 unfold nrw at q
 split at q
 ·cases q
 split at q
 ·cases q;exact .s0
 split at q
 ·rename_i k2
  split at q
  ·cases q;exact .s0
  rename_i k hk
  cases q
  exact fqK h k2 k (Yfo hk).1
 split at q
 ·rename_i k3
  obtain ⟨y,h1,h2⟩:=Option.map_eq_some_iff.1 q
  subst h2
  obtain ⟨o,ho,h3,h4⟩:=Z3q e.Ops 0 0 y.1 y.2 h1 h.g.p
  simp only
  rw [← h3]
  exact fqO h k3 o ho h4
 cases q
theorem Yid {t w:Tr} (gt:GT t) {s:St} (k0:s.Kind=0) (h:stp t s=some w):GT w:=by
 unfold stp at h
 split at h
 ·cases h;exact gt.at_ _
 split at h
 ·exact gt.all w (List.mem_of_getElem? h)
 rw [if_neg (by omega),if_neg (by omega)] at h
 cases h
theorem Zpq {s:St} (k0:s.Kind=0):(⟨0,s.At⟩:St)=s:=by cases s;simp_all
theorem Ygi {t:Tr} {s:St} (k0:s.Kind=0):stp (nrm t) s=(stp t s).map nrm:=by
 have nz:nrm Jj=Jj:=Zg3 _
 by_cases h1:t.Kind=1
 ·have hk:(nrm t).Kids=tr pT (t.Kids.map nrm):=by rw [Gm h1];rfl
  have e1:Vn Jj (nrm t).Kids s.At.toNat=nrm (Vn Jj t.Kids s.At.toNat):=by
   rw [hk,Zwj _ (fun x hx hp => ?_)]
   ·unfold Vn
    rw [List.getElem?_map]
    cases t.Kids[s.At.toNat]? with
    | none=>exact nz.symm
    | some x=>rfl
   obtain ⟨y,hy,rfl⟩:=List.mem_map.1 hx
   have:(nrm y).Kind=0:=by unfold pT at hp;rwa [beq_iff_eq] at hp
   rw [Ky] at this
   rw [Zg3,if_pos this]
   rfl
  unfold stp
  rw [Ky]
  by_cases hc:0≤s.At∧s.At≤65534
  ·rw [if_pos ⟨k0,h1,hc⟩,if_pos ⟨k0,h1,hc⟩]
   exact congrArg some e1
  rw [if_neg (by omega),if_neg (by omega),if_neg (by omega),if_neg (by omega),if_neg (by omega),if_neg (by omega),if_neg (by omega),if_neg (by omega)]
  rfl
 by_cases h2:2≤t.Kind∧t.Kind≤9
 ·have hk:(nrm t).Kids=t.Kids.map nrm:=by rw [Zea (by omega) h1]
  have A:∀ x:Tr,x.Kind=t.Kind→stp x s=if 0≤s.At∧s.At < x.Kids.length then x.Kids[s.At.toNat]? else none:=fun x hx=>by
   unfold stp
   rw [if_neg (by omega)]
   by_cases hc:0≤s.At∧s.At < x.Kids.length
   ·rw [if_pos ⟨k0,by omega,hc⟩,if_pos hc]
   rw [if_neg (by omega),if_neg (by omega),if_neg (by omega),if_neg hc]
  rw [A _ (Ky t),A t rfl,hk,List.length_map,List.getElem?_map]
  split <;> rfl
 have B:∀ x:Tr,x.Kind=t.Kind→stp x s=none:=fun x hx=>by
  unfold stp
  rw [if_neg (by omega),if_neg (by omega),if_neg (by omega),if_neg (by omega)]
 rw [B _ (Ky t),B t rfl]
 rfl
theorem Z6p:∀ (l:List St) (t:Tr),(∀ s∈l,s.Kind=0)→Zl3 (nrm t) l=(Zl3 t l).map nrm
 | [],t,_=>rfl
 | s::l,t,h=>by
  have k0:=h s (.head _)
  unfold Zl3
  rw [Ygi k0]
  cases stp t s with
  | none=>rfl
  | some v =>
   simp only [Option.map_some]
   rw [if_neg (by omega),if_neg (by omega)]
   exact Z6p l v fun x hx=>h x (.tail _ hx)
theorem Yhv (ks:List KE) (s:St) (hl:ks.length≤1048576):∃ r,Y8 ks s=some r∧((r=-1∧∀ k∈ks,k.At≠s.At)∨∃ (i:Nat) (x:KE),r=(i:Int)∧ks[i]? = some x∧x.At=s.At):=by
 have key:∀ (ys:List KE) (i:Nat),ks.drop i=ys→i≤ks.length→∃ z,Zv (Yf ks s) (i:Int)=some z∧(match z with
   | .inl r=>∃ (j:Nat) (x:KE),r=(j:Int)∧ks[j]? = some x∧x.At=s.At
   | .inr _=>∀ k∈ys,k.At≠s.At):=fun ys=>by
  induction ys with
  | nil =>
   intro i h hi
   have:ks.length≤i:=by
    have:=congrArg List.length h
    rw [List.length_drop,List.length_nil] at this
    omega
   refine ⟨.inr (),Z7 ?_,by simp⟩
   unfold Yf
   rw [decide_eq_false (by omega),cond_false]
  | cons x ys ih =>
   intro i h hi
   obtain ⟨d1,d2,d3⟩:=Zhn h
   have hs:Yf ks s (i:Int)=if x.At=s.At then some (.inr (.inl (i:Int))) else some (.inl ((i+1:Nat):Int)):=by
    unfold Yf Zdu
    rw [decide_eq_true (by omega),cond_true,Z6 d2,Option.bind_some,Option.bind_some,Zd5,Jm (by omega) (by omega)]
    rfl
   by_cases hx:x.At=s.At
   ·rw [if_pos hx] at hs
    exact ⟨.inl (i:Int),Z7 hs,i,x,rfl,d2,hx⟩
   rw [if_neg hx] at hs
   obtain ⟨z,z1,z2⟩:=ih (i+1) d3 (by omega)
   refine ⟨z,by rw [Y9 hs];exact z1,?_⟩
   cases z with
   | inl r=>exact z2
   | inr q =>
    intro k hk
    rcases List.mem_cons.1 hk with rfl | hk
    ·exact hx
    exact z2 k hk
 obtain ⟨z,z1,z2⟩:=key ks 0 rfl (Nat.zero_le _)
 unfold Y8
 rw [show (0:Int)=((0:Nat):Int) from rfl,z1,Option.bind_some]
 cases z with
 | inl r=>exact ⟨r,rfl,.inr z2⟩
 | inr q=>exact ⟨-1,rfl,.inl ⟨rfl,z2⟩⟩
theorem Yi9 {ks:List KE} (h:ks.Pairwise (fun a b=>(a.At).toNat≠(b.At).toNat)) {i:Nat} {x:KE} (hx:ks[i]? = some x):fd (·.At) ks x.At.toNat=some x:=Z3a h (List.mem_of_getElem? hx)
theorem Yfx (ops:List EO) (a:Nat) (hp:∀ o∈ops,opk o) (hn:∀ o∈ops,(o.Kind=0∧o.E=eS0)∨(o.Kind≠0∧o.N≤1)) (hL:∀ o∈ops,o.Kind=0∨o.Kind=3→o.L=[]) (hl:ops.length≤1048576) :
  ∀ (os:List EO) (i gone now:Nat),ops.drop i=os→i≤ops.length→gone≤a→gone+X2 os≤1073741824→now+X2 os≤1073741824 →
  ∃ z,Zv (Gf ops (a:Int)) ((gone:Int),(now:Int),(i:Int))=some z∧(match z with
   | .inl z=>(z.2.1=true→0≤z.1∧inl a os gone now=some (⟨z.2.2.1,⟨z.2.2.2.1,z.2.2.2.2.1,z.2.2.2.2.2.1⟩,⟨z.2.2.2.2.2.2.1,z.2.2.2.2.2.2.2.1,z.2.2.2.2.2.2.2.2.1⟩,z.2.2.2.2.2.2.2.2.2.1,z.2.2.2.2.2.2.2.2.2.2.1,z.2.2.2.2.2.2.2.2.2.2.2.1,z.2.2.2.2.2.2.2.2.2.2.2.2⟩,z.1.toNat))∧(z.2.1=false→inl a os gone now=none)
   | .inr _=>inl a os gone now=none):=fun os=>by
 induction os with
 | nil =>
  intro i gone now h hi _ _ _
  have:ops.length≤i:=by
   have:=congrArg List.length h
   rw [List.length_drop,List.length_nil] at this
   omega
  refine ⟨.inr (),Z7 ?_,rfl⟩
  unfold Gf
  simp only
  rw [decide_eq_false (by omega),cond_false]
 | cons o os ih =>
  intro i gone now h hi hga hg hw
  obtain ⟨d1,d2,d3⟩:=Zhn h
  have ho:o∈ops:=List.mem_of_getElem? d2
  have hth:(if (if 1 < o.N then o.N else 1) < (o.L.length:Int) then (o.L.length:Int) else (if 1 < o.N then o.N else 1))=((J7 o:Nat):Int):=Yig (hp o ho) (hL o ho) (hn o ho)
  rw [Zmo] at hg hw
  have e1:Gf ops (a:Int) ((gone:Int),(now:Int),(i:Int))=if o.Kind=2 then some (.inl ((gone:Int),((now+J7 o:Nat):Int),((i+1:Nat):Int))) else if a < gone+J7 o then some (.inr (.inl ((now:Int)+a - gone,(o.Kind != 1),o.E.Kind,o.E.Old.Kind,o.E.Old.Words,o.E.Old.Kids,o.E.New.Kind,o.E.New.Words,o.E.New.Kids,o.E.Words,o.E.Kids,o.E.List_,o.E.Ops))) else some (.inl (((gone+J7 o:Nat):Int),(((if o.Kind=1 then now else now+J7 o):Nat):Int),((i+1:Nat):Int))):=by
   unfold Gf
   simp only
   rw [decide_eq_true (by omega),cond_true,Z6 d2]
   simp only [Option.bind_some,hth]
   rw [Jm (x:=(gone:Int)+(J7 o:Nat)) (by omega) (by omega),Jm (x:=(now:Int)+(J7 o:Nat)) (by omega) (by omega),Jm (x:=(i:Int)+1) (by omega) (by omega)]
   by_cases k2:o.Kind=2
   ·rw [if_pos k2,beq_iff_eq.2 k2]
    rfl
   have k2':(o.Kind == 2)=false:=beq_eq_false_iff_ne.2 k2
   rw [if_neg k2,k2']
   simp only [cond_false]
   by_cases hlt:a < gone+J7 o
   ·rw [if_pos hlt,decide_eq_true (by omega)]
    simp only [cond_true,Option.bind_some]
    rw [Jm (x:=(now:Int)+(a:Nat)) (by omega) (by omega),Jm (x:=(now:Int)+(a:Nat) - (gone:Nat)) (by omega) (by omega)]
   rw [if_neg hlt,decide_eq_false (by omega)]
   by_cases k1:o.Kind=1
   ·have k1':(o.Kind != 1)=false:=by rw [k1];rfl
    rw [k1',if_pos k1]
    rfl
   have k1':(o.Kind != 1)=true:=by rw [bne_iff_ne];exact k1
   rw [k1',if_neg k1]
   rfl
  unfold inl
  by_cases k2:o.Kind=2
  ·rw [if_pos k2] at e1 ⊢
   obtain ⟨z,z1,z2⟩:=ih (i+1) gone (now+J7 o) d3 (by omega) hga (by omega) (by omega)
   exact ⟨z,by rw [Y9 e1];exact z1,z2⟩
  rw [if_neg k2] at e1 ⊢
  by_cases hlt:a < gone+J7 o
  ·rw [if_pos hlt] at e1 ⊢
   refine ⟨_,Z7 e1,fun hb => ?_,fun hb => ?_⟩
   ·simp only [bne_iff_ne] at hb
    rw [if_neg hb]
    simp only
    refine ⟨by omega,?_⟩
    rw [Z28]
    congr 2
    omega
   simp only [bne_eq_false_iff_eq] at hb
   rw [if_pos hb]
  rw [if_neg hlt] at e1 ⊢
  obtain ⟨z,z1,z2⟩:=ih (i+1) (gone+J7 o) (if o.Kind=1 then now else now+J7 o) d3 (by omega) (by omega) (by omega) (by split <;> omega)
  exact ⟨z,by rw [Y9 e1];exact z1,z2⟩
theorem Yfq {e:Ed} (hq:FQ e) (k3:e.Kind=3):∀ o∈e.Ops,o.Kind=0∨o.Kind=3→o.L=[]:=by
 cases hq.z with
 | same _ q=>omega
 | repl _ q=>omega
 | st _ q=>omega
 | li _ _ _ _ hN=>exact hN
theorem Yb2 {e:Ed} (hq:FQ e) (k3:e.Kind=3) {a:Int} (h0:0≤a):∃ f i b,Zfd e.Ops a=some (f,i,b)∧(b=true→0≤i∧inl a.toNat e.Ops 0 0=some (f,i.toNat))∧(b=false→inl a.toNat e.Ops 0 0=none):=by
 have hs:=hq.g.s
 obtain ⟨z,z1,z2⟩:=Yfx e.Ops a.toNat hq.g.p hq.n.ops (Yfq hq k3) hq.g.o e.Ops 0 0 0 rfl (Nat.zero_le _) (Nat.zero_le _) (by omega) (by omega)
 rw [Int.toNat_of_nonneg h0] at z1
 unfold Zfd
 rw [show ((0:Int),(0:Int),(0:Int))=(((0:Nat):Int),((0:Nat):Int),((0:Nat):Int)) from rfl,z1,Option.bind_some]
 cases z with
 | inl z=>exact ⟨_,z.1,z.2.1,rfl,z2.1,z2.2⟩
 | inr q=>exact ⟨_,_,false,rfl,(fun h=>by cases h),fun _=>z2⟩
theorem Z67 {e:Ed} (hq:FQ e) (s:St):∃ f i b,Zde e s=some (f,i,b)∧(b=true→nrw e s=some (f,i))∧(b=false→nrw e s=none):=by
 unfold Zde nrw
 by_cases hs:s.Kind≠0∨s.At < 0
 ·have:cond (s.Kind != 0) true (decide (s.At < 0))=true:=by
   by_cases h:s.Kind=0
   ·rw [show (s.Kind != 0)=false by rw [h];rfl,cond_false,decide_eq_true (by omega)]
   rw [show (s.Kind != 0)=true by rw [bne_iff_ne];exact h]
   rfl
  rw [this,if_pos hs]
  exact ⟨_,_,false,rfl,(fun h=>by cases h),fun _=>rfl⟩
 have:cond (s.Kind != 0) true (decide (s.At < 0))=false:=by
  rw [show (s.Kind != 0)=false by rw [show s.Kind=0 by omega];rfl,cond_false,decide_eq_false (by omega)]
 rw [this,if_neg hs,cond_false]
 simp only [Zd5]
 by_cases k0:e.Kind=0
 ·rw [if_pos k0,if_pos k0]
  exact ⟨_,_,true,rfl,(fun _=>rfl),fun h=>by cases h⟩
 rw [if_neg k0,if_neg k0]
 by_cases k2:e.Kind=2
 ·rw [if_pos k2,if_pos k2]
  obtain ⟨r,r1,r2⟩:=Yhv e.Kids s hq.g.k
  rw [r1,Option.bind_some]
  have hz:=hq.z
  cases hz with
  | same _ q=>omega
  | repl _ q=>omega
  | li _ q=>omega
  | st _ _ _ _ hk hk2 _ =>
   rcases r2 with ⟨rfl,h2⟩ | ⟨j,x,rfl,h2,h3⟩
   ·rw [decide_eq_true (by omega),cond_true,Yfp (fun x hx=>by have:=h2 x hx;have:=hk2 x hx;omega)]
    exact ⟨_,_,true,rfl,(fun _=>rfl),fun h=>by cases h⟩
   rw [decide_eq_false (by omega),cond_false,Z6 h2,Option.bind_some,← h3,Yi9 (Ztv hk hk2) h2]
   exact ⟨_,_,true,rfl,(fun _=>rfl),fun h=>by cases h⟩
 rw [if_neg k2,if_neg k2]
 by_cases k3:e.Kind=3
 ·rw [if_pos k3,if_pos k3]
  obtain ⟨f,i,b,h1,h2,h3⟩:=Yb2 hq k3 (a:=s.At) (by omega)
  rw [h1,Option.bind_some]
  refine ⟨f,i,b,rfl,fun hb => ?_,fun hb => ?_⟩
  ·obtain ⟨q1,q2⟩:=h2 hb
   rw [q2,Option.map_some,Int.toNat_of_nonneg q1]
  rw [h3 hb]
  rfl
 rw [if_neg k3,if_neg k3]
 exact ⟨_,_,false,rfl,(fun h=>by cases h),fun _=>rfl⟩
theorem Z66 (l:List St) (hl:l.length≤70):∀ (ys:List St) (i:Nat) (e:Ed) (m:List St),l.drop i=ys→i≤l.length→m.length=i→FQ e →
  Zv (Ge l) ((i:Int),e.Kind,e.Old.Kind,e.Old.Words,e.Old.Kids,e.New.Kind,e.New.Words,e.New.Kids,e.Words,e.Kids,e.List_,e.Ops,m) =
   some (match Zlo e ys m with
    | none => .inl ()
    | some x => .inr (x.1.Kind,x.1.Old.Kind,x.1.Old.Words,x.1.Old.Kids,x.1.New.Kind,x.1.New.Words,x.1.New.Kids,x.1.Words,x.1.Kids,x.1.List_,x.1.Ops,x.2)):=fun ys=>by
 induction ys with
 | nil =>
  intro i e m h hi hm hq
  have:l.length≤i:=by
   have:=congrArg List.length h
   rw [List.length_drop,List.length_nil] at this
   omega
  rw [Z7 (r := .inr (e.Kind,e.Old.Kind,e.Old.Words,e.Old.Kids,e.New.Kind,e.New.Words,e.New.Kids,e.Words,e.Kids,e.List_,e.Ops,m))]
  ·rfl
  unfold Ge
  simp only
  rw [decide_eq_false (by omega),cond_false]
 | cons s ys ih =>
  intro i e m h hi hm hq
  obtain ⟨d1,d2,d3⟩:=Zhn h
  obtain ⟨f,j,b,n1,n2,n3⟩:=Z67 hq s
  have hs:Ge l ((i:Int),e.Kind,e.Old.Kind,e.Old.Words,e.Old.Kids,e.New.Kind,e.New.Words,e.New.Kids,e.Words,e.Kids,e.List_,e.Ops,m)=if b=true then some (.inl (((i+1:Nat):Int),f.Kind,f.Old.Kind,f.Old.Words,f.Old.Kids,f.New.Kind,f.New.Words,f.New.Kids,f.Words,f.Kids,f.List_,f.Ops,m++[⟨0,j⟩])) else some (.inr (.inl ())):=by
   unfold Ge
   simp only
   rw [decide_eq_true (by omega),cond_true,Z6 d2,Option.bind_some,Z28,n1,Option.bind_some]
   simp only
   cases b with
   | false=>rfl
   | true =>
    rw [Bool.not_true,cond_false,Jc (by simp only [List.length_singleton];omega) (by simp only [List.length_singleton];omega),Option.bind_some,Jm (by omega) (by omega)]
    rfl
  cases b with
  | false =>
   rw [if_neg (by decide)] at hs
   rw [Z7 hs]
   unfold Zlo
   rw [n3 rfl]
  | true =>
   rw [if_pos rfl] at hs
   have hn:=n2 rfl
   rw [Y9 hs,ih (i+1) f (m++([⟨0,j⟩]:List St)) d3 (by omega) (by rw [List.length_append,List.length_singleton];omega) (Yd2 hq hn)]
   have e2:Zlo e (s::ys) m=Zlo f ys (m++[⟨0,j⟩]):=by
    rw [Zlo,hn]
   rw [e2]
theorem Z9x:∀ (l:List St) (e:Ed) (m:List St) (x:Ed×List St),FQ e→Zlo e l m=some x→FQ x.1
 | [],e,m,x,hq,h=>by cases h;exact hq
 | s::l,e,m,x,hq,h=>by
  rw [Zlo] at h
  cases hx:nrw e s with
  | none=>rw [hx] at h;cases h
  | some y =>
   rw [hx] at h
   exact Z9x l y.1 _ x (Yd2 hq hx) h
theorem Z2m {e:Ed} (hq:FQ e) {l:List St} (hl:l.length≤70):Ux e l=some (match Zlo e l [] with
  | none=>(eS0,[],false)
  | some x=>(nE x.1,x.2,true)):=by
 unfold Ux
 have h:=Z66 l hl l 0 e [] rfl (Nat.zero_le _) rfl hq
 rw [show ((0:Nat):Int)=0 from rfl] at h
 rw [h,Option.bind_some]
 cases hx:Zlo e l [] with
 | none=>rfl
 | some x =>
  have fx:=Z9x l e [] x hq hx
  simp only
  rw [Z28,Ydz fx.b fx.g,Option.bind_some]
def aw40e:Ed:=⟨2,Jj,Jj,[⟨0,1,1,2⟩],[],0,[]⟩
def aw40x:Ed:=⟨3,Jj,Jj,[],[],8,[⟨0,1,[],eS0⟩,⟨3,0,[],aw40e⟩,⟨0,1,[],eS0⟩]⟩
def Yg7:Tr:=⟨8,[],[⟨0,[],[]⟩,⟨1,[1],[]⟩,⟨0,[],[]⟩]⟩
set_option maxRecDepth 20000 in
theorem Z26:Zgt Yg7 [⟨0,1⟩] aw40e=some (aw40x,true):=by
 refine Zcr 2 fun k hk => ?_
 obtain ⟨j,rfl⟩:∃ j,k=j+2:=⟨k - 2,by omega⟩
 rfl
theorem Yfh {d:Nat} (h:1≤d):rE aw40e d=true:=by
 rw [Zoo,if_neg (by omega),if_neg (by decide),if_neg (by decide),if_pos (show aw40e.Kind=2 from rfl)]
 rfl
theorem Z25:rE aw40x 64=true:=by
 rw [Zoo,if_neg (by omega),if_neg (by decide),if_neg (by decide),if_neg (by decide),if_pos (show aw40x.Kind=3 from rfl)]
 simp only [aw40x,List.all_cons,List.all_nil,Yja (d:=63) (by omega),Yfh (d:=63) (by omega)]
 rfl
theorem aw40_be:BE aw40x∧BE aw40e:=by
 have h:BE aw40e := .mk _ Zib Zib (by simp [aw40e]) (by simp [aw40e]) (by simp [aw40e]) (by simp [aw40e]) (by simp [aw40e]) (by simp [aw40e]) (by simp [aw40e])
 refine ⟨.mk _ Zib Zib (by simp [aw40x]) (by simp [aw40x]) (by simp [aw40x]) (by simp [aw40x]) (by simp [aw40x]) (by simp [aw40x]) fun o ho => ?_,h⟩
 simp only [aw40x,List.mem_cons,List.not_mem_nil,or_false] at ho
 rcases ho with rfl | rfl | rfl
 ·exact Zsn
 ·exact h
 exact Zsn
theorem aw40_gn:GN aw40x∧GN aw40e:=by
 have h:GN aw40e := .mk _ (by simp [aw40e]) (by simp [aw40e]) (by simp [aw40e]) (by simp [aw40e,X2]) (by simp [aw40e]) (by simp [aw40e]) (by simp [aw40e])
 refine ⟨.mk _ (by simp [aw40x]) (by simp [aw40x]) (by simp [aw40x]) (by simp [aw40x,X2,J7]) (by simp [aw40x,opk]) (by simp [aw40x]) fun o ho => ?_,h⟩
 simp only [aw40x,List.mem_cons,List.not_mem_nil,or_false] at ho
 rcases ho with rfl | rfl | rfl
 ·exact Zsw
 ·exact h
 exact Zsw
theorem Z89:nE aw40e=aw40e:=by
 rw [Zd9]
 simp [aw40e]
theorem Yfg:nE aw40x=aw40x:=by
 have hi:Zgf 8 aw40e=false:=rfl
 rw [Zd9]
 simp [hi,aw40x,Znl,Jr,stN,s0N,NW.flush,Zak,Zdi,Km,Z89]
theorem Zgp:Qe=some true:=by
 have hW:Zb4 Yg7 [⟨0,1⟩] aw40e=some (aw40x,true):=by
  unfold Zb4
  rw [Z26,Option.bind_some]
  simp only
  rw [Bool.not_true,cond_false,Ydz aw40_be.1 aw40_gn.1,Option.bind_some,Yfg,Z2c aw40_be.1,Option.bind_some,Z25]
  rfl
 have fq:FQ aw40x:=⟨Z7g _ _ 64 (Nat.lt_succ_self _) Z25,aw40_be.1,aw40_gn.1,N1.of _ _ 64 (Nat.lt_succ_self _) Z25⟩
 have hN:=Z2m fq (l:=[⟨0,1⟩]) (by simp)
 have hL:Zlo aw40x [⟨0,1⟩] []=some (aw40e,[⟨0,1⟩]):=rfl
 rw [hL] at hN
 simp only at hN
 rw [Z89] at hN
 unfold Qe
 refine Option.bind_eq_some_iff.2 ⟨_,hW,Option.bind_eq_some_iff.2 ⟨_,hN,?_⟩⟩
 rfl
theorem Ydi {t:Tr} (h:Bd t):∃ b,U5 t=some b∧(b=true→TX t∧pt t≤3000∧Z23 t):=by
 obtain ⟨b,h1,h2⟩:=Yht h
 have h3:=Zqn h (d:=64) (by decide)
 rw [show ((64:Nat):Int)=64 from rfl] at h3
 unfold U5
 rw [h1,Option.bind_some,h3]
 refine ⟨b && (rt t 64 && (t.Kind != 10)),?_,fun q => ?_⟩
 ·cases b <;> cases rt t 64 <;> cases (t.Kind != 10) <;> rfl
 simp only [Bool.and_eq_true] at q
 exact ⟨Z7o _ t 64 (Nat.lt_succ_self _) q.2.1,h2 q.1,Yba _ t 64 (Nat.lt_succ_self _) q.2.1⟩
def kp (n:Int):List EO:=if n=0 then [] else [⟨0,n,[],eS0⟩]
def SW (i:Int) (w:Ed):Ed:=⟨2,Jj,Jj,[],[⟨i,w⟩],0,[]⟩
def LW (k i r:Int) (w:Ed):Ed:=⟨3,Jj,Jj,[],[],k,kp i++(⟨3,0,[],w⟩::kp r)⟩
def Z5p (t:Tr) (s:St):Prop:=s.Kind=0∧0≤s.At∧((t.Kind=1∧s.At≤65534)∨((2≤t.Kind∧t.Kind≤9)∧s.At < t.Kids.length))
noncomputable instance decThr (t:Tr) (s:St):Decidable (Z5p t s):=by unfold Z5p;infer_instance
noncomputable def wr:Tr→List St→Ed→Option Ed
 | t,[],e=>if t.Kind=10 then none else some e
 | t,s::l,e=>if Z5p t s then (match wr ((t.Kids[s.At.toNat]?).getD Jj) l e with
  | none=>none
  | some w=>some (if w.Kind=0 then eS0 else if t.Kind=1 then SW s.At w else LW t.Kind s.At ((t.Kids.length:Int) - s.At - 1) w)) else none
theorem Ygu {t:Tr} {s:St} (h:Z5p t s):Zcs t s=some true:=by
 obtain ⟨k0,h0,h⟩:=h
 unfold Zcs Uy
 have e0:(s.Kind != 0)=false:=by rw [k0];rfl
 rw [e0,cond_false,decide_eq_false (by omega:¬ s.At < 0),cond_false]
 rcases h with ⟨k1,hb⟩ | ⟨⟨h2,h9⟩,hl⟩
 ·have e1:(t.Kind == 1)=true:=by rw [k1];rfl
  rw [e1,decide_eq_true hb]
  rfl
 have e1:(t.Kind == 1)=false:=beq_eq_false_iff_ne.2 (by omega)
 rw [e1,decide_eq_true h2,decide_eq_true h9,decide_eq_true hl]
 rfl
theorem Ygt {t:Tr} {s:St} (h:¬ Z5p t s):Zcs t s=some false:=by
 unfold Z5p at h
 unfold Zcs Uy
 by_cases k0:s.Kind=0
 ·have e0:(s.Kind != 0)=false:=by rw [k0];rfl
  rw [e0,cond_false]
  by_cases h0:s.At < 0
  ·rw [decide_eq_true h0]
   rfl
  rw [decide_eq_false h0,cond_false]
  by_cases k1:t.Kind=1
  ·have e1:(t.Kind == 1)=true:=by rw [k1];rfl
   rw [e1,decide_eq_false (by omega:¬ s.At≤65534),decide_eq_false (by omega:¬ 2≤t.Kind)]
   rfl
  have e1:(t.Kind == 1)=false:=beq_eq_false_iff_ne.2 k1
  rw [e1]
  by_cases h2:2≤t.Kind
  ·by_cases h9:t.Kind≤9
   ·rw [decide_eq_true h2,decide_eq_true h9,decide_eq_false (by omega:¬ s.At < t.Kids.length)]
    rfl
   rw [decide_eq_true h2,decide_eq_false h9]
   rfl
  rw [decide_eq_false h2]
  rfl
 have e0:(s.Kind != 0)=true:=by rw [bne_iff_ne];exact k0
 rw [e0]
 rfl
theorem Zzi {l:List EO} (n:Int) (hl:l.length≤10):Ua l n=some (l++kp n):=by
 unfold Ua kp
 rw [Zd5]
 by_cases h:n=0
 ·rw [if_pos h,if_pos h,List.append_nil]
 rw [if_neg h,if_neg h,Jc (by simp only [List.length_singleton];omega) (by simp only [List.length_singleton];omega)]
 rfl
theorem Zz8 (n:Int):(kp n).length≤1:=by unfold kp;split <;> simp
theorem Yhx {t:Tr} (h:Bd t) (i:Nat):Bd ((t.Kids[i]?).getD Jj):=by
 cases hq:t.Kids[i]? with
 | none=>exact Zib
 | some x=>exact h.all x (List.mem_of_getElem? hq)
noncomputable def wrF:Tr→List St→Ed→Ed×Bool
 | t,[],e=>(e,t.Kind != 10)
 | t,s::l,e=>if Z5p t s then (if (wrF ((t.Kids[s.At.toNat]?).getD Jj) l e).2=false then (eS0,false) else if (wrF ((t.Kids[s.At.toNat]?).getD Jj) l e).1.Kind=0 then (eS0,true) else if t.Kind=1 then (SW s.At (wrF ((t.Kids[s.At.toNat]?).getD Jj) l e).1,true) else (LW t.Kind s.At ((t.Kids.length:Int) - s.At - 1) (wrF ((t.Kids[s.At.toNat]?).getD Jj) l e).1,true)) else (eS0,false)
theorem Ye7 {e:Ed}:∀ (l:List St) (t:Tr),((wrF t l e).2=true→wr t l e=some (wrF t l e).1)∧((wrF t l e).2=false→wr t l e=none)
 | [],t=>by
  rw [wrF,wr]
  refine ⟨fun h => ?_,fun h => ?_⟩
  ·simp only [bne_iff_ne] at h
   rw [if_neg h]
  simp only [bne_eq_false_iff_eq] at h
  rw [if_pos h]
 | s::l,t=>by
  obtain ⟨i1,i2⟩:=Ye7 (e:=e) l ((t.Kids[s.At.toNat]?).getD Jj)
  rw [wrF,wr]
  by_cases ht:Z5p t s
  ·rw [if_pos ht,if_pos ht]
   by_cases h2:(wrF ((t.Kids[s.At.toNat]?).getD Jj) l e).2=false
   ·rw [if_pos h2,i2 h2]
    exact ⟨(fun h=>by cases h),fun _=>rfl⟩
   rw [if_neg h2,i1 (by simpa using h2)]
   simp only
   split
   ·exact ⟨(fun _=>rfl),fun h=>by cases h⟩
   split
   ·exact ⟨(fun _=>rfl),fun h=>by cases h⟩
   exact ⟨(fun _=>rfl),fun h=>by cases h⟩
  rw [if_neg ht,if_neg ht]
  exact ⟨(fun h=>by cases h),fun _=>rfl⟩
theorem Z1m {e:Ed}:∀ (l:List St) (k:Nat) (t:Tr),l.length < k→l.length≤100→Bd t→G8 k t l e=some (wrF t l e)
 | _,0,_,h,_,_=>by omega
 | [],k+1,t,_,_,_=>by
  show Gi (G8 k) t [] e=_
  unfold Gi
  rw [wrF]
  rfl
 | s::l,k+1,t,hk,hl,hb=>by
  show Gi (G8 k) t (s::l) e=_
  unfold Gi
  rw [show (((s::l).length:Int) == 0)=false by rw [beq_eq_false_iff_ne,List.length_cons];omega,cond_false]
  rw [show Y7 (s::l) 0=some s from rfl,Option.bind_some,Option.bind_some,wrF]
  by_cases ht:Z5p t s
  ·rw [if_pos ht,Ygu ht,Option.bind_some,Bool.not_true,cond_false,Yhw (by exact ht.2.1),Option.bind_some,Zqv s l,Option.bind_some]
   have ih:=Z1m (e:=e) l k ((t.Kids[s.At.toNat]?).getD Jj) (by simp only [List.length_cons] at hk;omega) (by simp only [List.length_cons] at hl;omega) (Yhx hb _)
   rw [show ((t.Kids[s.At.toNat]?).getD ⟨0,[],[]⟩)=(t.Kids[s.At.toNat]?).getD Jj from rfl,ih,Option.bind_some]
   generalize wrF ((t.Kids[s.At.toNat]?).getD Jj) l e=y
   obtain ⟨w,b⟩:=y
   simp only
   cases b with
   | false=>rfl
   | true =>
    rw [if_neg (by simp),Bool.not_true,cond_false]
    by_cases w0:w.Kind=0
    ·rw [show (w.Kind == 0)=true by rw [w0];rfl,cond_true,if_pos w0]
     rfl
    rw [show (w.Kind == 0)=false from beq_eq_false_iff_ne.2 w0,cond_false,if_neg w0]
    by_cases k1:t.Kind=1
    ·rw [show (t.Kind == 1)=true by rw [k1];rfl,cond_true,if_pos k1]
     rfl
    rw [show (t.Kind == 1)=false from beq_eq_false_iff_ne.2 k1,cond_false,if_neg k1]
    have hA:0≤s.At∧s.At < t.Kids.length:=by
     obtain ⟨_,q1,q2⟩:=ht
     rcases q2 with q2 | q2
     ·exact absurd q2.1 k1
     exact ⟨q1,q2.2⟩
    have hkb:=hb.k
    rw [Zzi (l:=[]) _ (by simp),Option.bind_some,List.nil_append,Jc (by have:=Zz8 s.At;simp only [List.length_singleton];omega) (by have:=Zz8 s.At;simp only [List.length_singleton];omega),Option.bind_some]
    rw [Jm (x:=(t.Kids.length:Int) - s.At) (by omega) (by omega),Jm (x:=(t.Kids.length:Int) - s.At - 1) (by omega) (by omega),Zzi _ (by have:=Zz8 s.At;rw [List.length_append];simp only [List.length_singleton];omega),Option.bind_some]
    unfold LW
    rw [List.append_assoc]
    rfl
  rw [Ygt ht,Option.bind_some,if_neg ht]
  rfl
theorem Z80 {e:Ed} {t:Tr} {l:List St} (hl:l.length≤100) (hb:Bd t):Zgt t l e=some (wrF t l e):=Zcr (l.length+1) fun k hk=>Z1m l k t (by omega) hl hb
theorem Z3t {n:Int} {o:EO} (h:o∈kp n):o=⟨0,n,[],eS0⟩∧n≠0:=by
 unfold kp at h
 split at h
 ·cases h
 rename_i q
 exact ⟨List.mem_singleton.1 h,q⟩
theorem Z3u (n:Int):X2 (kp n)≤n.toNat:=by
 unfold kp
 split
 ·simp [X2]
 simp [X2,J7]
theorem Yh7 (t:Tr):t.Kids.length≤pt t:=by
 rw [Ztr]
 have:t.Kids.length≤(t.Kids.map pt).sum:=Zl8 fun x _=>by rw [Ztr];omega
 omega
theorem Ybj {e:Ed} (he:BE e) (hg:GN e):∀ (l:List St) (t:Tr) (X:Ed),pt t≤3000→wr t l e=some X→BE X∧GN X
 | [],t,X,_,h=>by
  rw [wr] at h
  split at h
  ·cases h
  cases h;exact ⟨he,hg⟩
 | s::l,t,X,hp,h=>by
  rw [wr] at h
  split at h
  ·rename_i ht
   cases hw:wr ((t.Kids[s.At.toNat]?).getD Jj) l e with
   | none=>rw [hw] at h;cases h
   | some w =>
    rw [hw] at h
    simp only [Option.some.injEq] at h
    have hpk:pt ((t.Kids[s.At.toNat]?).getD Jj)≤3000:=by
     cases hq:t.Kids[s.At.toNat]? with
     | none=>show pt Jj≤3000;rw [Yec];omega
     | some x=>exact Nat.le_trans (Z3s (List.mem_of_getElem? hq)) hp
    obtain ⟨b1,b2⟩:=Ybj he hg l _ w hpk hw
    split at h
    ·rw [← h];exact ⟨Zsn,Zsw⟩
    split at h
    ·rw [← h]
     exact ⟨.mk _ Zib Zib (by simp [SW]) (by simp [SW]) (by simp [SW]) (by simp [SW];exact b1) (by simp [SW]) (by simp [SW]) (by simp [SW]),.mk _ (by simp [SW]) (by simp [SW]) (by simp [SW]) (by simp [SW,X2]) (by simp [SW]) (by simp [SW];exact b2) (by simp [SW])⟩
    rename_i k1
    rw [← h]
    have hA:0≤s.At∧s.At < t.Kids.length:=by
     obtain ⟨_,q1,q2⟩:=ht
     rcases q2 with q2 | q2
     ·exact absurd q2.1 k1
     exact ⟨q1,q2.2⟩
    have hlen:=Yh7 t
    have mem:∀ o∈(LW t.Kind s.At ((t.Kids.length:Int) - s.At - 1) w).Ops,(o.Kind=0∧1≤o.N∧o.L=[]∧o.E=eS0)∨(o.Kind=3∧o.L=[]∧o.E=w):=fun o ho=>by
     simp only [LW,List.mem_append,List.mem_cons] at ho
     rcases ho with ho | rfl | ho
     ·obtain ⟨rfl,q⟩:=Z3t ho
      exact .inl ⟨rfl,by simp only;omega,rfl,rfl⟩
     ·exact .inr ⟨rfl,rfl,rfl⟩
     obtain ⟨rfl,q⟩:=Z3t ho
     exact .inl ⟨rfl,by simp only;omega,rfl,rfl⟩
    have l1:=Zz8 s.At
    have l2:=Zz8 ((t.Kids.length:Int) - s.At - 1)
    have s1:=Z3u s.At
    have s2:=Z3u ((t.Kids.length:Int) - s.At - 1)
    refine ⟨.mk _ Zib Zib (by simp [LW]) (by simp [LW]) (by simp [LW]) (by simp [LW]) (by simp only [LW,List.length_append,List.length_cons];omega) (fun o ho => ?_) (fun o ho => ?_),.mk _ (by simp [LW]) (by simp [LW]) (by simp only [LW,List.length_append,List.length_cons];omega) ?_ (fun o ho => ?_) (by simp [LW]) (fun o ho => ?_)⟩
    ·rcases mem o ho with q | q
     ·rw [q.2.2.1];simp
     rw [q.2.1];simp
    ·rcases mem o ho with q | q
     ·rw [q.2.2.2];exact Zsn
     rw [q.2.2];exact b1
    ·simp only [LW]
     rw [Zi9,Zmo]
     have:J7 ⟨3,0,[],w⟩=1:=by unfold J7;rw [if_neg (by simp),if_pos rfl]
     omega
    ·rcases mem o ho with q | q
     ·exact .inl ⟨q.1,q.2.1⟩
     exact .inr (.inr (.inr q.1))
    rcases mem o ho with q | q
    ·rw [q.2.2.2];exact Zsw
    rw [q.2.2];exact b2
  cases h
theorem Yix (i:Int) (w:Ed):nE (SW i w)=SW i (nE w):=by
 rw [Zd9]
 simp [SW]
theorem Yiw {k i r:Int} {w:Ed} (hi:0≤i) (hr:0≤r):nE (LW k i r w)=if Zgf k (nE w)=true then ⟨3,Jj,Jj,[],[],k,[⟨0,i+1+r,[],eS0⟩]⟩ else LW k i r (nE w):=by
 have hz:nE eS0=eS0:=by rw [Zd9];simp [eS0]
 rw [Zd9]
 unfold LW kp
 by_cases h0:i=0 <;> by_cases h1:r=0 <;> by_cases hI:Zgf k (nE w)=true <;> simp [h0,h1,hI,hz,Znl,Jr,stN,s0N,NW.flush,Zak,Zdi,Km]
inductive PE:Ed→List St→Prop
 | nil (e:Ed):PE e []
 | same (e:Ed) (l:List St) (h:e.Kind=0):PE e l
 | st (s:St) (l:List St) (w:Ed) (k0:s.Kind=0) (h0:0≤s.At) (h:PE w l):PE (SW s.At w) (s::l)
 | li (k r:Int) (s:St) (l:List St) (w:Ed) (k0:s.Kind=0) (h0:0≤s.At) (hr:0≤r) (h:PE w l):PE (LW k s.At r w) (s::l)
 | idle (k n:Int) (l:List St):PE ⟨3,Jj,Jj,[],[],k,[⟨0,n,[],eS0⟩]⟩ l
def Ydm (e:Ed):Prop:=e.Kind=2∧e.Words=[]∧e.Kids=[]
theorem Z2o:∀ (l:List St) (e:Ed) (m:List St),e.Kind=0→l≠[]→(∀ s∈l,s.Kind=0∧0≤s.At)→Zlo e l m=some (eS0,m++l)
 | [],_,_,_,h,_=>absurd rfl h
 | s::l,e,m,k,_,hl=>by
  obtain ⟨k0,h0⟩:=hl s (.head _)
  have hn:nrw e s=some (eS0,s.At):=by
   unfold nrw
   rw [if_neg (by omega),if_pos k]
  rw [Zlo,hn]
  simp only
  rw [Zpq k0]
  cases l with
  | nil=>rfl
  | cons s' l' =>
   rw [Z2o (s'::l') eS0 (m++[s]) rfl (by simp) fun x hx=>hl x (.tail _ hx),List.append_assoc]
   rfl
theorem Ydn {i r:Int} {w:Ed} (hi:0≤i) (hr:0≤r) (a:Nat) (ha:(a:Int) < i+1+r):inl a (kp i++(⟨3,0,[],w⟩::kp r)) 0 0=some (if (a:Int)=i then w else eS0,a):=by
 have t3:J7 ⟨3,0,[],w⟩=1:=by unfold J7;rw [if_neg (by simp),if_pos rfl]
 have tk:∀ n:Int,J7 ⟨0,n,[],eS0⟩=n.toNat:=fun n=>by unfold J7;rw [if_pos rfl]
 have mid:∀ g:Nat,(g:Int)=i→inl a (⟨3,0,[],w⟩::kp r) g g=if g≤a then some (if (a:Int)=i then w else eS0,a) else some (w,g+a - g):=fun g hg=>by
  rw [inl,if_neg (by simp),t3]
  by_cases h1:a < g+1
  ·rw [if_pos h1,if_neg (by simp)]
   by_cases h2:g≤a
   ·rw [if_pos h2,if_pos (by omega)]
    congr 2
    omega
   rw [if_neg h2]
  rw [if_neg h1,if_neg (by simp),if_pos (by omega),if_neg (by omega)]
  unfold kp
  rw [if_neg (by omega),inl,if_neg (by simp),tk,if_pos (by omega),if_neg (by simp)]
  congr 2
  omega
 by_cases h0:i=0
 ·have:kp i=[]:=by unfold kp;rw [if_pos h0]
  rw [this,List.nil_append,mid 0 (by omega),if_pos (Nat.zero_le _)]
 have:kp i=[⟨0,i,[],eS0⟩]:=by unfold kp;rw [if_neg h0]
 rw [this,List.singleton_append,inl,if_neg (by simp),tk]
 by_cases hlt:a < 0+i.toNat
 ·rw [if_pos hlt,if_neg (by simp),if_neg (by omega)]
  congr 2
  omega
 rw [if_neg hlt,if_neg (by simp),mid (0+i.toNat) (by omega),if_pos (by omega)]
theorem Z1l {e:Ed}:∀ (l:List St) (t:Tr) (X:Ed),wr t l e=some X→∀ s∈l,s.Kind=0∧0≤s.At
 | [],_,_,_=>fun s hs=>by cases hs
 | s::l,t,X,h=>by
  rw [wr] at h
  split at h
  ·rename_i ht
   cases hw:wr ((t.Kids[s.At.toNat]?).getD Jj) l e with
   | none=>rw [hw] at h;cases h
   | some w =>
    intro q hq
    rcases List.mem_cons.1 hq with rfl | hq
    ·exact ⟨ht.1,ht.2.1⟩
    exact Z1l l _ w hw q hq
  cases h
theorem Ybk {e:Ed} (he:e.Kind=0∨e.Kind=1∨e.Kind=2∨e.Kind=3):∀ (l:List St) (t:Tr) (X:Ed),wr t l e=some X→X.Kind=0∨X.Kind=1∨X.Kind=2∨X.Kind=3
 | [],t,X,h=>by
  rw [wr] at h
  split at h
  ·cases h
  cases h;exact he
 | s::l,t,X,h=>by
  rw [wr] at h
  split at h
  ·cases hw:wr ((t.Kids[s.At.toNat]?).getD Jj) l e with
   | none=>rw [hw] at h;cases h
   | some w =>
    rw [hw] at h
    simp only [Option.some.injEq] at h
    split at h
    ·rw [← h];exact .inl rfl
    split at h
    ·rw [← h];exact .inr (.inr (.inl rfl))
    rw [← h];exact .inr (.inr (.inr rfl))
  cases h
theorem Yhb {e:Ed} (he:e.Kind=0∨e.Kind=1∨e.Kind=2∨e.Kind=3):(nE e).Kind=e.Kind:=by
 rw [Zd9]
 rcases he with h | h | h | h
 ·rw [if_neg (by omega),if_neg (by omega),if_neg (by omega),h];rfl
 ·rw [if_pos h,h]
 ·rw [if_neg (by omega),if_pos h,h]
 rw [if_neg (by omega),if_neg (by omega),if_pos h,h]
theorem Yiy {e:Ed} (h:e.Kind=0):nE e=eS0:=by rw [Zd9,if_neg (by omega),if_neg (by omega),if_neg (by omega)]
theorem Ye8 {e:Ed} (he:e.Kind=0∨e.Kind=1∨e.Kind=2∨e.Kind=3):∀ (l:List St) (t:Tr) (X:Ed) (m:List St),wr t l e=some X →
  (Zlo (nE X) l m=some (nE e,m++l)∨(Zlo (nE X) l m=some (eS0,m++l)∧(X.Kind=0∨Ydm e)))∧PE (nE X) l
 | [],t,X,m,h=>by
  rw [wr] at h
  split at h
  ·cases h
  cases h
  exact ⟨.inl (by rw [Zlo,List.append_nil]),.nil _⟩
 | s::l,t,X,m,h=>by
  have hst:=Z1l (s::l) t X h
  have hkd:=Ybk he l
  rw [wr] at h
  split at h
  ·rename_i ht
   obtain ⟨k0,h0,ht⟩:=ht
   cases hw:wr ((t.Kids[s.At.toNat]?).getD Jj) l e with
   | none=>rw [hw] at h;cases h
   | some w =>
    rw [hw] at h
    simp only [Option.some.injEq] at h
    split at h
    ·rw [← h,Yiy (e:=eS0) rfl]
     exact ⟨.inr ⟨Z2o (s::l) eS0 m rfl (by simp) hst,.inl rfl⟩,.same _ _ rfl⟩
    rename_i w0
    have ih:=Ye8 he l _ w (m++[s]) hw
    have ih1:(Zlo (nE w) l (m++[s])=some (nE e,m++s::l)∨(Zlo (nE w) l (m++[s])=some (eS0,m++s::l)∧Ydm e)):=by
     have e1:(m++[s])++l=m++s::l:=by rw [List.append_assoc];rfl
     rw [← e1]
     rcases ih.1 with q | ⟨q1,q2⟩
     ·exact .inl q
     rcases q2 with q2 | q2
     ·exact absurd q2 w0
     exact .inr ⟨q1,q2⟩
    split at h
    ·rename_i k1
     rw [← h,Yix]
     have hn:nrw (SW s.At (nE w)) s=some (nE w,s.At):=by
      unfold nrw
      rw [if_neg (by omega),if_neg (by simp [SW]),if_pos (show (SW s.At (nE w)).Kind=2 from rfl)]
      simp [SW,fd]
     refine ⟨?_,.st s l (nE w) k0 h0 ih.2⟩
     rw [Zlo,hn]
     simp only
     rw [Zpq k0]
     rcases ih1 with q | q
     ·exact .inl q
     exact .inr ⟨q.1,.inr q.2⟩
    rename_i k1
    have hA:s.At < t.Kids.length:=by
     rcases ht with q2 | q2
     ·exact absurd q2.1 k1
     exact q2.2
    rw [← h,Yiw h0 (by omega)]
    by_cases hI:Zgf t.Kind (nE w)=true
    ·rw [if_pos hI]
     refine ⟨?_,.idle _ _ _⟩
     have hk:=Yhb (hkd _ w hw)
     have hid:Ydm w:=by
      unfold Zgf at hI
      simp only [Bool.or_eq_true,Bool.and_eq_true,beq_iff_eq] at hI
      rcases hI with q | ⟨_,q1,q2,q3⟩
      ·omega
      have k2:w.Kind=2:=by omega
      rw [Zd9,if_neg (by omega),if_pos k2] at q2 q3
      simp only [List.length_map] at q2 q3
      exact ⟨k2,List.eq_nil_of_length_eq_zero q2,List.eq_nil_of_length_eq_zero q3⟩
     cases l with
     | cons s' l' =>
      exfalso
      rw [wr] at hw
      split at hw
      ·cases hw':wr (((((t.Kids[s.At.toNat]?).getD Jj).Kids)[s'.At.toNat]?).getD Jj) l' e with
       | none=>rw [hw'] at hw;cases hw
       | some w' =>
        rw [hw'] at hw
        simp only [Option.some.injEq] at hw
        split at hw
        ·rw [← hw] at w0;exact w0 rfl
        split at hw
        ·have:=hid.2.2
         rw [← hw] at this
         simp [SW] at this
        have:=hid.1
        rw [← hw] at this
        simp [LW] at this
      cases hw
     | nil =>
      have hwe:w=e:=by
       rw [wr] at hw
       split at hw
       ·cases hw
       cases hw;rfl
      rw [hwe] at hid
      have hn:nrw ⟨3,Jj,Jj,[],[],t.Kind,[⟨0,s.At+1+((t.Kids.length:Int) - s.At - 1),[],eS0⟩]⟩ s=some (eS0,s.At):=by
       unfold nrw
       rw [if_neg (by omega),if_neg (by simp),if_neg (by simp),if_pos rfl]
       simp only
       rw [inl,if_neg (by simp)]
       have:J7 ⟨0,s.At+1+((t.Kids.length:Int) - s.At - 1),[],eS0⟩=(s.At+1+((t.Kids.length:Int) - s.At - 1)).toNat:=by unfold J7;rw [if_pos rfl]
       rw [this,if_pos (by omega),if_neg (by simp),Option.map_some]
       simp only
       congr 2
       omega
      rw [Zlo,hn]
      simp only
      rw [Zpq k0]
      exact .inr ⟨rfl,.inr hid⟩
    rw [if_neg hI]
    have hn:nrw (LW t.Kind s.At ((t.Kids.length:Int) - s.At - 1) (nE w)) s=some (nE w,s.At):=by
     unfold nrw
     rw [if_neg (by omega),if_neg (by simp [LW]),if_neg (by simp [LW]),if_pos (show (LW t.Kind s.At ((t.Kids.length:Int) - s.At - 1) (nE w)).Kind=3 from rfl)]
     simp only [LW]
     rw [Ydn h0 (by omega) s.At.toNat (by omega),if_pos (by omega),Option.map_some]
     simp only
     congr 2
     omega
    refine ⟨?_,.li _ _ s l (nE w) k0 h0 (by omega) ih.2⟩
    rw [Zlo,hn]
    simp only
    rw [Zpq k0]
    rcases ih1 with q | q
    ·exact .inl q
    exact .inr ⟨q.1,.inr q.2⟩
  cases h
def dv:List St→List St→Prop
 | a::l,b::o=>a≠b∨dv l o
 | _,_=>False
theorem Yck:∀ (os:List EO) (l out l' out':List Tr),(∀ o∈os,opk o)→(∀ o∈os,o.Kind≠2)→RO os (l,out)=some (l',out')→l.length=l'.length+X2 os
 | [],l,out,l',out',_,_,h=>by cases h;simp [X2]
 | o::os,l,out,l',out',hp,h2,h=>by
  rw [Zsk] at h
  obtain ⟨s1,h1,h3⟩:=Option.bind_eq_some_iff.1 h
  obtain ⟨l1,o1⟩:=s1
  have ih:=Yck os l1 o1 l' out' (fun x hx=>hp x (.tail _ hx)) (fun x hx=>h2 x (.tail _ hx)) h3
  rw [Zmo]
  have key:l.length=l1.length+J7 o:=by
   rcases hp o (.head _) with ⟨k,hk⟩ | ⟨k,hk⟩ | ⟨k,hk⟩ | k
   ·have ht:J7 o=o.N.toNat:=by unfold J7;rw [if_pos k]
    rw [Z1c k] at h1
    unfold Zwd at h1
    split at h1
    ·rename_i hb
     have hb1:o.N.toNat≤l.length:=hb.2
     injection h1 with h1
     have e1:l1=l.drop o.N.toNat:=(congrArg Prod.fst h1).symm
     rw [e1,List.length_drop]
     omega
    cases h1
   ·have ht:J7 o=o.L.length:=by unfold J7;rw [if_neg (by omega),if_neg (by omega)]
    rw [Z4s k] at h1
    unfold Yc7 at h1
    split at h1
    ·rename_i hb
     have hb1:l.take o.L.length=o.L.map nrm:=hb
     injection h1 with h1
     have e1:l1=l.drop o.L.length:=(congrArg Prod.fst h1).symm
     have:=congrArg List.length hb1
     rw [List.length_take,List.length_map] at this
     rw [e1,List.length_drop]
     omega
    cases h1
   ·exact absurd k (h2 o (.head _))
   have ht:J7 o=1:=by unfold J7;rw [if_neg (by omega),if_pos k]
   rw [Z7s k] at h1
   cases l with
   | nil=>cases h1
   | cons y l =>
    simp only at h1
    obtain ⟨u,hu,h1⟩:=Option.map_eq_some_iff.1 h1
    cases h1
    rw [List.length_cons]
    omega
  omega
theorem Ygj {x y:Tr} {b:St} (kb:b.Kind=0) (hk:x.Kind=y.Kind) (hs:x.Kids=y.Kids):stp x b=stp y b:=by
 unfold stp
 rw [hk,hs]
 simp [kb]
theorem Z0x:∀ (l o:List St) (x:Ed) (t u v:Tr),PE x l→FQ x→GT t→ap x t=some u→dv l o→(∀ s∈o,s.Kind=0)→(∀ s∈l,s.Kind=0∧0≤s.At)→Zl3 t o=some v→Zl3 u o=some v
 | [],_,_,_,_,_,_,_,_,_,hd,_,_,_=>by cases hd
 | s::l,[],_,_,_,_,_,_,_,_,hd,_,_,_=>by cases hd
 | s::l,b::o,x,t,u,v,hp,hq,gt,ha,hd,ho,hl,hg=>by
  have kb:=ho b (.head _)
  have ho':∀ s∈o,s.Kind=0:=fun y hy=>ho y (.tail _ hy)
  have hl':∀ s∈l,s.Kind=0∧0≤s.At:=fun y hy=>hl y (.tail _ hy)
  unfold Zl3 at hg ⊢
  cases hs:stp t b with
  | none=>rw [hs] at hg;cases hg
  | some z =>
   rw [hs] at hg
   simp only at hg
   rw [if_neg (by omega)] at hg
   have fin:∀ z',stp u b=some z'→Zl3 z' o=some v→(match stp u b with
     | none=>none
     | some u=>if b.Kind≠0∧o≠[] then none else Zl3 u o)=some v:=fun z' h1 h2=>by
    rw [h1]
    simp only
    rw [if_neg (by omega)]
    exact h2
   have gz:=Yid gt kb hs
   cases hp with
   | same _ _ k0 =>
    rw [Zjw,if_pos k0] at ha
    cases ha
    exact fin z hs hg
   | st _ _ w k0 h0 hw =>
    have k1:t.Kind=1:=by
     apply Classical.byContradiction
     intro c
     rw [Ygg (e:=SW s.At w) rfl c] at ha
     cases ha
    have hz:(0≤b.At∧b.At≤65534)∧z=Vn Jj t.Kids b.At.toNat:=by
     unfold stp at hs
     split at hs
     ·rename_i q
      cases hs
      exact ⟨q.2.2,rfl⟩
     rw [if_neg (by omega),if_neg (by omega),if_neg (by omega)] at hs
     cases hs
    rcases Ygh (e:=SW s.At w) rfl hq.z hq.b gt k1 with ⟨u',h1,h2,h3,_,h5⟩ | ⟨h1,_⟩
    ·rw [ha] at h1
     cases h1
     have hj:=h5 b.At.toNat
     rw [← hz.2] at hj
     have hu:stp u b=some (Vn Jj u.Kids b.At.toNat):=by
      unfold stp
      rw [if_pos ⟨kb,h3,hz.1⟩]
      rfl
     unfold stK at hj
     by_cases hsb:s.At=b.At
     ·have hf:fd (·.At) (SW s.At w).Kids b.At.toNat=some ⟨s.At,w⟩:=by simp [SW,fd,hsb]
      rw [hf] at hj
      have eqs:s=b:=by
       rw [← Zpq k0,← Zpq kb,hsb]
      have hd':dv l o:=by
       rcases hd with q | q
       ·exact absurd eqs q
       exact q
      refine fin _ hu (Z0x l o w z _ v hw (fqK hq rfl ⟨s.At,w⟩ (by simp [SW])) gz hj hd' ho' hl' hg)
     have hf:fd (·.At) (SW s.At w).Kids b.At.toNat=none:=by
      have:¬ s.At.toNat=b.At.toNat:=by omega
      simp [SW,fd,this]
     rw [hf] at hj
     cases hj
     exact fin _ hu hg
    rw [ha] at h1;cases h1
   | li k r _ _ w k0 h0 hr hw =>
    rw [Yg6 (e:=LW k s.At r w) rfl] at ha
    split at ha
    ·rename_i hk
     cases hR:RO (LW k s.At r w).Ops (t.Kids,[]) with
     | none=>rw [hR] at ha;cases ha
     | some s' =>
      rw [hR] at ha
      obtain ⟨l1,l2⟩:=s'
      cases l1 with
      | cons _ _=>cases ha
      | nil =>
       cases ha
       have hL:2≤t.Kind∧t.Kind≤9:=by
        have hk2:t.Kind=k:=hk
        cases hq.z with
        | same _ q=>cases q
        | repl _ q=>cases q
        | st _ q=>cases q
        | li _ _ hl9=>simp only [LW] at hl9;omega
       have hz:(0≤b.At∧b.At < t.Kids.length)∧t.Kids[b.At.toNat]? = some z:=by
        unfold stp at hs
        rw [if_neg (by omega)] at hs
        split at hs
        ·rename_i q
         exact ⟨q.2.2,hs⟩
        rw [if_neg (by omega),if_neg (by omega)] at hs
        cases hs
       have hlen:=Yck _ _ _ _ _ hq.g.p (fun o ho=>by
        simp only [LW,List.mem_append,List.mem_cons] at ho
        rcases ho with ho | rfl | ho
        ·obtain ⟨rfl,_⟩:=Z3t ho;simp
        ·simp
        obtain ⟨rfl,_⟩:=Z3t ho;simp) hR
       have hsum:((X2 (LW k s.At r w).Ops:Nat):Int)≤s.At+1+r:=by
        simp only [LW]
        rw [Zi9,Zmo]
        have t3:J7 ⟨3,0,[],w⟩=1:=by unfold J7;rw [if_neg (by simp),if_pos rfl]
        have:=Z3u s.At
        have:=Z3u r
        omega
       simp only [List.length_nil] at hlen
       have hin:=Ydn (w:=w) h0 hr b.At.toNat (by omega)
       obtain ⟨z',q1,q2⟩:=Zz7 (LW k s.At r w).Ops 0 0 t.Kids [] ([],l2) _ _ z hq.g.p hq.n.ops hR rfl (Nat.zero_le _) (by rw [Nat.sub_zero];exact hz.2) hin
       have hlt:b.At.toNat < l2.length:=by
        rcases Nat.lt_or_ge b.At.toNat l2.length with q | q
        ·exact q
        simp only at q1
        rw [List.getElem?_eq_none q] at q1;cases q1
       have hu:stp ⟨t.Kind,[],l2⟩ b=some z':=by
        unfold stp
        rw [if_neg (by simp only;omega),if_pos ⟨kb,hL,by simp only;omega⟩]
        exact q1
       by_cases hsb:s.At=b.At
       ·rw [if_pos (by omega)] at q2
        have eqs:s=b:=by
         rw [← Zpq k0,← Zpq kb,hsb]
        have hd':dv l o:=by
         rcases hd with q | q
         ·exact absurd eqs q
         exact q
        exact fin _ hu (Z0x l o w z z' v hw (fqO hq rfl ⟨3,0,[],w⟩ (by simp [LW]) (.inr rfl)) gz q2 hd' ho' hl' hg)
       rw [if_neg (by omega),Zjw,if_pos (show eS0.Kind=0 from rfl)] at q2
       cases q2
       exact fin _ hu hg
    cases ha
   | idle k n _ =>
    rw [Yg6 rfl] at ha
    split at ha
    ·rename_i hk
     have hR:RO [⟨0,n,[],eS0⟩] (t.Kids,[])=Zwd n (t.Kids,[]):=by
      rw [Zsk,Z1c rfl]
      simp only
      cases Zwd n (t.Kids,[]) <;> rfl
     simp only at ha
     rw [hR] at ha
     unfold Zwd at ha
     split at ha
     ·rename_i hb
      simp only [List.nil_append] at ha hb
      cases hdr:t.Kids.drop n.toNat with
      | cons _ _=>rw [hdr] at ha;cases ha
      | nil =>
       rw [hdr] at ha
       have hle:t.Kids.length≤n.toNat:=by
        have:=congrArg List.length hdr
        rw [List.length_drop,List.length_nil] at this
        omega
       rw [List.take_of_length_le hle] at ha
       cases ha
       refine fin z ?_ hg
       rw [← hs]
       exact Ygj kb rfl rfl
     cases ha
    cases ha
theorem Ygf (a b:St):((a.Kind == b.Kind) && (a.At == b.At))=true↔a=b:=by
 rw [Bool.and_eq_true,beq_iff_eq,beq_iff_eq]
 refine ⟨fun h => ?_,fun h=>by rw [h];exact ⟨rfl,rfl⟩⟩
 cases a
 cases b
 simp only at h
 rw [h.1,h.2]
def cpn:List St→List St→Nat
 | a::l,b::o=>if ((a.Kind == b.Kind) && (a.At == b.At))=true then 1+cpn l o else 0
 | _,_=>0
theorem Yc3:∀ (l o:List St),cpn l o≠l.length→cpn l o≠o.length→dv l o
 | [],o,h,_=>absurd (by cases o <;> rfl) h
 | a::l,[],_,h=>absurd rfl h
 | a::l,b::o,h1,h2=>by
  rw [cpn] at h1 h2
  by_cases he:((a.Kind == b.Kind) && (a.At == b.At))=true
  ·rw [if_pos he] at h1 h2
   simp only [List.length_cons] at h1 h2
   exact .inr (Yc3 l o (by omega) (by omega))
  exact .inl fun q=>he ((Ygf a b).2 q)
theorem Yc4 (l o:List St) (hl:l.length≤70):∀ (ys zs:List St) (i:Nat),l.drop i=ys→o.drop i=zs→i≤l.length→Zv (Xw l o) (i:Int)=some (((i+cpn ys zs:Nat)):Int):=fun ys=>by
 induction ys with
 | nil =>
  intro zs i h1 h2 hi
  have:l.length≤i:=by
   have:=congrArg List.length h1
   rw [List.length_drop,List.length_nil] at this
   omega
  have e0:cpn [] zs=0:=by cases zs <;> rfl
  rw [e0]
  refine Z7 ?_
  unfold Xw
  rw [decide_eq_false (by omega)]
  rfl
 | cons a ys ih =>
  intro zs i h1 h2 hi
  obtain ⟨d1,d2,d3⟩:=Zhn h1
  cases zs with
  | nil =>
   have:o.length≤i:=by
    have:=congrArg List.length h2
    rw [List.length_drop,List.length_nil] at this
    omega
   refine Z7 ?_
   unfold Xw
   rw [decide_eq_true (by omega),decide_eq_false (by omega)]
   rfl
  | cons b zs =>
   obtain ⟨c1,c2,c3⟩:=Zhn h2
   have hs:Xw l o (i:Int)=if ((a.Kind == b.Kind) && (a.At == b.At))=true then some (.inl ((i+1:Nat):Int)) else some (.inr (i:Int)):=by
    unfold Xw
    rw [decide_eq_true (by omega),decide_eq_true (by omega),Z6 d2,Z6 c2]
    simp only [cond_true,Option.bind_some]
    rw [Jm (by omega) (by omega)]
    cases ((a.Kind == b.Kind) && (a.At == b.At)) <;> rfl
   rw [cpn]
   by_cases he:((a.Kind == b.Kind) && (a.At == b.At))=true
   ·rw [if_pos he] at hs ⊢
    rw [Y9 hs,ih zs (i+1) d3 c3 (by omega)]
    congr 2
    omega
   rw [if_neg he] at hs ⊢
   exact Z7 hs
theorem Yfz (o:List St) (hl:o.length≤70):∃ b,Zby o=some b∧(b=true→∀ s∈o,s.Kind=0):=by
 have key:∀ (ys:List St) (i:Nat),o.drop i=ys→i≤o.length→∃ z,Zv (Kt o) (i:Int)=some z∧(z = .inr ()→∀ s∈ys,s.Kind=0):=fun ys=>by
  induction ys with
  | nil =>
   intro i h hi
   have:o.length≤i:=by
    have:=congrArg List.length h
    rw [List.length_drop,List.length_nil] at this
    omega
   refine ⟨.inr (),Z7 ?_,by simp⟩
   unfold Kt
   rw [decide_eq_false (by omega),cond_false]
  | cons x ys ih =>
   intro i h hi
   obtain ⟨d1,d2,d3⟩:=Zhn h
   have hs:Kt o (i:Int)=if x.Kind=0 then some (.inl ((i+1:Nat):Int)) else some (.inr (.inl ())):=by
    unfold Kt
    rw [decide_eq_true (by omega),cond_true,Z6 d2,Option.bind_some,Jm (by omega) (by omega)]
    by_cases k:x.Kind=0
    ·rw [if_pos k,show (x.Kind != 0)=false by rw [k];rfl]
     rfl
    rw [if_neg k,show (x.Kind != 0)=true by rw [bne_iff_ne];exact k]
    rfl
   by_cases k:x.Kind=0
   ·rw [if_pos k] at hs
    obtain ⟨z,z1,z2⟩:=ih (i+1) d3 (by omega)
    refine ⟨z,by rw [Y9 hs];exact z1,fun q s hs' => ?_⟩
    rcases List.mem_cons.1 hs' with rfl | hs'
    ·exact k
    exact z2 q s hs'
   rw [if_neg k] at hs
   exact ⟨.inl (),Z7 hs,fun q=>by cases q⟩
 obtain ⟨z,z1,z2⟩:=key o 0 rfl (Nat.zero_le _)
 unfold Zby
 rw [show (0:Int)=((0:Nat):Int) from rfl,z1,Option.bind_some]
 cases z with
 | inl q=>exact ⟨false,rfl,fun h=>by cases h⟩
 | inr q=>exact ⟨true,rfl,fun _=>z2 rfl⟩
theorem Z2y:∀ l:List St,Z4r l l=true
 | []=>rfl
 | a::l=>by
  rw [Z4r,Z2y l]
  simp [Z8t]
theorem Yg2 {e:Ed} (be:BE e) (ge:GN e) {t:Tr} (bt:Bd t) (hp:pt t≤3000) {l:List St} (hl:l.length≤100):∃ x b,Zb4 t l e=some (x,b)∧(b=true→∃ X,wr t l e=some X∧x=nE X∧rE (nE X) 64=true∧BE X∧GN X):=by
 unfold Zb4
 rw [Z80 hl bt,Option.bind_some]
 obtain ⟨w1,_⟩:=Ye7 (e:=e) l t
 cases hb:(wrF t l e).2 with
 | false=>exact ⟨_,false,rfl,fun h=>by cases h⟩
 | true =>
  have hX:=w1 hb
  obtain ⟨b1,b2⟩:=Ybj be ge l t _ hp hX
  rw [Bool.not_true,cond_false,Ydz b1 b2,Option.bind_some,Z2c (b1.nE b2),Option.bind_some]
  cases hr:rE (nE (wrF t l e).1) 64 with
  | false=>exact ⟨_,false,rfl,fun h=>by cases h⟩
  | true=>exact ⟨_,true,rfl,fun _=>⟨_,hX,rfl,hr,b1,b2⟩⟩
theorem Z1o {e:Ed} {t:Tr} {l o:List St} (be:BE e) (bt:Bd t):Uj t l e o=some true:=by
 obtain ⟨b1,g1,g2⟩:=Ydi bt
 obtain ⟨b2,g3,g4⟩:=Yfu be
 unfold Uj
 rw [g1,Option.bind_some]
 cases b1 with
 | false=>rw [cond_false,Option.bind_some,cond_true,Zgp];rfl
 | true =>
 rw [cond_true,g3,Option.bind_some]
 cases b2 with
 | false=>rw [cond_false,Option.bind_some,cond_true,Zgp];rfl
 | true =>
 rw [cond_true]
 by_cases hl:70 < (l.length:Int)
 ·rw [decide_eq_true hl,cond_true,Option.bind_some,cond_true,Zgp];rfl
 rw [decide_eq_false hl,cond_false]
 by_cases ho:70 < (o.length:Int)
 ·rw [decide_eq_true ho,cond_true,Option.bind_some,cond_true,Zgp];rfl
 rw [decide_eq_false ho,cond_false]
 obtain ⟨b3,f1,f2⟩:=Yfz o (by omega)
 rw [f1,Option.bind_some,Option.bind_some]
 simp only [Bool.not_true,cond_false]
 cases b3 with
 | false=>rw [Bool.not_false,cond_true,Zgp];rfl
 | true =>
 rw [Bool.not_true,cond_false]
 have hk:=f2 rfl
 obtain ⟨tx,pu,tame⟩:=g2 rfl
 obtain ⟨mc,re⟩:=g4 rfl
 have gT:=GT.of bt tx
 obtain ⟨x,b,w1,w2⟩:=Yg2 mc.b mc.g bt pu (l:=l) (by omega)
 rw [w1,Option.bind_some]
 simp only
 cases b with
 | false=>rw [Bool.not_false,cond_true,Zgp];rfl
 | true =>
 rw [Bool.not_true,cond_false]
 obtain ⟨X,hX,rfl,hr,bX,gX⟩:=w2 rfl
 have kd:=mc.z.rx.kind
 obtain ⟨nar,pe⟩:=Ye8 kd l t X [] hX
 rw [List.nil_append] at nar
 have hst:=Z1l l t X hX
 have bx:=bX.nE gX
 have gx:=GN.nE bX gX
 have fq:FQ (nE X):=⟨Z7g _ _ 64 (Nat.lt_succ_self _) hr,bx,gx,N1.of _ _ 64 (Nat.lt_succ_self _) hr⟩
 have hN:=Z2m fq (l:=l) (by omega)
 have hsame:=Yem (a:=l) (b:=l) (by omega)
 rw [Z2y] at hsame
 have kX:(nE X).Kind=X.Kind:=Yhb (Ybk kd l t X hX)
 have first:∀ (z:Ed×List St×Bool),Ux (nE X) l=some z→((cond z.2.2 ((Gd z.2.1 l).bind fun y34=>cond y34 (cond ((nE X).Kind != 0) (cond (e.Kind == 2) (cond ((IntKind.i64.wrap ((e.Words.length:Int)+(e.Kids.length:Int))) == 0) (some (cond (cond (!z.2.2) true (!y34)) true false)) ((Ga e).bind fun y35=>(Gb z.1 y35).bind fun y36=>some (cond (cond (!z.2.2) true (!y34)) true (cond (cond ((nE X).Kind != 0) (!(cond (e.Kind == 2) ((IntKind.i64.wrap ((e.Words.length:Int)+(e.Kids.length:Int))) == 0) false)) false) (!y36) false)))) ((Ga e).bind fun y37=>(Gb z.1 y37).bind fun y38=>some (cond (cond (!z.2.2) true (!y34)) true (cond (cond ((nE X).Kind != 0) (!(cond (e.Kind == 2) ((IntKind.i64.wrap ((e.Words.length:Int)+(e.Kids.length:Int))) == 0) false)) false) (!y38) false)))) (some (cond (cond (!z.2.2) true (!y34)) true false))) (some true)) (some true)):Option Bool)=some false:=fun z hz=>by
  rw [hN] at hz
  have hw:=mc.g.w
  have hkk:=mc.g.k
  rcases nar with q | ⟨q,q2⟩
  ·rw [q] at hz
   simp only [Option.some.injEq] at hz
   subst hz
   simp only [cond_true]
   rw [hsame,Option.bind_some,cond_true,Yhd,Yh8 mc.b mc.g,Option.bind_some,Ydb (mc.b.nE mc.g)]
   simp only [Option.bind_some]
   cases ((nE X).Kind != 0) <;> cases (e.Kind == 2) <;> cases (IntKind.i64.wrap ((e.Words.length:Int)+(e.Kids.length:Int)) == 0) <;> rfl
  rw [q] at hz
  simp only [Option.some.injEq] at hz
  subst hz
  simp only [cond_true]
  rw [hsame,Option.bind_some,cond_true]
  rcases q2 with q2 | ⟨i1,i2,i3⟩
  ·rw [show ((nE X).Kind != 0)=false by rw [kX,q2];rfl]
   rfl
  rw [show (e.Kind == 2)=true by rw [i1];rfl,i2,i3,show (IntKind.i64.wrap ((([]:List WE).length:Int)+(([]:List KE).length:Int)) == 0)=true from rfl]
  cases ((nE X).Kind != 0) <;> rfl
 cases hz:Ux (nE X) l with
 | none=>rw [hN] at hz;cases hz
 | some z =>
 rw [Option.bind_some,first z hz,Option.bind_some,cond_false]
 have hc:=Yc4 l o (by omega) l o 0 rfl rfl (Nat.zero_le _)
 rw [show ((0:Nat):Int)=0 from rfl,Nat.zero_add] at hc
 rw [hc,Option.bind_some]
 by_cases c1:cpn l o=l.length
 ·rw [c1,beq_iff_eq.2 rfl,cond_true,cond_true,Zgp];rfl
 by_cases c2:cpn l o=o.length
 ·rw [c2,beq_iff_eq.2 (rfl:(o.length:Int)=o.length)]
  cases ((o.length:Int) == (l.length:Int)) <;> (simp only [cond_true,cond_false];rw [Zgp];rfl)
 have hd:=Yc3 l o c1 c2
 rw [show (((cpn l o:Nat):Int) == (l.length:Int))=false by rw [beq_eq_false_iff_ne];omega,show (((cpn l o:Nat):Int) == (o.length:Int))=false by rw [beq_eq_false_iff_ne];omega]
 simp only [cond_false]
 have ca:CA (nE X) t:=⟨fq.z.rx,bx,gx,by omega,bt⟩
 have hap:=Ycw ca
 cases hu:ap (nE X) (nrm t) with
 | none =>
  rw [hu] at hap
  rw [hap,Option.bind_some]
  simp only [cond_false,Option.bind_some,cond_true]
  rw [Zgp]
  rfl
 | some u =>
 rw [hu] at hap
 have bu:=Ycv ca hu
 obtain ⟨b5,k1,k2⟩:=Ydi bu
 rw [hap,Option.bind_some]
 simp only [cond_true]
 rw [k1,Option.bind_some,Option.bind_some]
 cases b5 with
 | false =>
  simp only [Bool.not_true,Bool.not_false,cond_false,cond_true]
  rw [Zgp]
  rfl
 | true =>
 simp only [Bool.not_true,cond_false]
 obtain ⟨_,_,tame2⟩:=k2 rfl
 rw [Z99 bt tame,Option.bind_some,Z99 bu tame2,Option.bind_some]
 cases hg:Zl3 t o with
 | none =>
  simp only [Z8f,cond_false]
  rw [Zgp]
  rfl
 | some v =>
 have hgn:Zl3 (nrm t) o=some (nrm v):=by rw [Z6p o t hk,hg];rfl
 have hres:=Z0x l o (nE X) (nrm t) u (nrm v) pe fq gT hu hd hk hst hgn
 rw [hres]
 have bv:=Z9j bt hg
 simp only [Z8f,cond_true]
 rw [Zs9,Zx7 bv.nrm bv.nrm,Option.bind_some,eqT_iff.2 rfl,cond_true,Zgp]
 rfl
end Go.Proofs.Ytfjkcekfifobpaa
