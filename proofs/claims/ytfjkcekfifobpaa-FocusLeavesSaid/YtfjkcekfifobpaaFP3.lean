/- Plain facts on this seat's mirrors (part FP3); each theorem bears its own conditions. -/
import Derived.Test.YtfjkcekfifobpaaFP1
import Derived.IntWalk
namespace Go.Proofs.Ytfjkcekfifobpaa
open Go.RowKit
set_option linter.unusedVariables false
set_option linter.unusedSimpArgs false
theorem Z2b:∀ (k:Nat),(∀ e:Ed,BE e→(4 * SizeOf.sizeOf e+1 < k∨(e.Kind=0∧2≤k))→(Zp k).1 e=some (rE e 64)) ∧
  (∀ (e:Ed) (d:Nat),BE e→(4 * SizeOf.sizeOf e < k∨(e.Kind=0∧1≤k))→d≤64→(Zp k).2.1 e (d:Int)=some (rE e d)) ∧
  (∀ (l:List Zk) (d:Nat),(l.length:Int)≤140737488355328→(∀ x∈l,BE x.E∧4 * SizeOf.sizeOf x.E+1 < k)→1≤k→d≤64→(Zp k).2.2.1 l (d:Int)=some (chk (·.At) (okK d) (-1) l)) ∧
  (∀ (e:Ed) (d:Nat),BE e→(∀ o∈e.Ops,4 * SizeOf.sizeOf o.E+2 < k)→1≤k→d≤64→(Zp k).2.2.2.1 e (d:Int)=some ((decide (2≤e.List_) && decide (e.List_≤9)) && ((e.Ops.all fun o=>okO e.List_ o (rE o.E d)) && Zj5 (e.Ops.foldl stR (0,0))))) ∧
  (∀ (l:Int) (o:Zh) (d:Nat),2≤l→l≤9→BO o→4 * SizeOf.sizeOf o.E+1 < k→d≤64→(Zp k).2.2.2.2.1 l o (d:Int)=some (okO l o (rE o.E d) && decide (o.L.length < 1048576))) ∧
  (∀ (a b c:Bool) (o:Zh),BE o.E→3≤k→(Zp k).2.2.2.2.2 a b c o=some ((!a || o.N == 0) && ((!b || o.L.length == 0) && (!c || Zdp o.E))))
 | 0=>⟨fun e _ h=>by omega,fun e d _ h=>by omega,fun l d _ _ h=>by omega,fun e d _ _ h=>by omega,fun l o d _ _ _ h=>by omega,fun a b c o _ h=>by omega⟩
 | k+1=>by
  obtain ⟨i1,i2,i3,i4,i5,i6⟩:=Z2b k
  refine ⟨fun e hb hk => ?_,fun e d hb hk hd => ?_,fun l d hn hl hk hd => ?_,fun e d hb ho hk hd => ?_,fun l o d h2 h9 hb hk hd => ?_,fun a b c o hb hk => ?_⟩
  ·show Zhi (Zp k).1 (Zp k).2.1 (Zp k).2.2.1 (Zp k).2.2.2.1 (Zp k).2.2.2.2.1 (Zp k).2.2.2.2.2 e=_
   unfold Zhi
   have:=i2 e 64 hb (by rcases hk with hk | hk;exact .inl (by omega);exact .inr ⟨hk.1,by omega⟩) (by decide)
   rw [show (64:Int)=((64:Nat):Int) from rfl,this]
   rfl
  ·show Zhj (Zp k).1 (Zp k).2.1 (Zp k).2.2.1 (Zp k).2.2.2.1 (Zp k).2.2.2.2.1 (Zp k).2.2.2.2.2 e (d:Int)=_
   unfold Zhj
   rw [Zoo]
   by_cases hd0:d=0
   ·subst hd0
    rw [if_pos rfl]
    rfl
   have ed:((d:Int) == 0)=false:=by rw [beq_eq_false_iff_ne];omega
   rw [if_neg hd0,ed,cond_false,Zd5,Zd5,Zd5,Zd5]
   by_cases h0:e.Kind=0
   ·rw [if_pos h0,if_pos h0,Zql hb,Option.bind_some]
    unfold Zdp
    rw [beq_iff_eq.2 h0]
    rfl
   rw [if_neg h0,if_neg h0]
   have hk':4 * SizeOf.sizeOf e < k+1:=by rcases hk with hk | hk;exact hk;exact absurd hk.1 h0
   have hw:∀ t:Tr,Bd t→Zfw t=some (rt t 64 && t.Kind != 10):=fun t ht=>by
    unfold Zfw
    rw [Z7m ht]
    cases t.Kind != 10 <;> cases rt t 64 <;> rfl
   by_cases h1:e.Kind=1
   ·rw [if_pos h1,if_pos h1,Zql hb,hw _ hb.old,hw _ hb.new]
    simp only [Option.bind_some]
    generalize Zj6 e=q0
    generalize Zhy e=q1
    generalize Zhg e=q2
    generalize (rt e.Old 64 && e.Old.Kind != 10)=q3
    generalize (rt e.New 64 && e.New.Kind != 10)=q4
    revert q0 q1 q2 q3 q4
    decide
   rw [if_neg h1,if_neg h1]
   obtain ⟨d',rfl⟩:∃ d',d=d'+1:=⟨d - 1,by omega⟩
   have ed':IntKind.i64.wrap (((d'+1:Nat):Int) - 1)=(d':Int):=by rw [Jm (by omega) (by omega)];omega
   rw [ed',Nat.add_sub_cancel]
   by_cases h2:e.Kind=2
   ·rw [if_pos h2,if_pos h2,Zql hb,Z12 hb.w hb.ws,i3 e.Kids d' hb.k (fun x hx=>⟨hb.ks x hx,by have:=Jz hx;omega⟩) (by have:=Zlz e;omega) (by omega)]
    simp only [Option.bind_some]
    generalize Zj6 e=q0
    generalize Zhy e=q1
    generalize Zhg e=q2
    generalize chk (·.At) okW (-1) e.Words=q3
    generalize chk (·.At) (okK d') (-1) e.Kids=q4
    revert q0 q1 q2 q3 q4
    decide
   rw [if_neg h2,if_neg h2]
   by_cases h3:e.Kind=3
   ·rw [if_pos h3,if_pos h3,Zql hb,i4 e d' hb (fun o ho=>by have:=Uh ho;omega) (by have:=Zlz e;omega) (by omega)]
    simp only [Option.bind_some]
    generalize Zj6 e=q0
    generalize Zhy e=q1
    generalize Zhg e=q2
    generalize ((decide (2≤e.List_) && decide (e.List_≤9)) && ((e.Ops.all fun o=>okO e.List_ o (rE o.E d')) && Zj5 (e.Ops.foldl stR (0,0))))=q3
    revert q0 q1 q2 q3
    decide
   rw [if_neg h3,if_neg h3]
  ·show Zc5 (Zp k).1 (Zp k).2.1 (Zp k).2.2.1 (Zp k).2.2.2.1 (Zp k).2.2.2.2.1 (Zp k).2.2.2.2.2 l (d:Int)=_
   unfold Zc5
   rw [Zs5 l (·.At) (okK d) (Gs (Zp k).2.1 l (d:Int)) (.inl ()) (.inr ()) hn (fun p i x hi hx hm=>by
    unfold Gs
    simp only
    rw [Us hi,cond_true,Z6 hx,Option.bind_some,i2 x.E d (hl x hm).1 (.inl (by have:=(hl x hm).2;omega)) hd]
    simp only [Option.bind_some]
    unfold okK okP bne
    simp only
    generalize decide (x.At≤p)=q1
    generalize decide (65534 < x.At)=q2
    generalize (x.E.Kind == 0)=q3
    generalize rE x.E d=q4
    cases q1 <;> cases q2 <;> cases q3 <;> cases q4 <;> rfl) (fun p=>by unfold Gs;simp only;rw [Zbh];rfl) (-1),Option.bind_some]
   cases chk (·.At) (okK d) (-1) l <;> rfl
  ·show Zd2 (Zp k).1 (Zp k).2.1 (Zp k).2.2.1 (Zp k).2.2.2.1 (Zp k).2.2.2.2.1 (Zp k).2.2.2.2.2 e (d:Int)=_
   unfold Zd2
   rw [Z30,Option.bind_some]
   by_cases hl:2≤e.List_∧e.List_≤9
   ·rw [decide_eq_true hl.1,decide_eq_true hl.2,(Yf0 hb).1]
    rw [Zda e.Ops (Zah (Zp k).2.2.2.2.1 e (d:Int)) (fun o=>okO e.List_ o (rE o.E d) && decide (o.L.length < 1048576)) (.inl ()) (.inr ()) hb.o (fun i x hi hx hm=>by
     unfold Zah
     rw [Us hi,cond_true,Z6 hx,Option.bind_some,i5 e.List_ x d hl.1 hl.2 ⟨hb.l x hm,hb.os x hm⟩ (by have:=ho x hm;omega) hd,Option.bind_some]
     cases okO e.List_ x (rE x.E d) && decide (x.L.length < 1048576) <;> rfl) (by unfold Zah;rw [Zbh];rfl)]
    have hob:=Yd6 (l:=e.List_) (fun o=>rE o.E d) e.Ops (fun o ho=>(hb.l o ho).1)
    rw [← hob]
    unfold Zj5
    cases e.Ops.all fun o=>okO e.List_ o (rE o.E d) && decide (o.L.length < 1048576) with
    | false=>rfl
    | true =>
     simp only [Option.bind_some,Bool.and_true,Bool.not_true,cond_false,Bool.true_and,if_true]
     rw [Ze3]
   have:(decide (2≤e.List_) && decide (e.List_≤9))=false:=by rw [Bool.and_eq_false_iff,decide_eq_false_iff_not,decide_eq_false_iff_not];omega
   rw [this]
   rfl
  ·show Ze2 (Zp k).1 (Zp k).2.1 (Zp k).2.2.1 (Zp k).2.2.2.1 (Zp k).2.2.2.2.1 (Zp k).2.2.2.2.2 l o (d:Int)=_
   have hp:=Zlz o.E
   have j6:∀ a b c,(Zp k).2.2.2.2.2 a b c o=some ((!a || o.N == 0) && ((!b || o.L.length == 0) && (!c || Zdp o.E))):=fun a b c=>i6 a b c o hb.2 (by omega)
   unfold Ze2 okO
   rw [j6,j6,j6,Zd5,Zd5,Zd5,Zd5]
   by_cases h0:o.Kind=0
   ·rw [if_pos h0,if_pos h0]
    simp only [Option.bind_some,Bool.not_false,Bool.not_true,Bool.true_or,Bool.false_or,Bool.true_and]
    congr 1
    cases hL:o.L.length == 0 with
    | false=>simp
    | true =>
     have:o.L.length=0:=beq_iff_eq.1 hL
     rw [this]
     cases decide (1≤o.N) <;> cases decide (o.N≤1048576) <;> cases Zdp o.E <;> rfl
   rw [if_neg h0,if_neg h0]
   by_cases h12:o.Kind=1∨o.Kind=2
   ·have e12:(if o.Kind=1 then some (Sum.inl ()) else if o.Kind=2 then some (Sum.inl ()) else if o.Kind=3 then some (Sum.inr (Sum.inr (Sum.inl ()))) else some (Sum.inr (Sum.inr (Sum.inr ()))))=(some (Sum.inl ()):Option (Unit ⊕ (Bool ⊕ (Unit ⊕ Unit)))):=by
     rcases h12 with h | h
     ·rw [if_pos h]
     rw [if_neg (by omega),if_pos h]
    rw [e12,if_pos h12,Z7m (Yg8 hb.1),Yhe h2 h9,Z3x,Z6z]
    simp only [Option.bind_some]
    generalize (o.N == 0)=q1
    generalize (o.L.length == 0)=q2
    generalize Zdp o.E=q3
    generalize decide (o.L.length < 1048576)=q4
    generalize (o.L.all fun t=>rt t 63 && okk l t)=q5
    revert q1 q2 q3 q4 q5
    decide
   rw [if_neg h12,if_neg (by omega),if_neg (by omega)]
   by_cases h3:o.Kind=3
   ·rw [if_pos h3,if_pos h3,Yfl,i2 o.E d hb.2 (.inl (by omega)) hd]
    simp only [Option.bind_some]
    have hdk:Zoi l o.E=true→(o.E.Kind != 0)=true:=fun h=>by
     unfold Zoi at h
     by_cases k0:o.E.Kind=0
     ·rw [k0] at h
      repeat' split at h
      all_goals simp_all
     simp [k0]
    cases hL:o.L.length == 0 with
    | false =>
     cases (o.N == 0) <;> rfl
    | true =>
     have:o.L.length=0:=beq_iff_eq.1 hL
     rw [this]
     cases hdp:Zoi l o.E with
     | false=>cases (o.N == 0) <;> cases (o.E.Kind != 0) <;> rfl
     | true =>
      rw [hdk hdp]
      cases (o.N == 0) <;> cases rE o.E d <;> rfl
   rw [if_neg h3,if_neg h3]
   rfl
  show Zc6 (Zp k).1 (Zp k).2.1 (Zp k).2.2.1 (Zp k).2.2.2.1 (Zp k).2.2.2.2.1 (Zp k).2.2.2.2.2 a b c o=_
  unfold Zc6 bne
  rw [Z3x]
  by_cases hK:o.E.Kind=0
  ·rw [i1 o.E hb (.inr ⟨hK,by omega⟩),Z96 hK (by decide),beq_iff_eq.2 hK]
   simp only [Option.bind_some]
   generalize (o.N == 0)=q1
   generalize (o.L.length == 0)=q2
   generalize Zdp o.E=q3
   revert a b c q1 q2 q3
   decide
  rw [Ycd hK,beq_eq_false_iff_ne.2 hK]
  generalize (o.N == 0)=q1
  generalize (o.L.length == 0)=q2
  cases a <;> cases b <;> cases c <;> cases q1 <;> cases q2 <;> rfl
theorem Z2c {e:Ed} (h:BE e):Zni e=some (rE e 64):=Zcr (4 * SizeOf.sizeOf e+2) fun k hk=>(Z2b k).1 e h (.inl (by omega))
theorem Ygk {α:Type} {l:List α} {i:Nat} {x:α} (hx:l[i]? = some x) (hl:(l.length:Int)≤140737488355328):Zf1 l (i:Int) (IntKind.i64.wrap ((i:Int)+1))=some [x]:=by
 have hi:i < l.length:=by
  rcases Nat.lt_or_ge i l.length with h' | h'
  ·exact h'
  rw [List.getElem?_eq_none h'] at hx;cases hx
 rw [Jm (by omega) (by omega)]
 unfold Zf1
 rw [if_pos (by omega)]
 have e1:((i:Int)+1 - (i:Int)).toNat=1:=by omega
 rw [e1,Int.toNat_natCast,List.drop_eq_getElem_cons hi,List.take_succ_cons,List.take_zero]
 rw [List.getElem?_eq_getElem hi] at hx
 rw [Option.some.inj hx]
theorem Z9e:∀ (k:Nat),(∀ (e:Ed) (d:Nat),BE e→2 * SizeOf.sizeOf e < k→d≤64→(Yy k).1 e (d:Int)=some (rE e d)) ∧
  (∀ (l:Int) (o:Zh) (d:Nat),2≤l→l≤9→BO o→2 * SizeOf.sizeOf o.E+1 < k→d≤64→(Yy k).2 l o (d:Int)=some (okO l o (rE o.E d)))
 | 0=>⟨fun e d _ h=>by omega,fun l o d _ _ _ h=>by omega⟩
 | k+1=>by
  obtain ⟨i1,i2⟩:=Z9e k
  refine ⟨fun e d hb hk hd => ?_,fun l o d h2 h9 hb hk hd => ?_⟩
  ·show Zaf (Yy k).1 (Yy k).2 e (d:Int)=_
   unfold Zaf
   rw [Zoo,Zxl hb.old,Zxl hb.new,Ye6 hb,Ydt,Ycb hb,Z9p hb]
   by_cases hd0:d=0
   ·subst hd0
    rw [if_pos rfl]
    rfl
   have ed:((d:Int) == 0)=false:=by rw [beq_eq_false_iff_ne];omega
   rw [if_neg hd0,ed,cond_false]
   obtain ⟨d',rfl⟩:∃ d',d=d'+1:=⟨d - 1,by omega⟩
   have ed':IntKind.i64.wrap (((d'+1:Nat):Int) - 1)=(d':Int):=by rw [Jm (by omega) (by omega)];omega
   by_cases hbad:e.Kind < 0∨3 < e.Kind
   ·have q:cond (decide (e.Kind < 0)) true (decide (3 < e.Kind))=true:=by
     rcases hbad with h | h
     ·rw [decide_eq_true h];rfl
     rw [decide_eq_true h];cases decide (e.Kind < 0) <;> rfl
    rw [q,cond_true,if_neg (by omega),if_neg (by omega),if_neg (by omega),if_neg (by omega)]
   have q:cond (decide (e.Kind < 0)) true (decide (3 < e.Kind))=false:=by
    rw [decide_eq_false (by omega),decide_eq_false (by omega)]
    rfl
   rw [q,cond_false]
   simp only [Option.bind_some]
   have hkids:Zv (J9 (Yy k).1 e ((d'+1:Nat):Int)) (-1,0)=some (if chk (·.At) (okK d') (-1) e.Kids=true then Sum.inr () else Sum.inl ()) :=
    Zs5 e.Kids (·.At) (okK d') (J9 (Yy k).1 e ((d'+1:Nat):Int)) (.inl ()) (.inr ()) hb.k (fun p i x hi hx hm=>by
     unfold J9
     simp only
     rw [Us hi,cond_true,Z6 hx,Option.bind_some,ed',i1 x.E d' (hb.ks x hm) (by have:=Jz hm;omega) (by omega)]
     simp only [Option.bind_some]
     unfold okK okP bne
     simp only
     generalize decide (x.At≤p)=q1
     generalize decide (65534 < x.At)=q2
     generalize (x.E.Kind == 0)=q3
     generalize rE x.E d'=q4
     cases q1 <;> cases q2 <;> cases q3 <;> cases q4 <;> rfl) (fun p=>by unfold J9;simp only;rw [Zbh];rfl) (-1)
   have hnil:e.Ops=[]→Zv (Q6 (Yy k).2 e ((d'+1:Nat):Int)) 0=some (Sum.inr ()):=fun h=>Z7 (by
    unfold Q6
    rw [h]
    rfl)
   have wk_nil:Zhy e=true→e.Words=[]∧e.Kids=[]:=fun h=>by
    unfold Zhy at h
    rw [Bool.and_eq_true,beq_iff_eq,beq_iff_eq] at h
    exact ⟨List.eq_nil_of_length_eq_zero h.1,List.eq_nil_of_length_eq_zero h.2⟩
   have lo_nil:Zhg e=true→e.List_=0∧e.Ops=[]:=fun h=>by
    unfold Zhg at h
    rw [Bool.and_eq_true,beq_iff_eq,beq_iff_eq] at h
    exact ⟨h.1,List.eq_nil_of_length_eq_zero h.2⟩
   rw [Nat.add_sub_cancel]
   by_cases h0:e.Kind=0
   ·rw [if_pos h0]
    unfold Zdp Zj6
    rw [h0]
    cases hwk:Zhy e with
    | false=>cases Zcv e.Old <;> cases Zcv e.New <;> cases Zhg e <;> rfl
    | true =>
     cases hlo:Zhg e with
     | false=>cases Zcv e.Old <;> cases Zcv e.New <;> rfl
     | true =>
      obtain ⟨w0,k0⟩:=wk_nil hwk
      obtain ⟨l0,o0⟩:=lo_nil hlo
      rw [hkids,hnil o0,w0,k0,o0]
      cases Zcv e.Old <;> cases Zcv e.New <;> rfl
   rw [if_neg h0]
   by_cases h1:e.Kind=1
   ·have r1:=Zqn hb.old (d:=64) (by decide)
    have r2:=Zqn hb.new (d:=64) (by decide)
    rw [show ((64:Nat):Int)=64 from rfl] at r1 r2
    rw [if_pos h1,h1,r1,r2]
    simp only [Option.bind_some]
    generalize Zhy e=q1
    generalize Zhg e=q2
    generalize rt e.Old 64=q3
    generalize rt e.New 64=q4
    generalize (e.Old.Kind != 10)=q5
    generalize (e.New.Kind != 10)=q6
    cases q1 <;> cases q2 <;> cases q3 <;> cases q4 <;> cases q5 <;> cases q6 <;> rfl
   rw [if_neg h1]
   by_cases h2:e.Kind=2
   ·rw [if_pos h2,h2]
    unfold Zj6
    cases hlo:Zhg e with
    | false=>cases Zcv e.Old <;> cases Zcv e.New <;> rfl
    | true =>
     obtain ⟨l0,o0⟩:=lo_nil hlo
     rw [hkids,hnil o0,o0]
     generalize chk (·.At) okW (-1) e.Words=q1
     generalize chk (·.At) (okK d') (-1) e.Kids=q2
     cases Zcv e.Old <;> cases Zcv e.New <;> cases q1 <;> cases q2 <;> rfl
   have h3:e.Kind=3:=by omega
   rw [if_neg h2,if_pos h3,h3]
   unfold Zj6
   cases hwk:Zhy e with
   | false=>cases Zcv e.Old <;> cases Zcv e.New <;> rfl
   | true =>
    obtain ⟨w0,k0⟩:=wk_nil hwk
    rw [hkids,w0,k0]
    by_cases hl:2≤e.List_∧e.List_≤9
    ·have hops:Zv (Q6 (Yy k).2 e ((d'+1:Nat):Int)) 0=some (if (e.Ops.all fun o=>okO e.List_ o (rE o.E d'))=true then Sum.inr () else Sum.inl ()) :=
      Zda e.Ops _ (fun o=>okO e.List_ o (rE o.E d')) (Sum.inl ():Unit ⊕ Unit) (Sum.inr ()) hb.o (fun i x hi hx hm=>by
       unfold Q6
       rw [Us hi,cond_true,Z6 hx,Option.bind_some,ed',i2 e.List_ x d' hl.1 hl.2 ⟨hb.l x hm,hb.os x hm⟩ (by have:=Uh hm;omega) (by omega),Option.bind_some]
       cases okO e.List_ x (rE x.E d') <;> rfl) (by unfold Q6;rw [Zbh];rfl)
     rw [hops,decide_eq_true hl.1,decide_eq_true hl.2,decide_eq_false (p:=e.List_ < 2) (by omega),decide_eq_false (p:=9 < e.List_) (by omega)]
     unfold Zj5
     generalize (e.Ops.all fun o=>okO e.List_ o (rE o.E d'))=q1
     generalize decide ((e.Ops.foldl stR (0,0)).1 < 1048576)=q2
     generalize decide ((e.Ops.foldl stR (0,0)).2 < 1048576)=q3
     cases Zcv e.Old <;> cases Zcv e.New <;> cases q1 <;> cases q2 <;> cases q3 <;> rfl
    have q:cond (decide (e.List_ < 2)) true (decide (9 < e.List_))=true:=by
     by_cases h:e.List_ < 2
     ·rw [decide_eq_true h];rfl
     rw [decide_eq_true (p:=9 < e.List_) (by omega)];cases decide (e.List_ < 2) <;> rfl
    have q':(decide (2≤e.List_) && decide (e.List_≤9))=false:=by rw [Bool.and_eq_false_iff,decide_eq_false_iff_not,decide_eq_false_iff_not];omega
    rw [q,q']
    cases Zcv e.Old <;> cases Zcv e.New <;> rfl
  show Zd1 (Yy k).1 (Yy k).2 l o (d:Int)=_
  have hlen:(o.L.length:Int)≤140737488355328:=by have:=hb.1.1;omega
  have hloop:Zv (Zag l o) 0=some (if (o.L.all fun t=>rt t 63 && okk l t)=true then Sum.inr () else Sum.inl ()) :=
   Zda o.L _ (fun t=>rt t 63 && okk l t) (Sum.inl ():Unit ⊕ Unit) (Sum.inr ()) hlen (fun i x hi hx hm=>by
    unfold Zag
    have hbx:Bd ⟨l,[],[x]⟩:=Yg8 ⟨by simp,fun t ht=>by rw [List.mem_singleton.1 ht];exact hb.1.2 x hm⟩
    have r1:=Zqn hbx (d:=64) (by decide)
    rw [show ((64:Nat):Int)=64 from rfl,Yhe h2 h9] at r1
    rw [Us hi,cond_true,Ygk hx hlen,Option.bind_some,r1,Option.bind_some]
    simp only [List.all_cons,List.all_nil,Bool.and_true,List.length_singleton]
    cases rt x 63 && okk l x <;> rfl) (by unfold Zag;rw [Zbh];rfl)
  unfold Zd1 okO
  rw [Yer hb.2,i1 o.E d hb.2 (by omega) hd,hloop,Z3w,Z3x,Z6z]
  simp only [Option.bind_some]
  by_cases h0:o.Kind=0
  ·rw [if_pos h0,h0]
   generalize decide (1≤o.N)=q1
   generalize decide (o.N≤1048576)=q2
   generalize (o.L.length == 0)=q3
   generalize Zdp o.E=q4
   cases q1 <;> cases q2 <;> cases q3 <;> cases q4 <;> rfl
  rw [if_neg h0,beq_eq_false_iff_ne.2 h0,cond_false]
  by_cases h12:o.Kind=1∨o.Kind=2
  ·rw [if_pos h12,decide_eq_false (p:=o.Kind < 0) (by omega),decide_eq_false (p:=3 < o.Kind) (by omega),decide_eq_true (p:=o.Kind < 3) (by omega)]
   unfold bne
   generalize (o.N == 0)=q1
   generalize (o.L.length == 0)=q2
   generalize (o.L.all fun t=>rt t 63 && okk l t)=q3
   generalize Zdp o.E=q4
   cases q1 <;> cases q2 <;> cases q3 <;> cases q4 <;> rfl
  rw [if_neg h12]
  by_cases h3:o.Kind=3
  ·rw [if_pos h3,h3]
   unfold bne Zoi
   by_cases k0:o.E.Kind=0
   ·rw [k0]
    generalize (o.N == 0)=q1
    generalize (o.L.length == 0)=q2
    cases q1 <;> cases q2 <;> rfl
   rw [beq_eq_false_iff_ne.2 k0]
   by_cases l8:l=8
   ·rw [if_pos l8,l8]
    unfold bne
    rw [beq_eq_false_iff_ne.2 k0]
    generalize (o.N == 0)=q1
    generalize (o.L.length == 0)=q2
    generalize rE o.E d=q3
    cases q1 <;> cases q2 <;> cases q3 <;> rfl
   rw [if_neg l8]
   by_cases l9:l=9
   ·rw [if_pos l9,l9]
    generalize (o.N == 0)=q1
    generalize (o.L.length == 0)=q2
    generalize rE o.E d=q3
    generalize (o.E.Kind == 2)=q4
    generalize (o.E.Kind == 1)=q5
    generalize (o.E.Old.Kind == 1)=q6
    generalize (o.E.New.Kind == 1)=q7
    cases q1 <;> cases q2 <;> cases q3 <;> cases q4 <;> cases q5 <;> cases q6 <;> cases q7 <;> rfl
   rw [if_neg l9,decide_eq_true (p:=l≤7) (by omega)]
   generalize (o.N == 0)=q1
   generalize (o.L.length == 0)=q2
   cases q1 <;> cases q2 <;> rfl
  rw [if_neg h3]
  have q:cond (cond (o.N != 0) true (decide (o.Kind < 0))) true (decide (3 < o.Kind))=true:=by
   by_cases h:o.Kind < 0
   ·rw [decide_eq_true h];cases o.N != 0 <;> rfl
   rw [decide_eq_true (p:=3 < o.Kind) (by omega)];cases cond (o.N != 0) true (decide (o.Kind < 0)) <;> rfl
  rw [q]
  rfl
theorem Yfn {e:Ed} (h:BE e) {d:Nat} (hd:d≤64):Zg2 e (d:Int)=some (rE e d):=Zcr (2 * SizeOf.sizeOf e+1) fun k hk=>(Z9e k).1 e d h (by omega) hd
def ce (e:Ed):Nat:=1+e.Words.length+e.Ops.length+(e.Kids.attach.map fun k=>ce k.1.E).sum+(e.Ops.attach.map fun o=>ce o.1.E).sum
termination_by SizeOf.sizeOf e
decreasing_by
 ·exact Jz k.2
 exact Uh o.2
theorem Z6g (e:Ed):ce e=1+e.Words.length+e.Ops.length+(e.Kids.map fun k=>ce k.E).sum+(e.Ops.map fun o=>ce o.E).sum:=by
 rw [ce]
 have h1:(e.Kids.attach.map fun k=>ce k.1.E)=e.Kids.map fun k=>ce k.E:=List.attach_map_val (f:=fun k:Zk=>ce k.E)
 have h2:(e.Ops.attach.map fun o=>ce o.1.E)=e.Ops.map fun o=>ce o.E:=List.attach_map_val (f:=fun o:Zh=>ce o.E)
 rw [h1,h2]
theorem Z3v:∀ (k:Nat) (e:Ed) (d left:Int),BE e→SizeOf.sizeOf e < k→0≤d→d≤100→0≤left→left≤1000000→∃ r,Yd k e d left=some r∧-1≤r∧r≤1000000∧(0≤r→r+(ce e:Nat)≤left)
 | 0,e,_,_,_,h,_,_,_,_=>by omega
 | k+1,e,d,left,hb,hk,hd0,hd1,hl0,hl1=>by
  have hw:=hb.w
  have ho:=hb.o
  show ∃ r,Qn (Yd k) e d left=some r∧_
  unfold Qn
  rw [Jm (x:=left - 1) (by omega) (by omega),Jm (x:=left - 1 - (e.Words.length:Int)) (by omega) (by omega),Jm (by omega) (by omega),Z6g]
  cases hc:cond (d == 0) true (decide (left - 1 - (e.Words.length:Int) - (e.Ops.length:Int) < 0)) with
  | true=>exact ⟨-1,rfl,by omega,by omega,fun h=>by omega⟩
  | false =>
   rw [cond_false]
   have hd:¬ d=0∧0≤left - 1 - (e.Words.length:Int) - (e.Ops.length:Int):=by
    by_cases h:d=0
    ·simp [h] at hc
    have e:(d == 0)=false:=by simp [h]
    rw [e,cond_false,decide_eq_false_iff_not] at hc
    exact ⟨h,by omega⟩
   obtain ⟨r1,g1,g2,g3,g4⟩:=Zqo hb.old hd.2 (by omega)
   have hz:∃ z,cond (decide (0≤r1)) ((X8 e.New 80 r1).bind fun y4=>some y4) (some r1)=some z∧-1≤z∧z≤1000000∧(0≤z→z≤left - 1 - (e.Words.length:Int) - (e.Ops.length:Int)):=by
    by_cases h:0≤r1
    ·obtain ⟨r2,f1,f2,f3,f4⟩:=Zqo hb.new h g3
     refine ⟨r2,by rw [decide_eq_true h,f1];rfl,f2,f3,fun h2 => ?_⟩
     have:=f4 h2
     have:=g4 h
     omega
    exact ⟨r1,by rw [decide_eq_false h];rfl,g2,g3,fun h2=>absurd h2 h⟩
   obtain ⟨z,z1,z2,z3,z4⟩:=hz
   rw [g1,Option.bind_some,z1,Option.bind_some]
   obtain ⟨r,h1,h2⟩:=Zce (step:=X5 (Yd k) e d)
    (fun s=>∃ j:Nat,s.2=j∧j≤e.Kids.length∧-1≤s.1∧s.1≤1000000∧(0≤s.1→s.1+((((e.Kids.take j).map fun k=>ce k.E)).sum:Nat)≤left - 1 - (e.Words.length:Int) - (e.Ops.length:Int)))
    (fun s=>e.Kids.length - s.2.toNat) (fun r=>-1≤r∧r≤1000000∧(0≤r→r+((e.Kids.map fun k=>ce k.E).sum:Nat)≤left - 1 - (e.Words.length:Int) - (e.Ops.length:Int))) (fun s hI=>by
     obtain ⟨l,i⟩:=s
     obtain ⟨j,rfl,hj,g1,g2,g3⟩:=hI
     have hkl:=hb.k
     simp only at g1 g2 g3 ⊢
     unfold X5
     simp only
     by_cases hji:j < e.Kids.length
     ·rw [Us hji,cond_true]
      by_cases hl:0≤l
      ·have e1:decide (0≤l)=true:=by simp [hl]
       have hx:e.Kids[j]? = some e.Kids[j]:=List.getElem?_eq_getElem hji
       have hm:e.Kids[j]∈e.Kids:=List.getElem_mem hji
       obtain ⟨r,q1,q2,q3,q4⟩:=Z3v k e.Kids[j].E (d - 1) l (hb.ks _ hm) (by have:=Jz hm;omega) (by omega) (by omega) hl g2
       rw [e1,cond_true,Z6 hx,Option.bind_some,Jm (x:=d - 1) (by omega) (by omega),q1,Option.bind_some,Jm (by omega) (by omega)]
       refine .inl ⟨_,rfl,⟨j+1,by simp only;omega,by omega,q2,q3,fun hr => ?_⟩,by simp only;omega⟩
       have:=q4 hr
       have:=g3 hl
       rw [List.take_add_one,hx]
       simp only [Option.toList_some,List.map_append,List.map_cons,List.map_nil,List.sum_append,List.sum_cons,List.sum_nil]
       simp only at hr
       omega
      have e1:decide (0≤l)=false:=by simp [hl]
      rw [e1,cond_false]
      exact .inr ⟨l,rfl,g1,g2,fun h=>absurd h hl⟩
     have hj':j=e.Kids.length:=by omega
     subst hj'
     rw [Zbh,cond_false]
     rw [List.take_length] at g3
     exact .inr ⟨l,rfl,g1,g2,g3⟩) (z,0) ⟨0,rfl,Nat.zero_le _,z2,z3,fun h=>by simpa using z4 h⟩
   rw [h1,Option.bind_some]
   have inner:∀ (j:Nat) (hj:j < e.Ops.length) (l:Int),0≤l→l≤1000000→∃ r,Zv (Qt e (l,(j:Int))) (l,0)=some r∧-1≤r∧r≤1000000∧r≤l:=fun j hj l hl hl'=>by
    have hx:e.Ops[j]? = some e.Ops[j]:=List.getElem?_eq_getElem hj
    have hm:e.Ops[j]∈e.Ops:=List.getElem_mem hj
    have hL:=(hb.l _ hm).1
    obtain ⟨r,h1,h2⟩:=Zce (step:=Qt e (l,(j:Int)))
     (fun s=>∃ i:Nat,s.2=i∧i≤e.Ops[j].L.length∧-1≤s.1∧s.1≤1000000∧s.1≤l)
     (fun s=>e.Ops[j].L.length - s.2.toNat) (fun r=>-1≤r∧r≤1000000∧r≤l) (fun s hI=>by
      obtain ⟨l',i'⟩:=s
      obtain ⟨i,rfl,hi,g1,g2,g3⟩:=hI
      simp only at g1 g2 g3 ⊢
      unfold Qt
      simp only
      rw [Z6 hx,Option.bind_some,Option.bind_some]
      by_cases hii:i < e.Ops[j].L.length
      ·rw [Us hii,cond_true]
       by_cases hl2:0≤l'
       ·have e1:decide (0≤l')=true:=by simp [hl2]
        have hx2:e.Ops[j].L[i]? = some e.Ops[j].L[i]:=List.getElem?_eq_getElem hii
        have hm2:e.Ops[j].L[i]∈e.Ops[j].L:=List.getElem_mem hii
        obtain ⟨r,q1,q2,q3,q4⟩:=Zqo ((hb.l _ hm).2 _ hm2) hl2 g2
        rw [e1,cond_true,Z6 hx2,Option.bind_some,q1,Option.bind_some,Jm (by omega) (by omega)]
        refine .inl ⟨_,rfl,⟨i+1,by simp only;omega,by omega,q2,q3,?_⟩,by simp only;omega⟩
        simp only
        by_cases hr:0≤r
        ·have:=q4 hr;omega
        omega
       have e1:decide (0≤l')=false:=by simp [hl2]
       rw [e1,cond_false]
       exact .inr ⟨l',rfl,g1,g2,g3⟩
      have hi':i=e.Ops[j].L.length:=by omega
      subst hi'
      rw [Zbh,cond_false]
      exact .inr ⟨l',rfl,g1,g2,g3⟩) (l,0) ⟨0,rfl,Nat.zero_le _,by simp only;omega,by simp only;omega,by simp only;omega⟩
    exact ⟨r,h1,h2⟩
   obtain ⟨r',h1',h2'⟩:=Zce (step:=X6 (Yd k) e d)
    (fun s=>∃ j:Nat,s.2=j∧j≤e.Ops.length∧-1≤s.1∧s.1≤1000000∧(0≤s.1→0≤r∧s.1+((((e.Ops.take j).map fun o=>ce o.E)).sum:Nat)≤r))
    (fun s=>e.Ops.length - s.2.toNat) (fun q=>-1≤q∧q≤1000000∧(0≤q→0≤r∧q+((e.Ops.map fun o=>ce o.E).sum:Nat)≤r)) (fun s hI=>by
     obtain ⟨l,i⟩:=s
     obtain ⟨j,rfl,hj,g1,g2,g3⟩:=hI
     simp only at g1 g2 g3 ⊢
     unfold X6
     simp only
     by_cases hji:j < e.Ops.length
     ·rw [Us hji,cond_true]
      by_cases hl:0≤l
      ·have e1:decide (0≤l)=true:=by simp [hl]
       have hx:e.Ops[j]? = some e.Ops[j]:=List.getElem?_eq_getElem hji
       have hm:e.Ops[j]∈e.Ops:=List.getElem_mem hji
       obtain ⟨t,t1,t2,t3,t4⟩:=inner j hji l hl g2
       rw [e1,cond_true,t1,Option.bind_some,Jm (x:=(j:Int)+1) (by omega) (by omega)]
       by_cases ht:0≤t
       ·obtain ⟨r,q1,q2,q3,q4⟩:=Z3v k e.Ops[j].E (d - 1) t (hb.os _ hm) (by have:=Uh hm;omega) (by omega) (by omega) ht t3
        rw [decide_eq_true ht,cond_true,Z6 hx,Option.bind_some,Jm (x:=d - 1) (by omega) (by omega),q1]
        refine .inl ⟨_,rfl,⟨j+1,by simp only;omega,by omega,q2,q3,fun hr => ?_⟩,by simp only;omega⟩
        have:=q4 hr
        have:=g3 hl
        rw [List.take_add_one,hx]
        simp only [Option.toList_some,List.map_append,List.map_cons,List.map_nil,List.sum_append,List.sum_cons,List.sum_nil]
        simp only at hr
        omega
       rw [decide_eq_false ht]
       exact .inl ⟨_,rfl,⟨j+1,by simp only;omega,by omega,t2,t3,fun hr=>absurd hr ht⟩,by simp only;omega⟩
      have e1:decide (0≤l)=false:=by simp [hl]
      rw [e1,cond_false]
      exact .inr ⟨l,rfl,g1,g2,fun h=>absurd h hl⟩
     have hj':j=e.Ops.length:=by omega
     subst hj'
     rw [Zbh,cond_false]
     rw [List.take_length] at g3
     exact .inr ⟨l,rfl,g1,g2,g3⟩) (r,0) ⟨0,rfl,Nat.zero_le _,h2.1,h2.2.1,fun h=>⟨h,by simp⟩⟩
   rw [h1']
   refine ⟨r',rfl,h2'.1,h2'.2.1,fun hr => ?_⟩
   have p1:=h2'.2.2 hr
   have p2:=h2.2.2 p1.1
   omega
theorem Zp7:∀ (k k':Nat) (e:Ed) (d left:Int),SizeOf.sizeOf e < k→SizeOf.sizeOf e < k'→Yd k e d left=Yd k' e d left
 | 0,_,e,_,_,h,_=>by omega
 | k+1,0,e,_,_,_,h=>by omega
 | k+1,k'+1,e,d,left,h,h'=>by
  show Qn (Yd k) e d left=Qn (Yd k') e d left
  have e1:X5 (Yd k) e d=X5 (Yd k') e d:=funext fun s=>by
   unfold X5
   cases hx:Y7 e.Kids s.2 with
   | none=>rfl
   | some x=>simp only [Option.bind_some,Zp7 k k' x.E (IntKind.i64.wrap (d - 1)) s.1 (by have:=Jz (Zl2 hx);omega) (by have:=Jz (Zl2 hx);omega)]
  have e2:X6 (Yd k) e d=X6 (Yd k') e d:=funext fun s=>by
   unfold X6
   cases hx:Y7 e.Ops s.2 with
   | none=>rfl
   | some x=>
    have:∀ z,Yd k x.E (IntKind.i64.wrap (d - 1)) z=Yd k' x.E (IntKind.i64.wrap (d - 1)) z:=fun z=>Zp7 k k' x.E _ z (by have:=Uh (Zl2 hx);omega) (by have:=Uh (Zl2 hx);omega)
    simp only [Option.bind_some,this]
  unfold Qn
  rw [e1,e2]
theorem Yip {e:Ed} (h:BE e):∃ b,V9 e=some b∧(b=true→ce e≤3000):=by
 obtain ⟨r,h1,h2,h3,h4⟩:=Z3v (SizeOf.sizeOf e+1) e 80 3000 h (by omega) (by omega) (by omega) (by omega) (by omega)
 have hr:Zeu e 80 3000=some r:=Zcr (SizeOf.sizeOf e+1) fun k hk=>by rw [Zp7 k (SizeOf.sizeOf e+1) e 80 3000 (by omega) (by omega)];exact h1
 unfold V9
 rw [hr,Option.bind_some]
 refine ⟨_,rfl,fun hb => ?_⟩
 have:=h4 (by simpa using hb)
 have:0≤r:=by simpa using hb
 omega
theorem Z95 {e:Ed} (hb:BE e) {d:Nat} (h:rE e d=true):e.Ops.foldl stR (0,0)=e.Ops.foldl stI (0,0):=by
 have h0:Sm (0,0):=by unfold Sm;simp
 have hnil:Zhg e=true→e.Ops.foldl stR (0,0)=e.Ops.foldl stI (0,0):=fun h=>by
  unfold Zhg at h
  rw [Bool.and_eq_true,beq_iff_eq,beq_iff_eq] at h
  rw [List.eq_nil_of_length_eq_zero h.2]
  rfl
 rw [Zoo] at h
 split at h
 ·cases h
 split at h
 ·unfold Zdp at h
  simp only [Bool.and_eq_true] at h
  exact hnil h.2.2.2
 split at h
 ·simp only [Bool.and_eq_true] at h
  exact hnil h.1.2
 split at h
 ·simp only [Bool.and_eq_true] at h
  exact hnil h.1.2
 split at h
 ·simp only [Bool.and_eq_true] at h
  exact (Zvf (fun o=>rE o.E (d - 1)) e.Ops (0,0) h0 (List.all_eq_true.1 h.2.2.1) (fun o ho=>(hb.l o ho).1)).1
 cases h
theorem Zp3 {α:Type} {pl:α→Int} {ok:Int→α→Bool} {Q:α→Prop} (h:∀ p x,ok p x=true→Q x):∀ (xs:List α) (p:Int),chk pl ok p xs=true→∀ x∈xs,Q x
 | [],_,_=>fun x hx=>by cases hx
 | y::xs,p,hc=>fun x hx=>by
  rw [chk,Bool.and_eq_true] at hc
  rcases List.mem_cons.1 hx with rfl | hx
  ·exact h p _ hc.1
  exact Zp3 h xs (pl y) hc.2 x hx
abbrev EO:=Zh
def Jj:Tr:=⟨0,[],[]⟩
structure NW where
 out:List EO
 gone:List Tr
 come:List Tr
def eS0:Ed:=⟨0,⟨0,[],[]⟩,⟨0,[],[]⟩,[],[],0,[]⟩
def Zgf (l:Int) (e:Ed):Bool:=e.Kind == 0 || (l == 9 && (e.Kind == 2 && (e.Words.length == 0 && e.Kids.length == 0)))
def Zak (g:List Tr):List EO:=if g=[] then [] else [⟨1,0,g,eS0⟩]
def Zdi (g:List Tr):List EO:=if g=[] then [] else [⟨2,0,g,eS0⟩]
def NW.flush (s:NW):List EO:=s.out++(Zak s.gone++Zdi s.come)
def Km (out:List EO) (n:Int):List EO:=match out.getLast? with
 | some o=>if o.Kind=0 then out.dropLast++[⟨0,o.N+n,o.L,o.E⟩] else out++[⟨0,n,[],eS0⟩]
 | none=>[⟨0,n,[],eS0⟩]
def stN (l:Int) (s:NW) (p:EO×Ed):NW :=
 if p.1.Kind=1 then ⟨s.out,s.gone++p.1.L.map nrm,s.come⟩
 else if p.1.Kind=2 then ⟨s.out,s.gone,s.come++p.1.L.map nrm⟩
 else if p.1.Kind=0 then ⟨Km s.flush p.1.N,[],[]⟩
 else if Zgf l p.2=true then ⟨Km s.flush 1,[],[]⟩ else ⟨s.flush++[⟨3,0,[],p.2⟩],[],[]⟩
def s0N:NW:=⟨[],[],[]⟩
def Znl (l:Int) (ps:List (EO×Ed)):List EO:=(ps.foldl (stN l) s0N).flush
def nE (e:Ed):Ed :=
 if e.Kind=1 then ⟨1,nrm e.Old,nrm e.New,[],[],0,[]⟩
 else if e.Kind=2 then ⟨2,Jj,Jj,e.Words,e.Kids.attach.map fun k=>⟨k.1.At,nE k.1.E⟩,0,[]⟩
 else if e.Kind=3 then ⟨3,Jj,Jj,[],[],e.List_,Znl e.List_ (e.Ops.attach.map fun o=>(o.1,nE o.1.E))⟩
 else eS0
termination_by SizeOf.sizeOf e
decreasing_by
 ·exact Jz k.2
 exact Uh o.2
def Jr (l:List EO):List (EO×Ed):=l.map fun o=>(o,nE o.E)
theorem Zd9 (e:Ed):nE e=if e.Kind=1 then ⟨1,nrm e.Old,nrm e.New,[],[],0,[]⟩
 else if e.Kind=2 then ⟨2,Jj,Jj,e.Words,e.Kids.map fun k=>⟨k.At,nE k.E⟩,0,[]⟩
 else if e.Kind=3 then ⟨3,Jj,Jj,[],[],e.List_,Znl e.List_ (Jr e.Ops)⟩
 else eS0:=by
 have h1:(e.Kids.attach.map fun k=>(⟨k.1.At,nE k.1.E⟩:Zk))=e.Kids.map fun k=>⟨k.At,nE k.E⟩:=List.attach_map_val (f:=fun k:Zk=>(⟨k.At,nE k.E⟩:Zk))
 have h2:(e.Ops.attach.map fun o=>((o.1,nE o.1.E):EO×Ed))=Jr e.Ops:=List.attach_map_val (f:=fun o:EO=>((o,nE o.E):EO×Ed))
 rw [nE,h1,h2]
theorem Zcu (o':List EO) (k n:Int) (L:List Tr) (E:Ed):Km (o'++[⟨0,k,L,E⟩]) n=o'++[⟨0,k+n,L,E⟩]:=by
 unfold Km
 simp
theorem Zgk {out:List EO} {n:Int} (h:∀ o,out.getLast? = some o→o.Kind≠0):Km out n=out++[⟨0,n,[],eS0⟩]:=by
 unfold Km
 cases hl:out.getLast? with
 | none=>rw [List.getLast?_eq_none_iff.1 hl];rfl
 | some o=>simp only [if_neg (h o hl)]
theorem Yc6:Zak []=[]:=rfl
theorem Z6x:Zdi []=[]:=rfl
theorem Zgq {g:List Tr} (h:g≠[]):Zak g=[⟨1,0,g,eS0⟩]:=if_neg h
theorem Zgr {g:List Tr} (h:g≠[]):Zdi g=[⟨2,0,g,eS0⟩]:=if_neg h
theorem Ydh {a b:List Tr} {o:EO} (h:(Zak a++Zdi b).getLast? = some o):o.Kind=1∨o.Kind=2:=by
 by_cases hb:b=[]
 ·subst hb
  by_cases ha:a=[]
  ·subst ha;simp [Zak,Zdi] at h
  rw [Zgq ha,Z6x] at h;simp at h;subst h;exact .inl rfl
 rw [Zgr hb] at h
 simp at h
 subst h
 exact .inr rfl
theorem Yfr {a b:List Tr} (h:Zak a++Zdi b=[]):a=[]∧b=[]:=by
 rw [List.append_eq_nil_iff] at h
 refine ⟨?_,?_⟩
 ·by_cases ha:a=[]
  ·exact ha
  rw [Zgq ha] at h;simp at h
 by_cases hb:b=[]
 ·exact hb
 rw [Zgr hb] at h;simp at h
theorem Zm1 {s:NW} {o:EO} (h:s.flush.getLast? = some o):(o.Kind=1∨o.Kind=2)∨(s.gone=[]∧s.come=[]∧s.out.getLast? = some o):=by
 unfold NW.flush at h
 by_cases hD:Zak s.gone++Zdi s.come=[]
 ·obtain ⟨h1,h2⟩:=Yfr hD
  rw [hD,List.append_nil] at h
  exact .inr ⟨h1,h2,h⟩
 rw [List.getLast?_append] at h
 cases hq:(Zak s.gone++Zdi s.come).getLast? with
 | none=>exact absurd (List.getLast?_eq_none_iff.1 hq) hD
 | some x =>
  rw [hq] at h
  injection h with h
  subst h
  exact .inl (Ydh hq)
structure NInv (l:Int) (s:NW):Prop where
 again:(Jr s.out).foldl (stN l) s0N=⟨s.out,[],[]⟩
 last:∀ o' o,s.out=o'++[o]→o.Kind=0→o.L=[]∧o.E=eS0∧(∀ x,o'.getLast? = some x→x.Kind≠0)∧((Jr o').foldl (stN l) s0N).flush=o'
 gone:s.gone.map nrm=s.gone
 come:s.come.map nrm=s.come
theorem Zep (a b:List EO):Jr (a++b)=Jr a++Jr b:=by simp [Jr]
theorem Zt1 {l:Int} {s:NW} {n:Int} {L:List Tr} {E r:Ed}:stN l s (⟨0,n,L,E⟩,r)=⟨Km s.flush n,[],[]⟩:=by
 unfold stN
 simp
theorem Zp5 {l:Int} {s:NW} (h:NInv l s):(Jr s.flush).foldl (stN l) s0N=s:=by
 unfold NW.flush
 rw [Zep,List.foldl_append,h.again,Zep,List.foldl_append]
 have e1:(Jr (Zak s.gone)).foldl (stN l) ⟨s.out,[],[]⟩=⟨s.out,s.gone,[]⟩:=by
  by_cases hg:s.gone=[]
  ·rw [hg];rfl
  rw [Zgq hg];simp [Jr,stN,h.gone]
 have e2:(Jr (Zdi s.come)).foldl (stN l) ⟨s.out,s.gone,[]⟩=⟨s.out,s.gone,s.come⟩:=by
  by_cases hg:s.come=[]
  ·rw [hg];rfl
  rw [Zgr hg];simp [Jr,stN,h.come]
 rw [e1,e2]
theorem Z1a {α:Type} {a b:List α} {x y:α} (h:a++[x]=b++[y]):a=b∧x=y:=by
 have:=List.append_inj' h rfl
 exact ⟨this.1,by simpa using this.2⟩
theorem NInv.keep {l:Int} {s:NW} (h:NInv l s) (n:Int):NInv l ⟨Km s.flush n,[],[]⟩:=by
 by_cases hk:∃ o,s.flush.getLast? = some o∧o.Kind=0
 ·obtain ⟨o,ho,hk0⟩:=hk
  rcases Zm1 ho with h12 | ⟨g1,g2,g3⟩
  ·omega
  have hfl:s.flush=s.out:=by unfold NW.flush;rw [g1,g2];simp [Zak,Zdi]
  obtain ⟨o',ho'⟩:=List.getLast?_eq_some_iff.1 g3
  obtain ⟨a1,a2,a3,a4⟩:=h.last o' o ho' hk0
  obtain ⟨k,N,L,E⟩:=o
  simp only at hk0 a1 a2
  subst hk0 a1 a2
  rw [hfl,ho',Zcu]
  have key:∀ N':Int,(Jr (o'++[⟨0,N',[],eS0⟩])).foldl (stN l) s0N=⟨o'++[⟨0,N',[],eS0⟩],[],[]⟩:=fun N'=>by
   rw [Zep,List.foldl_append]
   show stN l _ (⟨0,N',[],eS0⟩,nE eS0)=_
   rw [Zt1,a4,Zgk a3]
  refine ⟨key _,fun o1 o2 he hk2 => ?_,rfl,rfl⟩
  obtain ⟨e1,e2⟩:=Z1a he
  subst e1 e2
  exact ⟨rfl,rfl,a3,a4⟩
 have hk':∀ o,s.flush.getLast? = some o→o.Kind≠0:=fun o ho h0=>hk ⟨o,ho,h0⟩
 rw [Zgk hk']
 refine ⟨?_,fun o1 o2 he hk2 => ?_,rfl,rfl⟩
 ·rw [Zep,List.foldl_append,Zp5 h]
  show stN l _ (⟨0,n,[],eS0⟩,nE eS0)=_
  rw [Zt1,Zgk hk']
 simp only at he
 obtain ⟨e1,e2⟩:=Z1a he
 subst e1 e2
 exact ⟨rfl,rfl,hk',by rw [Zp5 h]⟩
theorem NInv.step {l:Int} {s:NW} (h:NInv l s) {p:EO×Ed} (hp:nE p.2=p.2):NInv l (stN l s p):=by
 unfold stN
 split
 ·exact ⟨h.again,h.last,by simp only [List.map_append,h.gone,List.map_map];congr 1;exact List.map_congr_left fun x _=>Zs9 x,h.come⟩
 split
 ·exact ⟨h.again,h.last,h.gone,by simp only [List.map_append,h.come,List.map_map];congr 1;exact List.map_congr_left fun x _=>Zs9 x⟩
 split
 ·exact h.keep _
 split
 ·exact h.keep _
 rename_i h1 h2 h0 hi
 refine ⟨?_,fun o1 o2 he hk2 => ?_,rfl,rfl⟩
 ·simp only
  rw [Zep,List.foldl_append,Zp5 h]
  show stN l s (⟨3,0,[],p.2⟩,nE p.2)=_
  rw [hp]
  unfold stN
  simp only [show ¬ (3:Int)=1 from by decide,show ¬ (3:Int)=2 from by decide,show ¬ (3:Int)=0 from by decide,if_false]
  rw [if_neg hi]
 simp only at he
 obtain ⟨_,e2⟩:=Z1a he
 subst e2
 simp at hk2
theorem Z2l {l:Int}:∀ (ps:List (EO×Ed)) (s:NW),NInv l s→(∀ p∈ps,nE p.2=p.2)→NInv l (ps.foldl (stN l) s)
 | [],_,h,_=>h
 | p::ps,s,h,hp=>Z2l ps _ (h.step (hp p (by simp))) fun q hq=>hp q (by simp [hq])
theorem Z8m {l:Int} {ps:List (EO×Ed)} (hp:∀ p∈ps,nE p.2=p.2):Znl l (Jr (Znl l ps))=Znl l ps:=by
 have h:=Z2l ps s0N (l:=l) ⟨rfl,fun o' o he=>by simp [s0N] at he,rfl,rfl⟩ hp
 unfold Znl
 rw [Zp5 h]
theorem Z36:∀ (n:Nat) (e:Ed),SizeOf.sizeOf e < n→nE (nE e)=nE e
 | 0,_,h=>by omega
 | n+1,e,h=>by
  rw [Zd9 e]
  by_cases h1:e.Kind=1
  ·rw [if_pos h1,Zd9]
   simp [Zs9]
  rw [if_neg h1]
  by_cases h2:e.Kind=2
  ·rw [if_pos h2,Zd9]
   simp only [show ¬ (2:Int)=1 from by decide,if_false,if_true,List.map_map]
   congr 1
   refine List.map_congr_left fun k hk => ?_
   simp only [Function.comp]
   rw [Z36 n k.E (by have:=Jz hk;omega)]
  rw [if_neg h2]
  by_cases h3:e.Kind=3
  ·rw [if_pos h3,Zd9]
   simp only [show ¬ (3:Int)=1 from by decide,show ¬ (3:Int)=2 from by decide,if_false,if_true]
   rw [Z8m fun p hp => ?_]
   obtain ⟨o,ho,rfl⟩:=List.mem_map.1 hp
   exact Z36 n o.E (by have:=Uh ho;omega)
  rw [if_neg h3,Zd9]
  simp [eS0]
theorem Yhd (e:Ed):nE (nE e)=nE e:=Z36 _ e (Nat.lt_succ_self _)
theorem Zs6 {α β:Type} (xs:List α) (f:α→β) (step:Int×List β→Option ((Int×List β) ⊕ List β)) (acc:List β) (hl:(xs.length:Int)≤140737488355328)
  (h1:∀ (i:Nat) (x:α) (out:List β),i < xs.length→xs[i]? = some x→x∈xs→out.length=acc.length+i→step ((i:Int),out)=some (.inl (IntKind.i64.wrap ((i:Int)+1),out++[f x])))
  (h2:∀ out,step ((xs.length:Int),out)=some (.inr out)):Zv step (0,acc)=some (acc++xs.map f):=by
 have key:∀ m i,i+m=xs.length→Zv step ((i:Int),acc++(xs.take i).map f)=some (acc++xs.map f):=fun m=>by
  induction m with
  | zero =>
   intro i hi
   have hi':i=xs.length:=by omega
   subst hi'
   rw [List.take_length]
   exact Z7 (h2 _)
  | succ m ih =>
   intro i hi
   have hx:xs[i]? = some xs[i]:=List.getElem?_eq_getElem (by omega)
   have h:=h1 i _ (acc++(xs.take i).map f) (by omega) hx (List.mem_of_getElem? hx) (by rw [List.length_append,List.length_map,List.length_take];omega)
   rw [Jm (by omega) (by omega)] at h
   rw [Y9 h]
   have e:acc++(xs.take i).map f++[f xs[i]]=acc++(xs.take (i+1)).map f:=by
    rw [List.take_add_one,hx,List.map_append,List.append_assoc]
    rfl
   rw [e]
   exact ih (i+1) (by omega)
 have:=key xs.length 0 (by omega)
 simpa using this
theorem Zl1 {α:Type} (xs:List α) (x:α):Y7 (xs++[x]) (xs.length:Int)=some x:=Z6 (by simp)
def Zsy (k:Int):List EO:=if 0 < k then [⟨0,k,[],eS0⟩] else []
abbrev Wr:=Zy
theorem Yh0 {w:Wr} (ho:w.out.length≤500000000):X0 w=some ⟨w.out++Zsy w.kept++Zak w.gone++Zdi w.come,0,[],[]⟩:=by
 unfold X0
 have h1:(cond (decide (0 < w.kept)) ((Gq 240 w.out ([⟨0,0,[],eS0⟩]:List EO)).bind fun l2=>(Y7 l2 (w.out.length:Int)).bind fun x3=>some (w.out++[(⟨0,w.kept,[],eS0⟩:EO)])) (some w.out))=some (w.out++Zsy w.kept):=by
  unfold Zsy
  by_cases h:0 < w.kept
  ·rw [decide_eq_true h,cond_true,Jc (by simp only [List.length_singleton];omega) (by simp only [List.length_singleton];omega),Option.bind_some,Zl1,Option.bind_some,if_pos h]
  rw [decide_eq_false h,cond_false,if_neg h,List.append_nil]
 have h2:∀ z1:List EO,z1.length≤w.out.length+1→(cond (decide (0 < (w.gone.length:Int))) ((Gq 240 z1 ([⟨0,0,[],eS0⟩]:List EO)).bind fun l9=>(Y7 l9 (z1.length:Int)).bind fun x10=>some ((z1++[(⟨1,0,w.gone,eS0⟩:EO)]),w.gone)) (some (z1,w.gone)))=some (z1++Zak w.gone,w.gone):=fun z1 hz=>by
  by_cases h:w.gone=[]
  ·rw [h];simp [Zak]
  have:decide (0 < (w.gone.length:Int))=true:=by rw [decide_eq_true_eq];have:=List.length_pos_iff.2 h;omega
  rw [this,cond_true,Jc (by simp only [List.length_singleton];omega) (by simp only [List.length_singleton];omega),Option.bind_some,Zl1,Option.bind_some,Zgq h]
 have h3:∀ z1:List EO,z1.length≤w.out.length+2→(cond (decide (0 < (w.come.length:Int))) ((Gq 240 z1 ([⟨0,0,[],eS0⟩]:List EO)).bind fun l16=>(Y7 l16 (z1.length:Int)).bind fun x17=>some ((z1++[(⟨2,0,w.come,eS0⟩:EO)]),w.come)) (some (z1,w.come)))=some (z1++Zdi w.come,w.come):=fun z1 hz=>by
  by_cases h:w.come=[]
  ·rw [h];simp [Zdi]
  have:decide (0 < (w.come.length:Int))=true:=by rw [decide_eq_true_eq];have:=List.length_pos_iff.2 h;omega
  rw [this,cond_true,Jc (by simp only [List.length_singleton];omega) (by simp only [List.length_singleton];omega),Option.bind_some,Zl1,Option.bind_some,Zgr h]
 have l1:(w.out++Zsy w.kept).length≤w.out.length+1:=by
  unfold Zsy;split <;> simp
 have l2:(w.out++Zsy w.kept++Zak w.gone).length≤w.out.length+2:=by
  have:(Zak w.gone).length≤1:=by unfold Zak;split <;> simp
  rw [List.length_append];omega
 refine Option.bind_eq_some_iff.2 ⟨_,h1,?_⟩
 refine Option.bind_eq_some_iff.2 ⟨_,h2 _ l1,?_⟩
 refine Option.bind_eq_some_iff.2 ⟨_,h3 _ l2,rfl⟩
def J7 (o:EO):Nat:=if o.Kind=0 then o.N.toNat else if o.Kind=3 then 1 else o.L.length
def opk (o:EO):Prop:=(o.Kind=0∧1≤o.N)∨(o.Kind=1∧o.L≠[])∨(o.Kind=2∧o.L≠[])∨o.Kind=3
structure WS (w:Wr) (s:NW) (i S:Nat):Prop where
 nn:0≤w.kept
 zero:w.kept=0→s=⟨w.out,w.gone,w.come⟩
 pos:0 < w.kept→w.gone=[]∧w.come=[]∧s=⟨w.out++[⟨0,w.kept,[],eS0⟩],[],[]⟩
 last:(w.kept=0→w.gone=[]∧w.come=[])→∀ o,w.out.getLast? = some o→o.Kind≠0
 len:w.out.length≤3 * i
 sum:w.gone.length+w.come.length+w.kept.toNat≤S
theorem WS.flush {w:Wr} {s:NW} {i S:Nat} (h:WS w s i S):w.out++Zsy w.kept++Zak w.gone++Zdi w.come=s.flush:=by
 by_cases hk:w.kept=0
 ·rw [h.zero hk]
  unfold NW.flush Zsy
  rw [if_neg (by omega),List.append_nil,List.append_assoc]
 have hp:0 < w.kept:=by have:=h.nn;omega
 obtain ⟨h1,h2,h3⟩:=h.pos hp
 rw [h3,h1,h2]
 unfold NW.flush Zsy
 rw [if_pos hp]
 simp [Zak,Zdi]
theorem WS.nk {w:Wr} {s:NW} {i S:Nat} (h:WS w s i S) (hk:w.kept=0):∀ o,s.flush.getLast? = some o→o.Kind≠0:=fun o ho=>by
 rcases Zm1 ho with h12 | ⟨g1,g2,g3⟩
 ·omega
 have:=h.zero hk
 rw [this] at g1 g2 g3
 exact h.last (fun _=>⟨g1,g2⟩) o g3
theorem WS.lay {w:Wr} {s:NW} {i S:Nat} (h:WS w s i S) (hi:i≤1048576):X0 w=some ⟨s.flush,0,[],[]⟩:=by
 rw [Yh0 (by have:=h.len;omega),h.flush]
theorem WS.flen {w:Wr} {s:NW} {i S:Nat} (h:WS w s i S):s.flush.length≤3 * i+2:=by
 by_cases hk:w.kept=0
 ·rw [h.zero hk]
  have:=h.len
  have d1:(Zak w.gone).length≤1:=by unfold Zak;split <;> simp
  have d2:(Zdi w.come).length≤1:=by unfold Zdi;split <;> simp
  unfold NW.flush
  simp only [List.length_append]
  omega
 have hp:0 < w.kept:=by have:=h.nn;omega
 obtain ⟨_,_,h3⟩:=h.pos hp
 rw [h3]
 have:=h.len
 unfold NW.flush
 simp [Zak,Zdi]
 omega
theorem Zlw (w:Wr):(⟨w.out,w.kept,w.gone,w.come⟩:Wr)=w:=rfl
theorem Z9m {w:Wr} {s:NW} {i S:Nat} (h:WS w s i S) (hi:i≤1048576) (hS:S≤1073741824) {n:Int} (h1:1≤n) (hn:n≤1073741824):∃ w',Kx w n=some w'∧WS w' ⟨Km s.flush n,[],[]⟩ (i+1) (S+n.toNat):=by
 unfold Kx
 by_cases hk:w.kept=0
 ·have e:(w.kept == 0)=true:=by rw [hk];rfl
  have hw:IntKind.i64.wrap (0+n)=n:=by rw [Jm (by omega) (by omega)];omega
  rw [e,cond_true,Zlw,h.lay hi]
  simp only [Option.bind_some,hw]
  refine ⟨_,rfl,by simp only;omega,fun h0=>by simp only at h0;omega,fun _=>⟨rfl,rfl,?_⟩,fun _=>h.nk hk,by simp only;have:=h.flen;omega,by simp⟩
  rw [Zgk (h.nk hk)]
 have hp:0 < w.kept:=by have:=h.nn;omega
 have e:(w.kept == 0)=false:=by rw [beq_eq_false_iff_ne];exact hk
 obtain ⟨g1,g2,g3⟩:=h.pos hp
 have hs:=h.sum
 have hw:IntKind.i64.wrap (w.kept+n)=w.kept+n:=by rw [Jm (by omega) (by omega)]
 rw [e,cond_false]
 simp only [Option.bind_some,hw]
 refine ⟨_,rfl,by simp only;omega,fun h0=>by simp only at h0;omega,fun _=>⟨g1,g2,?_⟩,fun _=>h.last (fun h0=>by omega),by simp only;have:=h.len;omega,by simp only;omega⟩
 have hf:s.flush=w.out++[⟨0,w.kept,[],eS0⟩]:=by rw [g3];unfold NW.flush;simp [Zak,Zdi]
 rw [hf,Zcu]
theorem Yfw {l:Int} {e:Ed} (hb:BE e):Zgh l e=some (Zgf l e):=by
 unfold Zgh Zgf
 have hw:=hb.w
 have hk:=hb.k
 have e1:(IntKind.i64.wrap ((e.Words.length:Int)+(e.Kids.length:Int)) == 0)=(e.Words.length == 0 && e.Kids.length == 0):=by
  rw [Jm (by omega) (by omega),Bool.eq_iff_iff,Bool.and_eq_true,beq_iff_eq,beq_iff_eq,beq_iff_eq]
  omega
 rw [e1]
 cases e.Kind == 0 <;> cases l == 9 <;> cases e.Kind == 2 <;> cases (e.Words.length == 0 && e.Kids.length == 0) <;> rfl
theorem Z79 {w:Wr} {s:NW} {i S:Nat} (h:WS w s i S) (hi:i≤1048576) (hS:S≤1073741824) {l:Int} {e:Ed} (hb:BE e) :
  ∃ w',Kw w l e=some w'∧WS w' (if Zgf l e=true then ⟨Km s.flush 1,[],[]⟩ else ⟨s.flush++[⟨3,0,[],e⟩],[],[]⟩) (i+1) (S+1):=by
 unfold Kw
 rw [Yfw hb,Option.bind_some]
 cases hid:Zgf l e with
 | true =>
  obtain ⟨w',h1,h2⟩:=Z9m h hi hS (n:=1) (by omega) (by omega)
  rw [cond_true,Zlw,h1]
  exact ⟨w',rfl,h2⟩
 | false =>
  have hf:=h.flen
  rw [cond_false,Zlw,h.lay hi,Option.bind_some,Jc (by simp only [List.length_singleton];omega) (by simp only [List.length_singleton];omega),Option.bind_some,Zl1,Option.bind_some]
  refine ⟨_,rfl,Int.le_refl _,fun _=>rfl,fun h0=>by simp at h0,fun _ o ho => ?_,by simp;omega,by simp⟩
  simp only [List.getLast?_concat,Option.some.injEq] at ho
  subst ho
  simp
theorem Z0i (step:Int×List Tr→Option ((Int×List Tr) ⊕ List Tr)) (L acc:List Tr) (hL:∀ t∈L,Bd t) (hl:(acc.length+L.length) * 56≤140737488355328)
  (h1:∀ (i:Nat) (x:Tr) (out:List Tr),i < L.length→L[i]? = some x→step ((i:Int),out)=((Zdl x).bind fun y6=>(Gq 56 out ([(⟨0,[],[]⟩:Tr)])).bind fun l7=>(Y7 l7 (out.length:Int)).bind fun x8=>some (.inl ((IntKind.i64.wrap ((i:Int)+1)),(out++[y6])))))
  (h2:∀ out,step ((L.length:Int),out)=some (.inr out)):Zv step (0,acc)=some (acc++L.map nrm) :=
 Zs6 L nrm step acc (by omega) (fun i x out hi hx hm ho=>by
  rw [h1 i x out hi hx,Zxm (hL x hm),Option.bind_some,Jc (by simp only [List.length_singleton];omega) (by simp only [List.length_singleton];omega),Option.bind_some,Zl1,Option.bind_some]) h2
theorem Z35 {α β:Type} {f:α→β} {l:List α} (h:l≠[]):l.map f≠[]:=by simpa using h
theorem Ye2 {w:Wr} {s:NW} {i S:Nat} (h:WS w s i S) (hi:i≤1048576) {L:List Tr} (hS:S+L.length≤1073741824) (hne:L≠[]) (hL:∀ t∈L,Bd t) :
  ∃ w',Kh w L=some w'∧WS w' ⟨s.out,s.gone++L.map nrm,s.come⟩ (i+1) (S+L.length):=by
 have hs:=h.sum
 have hloop:∀ acc:List Tr,acc.length≤S→Zv (Q8 L) (0,acc)=some (acc++L.map nrm):=fun acc ha =>
  Z0i _ L acc hL (by omega) (fun i x out hi hx=>by unfold Q8;rw [Us hi,cond_true,Z6 hx,Option.bind_some]) (fun out=>by unfold Q8;rw [Zbh,cond_false])
 unfold Kh
 by_cases hk:w.kept=0
 ·rw [decide_eq_false (by omega),cond_false,Option.bind_some]
  simp only
  rw [hloop w.gone (by omega),Option.bind_some]
  refine ⟨_,rfl,by simp only;omega,fun _ => ?_,fun h0=>by simp only at h0;omega,fun hg => ?_,by simp only;have:=h.len;omega,by simp only [List.length_append,List.length_map];omega⟩
  ·rw [h.zero hk]
  have:=(hg hk).1
  simp only at this
  exact absurd (List.append_eq_nil_iff.1 this).2 (Z35 hne)
 have hp:0 < w.kept:=by have:=h.nn;omega
 obtain ⟨g1,g2,g3⟩:=h.pos hp
 have hf:s.flush=s.out:=by rw [g3];unfold NW.flush;simp [Zak,Zdi]
 rw [decide_eq_true hp,cond_true,Zlw,h.lay hi]
 simp only [Option.bind_some]
 rw [hloop [] (by simp),Option.bind_some]
 refine ⟨_,rfl,Int.le_refl _,fun _ => ?_,fun h0=>by simp at h0,fun hg => ?_,by simp only;have:=h.flen;omega,by simp⟩
 ·rw [hf,g3]
 have:=(hg rfl).1
 simp only at this
 exact absurd (List.append_eq_nil_iff.1 this).2 (Z35 hne)
theorem Ye3 {w:Wr} {s:NW} {i S:Nat} (h:WS w s i S) (hi:i≤1048576) {L:List Tr} (hS:S+L.length≤1073741824) (hne:L≠[]) (hL:∀ t∈L,Bd t) :
  ∃ w',Ki w L=some w'∧WS w' ⟨s.out,s.gone,s.come++L.map nrm⟩ (i+1) (S+L.length):=by
 have hs:=h.sum
 have hloop:∀ acc:List Tr,acc.length≤S→Zv (Q9 L) (0,acc)=some (acc++L.map nrm):=fun acc ha =>
  Z0i _ L acc hL (by omega) (fun i x out hi hx=>by unfold Q9;rw [Us hi,cond_true,Z6 hx,Option.bind_some]) (fun out=>by unfold Q9;rw [Zbh,cond_false])
 unfold Ki
 by_cases hk:w.kept=0
 ·rw [decide_eq_false (by omega),cond_false,Option.bind_some]
  simp only
  rw [hloop w.come (by omega),Option.bind_some]
  refine ⟨_,rfl,by simp only;omega,fun _ => ?_,fun h0=>by simp only at h0;omega,fun hg => ?_,by simp only;have:=h.len;omega,by simp only [List.length_append,List.length_map];omega⟩
  ·rw [h.zero hk]
  have:=(hg hk).2
  simp only at this
  exact absurd (List.append_eq_nil_iff.1 this).2 (Z35 hne)
 have hp:0 < w.kept:=by have:=h.nn;omega
 obtain ⟨g1,g2,g3⟩:=h.pos hp
 have hf:s.flush=s.out:=by rw [g3];unfold NW.flush;simp [Zak,Zdi]
 rw [decide_eq_true hp,cond_true,Zlw,h.lay hi]
 simp only [Option.bind_some]
 rw [hloop [] (by simp),Option.bind_some]
 refine ⟨_,rfl,Int.le_refl _,fun _ => ?_,fun h0=>by simp at h0,fun hg => ?_,by simp only;have:=h.flen;omega,by simp⟩
 ·rw [hf,g3]
 have:=(hg rfl).2
 simp only at this
 exact absurd (List.append_eq_nil_iff.1 this).2 (Z35 hne)
def X2 (l:List EO):Nat:=(l.map J7).sum
theorem Yd7 {rE':Ed→Option Ed} {l:Int} {os:List EO} (hlen:os.length≤1048576) (hsum:X2 os≤1073741824) (hok:∀ o∈os,opk o) (hL:∀ o∈os,∀ t∈o.L,Bd t)
  (hE:∀ o∈os,o.Kind=3→rE' o.E=some (nE o.E)∧BE (nE o.E)) :
  ∃ w',Zv (Gj rE' l os) (0,0,[],[],[])=some (w'.kept,w'.out,w'.gone,w'.come)∧WS w' ((Jr os).foldl (stN l) s0N) os.length (X2 os):=by
 have key:∀ (ys:List EO) (i:Nat) (w:Wr) (s:NW) (S:Nat),os.drop i=ys→i≤os.length→S+X2 ys≤1073741824→WS w s i S →
   ∃ w',Zv (Gj rE' l os) ((i:Int),w.kept,w.out,w.gone,w.come)=some (w'.kept,w'.out,w'.gone,w'.come)∧WS w' ((Jr ys).foldl (stN l) s) os.length (S+X2 ys):=fun ys=>by
  induction ys with
  | nil =>
   intro i w s S hd hi hS hw
   have hil:i=os.length:=by
    have:=List.drop_eq_nil_iff.1 hd
    omega
   subst hil
   exact ⟨w,Z7 (by unfold Gj;simp only;rw [Zbh,cond_false]),hw⟩
  | cons x ys ih =>
   intro i w s S hd hi hS hw
   have hil:i < os.length:=by
    rcases Nat.lt_or_ge i os.length with h | h
    ·exact h
    rw [List.drop_eq_nil_of_le h] at hd;cases hd
   have hx:os[i]? = some x:=by
    rw [List.drop_eq_getElem_cons hil] at hd
    injection hd with h1 _
    rw [List.getElem?_eq_getElem hil,h1]
   have hd':os.drop (i+1)=ys:=by
    rw [List.drop_eq_getElem_cons hil] at hd
    injection hd
   have hm:=List.mem_of_getElem? hx
   have hsx:X2 (x::ys)=J7 x+X2 ys:=by unfold X2;simp
   rw [hsx] at hS ⊢
   have main:∃ w',(Gj rE' l os) ((i:Int),w.kept,w.out,w.gone,w.come)=some (.inl (((i+1:Nat):Int),w'.kept,w'.out,w'.gone,w'.come))∧WS w' (stN l s (x,nE x.E)) (i+1) (S+J7 x):=by
    unfold Gj
    simp only
    rw [Us hil,cond_true,Z6 hx,Option.bind_some,Jm (by omega) (by omega)]
    rcases hok x hm with ⟨k,hn⟩ | ⟨k,hn⟩ | ⟨k,hn⟩ | k
    ·have e0:(x.Kind == 0)=true:=by rw [k];rfl
     have ht:J7 x=x.N.toNat:=by unfold J7;rw [if_pos k]
     have hst:stN l s (x,nE x.E)=⟨Km s.flush x.N,[],[]⟩:=by
      unfold stN
      simp only [k,show ¬ (0:Int)=1 from by decide,show ¬ (0:Int)=2 from by decide,if_false,if_true]
     rw [ht] at hS
     obtain ⟨w',h1,h2⟩:=Z9m hw (by omega) (by omega) hn (by omega)
     rw [e0,cond_true,Zlw,h1,ht,hst]
     exact ⟨w',rfl,h2⟩
    ·have e0:(x.Kind == 0)=false:=by rw [k];rfl
     have e1:(x.Kind == 1)=true:=by rw [k];rfl
     have ht:J7 x=x.L.length:=by unfold J7;rw [if_neg (by omega),if_neg (by omega)]
     have hst:stN l s (x,nE x.E)=⟨s.out,s.gone++x.L.map nrm,s.come⟩:=by
      unfold stN
      simp only [k,if_true]
     rw [ht] at hS
     obtain ⟨w',h1,h2⟩:=Ye2 hw (by omega) (by omega) hn (hL x hm)
     rw [e0,e1,cond_false,cond_true,Zlw,h1,ht,hst]
     exact ⟨w',rfl,h2⟩
    ·have e0:(x.Kind == 0)=false:=by rw [k];rfl
     have e1:(x.Kind == 1)=false:=by rw [k];rfl
     have e2:(x.Kind == 2)=true:=by rw [k];rfl
     have ht:J7 x=x.L.length:=by unfold J7;rw [if_neg (by omega),if_neg (by omega)]
     have hst:stN l s (x,nE x.E)=⟨s.out,s.gone,s.come++x.L.map nrm⟩:=by
      unfold stN
      simp only [k,show ¬ (2:Int)=1 from by decide,if_false,if_true]
     rw [ht] at hS
     obtain ⟨w',h1,h2⟩:=Ye3 hw (by omega) (by omega) hn (hL x hm)
     rw [e0,e1,e2,cond_false,cond_false,cond_true,Zlw,h1,ht,hst]
     exact ⟨w',rfl,h2⟩
    have e0:(x.Kind == 0)=false:=by rw [k];rfl
    have e1:(x.Kind == 1)=false:=by rw [k];rfl
    have e2:(x.Kind == 2)=false:=by rw [k];rfl
    have e3:(x.Kind == 3)=true:=by rw [k];rfl
    have ht:J7 x=1:=by unfold J7;rw [if_neg (by omega),if_pos k]
    have hst:stN l s (x,nE x.E)=if Zgf l (nE x.E)=true then ⟨Km s.flush 1,[],[]⟩ else ⟨s.flush++[⟨3,0,[],nE x.E⟩],[],[]⟩:=by
     unfold stN
     simp only [k,show ¬ (3:Int)=1 from by decide,show ¬ (3:Int)=2 from by decide,show ¬ (3:Int)=0 from by decide,if_false]
    obtain ⟨r1,r2⟩:=hE x hm k
    rw [ht] at hS
    obtain ⟨w',h1,h2⟩:=Z79 hw (by omega) (by omega) (l:=l) r2
    rw [e0,e1,e2,e3,cond_false,cond_false,cond_false,cond_true,r1,Option.bind_some,Zlw,h1,ht,hst]
    exact ⟨w',rfl,h2⟩
   obtain ⟨w1,h1,h2⟩:=main
   rw [Y9 h1]
   obtain ⟨w',h3,h4⟩:=ih (i+1) w1 _ (S+J7 x) hd' (by omega) (by omega) h2
   exact ⟨w',h3,by rw [← Nat.add_assoc];exact h4⟩
 have:=key os 0 ⟨[],0,[],[]⟩ s0N 0 (by simp) (by omega) (by omega) ⟨Int.le_refl _,fun _=>rfl,fun h=>by simp at h,fun _ o ho=>by simp at ho,by simp,by simp⟩
 simpa using this
theorem Yf5 {rE':Ed→Option Ed} {rO':Int→List EO→Option (List EO)} {l:Int} {os:List EO} (hlen:os.length≤1048576) (hsum:X2 os≤1073741824) (hok:∀ o∈os,opk o) (hL:∀ o∈os,∀ t∈o.L,Bd t)
  (hE:∀ o∈os,o.Kind=3→rE' o.E=some (nE o.E)∧BE (nE o.E)):Zfq rE' rO' l os=some (Znl l (Jr os)):=by
 obtain ⟨w',h1,h2⟩:=Yd7 (l:=l) hlen hsum hok hL hE
 unfold Zfq
 rw [h1,Option.bind_some]
 simp only
 rw [Zlw,h2.lay hlen]
 rfl
theorem Z27 {α:Type} {l:List α} {i:Nat} (h:i < l.length):∃ x,l[i]? = some x∧l.drop i=x::l.drop (i+1):=⟨l[i],List.getElem?_eq_getElem h,List.drop_eq_getElem_cons h⟩
theorem Ycc {L:List Tr} (hL:∀ t∈L,Bd t) (hl:L.length * 56≤140737488355328):Zat L=some (L.map nrm):=by
 unfold Zat
 rw [Zs6 L nrm _ [] (by omega) (fun i x out hi hx hm ho=>by
  unfold Za1
  simp only
  rw [Us hi,cond_true,Z6 hx,Option.bind_some,Ztx (hL x hm),Option.bind_some,Jc (by simp at ho ⊢;omega) (by simp at ho ⊢;omega),Option.bind_some]) (fun out=>by
  unfold Za1
  simp only
  rw [Zbh,cond_false])]
 rfl
def Zj3 (o:EO):Bool:=o.Kind == 1 || o.Kind == 2
def Ze6:List EO→Nat
 | []=>0
 | o::os=>if Zj3 o=true then Ze6 os+1 else 0
def Zc9 (kd:Int):List EO→List Tr
 | []=>[]
 | o::os=>if Zj3 o=true then (if o.Kind=kd then o.L.map nrm else [])++Zc9 kd os else []
theorem Z9h:∀ os:List EO,Ze6 os≤os.length
 | []=>Nat.le_refl _
 | o::os=>by
  have:=Z9h os
  unfold Ze6
  split <;> simp <;> omega
theorem Zzw (kd:Int):∀ os:List EO,(Zc9 kd os).length≤X2 os
 | []=>Nat.zero_le _
 | o::os=>by
  have ih:=Zzw kd os
  have hs:X2 (o::os)=J7 o+X2 os:=by unfold X2;simp
  unfold Zc9
  by_cases hg:Zj3 o=true
  ·rw [if_pos hg,hs,List.length_append]
   refine Nat.add_le_add ?_ ih
   unfold Zj3 at hg
   rw [Bool.or_eq_true,beq_iff_eq,beq_iff_eq] at hg
   unfold J7
   rw [if_neg (by omega:¬ o.Kind=0),if_neg (by omega:¬ o.Kind=3)]
   split <;> simp
  rw [if_neg hg];simp
theorem Z3g {a:List EO} {kd:Int} {i:Nat} (hi:i≤a.length) (hlen:a.length≤1048576) (hsum:X2 a≤1073741824) (hL:∀ o∈a,∀ t∈o.L,Bd t) (hLl:∀ o∈a,o.L.length * 56≤140737488355328) :
  G9 a (i:Int) kd=some (Zc9 kd (a.drop i),((i+Ze6 (a.drop i):Nat):Int)):=by
 have key:∀ (ys:List EO) (i:Nat) (acc:List Tr),a.drop i=ys→i≤a.length→acc.length+X2 ys≤1073741824 →
   Zv (Q5 a kd) ((i:Int),acc)=some (((i+Ze6 ys:Nat):Int),acc++Zc9 kd ys):=fun ys=>by
  induction ys with
  | nil =>
   intro i acc hd hi _
   have hil:i=a.length:=by have:=List.drop_eq_nil_iff.1 hd;omega
   subst hil
   refine Z7 ?_
   unfold Q5
   simp only
   rw [Zbh,cond_false,Option.bind_some,cond_false]
   simp [Ze6,Zc9]
  | cons x ys ih =>
   intro i acc hd hi hS
   have hil:i < a.length:=by
    rcases Nat.lt_or_ge i a.length with h | h
    ·exact h
    rw [List.drop_eq_nil_of_le h] at hd;cases hd
   have hx:a[i]? = some x:=by
    rw [List.drop_eq_getElem_cons hil] at hd
    injection hd with h1 _
    rw [List.getElem?_eq_getElem hil,h1]
   have hd':a.drop (i+1)=ys:=by
    rw [List.drop_eq_getElem_cons hil] at hd
    injection hd
   have hm:=List.mem_of_getElem? hx
   have hsx:X2 (x::ys)=J7 x+X2 ys:=by unfold X2;simp
   rw [hsx] at hS
   have hz:(cond (decide ((i:Int) < (a.length:Int))) ((Y7 a (i:Int)).bind fun x10=>cond (x10.Kind == 1) (some (cond (decide ((i:Int) < (a.length:Int))) true false)) (some (cond (decide ((i:Int) < (a.length:Int))) (cond (x10.Kind == 1) true (x10.Kind == 2)) false))) (some false))=some (Zj3 x):=by
    rw [Us hil,cond_true,Z6 hx,Option.bind_some]
    unfold Zj3
    cases x.Kind == 1 <;> cases x.Kind == 2 <;> rfl
   by_cases hg:Zj3 x=true
   ·have hth:J7 x=x.L.length:=by
     unfold Zj3 at hg
     rw [Bool.or_eq_true,beq_iff_eq,beq_iff_eq] at hg
     unfold J7
     rw [if_neg (by omega),if_neg (by omega)]
    have hst:Q5 a kd ((i:Int),acc)=some (.inl (((i+1:Nat):Int),acc++(if x.Kind=kd then x.L.map nrm else []))):=by
     unfold Q5
     simp only
     rw [hz,Option.bind_some,hg,cond_true,Z6 hx,Option.bind_some,Option.bind_some,Ycc (hL x hm) (hLl x hm),Option.bind_some,Jm (by omega) (by omega)]
     rw [Jc (by simp;omega) (by simp;omega)]
     by_cases hk:x.Kind=kd
     ·rw [if_pos hk,hk];simp
     rw [if_neg hk,beq_eq_false_iff_ne.2 hk];simp
    rw [Y9 hst]
    rw [ih (i+1) _ hd' (by omega) (by
     rw [List.length_append]
     have:(if x.Kind=kd then x.L.map nrm else ([]:List Tr)).length≤x.L.length:=by split <;> simp
     omega)]
    simp only [Ze6,Zc9,if_pos hg,List.append_assoc]
    congr 2
    omega
   have hst:Q5 a kd ((i:Int),acc)=some (.inr ((i:Int),acc)):=by
    unfold Q5
    simp only
    have:Zj3 x=false:=by simpa using hg
    rw [hz,Option.bind_some,this,cond_false]
   rw [Z7 hst]
   simp [Ze6,Zc9,hg]
 unfold G9
 rw [key _ i [] rfl hi (by
  have:X2 (a.drop i)≤X2 a:=by
   conv=>rhs;rw [← List.take_append_drop i a]
   unfold X2
   rw [List.map_append,List.sum_append]
   omega
  simp;omega),Option.bind_some]
 simp
theorem Z6k (l:Int):∀ (ys:List EO) (s:NW),(Jr ys).foldl (stN l) s=(Jr (ys.drop (Ze6 ys))).foldl (stN l) ⟨s.out,s.gone++Zc9 1 ys,s.come++Zc9 2 ys⟩
 | [],s=>by simp [Ze6,Zc9]
 | o::os,s=>by
  by_cases hg:Zj3 o=true
  ·have hg':=hg
   unfold Zj3 at hg'
   rw [Bool.or_eq_true,beq_iff_eq,beq_iff_eq] at hg'
   simp only [Ze6,Zc9,if_pos hg,List.drop_succ_cons]
   show (Jr os).foldl (stN l) (stN l s (o,nE o.E))=_
   rw [Z6k l os]
   unfold stN
   rcases hg' with h | h
   ·simp [h]
   simp [h]
  simp [Ze6,Zc9,hg]
theorem Z9g:∀ {ys:List EO} {o:EO},(ys.drop (Ze6 ys))[0]? = some o→Zj3 o=false
 | [],o,h=>by simp [Ze6] at h
 | x::ys,o,h=>by
  by_cases hg:Zj3 x=true
  ·simp only [Ze6,if_pos hg,List.drop_succ_cons] at h
   exact Z9g h
  simp only [Ze6,if_neg hg,List.drop_zero,List.getElem?_cons_zero,Option.some.injEq] at h
  subst h
  simpa using hg
theorem Z7k (l:Int) (e:Ed):Gc l e=some (Zgf l e):=by
 unfold Gc Zgf
 rw [Z3w,Z3w]
 cases e.Kind == 0 <;> cases l == 9 <;> cases e.Kind == 2 <;> cases e.Words.length == 0 <;> cases e.Kids.length == 0 <;> rfl
theorem Z28 (e:Ed):(⟨e.Kind,⟨e.Old.Kind,e.Old.Words,e.Old.Kids⟩,⟨e.New.Kind,e.New.Words,e.New.Kids⟩,e.Words,e.Kids,e.List_,e.Ops⟩:Ed)=e:=by
 obtain ⟨k,⟨a,b,c⟩,⟨d,f,g⟩,w,ks,li,os⟩:=e
 rfl
theorem Z94 {out:List EO} {n tt:Int} (hlen:(out.length+1) * 240≤140737488355328) (hn:0≤n∧n≤1073741824) (hN:∀ o,out.getLast? = some o→o.Kind=0→0≤o.N∧o.N≤1073741824) :
  (cond ((0:Int) == 0) (cond (decide (0 < (out.length:Int))) ((Y7 out (IntKind.i64.wrap ((out.length:Int) - 1))).bind fun x36=>some (cond (cond ((0:Int) == 0) (decide (0 < (out.length:Int))) false) (x36.Kind == 0) false)) (some false)) (some false)).bind (fun (z33:Bool)=>cond z33 ((Y7 out (IntKind.i64.wrap ((out.length:Int) - 1))).bind fun x40=>some (.inl (tt,Zf0 out (IntKind.i64.wrap ((out.length:Int) - 1)) (⟨x40.Kind,(IntKind.i64.wrap (x40.N+n)),x40.L,x40.E⟩:EO)))) ((Gq 240 out [(⟨0,n,[],eS0⟩:EO)]).bind fun l44=>some (.inl (tt,l44))))=(some (.inl (tt,Km out n)):Option ((Int×List EO) ⊕ List EO)):=by
 rw [show ((0:Int) == 0)=true from rfl,cond_true]
 cases hl:out.getLast? with
 | none =>
  have:=List.getLast?_eq_none_iff.1 hl
  subst this
  rfl
 | some o =>
  obtain ⟨o',ho⟩:=List.getLast?_eq_some_iff.1 hl
  have hlen':out.length=o'.length+1:=by rw [ho];simp
  have hpos:decide (0 < (out.length:Int))=true:=by rw [decide_eq_true_eq];omega
  have hw:IntKind.i64.wrap ((out.length:Int) - 1)=(o'.length:Int):=by rw [Jm (by omega) (by omega)];omega
  have hg:Y7 out (o'.length:Int)=some o:=Z6 (by rw [ho];simp)
  rw [hpos,cond_true,hw,hg,Option.bind_some,Option.bind_some,Option.bind_some]
  unfold Km
  rw [hl]
  simp only
  by_cases hk:o.Kind=0
  ·have hN':=hN o hl hk
   have e:(o.Kind == 0)=true:=by rw [hk];rfl
   rw [e,if_pos hk]
   simp only [cond_true]
   rw [Jm (by omega) (by omega),hk]
   unfold Zf0
   rw [ho,Int.toNat_natCast]
   simp
  rw [beq_eq_false_iff_ne.2 hk,if_neg hk]
  simp only [cond_true,cond_false]
  rw [Jc (by simp;omega) (by simp;omega),Option.bind_some]
theorem Z0y {out:List EO} {n:Int} {S:Nat} (hn:0≤n) (hN:∀ o,out.getLast? = some o→o.Kind=0→0≤o.N∧o.N≤S):∀ o,(Km out n).getLast? = some o→o.Kind=0→0≤o.N∧o.N≤S+n:=fun o ho hk=>by
 unfold Km at ho
 cases hl:out.getLast? with
 | none=>rw [hl] at ho;simp at ho;subst ho;simp only;omega
 | some x =>
  rw [hl] at ho
  simp only at ho
  split at ho
  ·rename_i hx
   have:=hN x hl hx
   simp at ho;subst ho;simp only;omega
  simp at ho;subst ho;simp only;omega
theorem Zvu (out:List EO) (n:Int):(Km out n).length≤out.length+1:=by
 unfold Km
 split
 ·split <;> simp
 simp
theorem Z8y (ys:List EO) (k:Nat):X2 ys=X2 (ys.take k)+X2 (ys.drop k):=by
 conv=>lhs;rw [← List.take_append_drop k ys]
 unfold X2
 rw [List.map_append,List.sum_append]
theorem Z2u {rE':Ed→Option Ed} {l:Int} {a:List EO} (hlen:a.length≤1048576) (hsum:X2 a≤1073741824) (hok:∀ o∈a,opk o) (hL:∀ o∈a,∀ t∈o.L,Bd t) (hLl:∀ o∈a,o.L.length * 56≤140737488355328)
  (hE:∀ o∈a,o.Kind=3→rE' o.E=some (nE o.E)) :
  ∀ (m i:Nat) (out:List EO) (S:Nat),a.length - i < m→i≤a.length→out.length≤3 * i→(∀ o,out.getLast? = some o→o.Kind=0→0≤o.N∧o.N≤S)→S+X2 (a.drop i)≤1073741824 →
  ∃ r:List EO ⊕ List EO,Zv (Xy rE' l a) ((i:Int),out)=some r∧Sum.elim id id r=((Jr (a.drop i)).foldl (stN l) ⟨out,[],[]⟩).flush
 | 0,_,_,_,h,_,_,_,_=>by omega
 | m+1,i,out,S,hm,hi,hol,hN,hS=>by
  by_cases hil:i < a.length
  ·have hgn:=Z9h (a.drop i)
   rw [List.length_drop] at hgn
   have hg1:=Zzw 1 (a.drop i)
   have hg2:=Zzw 2 (a.drop i)
   have hFe:out++Zak (Zc9 1 (a.drop i))++Zdi (Zc9 2 (a.drop i))=(⟨out,Zc9 1 (a.drop i),Zc9 2 (a.drop i)⟩:NW).flush:=by unfold NW.flush;rw [List.append_assoc]
   have hd1:(Zak (Zc9 1 (a.drop i))).length≤1:=by unfold Zak;split <;> simp
   have hd2:(Zdi (Zc9 2 (a.drop i))).length≤1:=by unfold Zdi;split <;> simp
   have hFl:(⟨out,Zc9 1 (a.drop i),Zc9 2 (a.drop i)⟩:NW).flush.length≤3 * i+2:=by
    rw [← hFe,List.length_append,List.length_append];omega
   have hFN:∀ o,(⟨out,Zc9 1 (a.drop i),Zc9 2 (a.drop i)⟩:NW).flush.getLast? = some o→o.Kind=0→0≤o.N∧o.N≤S:=fun o ho hk=>by
    rcases Zm1 ho with h12 | ⟨_,_,g3⟩
    ·omega
    exact hN o g3 hk
   have z6:(cond (decide (0 < ((Zc9 1 (a.drop i)).length:Int))) ((Gq 240 out ([(⟨1,0,Zc9 1 (a.drop i),eS0⟩:EO)])).bind fun l7=>some l7) (some out))=some (out++Zak (Zc9 1 (a.drop i))):=by
    by_cases h:Zc9 1 (a.drop i)=[]
    ·rw [h];simp [Zak]
    have:decide (0 < ((Zc9 1 (a.drop i)).length:Int))=true:=by rw [decide_eq_true_eq];have:=List.length_pos_iff.2 h;omega
    rw [this,cond_true,Jc (by simp;omega) (by simp;omega),Zgq h];rfl
   have z9:(cond (decide (0 < ((Zc9 2 (a.drop i)).length:Int))) ((Gq 240 (out++Zak (Zc9 1 (a.drop i))) ([(⟨2,0,Zc9 2 (a.drop i),eS0⟩:EO)])).bind fun l10=>some l10) (some (out++Zak (Zc9 1 (a.drop i)))))=some (⟨out,Zc9 1 (a.drop i),Zc9 2 (a.drop i)⟩:NW).flush:=by
    rw [← hFe]
    by_cases h:Zc9 2 (a.drop i)=[]
    ·rw [h];simp [Zdi]
    have:decide (0 < ((Zc9 2 (a.drop i)).length:Int))=true:=by rw [decide_eq_true_eq];have:=List.length_pos_iff.2 h;omega
    have hl':(out++Zak (Zc9 1 (a.drop i))).length≤out.length+1:=by rw [List.length_append];omega
    rw [this,cond_true,Jc (by simp only [List.length_singleton];omega) (by simp only [List.length_singleton];omega),Zgr h];rfl
   have hfold:=Z6k l (a.drop i) ⟨out,[],[]⟩
   simp only [List.nil_append] at hfold
   rw [List.drop_drop] at hfold
   generalize hF:(⟨out,Zc9 1 (a.drop i),Zc9 2 (a.drop i)⟩:NW).flush=F at *
   by_cases hto:a.length≤i+Ze6 (a.drop i)
   ·refine ⟨.inl F,Z7 ?_,?_⟩
    ·unfold Xy
     simp only
     rw [Us hil,cond_true,Z3g hi hlen hsum hL hLl,Z3g hi hlen hsum hL hLl]
     simp only [Option.bind_some]
     refine Option.bind_eq_some_iff.2 ⟨.inr F,?_,rfl⟩
     refine Option.bind_eq_some_iff.2 ⟨_,z6,?_⟩
     refine Option.bind_eq_some_iff.2 ⟨_,z9,?_⟩
     rw [decide_eq_true (by omega:(a.length:Int)≤((i+Ze6 (a.drop i):Nat):Int)),cond_true]
    rw [hfold,List.drop_eq_nil_of_le hto]
    exact hF.symm
   obtain ⟨o,ho,hod⟩:=Z27 (show i+Ze6 (a.drop i) < a.length by omega)
   have hom:=List.mem_of_getElem? ho
   have hng:Zj3 o=false:=Z9g (ys:=a.drop i) (by rw [List.drop_drop,hod];rfl)
   have hsp:=Z8y (a.drop i) (Ze6 (a.drop i))
   rw [List.drop_drop,hod] at hsp
   have hso:X2 (o::a.drop (i+Ze6 (a.drop i)+1))=J7 o+X2 (a.drop (i+Ze6 (a.drop i)+1)):=by unfold X2;simp
   rw [hso] at hsp
   have go:∀ (out':List EO) (n':Int),0≤n'→n'≤(J7 o:Nat)→out'.length≤3 * (i+Ze6 (a.drop i)+1)→(∀ x,out'.getLast? = some x→x.Kind=0→0≤x.N∧x.N≤S+n')→stN l ⟨out,Zc9 1 (a.drop i),Zc9 2 (a.drop i)⟩ (o,nE o.E)=⟨out',[],[]⟩ →
     Xy rE' l a ((i:Int),out)=some (.inl (((i+Ze6 (a.drop i)+1:Nat):Int),out')) →
     ∃ r:List EO ⊕ List EO,Zv (Xy rE' l a) ((i:Int),out)=some r∧Sum.elim id id r=((Jr (a.drop i)).foldl (stN l) ⟨out,[],[]⟩).flush:=fun out' n' hn0 hn1 h1 h2 h3 h4=>by
    obtain ⟨r,hr1,hr2⟩:=Z2u hlen hsum hok hL hLl hE m (i+Ze6 (a.drop i)+1) out' (S+J7 o) (by omega) (by omega) h1 (fun x hx hk=>by have:=h2 x hx hk;omega) (by omega)
    refine ⟨r,by rw [Y9 h4];exact hr1,?_⟩
    rw [hr2,hfold,hod]
    show _=((Jr _).foldl (stN l) (stN l _ (o,nE o.E))).flush
    rw [h3]
   have start:∀ (z1:Int×List EO),(((Y7 a ((i+Ze6 (a.drop i):Nat):Int)).bind fun x19=>cond (x19.Kind == 3) ((Y7 a ((i+Ze6 (a.drop i):Nat):Int)).bind fun x24=>(rE' x24.E).bind fun y26=>(Gc l y26).bind fun y28=>cond y28 (some ((0:Int),(1:Int),(0:Int),(0:Int),([]:(List Int)),([]:(List Zb)),(0:Int),([]:(List Int)),([]:(List Zb)),([]:(List Zt)),([]:(List Zk)),(0:Int),([]:(List Zh)))) (some (3,0,y26.Kind,y26.Old.Kind,y26.Old.Words,y26.Old.Kids,y26.New.Kind,y26.New.Words,y26.New.Kids,y26.Words,y26.Kids,y26.List_,y26.Ops))) (some (0,o.N,0,0,([]:(List Int)),([]:(List Zb)),0,([]:(List Int)),([]:(List Zb)),([]:(List Zt)),([]:(List Zk)),0,([]:(List Zh))))).bind fun (z16:(Int×Int×Int×Int×(List Int)×(List Zb)×Int×(List Int)×(List Zb)×(List Zt)×(List Zk)×Int×(List Zh)))=>(cond (z16.1 == 0) (cond (decide (0 < (F.length:Int))) ((Y7 F (IntKind.i64.wrap ((F.length:Int) - 1))).bind fun x36=>some (cond (cond (z16.1 == 0) (decide (0 < (F.length:Int))) false) (x36.Kind == 0) false)) (some false)) (some false)).bind fun (z33:Bool)=>cond z33 ((Y7 F (IntKind.i64.wrap ((F.length:Int) - 1))).bind fun x40=>some (.inl (((i+Ze6 (a.drop i):Nat):Int),(Zf0 F (IntKind.i64.wrap ((F.length:Int) - 1)) (⟨x40.Kind,(IntKind.i64.wrap (x40.N+z16.2.1)),x40.L,x40.E⟩:Zh))))) ((Gq 240 F ([(⟨z16.1,z16.2.1,([]:(List Zb)),(⟨z16.2.2.1,(⟨z16.2.2.2.1,z16.2.2.2.2.1,z16.2.2.2.2.2.1⟩:Zb),(⟨z16.2.2.2.2.2.2.1,z16.2.2.2.2.2.2.2.1,z16.2.2.2.2.2.2.2.2.1⟩:Zb),z16.2.2.2.2.2.2.2.2.2.1,z16.2.2.2.2.2.2.2.2.2.2.1,z16.2.2.2.2.2.2.2.2.2.2.2.1,z16.2.2.2.2.2.2.2.2.2.2.2.2⟩:Zc)⟩:Zh)]:List Zh)).bind fun l44=>some (.inl (((i+Ze6 (a.drop i):Nat):Int),l44))))=(some (.inl z1):Option ((Int×List EO) ⊕ List EO)) →
     Xy rE' l a ((i:Int),out)=some (.inl (IntKind.i64.wrap (z1.1+1),z1.2)):=fun z1 hz=>by
    unfold Xy
    simp only
    rw [Us hil,cond_true,Z3g hi hlen hsum hL hLl,Z3g hi hlen hsum hL hLl]
    simp only [Option.bind_some]
    refine Option.bind_eq_some_iff.2 ⟨.inl z1,?_,rfl⟩
    refine Option.bind_eq_some_iff.2 ⟨_,z6,?_⟩
    refine Option.bind_eq_some_iff.2 ⟨_,z9,?_⟩
    rw [decide_eq_false (by omega:¬ (a.length:Int)≤((i+Ze6 (a.drop i):Nat):Int)),cond_false,Z6 ho,Option.bind_some]
    rw [Z6 ho] at hz
    exact hz
   have hwr:IntKind.i64.wrap (((i+Ze6 (a.drop i):Nat):Int)+1)=((i+Ze6 (a.drop i)+1:Nat):Int):=by rw [Jm (by omega) (by omega)];omega
   unfold Zj3 at hng
   rw [Bool.or_eq_false_iff,beq_eq_false_iff_ne,beq_eq_false_iff_ne] at hng
   rcases hok o hom with ⟨k,hn⟩ | ⟨k,_⟩ | ⟨k,_⟩ | k
   ·have hth:J7 o=o.N.toNat:=by unfold J7;rw [if_pos k]
    have hp:=Zvu F o.N
    refine go (Km F o.N) o.N (by omega) (by omega) (by omega) (Z0y (by omega) hFN) ?_ ?_
    ·unfold stN
     simp only [k,show ¬ (0:Int)=1 from by decide,show ¬ (0:Int)=2 from by decide,if_false,if_true]
     rw [hF]
    have:=start (((i+Ze6 (a.drop i):Nat):Int),Km F o.N) (by
     rw [Z6 ho,Option.bind_some,k]
     exact Z94 (n:=o.N) (by omega) (by omega) (fun x hx hk=>by have:=hFN x hx hk;omega))
    rw [this]
    simp only
    rw [hwr]
   ·omega
   ·omega
   have hth:J7 o=1:=by unfold J7;rw [if_neg (by omega),if_pos k]
   have e3:(o.Kind == 3)=true:=by rw [k];rfl
   cases hid:Zgf l (nE o.E) with
   | true =>
    have hp:=Zvu F 1
    refine go (Km F 1) 1 (by omega) (by omega) (by omega) (Z0y (by omega) hFN) ?_ ?_
    ·unfold stN
     simp only [k,show ¬ (3:Int)=1 from by decide,show ¬ (3:Int)=2 from by decide,show ¬ (3:Int)=0 from by decide,if_false,hid,if_true]
     rw [hF]
    have:=start (((i+Ze6 (a.drop i):Nat):Int),Km F 1) (by
     rw [Z6 ho,Option.bind_some,e3,cond_true,Option.bind_some,hE o hom k,Option.bind_some,Z7k,Option.bind_some,hid,cond_true]
     exact Z94 (n:=1) (by omega) (by omega) (fun x hx hk=>by have:=hFN x hx hk;omega))
    rw [this]
    simp only
    rw [hwr]
   | false =>
    refine go (F++[⟨3,0,[],nE o.E⟩]) 1 (by omega) (by omega) (by simp;omega) (fun x hx hk=>by simp at hx;subst hx;simp at hk) ?_ ?_
    ·unfold stN
     simp only [k,show ¬ (3:Int)=1 from by decide,show ¬ (3:Int)=2 from by decide,show ¬ (3:Int)=0 from by decide,if_false,hid]
     rw [hF]
     simp
    have:=start (((i+Ze6 (a.drop i):Nat):Int),F++[⟨3,0,[],nE o.E⟩]) (by
     rw [Z6 ho,Option.bind_some,e3,cond_true,Option.bind_some,hE o hom k,Option.bind_some,Z7k,Option.bind_some,hid,cond_false,Option.bind_some]
     simp only [show ((3:Int) == 0)=false from rfl,cond_false,Option.bind_some]
     rw [Z28,Jc (by simp;omega) (by simp;omega),Option.bind_some])
    rw [this]
    simp only
    rw [hwr]
  have hil':i=a.length:=by omega
  subst hil'
  refine ⟨.inr out,Z7 (by unfold Xy;simp only;rw [Zbh,cond_false]),?_⟩
  rw [List.drop_length]
  unfold NW.flush
  simp [Jr,Zak,Zdi]
theorem Yek {rE':Ed→Option Ed} {rO':Int→List EO→Option (List EO)} {l:Int} {a:List EO} (hlen:a.length≤1048576) (hsum:X2 a≤1073741824) (hok:∀ o∈a,opk o) (hL:∀ o∈a,∀ t∈o.L,Bd t) (hLl:∀ o∈a,o.L.length * 56≤140737488355328)
  (hE:∀ o∈a,o.Kind=3→rE' o.E=some (nE o.E)):G5 rE' rO' l a=some (Znl l (Jr a)):=by
 obtain ⟨r,h1,h2⟩:=Z2u (l:=l) hlen hsum hok hL hLl hE (a.length+1) 0 [] 0 (by omega) (by omega) (by simp) (fun o ho=>by simp at ho) (by simpa using hsum)
 unfold G5
 have h1':Zv (Xy rE' l a) (0,[])=some r:=h1
 rw [h1',Option.bind_some]
 rw [List.drop_zero] at h2
 unfold Znl
 show _=some (((Jr a).foldl (stN l) ⟨[],[],[]⟩).flush)
 rw [← h2]
 cases r <;> rfl
inductive GN:Ed→Prop
 | mk (e:Ed) (hw:e.Words.length≤1048576) (hk:e.Kids.length≤1048576) (ho:e.Ops.length≤1048576) (hs:X2 e.Ops≤1073741824) (hp:∀ o∈e.Ops,opk o) (ik:∀ k∈e.Kids,GN k.E) (io:∀ o∈e.Ops,GN o.E):GN e
theorem GN.w {e:Ed} (h:GN e):e.Words.length≤1048576:=by cases h;assumption
theorem GN.k {e:Ed} (h:GN e):e.Kids.length≤1048576:=by cases h;assumption
theorem GN.o {e:Ed} (h:GN e):e.Ops.length≤1048576:=by cases h;assumption
theorem GN.s {e:Ed} (h:GN e):X2 e.Ops≤1073741824:=by cases h;assumption
theorem GN.p {e:Ed} (h:GN e):∀ o∈e.Ops,opk o:=by cases h;assumption
theorem GN.ks {e:Ed} (h:GN e):∀ k∈e.Kids,GN k.E:=by cases h;assumption
theorem GN.os {e:Ed} (h:GN e):∀ o∈e.Ops,GN o.E:=by cases h;assumption
theorem Yft {e:Ed} (h:Zdp e=true):GN e:=by
 unfold Zdp Zhy Zhg at h
 simp only [Bool.and_eq_true,beq_iff_eq] at h
 obtain ⟨_,_,⟨h1,h2⟩,_,h3⟩:=h
 have w:=List.eq_nil_of_length_eq_zero h1
 have k:=List.eq_nil_of_length_eq_zero h2
 have o:=List.eq_nil_of_length_eq_zero h3
 exact .mk _ (by rw [w];simp) (by rw [k];simp) (by rw [o];simp) (by rw [o];simp [X2]) (by rw [o];simp) (by rw [k];simp) (by rw [o];simp)
theorem Zsw:GN eS0 := .mk _ (by simp [eS0]) (by simp [eS0]) (by simp [eS0]) (by simp [eS0,X2]) (by simp [eS0]) (by simp [eS0]) (by simp [eS0])
theorem Zib:Bd Jj := .mk _ (by simp [Jj]) (by simp [Jj]) (by simp [Jj]) (by simp [Jj])
theorem Zsn:BE eS0 := .mk _ Zib Zib (by simp [eS0]) (by simp [eS0]) (by simp [eS0]) (by simp [eS0]) (by simp [eS0]) (by simp [eS0]) (by simp [eS0])
theorem Ygs {l:Int} {o:EO} {r:Bool} (h:okO l o r=true):((J7 o:Nat):Int)=thr o:=by
 unfold okO at h
 unfold J7 thr
 by_cases h0:o.Kind=0
 ·rw [if_pos h0] at h
  simp only [Bool.and_eq_true,decide_eq_true_eq] at h
  rw [if_pos h0,if_pos h0]
  split <;> split at * <;> omega
 rw [if_neg h0] at h ⊢
 rw [if_neg h0]
 by_cases h12:o.Kind=1∨o.Kind=2
 ·rw [if_pos h12,if_neg (by omega)]
 rw [if_neg h12] at h ⊢
 by_cases h3:o.Kind=3
 ·rw [if_pos h3,if_pos h3];rfl
 rw [if_neg h3] at h;cases h
theorem Zxo {l:Int} {o:EO} {r:Bool} (h:okO l o r=true):opk o:=by
 unfold okO at h
 unfold opk
 by_cases h0:o.Kind=0
 ·rw [if_pos h0] at h
  simp only [Bool.and_eq_true,decide_eq_true_eq] at h
  exact .inl ⟨h0,h.1.1⟩
 rw [if_neg h0] at h
 by_cases h12:o.Kind=1∨o.Kind=2
 ·rw [if_pos h12] at h
  simp only [Bool.and_eq_true,decide_eq_true_eq] at h
  have hne:o.L≠[]:=by
   intro he
   rw [he] at h
   simp at h
  rcases h12 with h1 | h2
  ·exact .inr (.inl ⟨h1,hne⟩)
  exact .inr (.inr (.inl ⟨h2,hne⟩))
 rw [if_neg h12] at h
 by_cases h3:o.Kind=3
 ·exact .inr (.inr (.inr h3))
 rw [if_neg h3] at h;cases h
theorem Z1d {l:Int} (r:EO→Bool):∀ (os:List EO) (s:Int×Int),Sm s→(∀ o∈os,okO l o (r o)=true)→(∀ o∈os,o.L.length * 56≤140737488355328)→Zj5 (os.foldl stI s)=true→s.1+s.2+((X2 os:Nat):Int)≤(os.foldl stI s).1+(os.foldl stI s).2
 | [],s,_,_,_,_=>by simp [X2]
 | o::os,s,hs,h,hl,hb=>by
  have hsm:=Z1b hs (hl o (.head _))
  have hup:=Z3e os (stI s o) hsm (fun x hx=>hl x (.tail _ hx))
  have ih:=Z1d r os (stI s o) hsm (fun x hx=>h x (.tail _ hx)) (fun x hx=>hl x (.tail _ hx)) hb
  have hso:X2 (o::os)=J7 o+X2 os:=by unfold X2;simp
  have ht:=Ygs (h o (.head _))
  rw [List.foldl_cons] at hb ⊢
  unfold Zj5 at hb
  rw [Bool.and_eq_true,decide_eq_true_eq,decide_eq_true_eq] at hb
  have n1:(stI s o).1≠1048576:=fun he=>by have:=hup.1 he;omega
  have n2:(stI s o).2≠1048576:=fun he=>by have:=hup.2 he;omega
  have key:s.1+s.2+thr o≤(stI s o).1+(stI s o).2:=by
   have hth:0≤thr o:=by omega
   unfold stI Zro at n1 n2 ⊢
   simp only at n1 n2 ⊢
   by_cases k2:o.Kind=2
   ·rw [if_neg (by omega:¬ o.Kind=1)] at n2 ⊢
    rw [if_pos k2]
    split at n2
    ·omega
    rename_i h5;rw [if_neg h5];omega
   rw [if_neg k2] at n1 ⊢
   split at n1
   ·omega
   rename_i h5
   rw [if_neg h5]
   by_cases k1:o.Kind=1
   ·rw [if_pos k1];omega
   rw [if_neg k1] at n2 ⊢
   split at n2
   ·omega
   rename_i h6;rw [if_neg h6];omega
  rw [hso]
  omega
theorem Zl7 {α:Type} {f:α→Nat} {x:α}:∀ {l:List α},x∈l→f x≤(l.map f).sum
 | y::l,h=>by
  rw [List.map_cons,List.sum_cons]
  rcases List.mem_cons.1 h with rfl | h
  ·omega
  have:=Zl7 (f:=f) h;omega
theorem Zl8 {α:Type} {f:α→Nat}:∀ {l:List α},(∀ x∈l,1≤f x)→l.length≤(l.map f).sum
 | [],_=>Nat.le_refl _
 | y::l,h=>by
  rw [List.map_cons,List.sum_cons,List.length_cons]
  have:=Zl8 (f:=f) (l:=l) fun x hx=>h x (by simp [hx])
  have:=h y (by simp)
  omega
theorem Yc1 (e:Ed):1≤ce e:=by rw [Z6g];omega
theorem Z9k:∀ (n:Nat) (e:Ed) (d:Nat),SizeOf.sizeOf e < n→BE e→ce e≤1000000→rE e d=true→GN e
 | 0,_,_,h,_,_,_=>by omega
 | n+1,e,d,hn,hb,hc,h=>by
  have hc':=hc
  rw [Z6g] at hc'
  have hk1:e.Kids.length≤(e.Kids.map fun k=>ce k.E).sum:=Zl8 fun x _=>Yc1 _
  have hlens:=Z95 hb h
  have hparts:(∀ k∈e.Kids,∃ d',rE k.E d'=true)∧(∀ o∈e.Ops,opk o∧(Zdp o.E=true∨∃ d',rE o.E d'=true))∧X2 e.Ops≤2097152:=by
   rw [Zoo] at h
   by_cases hd:d=0
   ·rw [if_pos hd] at h;cases h
   rw [if_neg hd] at h
   by_cases h0:e.Kind=0
   ·rw [if_pos h0] at h
    unfold Zdp Zhy Zhg at h
    simp only [Bool.and_eq_true,beq_iff_eq] at h
    obtain ⟨_,_,⟨h1,h2⟩,_,h3⟩:=h
    rw [List.eq_nil_of_length_eq_zero h2,List.eq_nil_of_length_eq_zero h3]
    simp [X2]
   rw [if_neg h0] at h
   by_cases h1:e.Kind=1
   ·rw [if_pos h1] at h
    unfold Zhy Zhg at h
    simp only [Bool.and_eq_true,beq_iff_eq] at h
    rw [List.eq_nil_of_length_eq_zero h.1.1.2,List.eq_nil_of_length_eq_zero h.1.2.2]
    simp [X2]
   rw [if_neg h1] at h
   by_cases h2:e.Kind=2
   ·rw [if_pos h2] at h
    unfold Zhg at h
    simp only [Bool.and_eq_true,beq_iff_eq] at h
    rw [List.eq_nil_of_length_eq_zero h.1.2.2]
    refine ⟨fun k hk=>⟨d - 1,?_⟩,by simp,by simp [X2]⟩
    exact Zp3 (Q:=fun k:Zk=>rE k.E (d - 1)=true) (fun p x hx=>by
     unfold okK okP at hx
     simp only [Bool.and_eq_true] at hx
     exact hx.2.2) e.Kids (-1) h.2.2 k hk
   rw [if_neg h2] at h
   by_cases h3:e.Kind=3
   ·rw [if_pos h3] at h
    unfold Zhy at h
    rw [Bool.and_eq_true,Bool.and_eq_true,Bool.and_eq_true,Bool.and_eq_true,Bool.and_eq_true,Bool.and_eq_true,beq_iff_eq,beq_iff_eq,List.all_eq_true] at h
    obtain ⟨⟨_,_,hk⟩,_,hall,hB⟩:=h
    rw [List.eq_nil_of_length_eq_zero hk]
    refine ⟨by simp,fun o ho=>⟨Zxo (hall o ho),?_⟩,?_⟩
    ·have:=hall o ho
     unfold okO at this
     by_cases k0:o.Kind=0
     ·rw [if_pos k0] at this
      simp only [Bool.and_eq_true] at this
      exact .inl this.2.2
     rw [if_neg k0] at this
     by_cases k12:o.Kind=1∨o.Kind=2
     ·rw [if_pos k12] at this
      simp only [Bool.and_eq_true] at this
      exact .inl this.2.2.2
     rw [if_neg k12] at this
     by_cases k3:o.Kind=3
     ·rw [if_pos k3] at this
      simp only [Bool.and_eq_true] at this
      exact .inr ⟨d - 1,this.2.2.2.2⟩
     rw [if_neg k3] at this;cases this
    rw [hlens] at hB
    have:=Z1d (l:=e.List_) (fun o=>rE o.E (d - 1)) e.Ops (0,0) ⟨⟨by decide,by decide⟩,by decide,by decide⟩ hall (fun o ho=>(hb.l o ho).1) hB
    unfold Zj5 at hB
    rw [Bool.and_eq_true,decide_eq_true_eq,decide_eq_true_eq] at hB
    simp only at this
    omega
   rw [if_neg h3] at h;cases h
  refine .mk _ (by omega) (by omega) (by omega) (by omega) (fun o ho=>(hparts.2.1 o ho).1) (fun k hk => ?_) (fun o ho => ?_)
  ·obtain ⟨d',hd'⟩:=hparts.1 k hk
   have:=Zl7 (f:=fun k:Zk=>ce k.E) hk
   exact Z9k n k.E d' (by have:=Jz hk;omega) (hb.ks k hk) (by omega) hd'
  rcases (hparts.2.1 o ho).2 with hs | ⟨d',hd'⟩
  ·exact Yft hs
  have:=Zl7 (f:=fun o:Zh=>ce o.E) ho
  exact Z9k n o.E d' (by have:=Uh ho;omega) (hb.os o ho) (by omega) hd'
def OQ (S:Nat) (o:EO):Prop:=opk o∧o.L.length≤S∧(∀ t∈o.L,Bd t)∧BE o.E∧GN o.E
structure OB (s:NW) (i S:Nat):Prop where
 out:∀ o∈s.out,OQ S o
 gone:∀ t∈s.gone,Bd t
 come:∀ t∈s.come,Bd t
 cnt:s.flush.length≤i
 sum:X2 s.flush≤S
theorem OQ.mono {S S':Nat} {o:EO} (h:OQ S o) (hS:S≤S'):OQ S' o:=⟨h.1,Nat.le_trans h.2.1 hS,h.2.2⟩
theorem Zi9 (a b:List EO):X2 (a++b)=X2 a+X2 b:=by unfold X2;rw [List.map_append,List.sum_append]
theorem Yev (g:List Tr):X2 (Zak g)=g.length:=by
 by_cases h:g=[]
 ·subst h;rfl
 rw [Zgq h];simp [X2,J7]
theorem Yew (g:List Tr):X2 (Zdi g)=g.length:=by
 by_cases h:g=[]
 ·subst h;rfl
 rw [Zgr h];simp [X2,J7]
theorem Zr8 (s:NW):X2 s.flush=X2 s.out+(s.gone.length+s.come.length):=by
 unfold NW.flush
 rw [Zi9,Zi9,Yev,Yew]
theorem OB.fl {s:NW} {i S:Nat} (h:OB s i S):∀ o∈s.flush,OQ S o:=fun o ho=>by
 have hs:=h.sum
 rw [Zr8] at hs
 unfold NW.flush at ho
 rw [List.mem_append,List.mem_append] at ho
 rcases ho with ho | ho | ho
 ·exact h.out o ho
 ·by_cases hg:s.gone=[]
  ·rw [hg] at ho;simp [Zak] at ho
  rw [Zgq hg,List.mem_singleton] at ho
  subst ho
  exact ⟨.inr (.inl ⟨rfl,hg⟩),by simp only;omega,h.gone,Zsn,Zsw⟩
 by_cases hg:s.come=[]
 ·rw [hg] at ho;simp [Zdi] at ho
 rw [Zgr hg,List.mem_singleton] at ho
 subst ho
 exact ⟨.inr (.inr (.inl ⟨rfl,hg⟩)),by simp only;omega,h.come,Zsn,Zsw⟩
theorem Yed {F:List EO} {S:Nat} {n:Int} (hn:1≤n) (hF:∀ o∈F,OQ S o):(∀ o∈Km F n,OQ S o)∧X2 (Km F n)=X2 F+n.toNat:=by
 have hq:OQ S (⟨0,n,[],eS0⟩:EO):=⟨.inl ⟨rfl,hn⟩,Nat.zero_le _,by simp,Zsn,Zsw⟩
 by_cases hk:∃ o,F.getLast? = some o∧o.Kind=0
 ·obtain ⟨o,ho,hk0⟩:=hk
  obtain ⟨o',ho'⟩:=List.getLast?_eq_some_iff.1 ho
  subst ho'
  have hoq:=hF o (by simp)
  obtain ⟨k,N,L,E⟩:=o
  simp only at hk0
  subst hk0
  have hN:1≤N:=by
   rcases hoq.1 with ⟨_,h⟩ | ⟨h,_⟩ | ⟨h,_⟩ | h
   ·exact h
   ·simp at h
   ·simp at h
   simp at h
  rw [Zcu]
  refine ⟨fun x hx => ?_,?_⟩
  ·rcases List.mem_append.1 hx with hx | hx
   ·exact hF x (by simp [hx])
   rw [List.mem_singleton.1 hx]
   exact ⟨.inl ⟨rfl,by simp only;omega⟩,hoq.2⟩
  rw [Zi9,Zi9]
  simp only [X2,List.map_cons,List.map_nil,List.sum_cons,List.sum_nil,J7,if_true]
  omega
 rw [Zgk fun o ho h0=>hk ⟨o,ho,h0⟩]
 refine ⟨fun x hx => ?_,?_⟩
 ·rcases List.mem_append.1 hx with hx | hx
  ·exact hF x hx
  rw [List.mem_singleton.1 hx];exact hq
 rw [Zi9]
 simp [X2,J7]
theorem Ze5 (out:List EO):(⟨out,[],[]⟩:NW).flush=out:=by unfold NW.flush;simp [Zak,Zdi]
theorem Yc5 (g:List Tr):(Zak g).length≤1:=by unfold Zak;split <;> simp
theorem Ydo (g:List Tr):(Zdi g).length≤1:=by unfold Zdi;split <;> simp
theorem OB.step {s:NW} {i S:Nat} (h:OB s i S) {l:Int} {p:EO×Ed} (hp:opk p.1) (hL:∀ t∈p.1.L,Bd t) (hb:BE p.2) (hg:GN p.2):OB (stN l s p) (i+1) (S+J7 p.1):=by
 have hfs:=h.sum
 have hfc:=h.cnt
 have hpush:∀ n:Int,1≤n→n.toNat≤J7 p.1→OB ⟨Km s.flush n,[],[]⟩ (i+1) (S+J7 p.1):=fun n hn hnt=>by
  obtain ⟨q1,q2⟩:=Yed hn h.fl
  have ql:=Zvu s.flush n
  refine ⟨fun o ho=>(q1 o ho).mono (by omega),by simp,by simp,?_,?_⟩
  ·rw [Ze5];omega
  rw [Ze5,q2];omega
 unfold stN
 by_cases k1:p.1.Kind=1
 ·have ht:J7 p.1=p.1.L.length:=by unfold J7;rw [if_neg (by omega),if_neg (by omega)]
  rw [if_pos k1,ht]
  refine ⟨fun o ho=>(h.out o ho).mono (by omega),fun t ht => ?_,h.come,?_,?_⟩
  ·rcases List.mem_append.1 ht with ht | ht
   ·exact h.gone t ht
   obtain ⟨x,hx,rfl⟩:=List.mem_map.1 ht
   exact (hL x hx).nrm
  ·unfold NW.flush at hfc ⊢
   have:=Yc5 (s.gone++p.1.L.map nrm)
   simp only [List.length_append] at hfc ⊢
   omega
  rw [Zr8] at hfs ⊢
  simp only [List.length_append,List.length_map]
  omega
 rw [if_neg k1]
 by_cases k2:p.1.Kind=2
 ·have ht:J7 p.1=p.1.L.length:=by unfold J7;rw [if_neg (by omega),if_neg (by omega)]
  rw [if_pos k2,ht]
  refine ⟨fun o ho=>(h.out o ho).mono (by omega),h.gone,fun t ht => ?_,?_,?_⟩
  ·rcases List.mem_append.1 ht with ht | ht
   ·exact h.come t ht
   obtain ⟨x,hx,rfl⟩:=List.mem_map.1 ht
   exact (hL x hx).nrm
  ·unfold NW.flush at hfc ⊢
   have:=Ydo (s.come++p.1.L.map nrm)
   simp only [List.length_append] at hfc ⊢
   omega
  rw [Zr8] at hfs ⊢
  simp only [List.length_append,List.length_map]
  omega
 rw [if_neg k2]
 by_cases k0:p.1.Kind=0
 ·rw [if_pos k0]
  have hN:1≤p.1.N:=by
   rcases hp with ⟨_,h⟩ | ⟨h,_⟩ | ⟨h,_⟩ | h
   ·exact h
   ·omega
   ·omega
   omega
  exact hpush _ hN (by unfold J7;rw [if_pos k0];exact Nat.le_refl _)
 rw [if_neg k0]
 have k3:p.1.Kind=3:=by
  rcases hp with ⟨h,_⟩ | ⟨h,_⟩ | ⟨h,_⟩ | h
  ·omega
  ·omega
  ·omega
  exact h
 have ht:J7 p.1=1:=by unfold J7;rw [if_neg k0,if_pos k3]
 split
 ·exact hpush 1 (by omega) (by omega)
 refine ⟨fun o ho => ?_,by simp,by simp,?_,?_⟩
 ·rcases List.mem_append.1 ho with ho | ho
  ·exact (h.fl o ho).mono (by omega)
  rw [List.mem_singleton.1 ho]
  exact ⟨.inr (.inr (.inr rfl)),Nat.zero_le _,by simp,hb,hg⟩
 ·rw [Ze5,List.length_append];simp;omega
 rw [Ze5,Zi9,ht]
 have:X2 [(⟨3,0,[],p.2⟩:EO)]=1:=by simp [X2,J7]
 omega
theorem Z9y {l:Int}:∀ (os:List EO) (s:NW) (i S:Nat),OB s i S→(∀ o∈os,opk o∧(∀ t∈o.L,Bd t)∧BE (nE o.E)∧GN (nE o.E))→OB ((Jr os).foldl (stN l) s) (i+os.length) (S+X2 os)
 | [],s,i,S,h,_=>by simpa [Jr,X2] using h
 | o::os,s,i,S,h,hq=>by
  obtain ⟨q1,q2,q3,q4⟩:=hq o (by simp)
  have:=Z9y (l:=l) os _ _ _ (h.step (l:=l) (p:=(o,nE o.E)) q1 q2 q3 q4) fun x hx=>hq x (by simp [hx])
  have e1:i+1+os.length=i+(o::os).length:=by simp;omega
  have e2:S+J7 o+X2 os=S+X2 (o::os):=by unfold X2;simp;omega
  rw [e1,e2] at this
  exact this
theorem Zxk:∀ (n:Nat) (e:Ed),SizeOf.sizeOf e < n→BE e→GN e→BE (nE e)∧GN (nE e)
 | 0,_,h,_,_=>by omega
 | n+1,e,hn,hb,hg=>by
  have ik:∀ k∈e.Kids,BE (nE k.E)∧GN (nE k.E):=fun k hk=>Zxk n k.E (by have:=Jz hk;omega) (hb.ks k hk) (hg.ks k hk)
  have io:∀ o∈e.Ops,BE (nE o.E)∧GN (nE o.E):=fun o ho=>Zxk n o.E (by have:=Uh ho;omega) (hb.os o ho) (hg.os o ho)
  have hw:=hg.w
  have hk:=hg.k
  rw [Zd9]
  by_cases h1:e.Kind=1
  ·rw [if_pos h1]
   exact ⟨.mk _ hb.old.nrm hb.new.nrm (by simp) (by simp) (by simp) (by simp) (by simp) (by simp) (by simp),.mk _ (by simp) (by simp) (by simp) (by simp [X2]) (by simp) (by simp) (by simp)⟩
  rw [if_neg h1]
  by_cases h2:e.Kind=2
  ·rw [if_pos h2]
   refine ⟨.mk _ Zib Zib hb.w hb.ws (by simp only [List.length_map];omega) (fun k hk => ?_) (by simp) (by simp) (by simp),.mk _ hg.w (by simp only [List.length_map];omega) (by simp) (by simp [X2]) (by simp) (fun k hk => ?_) (by simp)⟩
   ·obtain ⟨x,hx,rfl⟩:=List.mem_map.1 hk
    exact (ik x hx).1
   obtain ⟨x,hx,rfl⟩:=List.mem_map.1 hk
   exact (ik x hx).2
  rw [if_neg h2]
  by_cases h3:e.Kind=3
  ·rw [if_pos h3]
   have hob:=Z9y (l:=e.List_) e.Ops s0N 0 0 ⟨by simp [s0N],by simp [s0N],by simp [s0N],Nat.le_refl _,Nat.le_refl _⟩ fun o ho=>⟨hg.p o ho,(hb.l o ho).2,(io o ho).1,(io o ho).2⟩
   have h5:=hob.cnt
   have h6:=hob.sum
   have h7:=hg.o
   have h8:=hg.s
   have hall:=hob.fl
   refine ⟨.mk _ Zib Zib (by simp) (by simp) (by simp) (by simp) ?_ (fun o ho => ?_) (fun o ho=>(hall o ho).2.2.2.1),.mk _ (by simp) (by simp) ?_ ?_ (fun o ho=>(hall o ho).1) (by simp) (fun o ho=>(hall o ho).2.2.2.2)⟩
   ·show ((Znl e.List_ (Jr e.Ops)).length:Int)≤_
    unfold Znl
    omega
   ·have:=(hall o ho).2.1
    exact ⟨by omega,(hall o ho).2.2.1⟩
   ·show (Znl e.List_ (Jr e.Ops)).length≤_
    unfold Znl
    omega
   show X2 (Znl e.List_ (Jr e.Ops))≤_
   unfold Znl
   omega
  rw [if_neg h3]
  exact ⟨Zsn,Zsw⟩
theorem BE.nE {e:Ed} (hb:BE e) (hg:GN e):BE (nE e):=(Zxk _ e (Nat.lt_succ_self _) hb hg).1
theorem GN.nE {e:Ed} (hb:BE e) (hg:GN e):GN (nE e):=(Zxk _ e (Nat.lt_succ_self _) hb hg).2
theorem Yhc:∀ (k:Nat),(∀ e:Ed,BE e→GN e→2 * SizeOf.sizeOf e+1 < k→(X7 k).1 e=some (nE e)) ∧
  (∀ (l:Int) (os:List EO),os.length≤1048576→X2 os≤1073741824→(∀ o∈os,opk o)→(∀ o∈os,∀ t∈o.L,Bd t)→(∀ o∈os,BE o.E∧GN o.E∧2 * SizeOf.sizeOf o.E+2 < k)→0 < k→(X7 k).2 l os=some (Znl l (Jr os)))
 | 0=>⟨fun e _ _ h=>by omega,fun l os _ _ _ _ _ h=>by omega⟩
 | k+1=>by
  obtain ⟨i1,i2⟩:=Yhc k
  refine ⟨fun e hb hg hk => ?_,fun l os hlen hsum hok hL hE _ => ?_⟩
  ·show Zgb (X7 k).1 (X7 k).2 e=_
   unfold Zgb
   rw [Zd9]
   by_cases h1:e.Kind=1
   ·have e1:(e.Kind == 1)=true:=by rw [h1];rfl
    rw [if_pos h1,e1,cond_true,Zxm hb.old,Option.bind_some,Zxm hb.new];rfl
   have e1:(e.Kind == 1)=false:=by rw [beq_eq_false_iff_ne];exact h1
   rw [if_neg h1,e1,cond_false]
   by_cases h2:e.Kind=2
   ·have e2:(e.Kind == 2)=true:=by rw [h2];rfl
    have hw:=hg.w
    have hkl:=hg.k
    have hloop:Zv (Zc7 (X7 k).1 e) (0,([]:List Zk))=some ([]++e.Kids.map fun x=>(⟨x.At,nE x.E⟩:Zk)) :=
     Zs6 e.Kids (fun x=>(⟨x.At,nE x.E⟩:Zk)) _ [] (by omega) (fun i x out hi hx hm ho=>by
      unfold Zc7
      simp only
      rw [Us hi,cond_true,Z6 hx,Option.bind_some,i1 x.E (hb.ks x hm) (hg.ks x hm) (by have:=Jz hm;omega),Option.bind_some]
      simp only [List.length_nil] at ho
      rw [Jc (by simp only [List.length_singleton];omega) (by simp only [List.length_singleton];omega),Option.bind_some]) (fun out=>by
      unfold Zc7
      simp only
      rw [Zbh,cond_false])
    unfold Q7
    rw [if_pos h2,e2,cond_true,Jc (by simp only [List.length_nil];omega) (by simp only [List.length_nil];omega),Option.bind_some,hloop,Option.bind_some]
    rfl
   have e2:(e.Kind == 2)=false:=by rw [beq_eq_false_iff_ne];exact h2
   rw [if_neg h2,e2,cond_false]
   by_cases h3:e.Kind=3
   ·have e3:(e.Kind == 3)=true:=by rw [h3];rfl
    rw [if_pos h3,e3,cond_true,i2 e.List_ e.Ops hg.o hg.s hg.p (fun o ho=>(hb.l o ho).2) (fun o ho=>⟨hb.os o ho,hg.os o ho,by have:=Uh ho;omega⟩) (by omega)]
    rfl
   have e3:(e.Kind == 3)=false:=by rw [beq_eq_false_iff_ne];exact h3
   rw [if_neg h3,e3,cond_false];rfl
  show Zfq (X7 k).1 (X7 k).2 l os=_
  exact Yf5 hlen hsum hok hL fun o ho _=>⟨i1 o.E (hE o ho).1 (hE o ho).2.1 (by have:=(hE o ho).2.2;omega),(hE o ho).1.nE (hE o ho).2.1⟩
theorem Ydz {e:Ed} (hb:BE e) (hg:GN e):Zir e=some (nE e):=Zcr (2 * SizeOf.sizeOf e+2) fun k hk=>(Yhc k).1 e hb hg (by omega)
theorem Yej:∀ (k:Nat),(∀ e:Ed,BE e→GN e→2 * SizeOf.sizeOf e+1 < k→(Xg k).1 e=some (nE e)) ∧
  (∀ (l:Int) (os:List EO),os.length≤1048576→X2 os≤1073741824→(∀ o∈os,opk o)→(∀ o∈os,o.L.length * 56≤140737488355328∧∀ t∈o.L,Bd t)→(∀ o∈os,BE o.E∧GN o.E∧2 * SizeOf.sizeOf o.E+2 < k)→0 < k→(Xg k).2 l os=some (Znl l (Jr os)))
 | 0=>⟨fun e _ _ h=>by omega,fun l os _ _ _ _ _ h=>by omega⟩
 | k+1=>by
  obtain ⟨i1,i2⟩:=Yej k
  refine ⟨fun e hb hg hk => ?_,fun l os hlen hsum hok hL hE _ => ?_⟩
  ·show Zbr (Xg k).1 (Xg k).2 e=_
   unfold Zbr
   rw [Zd9]
   by_cases h1:e.Kind=1
   ·have e1:(e.Kind == 1)=true:=by rw [h1];rfl
    rw [if_pos h1,e1,cond_true,Ztx hb.old,Option.bind_some,Ztx hb.new];rfl
   have e1:(e.Kind == 1)=false:=by rw [beq_eq_false_iff_ne];exact h1
   rw [if_neg h1,e1,cond_false]
   by_cases h2:e.Kind=2
   ·have e2:(e.Kind == 2)=true:=by rw [h2];rfl
    have hw:=hg.w
    have hkl:=hg.k
    have hloop:Zv (Un (Xg k).1 e) (0,([]:List Zk))=some ([]++e.Kids.map fun x=>(⟨x.At,nE x.E⟩:Zk)) :=
     Zs6 e.Kids (fun x=>(⟨x.At,nE x.E⟩:Zk)) _ [] (by omega) (fun i x out hi hx hm ho=>by
      unfold Un
      simp only
      rw [Us hi,cond_true,Z6 hx,Option.bind_some,i1 x.E (hb.ks x hm) (hg.ks x hm) (by have:=Jz hm;omega),Option.bind_some]
      simp only [List.length_nil] at ho
      rw [Jc (by simp only [List.length_singleton];omega) (by simp only [List.length_singleton];omega),Option.bind_some]) (fun out=>by
      unfold Un
      simp only
      rw [Zbh,cond_false])
    rw [if_pos h2,e2,cond_true,Jc (by simp only [List.length_nil];omega) (by simp only [List.length_nil];omega),Option.bind_some,hloop,Option.bind_some]
    rfl
   have e2:(e.Kind == 2)=false:=by rw [beq_eq_false_iff_ne];exact h2
   rw [if_neg h2,e2,cond_false]
   by_cases h3:e.Kind=3
   ·have e3:(e.Kind == 3)=true:=by rw [h3];rfl
    rw [if_pos h3,e3,cond_true,i2 e.List_ e.Ops hg.o hg.s hg.p hb.l (fun o ho=>⟨hb.os o ho,hg.os o ho,by have:=Uh ho;omega⟩) (by omega)]
    rfl
   have e3:(e.Kind == 3)=false:=by rw [beq_eq_false_iff_ne];exact h3
   rw [if_neg h3,e3,cond_false];rfl
  show G5 (Xg k).1 (Xg k).2 l os=_
  exact Yek hlen hsum hok (fun o ho=>(hL o ho).2) (fun o ho=>(hL o ho).1) fun o ho _=>i1 o.E (hE o ho).1 (hE o ho).2.1 (by have:=(hE o ho).2.2;omega)
theorem Yh8 {e:Ed} (hb:BE e) (hg:GN e):Ga e=some (nE e):=Zcr (2 * SizeOf.sizeOf e+2) fun k hk=>(Yej k).1 e hb hg (by omega)
theorem Z07 {L:List Tr} (hl:(L.length:Int)≤140737488355328) (hL:∀ t∈L,Bd t):Vc L L=some true:=by
 unfold Vc
 have e:((L.length:Int) != (L.length:Int))=false:=by simp
 rw [e,cond_false,Zda L _ (fun _=>true) (Sum.inl ():Unit ⊕ Unit) (Sum.inr ()) hl (fun i x hi hx hm=>by
  unfold Vu
  rw [Us hi,cond_true,Z6 hx,Option.bind_some,Option.bind_some,Zx7 (hL x hm) (hL x hm),Zzq]
  rfl) (by unfold Vu;rw [Zbh];rfl)]
 simp
theorem Zzs:∀ (k:Nat) (e:Ed),BE e→SizeOf.sizeOf e < k→Kq k e e=some true
 | 0,_,_,h=>by omega
 | k+1,e,hb,hk=>by
  show Zbs (Kq k) e e=_
  unfold Zbs
  have ne:∀ x:Int,(x != x)=false:=fun x=>by simp
  have l0:Zv (Uo e e) 0=some (if (e.Words.all fun _=>true)=true then Sum.inr () else Sum.inl ()) :=
   Zda e.Words _ (fun _=>true) (Sum.inl ():Unit ⊕ Unit) (Sum.inr ()) hb.w (fun i x hi hx hm=>by
    unfold Uo
    rw [Us hi,cond_true,Z6 hx,Option.bind_some,Option.bind_some]
    simp) (by unfold Uo;rw [Zbh];rfl)
  have l1:Zv (Up (Kq k) e e) 0=some (if (e.Kids.all fun _=>true)=true then Sum.inr () else Sum.inl ()) :=
   Zda e.Kids _ (fun _=>true) (Sum.inl ():Unit ⊕ Unit) (Sum.inr ()) hb.k (fun i x hi hx hm=>by
    unfold Up
    rw [Us hi,cond_true,Z6 hx,Option.bind_some,Option.bind_some,ne,cond_false,Zzs k x.E (hb.ks x hm) (by have:=Jz hm;omega)]
    simp) (by unfold Up;rw [Zbh];rfl)
  have l2:Zv (Uq (Kq k) e e) 0=some (if (e.Ops.all fun _=>true)=true then Sum.inr () else Sum.inl ()) :=
   Zda e.Ops _ (fun _=>true) (Sum.inl ():Unit ⊕ Unit) (Sum.inr ()) hb.o (fun i x hi hx hm=>by
    have hL:=hb.l x hm
    unfold Uq
    rw [Us hi,cond_true,Z6 hx,Option.bind_some,Option.bind_some,ne,ne,cond_false,cond_false,Z07 (by omega) hL.2,Option.bind_some,cond_true,Zzs k x.E (hb.os x hm) (by have:=Uh hm;omega)]
    simp) (by unfold Uq;rw [Zbh];rfl)
  rw [ne,ne,Zx7 hb.old hb.old,Zx7 hb.new hb.new,Zzq,Zzq,l0,l1,l2]
  simp
theorem Ydb {e:Ed} (hb:BE e):Gb e e=some true:=Zcr (SizeOf.sizeOf e+1) fun k hk=>Zzs k e hb (by omega)
def lgt (e:Ed):Bool:=(!(decide (2000 < (e.Ops.foldl stR (0,0)).1) || decide (2000 < (e.Ops.foldl stR (0,0)).2))) && ((e.Kids.attach.map fun k=>lgt k.1.E).all id && (e.Ops.attach.map fun o=>lgt o.1.E).all id)
termination_by SizeOf.sizeOf e
decreasing_by
 ·exact Jz k.2
 exact Uh o.2
theorem Yh1 (e:Ed):lgt e=((!(decide (2000 < (e.Ops.foldl stR (0,0)).1) || decide (2000 < (e.Ops.foldl stR (0,0)).2))) && ((e.Kids.all fun k=>lgt k.E) && (e.Ops.all fun o=>lgt o.E))):=by
 have h1:(e.Kids.attach.map fun k=>lgt k.1.E)=e.Kids.map fun k=>lgt k.E:=List.attach_map_val (f:=fun k:Zk=>lgt k.E)
 have h2:(e.Ops.attach.map fun o=>lgt o.1.E)=e.Ops.map fun o=>lgt o.E:=List.attach_map_val (f:=fun o:EO=>lgt o.E)
 rw [lgt,h1,h2,List.all_map,List.all_map]
 rfl
theorem Z0c:∀ (k:Nat) (e:Ed),BE e→SizeOf.sizeOf e < k→Jv k e=some (lgt e)
 | 0,_,_,h=>by omega
 | k+1,e,hb,hk=>by
  show Zae (Jv k) e=_
  unfold Zae
  have l0:Zv (Vy (Jv k) e) 0=some (if (e.Kids.all fun x=>lgt x.E)=true then Sum.inr () else Sum.inl ()) :=
   Zda e.Kids _ (fun x=>lgt x.E) (Sum.inl ():Unit ⊕ Unit) (Sum.inr ()) hb.k (fun i x hi hx hm=>by
    unfold Vy
    rw [Us hi,cond_true,Z6 hx,Option.bind_some,Z0c k x.E (hb.ks x hm) (by have:=Jz hm;omega),Option.bind_some]
    cases lgt x.E <;> rfl) (by unfold Vy;rw [Zbh];rfl)
  have l1:Zv (Vz (Jv k) e) 0=some (if (e.Ops.all fun x=>lgt x.E)=true then Sum.inr () else Sum.inl ()) :=
   Zda e.Ops _ (fun x=>lgt x.E) (Sum.inl ():Unit ⊕ Unit) (Sum.inr ()) hb.o (fun i x hi hx hm=>by
    unfold Vz
    rw [Us hi,cond_true,Z6 hx,Option.bind_some,Z0c k x.E (hb.os x hm) (by have:=Uh hm;omega),Option.bind_some]
    cases lgt x.E <;> rfl) (by unfold Vz;rw [Zbh];rfl)
  rw [Yh1,Z9p hb,Option.bind_some,l0,l1]
  generalize decide (2000 < (e.Ops.foldl stR (0,0)).1)=q1
  generalize decide (2000 < (e.Ops.foldl stR (0,0)).2)=q2
  generalize (e.Kids.all fun x=>lgt x.E)=q3
  generalize (e.Ops.all fun x=>lgt x.E)=q4
  cases q1 <;> cases q2 <;> cases q3 <;> cases q4 <;> rfl
theorem Ydq {e:Ed} (hb:BE e):Zg1 e=some (lgt e):=Zcr (SizeOf.sizeOf e+1) fun k hk=>Z0c k e hb (by omega)
def swW (w:Zt):Zt:=⟨w.At,w.Mask,w.New,w.Old⟩
def tE (e:Ed):Ed :=
 ⟨e.Kind,e.New,e.Old,e.Words.map swW,e.Kids.attach.map (fun k=>⟨k.1.At,tE k.1.E⟩),e.List_,e.Ops.attach.map (fun o=>if o.1.Kind=1 then ⟨2,o.1.N,o.1.L,o.1.E⟩ else if o.1.Kind=2 then ⟨1,o.1.N,o.1.L,o.1.E⟩ else if o.1.Kind=3 then ⟨o.1.Kind,o.1.N,o.1.L,tE o.1.E⟩ else o.1)⟩
termination_by SizeOf.sizeOf e
decreasing_by
 ·exact Jz k.2
 exact Uh o.2
def tO (o:EO):EO:=if o.Kind=1 then ⟨2,o.N,o.L,o.E⟩ else if o.Kind=2 then ⟨1,o.N,o.L,o.E⟩ else if o.Kind=3 then ⟨o.Kind,o.N,o.L,tE o.E⟩ else o
theorem Yhf (e:Ed):tE e=⟨e.Kind,e.New,e.Old,e.Words.map swW,e.Kids.map (fun k=>⟨k.At,tE k.E⟩),e.List_,e.Ops.map tO⟩:=by
 have h1:(e.Kids.attach.map fun k=>(⟨k.1.At,tE k.1.E⟩:Zk))=e.Kids.map fun k=>⟨k.At,tE k.E⟩:=List.attach_map_val (f:=fun k:Zk=>(⟨k.At,tE k.E⟩:Zk))
 have h2:(e.Ops.attach.map fun o=>if o.1.Kind=1 then (⟨2,o.1.N,o.1.L,o.1.E⟩:EO) else if o.1.Kind=2 then ⟨1,o.1.N,o.1.L,o.1.E⟩ else if o.1.Kind=3 then ⟨o.1.Kind,o.1.N,o.1.L,tE o.1.E⟩ else o.1)=e.Ops.map tO:=List.attach_map_val (f:=tO)
 rw [tE,h1,h2]
theorem Yjd {o:EO} (h:o.Kind=1):tO o=⟨2,o.N,o.L,o.E⟩:=by unfold tO;rw [if_pos h]
theorem Yje {o:EO} (h:o.Kind=2):tO o=⟨1,o.N,o.L,o.E⟩:=by unfold tO;rw [if_neg (by omega),if_pos h]
theorem Yif {o:EO} (h:o.Kind=3):tO o=⟨3,o.N,o.L,tE o.E⟩:=by unfold tO;rw [if_neg (by omega),if_neg (by omega),if_pos h,h]
theorem Yie {o:EO} (h:¬ o.Kind=1) (h2:¬ o.Kind=2) (h3:¬ o.Kind=3):tO o=o:=by unfold tO;rw [if_neg h,if_neg h2,if_neg h3]
theorem Z7f (F:List EO) (a b:Int):Km (Km F a) b=Km F (a+b):=by
 by_cases hk:∃ o,F.getLast? = some o∧o.Kind=0
 ·obtain ⟨o,ho,hk0⟩:=hk
  obtain ⟨o',ho'⟩:=List.getLast?_eq_some_iff.1 ho
  obtain ⟨k,N,L,E⟩:=o
  simp only at hk0
  subst hk0 ho'
  rw [Zcu,Zcu,Zcu,Int.add_assoc]
 have hn:∀ o,F.getLast? = some o→o.Kind≠0:=fun o ho h0=>hk ⟨o,ho,h0⟩
 rw [Zgk hn,Zcu,Zgk hn]
theorem Z9l (l:Int) (e:Ed):Zgf l (nE (tE e))=Zgf l (nE e):=by
 rw [Zd9,Zd9,Yhf]
 simp only
 by_cases h1:e.Kind=1
 ·rw [if_pos h1,if_pos h1];simp [Zgf]
 rw [if_neg h1,if_neg h1]
 by_cases h2:e.Kind=2
 ·rw [if_pos h2,if_pos h2];simp [Zgf]
 rw [if_neg h2,if_neg h2]
 by_cases h3:e.Kind=3
 ·rw [if_pos h3,if_pos h3];simp [Zgf]
 rw [if_neg h3,if_neg h3]
def Zrt (l:List EO):List EO:=l.map tO
theorem Zpb (a b:List EO):Zrt (a++b)=Zrt a++Zrt b:=by simp [Zrt]
structure TR (l:Int) (s s':NW):Prop where
 out:(Jr (Zrt s.out)).foldl (stN l) s0N=⟨s'.out,[],[]⟩
 gone:s'.gone=s.come
 come:s'.come=s.gone
theorem TR.flush {l:Int} {s s':NW} (h:TR l s s') (hn:NInv l s):(Jr (Zrt s.flush)).foldl (stN l) s0N=s':=by
 unfold NW.flush
 rw [Zpb,Zep,List.foldl_append,h.out,Zpb,Zep,List.foldl_append]
 have e1:(Jr (Zrt (Zak s.gone))).foldl (stN l) ⟨s'.out,[],[]⟩=⟨s'.out,[],s.gone⟩:=by
  by_cases hg:s.gone=[]
  ·rw [hg];rfl
  rw [Zgq hg];simp [Zrt,tO,Jr,stN,hn.gone]
 have e2:(Jr (Zrt (Zdi s.come))).foldl (stN l) ⟨s'.out,[],s.gone⟩=⟨s'.out,s.come,s.gone⟩:=by
  by_cases hg:s.come=[]
  ·rw [hg];rfl
  rw [Zgr hg];simp [Zrt,tO,Jr,stN,hn.come]
 rw [e1,e2,← h.gone,← h.come]
theorem Yae (N:Int) (L:List Tr) (E:Ed):tO ⟨0,N,L,E⟩=⟨0,N,L,E⟩:=Yie (by simp) (by simp) (by simp)
theorem TR.keep {l:Int} {s s':NW} (h:TR l s s') (hn:NInv l s) (n:Int):TR l ⟨Km s.flush n,[],[]⟩ ⟨Km s'.flush n,[],[]⟩:=by
 refine ⟨?_,rfl,rfl⟩
 have hfl:=h.flush hn
 by_cases hk:∃ o,s.flush.getLast? = some o∧o.Kind=0
 ·obtain ⟨o,ho,hk0⟩:=hk
  rcases Zm1 ho with h12 | ⟨g1,g2,g3⟩
  ·omega
  have hf:s.flush=s.out:=by unfold NW.flush;rw [g1,g2];simp [Zak,Zdi]
  obtain ⟨o',ho'⟩:=List.getLast?_eq_some_iff.1 g3
  obtain ⟨a1,a2,a3,_⟩:=hn.last o' o ho' hk0
  obtain ⟨k,N,L,E⟩:=o
  simp only at hk0 a1 a2
  subst hk0 a1 a2
  rw [hf,ho'] at hfl ⊢
  rw [Zcu]
  simp only
  rw [Zpb,Zep,List.foldl_append] at hfl ⊢
  generalize (Jr (Zrt o')).foldl (stN l) s0N=r at *
  have e:∀ M:Int,(Jr (Zrt [(⟨0,M,[],eS0⟩:EO)])).foldl (stN l) r=⟨Km r.flush M,[],[]⟩:=fun M=>by
   unfold Zrt
   rw [List.map_cons,List.map_nil,Yae]
   exact Zt1 (l:=l)
  rw [e] at hfl ⊢
  rw [← hfl,Ze5,Z7f]
 have hk':∀ o,s.flush.getLast? = some o→o.Kind≠0:=fun o ho h0=>hk ⟨o,ho,h0⟩
 rw [Zgk hk']
 simp only
 rw [Zpb,Zep,List.foldl_append,hfl]
 unfold Zrt
 rw [List.map_cons,List.map_nil,Yae]
 exact Zt1 (l:=l)
theorem TR.step {l:Int} {s s':NW} (h:TR l s s') (hn:NInv l s) {o:EO} (ho:opk o) (hE:o.Kind=3→nE (tE (nE o.E))=nE (tE o.E)):TR l (stN l s (o,nE o.E)) (stN l s' (tO o,nE (tO o).E)):=by
 rcases ho with ⟨k,_⟩ | ⟨k,_⟩ | ⟨k,_⟩ | k
 ·rw [Yie (by omega) (by omega) (by omega)]
  have:=h.keep hn o.N
  unfold stN
  simp only [k,show ¬ (0:Int)=1 from by decide,show ¬ (0:Int)=2 from by decide,if_false,if_true]
  exact this
 ·rw [Yjd k]
  unfold stN
  simp only [k,show ¬ (2:Int)=1 from by decide,if_false,if_true]
  exact ⟨h.out,h.gone,by rw [h.come]⟩
 ·rw [Yje k]
  unfold stN
  simp only [k,show ¬ (2:Int)=1 from by decide,if_false,if_true]
  exact ⟨h.out,by rw [h.gone],h.come⟩
 rw [Yif k]
 have hi:=Z9l l o.E
 have hfl:=h.flush hn
 have hk:=h.keep hn 1
 unfold stN
 simp only [k,show ¬ (3:Int)=1 from by decide,show ¬ (3:Int)=2 from by decide,show ¬ (3:Int)=0 from by decide,if_false,hi]
 cases hid:Zgf l (nE o.E) with
 | true=>simp only [if_true];exact hk
 | false =>
  simp only [Bool.false_eq_true,if_false]
  refine ⟨?_,rfl,rfl⟩
  simp only
  rw [Zpb,Zep,List.foldl_append,hfl]
  unfold Zrt
  rw [List.map_cons,List.map_nil,Yif rfl]
  show stN l s' (⟨3,0,[],tE (nE o.E)⟩,nE (tE (nE o.E)))=_
  have hi2:=Z9l l (nE o.E)
  rw [Yhd,hid] at hi2
  unfold stN
  simp only [show ¬ (3:Int)=1 from by decide,show ¬ (3:Int)=2 from by decide,show ¬ (3:Int)=0 from by decide,if_false,hi2,Bool.false_eq_true]
  rw [hE k]
end Go.Proofs.Ytfjkcekfifobpaa
