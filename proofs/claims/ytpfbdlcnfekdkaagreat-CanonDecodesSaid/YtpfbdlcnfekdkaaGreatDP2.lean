/- Plain facts on this seat's mirrors (part DP2); each theorem bears its own conditions. -/
import Derived.Test.YtpfbdlcnfekdkaaGreatDP1
import Derived.IntWalk
namespace Go.Proofs.YtpfbdlcnfekdkaaGreat
open Go.RowKit
set_option linter.unusedVariables false
set_option linter.unusedSimpArgs false
def wid (c:Int):Nat:=if c=0 then 0 else if c=1 then 1 else if c=2 then 8 else if c=3 then 16 else if c=4 then 32 else 64
def Zea (c w:Int):Bool:=decide (w < 2 ^ wid c)
theorem Zwq {c:Int} (h0:0≤c) (h1:c≤5):c=0∨c=1∨c=2∨c=3∨c=4∨c=5:=by omega
theorem Z3w {c w:Int} (h0:0≤c) (h1:c≤5) (hw:0≤w):Ze4 c w=some (Zea c w):=by
 have key:∀ n:Nat,n≤64→(Int.fdiv w (2 ^ min (Int.toNat (n:Int)) 64) == 0)=decide (w < 2 ^ n):=fun n hn=>by
  rw [Int.toNat_natCast,Nat.min_eq_left hn,Int.fdiv_eq_ediv_of_nonneg _ (Int.le_of_lt (Int.pow_pos (by decide)))]
  have hp:(0:Int) < 2 ^ n:=Int.pow_pos (by decide)
  rw [Bool.eq_iff_iff,beq_iff_eq,decide_eq_true_eq]
  constructor
  ·intro h
   rcases Int.lt_or_le w (2 ^ n) with h2 | h2
   ·exact h2
   have:=Int.ediv_le_ediv hp h2
   rw [Int.ediv_self (Int.ne_of_gt hp)] at this
   omega
  intro h;exact Int.ediv_eq_zero_of_lt hw h
 have e:∀ n:Nat,n≤64→(some (((n:Int),true):Int×Bool)).bind (fun y2=>(cond y2.2 ((Xj (0≤y2.1)).bind fun u5=>some (cond y2.2 ((Int.fdiv w (2 ^ min (Int.toNat y2.1) 64)) == 0) false)) (some false)).bind fun (z4:Bool)=>some z4)=some (decide (w < 2 ^ n)):=fun n hn=>by
  rw [Option.bind_some]
  simp only [cond_true]
  rw [Vd (by omega),Option.bind_some,Option.bind_some,key n hn]
 unfold Ze4 Zea
 rcases Zwq h0 h1 with rfl | rfl | rfl | rfl | rfl | rfl
 ·exact e 0 (by decide)
 ·exact e 1 (by decide)
 ·exact e 8 (by decide)
 ·exact e 16 (by decide)
 ·exact e 32 (by decide)
 exact e 64 (by decide)
theorem Z42 (n:Nat) (hn:n≤64) (w:Int) (h0:0≤w) (h1:w < 18446744073709551616):Zw (X9 (n:Int)) (w,0)=some (w / 2 ^ n):=by
 have key:∀ m i:Nat,i+m=n→Zw (X9 (n:Int)) (w / 2 ^ i,(i:Int))=some (w / 2 ^ n):=fun m=>by
  induction m with
  | zero =>
   intro i hi
   have:i=n:=by omega
   subst this
   refine Y7 ?_
   unfold X9
   simp only
   rw [Zd4,cond_false]
  | succ m ih =>
   intro i hi
   have hp:(0:Int) < 2 ^ i:=Int.pow_pos (by decide)
   have q0:0≤w / 2 ^ i:=Int.ediv_nonneg h0 (Int.le_of_lt hp)
   have q1:w / 2 ^ i≤w:=Int.ediv_le_self _ h0
   have hs:X9 (n:Int) (w / 2 ^ i,(i:Int))=some (.inl (w / 2 ^ (i+1),((i+1:Nat):Int))):=by
    unfold X9
    simp only
    rw [Zee (by omega),cond_true,Yg (by omega) (by omega),Int.tdiv_eq_ediv_of_nonneg q0]
    have e:w / 2 ^ i / 2=w / 2 ^ (i+1):=by rw [Int.ediv_ediv_of_nonneg (Int.le_of_lt hp),Int.pow_succ]
    have q2:0≤w / 2 ^ i / 2:=Int.ediv_nonneg q0 (by decide)
    have q3:w / 2 ^ i / 2≤w / 2 ^ i:=Int.ediv_le_self _ q0
    have e3:IntKind.u64.wrap (w / 2 ^ i / 2)=w / 2 ^ i / 2:=by
     exact Ybl ⟨q2,by omega⟩
    rw [e3,e]
    rfl
   rw [X4 hs]
   exact ih (i+1) (by omega)
 have:=key n 0 (by omega)
 simpa using this
theorem Zxr {c w:Int} (h0:0≤c) (h1:c≤5) (hw:0≤w) (hw':w < 18446744073709551616):K5 c w=some (Zea c w):=by
 have e:∀ n:Nat,n≤64→(cond (decide ((n:Int) < 0)) (some false) ((Zw (X9 (n:Int)) (w,0)).bind fun (z4:Int)=>some (z4 == 0)))=some (decide (w < 2 ^ n)):=fun n hn=>by
  have:decide ((n:Int) < 0)=false:=by rw [decide_eq_false_iff_not];omega
  have hp:(0:Int) < 2 ^ n:=Int.pow_pos (by decide)
  rw [this,cond_false,Z42 n hn w hw hw',Option.bind_some]
  congr 1
  rw [Bool.eq_iff_iff,beq_iff_eq,decide_eq_true_eq]
  constructor
  ·intro h
   rcases Int.lt_or_le w (2 ^ n) with h2 | h2
   ·exact h2
   have:=Int.ediv_le_ediv hp h2
   rw [Int.ediv_self (Int.ne_of_gt hp)] at this
   omega
  intro h;exact Int.ediv_eq_zero_of_lt hw h
 unfold K5 Zea
 rcases Zwq h0 h1 with rfl | rfl | rfl | rfl | rfl | rfl
 ·exact e 0 (by decide)
 ·exact e 1 (by decide)
 ·exact e 8 (by decide)
 ·exact e 16 (by decide)
 ·exact e 32 (by decide)
 exact e 64 (by decide)
def okk (kind:Int) (k:Tr):Bool:=if 2≤kind∧kind≤7 then k.Kind == 10 && Zea (kind - 2) (k.Words.headD 0) else k.Kind != 10 && (kind != 9 || k.Kind == 1)
def rt (t:Tr) (d:Nat):Bool :=
 if t.Kind=0 then t.Words.length == 0 && t.Kids.length == 0
 else if t.Kind=10 then t.Words.length == 1 && t.Kids.length == 0
 else if t.Kind < 0∨10 < t.Kind∨d=0∨65536≤t.Words.length∨(t.Kind=1∧65536≤t.Kids.length)∨1048576≤t.Kids.length∨(1 < t.Kind∧0 < t.Words.length) then false
 else (t.Kids.attach.map fun k=>rt k.1 (d - 1) && okk t.Kind k.1).all id
termination_by SizeOf.sizeOf t
decreasing_by exact Xt k.2
theorem Zd1 (t:Tr) (d:Nat):rt t d=if t.Kind=0 then t.Words.length == 0 && t.Kids.length == 0
 else if t.Kind=10 then t.Words.length == 1 && t.Kids.length == 0
 else if t.Kind < 0∨10 < t.Kind∨d=0∨65536≤t.Words.length∨(t.Kind=1∧65536≤t.Kids.length)∨1048576≤t.Kids.length∨(1 < t.Kind∧0 < t.Words.length) then false
 else t.Kids.all fun k=>rt k (d - 1) && okk t.Kind k:=by
 rw [rt]
 have:(t.Kids.attach.map fun k=>rt k.1 (d - 1) && okk t.Kind k.1)=t.Kids.map fun k=>rt k (d - 1) && okk t.Kind k:=List.attach_map_val (f:=fun k=>rt k (d - 1) && okk t.Kind k)
 rw [this,List.all_map]
 rfl
theorem Ybh {t:Tr} (h:t.Kind=10) (d d':Nat):rt t d=rt t d':=by
 have h0:¬ t.Kind=0:=by rw [h];decide
 rw [Zd1 t d,Zd1 t d']
 simp only [if_neg h0,if_pos h]
theorem Zqi {t:Tr} (h:t.Kind=10) {d:Nat} (hr:rt t d=true):∃ w,t.Words=[w]:=by
 rw [Zd1,if_neg (by omega),if_pos h,Bool.and_eq_true,beq_iff_eq] at hr
 obtain ⟨k,w,ks⟩:=t
 obtain ⟨h1,_⟩:=hr
 simp only at h1 ⊢
 exact List.length_eq_one_iff.1 h1
theorem Z7a {n:Nat}:((n:Int) == 0)=(n == 0):=by rw [Bool.eq_iff_iff,beq_iff_eq,beq_iff_eq];omega
theorem Yc2 {n:Nat}:((n:Int) == 1)=(n == 1):=by rw [Bool.eq_iff_iff,beq_iff_eq,beq_iff_eq];omega
theorem Zd9 (a b:Bool):cond a b false=(a && b):=by cases a <;> rfl
theorem Z5l {α:Type} (p:α→Bool):∀ l:List α,l.any (fun x => !p x) = !(l.all p)
 | []=>rfl
 | x::l=>by rw [List.any_cons,List.all_cons,Z5l p l];cases p x <;> rfl
theorem Zs4 {α R:Type} (xs:List α) (step:Int→Option (Int ⊕ R)) (p:α→Bool) (e o:R) (hl:(xs.length:Int)≤140737488355328)
  (h1:∀ (i:Nat) (x:α),i < xs.length→xs[i]? = some x→x∈xs→step i=some (if p x=true then .inl (IntKind.i64.wrap ((i:Int)+1)) else .inr e)) (h2:step xs.length=some (.inr o)):Zw step 0=some (if xs.all p=true then o else e):=by
 rw [Zw9 xs step (fun x => !p x) e o hl (fun i x hi hx hm=>by rw [h1 i x hi hx hm];cases p x <;> rfl) h2,Z5l]
 cases xs.all p <;> rfl
theorem Zy4:∀ (k:Nat) (t:Tr) (d:Nat),Bd t→SizeOf.sizeOf t < k→d≤64→Jo k t (d:Int)=some (rt t d)
 | 0,t,d,_,h,_=>by omega
 | k+1,t,d,hb,hk,hd=>by
  have hkd:=hb.k
  show Gn (Jo k) t (d:Int)=_
  unfold Gn
  rw [Zd1,Z7a,Yc2]
  by_cases h0:t.Kind=0
  ·rw [if_pos h0,h0]
   simp only [Z7a,Zd9]
   rfl
  have e0:(t.Kind == 0)=false:=by simp [h0]
  rw [if_neg h0,e0,cond_false]
  by_cases h10:t.Kind=10
  ·rw [if_pos h10,h10]
   simp only [Z7a,Zd9]
   rfl
  have e10:(t.Kind == 10)=false:=by simp [h10]
  rw [if_neg h10,e10,cond_false]
  by_cases hbad:t.Kind < 0∨10 < t.Kind∨d=0∨65536≤t.Words.length∨(t.Kind=1∧65536≤t.Kids.length)∨1048576≤t.Kids.length∨(1 < t.Kind∧0 < t.Words.length)
  ·rw [if_pos hbad]
   have hc:∀ c1 c2 c3 c4 c5 c6 c7 c8:Bool,(c1=true∨c2=true∨c3=true∨c4=true∨(c5=true∧c6=true)∨c7=true∨c8=true)→∀ X:Option Bool,
     cond (cond (cond (cond (cond (cond c1 true c2) true c3) true c4) true (cond c5 c6 false)) true c7) (some false) (cond c8 (some false) X)=some false:=by
    intro c1 c2 c3 c4 c5 c6 c7 c8 h X
    cases c1 <;> cases c2 <;> cases c3 <;> cases c4 <;> cases c5 <;> cases c6 <;> cases c7 <;> cases c8 <;> first | rfl | (simp at h;done)
   refine hc _ _ _ _ _ _ _ _ ?_ _
   simp only [decide_eq_true_eq,beq_iff_eq,Zd9,Bool.and_eq_true]
   omega
  rw [if_neg hbad]
  have hg:¬ t.Kind < 0∧¬ 10 < t.Kind∧¬ d=0∧¬ 65536≤t.Words.length∧¬ (t.Kind=1∧65536≤t.Kids.length)∧¬ 1048576≤t.Kids.length∧¬ (1 < t.Kind∧0 < t.Words.length):=by omega
  have hc:∀ c1 c2 c3 c4 c5 c7 c8:Bool,c1=false→c2=false→c3=false→c4=false→c5=false→c7=false→c8=false→∀ X:Option Bool,
    cond (cond (cond (cond (cond (cond c1 true c2) true c3) true c4) true c5) true c7) (some false) (cond c8 (some false) X)=X:=by
   intro c1 c2 c3 c4 c5 c7 c8 h1 h2 h3 h4 h5 h7 h8 X
   subst h1 h2 h3 h4 h5 h7 h8
   rfl
  rw [hc _ _ _ _ _ _ _ (decide_eq_false hg.1) (decide_eq_false hg.2.1) (by rw [beq_eq_false_iff_ne];omega) (by rw [decide_eq_false_iff_not];omega) (by rw [Zd9,Bool.and_eq_false_iff,beq_eq_false_iff_ne,decide_eq_false_iff_not];omega) (by rw [decide_eq_false_iff_not];omega) (by rw [Zd9,Bool.and_eq_false_iff,decide_eq_false_iff_not,decide_eq_false_iff_not];omega)]
  obtain ⟨d',rfl⟩:∃ d',d=d'+1:=⟨d - 1,by omega⟩
  have ih:∀ x∈t.Kids,Jo k x (d':Int)=some (rt x d'):=fun x hx=>Zy4 k x d' (hb.all x hx) (by have:=Xt hx;omega) (by omega)
  rw [Zs4 t.Kids (Vx (Jo k) t ((d'+1:Nat):Int)) (fun x=>rt x d' && okk t.Kind x) (.inl ()) (.inr ()) (by omega) (fun i x hi hx hm=>by
   unfold Vx
   have ed:((d'+1:Nat):Int) - 1=(d':Int):=by omega
   rw [Zee hi,cond_true,Y3 hx,Option.bind_some,Yg (x:=((d'+1:Nat):Int) - 1) (by omega) (by omega),ed,ih x hm,Option.bind_some]
   cases hr:rt x d' with
   | false=>rfl
   | true =>
    rw [Bool.not_true,cond_false,Bool.true_and]
    unfold okk
    by_cases hdt:2≤t.Kind∧t.Kind≤7
    ·have e2:decide (2≤t.Kind)=true:=decide_eq_true hdt.1
     have e7:decide (t.Kind≤7)=true:=decide_eq_true hdt.2
     have e9:(t.Kind == 9)=false:=by rw [beq_eq_false_iff_ne];omega
     rw [e2,e7,e9,if_pos hdt]
     simp only [cond_true,cond_false]
     by_cases hx10:x.Kind=10
     ·obtain ⟨w,hw⟩:=Zqi hx10 hr
      have hu:=(hb.all x hm).u w (by rw [hw];exact .head _)
      have ex:(x.Kind == 10)=true:=by simp [hx10]
      have ex2:((true:Bool) != true)=false:=rfl
      have hg0:Y9 [w] (0:Int)=some w:=rfl
      rw [ex,ex2,cond_false,hw,hg0,Option.bind_some,Yg (by omega) (by omega),Zxr (by omega) (by omega) hu.1 hu.2,Option.bind_some]
      simp only [cond_false,List.headD_cons,Bool.true_and]
      cases Zea (t.Kind - 2) w <;> rfl
     have ex:(x.Kind == 10)=false:=by simp [hx10]
     rw [ex]
     rfl
    have ed2:cond (decide (2≤t.Kind)) (decide (t.Kind≤7)) false=false:=by
     rw [Zd9,Bool.and_eq_false_iff,decide_eq_false_iff_not,decide_eq_false_iff_not];omega
    rw [ed2,if_neg hdt]
    have hin:∀ (X:Option Bool) (b:Bool),(cond (decide (2≤t.Kind)) (cond (decide (t.Kind≤7)) X (some b)) (some b))=some b:=fun X b=>by
     by_cases h2:2≤t.Kind
     ·have h7:decide (t.Kind≤7)=false:=by rw [decide_eq_false_iff_not];omega
      rw [decide_eq_true h2,h7];rfl
     rw [decide_eq_false h2];rfl
    by_cases hx10:x.Kind=10
    ·have ex:(x.Kind == 10)=true:=by simp [hx10]
     have ex2:(x.Kind != 10)=false:=by simp [hx10]
     rw [ex,ex2]
     rfl
    have ex:(x.Kind == 10)=false:=by simp [hx10]
    have ex2:(x.Kind != 10)=true:=by simp [hx10]
    have ex3:((false:Bool) != false)=false:=rfl
    rw [ex,ex2,ex3,cond_false]
    simp only [cond_false]
    rw [hin]
    by_cases h9:t.Kind=9
    ·have e9:(t.Kind == 9)=true:=by simp [h9]
     have e9':(t.Kind != 9)=false:=by simp [h9]
     rw [e9,e9',cond_true]
     by_cases hx1:x.Kind=1
     ·have q1:(x.Kind != 1)=false:=by simp [hx1]
      have q2:(x.Kind == 1)=true:=by simp [hx1]
      rw [q1,q2,cond_false]
      rfl
     have q1:(x.Kind != 1)=true:=by simp [hx1]
     have q2:(x.Kind == 1)=false:=by simp [hx1]
     rw [q1,q2,cond_true]
     rfl
    have e9:(t.Kind == 9)=false:=by simp [h9]
    have e9':(t.Kind != 9)=true:=by simp [h9]
    rw [e9,e9']
    rfl) (by unfold Vx;rw [Zd4];rfl),Option.bind_some,Nat.add_sub_cancel]
  cases t.Kids.all fun x=>rt x d' && okk t.Kind x <;> rfl
theorem Z7m {t:Tr} (h:Bd t) {d:Nat} (hd:d≤64):Zen t (d:Int)=some (rt t d):=Zh8 (SizeOf.sizeOf t+1) fun k hk=>Zy4 k t d h (by omega) hd
theorem Yay (n:Int):Zdk n=some (decide (2≤n) && decide (n≤9)):=by unfold Zdk;rw [Zd9]
theorem Z49 {l:List Tr} (hl:(l.length:Int)≤140737488355328):Zaw l=some (l.all fun x=>x.Kind == 1):=by
 unfold Zaw
 rw [Zs4 l (Uk l) (fun x=>x.Kind == 1) (.inl ()) (.inr ()) hl (fun i x hi hx hm=>by
  unfold Uk
  rw [Zee hi,cond_true,Y3 hx,Option.bind_some]
  simp only [bne]
  cases x.Kind == 1 <;> rfl) (by unfold Uk;rw [Zd4];rfl),Option.bind_some]
 cases l.all fun x=>x.Kind == 1 <;> rfl
theorem Z5k {α:Type} (p q:α→Bool):∀ l:List α,(l.all fun x=>p x && q x)=(l.all p && l.all q)
 | []=>rfl
 | x::l=>by rw [List.all_cons,List.all_cons,List.all_cons,Z5k p q l];cases p x <;> cases q x <;> cases l.all p <;> cases l.all q <;> rfl
theorem Zys {α:Type} {p q:α→Bool}:∀ {l:List α},(∀ x∈l,p x=q x)→l.all p=l.all q
 | [],_=>rfl
 | x::l,h=>by rw [List.all_cons,List.all_cons,h x (.head _),Zys fun y hy=>h y (.tail _ hy)]
def rq (t:Tr) (d:Nat):Bool:=rt t d && t.Kind != 10
def ra (c:Int) (x:Tr):Bool:=x.Kind == 10 && (rt x 64 && Zea c (x.Words.headD 0))
theorem Z3h:∀ (k:Nat),(∀ t:Tr,Bd t→(2 * SizeOf.sizeOf t+1 < k∨(t.Kind=10∧0 < k))→(Zz k).1 t=some (rt t 64)) ∧
  (∀ (t:Tr) (d:Nat),Bd t→2 * SizeOf.sizeOf t < k→d≤64→(Zz k).2.1 t (d:Int)=some (rq t d)) ∧
  (∀ (l:List Tr) (d:Nat),(∀ x∈l,Bd x∧2 * SizeOf.sizeOf x+1 < k)→(l.length:Int)≤140737488355328→d≤64→1≤k→(Zz k).2.2.1 l (d:Int)=some (l.all fun x=>rq x d)) ∧
  (∀ (l:List Tr) (c:Int),(∀ x∈l,Bd x)→(l.length:Int)≤140737488355328→0≤c→c≤5→2≤k→(Zz k).2.2.2 l c=some (l.all (ra c)))
 | 0=>⟨fun t _ h=>by omega,fun t d _ h=>by omega,fun l d _ _ _ h=>by omega,fun l c _ _ _ _ h=>by omega⟩
 | k+1=>by
  obtain ⟨i1,i2,i3,i4⟩:=Z3h k
  refine ⟨fun t hb hk => ?_,fun t d hb hk hd => ?_,fun l d hl hn hd hk => ?_,fun l c hl hn h0 h5 hk => ?_⟩
  ·show Zfk (Zz k).1 (Zz k).2.1 (Zz k).2.2.1 (Zz k).2.2.2 t=_
   unfold Zfk
   rw [Z7a,Yc2]
   by_cases h10:t.Kind=10
   ·have e:(t.Kind == 10)=true:=by simp [h10]
    rw [e,cond_true,Zd9,Zd1,if_neg (by rw [h10];decide),if_pos h10]
   have e:(t.Kind == 10)=false:=by simp [h10]
   have e2:(t.Kind != 10)=true:=by simp [h10]
   have:=i2 t 64 hb (by rcases hk with hk | hk;omega;exact absurd hk.1 h10) (by decide)
   rw [e,cond_false,show (64:Int)=((64:Nat):Int) from rfl,this,Option.bind_some]
   unfold rq
   rw [e2,Bool.and_true]
  ·have hkd:=hb.k
   have hw:=hb.w
   show Zfl (Zz k).1 (Zz k).2.1 (Zz k).2.2.1 (Zz k).2.2.2 t (d:Int)=_
   unfold Zfl rq
   rw [Z7a,Z7a,Zd1]
   by_cases h0:t.Kind=0
   ·have e:(t.Kind == 0)=true:=by simp [h0]
    have e2:(t.Kind != 10)=true:=by rw [h0];rfl
    rw [e,e2,cond_true,Zd9,if_pos h0,Bool.and_true]
   have e0:(t.Kind == 0)=false:=by simp [h0]
   rw [e0,cond_false,if_neg h0]
   by_cases hd0:d=0
   ·subst hd0
    have e:(((0:Nat):Int) == 0)=true:=rfl
    rw [e,cond_true]
    by_cases h10:t.Kind=10
    ·simp [h10]
    rw [if_neg h10,if_pos (by omega),Bool.false_and]
   have ed:((d:Int) == 0)=false:=by rw [beq_eq_false_iff_ne];omega
   rw [ed,cond_false]
   obtain ⟨d',rfl⟩:∃ d',d=d'+1:=⟨d - 1,by omega⟩
   have e3:((d'+1:Nat):Int) - 1=(d':Int):=by omega
   have ih3:=i3 t.Kids d' (fun x hx=>⟨hb.all x hx,by have:=Xt hx;omega⟩) (by omega) (by omega) (by have:=Zxy t;omega)
   rw [Yg (x:=((d'+1:Nat):Int) - 1) (by omega) (by omega),e3,ih3,Nat.add_sub_cancel]
   by_cases h1:t.Kind=1
   ·have e:(t.Kind == 1)=true:=by simp [h1]
    have e2:(t.Kind != 10)=true:=by rw [h1];rfl
    have e10:¬ t.Kind=10:=by omega
    have ho:∀ x:Tr,okk t.Kind x=(x.Kind != 10):=fun x=>by unfold okk;rw [h1,if_neg (by decide)];simp
    rw [e,e2,cond_true,if_neg e10,Bool.and_true]
    simp only [ho]
    by_cases hw':t.Words.length < 65536
    ·have q1:decide ((t.Words.length:Int) < 65536)=true:=by rw [decide_eq_true_eq];omega
     by_cases hk':t.Kids.length < 65536
     ·have q2:decide ((t.Kids.length:Int) < 65536)=true:=by rw [decide_eq_true_eq];omega
      rw [q1,q2,if_neg (by omega)]
      rfl
     have q2:decide ((t.Kids.length:Int) < 65536)=false:=by rw [decide_eq_false_iff_not];omega
     rw [q1,q2,if_pos (by omega)]
     rfl
    have q1:decide ((t.Words.length:Int) < 65536)=false:=by rw [decide_eq_false_iff_not];omega
    rw [q1,if_pos (by omega)]
    rfl
   have e1:(t.Kind == 1)=false:=by simp [h1]
   rw [e1,cond_false,Yay,Option.bind_some]
   by_cases hbad:¬ (2≤t.Kind∧t.Kind≤9)∨0 < t.Words.length∨1048576≤t.Kids.length
   ·have q:cond (cond (!(decide (2≤t.Kind) && decide (t.Kind≤9))) true (decide (0 < (t.Words.length:Int)))) true (decide (1048576≤(t.Kids.length:Int)))=true:=by
     cases hq:cond (cond (!(decide (2≤t.Kind) && decide (t.Kind≤9))) true (decide (0 < (t.Words.length:Int)))) true (decide (1048576≤(t.Kids.length:Int))) with
     | true=>rfl
     | false =>
      have hc:∀ a b c:Bool,cond (cond (!a) true b) true c=false→a=true∧b=false∧c=false:=by decide
      obtain ⟨z1,z2,z3⟩:=hc _ _ _ hq
      rw [Bool.and_eq_true,decide_eq_true_eq,decide_eq_true_eq] at z1
      rw [decide_eq_false_iff_not] at z2 z3
      omega
    rw [q,cond_true]
    by_cases h10:t.Kind=10
    ·have e2:(t.Kind != 10)=false:=by simp [h10]
     rw [e2,Bool.and_false]
    rw [if_neg h10,if_pos (by omega),Bool.false_and]
   have hg:2≤t.Kind∧t.Kind≤9∧¬ 0 < t.Words.length∧¬ 1048576≤t.Kids.length:=by omega
   have q2:decide (0 < (t.Words.length:Int))=false:=by rw [decide_eq_false_iff_not];omega
   have q3:decide (1048576≤(t.Kids.length:Int))=false:=by rw [decide_eq_false_iff_not];omega
   have e10:¬ t.Kind=10:=by omega
   have e2:(t.Kind != 10)=true:=by simp [e10]
   rw [decide_eq_true hg.1,decide_eq_true hg.2.1,q2,q3,e2,if_neg e10,if_neg (by omega),Bool.and_true]
   simp only [Bool.and_true,Bool.not_true,cond_false]
   by_cases h8:t.Kind=8
   ·have e:(t.Kind == 8)=true:=by simp [h8]
    have ho:∀ x:Tr,okk t.Kind x=(x.Kind != 10):=fun x=>by unfold okk;rw [h8,if_neg (by decide)];simp
    rw [e,cond_true,Option.bind_some]
    simp only [ho]
    rfl
   have e8:(t.Kind == 8)=false:=by simp [h8]
   rw [e8,cond_false]
   by_cases h9:t.Kind=9
   ·have e:(t.Kind == 9)=true:=by simp [h9]
    have ho:∀ x:Tr,(rt x d' && okk t.Kind x)=(rq x d' && x.Kind == 1):=fun x=>by
     unfold okk rq
     rw [h9,if_neg (by decide)]
     have:((9:Int) != 9)=false:=rfl
     rw [this,Bool.false_or,Bool.and_assoc]
    rw [e,cond_true,Z49 (by omega),Option.bind_some]
    simp only [ho]
    rw [Z5k]
    cases t.Kids.all fun x=>x.Kind == 1 with
    | false=>rw [Bool.and_false];rfl
    | true=>rw [Bool.and_true];rfl
   have e:(t.Kind == 9)=false:=by simp [h9]
   have hd7:2≤t.Kind∧t.Kind≤7:=by omega
   rw [e,cond_false,Yg (by omega) (by omega),i4 t.Kids (t.Kind - 2) hb.all (by omega) (by omega) (by omega) (by have:=Zxy t;omega),Option.bind_some]
   congr 1
   refine Zys fun x hx => ?_
   unfold okk ra
   rw [if_pos hd7]
   by_cases hx10:x.Kind=10
   ·rw [Ybh hx10 d' 64]
    have:(x.Kind == 10)=true:=by simp [hx10]
    rw [this,Bool.true_and,Bool.true_and]
   have:(x.Kind == 10)=false:=by simp [hx10]
   rw [this,Bool.false_and,Bool.false_and,Bool.and_false]
  ·show Zce (Zz k).1 (Zz k).2.1 (Zz k).2.2.1 (Zz k).2.2.2 l (d:Int)=_
   unfold Zce
   rw [Zs4 l (Gq (Zz k).2.1 l (d:Int)) (fun x=>rq x d) (.inl ()) (.inr ()) hn (fun i x hi hx hm=>by
    unfold Gq
    rw [Zee hi,cond_true,Y3 hx,Option.bind_some,i2 x d (hl x hm).1 (by have:=(hl x hm).2;omega) hd,Option.bind_some]
    cases rq x d <;> rfl) (by unfold Gq;rw [Zd4];rfl),Option.bind_some]
   cases l.all fun x=>rq x d <;> rfl
  show Zcd (Zz k).1 (Zz k).2.1 (Zz k).2.2.1 (Zz k).2.2.2 l c=_
  unfold Zcd
  rw [Zs4 l (Gp (Zz k).1 l c) (ra c) (.inl ()) (.inr ()) hn (fun i x hi hx hm=>by
   unfold Gp ra
   rw [Zee hi,cond_true,Y3 hx,Option.bind_some]
   by_cases hx10:x.Kind=10
   ·have e:(x.Kind == 10)=true:=by simp [hx10]
    have e2:(x.Kind != 10)=false:=by simp [hx10]
    rw [e,e2,cond_false,i1 x (hl x hm) (.inr ⟨hx10,by omega⟩),Option.bind_some,Bool.true_and]
    cases hr:rt x 64 with
    | false=>rfl
    | true =>
     obtain ⟨w,hw⟩:=Zqi hx10 hr
     have hu:=(hl x hm).u w (by rw [hw];exact .head _)
     have hg0:Y9 [w] (0:Int)=some w:=rfl
     rw [cond_true,hw,hg0,Option.bind_some,Z3w h0 h5 hu.1,Option.bind_some]
     simp only [cond_false,List.headD_cons,Bool.true_and,Bool.not_true]
     cases Zea c w <;> rfl
   have e:(x.Kind == 10)=false:=by simp [hx10]
   have e2:(x.Kind != 10)=true:=by simp [hx10]
   rw [e,e2]
   rfl) (by unfold Gp;rw [Zd4];rfl),Option.bind_some]
  cases l.all (ra c) <;> rfl
theorem Z9t {t:Tr} (h:Bd t):Znb t=some (rt t 64):=Zh8 (2 * SizeOf.sizeOf t+2) fun k hk=>(Z3h k).1 t h (.inl (by omega))
def Z4n:List (Tr×Int)→Int
 | []=>0
 | p::ps=>p.2+Z4n ps
theorem Z5t:∀ ps:List (Tr×Int),(∀ p∈ps,0≤p.2)→0≤Z4n ps
 | [],_=>Int.le_refl _
 | p::ps,h=>by
  have h1:=h p (.head _)
  have h2:=Z5t ps fun q hq=>h q (.tail _ hq)
  simp only [Z4n]
  omega
def GG (t:Tr) (d:Nat) (w:Int):Prop:=True∧0≤w∧rt t d=true
theorem Yaw (d:Nat):GG ⟨0,[],[]⟩ d 0:=⟨trivial,Int.le_refl _,by rw [Zd1];rfl⟩
theorem Yca (w:Int) (d:Nat):GG ⟨10,[w],[]⟩ d 1:=⟨trivial,by decide,by rw [Zd1];rfl⟩
theorem Z5s {t:Tr} (h1:1≤t.Kind∧t.Kind≤9) {d:Nat} (hd:1≤d∧d≤64) (hl:t.Kids.length < 65536∨t.Kind≠1∧t.Kids.length≤65536) (hw:t.Words.length < 65536) (hws:1 < t.Kind→t.Words.length=0) {ps:List (Tr×Int)} (e:t.Kids=ps.map (·.1)) (hp:∀ p∈ps,GG p.1 (d - 1) p.2∧okk t.Kind p.1=true) {b c w:Int} (hb:b=if t.Kind=1 then 1+(t.Words.length:Int) else 1) (hc:c=if t.Kind=1∨t.Kind=8 then 1 else 0) (hwe:w=b+Z4n ps+c * (ps.length:Int)) (hw2:w≤65536):GG t d w:=by
 have hm:∀ x∈t.Kids,∃ p∈ps,p.1=x:=fun x hx=>by
  rw [e] at hx
  exact List.mem_map.1 hx
 have hg:=Z5t ps fun p q=>(hp p q).1.2.1
 have hc0:0≤c:=by rw [hc];split <;> omega
 have hb0:0≤b:=by rw [hb];split <;> omega
 have hcl:0≤c * (ps.length:Int):=Int.mul_nonneg hc0 (by omega)
 refine ⟨trivial,by omega,?_⟩
 rw [Zd1,if_neg (by omega),if_neg (by omega),if_neg (by omega),List.all_eq_true]
 intro x hx
 obtain ⟨p,hp',rfl⟩:=hm x hx
 have:=hp p hp'
 rw [this.1.2.2,this.2]
 rfl
section
variable {A:Zl}
theorem Zw1 {f:Zc→Int→Tr×Int×Int} {g:Int→Zc×Int} {Q:Tr→Int→Prop} {e M:Int} {n:Nat} (hQ:∀ (i:Nat) (left:Int),i < n→0≤left→left≤M→(g i).2=0→(f (g i).1 left).2.2=0→0≤(f (g i).1 left).2.1∧(f (g i).1 left).2.1≤left∧Q (f (g i).1 left).1 (left - (f (g i).1 left).2.1+e)) :
  ∀ (m i:Nat) (left:Int) (acc:List Tr),i+m=n→0≤left→left≤M→(Z6 f g m i left acc).2.2=0→0≤(Z6 f g m i left acc).2.1∧(Z6 f g m i left acc).2.1≤left∧∃ ps:List (Tr×Int),(Z6 f g m i left acc).1=acc++ps.map (·.1)∧ps.length=m∧(∀ p∈ps,Q p.1 p.2)∧Z4n ps=left - (Z6 f g m i left acc).2.1+e * (m:Int)
 | 0,i,left,acc,_,h0,_,_=>⟨h0,Int.le_refl _,[],by simp [Z6],rfl,by simp,by simp [Z6,Z4n]⟩
 | m+1,i,left,acc,hi,h0,hM,h=>by
  rw [Z6] at h ⊢
  by_cases h1:(g i).2≠0
  ·rw [if_pos h1] at h;exact absurd h h1
  rw [if_neg h1] at h ⊢
  by_cases h2:(f (g i).1 left).2.2≠0
  ·rw [if_pos h2] at h;exact absurd h h2
  rw [if_neg h2] at h ⊢
  obtain ⟨a1,a2,a3⟩:=hQ i left (by omega) h0 hM (by omega) (by omega)
  obtain ⟨b1,b2,ps,c1,c2,c3,c4⟩:=Zw1 hQ m (i+1) _ _ (by omega) a1 (by omega) h
  refine ⟨b1,by omega,((f (g i).1 left).1,left - (f (g i).1 left).2.1+e)::ps,by rw [c1,List.append_assoc,List.map_cons];rfl,by rw [List.length_cons,c2],?_,?_⟩
  ·intro p hp
   rcases List.mem_cons.1 hp with rfl | hp
   ·exact a3
   exact c3 p hp
  have:e * ((m+1:Nat):Int)=e * (m:Int)+e:=by rw [show ((m+1:Nat):Int)=(m:Int)+1 from rfl,Int.mul_add,Int.mul_one]
  rw [this]
  simp only [Z4n]
  rw [c4]
  omega
theorem Z17 (s a:Int):(atR A s a).1.kind≠10:=by
 unfold atR
 rcases Zjl A.segments s a with h | ⟨h1,hp,hk,hi⟩
 ·rw [if_pos h];simp [r0]
 rw [if_neg (by omega)]
 have hc:=hp.c
 generalize (fol A.segments s a).1=x at *
 simp only
 split
 ·simp
 split
 ·split
  ·simp [r0]
  simp
 simp only
 omega
theorem Z5u {r:Zc} (h:r.kind=1∨r.kind=8) (i:Int):(Z9 A r i).1.kind≠10:=by
 unfold Z9
 split
 ·simp [r0]
 split
 ·exact Z17 _ _
 split
 ·exact Z17 _ _
 omega
theorem Z4o {r:Zc} (h:r.kind=9) {i:Int} (hi:0≤i∧i < Zy r):Z9 A r i=(⟨some A,1,r.segment,r.at_+1+i * (r.words+r.ptrs),r.words,r.ptrs,0,0,0⟩,0):=by
 unfold Z9
 rw [if_neg (by omega),if_neg (by omega),if_neg (by omega),if_pos h]
theorem Ycc {r:Zc} (h:2≤r.kind∧r.kind≤7) {i:Int} (hi:0≤i∧i < Zy r):Z9 A r i=(⟨some A,10,r.segment,r.at_,0,0,0,r.kind - 2,i⟩,0):=by
 unfold Z9
 rw [if_neg (by omega),if_neg (by omega),if_neg (by omega),if_neg (by omega)]
theorem Ybp (c:Int):((wid c:Nat):Int)=wdt c:=by
 unfold wid wdt
 repeat' split
 all_goals rfl
theorem Z7f (r:Zc):Zea r.code (Zyd A r)=true:=by
 unfold Zea Zyd
 rw [decide_eq_true_eq]
 split
 ·exact Int.pow_pos (by decide)
 unfold Z09
 have:(wdt r.code).toNat=wid r.code:=by rw [← Ybp,Int.toNat_natCast]
 rw [this]
 have h:=Nat.mod_lt ((wd A.segments r.segment (r.at_+r.index / each r.code)).toNat / 2 ^ (r.index % each r.code * wdt r.code).toNat) (Nat.pow_pos (n:=wid r.code) (show 0 < 2 by decide))
 have e:(2:Int) ^ wid r.code=((2 ^ wid r.code:Nat):Int):=by simp
 rw [e]
 omega
theorem Zvl {r:Zc} (hr:OKr A r) (h:r.kind=1):((Xf A r).length:Int)=r.words:=by
 unfold Xf
 rw [if_neg (by omega),if_pos h]
 cases hr with
 | z=>simp [r0] at h
 | st s a d p hd hp hin =>
  have:=inB_iff.1 hin
  simp only [List.length_take,List.length_drop]
  simp only [seg] at this ⊢
  omega
 | li k s a n hk=>simp only at h;omega
 | co=>simp at h
 | at_=>simp at h
def HF (A:Zl) (f:Zc→Int→Tr×Int×Int) (d:Nat):Prop:=∀ k left,OKr A k→k.kind≠10→0≤left→left≤65536→(f k left).2.2=0→0≤(f k left).2.1∧(f k left).2.1≤left∧(f k left).1.Kind=k.kind∧GG (f k left).1 d (left - (f k left).2.1)
theorem Z56 {κ:Int} (h:κ=1∨κ=8) {k:Tr} (hk:k.Kind≠10):okk κ k=true:=by
 unfold okk
 rw [if_neg (by omega)]
 have e1:(k.Kind != 10)=true:=bne_iff_ne.2 hk
 have e2:(κ != 9)=true:=bne_iff_ne.2 (by omega)
 rw [e1,e2]
 rfl
theorem Ybu {f:Zc→Int→Tr×Int×Int} {d:Nat} (hd:1≤d∧d≤64) (hf:HF A f (d - 1)) {r:Zc} (hr:OKr A r) (h1:r.kind=1) {left:Int} (h0:0≤left) (hb:1+r.words+r.ptrs+left≤65536) (h:(Z6 f (Z9 A r) r.ptrs.toNat 0 left []).2.2=0) :
  0≤(Z6 f (Z9 A r) r.ptrs.toNat 0 left []).2.1∧(Z6 f (Z9 A r) r.ptrs.toNat 0 left []).2.1≤left∧GG ⟨1,Xf A r,(Z6 f (Z9 A r) r.ptrs.toNat 0 left []).1⟩ d (1+r.words+r.ptrs+(left - (Z6 f (Z9 A r) r.ptrs.toNat 0 left []).2.1)):=by
 have hrg:0≤r.words∧r.words < 65536∧0≤r.ptrs∧r.ptrs < 65536:=by
  cases hr with
  | z=>simp [r0] at h1
  | st s a d p hd hp hin=>simp only;omega
  | li k s a n hk=>simp only at h1;omega
  | co=>simp at h1
  | at_=>simp at h1
 have hwl:=Zvl hr h1
 obtain ⟨a1,a2,ps,b1,b2,b3,b4⟩:=Zw1 (f:=f) (g:=Z9 A r) (Q:=fun t w=>GG t (d - 1) w∧okk 1 t=true) (e:=0) (M:=left) (n:=r.ptrs.toNat) (fun i l hi hl hM g0 e0=>by
  have hk:=Z5u (A:=A) (r:=r) (.inl h1) i
  obtain ⟨c1,c2,c3,c4⟩:=hf _ l (Jq hr i) hk hl (by omega) e0
  exact ⟨c1,c2,by rw [Int.add_zero];exact c4,Z56 (.inl rfl) (by rw [c3];exact hk)⟩) r.ptrs.toNat 0 left [] (by omega) h0 (Int.le_refl _) h
 refine ⟨a1,a2,?_⟩
 rw [List.nil_append] at b1
 rw [Int.zero_mul,Int.add_zero] at b4
 refine Z5s (t:=⟨1,Xf A r,_⟩) ⟨show (1:Int)≤1 by decide,show (1:Int)≤9 by decide⟩ hd (.inl ?_) ?_ (fun q=>absurd q (show ¬ (1:Int) < 1 by decide)) b1 b3 (b:=1+((Xf A r).length:Int)) (c:=1) rfl rfl ?_ (by omega)
 ·show (Z6 f (Z9 A r) r.ptrs.toNat 0 left []).1.length < 65536
  rw [b1,List.length_map,b2]
  omega
 ·show (Xf A r).length < 65536
  omega
 rw [b4,b2]
 omega
end
section
variable {A:Zl}
theorem Z94 (f:Zc→Int→Tr×Int×Int) (k:Zc) (left:Int):(stK A f k left).1.Kind=1:=rfl
theorem Yav (hw:WS A.segments):∀ d:Nat,d≤64→HF A (K8 A d) d:=fun d=>by
 induction d using Nat.strongRecOn with
 | ind d ih =>
  intro hd r left hr h10 h0 hl h
  have hP:∀ k,1≤k→k≤d→HF A (Yn A k d) (d - k):=fun k hk hkd=>by
   unfold Yn
   rw [if_pos hkd]
   exact ih _ (by omega) (by omega)
  have hwt:=Z30 hw hr
  have hkn:=Zfr hr
  have hkd:=Z2v hr
  rw [Zfy] at h ⊢
  unfold Zeh at h ⊢
  by_cases k0:r.kind=0
  ·rw [if_pos k0]
   refine ⟨h0,Int.le_refl _,rfl,?_⟩
   have e:Xf A r=[]:=by unfold Xf;rw [if_neg (by omega),if_neg (by omega)]
   simp only
   rw [e,k0,Int.sub_self]
   exact Yaw d
  rw [if_neg k0] at h ⊢
  by_cases hb:d < lvR r∨left < wtR r
  ·rw [if_pos hb] at h;simp at h
  rw [if_neg hb] at h ⊢
  have hlv:1≤lvR r:=by
   unfold lvR
   rw [if_neg k0]
   split <;> omega
  have hd1:1≤d∧d≤64:=by omega
  by_cases k1:r.kind=1
  ·-- a struct
   have ek:Zy r=r.ptrs:=by unfold Zy;rw [if_pos k1]
   have ew:wtR r=1+r.words+r.ptrs:=by unfold wtR;rw [if_neg k0,if_pos k1]
   have ef:J8 A (Yn A 1 d) (Yn A 2 d) r=Yn A 1 d:=by unfold J8;rw [if_neg (by omega),if_pos (.inl k1)]
   simp only at h ⊢
   rw [ek,ew,ef] at h ⊢
   obtain ⟨a1,a2,a3⟩:=Ybu hd1 (hP 1 (by omega) (by omega)) hr k1 (left:=left - (1+r.words+r.ptrs)) (by omega) (by omega) h
   refine ⟨a1,by omega,trivial,?_⟩
   rw [k1]
   have:left - (Z6 (Yn A 1 d) (Z9 A r) r.ptrs.toNat 0 (left - (1+r.words+r.ptrs)) []).2.1=1+r.words+r.ptrs+(left - (1+r.words+r.ptrs) - (Z6 (Yn A 1 d) (Z9 A r) r.ptrs.toNat 0 (left - (1+r.words+r.ptrs)) []).2.1):=by omega
   rw [this]
   exact a3
  -- a list
  have ewl:Xf A r=[]:=by unfold Xf;rw [if_neg h10,if_neg k1]
  have ek:Zy r=r.count:=by unfold Zy;rw [if_neg k1]
  rw [ek] at hkn
  simp only at h ⊢
  rw [ek] at h ⊢
  have hcw:r.count+1≤wtR r:=by
   cases hr with
   | z=>simp [r0] at k0
   | st=>simp at k1
   | li k s a n hk hn hin =>
    simp only [wtR] at *
    rw [if_neg (by omega),if_neg (by omega),if_neg (by omega)]
    omega
   | co s a d' p n hd' hp hn hwx hin =>
    have:n * (1+d'+p)=n+n * (d'+p):=by rw [Int.add_assoc,Int.mul_add,Int.mul_one]
    simp [wtR]
    omega
   | at_=>simp at h10
  -- what each kid adds
  have main:∀ e:Int,wtR r=1+e * r.count+(if r.kind=8 then r.count else 0)→(∀ (i:Nat) (l:Int),i < r.count.toNat→0≤l→l≤left - wtR r→(Z9 A r i).2=0→(J8 A (Yn A 1 d) (Yn A 2 d) r (Z9 A r i).1 l).2.2=0→0≤(J8 A (Yn A 1 d) (Yn A 2 d) r (Z9 A r i).1 l).2.1∧(J8 A (Yn A 1 d) (Yn A 2 d) r (Z9 A r i).1 l).2.1≤l∧(GG (J8 A (Yn A 1 d) (Yn A 2 d) r (Z9 A r i).1 l).1 (d - 1) (l - (J8 A (Yn A 1 d) (Yn A 2 d) r (Z9 A r i).1 l).2.1+e)∧okk r.kind (J8 A (Yn A 1 d) (Yn A 2 d) r (Z9 A r i).1 l).1=true)) →
    0≤(Z6 (J8 A (Yn A 1 d) (Yn A 2 d) r) (Z9 A r) r.count.toNat 0 (left - wtR r) []).2.1∧(Z6 (J8 A (Yn A 1 d) (Yn A 2 d) r) (Z9 A r) r.count.toNat 0 (left - wtR r) []).2.1≤left∧True∧GG ⟨r.kind,Xf A r,(Z6 (J8 A (Yn A 1 d) (Yn A 2 d) r) (Z9 A r) r.count.toNat 0 (left - wtR r) []).1⟩ d (left - (Z6 (J8 A (Yn A 1 d) (Yn A 2 d) r) (Z9 A r) r.count.toNat 0 (left - wtR r) []).2.1):=fun e he hQ=>by
   obtain ⟨a1,a2,ps,b1,b2,b3,b4⟩:=Zw1 (f:=J8 A (Yn A 1 d) (Yn A 2 d) r) (g:=Z9 A r) (Q:=fun t w=>GG t (d - 1) w∧okk r.kind t=true) (e:=e) (M:=left - wtR r) (n:=r.count.toNat) hQ r.count.toNat 0 (left - wtR r) [] (by omega) (by omega) (Int.le_refl _) h
   refine ⟨a1,by omega,trivial,?_⟩
   rw [List.nil_append] at b1
   rw [show ((r.count.toNat:Nat):Int)=r.count by omega] at b4
   have hc8:(if r.kind=8 then (1:Int) else 0)=if r.kind=1∨r.kind=8 then 1 else 0:=by
    by_cases k8:r.kind=8
    ·rw [if_pos k8,if_pos (.inr k8)]
    rw [if_neg k8,if_neg (by omega)]
   refine Z5s (t:=⟨r.kind,Xf A r,_⟩) (show 1≤r.kind∧r.kind≤9 by omega) hd1 (.inr ⟨k1,?_⟩) ?_ (fun _=>by simp only;rw [ewl];rfl) b1 b3 (b:=1) (c:=if r.kind=8 then 1 else 0) (by simp only;rw [if_neg k1]) hc8 ?_ (by omega)
   ·show (Z6 (J8 A (Yn A 1 d) (Yn A 2 d) r) (Z9 A r) r.count.toNat 0 (left - wtR r) []).1.length≤65536
    rw [b1,List.length_map,b2]
    omega
   ·show (Xf A r).length < 65536
    rw [ewl]
    decide
   rw [b4,b2,show ((r.count.toNat:Nat):Int)=r.count by omega]
   by_cases k8:r.kind=8
   ·rw [if_pos k8] at he ⊢
    rw [Int.one_mul]
    omega
   rw [if_neg k8] at he ⊢
   rw [Int.zero_mul]
   omega
  by_cases k9:r.kind=9
  ·have ef:J8 A (Yn A 1 d) (Yn A 2 d) r=stK A (Yn A 2 d):=by unfold J8;rw [if_pos k9]
   have ew:wtR r=1+r.count * (1+r.words+r.ptrs):=by unfold wtR;rw [if_neg k0,if_neg k1,if_pos k9]
   refine main (1+r.words+r.ptrs) (by rw [if_neg (by omega),ew,Int.mul_comm];omega) fun i l hi h0' hM g0 e0 => ?_
   rw [ef] at e0 ⊢
   have hks:=Z4o (A:=A) k9 (i:=(i:Int)) (by rw [ek];omega)
   have hko:=Jq hr (i:Int)
   have hl2:2≤d:=by
    have:lvR r=2:=by unfold lvR;rw [if_neg k0,if_pos ⟨k9,by omega⟩]
    omega
   have hfit:1+r.words+r.ptrs≤wtR r - 1:=by
    have hnn:0≤1+r.words+r.ptrs:=by
     cases hr with
     | z=>simp [r0] at k0
     | st=>simp at k1
     | li k s a n hk hn hin=>simp only at k9;omega
     | co s a d' p n hd' hp hn hwx hin=>simp only;omega
     | at_=>simp at h10
    have:1 * (1+r.words+r.ptrs)≤r.count * (1+r.words+r.ptrs):=Int.mul_le_mul_of_nonneg_right (by omega) hnn
    rw [ew]
    omega
   have e1:(Z9 A r (i:Int)).1.kind=1:=by rw [hks]
   have e2:(Z9 A r (i:Int)).1.words=r.words:=by rw [hks]
   have e3:(Z9 A r (i:Int)).1.ptrs=r.ptrs:=by rw [hks]
   obtain ⟨a1,a2,a3⟩:=Ybu (d:=d - 1) (by omega) (hP 2 (by omega) hl2) hko e1 (left:=l) h0' (by rw [e2,e3];omega) e0
   refine ⟨a1,a2,?_,?_⟩
   ·have ea:1+(Z9 A r (i:Int)).1.words+(Z9 A r (i:Int)).1.ptrs=1+r.words+r.ptrs:=by rw [e2,e3]
    rw [ea,Int.add_comm (1+r.words+r.ptrs)] at a3
    exact a3
   unfold okk
   rw [if_neg (by omega),Z94,k9]
   rfl
  by_cases k8:r.kind=8
  ·have ef:J8 A (Yn A 1 d) (Yn A 2 d) r=Yn A 1 d:=by unfold J8;rw [if_neg k9,if_pos (.inr k8)]
   have ew:wtR r=1+r.count:=by unfold wtR;rw [if_neg k0,if_neg k1,if_neg k9]
   refine main 0 (by rw [if_pos k8,ew,Int.zero_mul];omega) fun i l hi h0' hM g0 e0 => ?_
   rw [ef] at e0 ⊢
   have hk:=Z5u (A:=A) (r:=r) (.inr k8) i
   obtain ⟨c1,c2,c3,c4⟩:=hP 1 (by omega) (by omega) _ l (Jq hr i) hk h0' (by omega) e0
   exact ⟨c1,c2,by rw [Int.add_zero];exact c4,Z56 (.inr k8) (by rw [c3];exact hk)⟩
  have ef:J8 A (Yn A 1 d) (Yn A 2 d) r=Zhk A:=by unfold J8;rw [if_neg k9,if_neg (by omega)]
  have ew:wtR r=1+r.count:=by unfold wtR;rw [if_neg k0,if_neg k1,if_neg k9]
  refine main 1 (by rw [if_neg k8,ew,Int.one_mul];omega) fun i l hi h0' hM g0 e0 => ?_
  rw [ef] at e0 ⊢
  have hks:=Ycc (A:=A) (r:=r) (by omega) (i:=(i:Int)) (by rw [ek];omega)
  unfold Zhk
  simp only
  refine ⟨h0',Int.le_refl _,?_⟩
  have e1:(Z9 A r (i:Int)).1.kind=10:=by rw [hks]
  have e2:(Z9 A r (i:Int)).1.code=r.kind - 2:=by rw [hks]
  have ewk:Xf A (Z9 A r (i:Int)).1=[Zyd A (Z9 A r (i:Int)).1]:=by unfold Xf;rw [if_pos e1]
  rw [e1,ewk,Int.sub_self,Int.zero_add]
  refine ⟨Yca _ _,?_⟩
  unfold okk
  rw [if_pos (by omega)]
  have:=Z7f (A:=A) (Z9 A r (i:Int)).1
  rw [e2] at this
  simp only [List.headD_cons]
  rw [this]
  rfl
end
theorem Z6b:∀ (n:Nat) (t:Tr),SizeOf.sizeOf t < n→∀ d d',d≤d'→rt t d=true→rt t d'=true
 | 0,t,h,_,_,_,_=>by omega
 | n+1,t,hn,d,d',hd,h=>by
  rw [Zd1] at h ⊢
  by_cases h0:t.Kind=0
  ·rw [if_pos h0] at h ⊢
   exact h
  rw [if_neg h0] at h ⊢
  by_cases h10:t.Kind=10
  ·rw [if_pos h10] at h ⊢
   exact h
  rw [if_neg h10] at h ⊢
  by_cases hb:t.Kind < 0∨10 < t.Kind∨d=0∨65536≤t.Words.length∨(t.Kind=1∧65536≤t.Kids.length)∨1048576≤t.Kids.length∨(1 < t.Kind∧0 < t.Words.length)
  ·rw [if_pos hb] at h
   cases h
  rw [if_neg hb] at h
  rw [if_neg (by omega)]
  rw [List.all_eq_true] at h ⊢
  intro x hx
  have:=h x hx
  rw [Bool.and_eq_true] at this ⊢
  exact ⟨Z6b n x (by have:=Xt hx;omega) (d - 1) (d' - 1) (by omega) this.1,this.2⟩
theorem Zgs {α S R σ:Type} (xs:List α) (mk:S→Int→σ) (f:S→α→S) (out:S→R) (I:S→Prop) (step:σ→Option (σ ⊕ R)) (hl:(xs.length:Int)≤140737488355328)
  (h1:∀ (s:S) (i:Nat) (x:α),I s→i < xs.length→xs[i]? = some x→x∈xs→I (f s x)∧step (mk s (i:Int))=some (.inl (mk (f s x) (IntKind.i64.wrap ((i:Int)+1))))) (h2:∀ s,I s→step (mk s (xs.length:Int))=some (.inr (out s))) (s:S) (hs:I s):Zw step (mk s 0)=some (out (xs.foldl f s))∧I (xs.foldl f s):=by
 have key:∀ (ys:List α) (i:Nat) (s:S),I s→xs.drop i=ys→i≤xs.length→Zw step (mk s (i:Int))=some (out (ys.foldl f s))∧I (ys.foldl f s):=fun ys=>by
  induction ys with
  | nil =>
   intro i s hI h hi
   have:i=xs.length:=by
    have:=congrArg List.length h
    rw [List.length_drop,List.length_nil] at this
    omega
   subst this
   exact ⟨Y7 (h2 s hI),hI⟩
  | cons x ys ih =>
   intro i s hI h hi
   have hx:xs[i]? = some x:=by
    have:=congrArg (fun l=>l[0]?) h
    simpa using this
   have hi':i < xs.length:=by
    rcases Nat.lt_or_ge i xs.length with h' | h'
    ·exact h'
    rw [List.getElem?_eq_none h'] at hx;cases hx
   obtain ⟨hI',hs⟩:=h1 s i x hI hi' hx (List.mem_of_getElem? hx)
   have hd:xs.drop (i+1)=ys:=by
    have:=congrArg List.tail h
    rwa [List.tail_drop,List.tail_cons] at this
   have e1:(i:Int)+1=((i+1:Nat):Int):=by omega
   rw [Yg (by omega) (by omega),e1] at hs
   rw [X4 hs]
   exact ih (i+1) (f s x) hI' hd (by omega)
 exact key xs 0 s hs rfl (Nat.zero_le _)
def n0T:Tr:=⟨0,[],[]⟩
theorem Z2z {α β:Type} (xs:List α) (f:α→β) (step:Int×List β→Option ((Int×List β) ⊕ List β)) (acc:List β) (hl:(xs.length:Int)≤140737488355328)
  (h1:∀ (i:Nat) (x:α) (out:List β),i < xs.length→xs[i]? = some x→x∈xs→out.length=acc.length+i→step ((i:Int),out)=some (.inl (IntKind.i64.wrap ((i:Int)+1),out++[f x])))
  (h2:∀ out,step ((xs.length:Int),out)=some (.inr out)):Zw step (0,acc)=some (acc++xs.map f):=by
 have key:∀ m i,i+m=xs.length→Zw step ((i:Int),acc++(xs.take i).map f)=some (acc++xs.map f):=fun m=>by
  induction m with
  | zero =>
   intro i hi
   have hi':i=xs.length:=by omega
   subst hi'
   rw [List.take_length]
   exact Y7 (h2 _)
  | succ m ih =>
   intro i hi
   have hx:xs[i]? = some xs[i]:=List.getElem?_eq_getElem (by omega)
   have h:=h1 i _ (acc++(xs.take i).map f) (by omega) hx (List.mem_of_getElem? hx) (by rw [List.length_append,List.length_map,List.length_take];omega)
   rw [Yg (by omega) (by omega)] at h
   rw [X4 h]
   have e:acc++(xs.take i).map f++[f xs[i]]=acc++(xs.take (i+1)).map f:=by
    rw [List.take_add_one,hx,List.map_append,List.append_assoc]
    rfl
   rw [e]
   exact ih (i+1) (by omega)
 have:=key xs.length 0 (by omega)
 simpa using this
theorem Ybc {k:Int} {t:Tr} (h:okk k t=true):okk k (nrm t)=true:=by
 unfold okk at h ⊢
 rw [Zfz]
 split
 ·rename_i hk
  rw [if_pos hk,Bool.and_eq_true,beq_iff_eq] at h
  rw [Zhv (by omega) (by omega),h.1]
  simp only [BEq.rfl,Bool.true_and]
  exact h.2
 rename_i hk
 rw [if_neg hk] at h
 exact h
theorem Z9y:∀ (n:Nat) (t:Tr) (d:Nat),SizeOf.sizeOf t < n→rt t d=true→rt (nrm t) d=true
 | 0,_,_,h,_=>by omega
 | n+1,t,d,hn,h=>by
  have hk:=Zfz t
  by_cases h0:t.Kind=0
  ·rw [Zly h0,Zd1,if_pos rfl];rfl
  rw [Zd1,if_neg h0] at h
  by_cases h10:t.Kind=10
  ·rw [if_pos h10] at h
   rw [Zhv h0 (by omega),Zd1,if_neg h0,if_pos h10]
   simp only [List.length_map]
   exact h
  rw [if_neg h10] at h
  by_cases hc:t.Kind < 0∨10 < t.Kind∨d=0∨65536≤t.Words.length∨(t.Kind=1∧65536≤t.Kids.length)∨1048576≤t.Kids.length∨(1 < t.Kind∧0 < t.Words.length)
  ·rw [if_pos hc] at h;cases h
  rw [if_neg hc,List.all_eq_true] at h
  have hkid:∀ x∈t.Kids,(rt (nrm x) (d - 1) && okk t.Kind (nrm x))=true:=fun x hx=>by
   have:=h x hx
   rw [Bool.and_eq_true] at this ⊢
   exact ⟨Z9y n x (d - 1) (by have:=Xt hx;omega) this.1,Ybc this.2⟩
  by_cases h1:t.Kind=1
  ·obtain ⟨W,K,e1,lW,lK,mK⟩:∃ W K,nrm t=⟨1,W,K⟩∧W.length≤t.Words.length∧K.length≤t.Kids.length∧∀ x∈K,x∈t.Kids.map nrm :=
    ⟨_,_,Zb9 h1,Znq _ _,by have h:=Znq (fun x:Tr=>x.Kind == 0) (t.Kids.map nrm);rw [List.length_map] at h;exact h,fun x hx=>Zk4 hx⟩
   rw [e1,Zd1]
   simp only
   rw [if_neg (by decide),if_neg (by decide),if_neg (by omega),List.all_eq_true]
   intro x hx
   obtain ⟨y,hy,rfl⟩:=List.mem_map.1 (mK x hx)
   rw [← h1]
   exact hkid y hy
  rw [Zhv h0 h1,Zd1]
  simp only [List.length_map]
  rw [if_neg h0,if_neg h10,if_neg hc,List.all_eq_true]
  intro x hx
  obtain ⟨y,hy,rfl⟩:=List.mem_map.1 hx
  exact hkid y hy
theorem rtN {t:Tr} {d:Nat} (h:rt t d=true):rt (nrm t) d=true:=Z9y _ t d (Nat.lt_succ_self _) h
def atD {α:Type} (z:α) (l:List α) (i:Nat):α:=(l[i]?).getD z
def p0 (x:Int):Bool:=x == 0
def pT (x:Tr):Bool:=x.Kind == 0
instance decTr:DecidableEq Tr:=fun a b=>decidable_of_iff (eqT a b=true) eqT_iff
def NT (t:Tr):Prop:=nrm t=t
theorem NT.of (t:Tr):NT (nrm t):=Zs6 t
theorem NT.z:NT n0T:=Zly rfl
theorem NT.kids {t:Tr} (h:NT t):∀ k∈t.Kids,NT k:=fun k hk=>by
 unfold NT at h
 rw [← h] at hk
 by_cases h0:t.Kind=0
 ·rw [Zly h0] at hk;cases hk
 by_cases h1:t.Kind=1
 ·rw [Zb9 h1] at hk
  obtain ⟨y,_,rfl⟩:=List.mem_map.1 (Zk4 hk)
  exact NT.of y
 rw [Zhv h0 h1] at hk
 obtain ⟨y,_,rfl⟩:=List.mem_map.1 hk
 exact NT.of y
theorem NT.map {l:List Tr} (h:∀ k∈l,NT k):l.map nrm=l:=by
 conv=>rhs;rw [← List.map_id l]
 exact List.map_congr_left fun x hx=>h x hx
theorem NT.words {t:Tr} (h:NT t) (h1:t.Kind=1):tr p0 t.Words=t.Words∧tr pT t.Kids=t.Kids:=by
 have hk:=NT.map h.kids
 unfold NT at h
 rw [Zb9 h1] at h
 have hw:=congrArg Za.Words h
 have hk2:=congrArg Za.Kids h
 simp only at hw hk2
 rw [hk] at hk2
 exact ⟨hw,hk2⟩
theorem NT.st {ws:List Int} {ks:List Tr} (h:∀ k∈ks,NT k):NT ⟨1,tr p0 ws,tr pT ks⟩:=by
 unfold NT
 rw [Zb9 rfl]
 simp only
 rw [NT.map (l:=tr pT ks) fun k hk=>h k (Zk4 hk)]
 congr 1
 ·exact Z0a ws
 exact Z0a ks
theorem NT.li {k:Int} {ks:List Tr} (h0:¬ k=0) (h1:¬ k=1) (h:∀ k∈ks,NT k):NT ⟨k,[],ks⟩:=by
 unfold NT
 rw [Zhv h0 h1]
 simp only
 rw [NT.map h]
inductive Rg:Tr→Prop
 | mk (t:Tr) (h3:∀ w∈t.Words,0≤w∧w < 18446744073709551616) (h4:∀ k∈t.Kids,Rg k):Rg t
theorem Rg.u {t:Tr} (h:Rg t):∀ w∈t.Words,0≤w∧w < 18446744073709551616:=by cases h;assumption
theorem Rg.all {t:Tr} (h:Rg t):∀ k∈t.Kids,Rg k:=by cases h;assumption
theorem Rg.z:Rg n0T := .mk _ (by simp [n0T]) (by simp [n0T])
theorem Rg.of:∀ (n:Nat) (t:Tr),SizeOf.sizeOf t < n→Bd t→Rg t
 | 0,_,h,_=>by omega
 | n+1,t,hn,h => .mk _ h.u fun k hk=>Rg.of n k (by have:=Xt hk;omega) (h.all k hk)
theorem Bd.rg {t:Tr} (h:Bd t):Rg t:=Rg.of _ t (Nat.lt_succ_self _) h
inductive TX:Tr→Prop
 | mk (t:Tr) (h1:2≤t.Kind∧t.Kind≤9→t.Words=[]) (h9:t.Kind=9→∀ k∈t.Kids,k.Kind=1) (ih:∀ k∈t.Kids,TX k):TX t
theorem TX.w {t:Tr} (h:TX t):2≤t.Kind∧t.Kind≤9→t.Words=[]:=by cases h;assumption
theorem TX.s {t:Tr} (h:TX t):t.Kind=9→∀ k∈t.Kids,k.Kind=1:=by cases h;assumption
theorem TX.all {t:Tr} (h:TX t):∀ k∈t.Kids,TX k:=by cases h;assumption
theorem TX.z:TX n0T := .mk _ (fun _=>rfl) (fun h=>by simp [n0T] at h) (by simp [n0T])
theorem TX.nn:∀ (n:Nat) (t:Tr),SizeOf.sizeOf t < n→TX t→TX (nrm t)
 | 0,_,h,_=>by omega
 | n+1,t,hn,h=>by
  by_cases h0:t.Kind=0
  ·rw [Zly h0];exact TX.z
  by_cases h1:t.Kind=1
  ·rw [Zb9 h1]
   refine .mk _ (fun h=>by simp only at h;omega) (fun h=>by simp only at h;omega) fun k hk => ?_
   obtain ⟨y,hy,rfl⟩:=List.mem_map.1 (Zk4 hk)
   exact TX.nn n y (by have:=Xt hy;omega) (h.all y hy)
  rw [Zhv h0 h1]
  refine .mk _ h.w (fun h9 k hk => ?_) fun k hk => ?_
  ·obtain ⟨y,hy,rfl⟩:=List.mem_map.1 hk
   rw [Zfz];exact h.s h9 y hy
  obtain ⟨y,hy,rfl⟩:=List.mem_map.1 hk
  exact TX.nn n y (by have:=Xt hy;omega) (h.all y hy)
theorem TX.n {t:Tr} (h:TX t):TX (nrm t):=TX.nn _ t (Nat.lt_succ_self _) h
theorem Z5m {α:Type} {z:α} {l:List α} {i:Nat}:atD z l i∈l∨atD z l i=z:=by
 unfold atD
 cases h:l[i]? with
 | none=>exact .inr rfl
 | some x=>exact .inl (List.mem_of_getElem? h)
theorem Z0l {l:List Tr} {Q:Tr→Prop} (h:∀ x∈l,Q x) (hz:Q n0T) (i:Nat):Q (atD n0T l i):=by
 rcases Z5m (z:=n0T) (l:=l) (i:=i) with q | q
 ·exact h _ q
 rw [q];exact hz
theorem Yb5 {l:List Int} (h:∀ x∈l,0≤x∧x < 18446744073709551616) (i:Nat):0≤atD 0 l i∧atD 0 l i < 18446744073709551616:=by
 rcases Z5m (z:=(0:Int)) (l:=l) (i:=i) with q | q
 ·exact h _ q
 rw [q];omega
structure GT (t:Tr):Prop where
 n:NT t
 g:Rg t
 x:TX t
theorem GT.z:GT n0T:=⟨NT.z,Rg.z,TX.z⟩
theorem GT.all {t:Tr} (h:GT t):∀ k∈t.Kids,GT k:=fun k hk=>⟨h.n.kids k hk,h.g.all k hk,h.x.all k hk⟩
theorem GT.at_ {t:Tr} (h:GT t) (i:Nat):GT (atD n0T t.Kids i):=⟨Z0l h.n.kids NT.z i,Z0l h.g.all Rg.z i,Z0l h.x.all TX.z i⟩
theorem GT.of {t:Tr} (hb:Bd t) (hx:TX t):GT (nrm t):=⟨NT.of t,hb.nrm.rg,hx.n⟩
def Yff {α:Type} (f:α→α→Option α):Option α→Option α→Option α
 | some x,some y=>f x y
 | some x,none=>some x
 | none,y=>y
def Rise {α:Type} (pl:α→Int) (l:List α):Prop:=l.Pairwise (fun a b=>pl a < pl b)∧∀ x∈l,0≤pl x
theorem Rise.tail {α:Type} {pl:α→Int} {x:α} {l:List α} (h:Rise pl (x::l)):Rise pl l:=⟨(List.pairwise_cons.1 h.1).2,fun y hy=>h.2 y (.tail _ hy)⟩
theorem GT.w {t:Tr} (h:GT t) (j:Nat):0≤atD 0 t.Words j∧atD 0 t.Words j < 18446744073709551616:=Yb5 h.g.u j
theorem w_l (a b:Int):IntKind.i64.wrap (IntKind.i64.wrap a+b)=IntKind.i64.wrap (a+b):=by rw [IntKind.wrap_i64 a,IntKind.wrap_i64,IntKind.wrap_i64];omega
theorem w_r (a b:Int):IntKind.i64.wrap (a+IntKind.i64.wrap b)=IntKind.i64.wrap (a+b):=by rw [IntKind.wrap_i64 b,IntKind.wrap_i64,IntKind.wrap_i64];omega
theorem w_w (a:Int):IntKind.i64.wrap (IntKind.i64.wrap a)=IntKind.i64.wrap a:=by rw [IntKind.wrap_i64 a,IntKind.wrap_i64];omega
theorem Yab (a b:Int):IntKind.i64.wrap (IntKind.i64.wrap a+IntKind.i64.wrap b)=IntKind.i64.wrap (a+b):=by rw [w_l,w_r]
theorem Zje {α:Type} (g:α→Int):∀ (l:List α) (s:Int),l.foldl (fun s x=>s+g x) s=s+(l.map g).sum
 | [],s=>by simp
 | x::l,s=>by rw [List.foldl_cons,Zje g l,List.map_cons,List.sum_cons];omega
def frS (s:Int×Int) (x:Tr):Int×Int:=(if s.1 < (x.Words.length:Int) then (x.Words.length:Int) else s.1,if s.2 < (x.Kids.length:Int) then (x.Kids.length:Int) else s.2)
def fr (l:List Tr):Int×Int:=l.foldl frS (0,0)
theorem Zwt {t:Tr} (hl:(t.Kids.length:Int)≤140737488355328):Zb8 t=some (fr t.Kids):=by
 unfold Zb8
 rw [(Zgs t.Kids (fun (s:Int×Int) (i:Int)=>(s.1,s.2,i)) frS id (fun _=>True) (Zci t) hl (fun s i x _ hi hx hm=>⟨trivial,by
  unfold Zci
  simp only
  rw [Zee hi,cond_true,Y3 hx,Option.bind_some]
  rfl⟩) (fun s _=>by
  unfold Zci
  simp only
  rw [Zd4,cond_false]
  rfl) (0,0) trivial).1,Option.bind_some]
 rfl
theorem Zy3 {t:Tr} (hl:(t.Kids.length:Int)≤140737488355328):V5 t=some (fr t.Kids):=by
 unfold V5
 rw [(Zgs t.Kids (fun (s:Int×Int) (i:Int)=>(s.1,s.2,i)) frS id (fun _=>True) (Vy t) hl (fun s i x _ hi hx hm=>⟨trivial,by
  unfold Vy frS
  simp only
  rw [Zee hi,cond_true,Y3 hx,Option.bind_some]
  by_cases h1:s.1 < (x.Words.length:Int) <;> by_cases h2:s.2 < (x.Kids.length:Int) <;> simp [h1,h2]⟩) (fun s _=>by
  unfold Vy
  simp only
  rw [Zd4,cond_false]
  rfl) (0,0) trivial).1,Option.bind_some]
 rfl
def h9 (l:List Tr):Int:=IntKind.i64.wrap (1+IntKind.i64.wrap ((l.length:Int) * IntKind.i64.wrap ((fr l).1+(fr l).2)))
def Zo1 (c:Int) (n:Nat):Int:=((n * wid c+63) / 64:Nat)
def sz (t:Tr):Int :=
 if t.Kind=1 then ((t.Words.length:Int)+(t.Kids.length:Int))+(t.Kids.attach.map fun k=>sz k.1).sum
 else if 2≤t.Kind∧t.Kind≤7 then Zo1 (t.Kind - 2) t.Kids.length
 else if t.Kind=8 then (t.Kids.length:Int)+(t.Kids.attach.map fun k=>sz k.1).sum
 else if t.Kind=9 then h9 t.Kids+(t.Kids.attach.map fun k=>(k.1.Kids.attach.map fun j=>sz j.1).sum).sum
 else 0
termination_by SizeOf.sizeOf t
decreasing_by
 ·exact Xt k.2
 ·exact Xt k.2
 exact Nat.lt_trans (Xt j.2) (Xt k.2)
theorem Zo3 (t:Tr):sz t=if t.Kind=1 then ((t.Words.length:Int)+(t.Kids.length:Int))+(t.Kids.map sz).sum
 else if 2≤t.Kind∧t.Kind≤7 then Zo1 (t.Kind - 2) t.Kids.length
 else if t.Kind=8 then (t.Kids.length:Int)+(t.Kids.map sz).sum
 else if t.Kind=9 then h9 t.Kids+(t.Kids.map fun k=>(k.Kids.map sz).sum).sum
 else 0:=by
 rw [sz]
 have h1:(t.Kids.attach.map fun k=>(k.1.Kids.attach.map fun j=>sz j.1).sum)=t.Kids.map fun k=>(k.Kids.map sz).sum:=by
  have:(fun (k:{ x // x∈t.Kids })=>(k.1.Kids.attach.map fun j=>sz j.1).sum)=fun (k:{ x // x∈t.Kids })=>(fun k:Tr=>(k.Kids.map sz).sum) k.1:=funext fun k=>congrArg List.sum (List.attach_map_val (f:=sz))
  rw [this]
  exact List.attach_map_val (f:=fun k:Tr=>(k.Kids.map sz).sum)
 rw [h1]
 simp only [List.attach_map_val]
theorem c5' {c:Int} (h:0≤c∧c≤5):c=0∨c=1∨c=2∨c=3∨c=4∨c=5:=by omega
theorem Z6c {c:Int} (h:0≤c∧c≤5):Xl c=some ((wid c:Nat):Int):=by
 unfold Xl
 rcases c5' h with rfl | rfl | rfl | rfl | rfl | rfl <;> rfl
theorem Z3l {c:Int} (h:0≤c∧c≤5) {n:Nat} (hn:n≤1099511627776):Um c (n:Int)=some (((n * wid c+63) / 64:Nat):Int):=by
 unfold Um
 rw [Z6c h,Option.bind_some]
 have key:∀ (w p:Nat),(1≤w∧w≤64)→w * p=64→Int.tdiv 64 (w:Int)=(p:Int)→(cond (cond (cond (decide ((w:Int) < 1)) true (decide ((n:Int) < 0))) true (decide ((1099511627776:Int) < (n:Int)))) (some 0) ((some ((w:Nat):Int)).bind fun y5=>(Xj (y5≠0)).bind fun u6=>(Xj ((IntKind.i64.wrap (Int.tdiv 64 y5))≠0)).bind fun u8=>cond (decide (0 < (Int.tmod (n:Int) (IntKind.i64.wrap (Int.tdiv 64 y5))))) ((Xj ((IntKind.i64.wrap (Int.tdiv 64 y5))≠0)).bind fun u10=>some (IntKind.i64.wrap ((IntKind.i64.wrap (Int.tdiv (n:Int) (IntKind.i64.wrap (Int.tdiv 64 y5))))+1))) ((Xj ((IntKind.i64.wrap (Int.tdiv 64 y5))≠0)).bind fun u12=>some (IntKind.i64.wrap (Int.tdiv (n:Int) (IntKind.i64.wrap (Int.tdiv 64 y5)))))))=some (((n * w+63) / 64:Nat):Int):=fun w p hw hp ht=>by
  have hp1:1≤p∧p≤64:=by
   rcases Nat.eq_zero_or_pos p with q | q
   ·rw [q] at hp;omega
   exact ⟨q,by have:=Nat.mul_le_mul_right p hw.1;omega⟩
  have hd:n / p≤n:=Nat.div_le_self _ _
  have hm:p * (n / p)+n % p=n:=Nat.div_add_mod n p
  have hml:n % p < p:=Nat.mod_lt _ hp1.1
  have ed:(n:Int) / (p:Int)=((n / p:Nat):Int):=rfl
  have em:(n:Int) % (p:Int)=((n % p:Nat):Int):=rfl
  have enw:n * w=64 * (n / p)+n % p * w:=by
   have:n * w=(p * (n / p)+n % p) * w:=by rw [hm]
   rw [this,Nat.add_mul,Nat.mul_comm p,Nat.mul_assoc,Nat.mul_comm p,hp,Nat.mul_comm (n / p)]
  rw [show decide ((w:Int) < 1)=false from by rw [decide_eq_false_iff_not];omega,cond_false,show decide ((n:Int) < 0)=false from by rw [decide_eq_false_iff_not];omega,cond_false,show decide ((1099511627776:Int) < (n:Int))=false from by rw [decide_eq_false_iff_not];omega,cond_false,Option.bind_some,ht,Yg (x:=(p:Int)) (by omega) (by omega),Vd (by omega),Option.bind_some,Vd (by omega),Option.bind_some,Int.tmod_eq_emod_of_nonneg (by omega),Int.tdiv_eq_ediv_of_nonneg (by omega),ed,em,Yg (x:=((n / p:Nat):Int)) (by omega) (by omega),Yg (x:=((n / p:Nat):Int)+1) (by omega) (by omega)]
  by_cases q:0 < n % p
  ·have h1:1 * w≤n % p * w:=Nat.mul_le_mul_right _ q
   have h2:(n % p+1) * w≤p * w:=Nat.mul_le_mul_right _ hml
   rw [Nat.mul_comm p,hp,Nat.add_mul,Nat.one_mul] at h2
   rw [show decide ((0:Int) < ((n % p:Nat):Int))=true from by rw [decide_eq_true_eq];omega,cond_true,Option.bind_some]
   congr 1
   generalize n % p * w=z at *
   omega
  have h0:n % p=0:=by omega
  rw [h0,Nat.zero_mul] at enw
  rw [show decide ((0:Int) < ((n % p:Nat):Int))=false from by rw [decide_eq_false_iff_not];omega,cond_false,Option.bind_some]
  congr 1
  omega
 rcases c5' h with rfl | rfl | rfl | rfl | rfl | rfl
 ·rw [show decide (((wid 0:Nat):Int) < 1)=true from rfl,cond_true,cond_true,cond_true,show wid 0=0 from rfl,Nat.mul_zero]
  rfl
 ·exact key 1 64 (by decide) rfl rfl
 ·exact key 8 8 (by decide) rfl rfl
 ·exact key 16 4 (by decide) rfl rfl
 ·exact key 32 2 (by decide) rfl rfl
 exact key 64 1 (by decide) rfl rfl
theorem Z3z {c:Int} (h:0≤c∧c≤5) {n:Nat} (hn:n≤1048576):Ze5 c (n:Int)=some (Zo1 c n):=by
 have hw:Jh c=some (((wid c:Nat):Int),true):=by
  unfold Jh
  rcases c5' h with rfl | rfl | rfl | rfl | rfl | rfl <;> rfl
 have hb:wid c≤64:=by rcases c5' h with rfl | rfl | rfl | rfl | rfl | rfl <;> decide
 have hm:n * wid c≤1048576 * 64:=Nat.mul_le_mul hn hb
 unfold Ze5 Zo1
 rw [hw,Option.bind_some]
 simp only
 rw [Bool.not_true,cond_false,decide_eq_false (by omega),cond_false,decide_eq_false (by omega),cond_false,← Int.natCast_mul]
 generalize n * wid c=m at hm ⊢
 rw [Yg (x:=(m:Int)) (by omega) (by omega),Yg (x:=(m:Int)+63) (by omega) (by omega),Int.tdiv_eq_ediv_of_nonneg (by omega),Yg (by omega) (by omega)]
 congr 1
theorem Zka {t:Tr} {d:Nat} (h:rt t d=true):0≤t.Kind∧t.Kind≤10∧t.Kids.length < 1048576∧(t.Kind=0∨t.Kind=10→t.Kids=[])∧∀ k∈t.Kids,rt k (d - 1)=true:=by
 rw [Zd1] at h
 by_cases h0:t.Kind=0
 ·rw [if_pos h0,Bool.and_eq_true,beq_iff_eq,beq_iff_eq] at h
  have:=List.length_eq_zero_iff.1 h.2
  rw [this]
  exact ⟨by omega,by omega,by simp,fun _=>rfl,fun k hk=>by cases hk⟩
 by_cases h1:t.Kind=10
 ·rw [if_neg h0,if_pos h1,Bool.and_eq_true,beq_iff_eq,beq_iff_eq] at h
  have:=List.length_eq_zero_iff.1 h.2
  rw [this]
  exact ⟨by omega,by omega,by simp,fun _=>rfl,fun k hk=>by cases hk⟩
 rw [if_neg h0,if_neg h1] at h
 by_cases hb:t.Kind < 0∨10 < t.Kind∨d=0∨65536≤t.Words.length∨(t.Kind=1∧65536≤t.Kids.length)∨1048576≤t.Kids.length∨(1 < t.Kind∧0 < t.Words.length)
 ·rw [if_pos hb] at h;cases h
 rw [if_neg hb,List.all_eq_true] at h
 refine ⟨by omega,by omega,by omega,fun q=>by omega,fun k hk => ?_⟩
 have:=h k hk
 rw [Bool.and_eq_true] at this
 exact this.1
theorem Z46 {k:Nat} (l:List Tr) (hl:(l.length:Int)≤140737488355328) (h:∀ x∈l,(Xg k).1 x=some (IntKind.i64.wrap (sz x))):Zw (Zaj (Xg k).1 l) (0,0)=some (IntKind.i64.wrap (l.map sz).sum):=by
 have:=(Zgs l (fun (s:Int) (i:Int)=>(IntKind.i64.wrap s,i)) (fun s x=>s+sz x) (fun s=>IntKind.i64.wrap s) (fun _=>True) (Zaj (Xg k).1 l) hl (fun s i x _ hi hx hm=>⟨trivial,by
  unfold Zaj
  simp only
  rw [Zee hi,cond_true,Y3 hx,Option.bind_some,h x hm,Option.bind_some,Yab]⟩) (fun s _=>by
  unfold Zaj
  simp only
  rw [Zd4,cond_false]) 0 trivial).1
 rw [Zje,Int.zero_add] at this
 exact this
theorem Z6f:∀ (k:Nat),(∀ (t:Tr) (d:Nat),rt t d=true→2 * SizeOf.sizeOf t < k→(Xg k).1 t=some (IntKind.i64.wrap (sz t))) ∧
  (∀ l:List Tr,0 < k→(l.length:Int)≤140737488355328→(∀ x∈l,(∃ d,rt x d=true)∧2 * SizeOf.sizeOf x+1 < k)→(Xg k).2 l=some (IntKind.i64.wrap (l.map sz).sum))
 | 0=>⟨fun _ _ _ h=>by omega,fun _ h=>by omega⟩
 | k+1=>by
  obtain ⟨i1,i2⟩:=Z6f k
  refine ⟨fun t d hr hk => ?_,fun l _ hl h => ?_⟩
  ·obtain ⟨r1,r2,r3,r4,r5⟩:=Zka hr
   have s0:0 < SizeOf.sizeOf t:=by
    obtain ⟨a,b,c⟩:=t
    simp only [Za.mk.sizeOf_spec]
    omega
   have k0:0 < k:=by omega
   have hs:∀ x∈t.Kids,(∃ d,rt x d=true)∧2 * SizeOf.sizeOf x+1 < k:=fun x hx=>⟨⟨_,r5 x hx⟩,by have:=Xt hx;omega⟩
   have hk9:∀ y∈t.Kids,(Xg k).2 y.Kids=some (IntKind.i64.wrap (y.Kids.map sz).sum):=fun y hy =>
    i2 _ k0 (by have:=(Zka (r5 y hy)).2.2.1;omega) fun x hx=>⟨⟨_,(Zka (r5 y hy)).2.2.2.2 x hx⟩,by have:=Xt hx;have:=Xt hy;omega⟩
   show Zhm (Xg k).1 (Xg k).2 t=_
   unfold Zhm Zkq
   rw [Zo3]
   by_cases h1:t.Kind=1
   ·rw [if_pos h1,show (t.Kind == 1)=true from by rw [h1];rfl,cond_true,i2 _ k0 (by omega) hs,Option.bind_some,Yab]
   rw [if_neg h1,beq_eq_false_iff_ne.2 h1,cond_false,Option.bind_some]
   by_cases h2:2≤t.Kind∧t.Kind≤7
   ·rw [if_pos h2,decide_eq_true h2.1,cond_true,decide_eq_true h2.2,cond_true,Yg (by omega) (by omega),Z3z (by omega) (by omega),Option.bind_some]
    have:IntKind.i64.wrap (Zo1 (t.Kind - 2) t.Kids.length)=Zo1 (t.Kind - 2) t.Kids.length:=by
     have hb:wid (t.Kind - 2)≤64:=by rcases c5' (c:=t.Kind - 2) (by omega) with q | q | q | q | q | q <;> rw [q] <;> decide
     have hm:t.Kids.length * wid (t.Kind - 2)≤1048576 * 64:=Nat.mul_le_mul (by omega) hb
     unfold Zo1
     rw [Yg (by omega) (by omega)]
    rw [this]
   rw [if_neg h2]
   have hc:cond (decide (2≤t.Kind)) (decide (t.Kind≤7)) false=false:=by
    rw [Zd9,Bool.and_eq_false_iff,decide_eq_false_iff_not,decide_eq_false_iff_not];omega
   rw [hc,cond_false]
   by_cases h8:t.Kind=8
   ·rw [if_pos h8,show (t.Kind == 8)=true from by rw [h8];rfl,cond_true,i2 _ k0 (by omega) hs,Option.bind_some,w_r]
   rw [if_neg h8,beq_eq_false_iff_ne.2 h8,cond_false]
   by_cases h9':t.Kind=9
   ·rw [if_pos h9',show (t.Kind == 9)=true from by rw [h9'];rfl,cond_true,Zwt (by omega),Option.bind_some]
    have:=(Zgs t.Kids (fun (s:Int) (i:Int)=>(IntKind.i64.wrap s,i)) (fun s x=>s+(x.Kids.map sz).sum) (fun s=>IntKind.i64.wrap s) (fun _=>True) (Zbh (Xg k).2 t) (by omega) (fun s i x _ hi hx hm=>⟨trivial,by
     unfold Zbh
     simp only
     rw [Zee hi,cond_true,Y3 hx,Option.bind_some,hk9 x hm,Option.bind_some,Yab]⟩) (fun s _=>by
     unfold Zbh
     simp only
     rw [Zd4,cond_false]) (h9 t.Kids) trivial).1
    rw [Zje,show IntKind.i64.wrap (h9 t.Kids)=h9 t.Kids from w_w _] at this
    show (Zw (Zbh (Xg k).2 t) (h9 t.Kids,0)).bind _=_
    rw [this,Option.bind_some]
   rw [if_neg h9',beq_eq_false_iff_ne.2 h9',cond_false]
   rfl
  show Zfm (Xg k).1 (Xg k).2 l=_
  unfold Zfm
  rw [Z46 l hl (fun x hx=>by obtain ⟨⟨d,hd⟩,hh⟩:=h x hx;exact i1 x d hd (by omega)),Option.bind_some]
theorem Ybi {t:Tr} {d:Nat} (h:rt t d=true):Zoi t=some (IntKind.i64.wrap (sz t)):=Zh8 (2 * SizeOf.sizeOf t+1) fun k hk=>(Z6f k).1 t d h (by omega)
theorem Yak {t:Tr} {d:Nat} (hb:Bd t) (h:rt t d=true):Zhs t=some (IntKind.i64.wrap (sz (nrm t))):=by
 unfold Zhs
 rw [Z08 hb,Option.bind_some,Ybi (rtN h),Option.bind_some]
theorem Zxs:∀ (k:Nat) (t:Tr) (d:Nat),rt t d=true→SizeOf.sizeOf t < k→Xk k t=some (IntKind.i64.wrap (sz t))
 | 0,_,_,_,h=>by omega
 | k+1,t,d,hr,hk=>by
  obtain ⟨r1,r2,r3,r4,r5⟩:=Zka hr
  have ih:∀ x∈t.Kids,Xk k x=some (IntKind.i64.wrap (sz x)):=fun x hx=>Zxs k x _ (r5 x hx) (by have:=Xt hx;omega)
  have ih2:∀ y∈t.Kids,∀ x∈y.Kids,Xk k x=some (IntKind.i64.wrap (sz x)):=fun y hy x hx=>Zxs k x _ ((Zka (r5 y hy)).2.2.2.2 x hx) (by have:=Xt hx;have:=Xt hy;omega)
  have lp:∀ s:Int,Zw (Ko (Xk k) t) (IntKind.i64.wrap s,0)=some (IntKind.i64.wrap (s+(t.Kids.map sz).sum)):=fun s=>by
   have:=(Zgs t.Kids (fun (s:Int) (i:Int)=>(IntKind.i64.wrap s,i)) (fun s x=>s+sz x) (fun s=>IntKind.i64.wrap s) (fun _=>True) (Ko (Xk k) t) (by omega) (fun s i x _ hi hx hm=>⟨trivial,by
    unfold Ko
    simp only
    rw [Zee hi,cond_true,Y3 hx,Option.bind_some,ih x hm,Option.bind_some,Yab]⟩) (fun s _=>by
    unfold Ko
    simp only
    rw [Zd4,cond_false]) s trivial).1
   rw [Zje] at this
   exact this
  show Zas (Xk k) t=_
  unfold Zas
  rw [Zo3]
  by_cases h1:t.Kind=1
  ·rw [if_pos h1,show (t.Kind == 1)=true from by rw [h1];rfl,cond_true,Option.bind_some]
   simp only
   rw [lp,Option.bind_some]
  rw [if_neg h1,beq_eq_false_iff_ne.2 h1,cond_false]
  by_cases h8:t.Kind=8
  ·rw [if_neg (by omega),if_pos h8,show (t.Kind == 8)=true from by rw [h8];rfl,cond_true,Option.bind_some]
   simp only
   have:=lp (t.Kids.length:Int)
   rw [Yg (x:=(t.Kids.length:Int)) (by omega) (by omega)] at this
   rw [this,Option.bind_some]
  rw [beq_eq_false_iff_ne.2 h8,cond_false]
  have hc:(cond (t.Kind == 2) (some (t.Kind == 2)) (cond (t.Kind == 3) (some (t.Kind == 3)) (cond (t.Kind == 4) (some (t.Kind == 4)) (cond (t.Kind == 5) (some (t.Kind == 5)) (cond (t.Kind == 6) (some (t.Kind == 6)) (some (t.Kind == 7)))))))=some (decide (2≤t.Kind∧t.Kind≤7)):=by
   by_cases h2:2≤t.Kind∧t.Kind≤7
   ·rcases (show t.Kind=2∨t.Kind=3∨t.Kind=4∨t.Kind=5∨t.Kind=6∨t.Kind=7 by omega) with q | q | q | q | q | q <;> rw [q] <;> rfl
   rw [decide_eq_false h2,beq_eq_false_iff_ne.2 (by omega:¬ t.Kind=2),beq_eq_false_iff_ne.2 (by omega:¬ t.Kind=3),beq_eq_false_iff_ne.2 (by omega:¬ t.Kind=4),beq_eq_false_iff_ne.2 (by omega:¬ t.Kind=5),beq_eq_false_iff_ne.2 (by omega:¬ t.Kind=6),beq_eq_false_iff_ne.2 (by omega:¬ t.Kind=7)]
   rfl
  rw [hc,Option.bind_some]
  by_cases h2:2≤t.Kind∧t.Kind≤7
  ·have hb:wid (t.Kind - 2)≤64:=by rcases c5' (c:=t.Kind - 2) (by omega) with q | q | q | q | q | q <;> rw [q] <;> decide
   have hm:t.Kids.length * wid (t.Kind - 2)≤1048576 * 64:=Nat.mul_le_mul (by omega) hb
   rw [decide_eq_true h2,cond_true,if_pos h2,Yg (x:=t.Kind - 2) (by omega) (by omega),Z3l (by omega) (by omega),Option.bind_some,Option.bind_some]
   unfold Zo1
   rw [Yg (by omega) (by omega)]
  rw [decide_eq_false h2,cond_false,if_neg h2,if_neg h8]
  by_cases h9':t.Kind=9
  ·rw [if_pos h9',show (t.Kind == 9)=true from by rw [h9'];rfl,cond_true,Zy3 (by omega),Option.bind_some]
   have:=(Zgs t.Kids (fun (s:Int) (i:Int)=>(IntKind.i64.wrap s,i)) (fun s x=>s+(x.Kids.map sz).sum) (fun s=>IntKind.i64.wrap s) (fun _=>True) (Uf (Xk k) t) (by omega) (fun s i x _ hi hx hm=>⟨trivial,by
    have hxl:=(Zka (r5 x hm)).2.2.1
    have inner:=(Zgs x.Kids (fun (s:Int) (i:Int)=>(IntKind.i64.wrap s,i)) (fun s x=>s+sz x) (fun s=>IntKind.i64.wrap s) (fun _=>True) (Ug (Xk k) t (IntKind.i64.wrap s,(i:Int))) (by omega) (fun s j y _ hj hy hmy=>⟨trivial,by
     unfold Ug
     simp only
     rw [Y3 hx,Option.bind_some,Zee hj,cond_true,Option.bind_some,Y3 hy,Option.bind_some,ih2 x hm y hmy,Option.bind_some,Yab]⟩) (fun s _=>by
     unfold Ug
     simp only
     rw [Y3 hx,Option.bind_some,Zd4,cond_false]) s trivial).1
    rw [Zje] at inner
    unfold Uf
    simp only
    rw [Zee hi,cond_true,inner,Option.bind_some]⟩) (fun s _=>by
    unfold Uf
    simp only
    rw [Zd4,cond_false]) (h9 t.Kids) trivial).1
   rw [Zje,show IntKind.i64.wrap (h9 t.Kids)=h9 t.Kids from w_w _] at this
   have h9e:IntKind.i64.wrap (1+IntKind.i64.wrap ((t.Kids.length:Int) * IntKind.i64.wrap ((fr t.Kids).1+(fr t.Kids).2)))=h9 t.Kids:=rfl
   rw [h9e,this,Option.bind_some,Option.bind_some]
  rw [if_neg h9',beq_eq_false_iff_ne.2 h9',cond_false,Option.bind_some]
  simp only
  have:=lp 0
  rw [show IntKind.i64.wrap 0=0 from rfl,r4 (by omega)] at this
  rw [this,Option.bind_some]
  rfl
theorem Z9x {t:Tr} {d:Nat} (h:rt t d=true):Zc8 t=some (IntKind.i64.wrap (sz t)):=Zh8 (SizeOf.sizeOf t+1) fun k hk=>Zxs k t d h (by omega)
def Zf8 {α σ:Type} (f:σ→Nat→α→σ):σ→Nat→List α→σ
 | s,_,[]=>s
 | s,i,x::xs=>Zf8 f (f s i x) (i+1) xs
theorem Zjt {α σ S R:Type} (xs:List α) (pack:Int→σ→S) (out:σ→R) (step:S→Option (S ⊕ R)) (f:σ→Nat→α→σ) (I:Nat→σ→Prop) (hl:(xs.length:Int)≤140737488355328)
  (h1:∀ (i:Nat) (s:σ) (x:α),i < xs.length→xs[i]? = some x→x∈xs→I i s→step (pack i s)=some (.inl (pack (IntKind.i64.wrap ((i:Int)+1)) (f s i x)))∧I (i+1) (f s i x))
  (h2:∀ s,I xs.length s→step (pack xs.length s)=some (.inr (out s))) (s:σ) (h0:I 0 s):Zw step (pack 0 s)=some (out (Zf8 f s 0 xs))∧I xs.length (Zf8 f s 0 xs):=by
 have key:∀ (l pre:List α) (s:σ),xs=pre++l→I pre.length s→Zw step (pack (pre.length:Nat) s)=some (out (Zf8 f s pre.length l))∧I xs.length (Zf8 f s pre.length l):=fun l=>by
  induction l with
  | nil =>
   intro pre s hp hi
   rw [List.append_nil] at hp
   subst hp
   exact ⟨Y7 (h2 s hi),hi⟩
  | cons x l ih =>
   intro pre s hp hI
   have hx:xs[pre.length]? = some x:=by rw [hp,List.getElem?_append_right (Nat.le_refl _),Nat.sub_self];rfl
   have hi:pre.length < xs.length:=by rw [hp];simp
   obtain ⟨a,b⟩:=h1 pre.length s x hi hx (List.mem_of_getElem? hx) hI
   rw [Yg (by omega) (by omega)] at a
   have:=ih (pre++[x]) (f s pre.length x) (by rw [hp];simp) (by rw [List.length_append,List.length_singleton];exact b)
   rw [List.length_append,List.length_singleton] at this
   exact ⟨(X4 a).trans this.1,this.2⟩
 exact key xs [] s rfl h0
theorem Zof:∀ l m:List Int,(l++m).sum=l.sum+m.sum
 | [],m=>by simp
 | x::l,m=>by simp only [List.cons_append,List.sum_cons,Zof l m];omega
theorem Zog:∀ l:List Int,(∀ x∈l,0≤x)→0≤l.sum
 | [],_=>by simp
 | x::l,h=>by
  have:=Zog l fun y hy=>h y (.tail _ hy)
  have:=h x (.head _)
  simp only [List.sum_cons]
  omega
theorem Z3q {α:Type} {f:α→Int} {xs:List α} {i:Nat} {x:α} (hx:xs[i]? = some x) (h:∀ x∈xs,0≤f x):((xs.take (i+1)).map f).sum=((xs.take i).map f).sum+f x∧((xs.take i).map f).sum+f x≤(xs.map f).sum:=by
 have e:((xs.take (i+1)).map f).sum=((xs.take i).map f).sum+f x:=by
  rw [List.take_add_one,hx,List.map_append,Zof]
  simp
 refine ⟨e,?_⟩
 have e2:(xs.map f).sum=((xs.take (i+1)).map f).sum+((xs.drop (i+1)).map f).sum:=by
  rw [← Zof,← List.map_append,List.take_append_drop]
 have:=Zog ((xs.drop (i+1)).map f) fun y hy=>by
  obtain ⟨z,hz,rfl⟩:=List.mem_map.1 hy
  exact h z (List.mem_of_mem_drop hz)
 omega
theorem Zkr {α:Type} {f:α→Int} {xs:List α} (h:∀ x∈xs,0≤f x):0≤(xs.map f).sum:=Zog _ fun y hy=>by
 obtain ⟨z,hz,rfl⟩:=List.mem_map.1 hy
 exact h z hz
theorem Ycy {off data ptrs:Int} (a:-536870912≤off) (b:off < 536870912) (c:0≤data) (d:data < 65536) (e:0≤ptrs) (f:ptrs < 65536) (g:¬ (off=0∧data=0∧ptrs=0)) :
  Ua (⟨1,off,data,ptrs,0,0,0,false⟩:Zx)=some (off % 1073741824 * 4+data * 4294967296+ptrs * 281474976710656,true):=by
 have hd:Zii ((off % 1073741824).toNat * 4+data.toNat * 4294967296+ptrs.toNat * 281474976710656)=⟨1,off,data,ptrs,0,0,0,false⟩:=by
  generalize hw:(off % 1073741824).toNat * 4+data.toNat * 4294967296+ptrs.toNat * 281474976710656=w
  have h1:¬ w=0:=by omega
  have h2:w % 4=0:=by omega
  unfold Zii
  rw [if_neg h1,if_pos h2]
  unfold Zrn
  simp only [Zx.mk.injEq,true_and,and_true]
  refine ⟨?_,by omega,by omega⟩
  split <;> omega
 have:=Zwr ((off % 1073741824).toNat * 4+data.toNat * 4294967296+ptrs.toNat * 281474976710656) (by omega) (by rw [hd];show ¬ (1:Int)=4;decide)
 rw [hd] at this
 rw [this]
 congr 2
 omega
theorem Ycx {off code count:Int} (a:-536870912≤off) (b:off < 536870912) (c:0≤code) (d:code < 8) (e:0≤count) (f:count < 536870912) :
  Ua (⟨2,off,0,0,code,count,0,false⟩:Zx)=some (off % 1073741824 * 4+1+code * 4294967296+count * 34359738368,true):=by
 have hd:Zii ((off % 1073741824).toNat * 4+1+code.toNat * 4294967296+count.toNat * 34359738368)=⟨2,off,0,0,code,count,0,false⟩:=by
  generalize hw:(off % 1073741824).toNat * 4+1+code.toNat * 4294967296+count.toNat * 34359738368=w
  have h1:¬ w=0:=by omega
  have h2:¬ w % 4=0:=by omega
  have h3:w % 4=1:=by omega
  unfold Zii
  rw [if_neg h1,if_neg h2,if_pos h3]
  unfold Zrn
  simp only [Zx.mk.injEq,true_and,and_true]
  refine ⟨?_,by omega,by omega⟩
  split <;> omega
 have:=Zwr ((off % 1073741824).toNat * 4+1+code.toNat * 4294967296+count.toNat * 34359738368) (by omega) (by rw [hd];show ¬ (2:Int)=4;decide)
 rw [hd] at this
 rw [this]
 congr 2
 omega
theorem Zfg {x:Int} (h0:0≤x) (h1:x < 18446744073709551616):IntKind.u64.wrap x=x:=IntWalk.u64_in _ (by omega)
theorem Zto {a t k u:Int} (a0:0≤a) (a1:a≤1048576) (t0:0≤t) (t1:t≤1048576) (k0:0≤k) (k1:k≤1) (u0:0≤u) (u1:u < 4294967296) :
  Qa a t k u=some ((t - a - 1) % 1073741824 * 4+k+u * 4294967296):=by
 unfold Qa
 rw [Yg (x:=t - a) (by omega) (by omega),Yg (x:=t - a - 1) (by omega) (by omega)]
 by_cases h:t - a - 1 < 0
 ·rw [decide_eq_true h,cond_true,Yg (by omega) (by omega),Option.bind_some,Yg (x:=4 * _) (by omega) (by omega),Yg (by omega) (by omega),Zfg (x:=u * _) (by omega) (by omega),Zfg (x:=_+k) (by omega) (by omega),Zfg (by omega) (by omega)]
  congr 1
  omega
 rw [decide_eq_false h,cond_false,Option.bind_some,Yg (x:=4 * _) (by omega) (by omega),Yg (by omega) (by omega),Zfg (x:=u * _) (by omega) (by omega),Zfg (x:=_+k) (by omega) (by omega),Zfg (by omega) (by omega)]
 congr 1
 omega
def Ztl (w:Nat) (out:List Int) (i:Nat) (n:Int):List Int:=Kc out ((i * w / 64:Nat):Int) (out[i * w / 64]?.getD 0+n * 2 ^ (i * w % 64))
def Z7j (w N:Nat) (i:Nat) (out:List Int):Prop:=out.length=(N * w+63) / 64∧∀ (q:Nat) (v:Int),out[q]? = some v→0≤v∧v < 2 ^ min 64 (i * w - q * 64)
theorem Z9k {s w:Nat} {v n:Int} (h0:0≤v) (h1:v < 2 ^ s) (n0:0≤n) (n1:n < 2 ^ w):0≤v+n * 2 ^ s∧v+n * 2 ^ s < 2 ^ (s+w)∧0≤n * 2 ^ s:=by
 have p:(0:Int) < 2 ^ s:=Int.pow_pos (by decide)
 have a:=Int.mul_nonneg n0 (Int.le_of_lt p)
 have b:(n+1) * 2 ^ s≤2 ^ w * 2 ^ s:=Int.mul_le_mul_of_nonneg_right (by omega) (Int.le_of_lt p)
 rw [Int.add_mul,Int.one_mul,Int.mul_comm (2 ^ w),← Int.pow_add] at b
 exact ⟨by omega,by omega,a⟩
theorem Zxl {a b:Nat} (h:a≤b):(2:Int) ^ a≤2 ^ b:=by
 have:=Nat.pow_le_pow_right (n:=2) (by decide) h
 exact_mod_cast this
theorem Z9o {w N i:Nat} {out:List Int} {n:Int} (hw:0 < w) (hs:i * w % 64+w≤64) (hi:i < N) (hI:Z7j w N i out) (n0:0≤n) (n1:n < 2 ^ w) :
  ∃ v:Int,out[i * w / 64]? = some v∧0≤v∧v < 2 ^ (i * w % 64)∧v+n * 2 ^ (i * w % 64) < 18446744073709551616∧0≤n * 2 ^ (i * w % 64)∧Z7j w N (i+1) (Ztl w out i n):=by
 obtain ⟨hl,hv⟩:=hI
 have hm:i * w+w≤N * w:=by
  have:=Nat.mul_le_mul_right w (show i+1≤N by omega)
  rwa [Nat.add_mul,Nat.one_mul] at this
 have hq:i * w / 64 < out.length:=by rw [hl];omega
 have hx:out[i * w / 64]? = some out[i * w / 64]:=List.getElem?_eq_getElem hq
 obtain ⟨v0,v1⟩:=hv _ _ hx
 have e:min 64 (i * w - i * w / 64 * 64)=i * w % 64:=by omega
 rw [e] at v1
 obtain ⟨a,b,c⟩:=Z9k v0 v1 n0 n1
 have d:=Zxl hs
 refine ⟨_,hx,v0,v1,by omega,c,by unfold Ztl;rw [Ke,hl],fun q u hu => ?_⟩
 unfold Ztl Kc at hu
 rw [Int.toNat_natCast,hx,Option.getD_some,List.getElem?_set] at hu
 have e1:(i+1) * w=i * w+w:=by rw [Nat.add_mul,Nat.one_mul]
 by_cases h:i * w / 64=q
 ·rw [if_pos h,if_pos hq] at hu
  cases hu
  subst h
  refine ⟨a,?_⟩
  have:min 64 ((i+1) * w - i * w / 64 * 64)=i * w % 64+w:=by rw [e1];omega
  rw [this]
  exact b
 rw [if_neg h] at hu
 obtain ⟨u0,u1⟩:=hv _ _ hu
 refine ⟨u0,Int.lt_of_lt_of_le u1 (Zxl ?_)⟩
 rw [e1]
 omega
theorem Z9n (w N:Nat):Z7j w N 0 (List.replicate ((N * w+63) / 64) 0):=by
 refine ⟨List.length_replicate,fun q v h => ?_⟩
 have:=List.mem_of_getElem? h
 rw [List.mem_replicate] at this
 rw [this.2]
 exact ⟨by decide,Int.pow_pos (by decide)⟩
def Zxm (c:Int) (ns:List Int):List Int:=if c=0 then [] else Zf8 (Ztl (wid c)) (List.replicate ((ns.length * wid c+63) / 64) 0) 0 ns
theorem Z74 {w each:Nat} (hw:0 < w) (hw2:w≤64) (he:0 < each) (he2:each≤64) (hE:IntKind.i64.wrap (Int.tdiv 64 (w:Int))=(each:Int)) (hq:∀ i:Nat,i / each=i * w / 64) (hr:∀ i:Nat,i % each * w=i * w % 64) (hs:∀ i:Nat,i * w % 64+w≤64)
  {ns:List Int} (hn:ns.length≤1048576) (hf:∀ n∈ns,0≤n∧n < 2 ^ w) :
  Zw (Za6 ns ((w:Int),true)) (0,List.replicate ((ns.length * w+63) / 64) 0)=some (Zf8 (Ztl w) (List.replicate ((ns.length * w+63) / 64) 0) 0 ns)∧Z7j w ns.length ns.length (Zf8 (Ztl w) (List.replicate ((ns.length * w+63) / 64) 0) 0 ns) :=
 Zjt ns (fun i s=>(i,s)) (fun s=>s) (Za6 ns ((w:Int),true)) (Ztl w) (Z7j w ns.length) (by omega) (fun i s n hi hx hm hI=>by
  obtain ⟨n0,n1⟩:=hf n hm
  obtain ⟨v,hv,v0,v1,v2,v3,v4⟩:=Z9o hw (hs i) hi hI n0 n1
  refine ⟨?_,v4⟩
  unfold Za6
  simp only
  have e1:IntKind.i64.wrap (Int.tdiv (i:Int) (each:Int))=((i * w / 64:Nat):Int):=by
   have hb:=Nat.mul_le_mul_left i hw2
   rw [Int.tdiv_eq_ediv_of_nonneg (by omega),← Int.natCast_ediv,hq i,Yg (by omega) (by omega)]
  have e2:IntKind.i64.wrap (Int.tmod (i:Int) (each:Int) * (w:Int))=((i * w % 64:Nat):Int):=by
   rw [Int.tmod_eq_emod_of_nonneg (by omega),← Int.natCast_emod,← Int.natCast_mul,hr i,Yg (by omega) (by omega)]
  have e3:min (Int.toNat ((i * w % 64:Nat):Int)) 64=i * w % 64:=by omega
  have e4:IntKind.u64.wrap (n * 2 ^ (i * w % 64))=n * 2 ^ (i * w % 64):=Zfg v3 (by omega)
  have e5:IntKind.u64.wrap (Zdb .u64 v (n * 2 ^ (i * w % 64)))=v+n * 2 ^ (i * w % 64):=by
   obtain ⟨a,rfl⟩:=Int.eq_ofNat_of_zero_le v0
   obtain ⟨b,rfl⟩:=Int.eq_ofNat_of_zero_le n0
   have f:((b:Nat):Int) * 2 ^ (i * w % 64)=((b * 2 ^ (i * w % 64):Nat):Int):=by simp
   have f1:a < 2 ^ (i * w % 64):=by exact_mod_cast v1
   rw [f] at v2 v3 ⊢
   rw [Zm9 _ _ (by omega) (by omega),Zoy _ _ _ f1,Int.natCast_add]
  rw [Zee hi,cond_true,Y3 hx,Option.bind_some,hE,Vd (by omega),Option.bind_some,e1,Y3 hv,Option.bind_some,Option.bind_some,e2,Vd (by omega),Option.bind_some,e3,e4,e5]
  unfold Ztl
  rw [hv]
  rfl) (fun s _=>by
  unfold Za6
  simp only
  rw [Zd4,cond_false]) _ (Z9n w ns.length)
theorem Z5f {c:Int} {ns:List Int} (h:0≤c∧c≤5) (hn:ns.length≤1048576) (hf:∀ n∈ns,0≤n∧Zea c n=true):Zw (Zcv c ns) (true,0)=some true :=
 (Zjt ns (fun i s=>(s,i)) (fun s=>s) (Zcv c ns) (fun s _ _=>s) (fun _ s=>s=true) (by omega) (fun i s n hi hx hm hI=>by
  subst hI
  refine ⟨?_,rfl⟩
  unfold Zcv
  simp only
  rw [Zee hi,cond_true,Y3 hx,Option.bind_some,cond_true,Z3w h.1 h.2 (hf n hm).1,Option.bind_some,(hf n hm).2]
  rfl) (fun s _=>by
  unfold Zcv
  simp only
  rw [Zd4,cond_false]) true rfl).1.trans (by
  have:∀ (l:List Int) (k:Nat),Zf8 (fun (s:Bool) (_:Nat) (_:Int)=>s) true k l=true:=fun l=>by
   induction l with
   | nil=>intro k;rfl
   | cons x l ih=>intro k;exact ih (k+1)
  rw [this])
theorem Z6l {c:Int} (h:0≤c∧c≤5) {ns:List Int} (hn:ns.length≤1048576) (hf:∀ n∈ns,0≤n∧Zea c n=true):Zgu c ns=some (Zxm c ns,true)∧(Zxm c ns).length=(ns.length * wid c+63) / 64:=by
 have hw:Jh c=some (((wid c:Nat):Int),true):=by
  unfold Jh
  rcases c5' h with rfl | rfl | rfl | rfl | rfl | rfl <;> rfl
 have hb:wid c≤64:=by rcases c5' h with rfl | rfl | rfl | rfl | rfl | rfl <;> decide
 have hm:ns.length * wid c≤1048576 * 64:=Nat.mul_le_mul hn hb
 have hf':∀ n∈ns,0≤n∧n < 2 ^ wid c:=fun n hn=>⟨(hf n hn).1,by have:=(hf n hn).2;unfold Zea at this;exact of_decide_eq_true this⟩
 unfold Zgu Zxm
 rw [hw,Option.bind_some]
 simp only
 rw [Z5f h hn hf,Option.bind_some,Bool.not_true,cond_false,Z3z h hn,Option.bind_some]
 unfold Zo1
 rw [Zoj (by omega) (by omega) (by omega),Option.bind_some,Int.toNat_natCast]
 have key:∀ w each:Nat,wid c=w→0 < w→0 < each→each≤64→IntKind.i64.wrap (Int.tdiv 64 (w:Int))=(each:Int)→(∀ i:Nat,i / each=i * w / 64)→(∀ i:Nat,i % each * w=i * w % 64)→(∀ i:Nat,i * w % 64+w≤64)→¬ c=0 →
   (cond (((wid c:Nat):Int) == 0) (some (List.replicate ((ns.length * wid c+63) / 64) (0:Int),true)) ((Xj (((wid c:Nat):Int)≠0)).bind fun u14=>(Zw (Za6 ns (((wid c:Nat):Int),true)) (0,List.replicate ((ns.length * wid c+63) / 64) 0)).bind fun (z24:(List Int))=>some (z24,true)))=some ((if c=0 then [] else Zf8 (Ztl (wid c)) (List.replicate ((ns.length * wid c+63) / 64) 0) 0 ns),true)∧(if c=0 then [] else Zf8 (Ztl (wid c)) (List.replicate ((ns.length * wid c+63) / 64) 0) 0 ns).length=(ns.length * wid c+63) / 64:=by
  intro w each ew a1 a2 a3 a4 a5 a6 a7 a8
  have:=Z74 a1 (by omega) a2 a3 a4 a5 a6 a7 hn (by rw [← ew];exact hf')
  rw [ew,if_neg a8,X2 (by omega),cond_false,Vd (by omega),Option.bind_some,this.1,Option.bind_some]
  exact ⟨rfl,this.2.1⟩
 rcases c5' h with rfl | rfl | rfl | rfl | rfl | rfl
 ·exact ⟨by simp [wid],by simp [wid]⟩
 ·exact key 1 64 rfl (by decide) (by decide) (by decide) rfl (fun i=>by omega) (fun i=>by omega) (fun i=>by omega) (by decide)
 ·exact key 8 8 rfl (by decide) (by decide) (by decide) rfl (fun i=>by omega) (fun i=>by omega) (fun i=>by omega) (by decide)
 ·exact key 16 4 rfl (by decide) (by decide) (by decide) rfl (fun i=>by omega) (fun i=>by omega) (fun i=>by omega) (by decide)
 ·exact key 32 2 rfl (by decide) (by decide) (by decide) rfl (fun i=>by omega) (fun i=>by omega) (fun i=>by omega) (by decide)
 exact key 64 1 rfl (by decide) (by decide) (by decide) rfl (fun i=>by omega) (fun i=>by omega) (fun i=>by omega) (by decide)
theorem Z2c {y2:Int} {s0:Int×List Int} {s:Nat} {n:Int} (hs:s < 64) (he:Int.tmod (IntKind.i64.wrap (s0.1 * y2)) 64=(s:Int)) (n0:0≤n) (hb:n * 2 ^ s < 18446744073709551616):Zw (Zbc y2 s0) (n,0)=some (n * 2 ^ s):=by
 refine Zso (fun st=>∃ j:Nat,j≤s∧st=(n * 2 ^ j,(j:Int))) (fun st=>s - st.2.toNat) ?_ _ ⟨0,by omega,by simp⟩
 rintro st ⟨j,hj,rfl⟩
 unfold Zbc
 simp only
 rw [he]
 by_cases h:j < s
 ·left
  have p:n * 2 ^ (j+1)≤n * 2 ^ s:=Int.mul_le_mul_of_nonneg_left (Zxl (by omega)) n0
  have q:n * 2 ^ j * 2=n * 2 ^ (j+1):=by rw [Int.pow_succ,Int.mul_assoc]
  have r:0≤n * 2 ^ (j+1):=Int.mul_nonneg n0 (Int.le_of_lt (Int.pow_pos (by decide)))
  refine ⟨(n * 2 ^ (j+1),((j+1:Nat):Int)),?_,⟨j+1,by omega,rfl⟩,by simp only;omega⟩
  rw [decide_eq_true (by omega),cond_true,q,Zfg r (by omega),Yg (by omega) (by omega)]
  rfl
 right
 obtain rfl:j=s:=by omega
 rw [decide_eq_false (by omega),cond_false]
theorem Z7l {c:Int} {w:Nat} (h:0≤c∧c≤5) (ew:wid c=w) (hw:0 < w) (hw2:w≤64) (hs:∀ i:Nat,i * w % 64+w≤64)
  {ns:List Int} (hn:ns.length≤1048576) (hu:∀ n∈ns,0≤n∧n < 18446744073709551616∧Zea c n=true) :
  Zw (Xe c ns (w:Int)) (0,List.replicate ((ns.length * w+63) / 64) 0)=some (.inr (Zf8 (Ztl w) (List.replicate ((ns.length * w+63) / 64) 0) 0 ns)) :=
 (Zjt ns (fun i s=>(i,s)) (fun s => .inr s) (Xe c ns (w:Int)) (Ztl w) (Z7j w ns.length) (by omega) (fun i s n hi hx hm hI=>by
  obtain ⟨n0,n1,n2⟩:=hu n hm
  have n3:n < 2 ^ w:=by unfold Zea at n2;rw [← ew];exact of_decide_eq_true n2
  obtain ⟨v,hv,v0,v1,v2,v3,v4⟩:=Z9o hw (hs i) hi hI n0 n3
  refine ⟨?_,v4⟩
  unfold Xe
  simp only
  have hb:=Nat.mul_le_mul_left i hw2
  have e1:IntKind.i64.wrap ((i:Int) * (w:Int))=((i * w:Nat):Int):=by
   rw [← Int.natCast_mul,Yg (by omega) (by omega)]
  have e2:IntKind.i64.wrap (Int.tdiv ((i * w:Nat):Int) 64)=((i * w / 64:Nat):Int):=by
   rw [Int.tdiv_eq_ediv_of_nonneg (by omega),Yg (by omega) (by omega)]
   omega
  have e3:Int.tmod (IntKind.i64.wrap ((i:Int) * (w:Int))) 64=((i * w % 64:Nat):Int):=by
   rw [e1,Int.tmod_eq_emod_of_nonneg (by omega)]
   omega
  have e4:=Z2c (y2:=(w:Int)) (s0:=((i:Int),s)) (by omega) e3 n0 (by omega)
  rw [Zee hi,cond_true,Y3 hx,Option.bind_some,Zxr h.1 h.2 n0 n1,Option.bind_some,n2,Bool.not_true,cond_false,e4,Option.bind_some,decide_eq_true (by omega),cond_true,e1,e2,Y3 hv,Option.bind_some,Option.bind_some,Zfg (by omega) v2]
  unfold Ztl
  rw [hv]
  rfl) (fun s _=>by
  unfold Xe
  simp only
  rw [Zd4,cond_false]) _ (Z9n w ns.length)).1
theorem Z45 {ns:List Int} (hn:ns.length≤1048576) (hu:∀ n∈ns,0≤n∧n < 18446744073709551616∧Zea 0 n=true) (l0:List Int):Zw (Xe 0 ns ((0:Nat):Int)) (0,l0)=some (.inr l0):=by
 have:=(Zjt ns (fun i s=>(i,s)) (fun s => .inr s) (Xe 0 ns ((0:Nat):Int)) (fun s _ _=>s) (fun _ s=>s=l0) (by omega) (fun i s n hi hx hm hI=>by
  obtain ⟨n0,n1,n2⟩:=hu n hm
  refine ⟨?_,hI⟩
  unfold Xe
  simp only
  have e3:Int.tmod (IntKind.i64.wrap ((i:Int) * ((0:Nat):Int))) 64=((0:Nat):Int):=by
   rw [Int.natCast_zero,Int.mul_zero]
   rfl
  have e4:=Z2c (y2:=((0:Nat):Int)) (s0:=((i:Int),s)) (by omega) e3 n0 (by omega)
  rw [Zee hi,cond_true,Y3 hx,Option.bind_some,Zxr (by decide) (by decide) n0 n1,Option.bind_some,n2,Bool.not_true,cond_false,e4,Option.bind_some,decide_eq_false (by decide),cond_false,Option.bind_some]) (fun s _=>by
  unfold Xe
  simp only
  rw [Zd4,cond_false]) l0 rfl)
 rw [this.1,this.2]
theorem Z9w {c:Int} (h:0≤c∧c≤5) {ns:List Int} (hn:ns.length≤1048576) (hu:∀ n∈ns,0≤n∧n < 18446744073709551616∧Zea c n=true):Zbo c ns=some (Zxm c ns,true):=by
 have hb:wid c≤64:=by rcases c5' h with rfl | rfl | rfl | rfl | rfl | rfl <;> decide
 have hm:ns.length * wid c≤1048576 * 64:=Nat.mul_le_mul hn hb
 unfold Zbo Zxm
 rw [Z6c h,Option.bind_some,decide_eq_false (by omega),cond_false,Z3l h (by omega),Option.bind_some,Zoj (by omega) (by omega) (by omega),Option.bind_some,Int.toNat_natCast]
 have key:∀ w:Nat,wid c=w→0 < w→(∀ i:Nat,i * w % 64+w≤64)→¬ c=0→((Zw (Xe c ns ((wid c:Nat):Int)) (0,List.replicate ((ns.length * wid c+63) / 64) 0)).bind fun (z20:(Unit ⊕ (List Int)))=>match z20 with | .inl z20=>some (([]:(List Int)),false) | .inr z20=>some (z20,true))=some ((if c=0 then [] else Zf8 (Ztl (wid c)) (List.replicate ((ns.length * wid c+63) / 64) 0) 0 ns),true):=by
  intro w ew a1 a2 a3
  rw [if_neg a3,ew,Z7l h ew a1 (by omega) a2 hn hu]
  rfl
 rcases c5' h with rfl | rfl | rfl | rfl | rfl | rfl
 ·rw [show wid 0=0 from rfl,Z45 hn hu,Nat.mul_zero,if_pos rfl]
  rfl
 ·exact key 1 rfl (by decide) (fun i=>by omega) (by decide)
 ·exact key 8 rfl (by decide) (fun i=>by omega) (by decide)
 ·exact key 16 rfl (by decide) (fun i=>by omega) (by decide)
 ·exact key 32 rfl (by decide) (fun i=>by omega) (by decide)
 exact key 64 rfl (by decide) (fun i=>by omega) (by decide)
def ato (t:Tr):List Int:=t.Kids.map fun k=>k.Words.headD 0
theorem Zwb (t:Tr):(ato t).length=t.Kids.length:=by unfold ato;rw [List.length_map]
theorem Z4v {t:Tr} (hk:2≤t.Kind∧t.Kind≤7) (hn:t.Kids.length≤1048576) (ha:∀ k∈t.Kids,∃ w,k.Words=[w]∧0≤w∧Zea (t.Kind - 2) w=true):Zch t=some (Zxm (t.Kind - 2) (ato t)):=by
 have l0:=Z2z t.Kids (fun k=>k.Words.headD 0) (Gu t) [] (by omega) (fun i x out hi hx hm ho=>by
  obtain ⟨w,hw,_⟩:=ha x hm
  have e:Zht x 0=some w:=by
   unfold Zht
   rw [hw]
   rfl
  unfold Gu
  simp only [List.length_nil] at ho ⊢
  rw [Zee hi,cond_true,Y3 hx,Option.bind_some,e,Option.bind_some,Zba (by simp only [List.length_singleton];omega) (by simp only [List.length_singleton];omega),Option.bind_some,hw]
  rfl) (fun out=>by
  unfold Gu
  simp only
  rw [Zd4,cond_false])
 unfold Zch
 rw [l0,Option.bind_some,Yg (by omega) (by omega)]
 have:Zgu (t.Kind - 2) (ato t)=some (Zxm (t.Kind - 2) (ato t),true):=(Z6l (by omega) (by rw [Zwb];omega) (fun n hn=>by
  obtain ⟨k,hk,rfl⟩:=List.mem_map.1 hn
  obtain ⟨w,hw,h0,h1⟩:=ha k hk
  rw [hw]
  exact ⟨h0,h1⟩)).1
 unfold ato at this
 rw [List.nil_append,this]
 rfl
theorem Z8e {t:Tr} (hn:t.Kids.length≤1048576) (ha:∀ k∈t.Kids,∃ w,k.Words=[w]∧0≤w∧Zea (t.Kind - 2) w=true):Gx t=some (ato t):=by
 have l0:=Z2z t.Kids (fun k=>k.Words.headD 0) (Vz t) [] (by omega) (fun i x out hi hx hm ho=>by
  obtain ⟨w,hw,_⟩:=ha x hm
  have e:Y9 x.Words 0=some w:=by rw [hw];rfl
  unfold Vz
  simp only [List.length_nil] at ho ⊢
  rw [Zee hi,cond_true,Y3 hx,Option.bind_some,e,Option.bind_some,Zba (by simp only [List.length_singleton];omega) (by simp only [List.length_singleton];omega),Option.bind_some,hw]
  rfl) (fun out=>by
  unfold Vz
  simp only
  rw [Zd4,cond_false])
 unfold Gx
 rw [l0,Option.bind_some,List.nil_append]
 rfl
theorem Z24 {α:Type} {f:α→Nat} {x:α}:∀ {l:List α},x∈l→f x≤(l.map f).sum
 | [],h=>by cases h
 | y::l,h=>by
  simp only [List.map_cons,List.sum_cons]
  rcases List.mem_cons.1 h with rfl | h
  ·omega
  have:=Z24 (f:=f) h;omega
theorem Z23 {α:Type} {f:α→Nat}:∀ {l:List α},(∀ x∈l,1≤f x)→l.length≤(l.map f).sum
 | [],_=>by simp
 | y::l,h=>by
  have:=Z23 fun x hx=>h x (.tail _ hx)
  have:=h y (.head _)
  simp only [List.map_cons,List.sum_cons,List.length_cons]
  omega
theorem Z55 {α β:Type} {f:α→Nat} {g:β→Nat} (p:α→β):∀ {l:List α},(∀ x∈l,g (p x)≤f x)→((l.map p).map g).sum≤(l.map f).sum
 | [],_=>by simp
 | y::l,h=>by
  have:=Z55 p fun x hx=>h x (.tail _ hx)
  have:=h y (.head _)
  simp only [List.map_cons,List.sum_cons]
  omega
theorem Z6h {α:Type} {p:α→Bool} {f:α→Nat}:∀ l:List α,((tr p l).map f).sum≤(l.map f).sum
 | []=>by simp [tr]
 | x::l=>by
  have:=Z6h (p:=p) (f:=f) l
  by_cases h:tr p l=[]
  ·rw [Zvy h]
   split <;> simp
  rw [Zx2 h]
  simp only [List.map_cons,List.sum_cons]
  omega
theorem Z9l (t:Tr):1≤pt t:=by rw [Znu];omega
theorem Z1k {t x:Tr} (h:x∈t.Kids):pt x+1≤pt t:=by
 have:=Z24 (f:=pt) h
 rw [Znu t]
 omega
theorem Z1l (t:Tr):1+t.Words.length+t.Kids.length≤pt t:=by
 have:=Z23 (f:=pt) (l:=t.Kids) fun x _=>Z9l x
 rw [Znu t]
 omega
theorem Z58:∀ (n:Nat) (t:Tr),SizeOf.sizeOf t < n→pt (nrm t)≤pt t
 | 0,_,h=>by omega
 | n+1,t,h=>by
  have ih:∀ x∈t.Kids,pt (nrm x)≤pt x:=fun x hx=>Z58 n x (by have:=Xt hx;omega)
  have e:=Z55 (f:=pt) (g:=pt) nrm ih
  by_cases h0:t.Kind=0
  ·rw [Zly h0,Znu]
   exact Z9l t
  by_cases h1:t.Kind=1
  ·rw [Zb9 h1,Znu,Znu t]
   simp only
   have a:=Znq (fun x:Int=>x == 0) t.Words
   have b:=Z6h (p:=fun x:Tr=>x.Kind == 0) (f:=pt) (t.Kids.map nrm)
   exact Nat.add_le_add (Nat.add_le_add_left a 1) (Nat.le_trans b e)
  rw [Zhv h0 h1,Znu,Znu t]
  simp only
  omega
theorem Z8p {M N:Int}:∀ (l:List Tr) (s:Int×Int),(∀ x∈l,(x.Words.length:Int)≤M∧(x.Kids.length:Int)≤N)→0≤s.1→s.1≤M→0≤s.2→s.2≤N →
  s.1≤(l.foldl frS s).1∧(l.foldl frS s).1≤M∧s.2≤(l.foldl frS s).2∧(l.foldl frS s).2≤N∧∀ x∈l,(x.Words.length:Int)≤(l.foldl frS s).1∧(x.Kids.length:Int)≤(l.foldl frS s).2
 | [],s,_,a,b,c,d=>⟨Int.le_refl _,b,Int.le_refl _,d,fun x hx=>by cases hx⟩
 | y::l,s,h,a,b,c,d=>by
  obtain ⟨h1,h2⟩:=h y (.head _)
  have e1:s.1≤(frS s y).1∧(frS s y).1≤M∧(y.Words.length:Int)≤(frS s y).1:=by unfold frS;simp only;split <;> omega
  have e2:s.2≤(frS s y).2∧(frS s y).2≤N∧(y.Kids.length:Int)≤(frS s y).2:=by unfold frS;simp only;split <;> omega
  obtain ⟨k1,k2,k3,k4,k5⟩:=Z8p l (frS s y) (fun x hx=>h x (.tail _ hx)) (by omega) e1.2.1 (by omega) e2.2.1
  rw [List.foldl_cons]
  refine ⟨by omega,k2,by omega,k4,fun x hx => ?_⟩
  rcases List.mem_cons.1 hx with rfl | hx
  ·omega
  exact k5 x hx
theorem Yc0 {M N:Int} {l:List Tr} (h:∀ x∈l,(x.Words.length:Int)≤M∧(x.Kids.length:Int)≤N) (hM:0≤M) (hN:0≤N) :
  0≤(fr l).1∧(fr l).1≤M∧0≤(fr l).2∧(fr l).2≤N∧∀ x∈l,(x.Words.length:Int)≤(fr l).1∧(x.Kids.length:Int)≤(fr l).2 :=
 Z8p l (0,0) h (Int.le_refl _) hM (Int.le_refl _) hN
theorem Zwc {α:Type} {f:α→Int} {g:α→Nat} {c:Int}:∀ {l:List α},(∀ x∈l,0≤f x∧f x≤c * (g x:Int))→0≤(l.map f).sum∧(l.map f).sum≤c * (((l.map g).sum:Nat):Int)
 | [],_=>by simp
 | y::l,h=>by
  obtain ⟨a,b⟩:=Zwc fun x hx=>h x (.tail _ hx)
  obtain ⟨c1,d⟩:=h y (.head _)
  simp only [List.map_cons,List.sum_cons,Int.natCast_add,Int.mul_add]
  omega
theorem Zk3 {t:Tr} {d:Nat} (h:rt t d=true) (h0:¬ t.Kind=0) (h1:¬ t.Kind=10):t.Words.length < 65536∧(t.Kind=1→t.Kids.length < 65536)∧(1 < t.Kind→t.Words=[])∧∀ k∈t.Kids,rt k (d - 1)=true∧okk t.Kind k=true:=by
 rw [Zd1,if_neg h0,if_neg h1] at h
 by_cases hb:t.Kind < 0∨10 < t.Kind∨d=0∨65536≤t.Words.length∨(t.Kind=1∧65536≤t.Kids.length)∨1048576≤t.Kids.length∨(1 < t.Kind∧0 < t.Words.length)
 ·rw [if_pos hb] at h;cases h
 rw [if_neg hb,List.all_eq_true] at h
 refine ⟨by omega,fun h=>by omega,fun h=>List.length_eq_zero_iff.1 (by omega),fun k hk => ?_⟩
 have:=h k hk
 rwa [Bool.and_eq_true] at this
theorem Ybv {l:List Tr} (hl:l.length≤200000) (h:∀ x∈l,x.Words.length≤65535∧x.Kids.length≤65535):h9 l=1+(l.length:Int) * ((fr l).1+(fr l).2)∧0≤(l.length:Int) * ((fr l).1+(fr l).2)∧(l.length:Int) * ((fr l).1+(fr l).2)≤26214000000∧(0≤(fr l).1∧(fr l).1≤65535∧0≤(fr l).2∧(fr l).2≤65535∧∀ x∈l,(x.Words.length:Int)≤(fr l).1∧(x.Kids.length:Int)≤(fr l).2):=by
 have f:=Yc0 (M:=65535) (N:=65535) (l:=l) (fun x hx=>by have:=h x hx;omega) (by decide) (by decide)
 have a:0≤(l.length:Int) * ((fr l).1+(fr l).2):=Int.mul_nonneg (by omega) (by omega)
 have b:(l.length:Int) * ((fr l).1+(fr l).2)≤200000 * 131070:=Int.mul_le_mul (by omega) (by omega) (by omega) (by decide)
 refine ⟨?_,a,by omega,f⟩
 unfold h9
 rw [Yg (x:=(fr l).1+(fr l).2) (by omega) (by omega),Yg (x:=(l.length:Int) * _) (by omega) (by omega),Yg (by omega) (by omega)]
theorem Z1o {c:Int} (h:0≤c∧c≤5) (n:Nat):(n * wid c+63) / 64≤n:=by
 have hb:wid c≤64:=by rcases c5' h with rfl | rfl | rfl | rfl | rfl | rfl <;> decide
 have:=Nat.mul_le_mul_left n hb
 omega
theorem Z97:∀ (n:Nat) (t:Tr) (d:Nat),SizeOf.sizeOf t < n→rt t d=true→pt t≤200000→0≤sz t∧sz t≤27000000000 * (pt t:Int)
 | 0,_,_,h,_,_=>by omega
 | n+1,t,d,h,hr,hp=>by
  obtain ⟨_,_,_,_,hk⟩:=Zka hr
  have ih:∀ x∈t.Kids,0≤sz x∧sz x≤27000000000 * (pt x:Int):=fun x hx=>Z97 n x (d - 1) (by have:=Xt hx;omega) (hk x hx) (by have:=Z1k hx;omega)
  have ih2:∀ x∈t.Kids,0≤(x.Kids.map sz).sum∧(x.Kids.map sz).sum≤27000000000 * (pt x:Int):=fun x hx=>by
   have:=Zwc (f:=sz) (g:=pt) (c:=27000000000) (l:=x.Kids) fun y hy=>Z97 n y (d - 1 - 1) (by have:=Xt hx;have:=Xt hy;omega) ((Zka (hk x hx)).2.2.2.2 y hy) (by have:=Z1k hx;have:=Z1k hy;omega)
   rw [Znu x]
   omega
  have s1:=Zwc ih
  have s2:=Zwc ih2
  have pk:=Z1l t
  have pe:=Znu t
  rw [Zo3]
  by_cases h1:t.Kind=1
  ·rw [if_pos h1];omega
  by_cases h2:2≤t.Kind∧t.Kind≤7
  ·rw [if_neg h1,if_pos h2]
   have:=Z1o (c:=t.Kind - 2) (by omega) t.Kids.length
   unfold Zo1
   omega
  by_cases h8:t.Kind=8
  ·rw [if_neg h1,if_neg h2,if_pos h8];omega
  by_cases h9':t.Kind=9
  ·rw [if_neg h1,if_neg h2,if_neg h8,if_pos h9']
   obtain ⟨e,a,b,_⟩:=Ybv (l:=t.Kids) (by omega) (fun x hx=>by
    obtain ⟨r1,r2⟩:=(Zk3 hr (by omega) (by omega)).2.2.2 x hx
    unfold okk at r2
    rw [if_neg h2,Bool.and_eq_true,bne_iff_ne,Bool.or_eq_true,bne_iff_ne,beq_iff_eq] at r2
    have k1:x.Kind=1:=by rcases r2.2 with h | h;exact absurd h9' h;exact h
    have:=Zk3 r1 (by omega) (by omega)
    have:=this.2.1 k1
    omega)
   omega
  rw [if_neg h1,if_neg h2,if_neg h8,if_neg h9'];omega
theorem Z3r {t:Tr} {d:Nat} (hr:rt t d=true) (hp:pt t≤200000):0≤sz t∧sz t≤5400000000000000:=by
 have:=Z97 _ t d (Nat.lt_succ_self _) hr hp
 omega
def zs (l:List Int) (N:Nat):List Int:=l++List.replicate (N - l.length) 0
theorem Zx7 {l:List Int} {N:Nat} (h:l.length≤N):(zs l N).length=N:=by
 unfold zs
 rw [List.length_append,List.length_replicate]
 omega
theorem Ycm {l:List Int} {N a:Nat} {v:Int} (h:l[a]? = some v):(zs l N)[a]? = some v:=by
 unfold zs
 rw [List.getElem?_append_left (List.getElem?_eq_some_iff.1 h).1,h]
theorem Z5h {l:List Int} {N a:Nat} {v:Int} (h:a < l.length):Kc (zs l N) (a:Int) v=zs (Kc l (a:Int) v) N:=by
 unfold zs
 rw [Ke]
 unfold Kc
 rw [Int.toNat_natCast,List.set_append_left _ _ h]
theorem Z5g {l ys:List Int} {N:Nat} (h:l.length+ys.length≤N):Zlh (zs l N) (l.length:Int) ys=zs (l++ys) N:=by
 unfold Zlh
 rw [Zx7 (by omega)]
 unfold zs
 rw [Int.toNat_natCast,List.take_left,List.take_of_length_le (by omega),List.drop_append,List.drop_replicate,List.drop_eq_nil_of_le (by omega),List.nil_append,List.length_append]
 congr 2
 omega
theorem Z11 {l:List Int} {N n:Nat} (h:l.length+n≤N):zs (l++List.replicate n 0) N=zs l N:=by
 unfold zs
 rw [List.length_append,List.length_replicate,List.append_assoc,List.replicate_append_replicate]
 congr 2
 omega
theorem Z36 {l:List Int} {n:Nat} (h:l.length+n≤1048576):V6 l (n:Int)=some (l++List.replicate n 0):=by
 have:=(Zjt (List.replicate n ()) (fun i s=>(i,s)) (fun s=>s) (U5 (n:Int)) (fun s _ _=>s++[0]) (fun i s=>s=l++List.replicate i 0) (by rw [List.length_replicate];omega) (fun i s x hi hx hm hI=>by
  subst hI
  rw [List.length_replicate] at hi
  refine ⟨?_,?_⟩
  ·unfold U5
   simp only
   rw [decide_eq_true (by omega),cond_true,Zba (by rw [List.length_append,List.length_replicate,List.length_singleton];omega) (by rw [List.length_append,List.length_replicate,List.length_singleton];omega)]
   rfl
  ·rw [List.append_assoc,List.replicate_succ']) (fun s _=>by
  unfold U5
  simp only
  rw [List.length_replicate,Zd4,cond_false]) l (by simp))
 unfold V6
 rw [this.1,Option.bind_some,this.2,List.length_replicate]
noncomputable def ly (t:Tr) (l:List Int) (a:Nat):List Int:=(Yu (SizeOf.sizeOf t+1) l (a:Int) t).getD []
def Sim (t:Tr):Prop:=∀ (l:List Int) (a:Nat),a < l.length→(l.length:Int)+sz t≤131072 →
 ((ly t l a).length:Int)=l.length+sz t∧(∀ j,SizeOf.sizeOf t < j→Yu j l (a:Int) t=some (ly t l a)) ∧
 (∀ N k:Nat,(l.length:Int)+sz t≤N→N≤131072→4 * SizeOf.sizeOf t < k→(Zk k).1 ⟨zs l N,(l.length:Int)⟩ (a:Int) t=some ⟨zs (ly t l a) N,((ly t l a).length:Int)⟩)
theorem Zxx {t:Tr} {l R:List Int} {a:Nat} (hr:(R.length:Int)=l.length+sz t) (ref:∀ j,SizeOf.sizeOf t≤j→Xq (Yu j) l (a:Int) t=some R)
  (prog:∀ N k:Nat,(l.length:Int)+sz t≤N→N≤131072→4 * SizeOf.sizeOf t < k+4→(Zk (k+4)).1 ⟨zs l N,(l.length:Int)⟩ (a:Int) t=some ⟨zs R N,(R.length:Int)⟩) :
  ly t l a=R∧((ly t l a).length:Int)=l.length+sz t∧(∀ j,SizeOf.sizeOf t < j→Yu j l (a:Int) t=some (ly t l a)) ∧
  (∀ N k:Nat,(l.length:Int)+sz t≤N→N≤131072→4 * SizeOf.sizeOf t < k→(Zk k).1 ⟨zs l N,(l.length:Int)⟩ (a:Int) t=some ⟨zs (ly t l a) N,((ly t l a).length:Int)⟩):=by
 have e:ly t l a=R:=by
  unfold ly
  have:=ref (SizeOf.sizeOf t) (Nat.le_refl _)
  show Option.getD (Xq (Yu (SizeOf.sizeOf t)) l (a:Int) t) []=R
  rw [this]
  rfl
 refine ⟨e,by rw [e];exact hr,fun j hj => ?_,fun N k h1 h2 h3 => ?_⟩
 ·obtain ⟨i,rfl⟩:∃ i,j=i+1:=⟨j - 1,by omega⟩
  rw [e]
  exact ref i (by omega)
 have:=Zxy t
 obtain ⟨i,rfl⟩:∃ i,k=i+4:=⟨k - 4,by omega⟩
 rw [e]
 exact prog N i h1 h2 h3
theorem Ya1 (k:Nat):(Zk (k+1)).1=Ql ((Zk k).1) ((Zk k).2.1) ((Zk k).2.2.1) ((Zk k).2.2.2):=rfl
theorem Ya2 (k:Nat):(Zk (k+1)).2.1=X0 ((Zk k).1) ((Zk k).2.1) ((Zk k).2.2.1) ((Zk k).2.2.2):=rfl
theorem Yd5 (k:Nat):(Zk (k+1)).2.2.1=K2 ((Zk k).1) ((Zk k).2.1) ((Zk k).2.2.1) ((Zk k).2.2.2):=rfl
theorem Yd6 (k:Nat):(Zk (k+1)).2.2.2=Vw ((Zk k).1) ((Zk k).2.1) ((Zk k).2.2.1) ((Zk k).2.2.2):=rfl
noncomputable def lyK (b:Nat) (ks:List Tr) (l:List Int):List Int:=Zf8 (fun l i x=>ly x l (b+i)) l 0 ks
theorem Z0q {α σ:Type} {f:σ→Nat→α→σ} (I:Nat→σ→Prop) (xs:List α) (h:∀ (i:Nat) (s:σ) (x:α),i < xs.length→xs[i]? = some x→x∈xs→I i s→I (i+1) (f s i x)) {s:σ} (h0:I 0 s):I xs.length (Zf8 f s 0 xs):=by
 have key:∀ (l pre:List α) (s:σ),xs=pre++l→I pre.length s→I xs.length (Zf8 f s pre.length l):=fun l=>by
  induction l with
  | nil =>
   intro pre s hp hi
   rw [List.append_nil] at hp
   subst hp
   exact hi
  | cons x l ih =>
   intro pre s hp hI
   have hx:xs[pre.length]? = some x:=by rw [hp,List.getElem?_append_right (Nat.le_refl _),Nat.sub_self];rfl
   have hi:pre.length < xs.length:=by rw [hp];simp
   have b:=h pre.length s x hi hx (List.mem_of_getElem? hx) hI
   have:=ih (pre++[x]) (f s pre.length x) (by rw [hp];simp) (by rw [List.length_append,List.length_singleton];exact b)
   rw [List.length_append,List.length_singleton] at this
   exact this
 exact key xs [] s rfl h0
theorem Zw4 {ks:List Tr} (hk:∀ x∈ks,Sim x∧0≤sz x) {l:List Int} {b:Nat} (hb:b+ks.length≤l.length) (hs:(l.length:Int)+(ks.map sz).sum≤131072)
  (i:Nat) (s:List Int) (x:Tr) (hi:i < ks.length) (hx:ks[i]? = some x) (hm:x∈ks) (hI:(s.length:Int)=l.length+((ks.take i).map sz).sum) :
  b+i < s.length∧(s.length:Int)+sz x≤l.length+(ks.map sz).sum∧((ly x s (b+i)).length:Int)=l.length+((ks.take (i+1)).map sz).sum:=by
 obtain ⟨h1,h2⟩:=Z3q (f:=sz) hx fun y hy=>(hk y hy).2
 have h3:=Zkr (f:=sz) (xs:=ks.take i) fun y hy=>(hk y (List.mem_of_mem_take hy)).2
 have h4:=((hk x hm).1 s (b+i) (by omega) (by omega)).1
 exact ⟨by omega,by omega,by omega⟩
theorem Z02 {ks:List Tr} (hk:∀ x∈ks,Sim x∧0≤sz x) {l:List Int} {b:Nat} (hb:b+ks.length≤l.length) (hs:(l.length:Int)+(ks.map sz).sum≤131072):((lyK b ks l).length:Int)=l.length+(ks.map sz).sum:=by
 have:=Z0q (f:=fun l i x=>ly x l (b+i)) (fun i (s:List Int)=>(s.length:Int)=l.length+((ks.take i).map sz).sum) ks (fun i s x hi hx hm hI=>(Zw4 hk hb hs i s x hi hx hm hI).2.2) (s:=l) (by simp)
 rw [List.take_length] at this
 exact this
theorem Z8x {ks:List Tr} (hk:∀ x∈ks,Sim x∧0≤sz x) {l:List Int} {b:Nat} (hb:b+ks.length≤l.length) (hs:(l.length:Int)+(ks.map sz).sum≤131072)
  (j:Nat) (step:Int×List Int→Option ((Int×List Int) ⊕ List Int)) (hj:∀ x∈ks,SizeOf.sizeOf x < j)
  (h1:∀ (i:Nat) (s:List Int) (x:Tr) (s':List Int),i < ks.length→ks[i]? = some x→x∈ks→Yu j s ((b+i:Nat):Int) x=some s'→step ((i:Int),s)=some (.inl (IntKind.i64.wrap ((i:Int)+1),s')))
  (h2:∀ s,step ((ks.length:Int),s)=some (.inr s)):Zw step (0,l)=some (lyK b ks l):=by
 have h3:=Zkr (f:=sz) (xs:=ks) fun y hy=>(hk y hy).2
 exact (Zjt ks (fun i s=>(i,s)) (fun s=>s) step (fun l i x=>ly x l (b+i)) (fun i (s:List Int)=>(s.length:Int)=l.length+((ks.take i).map sz).sum) (by omega) (fun i s x hi hx hm hI=>by
  obtain ⟨a1,a2,a3⟩:=Zw4 hk hb hs i s x hi hx hm hI
  exact ⟨h1 i s x _ hi hx hm (((hk x hm).1 s (b+i) a1 (by omega)).2.1 j (hj x hm)),a3⟩) (fun s _=>h2 s) l (by simp)).1
theorem Z8w {ks:List Tr} (hk:∀ x∈ks,Sim x∧0≤sz x) {l:List Int} {b:Nat} (hb:b+ks.length≤l.length) (hs:(l.length:Int)+(ks.map sz).sum≤131072)
  (N m:Nat) (hN:(l.length:Int)+(ks.map sz).sum≤N) (hN2:N≤131072) (hm:∀ x∈ks,4 * SizeOf.sizeOf x < m) :
  (Zk (m+1)).2.2.1 ⟨zs l N,(l.length:Int)⟩ (b:Int) ks=some ⟨zs (lyK b ks l) N,((lyK b ks l).length:Int)⟩:=by
 have h3:=Zkr (f:=sz) (xs:=ks) fun y hy=>(hk y hy).2
 rw [Yd5]
 unfold K2
 have:=(Zjt ks (fun i (s:List Int)=>(i,zs s N,(s.length:Int))) (fun s=>(zs s N,(s.length:Int))) (Jl (Zk m).1 (b:Int) ks) (fun l i x=>ly x l (b+i)) (fun i (s:List Int)=>(s.length:Int)=l.length+((ks.take i).map sz).sum) (by omega) (fun i s x hi hx hm' hI=>by
  obtain ⟨a1,a2,a3⟩:=Zw4 hk hb hs i s x hi hx hm' hI
  refine ⟨?_,a3⟩
  unfold Jl
  simp only
  have e:IntKind.i64.wrap ((b:Int)+(i:Int))=((b+i:Nat):Int):=by rw [Yg (by omega) (by omega)];omega
  rw [Zee hi,cond_true,Y3 hx,Option.bind_some,e,((hk x hm').1 s (b+i) a1 (by omega)).2.2 N m (by omega) hN2 (hm x hm'),Option.bind_some]) (fun s _=>by
  unfold Jl
  simp only
  rw [Zd4,cond_false]) l (by simp)).1
 rw [this]
 rfl
theorem Zhn {a b:Int} (h:a=b):(a == b)=true:=by rw [h];exact beq_self_eq_true b
theorem Zwy {l:List Int} {a:Nat} (h:a < l.length):Y9 l (a:Int)=some l[a]:=Y3 (List.getElem?_eq_getElem h)
theorem Yb9 {l:List Int} {a N:Nat} (h:a < l.length):Y9 (zs l N) (a:Int)=some l[a]:=Y3 (Ycm (List.getElem?_eq_getElem h))
theorem Ya3 {ks:List Tr} (h:ks=[]) (b b':Nat) (l:List Int):lyK b ks l=lyK b' ks l:=by subst h;rfl
theorem Z3n {t:Tr} (h0:t.Kind=0):Sim t:=fun l a ha hs=>by
 have e:sz t=0:=by
  rw [Zo3,if_neg (by omega),if_neg (by omega),if_neg (by omega),if_neg (by omega)]
 exact (Zxx (R:=l) (by omega) (fun j _=>by
  unfold Xq
  rw [Zhn h0,cond_true]) (fun N k _ _ _=>by
  rw [Ya1]
  unfold Ql
  rw [Zhn h0,cond_true])).2
def Zs7 (t:Tr) (l:List Int) (a:Nat):Int:=if t.Words.length+t.Kids.length=0 then -1 else (l.length:Int) - a - 1
def RS1 (t:Tr) (l:List Int) (a:Nat):List Int:=Kc l (a:Int) (Zs7 t l a % 1073741824 * 4+(t.Words.length:Int) * 4294967296+(t.Kids.length:Int) * 281474976710656)++t.Words++List.replicate t.Kids.length 0
theorem Zw5 {t:Tr} (h1:t.Kind=1) (hw:t.Words.length < 65536) (hkl:t.Kids.length < 65536) (hk:∀ x∈t.Kids,Sim x∧0≤sz x) (l:List Int) (a:Nat) (ha:a < l.length) (hs:(l.length:Int)+sz t≤131072) :
  ly t l a=lyK (l.length+t.Words.length) t.Kids (RS1 t l a)∧((ly t l a).length:Int)=l.length+sz t∧(∀ j,SizeOf.sizeOf t < j→Yu j l (a:Int) t=some (ly t l a)) ∧
  (∀ N k:Nat,(l.length:Int)+sz t≤N→N≤131072→4 * SizeOf.sizeOf t < k→(Zk k).1 ⟨zs l N,(l.length:Int)⟩ (a:Int) t=some ⟨zs (ly t l a) N,((ly t l a).length:Int)⟩):=by
 have es:sz t=((t.Words.length:Int)+(t.Kids.length:Int))+(t.Kids.map sz).sum:=by rw [Zo3,if_pos h1]
 have s0:=Zkr (f:=sz) (xs:=t.Kids) fun y hy=>(hk y hy).2
 have k0:(t.Kind == 0)=false:=X2 (by omega)
 have k1:(t.Kind == 1)=true:=Zhn h1
 have l2:(RS1 t l a).length=l.length+t.Words.length+t.Kids.length:=by unfold RS1;rw [List.length_append,List.length_append,Ke,List.length_replicate]
 have hb:l.length+t.Words.length+t.Kids.length≤(RS1 t l a).length:=by omega
 have hs2:((RS1 t l a).length:Int)+(t.Kids.map sz).sum≤131072:=by omega
 have len:=Z02 hk hb hs2
 have ho:-536870912≤Zs7 t l a∧Zs7 t l a < 536870912∧¬ (Zs7 t l a=0∧(t.Words.length:Int)=0∧(t.Kids.length:Int)=0):=by unfold Zs7;split <;> omega
 refine Zxx (by rw [len];omega) (fun j hj => ?_) (fun N k hN hN2 hkk => ?_)
 ·unfold Xq
  rw [k0,cond_false,k1,cond_true]
  have ez:(cond ((IntKind.i64.wrap ((t.Words.length:Int)+(t.Kids.length:Int))) == 0) (some (a:Int)) (some (l.length:Int)))=some (((if t.Words.length+t.Kids.length=0 then a else l.length:Nat):Nat):Int):=by
   rw [Yg (by omega) (by omega)]
   by_cases q:t.Words.length+t.Kids.length=0
   ·rw [Zhn (by omega),cond_true,if_pos q]
   rw [X2 (by omega),cond_false,if_neg q]
  rw [ez,Option.bind_some]
  generalize ht:(if t.Words.length+t.Kids.length=0 then a else l.length)=tt
  have hto:tt≤l.length∧(tt:Int) - a - 1=Zs7 t l a∧(tt=l.length∨t.Kids=[]):=by
   unfold Zs7
   by_cases q:t.Words.length+t.Kids.length=0
   ·rw [if_pos q] at ht ⊢
    exact ⟨by omega,by omega,.inr (List.length_eq_zero_iff.1 (by omega))⟩
   rw [if_neg q] at ht ⊢
   exact ⟨by omega,by omega,.inl ht.symm⟩
  have hto3:t.Kids.length=0∨tt=l.length:=by
   rcases hto.2.2 with h | h
   ·exact .inr h
   exact .inl (by rw [h];rfl)
  rw [Zfg (x:=(t.Words.length:Int)) (by omega) (by omega),Zfg (x:=(t.Kids.length:Int)) (by omega) (by omega),Zfg (x:=65536 * _) (by omega) (by omega),Zfg (by omega) (by omega),Zto (by omega) (by omega) (by omega) (by omega) (by decide) (by decide) (by omega) (by omega),Option.bind_some,Zwy ha,Option.bind_some,hto.2.1]
  have ev:Zs7 t l a % 1073741824 * 4+0+((t.Words.length:Int)+65536 * (t.Kids.length:Int)) * 4294967296=Zs7 t l a % 1073741824 * 4+(t.Words.length:Int) * 4294967296+(t.Kids.length:Int) * 281474976710656:=by omega
  rw [ev,Zba (by rw [Ke];omega) (by rw [Ke];omega),Option.bind_some,Z36 (by rw [List.length_append,Ke];omega),Option.bind_some]
  have:=Z8x (b:=tt+t.Words.length) hk (by omega) hs2 j (Uy (Yu j) t (tt:Int)) (fun x hx=>by have:=Xt hx;omega) (fun i s x s' hi hx hm hq=>by
   unfold Uy
   simp only
   have e:IntKind.i64.wrap (IntKind.i64.wrap ((tt:Int)+(t.Words.length:Int))+(i:Int))=((tt+t.Words.length+i:Nat):Int):=by rw [Yg (x:=(tt:Int)+_) (by omega) (by omega),Yg (by omega) (by omega)];omega
   rw [Zee hi,cond_true,Y3 hx,Option.bind_some,e,hq,Option.bind_some]) (fun s=>by
   unfold Uy
   simp only
   rw [Zd4,cond_false])
  unfold RS1 at this ⊢
  rw [this,Option.bind_some]
  rcases hto.2.2 with h | h
  ·rw [h]
  rw [Ya3 h]
 rw [Ya1]
 unfold Ql
 rw [k0,cond_false]
 have e1:V9 t=some (⟨1,0,(t.Words.length:Int),(t.Kids.length:Int),0,0,0,false⟩:Zx):=by unfold V9;rw [k1,cond_true]
 have e2:X5 (⟨1,0,(t.Words.length:Int),(t.Kids.length:Int),0,0,0,false⟩:Zx)=some ((t.Words.length:Int)+(t.Kids.length:Int),true):=by
  unfold X5
  simp only
  rw [Zhn rfl,cond_true,Yg (by omega) (by omega)]
 have e3:(cond (cond ((1:Int) == 1) (((t.Words.length:Int)+(t.Kids.length:Int)) == 0) false) (some (-1)) (some (IntKind.i64.wrap ((IntKind.i64.wrap ((l.length:Int) - (a:Int))) - 1))))=some (Zs7 t l a):=by
  unfold Zs7
  rw [Yg (x:=(l.length:Int) - (a:Int)) (by omega) (by omega),Yg (by omega) (by omega),Zhn rfl,cond_true]
  by_cases q:t.Words.length+t.Kids.length=0
  ·rw [Zhn (by omega),cond_true,if_pos q]
  rw [X2 (by omega),cond_false,if_neg q]
 rw [e1,Option.bind_some,e2,Option.bind_some]
 simp only
 rw [e3,Option.bind_some,Ycy ho.1 ho.2.1 (by omega) (by omega) (by omega) (by omega) ho.2.2,Option.bind_some,Yb9 ha,Option.bind_some,Z5h ha,Ya2]
 unfold X0
 simp only
 rw [k1,cond_true]
 have l1:=Ke l (a:Int) (Zs7 t l a % 1073741824 * 4+(t.Words.length:Int) * 4294967296+(t.Kids.length:Int) * 281474976710656)
 unfold RS1 at l2 len hb hs2 ⊢
 generalize Kc l (a:Int) (Zs7 t l a % 1073741824 * 4+(t.Words.length:Int) * 4294967296+(t.Kids.length:Int) * 281474976710656)=m at *
 rw [Zx7 (by omega),Vd (by omega),Option.bind_some,Yg (x:=(l.length:Int)+_) (by omega) (by omega),Yg (by omega) (by omega),← l1,Z5g (by omega),← Z11 (n:=t.Kids.length) (by rw [List.length_append];omega)]
 have:=Z8w hk hb hs2 N (k+1) (by omega) hN2 (fun x hx=>by have:=Xt hx;omega)
 have e4:(m.length:Int)+((min t.Words.length (((N:Nat):Int) - (m.length:Int)).toNat:Nat):Int)=((m.length+t.Words.length:Nat):Int):=by omega
 have e5:(m.length:Int)+((t.Words.length:Int)+(t.Kids.length:Int))=((m++t.Words++List.replicate t.Kids.length 0).length:Int):=by omega
 rw [e4,e5,← l1] at *
 rw [this]
 rfl
theorem Yci {c:Int} (h:0≤c∧c≤6):Ze3 c=some (if c=6 then 64 else ((wid c:Nat):Int)):=by
 have:c=0∨c=1∨c=2∨c=3∨c=4∨c=5∨c=6:=by omega
 rcases this with rfl | rfl | rfl | rfl | rfl | rfl | rfl <;> rfl
def rmL (c:Int) (n:Nat):Nat:=if c=6 then n else (n * wid c+63) / 64
theorem Ycj {c off:Int} {n:Nat} (h:0≤c∧c≤6) (hn:n≤200000):X5 (⟨2,off,0,0,c,(n:Int),0,false⟩:Zx)=some (((rmL c n:Nat):Int),true):=by
 unfold X5
 simp only
 rw [X2 (a:=2) (b:=1) (by decide),cond_false,Zhn (a:=2) (b:=2) rfl,cond_true,X2 (a:=c) (b:=7) (by omega),cond_false,cond_true,decide_eq_true (by omega),cond_true,decide_eq_true (by omega),cond_true,decide_eq_true (by omega),cond_true,decide_eq_true (by omega),cond_true,Yci h,Option.bind_some]
 unfold rmL
 by_cases q:c=6
 ·rw [if_pos q,if_pos q,Yg (x:=(n:Int) * 64) (by omega) (by omega),Yg (x:=(n:Int) * 64+63) (by omega) (by omega),Int.tdiv_eq_ediv_of_nonneg (by omega),Yg (by omega) (by omega)]
  congr 2
  omega
 rw [if_neg q,if_neg q]
 have hb:wid c≤64:=by rcases c5' (show 0≤c∧c≤5 by omega) with rfl | rfl | rfl | rfl | rfl | rfl <;> decide
 have hm:n * wid c≤200000 * 64:=Nat.mul_le_mul hn hb
 rw [← Int.natCast_mul]
 generalize n * wid c=m at hm ⊢
 rw [Yg (x:=(m:Int)) (by omega) (by omega),Yg (x:=(m:Int)+63) (by omega) (by omega),Int.tdiv_eq_ediv_of_nonneg (by omega),Yg (by omega) (by omega)]
 congr 1
def hdL (t:Tr) (l:List Int) (a:Nat):Int:=((l.length:Int) - a - 1) % 1073741824 * 4+1+(t.Kind - 2) * 4294967296+(t.Kids.length:Int) * 34359738368
theorem Ych {t:Tr} (h2:2≤t.Kind∧t.Kind≤8):V9 t=some (⟨2,0,0,0,t.Kind - 2,(t.Kids.length:Int),0,false⟩:Zx):=by
 unfold V9
 rw [X2 (by omega),cond_false,X2 (by omega),cond_false,Yg (by omega) (by omega)]
theorem Zxk {t:Tr} (h2:2≤t.Kind∧t.Kind≤8) (hn:t.Kids.length≤200000) {l:List Int} {a N:Nat} (ha:a < l.length) (hl:l.length≤131072) (k:Nat) :
  (Zk (k+1)).1 ⟨zs l N,(l.length:Int)⟩ (a:Int) t=((Zk k).2.1 ⟨zs (Kc l (a:Int) (hdL t l a)) N,((l.length+rmL (t.Kind - 2) t.Kids.length:Nat):Int)⟩ (l.length:Int) t).bind fun y=>some ⟨y.words,y.next⟩:=by
 rw [Ya1]
 unfold Ql
 have hr:rmL (t.Kind - 2) t.Kids.length≤t.Kids.length:=by
  unfold rmL
  split
  ·exact Nat.le_refl _
  exact Z1o (by omega) _
 rw [X2 (by omega),cond_false,Ych h2,Option.bind_some,Ycj (by omega) hn,Option.bind_some]
 simp only
 rw [X2 (a:=2) (b:=1) (by decide),cond_false,cond_false,Option.bind_some,Yg (x:=(l.length:Int) - (a:Int)) (by omega) (by omega),Yg (by omega) (by omega),Ycx (by omega) (by omega) (by omega) (by omega) (by omega) (by omega),Option.bind_some,Yb9 ha,Option.bind_some,Z5h ha,Yg (by omega) (by omega)]
 rfl
theorem Z2w {t:Tr} (h8:t.Kind=8) (hn:t.Kids.length≤200000) (hk:∀ x∈t.Kids,Sim x∧0≤sz x) (l:List Int) (a:Nat) (ha:a < l.length) (hs:(l.length:Int)+sz t≤131072) :
  ly t l a=lyK l.length t.Kids (Kc l (a:Int) (hdL t l a)++List.replicate t.Kids.length 0)∧((ly t l a).length:Int)=l.length+sz t∧(∀ j,SizeOf.sizeOf t < j→Yu j l (a:Int) t=some (ly t l a)) ∧
  (∀ N k:Nat,(l.length:Int)+sz t≤N→N≤131072→4 * SizeOf.sizeOf t < k→(Zk k).1 ⟨zs l N,(l.length:Int)⟩ (a:Int) t=some ⟨zs (ly t l a) N,((ly t l a).length:Int)⟩):=by
 have es:sz t=(t.Kids.length:Int)+(t.Kids.map sz).sum:=by rw [Zo3,if_neg (by omega),if_neg (by omega),if_pos h8]
 have s0:=Zkr (f:=sz) (xs:=t.Kids) fun y hy=>(hk y hy).2
 have l1:=Ke l (a:Int) (hdL t l a)
 have l2:(Kc l (a:Int) (hdL t l a)++List.replicate t.Kids.length 0).length=l.length+t.Kids.length:=by rw [List.length_append,Ke,List.length_replicate]
 have hb:l.length+t.Kids.length≤(Kc l (a:Int) (hdL t l a)++List.replicate t.Kids.length 0).length:=by omega
 have hs2:((Kc l (a:Int) (hdL t l a)++List.replicate t.Kids.length 0).length:Int)+(t.Kids.map sz).sum≤131072:=by omega
 have len:=Z02 hk hb hs2
 refine Zxx (by rw [len];omega) (fun j hj => ?_) (fun N k hN hN2 hkk => ?_)
 ·unfold Xq
  rw [X2 (by omega),cond_false,X2 (by omega),cond_false,Zhn h8,cond_true,Zfg (x:=(t.Kids.length:Int)) (by omega) (by omega),Zfg (x:=8 * _) (by omega) (by omega),Zfg (by omega) (by omega),Zto (by omega) (by omega) (by omega) (by omega) (by decide) (by decide) (by omega) (by omega),Option.bind_some,Zwy ha,Option.bind_some]
  have ev:((l.length:Int) - (a:Int) - 1) % 1073741824 * 4+1+(6+8 * (t.Kids.length:Int)) * 4294967296=hdL t l a:=by unfold hdL;rw [h8];omega
  rw [ev,Z36 (by omega),Option.bind_some]
  have:=Z8x hk hb hs2 j (Uz (Yu j) l t) (fun x hx=>by have:=Xt hx;omega) (fun i s x s' hi hx hm hq=>by
   unfold Uz
   simp only
   have e:IntKind.i64.wrap ((l.length:Int)+(i:Int))=((l.length+i:Nat):Int):=by rw [Yg (by omega) (by omega)];omega
   rw [Zee hi,cond_true,Y3 hx,Option.bind_some,e,hq,Option.bind_some]) (fun s=>by
   unfold Uz
   simp only
   rw [Zd4,cond_false])
  rw [this,Option.bind_some]
 rw [Zxk (by omega) hn ha (by omega),Ya2]
 unfold X0
 simp only
 rw [X2 (by omega),cond_false,Zhn h8,cond_true]
 have e0:rmL (t.Kind - 2) t.Kids.length=t.Kids.length:=by unfold rmL;rw [if_pos (by omega)]
 have:=Z8w hk hb hs2 N (k+1) (by omega) hN2 (fun x hx=>by have:=Xt hx;omega)
 rw [Z11 (by omega),l2] at this
 rw [e0,this]
 rfl
theorem Z81 {t:Tr} (h2:2≤t.Kind∧t.Kind≤7) (hn:t.Kids.length≤200000) (hat:∀ k∈t.Kids,∃ w,k.Words=[w]∧0≤w∧w < 18446744073709551616∧Zea (t.Kind - 2) w=true) (l:List Int) (a:Nat) (ha:a < l.length) (hs:(l.length:Int)+sz t≤131072) :
  ly t l a=Kc l (a:Int) (hdL t l a)++Zxm (t.Kind - 2) (ato t)∧((ly t l a).length:Int)=l.length+sz t∧(∀ j,SizeOf.sizeOf t < j→Yu j l (a:Int) t=some (ly t l a)) ∧
  (∀ N k:Nat,(l.length:Int)+sz t≤N→N≤131072→4 * SizeOf.sizeOf t < k→(Zk k).1 ⟨zs l N,(l.length:Int)⟩ (a:Int) t=some ⟨zs (ly t l a) N,((ly t l a).length:Int)⟩):=by
 have es:sz t=((rmL (t.Kind - 2) t.Kids.length:Nat):Int):=by
  rw [Zo3,if_neg (by omega),if_pos h2]
  unfold Zo1 rmL
  rw [if_neg (by omega)]
 have hr:rmL (t.Kind - 2) t.Kids.length≤t.Kids.length:=by
  unfold rmL
  rw [if_neg (by omega)]
  exact Z1o (by omega) _
 have l1:=Ke l (a:Int) (hdL t l a)
 have hp:(Zxm (t.Kind - 2) (ato t)).length=rmL (t.Kind - 2) t.Kids.length:=by
  have:=(Z6l (c:=t.Kind - 2) (by omega) (ns:=ato t) (by rw [Zwb];omega) (fun n hn=>by
   obtain ⟨k,hk,rfl⟩:=List.mem_map.1 hn
   obtain ⟨w,hw,h0,_,h1⟩:=hat k hk
   rw [hw]
   exact ⟨h0,h1⟩)).2
  rw [this,Zwb]
  unfold rmL
  rw [if_neg (by omega)]
 have l2:(Kc l (a:Int) (hdL t l a)++Zxm (t.Kind - 2) (ato t)).length=l.length+rmL (t.Kind - 2) t.Kids.length:=by rw [List.length_append,Ke,hp]
 refine Zxx (by rw [l2];omega) (fun j hj => ?_) (fun N k hN hN2 hkk => ?_)
 ·unfold Xq
  rw [X2 (by omega),cond_false,X2 (by omega),cond_false,X2 (by omega),cond_false,X2 (by omega),cond_false,Z8e (by omega) (fun k hk=>by obtain ⟨w,a,b,_,c⟩:=hat k hk;exact ⟨w,a,b,c⟩),Option.bind_some,Yg (x:=t.Kind - 2) (by omega) (by omega),Z9w (by omega) (by rw [Zwb];omega) (fun n hn=>by
   obtain ⟨k,hk,rfl⟩:=List.mem_map.1 hn
   obtain ⟨w,hw,h0,h1,h2⟩:=hat k hk
   rw [hw]
   exact ⟨h0,h1,h2⟩),Option.bind_some,Zfg (x:=t.Kind - 2) (by omega) (by omega),Zfg (x:=(t.Kids.length:Int)) (by omega) (by omega),Zfg (x:=8 * _) (by omega) (by omega),Zfg (by omega) (by omega),Zto (by omega) (by omega) (by omega) (by omega) (by decide) (by decide) (by omega) (by omega),Option.bind_some,Zwy ha,Option.bind_some]
  have ev:((l.length:Int) - (a:Int) - 1) % 1073741824 * 4+1+(t.Kind - 2+8 * (t.Kids.length:Int)) * 4294967296=hdL t l a:=by unfold hdL;omega
  simp only
  rw [ev,Zba (by omega) (by omega)]
  rfl
 rw [Zxk (by omega) hn ha (by omega),Ya2]
 unfold X0
 simp only
 rw [X2 (by omega),cond_false,X2 (by omega),cond_false,X2 (by omega),cond_false,Zx7 (by omega),Vd (by omega),Option.bind_some,Z4v h2 (by omega) (fun k hk=>by obtain ⟨w,a,b,_,c⟩:=hat k hk;exact ⟨w,a,b,c⟩),Option.bind_some,Option.bind_some]
 have:=Z5g (l:=Kc l (a:Int) (hdL t l a)) (ys:=Zxm (t.Kind - 2) (ato t)) (N:=N) (by omega)
 rw [l1] at this
 simp only
 rw [this,l2]
theorem Ycn {l:List Int} {N:Nat} (v:Int) (h:l.length < N):Kc (zs l N) (l.length:Int) v=zs (l++[v]) N:=by
 unfold zs Kc
 rw [Int.toNat_natCast,List.set_append_right _ _ (Nat.le_refl _),Nat.sub_self,List.length_append,List.length_singleton,List.append_assoc]
 congr 1
 obtain ⟨m,hm⟩:∃ m,N - l.length=m+1:=⟨N - l.length - 1,by omega⟩
 have:N - (l.length+1)=m:=by omega
 rw [hm,this,List.replicate_succ,List.set_cons_zero]
 rfl
def cpW (W K:Nat) (ks:List Tr) (l:List Int):List Int:=Zf8 (fun s _ x=>s++x.Words++List.replicate (W+K - x.Words.length) 0) l 0 ks
noncomputable def cpK (W K b:Nat) (ks:List Tr) (l:List Int):List Int:=Zf8 (fun s i x=>lyK (b+i * (W+K)+W) x.Kids s) l 0 ks
def hd9 (t:Tr) (W K:Nat) (l:List Int) (a:Nat):Int:=((l.length:Int) - a - 1) % 1073741824 * 4+1+7 * 4294967296+((t.Kids.length * (W+K):Nat):Int) * 34359738368
def Zu4 (t:Tr) (W K:Nat):Int:=(t.Kids.length:Int) * 4+(W:Int) * 4294967296+(K:Int) * 281474976710656
theorem Zhu {i n m:Nat} (h:i < n):i * m+m≤n * m:=by
 have:=Nat.mul_le_mul_right m (show i+1≤n by omega)
 rwa [Nat.add_mul,Nat.one_mul] at this
theorem Yar {W K:Nat} {ks:List Tr} (hw:∀ x∈ks,x.Words.length≤W) (l:List Int):(cpW W K ks l).length=l.length+ks.length * (W+K) :=
 Z0q (f:=fun (s:List Int) _ (x:Tr)=>s++x.Words++List.replicate (W+K - x.Words.length) 0) (fun i s=>s.length=l.length+i * (W+K)) ks (fun i s x hi hx hm hI=>by
  have:=hw x hm
  rw [List.length_append,List.length_append,List.length_replicate,hI,Nat.add_mul,Nat.one_mul]
  omega) (s:=l) (by omega)
def szK (k:Tr):Int:=(k.Kids.map sz).sum
theorem Z80 {t:Tr} (h9:t.Kind=9) (hn:t.Kids.length≤200000) {W K:Nat} (hf:fr t.Kids=((W:Int),(K:Int))) (hW:W≤65535) (hK:K≤65535) (hwk:∀ x∈t.Kids,x.Words.length≤W∧x.Kids.length≤K)
  (hk:∀ x∈t.Kids,∀ y∈x.Kids,Sim y∧0≤sz y) (es:sz t=1+((t.Kids.length * (W+K):Nat):Int)+(t.Kids.map szK).sum) (l:List Int) (a:Nat) (ha:a < l.length) (hs:(l.length:Int)+sz t≤131072) :
  ly t l a=cpK W K (l.length+1) t.Kids (cpW W K t.Kids (Kc l (a:Int) (hd9 t W K l a)++[Zu4 t W K]))∧((ly t l a).length:Int)=l.length+sz t∧(∀ j,SizeOf.sizeOf t < j→Yu j l (a:Int) t=some (ly t l a)) ∧
  (∀ N k:Nat,(l.length:Int)+sz t≤N→N≤131072→4 * SizeOf.sizeOf t < k→(Zk k).1 ⟨zs l N,(l.length:Int)⟩ (a:Int) t=some ⟨zs (ly t l a) N,((ly t l a).length:Int)⟩):=by
 have hq:∀ x∈t.Kids,0≤szK x:=fun x hx=>Zkr fun y hy=>(hk x hx y hy).2
 have s0:=Zkr (f:=szK) (xs:=t.Kids) hq
 have hc:t.Kids.length * (W+K)≤131072:=by omega
 have ec:IntKind.i64.wrap ((t.Kids.length:Int) * (IntKind.i64.wrap ((W:Int)+(K:Int))))=((t.Kids.length * (W+K):Nat):Int):=by
  rw [Yg (x:=(W:Int)+_) (by omega) (by omega),← Int.natCast_add,← Int.natCast_mul,Yg (by omega) (by omega)]
 have ei:∀ i:Nat,i < t.Kids.length→IntKind.i64.wrap ((IntKind.i64.wrap ((l.length:Int)+1))+(IntKind.i64.wrap ((i:Int) * (IntKind.i64.wrap ((W:Int)+(K:Int))))))=((l.length+1+i * (W+K):Nat):Int):=fun i hi=>by
  have:=Zhu (m:=W+K) hi
  rw [Yg (x:=(W:Int)+_) (by omega) (by omega),← Int.natCast_add,← Int.natCast_mul,Yg (x:=(l.length:Int)+1) (by omega) (by omega),Yg (x:=((i * (W+K):Nat):Int)) (by omega) (by omega),Yg (by omega) (by omega)]
  omega
 have l1:=Ke l (a:Int) (hd9 t W K l a)
 have l3:(Kc l (a:Int) (hd9 t W K l a)++[Zu4 t W K]).length=l.length+1:=by rw [List.length_append,l1];rfl
 have l4:(cpW W K t.Kids (Kc l (a:Int) (hd9 t W K l a)++[Zu4 t W K])).length=l.length+1+t.Kids.length * (W+K):=by rw [Yar (fun x hx=>(hwk x hx).1),l3]
 generalize hL4:cpW W K t.Kids (Kc l (a:Int) (hd9 t W K l a)++[Zu4 t W K])=L4 at *
 have kst:∀ (i:Nat) (s:List Int) (x:Tr),i < t.Kids.length→t.Kids[i]? = some x→x∈t.Kids→(s.length:Int)=L4.length+((t.Kids.take i).map szK).sum →
   l.length+1+i * (W+K)+W+x.Kids.length≤s.length∧(s.length:Int)+(x.Kids.map sz).sum≤l.length+sz t∧((lyK (l.length+1+i * (W+K)+W) x.Kids s).length:Int)=L4.length+((t.Kids.take (i+1)).map szK).sum:=fun i s x hi hx hm hI=>by
  obtain ⟨h1,h2⟩:=Z3q (f:=szK) hx hq
  have h3:=Zkr (f:=szK) (xs:=t.Kids.take i) fun y hy=>hq y (List.mem_of_mem_take hy)
  have h4:=Zhu (m:=W+K) hi
  have h5:=(hwk x hm).2
  have h8:szK x=(x.Kids.map sz).sum:=rfl
  have h6:l.length+1+i * (W+K)+W+x.Kids.length≤s.length:=by omega
  have h7:=Z02 (ks:=x.Kids) (hk x hm) h6 (by omega)
  exact ⟨h6,by omega,by omega⟩
 have len:((cpK W K (l.length+1) t.Kids L4).length:Int)=l.length+sz t:=by
  have:=Z0q (f:=fun (s:List Int) i (x:Tr)=>lyK (l.length+1+i * (W+K)+W) x.Kids s) (fun i s=>(s.length:Int)=L4.length+((t.Kids.take i).map szK).sum) t.Kids (fun i s x hi hx hm hI=>(kst i s x hi hx hm hI).2.2) (s:=L4) (by simp)
  rw [List.take_length] at this
  unfold cpK
  omega
 refine Zxx len (fun j hj => ?_) (fun N k hN hN2 hkk => ?_)
 ·unfold Xq
  rw [X2 (by omega),cond_false,X2 (by omega),cond_false,X2 (by omega),cond_false,Zhn h9,cond_true,Zy3 (by omega),Option.bind_some,hf]
  simp only
  rw [ec,Zfg (x:=((t.Kids.length * (W+K):Nat):Int)) (by omega) (by omega),Zfg (x:=8 * _) (by omega) (by omega),Zfg (x:=7+_) (by omega) (by omega),Zto (by omega) (by omega) (by omega) (by omega) (by decide) (by decide) (by omega) (by omega),Option.bind_some,Zwy ha,Option.bind_some]
  have ev:((l.length:Int) - (a:Int) - 1) % 1073741824 * 4+1+(7+8 * ((t.Kids.length * (W+K):Nat):Int)) * 4294967296=hd9 t W K l a:=by unfold hd9;omega
  rw [ev,Yg (x:=4 * (t.Kids.length:Int)) (by omega) (by omega),Zfg (x:=4 * (t.Kids.length:Int)) (by omega) (by omega),Zfg (x:=(W:Int)) (by omega) (by omega),Zfg (x:=(K:Int)) (by omega) (by omega),Zfg (x:=65536 * _) (by omega) (by omega),Zfg (x:=(W:Int)+_) (by omega) (by omega),Zfg (x:=4294967296 * _) (by omega) (by omega),Zfg (x:=4 * (t.Kids.length:Int)+_) (by omega) (by omega)]
  have et:4 * (t.Kids.length:Int)+4294967296 * ((W:Int)+65536 * (K:Int))=Zu4 t W K:=by unfold Zu4;omega
  rw [et,Zba (by rw [l1];simp only [List.length_singleton];omega) (by rw [l1];simp only [List.length_singleton];omega),Option.bind_some]
  have a1:=(Zjt t.Kids (fun i s=>(i,s)) (fun s=>s) (U0 t ((W:Int),(K:Int))) (fun (s:List Int) _ (x:Tr)=>s++x.Words++List.replicate (W+K - x.Words.length) 0) (fun i s=>s.length=l.length+1+i * (W+K)) (by omega) (fun i s x hi hx hm hI=>by
   have h5:=(hwk x hm).1
   have h4:=Zhu (m:=W+K) hi
   refine ⟨?_,by rw [List.length_append,List.length_append,List.length_replicate,hI,Nat.add_mul,Nat.one_mul];omega⟩
   unfold U0
   simp only
   have e:IntKind.i64.wrap (IntKind.i64.wrap ((W:Int)+(K:Int)) - (x.Words.length:Int))=((W+K - x.Words.length:Nat):Int):=by rw [Yg (x:=(W:Int)+_) (by omega) (by omega),Yg (by omega) (by omega)];omega
   rw [Zee hi,cond_true,Y3 hx,Option.bind_some,Zba (by omega) (by omega),Option.bind_some,Option.bind_some,e,Z36 (by rw [List.length_append];omega),Option.bind_some]) (fun s _=>by
   unfold U0
   simp only
   rw [Zd4,cond_false]) (Kc l (a:Int) (hd9 t W K l a)++[Zu4 t W K]) (by rw [l3];omega)).1
  unfold cpW at hL4
  rw [a1,Option.bind_some,hL4]
  have a2:=(Zjt t.Kids (fun i s=>(i,s)) (fun s=>s) (U1 (Yu j) l t ((W:Int),(K:Int))) (fun (s:List Int) i (x:Tr)=>lyK (l.length+1+i * (W+K)+W) x.Kids s) (fun i s=>(s.length:Int)=L4.length+((t.Kids.take i).map szK).sum) (by omega) (fun i s x hi hx hm hI=>by
   obtain ⟨b1,b2,b3⟩:=kst i s x hi hx hm hI
   refine ⟨?_,b3⟩
   have b5:0≤(x.Kids.map sz).sum:=hq x hm
   have b4:=Z8x (ks:=x.Kids) (hk x hm) b1 (by omega) j (U2 (Yu j) l t ((W:Int),(K:Int)) ((i:Int),s)) (fun y hy=>by have:=Xt hm;have:=Xt hy;omega) (fun i' s' y s'' hi' hy hm' hq=>by
    unfold U2
    simp only
    have e:IntKind.i64.wrap (IntKind.i64.wrap (((l.length+1+i * (W+K):Nat):Int)+(W:Int))+(i':Int))=((l.length+1+i * (W+K)+W+i':Nat):Int):=by rw [Yg (x:=_+(W:Int)) (by omega) (by omega),Yg (by omega) (by omega)];omega
    rw [Y3 hx,Option.bind_some,Zee hi',cond_true,Option.bind_some,Y3 hy,Option.bind_some,ei i hi,e,hq,Option.bind_some]) (fun s'=>by
    unfold U2
    simp only
    rw [Y3 hx,Option.bind_some,Zd4,cond_false])
   unfold U1
   simp only
   rw [Zee hi,cond_true,b4,Option.bind_some]) (fun s _=>by
   unfold U1
   simp only
   rw [Zd4,cond_false]) L4 (by simp)).1
  rw [a2]
  rfl
 rw [Ya1]
 unfold Ql
 have e1:V9 t=some (⟨2,0,0,0,7,((t.Kids.length * (W+K):Nat):Int),0,false⟩:Zx):=by
  unfold V9
  rw [X2 (by omega),cond_false,Zhn h9,cond_true,Zwt (by omega),Option.bind_some,hf]
  simp only
  rw [ec]
 have e2:X5 (⟨2,0,0,0,7,((t.Kids.length * (W+K):Nat):Int),0,false⟩:Zx)=some (((t.Kids.length * (W+K):Nat):Int)+1,true):=by
  unfold X5
  simp only
  rw [X2 (a:=2) (b:=1) (by decide),cond_false,Zhn (a:=2) (b:=2) rfl,cond_true,Zhn (a:=7) (b:=7) rfl,cond_true,Yg (by omega) (by omega)]
 rw [X2 (by omega),cond_false,e1,Option.bind_some,e2,Option.bind_some]
 simp only
 rw [X2 (a:=2) (b:=1) (by decide),cond_false,cond_false,Option.bind_some,Yg (x:=(l.length:Int) - (a:Int)) (by omega) (by omega),Yg (by omega) (by omega),Ycx (by omega) (by omega) (by omega) (by omega) (by omega) (by omega),Option.bind_some,Yb9 ha,Option.bind_some,Z5h ha,Yg (by omega) (by omega)]
 have ev:((l.length:Int) - (a:Int) - 1) % 1073741824 * 4+1+7 * 4294967296+((t.Kids.length * (W+K):Nat):Int) * 34359738368=hd9 t W K l a:=by unfold hd9;rfl
 simp only
 rw [ev,Ya2]
 unfold X0
 simp only
 rw [X2 (by omega),cond_false,X2 (by omega),cond_false,Zhn h9,cond_true,Yd6]
 unfold Vw
 rw [Zwt (by omega),Option.bind_some,hf]
 simp only
 have ez:(cond (decide (0 < (t.Kids.length:Int))) ((Ua (⟨1,(t.Kids.length:Int),(W:Int),(K:Int),0,0,0,false⟩:Zx)).bind fun y4=>(Y9 (zs (Kc l (a:Int) (hd9 t W K l a)) N) (l.length:Int)).bind fun x5=>some (Kc (zs (Kc l (a:Int) (hd9 t W K l a)) N) (l.length:Int) y4.1)) (some (zs (Kc l (a:Int) (hd9 t W K l a)) N)))=some (zs (Kc l (a:Int) (hd9 t W K l a)++[Zu4 t W K]) N):=by
  by_cases q:0 < t.Kids.length
  ·have g:Y9 (zs (Kc l (a:Int) (hd9 t W K l a)) N) (l.length:Int)=some (zs (Kc l (a:Int) (hd9 t W K l a)) N)[l.length]! := by
    have:l.length < (zs (Kc l (a:Int) (hd9 t W K l a)) N).length:=by rw [Zx7 (by omega)];omega
    rw [Zwy this,List.getElem!_eq_getElem?_getD,List.getElem?_eq_getElem this]
    rfl
   rw [decide_eq_true (by omega),cond_true,Ycy (by omega) (by omega) (by omega) (by omega) (by omega) (by omega) (by omega),Option.bind_some,g,Option.bind_some]
   have:=Ycn (N:=N) (l:=Kc l (a:Int) (hd9 t W K l a)) (Zu4 t W K) (by omega)
   rw [l1] at this
   rw [← this]
   congr 2
   unfold Zu4
   omega
  have q0:t.Kids=[]:=List.length_eq_zero_iff.1 (by omega)
  rw [q0] at hf
  have hW0:W=0∧K=0:=by
   have:((0:Int),(0:Int))=((W:Int),(K:Int)):=hf
   rw [Prod.mk.injEq] at this
   omega
  have t0:Zu4 t W K=0:=by unfold Zu4;rw [hW0.1,hW0.2,q0];rfl
  rw [decide_eq_false (by omega),cond_false,t0]
  have:=Z11 (N:=N) (n:=1) (l:=Kc l (a:Int) (hd9 t W K l a)) (by omega)
  rw [List.replicate_one] at this
  rw [this]
 rw [ez,Option.bind_some]
 have a1:=(Zjt t.Kids (fun i s=>(i,zs s N)) (fun s=>zs s N) (J5 (l.length:Int) t ((W:Int),(K:Int))) (fun (s:List Int) _ (x:Tr)=>s++x.Words++List.replicate (W+K - x.Words.length) 0) (fun i s=>s.length=l.length+1+i * (W+K)) (by omega) (fun i s x hi hx hm hI=>by
  have h5:=(hwk x hm).1
  have h4:=Zhu (m:=W+K) hi
  refine ⟨?_,by rw [List.length_append,List.length_append,List.length_replicate,hI,Nat.add_mul,Nat.one_mul];omega⟩
  unfold J5
  simp only
  rw [Zee hi,cond_true,Y3 hx,Option.bind_some,ei i hi,Zx7 (by omega),Vd (by omega),Option.bind_some,← hI,Z5g (by omega),Z11 (by rw [List.length_append];omega)]) (fun s _=>by
  unfold J5
  simp only
  rw [Zd4,cond_false]) (Kc l (a:Int) (hd9 t W K l a)++[Zu4 t W K]) (by rw [l3];omega)).1
 unfold cpW at hL4
 rw [a1,Option.bind_some,hL4]
 have a2:=(Zjt t.Kids (fun i s=>(i,zs s N,(s.length:Int))) (fun s=>(zs s N,(s.length:Int))) (J6 (Zk (k+1)).2.2.1 (l.length:Int) t ((W:Int),(K:Int))) (fun (s:List Int) i (x:Tr)=>lyK (l.length+1+i * (W+K)+W) x.Kids s) (fun i s=>(s.length:Int)=L4.length+((t.Kids.take i).map szK).sum) (by omega) (fun i s x hi hx hm hI=>by
  obtain ⟨b1,b2,b3⟩:=kst i s x hi hx hm hI
  refine ⟨?_,b3⟩
  have b5:0≤(x.Kids.map sz).sum:=hq x hm
  have h4:=Zhu (m:=W+K) hi
  have b4:=Z8w (ks:=x.Kids) (hk x hm) b1 (by omega) N k (by omega) hN2 (fun y hy=>by have:=Xt hm;have:=Xt hy;omega)
  unfold J6
  simp only
  have e:IntKind.i64.wrap (((l.length+1+i * (W+K):Nat):Int)+(W:Int))=((l.length+1+i * (W+K)+W:Nat):Int):=by rw [Yg (by omega) (by omega)];omega
  rw [Zee hi,cond_true,Y3 hx,Option.bind_some,ei i hi,e,b4,Option.bind_some]) (fun s _=>by
  unfold J6
  simp only
  rw [Zd4,cond_false]) L4 (by simp)).1
 have e6:(l.length:Int)+(((t.Kids.length * (W+K):Nat):Int)+1)=(L4.length:Int):=by omega
 rw [e6,a2]
 rfl
theorem Z82 {t:Tr} (h0:t.Kind=0) (l:List Int) (a:Nat):ly t l a=l:=by
 unfold ly
 show Option.getD (Xq (Yu (SizeOf.sizeOf t)) l (a:Int) t) []=l
 unfold Xq
 rw [Zhn h0,cond_true]
 rfl
theorem Zim {kind:Int} {k:Tr} (h:¬ (2≤kind∧kind≤7)) (hk:okk kind k=true):¬ k.Kind=10∧(kind=9→k.Kind=1):=by
 unfold okk at hk
 rw [if_neg h,Bool.and_eq_true,bne_iff_ne,Bool.or_eq_true,bne_iff_ne,beq_iff_eq] at hk
 exact ⟨hk.1,fun h9=>by rcases hk.2 with h | h;exact absurd h9 h;exact h⟩
theorem Z9i {kind:Int} {k:Tr} {d:Nat} (h:2≤kind∧kind≤7) (hb:Bd k) (hr:rt k d=true) (hk:okk kind k=true):∃ w,k.Words=[w]∧0≤w∧w < 18446744073709551616∧Zea (kind - 2) w=true:=by
 unfold okk at hk
 rw [if_pos h,Bool.and_eq_true,beq_iff_eq] at hk
 obtain ⟨w,hw⟩:=Zqi hk.1 hr
 have hu:=hb.u w (by rw [hw];exact .head _)
 refine ⟨w,hw,hu.1,hu.2,?_⟩
 have:=hk.2
 rwa [hw] at this
structure Fine (t:Tr) (d:Nat):Prop where
 bd:Bd t
 rt:rt t d=true
 pt:pt t≤200000
theorem Fine.kid {t x:Tr} {d:Nat} (h:Fine t d) (hx:x∈t.Kids):Fine x (d - 1):=⟨h.bd.all x hx,(Zka h.rt).2.2.2.2 x hx,by have:=h.pt;have:=Z1k hx;omega⟩
theorem Z4f {t:Tr} {d:Nat} (h:Fine t d) (h9:t.Kind=9):∃ W K:Nat,fr t.Kids=((W:Int),(K:Int))∧W≤65535∧K≤65535∧(∀ x∈t.Kids,x.Words.length≤W∧x.Kids.length≤K)∧sz t=1+((t.Kids.length * (W+K):Nat):Int)+(t.Kids.map szK).sum:=by
 have p:=h.pt
 have pk:=Z1l t
 obtain ⟨e,_,_,f0,f1,f2,f3,f4⟩:=Ybv (l:=t.Kids) (by omega) (fun x hx=>by
  obtain ⟨r1,r2⟩:=(Zk3 h.rt (by omega) (by omega)).2.2.2 x hx
  have k1:=(Zim (by omega) r2).2 h9
  obtain ⟨a1,a2,_⟩:=Zk3 r1 (by omega) (by omega)
  have:=a2 k1
  omega)
 obtain ⟨W,hW⟩:=Int.eq_ofNat_of_zero_le f0
 obtain ⟨K,hK⟩:=Int.eq_ofNat_of_zero_le f2
 rw [hW] at f1
 rw [hK] at f3
 refine ⟨W,K,Prod.ext hW hK,by omega,by omega,fun x hx => ?_,?_⟩
 ·have:=f4 x hx
  rw [hW,hK] at this
  omega
 rw [Zo3,if_neg (by omega),if_neg (by omega),if_neg (by omega),if_pos h9,e,hW,hK,← Int.natCast_add,← Int.natCast_mul]
 rfl
theorem Zwg:∀ (n:Nat) (t:Tr) (d:Nat),SizeOf.sizeOf t < n→Fine t d→¬ t.Kind=10→Sim t
 | 0,_,_,h,_,_=>by omega
 | n+1,t,d,h,hf,h10=>by
  have p:=hf.pt
  have pk:=Z1l t
  obtain ⟨g1,g2,_⟩:=Zka hf.rt
  by_cases h0:t.Kind=0
  ·exact Z3n h0
  obtain ⟨i1,i2,i3,i4⟩:=Zk3 hf.rt h0 h10
  have hk:¬ (2≤t.Kind∧t.Kind≤7)→∀ x∈t.Kids,Sim x∧0≤sz x:=fun hn x hx =>
   ⟨Zwg n x (d - 1) (by have:=Xt hx;omega) (hf.kid hx) (Zim hn (i4 x hx).2).1,(Z3r (hf.kid hx).rt (hf.kid hx).pt).1⟩
  by_cases h1:t.Kind=1
  ·exact fun l a ha hs=>(Zw5 h1 i1 (i2 h1) (hk (by omega)) l a ha hs).2
  by_cases h2:2≤t.Kind∧t.Kind≤7
  ·exact fun l a ha hs=>(Z81 h2 (by omega) (fun k hk=>Z9i h2 (hf.bd.all k hk) (hf.kid hk).rt (i4 k hk).2) l a ha hs).2
  by_cases h8:t.Kind=8
  ·exact fun l a ha hs=>(Z2w h8 (by omega) (hk (by omega)) l a ha hs).2
  have h9:t.Kind=9:=by omega
  obtain ⟨W,K,e1,e2,e3,e4,e5⟩:=Z4f hf h9
  exact fun l a ha hs=>(Z80 h9 (by omega) e1 e2 e3 e4 (fun x hx y hy=>by
   have k1:=(Zim (by omega) (i4 x hx).2).2 h9
   have j4:=(Zk3 (hf.kid hx).rt (by omega) (by omega)).2.2.2 y hy
   have fy:=(hf.kid hx).kid hy
   exact ⟨Zwg n y (d - 1 - 1) (by have:=Xt hx;have:=Xt hy;omega) fy (Zim (by omega) j4.2).1,(Z3r fy.rt fy.pt).1⟩) e5 l a ha hs).2
theorem Fine.nrm {t:Tr} {d:Nat} (h:Fine t d):Fine (nrm t) d:=⟨h.bd.nrm,rtN h.rt,Nat.le_trans (Z58 _ t (Nat.lt_succ_self _)) h.pt⟩
noncomputable def enc (t:Tr) (most:Int):List Int×Bool:=if t.Kind=10∨rt t 64=false then ([],false) else if most≤sz (nrm t)∨131072≤sz (nrm t) then ([],false) else (ly (nrm t) [0] 0,true)
theorem Ybx {t:Tr} (hf:Fine t 64) (h10:¬ t.Kind=10) (hs:sz t < 131072):((ly t [0] 0).length:Int)=1+sz t∧Zgt [0] 0 t=some (ly t [0] 0)∧(Zic 8 (IntKind.i64.wrap (1+sz t)) (0:Int)).bind (fun l11=>(Zbb (⟨l11,1⟩:Zg) 0 t).bind fun y13=>some (y13.words,true))=some (ly t [0] 0,true):=by
 have s0:=(Z3r hf.rt hf.pt).1
 obtain ⟨a,b,c⟩:=Zwg _ t 64 (Nat.lt_succ_self _) hf h10 [0] 0 (by decide) (by simp only [List.length_singleton];omega)
 simp only [List.length_singleton] at a c
 refine ⟨by omega,Zh8 (SizeOf.sizeOf t+1) fun k hk=>b k (by omega),?_⟩
 have e:Zbb (⟨zs [0] (1+sz t).toNat,1⟩:Zg) 0 t=some ⟨zs (ly t [0] 0) (1+sz t).toNat,((ly t [0] 0).length:Int)⟩:=Zh8 (4 * SizeOf.sizeOf t+1) fun k hk=>c (1+sz t).toNat k (by omega) (by omega) (by omega)
 have e2:List.replicate (1+sz t).toNat (0:Int)=zs [0] (1+sz t).toNat:=by
  unfold zs
  obtain ⟨m,hm⟩:∃ m,(1+sz t).toNat=m+1:=⟨(sz t).toNat,by omega⟩
  rw [hm,List.replicate_succ]
  rfl
 have e3:zs (ly t [0] 0) (1+sz t).toNat=ly t [0] 0:=by
  unfold zs
  rw [show (1+sz t).toNat - (ly t [0] 0).length=0 by omega,List.replicate_zero,List.append_nil]
 rw [Yg (by omega) (by omega),Zoj (by omega) (by omega) (by omega),Option.bind_some,e2,e,Option.bind_some,e3]
theorem Ziw {t:Tr} (hb:Bd t) (hp:pt t≤200000) (most:Int):Zbl t most=some (enc t most)∧U4 t most=some (enc t most)∧(((enc t most).1.length:Nat):Int)≤131072:=by
 unfold Zbl U4 enc
 rw [Z9t hb,Option.bind_some,show ((64:Int))=((64:Nat):Int) from rfl,Z7m hb (Nat.le_refl _),Option.bind_some]
 by_cases h10:t.Kind=10
 ·rw [if_pos (.inl h10),Zhn h10]
  simp
 cases hr:rt t 64 with
 | false =>
  rw [if_pos (.inr rfl),X2 h10]
  simp
 | true =>
  have hf:Fine (nrm t) 64:=Fine.nrm ⟨hb,hr,hp⟩
  have hn:=Z3r hf.rt hf.pt
  rw [if_neg (by simp [h10]),X2 h10]
  simp only [cond_false,cond_true,Bool.not_true,Option.bind_some]
  rw [Z08 hb,Zo0 hb,Option.bind_some,Option.bind_some,Yak (d:=64) hb.nrm hf.rt,Option.bind_some,Zs6,Z9x hf.rt,Option.bind_some,Option.bind_some,Yg (x:=sz (nrm t)) (by omega) (by omega),Yg (x:=1+sz (nrm t)) (by omega) (by omega)]
  by_cases q:most≤sz (nrm t)∨131072≤sz (nrm t)
  ·rw [if_pos q]
   have q1:(cond (decide (most < 1+sz (nrm t))) true (decide (131072 < 1+sz (nrm t))))=true:=by
    by_cases q2:most≤sz (nrm t)
    ·rw [decide_eq_true (by omega),cond_true]
    rw [decide_eq_false (by omega),cond_false,decide_eq_true (by omega)]
   have q2:(cond (decide (most≤sz (nrm t))) (some true) (some (cond (decide (most≤sz (nrm t))) true (decide (131072≤sz (nrm t))))))=some true:=by
    by_cases q2:most≤sz (nrm t)
    ·rw [decide_eq_true q2,cond_true]
    rw [decide_eq_false q2,cond_false,cond_false,decide_eq_true (by omega)]
   rw [q1,q2,cond_true,Option.bind_some,cond_true]
   exact ⟨rfl,rfl,by decide⟩
  rw [if_neg q]
  obtain ⟨a,b,c⟩:=Ybx hf (by rw [Zfz];exact h10) (by omega)
  rw [Yg (x:=1+sz (nrm t)) (by omega) (by omega)] at c
  have q1:(cond (decide (most < 1+sz (nrm t))) true (decide (131072 < 1+sz (nrm t))))=false:=by
   rw [decide_eq_false (by omega),cond_false,decide_eq_false (by omega)]
  have q2:(cond (decide (most≤sz (nrm t))) (some true) (some (cond (decide (most≤sz (nrm t))) true (decide (131072≤sz (nrm t))))))=some false:=by
   rw [decide_eq_false (by omega),cond_false,cond_false,decide_eq_false (by omega)]
  rw [q1,q2,cond_false,Option.bind_some,cond_false,c,b]
  exact ⟨rfl,rfl,by simp only;omega⟩
def T12:Tr:=⟨1,[5],[⟨8,[],[⟨0,[],[]⟩]⟩]⟩
theorem Ycv:Bd T12:=by
 have n:Bd ⟨0,[],[]⟩ := .mk _ (by decide) (by decide) (fun w hw=>by cases hw) (fun k hk=>by cases hk)
 have l:Bd ⟨8,[],[⟨0,[],[]⟩]⟩ := .mk _ (by decide) (by simp) (fun w hw=>by cases hw) (fun k hk=>by rw [List.mem_singleton.1 hk];exact n)
 exact .mk _ (by simp [T12]) (by simp [T12]) (fun w hw=>by rw [List.mem_singleton.1 hw];decide) (fun k hk=>by rw [List.mem_singleton.1 hk];exact l)
theorem Yap:Kk=some true:=by
 have p:pt T12≤200000:=by simp [T12,Znu]
 have r0:∀ d,rt ⟨0,[],[]⟩ d=true:=fun d=>by rw [Zd1];rfl
 have r8:rt ⟨8,[],[⟨0,[],[]⟩]⟩ 63=true:=by
  rw [Zd1,if_neg (by decide),if_neg (by decide),if_neg (by simp)]
  simp only [List.all_cons,List.all_nil,r0]
  rfl
 have r:rt T12 64=true:=by
  rw [Zd1,if_neg (by decide),if_neg (by decide),if_neg (by simp [T12])]
  simp only [T12,List.all_cons,List.all_nil,r8,Nat.reduceSub]
  rfl
 have nn:nrm T12=T12:=by simp [T12,Zh9,tr]
 have s:sz T12=3:=by simp [T12,Zo3]
 have sn:sz ⟨0,[],[]⟩=0:=by simp [Zo3]
 have sl:sz ⟨8,[],[⟨0,[],[]⟩]⟩=1:=by simp [Zo3]
 have f:Fine T12 64:=⟨Ycv,r,p⟩
 have e:enc T12 9=(ly T12 [0] 0,true):=by
  unfold enc
  rw [if_neg (by rw [r];simp [T12]),nn,s,if_neg (by decide)]
 have fl:Fine (⟨8,[],[⟨0,[],[]⟩]⟩:Tr) 63:=f.kid (.head _)
 have simn:Sim ⟨0,[],[]⟩:=Z3n rfl
 have siml:Sim ⟨8,[],[⟨0,[],[]⟩]⟩:=Zwg _ _ 63 (Nat.lt_succ_self _) fl (by decide)
 have e1:=(Zw5 (t:=T12) rfl (by decide) (by decide) (fun x hx=>by rw [List.mem_singleton.1 hx];exact ⟨siml,by rw [sl];decide⟩) [0] 0 (by decide) (by rw [s];decide)).1
 have e2:lyK (([0]:List Int).length+T12.Words.length) T12.Kids (RS1 T12 [0] 0)=ly ⟨8,[],[⟨0,[],[]⟩]⟩ [281479271677952,5,0] 2:=rfl
 have e3:=(Z2w (t:=⟨8,[],[⟨0,[],[]⟩]⟩) rfl (by decide) (fun x hx=>by rw [List.mem_singleton.1 hx];exact ⟨simn,by rw [sn];decide⟩) [281479271677952,5,0] 2 (by decide) (by rw [sl];decide)).1
 have e4:lyK ([281479271677952,5,0]:List Int).length (⟨8,[],[⟨0,[],[]⟩]⟩:Tr).Kids (Kc [281479271677952,5,0] ((2:Nat):Int) (hdL ⟨8,[],[⟨0,[],[]⟩]⟩ [281479271677952,5,0] 2)++List.replicate (⟨8,[],[⟨0,[],[]⟩]⟩:Tr).Kids.length 0)=ly ⟨0,[],[]⟩ [281479271677952,5,60129542145,0] 3:=rfl
 have ey:ly T12 [0] 0=[281479271677952,5,60129542145,0]:=by rw [e1,e2,e3,e4,Z82 rfl]
 unfold Kk
 have:=(Ziw Ycv p 9).1
 rw [e,ey] at this
 unfold T12 at this
 rw [this,Option.bind_some]
 simp only
 rw [cond_true,Ztp (by decide)]
 rfl
structure Nm (t:Tr) (d:Nat):Prop where
 f:Fine t d
 n:nrm t=t
 k:¬ t.Kind=10
theorem Nm.kid {t x:Tr} {d:Nat} (h:Nm t d) (h0:¬ t.Kind=0) (hx:x∈t.Kids) (h10:¬ x.Kind=10):Nm x (d - 1):=by
 refine ⟨h.f.kid hx,?_,h10⟩
 have hn:=h.n
 by_cases h1:t.Kind=1
 ·rw [Zb9 h1] at hn
  rw [← hn] at hx
  simp only at hx
  obtain ⟨y,_,rfl⟩:=List.mem_map.1 (Zk4 hx)
  exact Zs6 y
 rw [Zhv h0 h1] at hn
 rw [← hn] at hx
 simp only at hx
 obtain ⟨y,_,rfl⟩:=List.mem_map.1 hx
 exact Zs6 y
theorem Nm.words {t:Tr} {d:Nat} (h:Nm t d) (h1:t.Kind=1):tr (fun x=>x == 0) t.Words=t.Words:=by
 have hn:=h.n
 rw [Zb9 h1] at hn
 exact congrArg Za.Words hn
theorem Nm.kids {t:Tr} {d:Nat} (h:Nm t d) (h1:t.Kind=1):tr (fun x=>x.Kind == 0) t.Kids=t.Kids:=by
 have hn:=h.n
 rw [Zb9 h1] at hn
 have:=congrArg Za.Kids hn
 simp only at this
 rw [← this,Z0a]
theorem Nm.okids {t:Tr} {d:Nat} (h:Nm t d) (h18:t.Kind=1∨t.Kind=8):∀ x∈t.Kids,Nm x (d - 1):=fun x hx =>
 h.kid (by omega) hx (Zim (by omega) ((Zk3 h.f.rt (by omega) h.k).2.2.2 x hx).2).1
def hdS (t:Tr) (l:List Int) (a:Nat):Int:=Zs7 t l a % 1073741824 * 4+(t.Words.length:Int) * 4294967296+(t.Kids.length:Int) * 281474976710656
def hv (t:Tr) (l:List Int) (a:Nat) (c:Int):Int:=if t.Kind=0 then 0 else if t.Kind=1 then hdS t l a else ((l.length:Int) - a - 1) % 1073741824 * 4+1+(t.Kind - 2) * 4294967296+c * 34359738368
def StN (W K:Nat) (x:Tr):Prop:=x.Kind=1∧(∃ d,Nm x d)∧x.Words.length≤W∧x.Kids.length≤K
theorem StN.kids {W K:Nat} {x:Tr} (h:StN W K x):∀ y∈x.Kids,∃ d,Nm y d:=fun y hy=>by
 obtain ⟨k,⟨d,n⟩,_⟩:=h
 exact ⟨_,n.okids (.inl k) y hy⟩
section
variable {A:Zl}
theorem Z0w {f:Zc→Int→Tr×Int×Int} {g:Int→Zc×Int}:∀ (m i:Nat) (left:Int) (acc:List Tr),(Z6 f g m i left acc).2.2=0 →
  ∃ ts:List Tr,(Z6 f g m i left acc).1=acc++ts∧ts.length=m∧∀ (j:Nat) (x:Tr),ts[j]? = some x→(g ((i+j:Nat):Int)).2=0∧∃ l',(f (g ((i+j:Nat):Int)).1 l').2.2=0∧x=(f (g ((i+j:Nat):Int)).1 l').1
 | 0,i,left,acc,_=>⟨[],by simp [Z6],rfl,fun j x h=>by simp at h⟩
 | m+1,i,left,acc,h=>by
  rw [Z6] at h ⊢
  by_cases h1:(g i).2≠0
  ·rw [if_pos h1] at h;exact absurd h h1
  rw [if_neg h1] at h ⊢
  by_cases h2:(f (g i).1 left).2.2≠0
  ·rw [if_pos h2] at h;exact absurd h h2
  rw [if_neg h2] at h ⊢
  obtain ⟨ts,c1,c2,c3⟩:=Z0w m (i+1) _ _ h
  refine ⟨(f (g i).1 left).1::ts,by rw [c1,List.append_assoc];rfl,by rw [List.length_cons,c2],fun j x hx => ?_⟩
  cases j with
  | zero =>
   simp only [List.getElem?_cons_zero,Option.some.injEq] at hx
   exact ⟨by simpa using h1,left,by simpa using h2,by simpa using hx.symm⟩
  | succ j =>
   rw [List.getElem?_cons_succ] at hx
   have:=c3 j x hx
   rwa [show i+1+j=i+(j+1) by omega] at this
inductive MR (A:Zl):Zc→Tr→Prop
 | mk (r:Zc) (t:Tr) (ho:OKr A r) (hk:t.Kind=r.kind) (hw:t.Words=Xf A r) (hl:(t.Kids.length:Int)=Zy r)
   (he:∀ (i:Nat) (x:Tr),t.Kids[i]? = some x→(Z9 A r i).2=0) (hs:∀ (i:Nat) (x:Tr),t.Kids[i]? = some x→MR A (Z9 A r i).1 x):MR A r t
theorem MR.o {r:Zc} {t:Tr} (h:MR A r t):OKr A r:=by cases h;assumption
theorem MR.kd {r:Zc} {t:Tr} (h:MR A r t):t.Kind=r.kind:=by cases h;assumption
theorem MR.ws {r:Zc} {t:Tr} (h:MR A r t):t.Words=Xf A r:=by cases h;assumption
theorem MR.len {r:Zc} {t:Tr} (h:MR A r t):(t.Kids.length:Int)=Zy r:=by cases h;assumption
theorem MR.kid {r:Zc} {t:Tr} (h:MR A r t) {i:Nat} {x:Tr} (hx:t.Kids[i]? = some x):(Z9 A r i).2=0∧MR A (Z9 A r i).1 x:=by
 cases h with
 | mk _ _ _ _ _ _ he hs=>exact ⟨he i x hx,hs i x hx⟩
theorem Z8v {r:Zc} (h:OKr A r) (hk:r.kind=0∨r.kind=10):Zy r=0:=by
 cases h <;> simp_all [Zy,r0]
 omega
theorem Z50 {r:Zc} (h:OKr A r) (h0:Zy r=0):MR A r ⟨r.kind,Xf A r,[]⟩ := .mk _ _ h rfl rfl (by simp [h0]) (fun i x hx=>by simp at hx) (fun i x hx=>by simp at hx)
theorem Z51:∀ (d:Nat) (r:Zc) (left:Int),OKr A r→(K8 A d r left).2.2=0→MR A r (K8 A d r left).1:=fun d=>by
 induction d using Nat.strongRecOn with
 | _ d ih =>
  intro r left ho hq
  have iP:∀ (k:Nat) (r:Zc) (left:Int),0 < k→OKr A r→(Yn A k d r left).2.2=0→MR A r (Yn A k d r left).1:=fun k r left hk ho h=>by
   unfold Yn at h ⊢
   by_cases q:k≤d
   ·rw [if_pos q] at h ⊢
    exact ih (d - k) (by omega) r left ho h
   rw [if_neg q] at h
   simp [bad] at h
  rw [Zfy] at hq ⊢
  unfold Zeh at hq ⊢
  by_cases h0:r.kind=0
  ·rw [if_pos h0] at hq ⊢
   exact Z50 ho (Z8v ho (.inl h0))
  rw [if_neg h0] at hq ⊢
  by_cases h1:(d:Int) < lvR r∨left < wtR r
  ·rw [if_pos h1] at hq
   simp at hq
  rw [if_neg h1] at hq ⊢
  simp only at hq ⊢
  obtain ⟨ts,c1,c2,c3⟩:=Z0w _ _ _ _ hq
  have hn:=Zfr ho
  rw [c1,List.nil_append]
  have key:∀ (i:Nat) (x:Tr),ts[i]? = some x→(Z9 A r i).2=0∧MR A (Z9 A r i).1 x:=fun i x hx=>by
   have hi:i < ts.length:=(List.getElem?_eq_some_iff.1 hx).1
   obtain ⟨e1,l',e2,e3⟩:=c3 i x hx
   rw [Nat.zero_add] at e1 e2 e3
   refine ⟨e1,?_⟩
   have hi2:(0:Int)≤(i:Int)∧(i:Int) < Zy r:=by omega
   have hko:=Jq ho (i:Int)
   rw [e3]
   unfold J8 at e2 ⊢
   by_cases k9:r.kind=9
   ·rw [if_pos k9] at e2 ⊢
    have ks:=Zko (A:=A) k9 hi2
    generalize (Z9 A r (i:Int)).1=k at *
    unfold stK at e2 ⊢
    simp only at e2 ⊢
    obtain ⟨ts',d1,d2,d3⟩:=Z0w _ _ _ _ e2
    have hn':=Zfr hko
    have hp:Zy k=k.ptrs:=by unfold Zy;rw [if_pos ks]
    rw [d1,List.nil_append]
    refine .mk _ _ hko ks.symm rfl (by simp only;omega) (fun j y hy => ?_) (fun j y hy => ?_)
    ·have:=(d3 j y hy).1
     rwa [Nat.zero_add] at this
    obtain ⟨f1,l'',f2,f3⟩:=d3 j y hy
    rw [Nat.zero_add] at f1 f2 f3
    rw [f3]
    exact iP 2 _ _ (by decide) (Jq hko _) f2
   rw [if_neg k9] at e2 ⊢
   by_cases k18:r.kind=1∨r.kind=8
   ·rw [if_pos k18] at e2 ⊢
    exact iP 1 _ _ (by decide) hko e2
   rw [if_neg k18] at e2 ⊢
   have kk:=Z2v ho
   have k10:¬ r.kind=10:=fun h=>by
    have:=Z8v ho (.inr h)
    omega
   exact Z50 hko (Zt5 (A:=A) (by omega) hi2).2
  exact .mk _ _ ho rfl rfl (by simp only;omega) (fun i x hx=>(key i x hx).1) (fun i x hx=>(key i x hx).2)
end
theorem Zyy {f:Zc→Int→Tr×Int×Int} {g:Int→Zc×Int} {w':Tr→Nat}:∀ (ts:List Tr) (i:Nat) (left:Int) (acc:List Tr),
  (∀ (j:Nat) (x:Tr),ts[j]? = some x→(g ((i+j:Nat):Int)).2=0∧∀ l':Int,((w' x:Nat):Int)≤l'→f (g ((i+j:Nat):Int)).1 l'=(x,l' - ((w' x:Nat):Int),0))→(((ts.map w').sum:Nat):Int)≤left →
  Z6 f g ts.length i left acc=(acc++ts,left - (((ts.map w').sum:Nat):Int),0)
 | [],i,left,acc,_,_=>by simp [Z6]
 | x::ts,i,left,acc,h,hl=>by
  obtain ⟨e1,e2⟩:=h 0 x rfl
  rw [Nat.add_zero] at e1 e2
  have hs:(((x::ts).map w').sum:Nat)=w' x+(ts.map w').sum:=rfl
  rw [hs] at hl ⊢
  have e3:=e2 left (by omega)
  rw [List.length_cons,Z6,e1,if_neg (by simp),e3]
  simp only
  rw [if_neg (by simp),Zyy ts (i+1) _ _ (fun j y hy=>by
   have:=h (j+1) y (by rw [List.getElem?_cons_succ];exact hy)
   rwa [show i+(j+1)=i+1+j by omega] at this) (by omega),List.append_assoc]
  refine Prod.ext rfl (Prod.ext ?_ rfl)
  simp only
  omega
theorem Zuo {α:Type} {f:α→Nat} {c:Nat}:∀ {l:List α},(∀ x∈l,f x=c)→(l.map f).sum=l.length * c
 | [],_=>by simp
 | x::l,h=>by
  have:=Zuo (f:=f) (l:=l) fun y hy=>h y (.tail _ hy)
  simp only [List.map_cons,List.sum_cons,List.length_cons,this,h x (.head _),Nat.add_mul,Nat.one_mul]
  omega
theorem Z3p {α:Type} {f g:α→Nat} {c:Nat}:∀ {l:List α},(∀ x∈l,f x=c+g x)→(l.map f).sum=l.length * c+(l.map g).sum
 | [],_=>by simp
 | x::l,h=>by
  have:=Z3p (f:=f) (g:=g) (l:=l) fun y hy=>h y (.tail _ hy)
  simp only [List.map_cons,List.sum_cons,List.length_cons,this,h x (.head _),Nat.add_mul,Nat.one_mul]
  omega
theorem Zok {A:Zl} {r:Zc} {t:Tr} (h:MR A r t):(⟨r.kind,Xf A r,t.Kids⟩:Tr)=t:=by
 obtain ⟨a,b,c⟩:=t
 have h1:=h.kd
 have h2:=h.ws
 simp only at h1 h2
 rw [h1,h2]
def wtK (t:Tr):Nat:=(t.Kids.map wt).sum
theorem Z9z {t:Tr} {d:Nat} (h:rt t d=true) (h0:¬ t.Kind=0) (h1:¬ t.Kind=10):1≤d:=by
 rw [Zd1,if_neg h0,if_neg h1] at h
 by_cases hb:t.Kind < 0∨10 < t.Kind∨d=0∨65536≤t.Words.length∨(t.Kind=1∧65536≤t.Kids.length)∨1048576≤t.Kids.length∨(1 < t.Kind∧0 < t.Words.length)
 ·rw [if_pos hb] at h;cases h
 omega
theorem Yc4 {A:Zl}:∀ (d:Nat) (r:Zc) (u:Tr) (left:Int),MR A r u→rt u d=true→¬ u.Kind=10→((wt u:Nat):Int)≤left→K8 A d r left=(u,left - ((wt u:Nat):Int),0):=fun d=>by
 induction d using Nat.strongRecOn with
 | _ d ih =>
  intro r u left hm hr h10 hl
  have iP:∀ (k:Nat) (r:Zc) (u:Tr) (left:Int),0 < k→k≤d→MR A r u→rt u (d - k)=true→¬ u.Kind=10→((wt u:Nat):Int)≤left→Yn A k d r left=(u,left - ((wt u:Nat):Int),0):=fun k r u left hk hkd hm hr h10 hl=>by
   unfold Yn
   rw [if_pos hkd]
   exact ih (d - k) (by omega) r u left hm hr h10 hl
  have hkd:=hm.kd
  have hlen:=hm.len
  have hln:(Zy r).toNat=u.Kids.length:=by omega
  have hwe:=Z6m u
  rw [Zfy]
  unfold Zeh
  by_cases h0:r.kind=0
  ·rw [if_pos h0]
   have:=Z8v hm.o (.inl h0)
   have hk:u.Kids=[]:=List.length_eq_zero_iff.1 (by omega)
   have e:=Zok hm
   rw [hk] at e
   rw [if_pos (by omega)] at hwe
   rw [e,hwe]
   simp
  rw [if_neg h0]
  rw [if_neg (by omega),if_neg h10] at hwe
  have hd1:=Z9z hr (by omega) h10
  have hri:=Zk3 hr (by omega) h10
  -- a struct
  by_cases h1:r.kind=1
  ·have hw:=Zvl hm.o h1
   rw [← hm.ws] at hw
   have hk:Zy r=r.ptrs:=by unfold Zy;rw [if_pos h1]
   have ewt:wtR r=1+((u.Words.length:Int)+(u.Kids.length:Int)):=by unfold wtR;rw [if_neg h0,if_pos h1];omega
   have elv:lvR r=1:=by unfold lvR;rw [if_neg h0,if_neg (by omega)]
   rw [if_pos (by omega)] at hwe
   have ef:J8 A (Yn A 1 d) (Yn A 2 d) r=Yn A 1 d:=by unfold J8;rw [if_neg (by omega),if_pos (.inl h1)]
   have main:=Zyy (f:=Yn A 1 d) (g:=Z9 A r) (w':=wt) u.Kids 0 (left - wtR r) [] (fun j x hx=>by
    obtain ⟨e1,e2⟩:=hm.kid hx
    have hxm:=List.mem_of_getElem? hx
    rw [Nat.zero_add]
    exact ⟨e1,fun l' hl'=>iP 1 _ _ _ (by decide) hd1 e2 (hri.2.2.2 x hxm).1 (Zim (by omega) (hri.2.2.2 x hxm).2).1 hl'⟩) (by omega)
   rw [if_neg (by omega),hln,ef]
   simp only
   rw [main]
   simp only [List.nil_append]
   rw [Zok hm]
   refine Prod.ext rfl (Prod.ext ?_ rfl)
   simp only
   omega
  have hk:Zy r=r.count:=by unfold Zy;rw [if_neg h1]
  rw [if_neg (by omega)] at hwe
  by_cases h9:r.kind=9
  ·rw [if_neg (by omega)] at hwe
   have st:∀ (j:Nat) (x:Tr),u.Kids[j]? = some x→MR A ⟨some A,1,r.segment,r.at_+1+(j:Int) * (r.words+r.ptrs),r.words,r.ptrs,0,0,0⟩ x∧(x.Words.length:Int)=r.words∧(x.Kids.length:Int)=r.ptrs∧x.Kind=1:=fun j x hx=>by
    obtain ⟨e1,e2⟩:=hm.kid hx
    have hj:j < u.Kids.length:=(List.getElem?_eq_some_iff.1 hx).1
    have hks:=Z4o (A:=A) h9 (i:=(j:Int)) (by omega)
    rw [hks] at e2
    have q1:=e2.kd
    have q2:=Zvl e2.o rfl
    rw [← e2.ws] at q2
    have q3:=e2.len
    exact ⟨e2,q2,q3,q1⟩
   by_cases hn:u.Kids.length=0
   ·have hz:u.Kids=[]:=List.length_eq_zero_iff.1 hn
    have ewt:wtR r=1:=by unfold wtR;rw [if_neg h0,if_neg h1,if_pos h9,← hk,← hlen,hn];simp
    have elv:lvR r=1:=by unfold lvR;rw [if_neg h0,if_neg (by omega)]
    rw [if_neg (by rw [hz] at hwe;simp at hwe;omega),hln,hn]
    simp only [Z6]
    have e:=Zok hm
    rw [hz] at e
    rw [e,hwe,hz,ewt]
    rfl
   obtain ⟨x0,hx0⟩:∃ x,u.Kids[0]? = some x:=⟨_,List.getElem?_eq_getElem (by omega)⟩
   obtain ⟨_,w0,p0,k0⟩:=st 0 x0 hx0
   have hd2:2≤d:=by
    have:=Z9z (hri.2.2.2 x0 (List.mem_of_getElem? hx0)).1 (by omega) (by omega)
    omega
   have hsum:(u.Kids.map wt).sum=u.Kids.length * (1+(x0.Words.length+x0.Kids.length))+(u.Kids.map wtK).sum:=Z3p fun x hx=>by
    obtain ⟨j,hj⟩:=List.mem_iff_getElem?.1 hx
    obtain ⟨_,q1,q2,q3⟩:=st j x hj
    rw [Z6m,if_neg (by omega),if_neg (by omega),if_pos q3]
    unfold wtK
    omega
   have ewt:wtR r=1+((u.Kids.length * (1+(x0.Words.length+x0.Kids.length)):Nat):Int):=by
    unfold wtR
    rw [if_neg h0,if_neg h1,if_pos h9,← w0,← p0,← hk,← hlen,Int.natCast_mul,Int.natCast_add,Int.natCast_add,← Int.add_assoc]
    rfl
   have elv:lvR r=2:=by unfold lvR;rw [if_neg h0,if_pos ⟨h9,by omega⟩]
   have ef:J8 A (Yn A 1 d) (Yn A 2 d) r=stK A (Yn A 2 d):=by unfold J8;rw [if_pos h9]
   have main:=Zyy (f:=stK A (Yn A 2 d)) (g:=Z9 A r) (w':=wtK) u.Kids 0 (left - wtR r) [] (fun j x hx=>by
    obtain ⟨e2,q1,q2,q3⟩:=st j x hx
    have hj:j < u.Kids.length:=(List.getElem?_eq_some_iff.1 hx).1
    have hxr:=hri.2.2.2 x (List.mem_of_getElem? hx)
    have hxi:=Zk3 hxr.1 (by omega) (by omega)
    have hks:=Z4o (A:=A) h9 (i:=(j:Int)) (by omega)
    rw [Nat.zero_add,hks]
    refine ⟨rfl,fun l' hl' => ?_⟩
    unfold stK
    have hp:(r.ptrs).toNat=x.Kids.length:=by omega
    have inner:=Zyy (f:=Yn A 2 d) (g:=Z9 A ⟨some A,1,r.segment,r.at_+1+(j:Int) * (r.words+r.ptrs),r.words,r.ptrs,0,0,0⟩) (w':=wt) x.Kids 0 l' [] (fun j' y hy=>by
     obtain ⟨f1,f2⟩:=e2.kid hy
     have hym:=List.mem_of_getElem? hy
     rw [Nat.zero_add]
     refine ⟨f1,fun l'' hl''=>iP 2 _ _ _ (by decide) hd2 f2 ?_ (Zim (by omega) (hxi.2.2.2 y hym).2).1 hl''⟩
     rw [show d - 2=d - 1 - 1 by omega]
     exact (hxi.2.2.2 y hym).1) hl'
    simp only
    rw [hp,inner]
    simp only [List.nil_append]
    have e:=Zok e2
    simp only at e
    rw [e]
    rfl) (by omega)
   rw [if_neg (by omega),hln,ef]
   simp only
   rw [main]
   simp only [List.nil_append]
   rw [Zok hm]
   refine Prod.ext rfl (Prod.ext ?_ rfl)
   simp only
   omega
  have ewt:wtR r=1+(u.Kids.length:Int):=by unfold wtR;rw [if_neg h0,if_neg h1,if_neg h9];omega
  have elv:lvR r=1:=by unfold lvR;rw [if_neg h0,if_neg (by omega)]
  by_cases h8:r.kind=8
  ·rw [if_pos (by omega)] at hwe
   have ef:J8 A (Yn A 1 d) (Yn A 2 d) r=Yn A 1 d:=by unfold J8;rw [if_neg (by omega),if_pos (.inr h8)]
   have main:=Zyy (f:=Yn A 1 d) (g:=Z9 A r) (w':=wt) u.Kids 0 (left - wtR r) [] (fun j x hx=>by
    obtain ⟨e1,e2⟩:=hm.kid hx
    have hxm:=List.mem_of_getElem? hx
    rw [Nat.zero_add]
    exact ⟨e1,fun l' hl'=>iP 1 _ _ _ (by decide) hd1 e2 (hri.2.2.2 x hxm).1 (Zim (by omega) (hri.2.2.2 x hxm).2).1 hl'⟩) (by omega)
   rw [if_neg (by omega),hln,ef]
   simp only
   rw [main]
   simp only [List.nil_append]
   rw [Zok hm]
   refine Prod.ext rfl (Prod.ext ?_ rfl)
   simp only
   omega
  rw [if_neg (by omega)] at hwe
  have kk:=Z2v hm.o
  have h27:2≤u.Kind∧u.Kind≤7:=by omega
  have hone:(u.Kids.map wt).sum=u.Kids.length * 1:=Zuo fun x hx=>by
   have:=(hri.2.2.2 x hx).2
   unfold okk at this
   rw [if_pos h27,Bool.and_eq_true,beq_iff_eq] at this
   rw [Z6m,if_neg (by omega),if_pos this.1]
  have hz:(u.Kids.map fun _=>0).sum=u.Kids.length * 0:=Zuo fun x hx=>rfl
  have ef:J8 A (Yn A 1 d) (Yn A 2 d) r=Zhk A:=by unfold J8;rw [if_neg (by omega),if_neg (by omega)]
  have main:=Zyy (f:=Zhk A) (g:=Z9 A r) (w':=fun _=>0) u.Kids 0 (left - wtR r) [] (fun j x hx=>by
   obtain ⟨e1,e2⟩:=hm.kid hx
   have hj:j < u.Kids.length:=(List.getElem?_eq_some_iff.1 hx).1
   have q:=Zt5 (A:=A) (r:=r) (by omega) (i:=(j:Int)) (by omega)
   rw [Nat.zero_add]
   refine ⟨e1,fun l' hl' => ?_⟩
   have e:=Zok e2
   have hl2:=e2.len
   have hk0:x.Kids=[]:=List.length_eq_zero_iff.1 (by omega)
   rw [hk0] at e
   unfold Zhk
   rw [e]
   simp) (by rw [hz];omega)
  rw [if_neg (by omega),hln,ef]
  simp only
  rw [main,hz]
  simp only [List.nil_append]
  rw [Zok hm]
  refine Prod.ext rfl (Prod.ext ?_ rfl)
  simp only
  omega
theorem Z2g {t:Tr} (hm:Nm t 64) {most:Int} (hs:sz t < 131072) (h:sz t < most):enc t most=(ly t [0] 0,true):=by
 unfold enc
 rw [if_neg (by rintro (q | q);exact hm.k q;rw [hm.f.rt] at q;cases q),hm.n,if_neg (by omega)]
theorem Yby:∀ (n:Nat) (t:Tr) (d:Nat),SizeOf.sizeOf t < n→rt t d=true→(t.Kind=0→pt t=1)∧(¬ t.Kind=0→pt t+1≤3 * wt t)
 | 0,_,_,h,_=>by omega
 | n+1,t,d,h,hr=>by
  have g:=Zka hr
  have ih:∀ x∈t.Kids,(x.Kind=0→pt x=1)∧(¬ x.Kind=0→pt x+1≤3 * wt x):=fun x hx=>Yby n x (d - 1) (by have:=Xt hx;omega) (g.2.2.2.2 x hx)
  have hp:=Znu t
  have hwe:=Z6m t
  refine ⟨fun h0 => ?_,fun h0 => ?_⟩
  ·have:=hr
   rw [Zd1,if_pos h0,Bool.and_eq_true,beq_iff_eq,beq_iff_eq] at this
   rw [hp,List.length_eq_zero_iff.1 this.2,this.1]
   rfl
  rw [if_neg h0] at hwe
  by_cases h10:t.Kind=10
  ·obtain ⟨w,hw⟩:=Zqi h10 hr
   rw [if_pos h10] at hwe
   rw [hp,hwe,hw,g.2.2.2.1 (.inr h10)]
   simp
  rw [if_neg h10] at hwe
  have hri:=Zk3 hr h0 h10
  have s1:(t.Kids.map pt).sum≤(t.Kids.map fun x=>3 * wt x+1).sum:=Z5a t.Kids fun x hx=>by
   have:=ih x hx
   by_cases q:x.Kind=0
   ·have:=this.1 q;omega
   have:=this.2 q;omega
  rw [Zxz (fun x=>3 * wt x),Z1u] at s1
  by_cases h1:t.Kind=1
  ·rw [if_pos h1] at hwe
   omega
  have hw0:=hri.2.2.1 (by omega)
  rw [hw0] at hp
  simp only [List.length_nil] at hp
  rw [if_neg h1] at hwe
  by_cases h8:t.Kind=8
  ·rw [if_pos h8] at hwe
   omega
  rw [if_neg h8] at hwe
  have s2:(t.Kids.map fun x=>pt x+1).sum≤(t.Kids.map fun x=>3 * wt x).sum:=Z5a t.Kids fun x hx=>by
   have:=(hri.2.2.2 x hx).2
   unfold okk at this
   refine (ih x hx).2 ?_
   by_cases q:2≤t.Kind∧t.Kind≤7
   ·rw [if_pos q,Bool.and_eq_true,beq_iff_eq] at this
    omega
   have:=(Zim q (hri.2.2.2 x hx).2).2 (by omega)
   omega
  rw [Zxz,Z1u] at s2
  omega
section
variable {A:Zl}
theorem Ya5 (hw:WS A.segments) {d:Nat} (hd:d≤64) {r:Zc} (ho:OKr A r) (h10:r.kind≠10) {left:Int} (h0:0≤left) (h1:left≤65536) (hq:(K8 A d r left).2.2=0) :
  ((wt (K8 A d r left).1:Nat):Int)≤left∧rt (K8 A d r left).1 d=true∧(K8 A d r left).1.Kind=r.kind:=by
 obtain ⟨a1,a2,a3,a4⟩:=Yav hw d hd r left ho h10 h0 h1 hq
 have hm:=Z51 d r left ho hq
 have e:=Yc4 d r (K8 A d r left).1 (left+((wt (K8 A d r left).1:Nat):Int)) hm a4.2.2 (by rw [a3];exact h10) (by omega)
 have:=(Ya7 (A:=A) d d (Nat.le_refl _) r left ((wt (K8 A d r left).1:Nat):Int) h0 (by omega) hq).2
 rw [e] at this
 simp only at this
 exact ⟨by omega,a4.2.2,a3⟩
theorem Z7y (hw:WS A.segments) (x:Z0) (h:(Zki A x).2.2=0):Fine (Zki A x).1 64∧¬ (Zki A x).1.Kind=10∧(atR A 0 0).2=0∧MR A (atR A 0 0).1 (Zki A x).1:=by
 have hl:=Z4s x
 have hb:=Ybm (A:=A) hw x
 rcases Z1x (A:=A) x with ⟨h1,h2,h3⟩ | ⟨h1,h2,h3,h4,h5⟩
 ·exact absurd h h1
 rw [h5] at hb ⊢
 have hk:=Z8c (A:=A) 0 0
 obtain ⟨m1,m2,m3⟩:=Ya5 hw hl.1 (Zjh (A:=A) 0 0) hk hl.2.1 hl.2.2 h4
 have r64:=Z6b _ _ (Nat.lt_succ_self _) _ 64 hl.1 m2
 have p:=Yby _ _ _ (Nat.lt_succ_self _) m2
 refine ⟨⟨hb,r64,?_⟩,by rw [m3];exact hk,h3,Z51 _ _ _ (Zjh 0 0) h4⟩
 by_cases q:(K8 A (V3 x).Depth.toNat (atR A 0 0).1 (V3 x).Weight).1.Kind=0
 ·have:=p.1 q;omega
 have:=p.2 q;omega
end
theorem Zwo {l:List Int} (hw:WS [l]) (x:Z0):Vu l x=some true:=by
 obtain ⟨w,hx⟩:=Z86 x
 unfold Vu
 rw [hx,Option.bind_some]
 generalize (⟨x.Depth,w,x.MaxD,x.MaxOut⟩:Z0)=y
 have hll:l.length * 8≤140737488355328:=hw.s l (.head _)
 have hmsg:=Z4t (A:=⟨[l],0,0⟩) hw y
 have hb0:Bd ⟨0,[],[]⟩ := .mk _ (by simp) (by simp) (by simp) (by simp)
 have hz:K6 ⟨0,[],[]⟩ ⟨0,[],[]⟩=some true:=by rw [Z6e hb0 hb0,eqT_iff.2 rfl]
 have hu:Vj [l] y=some (Zki ⟨[l],0,0⟩ y):=Z7z (A:=⟨[l],0,0⟩) hw y
 unfold Zfs
 rw [Yb4 hw,Option.bind_some,hmsg,Option.bind_some,Yap]
 simp only
 rw [hu]
 by_cases he:(Zki ⟨[l],0,0⟩ y).2.2=0
 ·obtain ⟨hf,hk,ha,_⟩:=Z7y (A:=⟨[l],0,0⟩) hw y he
  have hl0:0 < l.length:=by
   by_cases q:l=[]
   ·subst q
    exact absurd ha (by decide)
   have:=List.length_pos_iff.2 q
   exact this
  generalize Zki ⟨[l],0,0⟩ y=u at *
  rw [he,show ((0:Int) != 0)=false from rfl,cond_false]
  have hn:Fine (nrm u.1) 64:=hf.nrm
  have hm:Nm (nrm u.1) 64:=⟨hn,Zs6 _,by rw [Zfz];exact hk⟩
  have hsz:=Z3r hn.rt hn.pt
  have hs:K6 (nrm u.1) (nrm u.1)=some true:=by rw [Z6e hn.bd hn.bd,eqT_iff.2 rfl]
  rw [(Ziw hn.bd hn.pt _).1,Option.bind_some]
  by_cases q:131072≤sz (nrm u.1)
  ·have e1:∀ most,enc (nrm u.1) most=([],false):=fun most=>by
    unfold enc
    rw [if_neg (by rintro (q | q);exact hm.k q;rw [hn.rt] at q;cases q),hm.n,if_pos (.inr q)]
   have hsame:Qv l []=some (l == []):=Ztp (by omega)
   have hne:(l == [])=false:=by
    rw [beq_eq_false_iff_ne]
    intro h
    rw [h] at hl0
    exact absurd hl0 (by decide)
   rw [e1]
   simp only [cond_false,Option.bind_some,cond_true]
   rw [he,show ((0:Int) != 0)=false from rfl,cond_false,Zo0 hf.bd,Option.bind_some,(Ziw hn.bd hn.pt _).2.1,Option.bind_some,e1]
   simp only
   rw [hsame,hne]
   simp [hz]
  have hlen:=(Ybx hn hm.k (by omega)).1
  have e2:=Z2g hm (most:=131072) (by omega) (by omega)
  have hsame:Qv l (ly (nrm u.1) [0] 0)=some (l == ly (nrm u.1) [0] 0):=Ztp (by omega)
  by_cases q2:(l.length:Int)≤sz (nrm u.1)
  ·have e1:enc (nrm u.1) (l.length:Int)=([],false):=by
    unfold enc
    rw [if_neg (by rintro (q | q);exact hm.k q;rw [hn.rt] at q;cases q),hm.n,if_pos (.inl q2)]
   have hne:(l == ly (nrm u.1) [0] 0)=false:=by
    rw [beq_eq_false_iff_ne]
    intro h
    have:=congrArg List.length h
    omega
   rw [e1]
   simp only [cond_false,Option.bind_some,cond_true]
   rw [he,show ((0:Int) != 0)=false from rfl,cond_false,Zo0 hf.bd,Option.bind_some,(Ziw hn.bd hn.pt _).2.1,Option.bind_some,e2]
   simp only
   rw [hsame,hne]
   simp [hz]
  rw [Z2g hm (by omega) (by omega)]
  simp only [cond_true]
  rw [Z60 (by omega),Option.bind_some,Option.bind_some]
  by_cases q3:ly (nrm u.1) [0] 0=l
  ·have b1:(ly (nrm u.1) [0] 0 == l)=true:=beq_iff_eq.2 q3
   have b2:(l == ly (nrm u.1) [0] 0)=true:=beq_iff_eq.2 q3.symm
   rw [b1]
   simp only [Bool.not_true,cond_false,Option.bind_some]
   rw [he,show ((0:Int) != 0)=false from rfl,cond_false,Zo0 hf.bd,Option.bind_some,(Ziw hn.bd hn.pt _).2.1,Option.bind_some,e2]
   simp only
   rw [hsame,b2]
   simp [hs]
  have b1:(ly (nrm u.1) [0] 0 == l)=false:=beq_eq_false_iff_ne.2 q3
  have b2:(l == ly (nrm u.1) [0] 0)=false:=beq_eq_false_iff_ne.2 fun h=>q3 h.symm
  rw [b1]
  simp only [Bool.not_true,Bool.not_false,cond_false,cond_true,Option.bind_some]
  rw [he,show ((0:Int) != 0)=false from rfl,cond_false,Zo0 hf.bd,Option.bind_some,(Ziw hn.bd hn.pt _).2.1,Option.bind_some,e2]
  simp only
  rw [hsame,b2]
  simp [hz]
 have he':((Zki ⟨[l],0,0⟩ y).2.2 != 0)=true:=bne_iff_ne.2 he
 rw [he',cond_true,Option.bind_some,Option.bind_some,he',cond_true]
 simp [hz]
end Go.Proofs.YtpfbdlcnfekdkaaGreat
