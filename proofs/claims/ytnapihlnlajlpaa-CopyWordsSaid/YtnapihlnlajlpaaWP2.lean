/- Plain facts on this seat's mirrors (part WP2); each theorem bears its own conditions. -/
import Derived.Test.YtnapihlnlajlpaaWP1
import Derived.IntWalk
namespace Go.Proofs.Ytnapihlnlajlpaa
open Go.RowKit
set_option linter.unusedVariables false
set_option linter.unusedSimpArgs false
theorem Yaf {k:Int} {t:Tr} (h:okk k t=true):okk k (nrm t)=true:=by
 unfold okk at h ⊢
 rw [Qg]
 split
 ·rename_i hk
  rw [if_pos hk,Bool.and_eq_true,beq_iff_eq] at h
  rw [Zdr (by omega) (by omega),h.1]
  simp only [BEq.rfl,Bool.true_and]
  exact h.2
 rename_i hk
 rw [if_neg hk] at h
 exact h
theorem Z8t:∀ (n:Nat) (t:Tr) (d:Nat),SizeOf.sizeOf t < n→rt t d=true→rt (nrm t) d=true
 | 0,_,_,h,_=>by omega
 | n+1,t,d,hn,h=>by
  have hk:=Qg t
  by_cases h0:t.Kind=0
  ·rw [Znq h0,Zfe,if_pos rfl];rfl
  rw [Zfe,if_neg h0] at h
  by_cases h10:t.Kind=10
  ·rw [if_pos h10] at h
   rw [Zdr h0 (by omega),Zfe,if_neg h0,if_pos h10]
   simp only [List.length_map]
   exact h
  rw [if_neg h10] at h
  by_cases hc:t.Kind < 0∨10 < t.Kind∨d=0∨65536≤t.Words.length∨(t.Kind=1∧65536≤t.Kids.length)∨1048576≤t.Kids.length∨(1 < t.Kind∧0 < t.Words.length)
  ·rw [if_pos hc] at h;cases h
  rw [if_neg hc,List.all_eq_true] at h
  have hkid:∀ x∈t.Kids,(rt (nrm x) (d - 1) && okk t.Kind (nrm x))=true:=fun x hx=>by
   have:=h x hx
   rw [Bool.and_eq_true] at this ⊢
   exact ⟨Z8t n x (d - 1) (by have:=Y8 hx;omega) this.1,Yaf this.2⟩
  by_cases h1:t.Kind=1
  ·obtain ⟨W,K,e1,lW,lK,mK⟩:∃ W K,nrm t=⟨1,W,K⟩∧W.length≤t.Words.length∧K.length≤t.Kids.length∧∀ x∈K,x∈t.Kids.map nrm :=
    ⟨_,_,Gj h1,Zd7 _ _,by have h:=Zd7 (fun x:Tr=>x.Kind == 0) (t.Kids.map nrm);rw [List.length_map] at h;exact h,fun x hx=>Zjy hx⟩
   rw [e1,Zfe]
   simp only
   rw [if_neg (by decide),if_neg (by decide),if_neg (by omega),List.all_eq_true]
   intro x hx
   obtain ⟨y,hy,rfl⟩:=List.mem_map.1 (mK x hx)
   rw [← h1]
   exact hkid y hy
  rw [Zdr h0 h1,Zfe]
  simp only [List.length_map]
  rw [if_neg h0,if_neg h10,if_neg hc,List.all_eq_true]
  intro x hx
  obtain ⟨y,hy,rfl⟩:=List.mem_map.1 hx
  exact hkid y hy
theorem rtN {t:Tr} {d:Nat} (h:rt t d=true):rt (nrm t) d=true:=Z8t _ t d (Nat.lt_succ_self _) h
def atD {α:Type} (z:α) (l:List α) (i:Nat):α:=(l[i]?).getD z
def p0 (x:Int):Bool:=x == 0
def pT (x:Tr):Bool:=x.Kind == 0
instance decTr:DecidableEq Tr:=fun a b=>decidable_of_iff (eqT a b=true) Z9s
def NT (t:Tr):Prop:=nrm t=t
theorem NT.of (t:Tr):NT (nrm t):=Zso t
theorem NT.z:NT n0T:=Znq rfl
theorem NT.kids {t:Tr} (h:NT t):∀ k∈t.Kids,NT k:=fun k hk=>by
 unfold NT at h
 rw [← h] at hk
 by_cases h0:t.Kind=0
 ·rw [Znq h0] at hk;cases hk
 by_cases h1:t.Kind=1
 ·rw [Gj h1] at hk
  obtain ⟨y,_,rfl⟩:=List.mem_map.1 (Zjy hk)
  exact NT.of y
 rw [Zdr h0 h1] at hk
 obtain ⟨y,_,rfl⟩:=List.mem_map.1 hk
 exact NT.of y
theorem NT.map {l:List Tr} (h:∀ k∈l,NT k):l.map nrm=l:=by
 conv=>rhs;rw [← List.map_id l]
 exact List.map_congr_left fun x hx=>h x hx
theorem NT.words {t:Tr} (h:NT t) (h1:t.Kind=1):tr p0 t.Words=t.Words∧tr pT t.Kids=t.Kids:=by
 have hk:=NT.map h.kids
 unfold NT at h
 rw [Gj h1] at h
 have hw:=congrArg Zb.Words h
 have hk2:=congrArg Zb.Kids h
 simp only at hw hk2
 rw [hk] at hk2
 exact ⟨hw,hk2⟩
theorem NT.st {ws:List Int} {ks:List Tr} (h:∀ k∈ks,NT k):NT ⟨1,tr p0 ws,tr pT ks⟩:=by
 unfold NT
 rw [Gj rfl]
 simp only
 rw [NT.map (l:=tr pT ks) fun k hk=>h k (Zjy hk)]
 congr 1
 ·exact Zzm ws
 exact Zzm ks
theorem NT.li {k:Int} {ks:List Tr} (h0:¬ k=0) (h1:¬ k=1) (h:∀ k∈ks,NT k):NT ⟨k,[],ks⟩:=by
 unfold NT
 rw [Zdr h0 h1]
 simp only
 rw [NT.map h]
inductive Rg:Tr→Prop
 | mk (t:Tr) (h3:∀ w∈t.Words,0≤w∧w < 18446744073709551616) (h4:∀ k∈t.Kids,Rg k):Rg t
theorem Rg.u {t:Tr} (h:Rg t):∀ w∈t.Words,0≤w∧w < 18446744073709551616:=by cases h;assumption
theorem Rg.all {t:Tr} (h:Rg t):∀ k∈t.Kids,Rg k:=by cases h;assumption
theorem Rg.z:Rg n0T := .mk _ (by simp [n0T]) (by simp [n0T])
theorem Rg.of:∀ (n:Nat) (t:Tr),SizeOf.sizeOf t < n→Bd t→Rg t
 | 0,_,h,_=>by omega
 | n+1,t,hn,h => .mk _ h.u fun k hk=>Rg.of n k (by have:=Y8 hk;omega) (h.all k hk)
theorem Bd.rg {t:Tr} (h:Bd t):Rg t:=Rg.of _ t (Nat.lt_succ_self _) h
inductive TX:Tr→Prop
 | mk (t:Tr) (h1:2≤t.Kind∧t.Kind≤9→t.Words=[]) (h9:t.Kind=9→∀ k∈t.Kids,k.Kind=1) (ih:∀ k∈t.Kids,TX k):TX t
theorem TX.w {t:Tr} (h:TX t):2≤t.Kind∧t.Kind≤9→t.Words=[]:=by cases h;assumption
theorem TX.s {t:Tr} (h:TX t):t.Kind=9→∀ k∈t.Kids,k.Kind=1:=by cases h;assumption
theorem TX.all {t:Tr} (h:TX t):∀ k∈t.Kids,TX k:=by cases h;assumption
theorem TX.z:TX n0T := .mk _ (fun _=>rfl) (fun h=>by simp [n0T] at h) (by simp [n0T])
theorem TX.nn:∀ (n:Nat) (t:Tr),SizeOf.sizeOf t < n→TX t→TX (nrm t)
 | 0,_,h,_=>by omega
 | n+1,t,hn,h=>by
  by_cases h0:t.Kind=0
  ·rw [Znq h0];exact TX.z
  by_cases h1:t.Kind=1
  ·rw [Gj h1]
   refine .mk _ (fun h=>by simp only at h;omega) (fun h=>by simp only at h;omega) fun k hk => ?_
   obtain ⟨y,hy,rfl⟩:=List.mem_map.1 (Zjy hk)
   exact TX.nn n y (by have:=Y8 hy;omega) (h.all y hy)
  rw [Zdr h0 h1]
  refine .mk _ h.w (fun h9 k hk => ?_) fun k hk => ?_
  ·obtain ⟨y,hy,rfl⟩:=List.mem_map.1 hk
   rw [Qg];exact h.s h9 y hy
  obtain ⟨y,hy,rfl⟩:=List.mem_map.1 hk
  exact TX.nn n y (by have:=Y8 hy;omega) (h.all y hy)
theorem TX.n {t:Tr} (h:TX t):TX (nrm t):=TX.nn _ t (Nat.lt_succ_self _) h
theorem Z4f {α:Type} {z:α} {l:List α} {i:Nat}:atD z l i∈l∨atD z l i=z:=by
 unfold atD
 cases h:l[i]? with
 | none=>exact .inr rfl
 | some x=>exact .inl (List.mem_of_getElem? h)
theorem Zzx {l:List Tr} {Q:Tr→Prop} (h:∀ x∈l,Q x) (hz:Q n0T) (i:Nat):Q (atD n0T l i):=by
 rcases Z4f (z:=n0T) (l:=l) (i:=i) with q | q
 ·exact h _ q
 rw [q];exact hz
theorem Ybf {l:List Int} (h:∀ x∈l,0≤x∧x < 18446744073709551616) (i:Nat):0≤atD 0 l i∧atD 0 l i < 18446744073709551616:=by
 rcases Z4f (z:=(0:Int)) (l:=l) (i:=i) with q | q
 ·exact h _ q
 rw [q];omega
structure GT (t:Tr):Prop where
 n:NT t
 g:Rg t
 x:TX t
theorem GT.z:GT n0T:=⟨NT.z,Rg.z,TX.z⟩
theorem GT.all {t:Tr} (h:GT t):∀ k∈t.Kids,GT k:=fun k hk=>⟨h.n.kids k hk,h.g.all k hk,h.x.all k hk⟩
theorem GT.at_ {t:Tr} (h:GT t) (i:Nat):GT (atD n0T t.Kids i):=⟨Zzx h.n.kids NT.z i,Zzx h.g.all Rg.z i,Zzx h.x.all TX.z i⟩
theorem GT.of {t:Tr} (hb:Bd t) (hx:TX t):GT (nrm t):=⟨NT.of t,hb.nrm.rg,hx.n⟩
def Yet {α:Type} (f:α→α→Option α):Option α→Option α→Option α
 | some x,some y=>f x y
 | some x,none=>some x
 | none,y=>y
def Rise {α:Type} (pl:α→Int) (l:List α):Prop:=l.Pairwise (fun a b=>pl a < pl b)∧∀ x∈l,0≤pl x
theorem Rise.tail {α:Type} {pl:α→Int} {x:α} {l:List α} (h:Rise pl (x::l)):Rise pl l:=⟨(List.pairwise_cons.1 h.1).2,fun y hy=>h.2 y (.tail _ hy)⟩
theorem GT.w {t:Tr} (h:GT t) (j:Nat):0≤atD 0 t.Words j∧atD 0 t.Words j < 18446744073709551616:=Ybf h.g.u j
theorem w_l (a b:Int):IntKind.i64.wrap (IntKind.i64.wrap a+b)=IntKind.i64.wrap (a+b):=by rw [IntKind.wrap_i64 a,IntKind.wrap_i64,IntKind.wrap_i64];omega
theorem w_r (a b:Int):IntKind.i64.wrap (a+IntKind.i64.wrap b)=IntKind.i64.wrap (a+b):=by rw [IntKind.wrap_i64 b,IntKind.wrap_i64,IntKind.wrap_i64];omega
theorem w_w (a:Int):IntKind.i64.wrap (IntKind.i64.wrap a)=IntKind.i64.wrap a:=by rw [IntKind.wrap_i64 a,IntKind.wrap_i64];omega
theorem Z87 (a b:Int):IntKind.i64.wrap (IntKind.i64.wrap a+IntKind.i64.wrap b)=IntKind.i64.wrap (a+b):=by rw [w_l,w_r]
theorem Zik {α:Type} (g:α→Int):∀ (l:List α) (s:Int),l.foldl (fun s x=>s+g x) s=s+(l.map g).sum
 | [],s=>by simp
 | x::l,s=>by rw [List.foldl_cons,Zik g l,List.map_cons,List.sum_cons];omega
def frS (s:Int×Int) (x:Tr):Int×Int:=(if s.1 < (x.Words.length:Int) then (x.Words.length:Int) else s.1,if s.2 < (x.Kids.length:Int) then (x.Kids.length:Int) else s.2)
def fr (l:List Tr):Int×Int:=l.foldl frS (0,0)
theorem Zv3 {t:Tr} (hl:(t.Kids.length:Int)≤140737488355328):Ze8 t=some (fr t.Kids):=by
 unfold Ze8
 rw [(Zf6 t.Kids (fun (s:Int×Int) (i:Int)=>(s.1,s.2,i)) frS id (fun _=>True) (Zdv t) hl (fun s i x _ hi hx hm=>⟨trivial,by
  unfold Zdv
  simp only
  rw [Zb3 hi,cond_true,Y5 hx,Option.bind_some]
  rfl⟩) (fun s _=>by
  unfold Zdv
  simp only
  rw [Zbr,cond_false]
  rfl) (0,0) trivial).1,Option.bind_some]
 rfl
theorem Zyf {t:Tr} (hl:(t.Kids.length:Int)≤140737488355328):Vf t=some (fr t.Kids):=by
 unfold Vf
 rw [(Zf6 t.Kids (fun (s:Int×Int) (i:Int)=>(s.1,s.2,i)) frS id (fun _=>True) (K4 t) hl (fun s i x _ hi hx hm=>⟨trivial,by
  unfold K4 frS
  simp only
  rw [Zb3 hi,cond_true,Y5 hx,Option.bind_some]
  by_cases h1:s.1 < (x.Words.length:Int) <;> by_cases h2:s.2 < (x.Kids.length:Int) <;> simp [h1,h2]⟩) (fun s _=>by
  unfold K4
  simp only
  rw [Zbr,cond_false]
  rfl) (0,0) trivial).1,Option.bind_some]
 rfl
def h9 (l:List Tr):Int:=IntKind.i64.wrap (1+IntKind.i64.wrap ((l.length:Int) * IntKind.i64.wrap ((fr l).1+(fr l).2)))
def Zi9 (c:Int) (n:Nat):Int:=((n * wid c+63) / 64:Nat)
def sz (t:Tr):Int :=
 if t.Kind=1 then ((t.Words.length:Int)+(t.Kids.length:Int))+(t.Kids.attach.map fun k=>sz k.1).sum
 else if 2≤t.Kind∧t.Kind≤7 then Zi9 (t.Kind - 2) t.Kids.length
 else if t.Kind=8 then (t.Kids.length:Int)+(t.Kids.attach.map fun k=>sz k.1).sum
 else if t.Kind=9 then h9 t.Kids+(t.Kids.attach.map fun k=>(k.1.Kids.attach.map fun j=>sz j.1).sum).sum
 else 0
termination_by SizeOf.sizeOf t
decreasing_by
 ·exact Y8 k.2
 ·exact Y8 k.2
 exact Nat.lt_trans (Y8 j.2) (Y8 k.2)
theorem Zjc (t:Tr):sz t=if t.Kind=1 then ((t.Words.length:Int)+(t.Kids.length:Int))+(t.Kids.map sz).sum
 else if 2≤t.Kind∧t.Kind≤7 then Zi9 (t.Kind - 2) t.Kids.length
 else if t.Kind=8 then (t.Kids.length:Int)+(t.Kids.map sz).sum
 else if t.Kind=9 then h9 t.Kids+(t.Kids.map fun k=>(k.Kids.map sz).sum).sum
 else 0:=by
 rw [sz]
 have h1:(t.Kids.attach.map fun k=>(k.1.Kids.attach.map fun j=>sz j.1).sum)=t.Kids.map fun k=>(k.Kids.map sz).sum:=by
  have:(fun (k:{ x // x∈t.Kids })=>(k.1.Kids.attach.map fun j=>sz j.1).sum)=fun (k:{ x // x∈t.Kids })=>(fun k:Tr=>(k.Kids.map sz).sum) k.1:=funext fun k=>congrArg List.sum (List.attach_map_val (f:=sz))
  rw [this]
  exact List.attach_map_val (f:=fun k:Tr=>(k.Kids.map sz).sum)
 rw [h1]
 simp only [List.attach_map_val]
theorem c5' {c:Int} (h:0≤c∧c≤5):c=0∨c=1∨c=2∨c=3∨c=4∨c=5:=by omega
theorem Z49 {c:Int} (h:0≤c∧c≤5):Xi c=some ((wid c:Nat):Int):=by
 unfold Xi
 rcases c5' h with rfl | rfl | rfl | rfl | rfl | rfl <;> rfl
theorem Z2v {c:Int} (h:0≤c∧c≤5) {n:Nat} (hn:n≤1099511627776):V8 c (n:Int)=some (((n * wid c+63) / 64:Nat):Int):=by
 unfold V8
 rw [Z49 h,Option.bind_some]
 have key:∀ (w p:Nat),(1≤w∧w≤64)→w * p=64→Int.tdiv 64 (w:Int)=(p:Int)→(cond (cond (cond (decide ((w:Int) < 1)) true (decide ((n:Int) < 0))) true (decide ((1099511627776:Int) < (n:Int)))) (some 0) ((some ((w:Nat):Int)).bind fun y5=>(Xe (y5≠0)).bind fun u6=>(Xe ((IntKind.i64.wrap (Int.tdiv 64 y5))≠0)).bind fun u8=>cond (decide (0 < (Int.tmod (n:Int) (IntKind.i64.wrap (Int.tdiv 64 y5))))) ((Xe ((IntKind.i64.wrap (Int.tdiv 64 y5))≠0)).bind fun u10=>some (IntKind.i64.wrap ((IntKind.i64.wrap (Int.tdiv (n:Int) (IntKind.i64.wrap (Int.tdiv 64 y5))))+1))) ((Xe ((IntKind.i64.wrap (Int.tdiv 64 y5))≠0)).bind fun u12=>some (IntKind.i64.wrap (Int.tdiv (n:Int) (IntKind.i64.wrap (Int.tdiv 64 y5)))))))=some (((n * w+63) / 64:Nat):Int):=fun w p hw hp ht=>by
  have hp1:1≤p∧p≤64:=by
   rcases Nat.eq_zero_or_pos p with q | q
   ·rw [q] at hp;omega
   exact ⟨q,by have:=Nat.mul_le_mul_right p hw.1;omega⟩
  have hd:n / p≤n:=Nat.div_le_self _ _
  have hm:p * (n / p)+n % p=n:=Nat.div_add_mod n p
  have hml:n % p < p:=Nat.mod_lt _ hp1.1
  have ed:(n:Int) / (p:Int)=((n / p:Nat):Int):=rfl
  have em:(n:Int) % (p:Int)=((n % p:Nat):Int):=rfl
  have enw:n * w=64 * (n / p)+n % p * w:=by
   have:n * w=(p * (n / p)+n % p) * w:=by rw [hm]
   rw [this,Nat.add_mul,Nat.mul_comm p,Nat.mul_assoc,Nat.mul_comm p,hp,Nat.mul_comm (n / p)]
  rw [show decide ((w:Int) < 1)=false from by rw [decide_eq_false_iff_not];omega,cond_false,show decide ((n:Int) < 0)=false from by rw [decide_eq_false_iff_not];omega,cond_false,show decide ((1099511627776:Int) < (n:Int))=false from by rw [decide_eq_false_iff_not];omega,cond_false,Option.bind_some,ht,Z4 (x:=(p:Int)) (by omega) (by omega),Jv (by omega),Option.bind_some,Jv (by omega),Option.bind_some,Int.tmod_eq_emod_of_nonneg (by omega),Int.tdiv_eq_ediv_of_nonneg (by omega),ed,em,Z4 (x:=((n / p:Nat):Int)) (by omega) (by omega),Z4 (x:=((n / p:Nat):Int)+1) (by omega) (by omega)]
  by_cases q:0 < n % p
  ·have h1:1 * w≤n % p * w:=Nat.mul_le_mul_right _ q
   have h2:(n % p+1) * w≤p * w:=Nat.mul_le_mul_right _ hml
   rw [Nat.mul_comm p,hp,Nat.add_mul,Nat.one_mul] at h2
   rw [show decide ((0:Int) < ((n % p:Nat):Int))=true from by rw [decide_eq_true_eq];omega,cond_true,Option.bind_some]
   congr 1
   generalize n % p * w=z at *
   omega
  have h0:n % p=0:=by omega
  rw [h0,Nat.zero_mul] at enw
  rw [show decide ((0:Int) < ((n % p:Nat):Int))=false from by rw [decide_eq_false_iff_not];omega,cond_false,Option.bind_some]
  congr 1
  omega
 rcases c5' h with rfl | rfl | rfl | rfl | rfl | rfl
 ·rw [show decide (((wid 0:Nat):Int) < 1)=true from rfl,cond_true,cond_true,cond_true,show wid 0=0 from rfl,Nat.mul_zero]
  rfl
 ·exact key 1 64 (by decide) rfl rfl
 ·exact key 8 8 (by decide) rfl rfl
 ·exact key 16 4 (by decide) rfl rfl
 ·exact key 32 2 (by decide) rfl rfl
 exact key 64 1 (by decide) rfl rfl
theorem Zxd {c:Int} (h:0≤c∧c≤5) {n:Nat} (hn:n≤1048576):Zc7 c (n:Int)=some (Zi9 c n):=by
 have hw:Q3 c=some (((wid c:Nat):Int),true):=by
  unfold Q3
  rcases c5' h with rfl | rfl | rfl | rfl | rfl | rfl <;> rfl
 have hb:wid c≤64:=by rcases c5' h with rfl | rfl | rfl | rfl | rfl | rfl <;> decide
 have hm:n * wid c≤1048576 * 64:=Nat.mul_le_mul hn hb
 unfold Zc7 Zi9
 rw [hw,Option.bind_some]
 simp only
 rw [Bool.not_true,cond_false,decide_eq_false (by omega),cond_false,decide_eq_false (by omega),cond_false,← Int.natCast_mul]
 generalize n * wid c=m at hm ⊢
 rw [Z4 (x:=(m:Int)) (by omega) (by omega),Z4 (x:=(m:Int)+63) (by omega) (by omega),Int.tdiv_eq_ediv_of_nonneg (by omega),Z4 (by omega) (by omega)]
 congr 1
theorem Zff {t:Tr} {d:Nat} (h:rt t d=true):0≤t.Kind∧t.Kind≤10∧t.Kids.length < 1048576∧(t.Kind=0∨t.Kind=10→t.Kids=[])∧∀ k∈t.Kids,rt k (d - 1)=true:=by
 rw [Zfe] at h
 by_cases h0:t.Kind=0
 ·rw [if_pos h0,Bool.and_eq_true,beq_iff_eq,beq_iff_eq] at h
  have:=List.length_eq_zero_iff.1 h.2
  rw [this]
  exact ⟨by omega,by omega,by simp,fun _=>rfl,fun k hk=>by cases hk⟩
 by_cases h1:t.Kind=10
 ·rw [if_neg h0,if_pos h1,Bool.and_eq_true,beq_iff_eq,beq_iff_eq] at h
  have:=List.length_eq_zero_iff.1 h.2
  rw [this]
  exact ⟨by omega,by omega,by simp,fun _=>rfl,fun k hk=>by cases hk⟩
 rw [if_neg h0,if_neg h1] at h
 by_cases hb:t.Kind < 0∨10 < t.Kind∨d=0∨65536≤t.Words.length∨(t.Kind=1∧65536≤t.Kids.length)∨1048576≤t.Kids.length∨(1 < t.Kind∧0 < t.Words.length)
 ·rw [if_pos hb] at h;cases h
 rw [if_neg hb,List.all_eq_true] at h
 refine ⟨by omega,by omega,by omega,fun q=>by omega,fun k hk => ?_⟩
 have:=h k hk
 rw [Bool.and_eq_true] at this
 exact this.1
theorem Z31 {k:Nat} (l:List Tr) (hl:(l.length:Int)≤140737488355328) (h:∀ x∈l,(Xq k).1 x=some (IntKind.i64.wrap (sz x))):Zw (Zb2 (Xq k).1 l) (0,0)=some (IntKind.i64.wrap (l.map sz).sum):=by
 have:=(Zf6 l (fun (s:Int) (i:Int)=>(IntKind.i64.wrap s,i)) (fun s x=>s+sz x) (fun s=>IntKind.i64.wrap s) (fun _=>True) (Zb2 (Xq k).1 l) hl (fun s i x _ hi hx hm=>⟨trivial,by
  unfold Zb2
  simp only
  rw [Zb3 hi,cond_true,Y5 hx,Option.bind_some,h x hm,Option.bind_some,Z87]⟩) (fun s _=>by
  unfold Zb2
  simp only
  rw [Zbr,cond_false]) 0 trivial).1
 rw [Zik,Int.zero_add] at this
 exact this
theorem Z5a:∀ (k:Nat),(∀ (t:Tr) (d:Nat),rt t d=true→2 * SizeOf.sizeOf t < k→(Xq k).1 t=some (IntKind.i64.wrap (sz t))) ∧
  (∀ l:List Tr,0 < k→(l.length:Int)≤140737488355328→(∀ x∈l,(∃ d,rt x d=true)∧2 * SizeOf.sizeOf x+1 < k)→(Xq k).2 l=some (IntKind.i64.wrap (l.map sz).sum))
 | 0=>⟨fun _ _ _ h=>by omega,fun _ h=>by omega⟩
 | k+1=>by
  obtain ⟨i1,i2⟩:=Z5a k
  refine ⟨fun t d hr hk => ?_,fun l _ hl h => ?_⟩
  ·obtain ⟨r1,r2,r3,r4,r5⟩:=Zff hr
   have s0:0 < SizeOf.sizeOf t:=by
    obtain ⟨a,b,c⟩:=t
    simp only [Zb.mk.sizeOf_spec]
    omega
   have k0:0 < k:=by omega
   have hs:∀ x∈t.Kids,(∃ d,rt x d=true)∧2 * SizeOf.sizeOf x+1 < k:=fun x hx=>⟨⟨_,r5 x hx⟩,by have:=Y8 hx;omega⟩
   have hk9:∀ y∈t.Kids,(Xq k).2 y.Kids=some (IntKind.i64.wrap (y.Kids.map sz).sum):=fun y hy =>
    i2 _ k0 (by have:=(Zff (r5 y hy)).2.2.1;omega) fun x hx=>⟨⟨_,(Zff (r5 y hy)).2.2.2.2 x hx⟩,by have:=Y8 hx;have:=Y8 hy;omega⟩
   show Zm9 (Xq k).1 (Xq k).2 t=_
   unfold Zm9 Zu1
   rw [Zjc]
   by_cases h1:t.Kind=1
   ·rw [if_pos h1,show (t.Kind == 1)=true from by rw [h1];rfl,cond_true,i2 _ k0 (by omega) hs,Option.bind_some,Z87]
   rw [if_neg h1,beq_eq_false_iff_ne.2 h1,cond_false,Option.bind_some]
   by_cases h2:2≤t.Kind∧t.Kind≤7
   ·rw [if_pos h2,decide_eq_true h2.1,cond_true,decide_eq_true h2.2,cond_true,Z4 (by omega) (by omega),Zxd (by omega) (by omega),Option.bind_some]
    have:IntKind.i64.wrap (Zi9 (t.Kind - 2) t.Kids.length)=Zi9 (t.Kind - 2) t.Kids.length:=by
     have hb:wid (t.Kind - 2)≤64:=by rcases c5' (c:=t.Kind - 2) (by omega) with q | q | q | q | q | q <;> rw [q] <;> decide
     have hm:t.Kids.length * wid (t.Kind - 2)≤1048576 * 64:=Nat.mul_le_mul (by omega) hb
     unfold Zi9
     rw [Z4 (by omega) (by omega)]
    rw [this]
   rw [if_neg h2]
   have hc:cond (decide (2≤t.Kind)) (decide (t.Kind≤7)) false=false:=by
    rw [Zdn,Bool.and_eq_false_iff,decide_eq_false_iff_not,decide_eq_false_iff_not];omega
   rw [hc,cond_false]
   by_cases h8:t.Kind=8
   ·rw [if_pos h8,show (t.Kind == 8)=true from by rw [h8];rfl,cond_true,i2 _ k0 (by omega) hs,Option.bind_some,w_r]
   rw [if_neg h8,beq_eq_false_iff_ne.2 h8,cond_false]
   by_cases h9':t.Kind=9
   ·rw [if_pos h9',show (t.Kind == 9)=true from by rw [h9'];rfl,cond_true,Zv3 (by omega),Option.bind_some]
    have:=(Zf6 t.Kids (fun (s:Int) (i:Int)=>(IntKind.i64.wrap s,i)) (fun s x=>s+(x.Kids.map sz).sum) (fun s=>IntKind.i64.wrap s) (fun _=>True) (Zcw (Xq k).2 t) (by omega) (fun s i x _ hi hx hm=>⟨trivial,by
     unfold Zcw
     simp only
     rw [Zb3 hi,cond_true,Y5 hx,Option.bind_some,hk9 x hm,Option.bind_some,Z87]⟩) (fun s _=>by
     unfold Zcw
     simp only
     rw [Zbr,cond_false]) (h9 t.Kids) trivial).1
    rw [Zik,show IntKind.i64.wrap (h9 t.Kids)=h9 t.Kids from w_w _] at this
    show (Zw (Zcw (Xq k).2 t) (h9 t.Kids,0)).bind _=_
    rw [this,Option.bind_some]
   rw [if_neg h9',beq_eq_false_iff_ne.2 h9',cond_false]
   rfl
  show Zl5 (Xq k).1 (Xq k).2 l=_
  unfold Zl5
  rw [Z31 l hl (fun x hx=>by obtain ⟨⟨d,hd⟩,hh⟩:=h x hx;exact i1 x d hd (by omega)),Option.bind_some]
theorem Yas {t:Tr} {d:Nat} (h:rt t d=true):Zu2 t=some (IntKind.i64.wrap (sz t)):=Zf5 (2 * SizeOf.sizeOf t+1) fun k hk=>(Z5a k).1 t d h (by omega)
theorem Z9j {t:Tr} {d:Nat} (hb:Bd t) (h:rt t d=true):Znn t=some (IntKind.i64.wrap (sz (nrm t))):=by
 unfold Znn
 rw [Z41 hb,Option.bind_some,Yas (rtN h),Option.bind_some]
theorem Zwx:∀ (k:Nat) (t:Tr) (d:Nat),rt t d=true→SizeOf.sizeOf t < k→Xh k t=some (IntKind.i64.wrap (sz t))
 | 0,_,_,_,h=>by omega
 | k+1,t,d,hr,hk=>by
  obtain ⟨r1,r2,r3,r4,r5⟩:=Zff hr
  have ih:∀ x∈t.Kids,Xh k x=some (IntKind.i64.wrap (sz x)):=fun x hx=>Zwx k x _ (r5 x hx) (by have:=Y8 hx;omega)
  have ih2:∀ y∈t.Kids,∀ x∈y.Kids,Xh k x=some (IntKind.i64.wrap (sz x)):=fun y hy x hx=>Zwx k x _ ((Zff (r5 y hy)).2.2.2.2 x hx) (by have:=Y8 hx;have:=Y8 hy;omega)
  have lp:∀ s:Int,Zw (Jo (Xh k) t) (IntKind.i64.wrap s,0)=some (IntKind.i64.wrap (s+(t.Kids.map sz).sum)):=fun s=>by
   have:=(Zf6 t.Kids (fun (s:Int) (i:Int)=>(IntKind.i64.wrap s,i)) (fun s x=>s+sz x) (fun s=>IntKind.i64.wrap s) (fun _=>True) (Jo (Xh k) t) (by omega) (fun s i x _ hi hx hm=>⟨trivial,by
    unfold Jo
    simp only
    rw [Zb3 hi,cond_true,Y5 hx,Option.bind_some,ih x hm,Option.bind_some,Z87]⟩) (fun s _=>by
    unfold Jo
    simp only
    rw [Zbr,cond_false]) s trivial).1
   rw [Zik] at this
   exact this
  show Zab (Xh k) t=_
  unfold Zab
  rw [Zjc]
  by_cases h1:t.Kind=1
  ·rw [if_pos h1,show (t.Kind == 1)=true from by rw [h1];rfl,cond_true,Option.bind_some]
   simp only
   rw [lp,Option.bind_some]
  rw [if_neg h1,beq_eq_false_iff_ne.2 h1,cond_false]
  by_cases h8:t.Kind=8
  ·rw [if_neg (by omega),if_pos h8,show (t.Kind == 8)=true from by rw [h8];rfl,cond_true,Option.bind_some]
   simp only
   have:=lp (t.Kids.length:Int)
   rw [Z4 (x:=(t.Kids.length:Int)) (by omega) (by omega)] at this
   rw [this,Option.bind_some]
  rw [beq_eq_false_iff_ne.2 h8,cond_false]
  have hc:(cond (t.Kind == 2) (some (t.Kind == 2)) (cond (t.Kind == 3) (some (t.Kind == 3)) (cond (t.Kind == 4) (some (t.Kind == 4)) (cond (t.Kind == 5) (some (t.Kind == 5)) (cond (t.Kind == 6) (some (t.Kind == 6)) (some (t.Kind == 7)))))))=some (decide (2≤t.Kind∧t.Kind≤7)):=by
   by_cases h2:2≤t.Kind∧t.Kind≤7
   ·rcases (show t.Kind=2∨t.Kind=3∨t.Kind=4∨t.Kind=5∨t.Kind=6∨t.Kind=7 by omega) with q | q | q | q | q | q <;> rw [q] <;> rfl
   rw [decide_eq_false h2,beq_eq_false_iff_ne.2 (by omega:¬ t.Kind=2),beq_eq_false_iff_ne.2 (by omega:¬ t.Kind=3),beq_eq_false_iff_ne.2 (by omega:¬ t.Kind=4),beq_eq_false_iff_ne.2 (by omega:¬ t.Kind=5),beq_eq_false_iff_ne.2 (by omega:¬ t.Kind=6),beq_eq_false_iff_ne.2 (by omega:¬ t.Kind=7)]
   rfl
  rw [hc,Option.bind_some]
  by_cases h2:2≤t.Kind∧t.Kind≤7
  ·have hb:wid (t.Kind - 2)≤64:=by rcases c5' (c:=t.Kind - 2) (by omega) with q | q | q | q | q | q <;> rw [q] <;> decide
   have hm:t.Kids.length * wid (t.Kind - 2)≤1048576 * 64:=Nat.mul_le_mul (by omega) hb
   rw [decide_eq_true h2,cond_true,if_pos h2,Z4 (x:=t.Kind - 2) (by omega) (by omega),Z2v (by omega) (by omega),Option.bind_some,Option.bind_some]
   unfold Zi9
   rw [Z4 (by omega) (by omega)]
  rw [decide_eq_false h2,cond_false,if_neg h2,if_neg h8]
  by_cases h9':t.Kind=9
  ·rw [if_pos h9',show (t.Kind == 9)=true from by rw [h9'];rfl,cond_true,Zyf (by omega),Option.bind_some]
   have:=(Zf6 t.Kids (fun (s:Int) (i:Int)=>(IntKind.i64.wrap s,i)) (fun s x=>s+(x.Kids.map sz).sum) (fun s=>IntKind.i64.wrap s) (fun _=>True) (Vx (Xh k) t) (by omega) (fun s i x _ hi hx hm=>⟨trivial,by
    have hxl:=(Zff (r5 x hm)).2.2.1
    have inner:=(Zf6 x.Kids (fun (s:Int) (i:Int)=>(IntKind.i64.wrap s,i)) (fun s x=>s+sz x) (fun s=>IntKind.i64.wrap s) (fun _=>True) (Vy (Xh k) t (IntKind.i64.wrap s,(i:Int))) (by omega) (fun s j y _ hj hy hmy=>⟨trivial,by
     unfold Vy
     simp only
     rw [Y5 hx,Option.bind_some,Zb3 hj,cond_true,Option.bind_some,Y5 hy,Option.bind_some,ih2 x hm y hmy,Option.bind_some,Z87]⟩) (fun s _=>by
     unfold Vy
     simp only
     rw [Y5 hx,Option.bind_some,Zbr,cond_false]) s trivial).1
    rw [Zik] at inner
    unfold Vx
    simp only
    rw [Zb3 hi,cond_true,inner,Option.bind_some]⟩) (fun s _=>by
    unfold Vx
    simp only
    rw [Zbr,cond_false]) (h9 t.Kids) trivial).1
   rw [Zik,show IntKind.i64.wrap (h9 t.Kids)=h9 t.Kids from w_w _] at this
   have h9e:IntKind.i64.wrap (1+IntKind.i64.wrap ((t.Kids.length:Int) * IntKind.i64.wrap ((fr t.Kids).1+(fr t.Kids).2)))=h9 t.Kids:=rfl
   rw [h9e,this,Option.bind_some,Option.bind_some]
  rw [if_neg h9',beq_eq_false_iff_ne.2 h9',cond_false,Option.bind_some]
  simp only
  have:=lp 0
  rw [show IntKind.i64.wrap 0=0 from rfl,r4 (by omega)] at this
  rw [this,Option.bind_some]
  rfl
theorem Z8s {t:Tr} {d:Nat} (h:rt t d=true):Zcn t=some (IntKind.i64.wrap (sz t)):=Zf5 (SizeOf.sizeOf t+1) fun k hk=>Zwx k t d h (by omega)
def Zcl {α σ:Type} (f:σ→Nat→α→σ):σ→Nat→List α→σ
 | s,_,[]=>s
 | s,i,x::xs=>Zcl f (f s i x) (i+1) xs
theorem Zc3 {α σ S R:Type} (xs:List α) (pack:Int→σ→S) (out:σ→R) (step:S→Option (S ⊕ R)) (f:σ→Nat→α→σ) (I:Nat→σ→Prop) (hl:(xs.length:Int)≤140737488355328)
  (h1:∀ (i:Nat) (s:σ) (x:α),i < xs.length→xs[i]? = some x→x∈xs→I i s→step (pack i s)=some (.inl (pack (IntKind.i64.wrap ((i:Int)+1)) (f s i x)))∧I (i+1) (f s i x))
  (h2:∀ s,I xs.length s→step (pack xs.length s)=some (.inr (out s))) (s:σ) (h0:I 0 s):Zw step (pack 0 s)=some (out (Zcl f s 0 xs))∧I xs.length (Zcl f s 0 xs):=by
 have key:∀ (l pre:List α) (s:σ),xs=pre++l→I pre.length s→Zw step (pack (pre.length:Nat) s)=some (out (Zcl f s pre.length l))∧I xs.length (Zcl f s pre.length l):=fun l=>by
  induction l with
  | nil =>
   intro pre s hp hi
   rw [List.append_nil] at hp
   subst hp
   exact ⟨Y0 (h2 s hi),hi⟩
  | cons x l ih =>
   intro pre s hp hI
   have hx:xs[pre.length]? = some x:=by rw [hp,List.getElem?_append_right (Nat.le_refl _),Nat.sub_self];rfl
   have hi:pre.length < xs.length:=by rw [hp];simp
   obtain ⟨a,b⟩:=h1 pre.length s x hi hx (List.mem_of_getElem? hx) hI
   rw [Z4 (by omega) (by omega)] at a
   have:=ih (pre++[x]) (f s pre.length x) (by rw [hp];simp) (by rw [List.length_append,List.length_singleton];exact b)
   rw [List.length_append,List.length_singleton] at this
   exact ⟨(Xz a).trans this.1,this.2⟩
 exact key xs [] s rfl h0
theorem Zjm:∀ l m:List Int,(l++m).sum=l.sum+m.sum
 | [],m=>by simp
 | x::l,m=>by simp only [List.cons_append,List.sum_cons,Zjm l m];omega
theorem Znh:∀ l:List Int,(∀ x∈l,0≤x)→0≤l.sum
 | [],_=>by simp
 | x::l,h=>by
  have:=Znh l fun y hy=>h y (.tail _ hy)
  have:=h x (.head _)
  simp only [List.sum_cons]
  omega
theorem Zw4 {α:Type} {f:α→Int} {xs:List α} {i:Nat} {x:α} (hx:xs[i]? = some x) (h:∀ x∈xs,0≤f x):((xs.take (i+1)).map f).sum=((xs.take i).map f).sum+f x∧((xs.take i).map f).sum+f x≤(xs.map f).sum:=by
 have e:((xs.take (i+1)).map f).sum=((xs.take i).map f).sum+f x:=by
  rw [List.take_add_one,hx,List.map_append,Zjm]
  simp
 refine ⟨e,?_⟩
 have e2:(xs.map f).sum=((xs.take (i+1)).map f).sum+((xs.drop (i+1)).map f).sum:=by
  rw [← Zjm,← List.map_append,List.take_append_drop]
 have:=Znh ((xs.drop (i+1)).map f) fun y hy=>by
  obtain ⟨z,hz,rfl⟩:=List.mem_map.1 hy
  exact h z (List.mem_of_mem_drop hz)
 omega
theorem Ut {α:Type} {f:α→Int} {xs:List α} (h:∀ x∈xs,0≤f x):0≤(xs.map f).sum:=Znh _ fun y hy=>by
 obtain ⟨z,hz,rfl⟩:=List.mem_map.1 hy
 exact h z hz
theorem Z7g {off data ptrs:Int} (a:-536870912≤off) (b:off < 536870912) (c:0≤data) (d:data < 65536) (e:0≤ptrs) (f:ptrs < 65536) (g:¬ (off=0∧data=0∧ptrs=0)) :
  Qd (⟨1,off,data,ptrs,0,0,0,false⟩:Zs)=some (off % 1073741824 * 4+data * 4294967296+ptrs * 281474976710656,true):=by
 have hd:Zhq ((off % 1073741824).toNat * 4+data.toNat * 4294967296+ptrs.toNat * 281474976710656)=⟨1,off,data,ptrs,0,0,0,false⟩:=by
  generalize hw:(off % 1073741824).toNat * 4+data.toNat * 4294967296+ptrs.toNat * 281474976710656=w
  have h1:¬ w=0:=by omega
  have h2:w % 4=0:=by omega
  unfold Zhq
  rw [if_neg h1,if_pos h2]
  unfold Zqr
  simp only [Zs.mk.injEq,true_and,and_true]
  refine ⟨?_,by omega,by omega⟩
  split <;> omega
 have:=Zv0 ((off % 1073741824).toNat * 4+data.toNat * 4294967296+ptrs.toNat * 281474976710656) (by omega) (by rw [hd];show ¬ (1:Int)=4;decide)
 rw [hd] at this
 rw [this]
 congr 2
 omega
theorem Z9r {off code count:Int} (a:-536870912≤off) (b:off < 536870912) (c:0≤code) (d:code < 8) (e:0≤count) (f:count < 536870912) :
  Qd (⟨2,off,0,0,code,count,0,false⟩:Zs)=some (off % 1073741824 * 4+1+code * 4294967296+count * 34359738368,true):=by
 have hd:Zhq ((off % 1073741824).toNat * 4+1+code.toNat * 4294967296+count.toNat * 34359738368)=⟨2,off,0,0,code,count,0,false⟩:=by
  generalize hw:(off % 1073741824).toNat * 4+1+code.toNat * 4294967296+count.toNat * 34359738368=w
  have h1:¬ w=0:=by omega
  have h2:¬ w % 4=0:=by omega
  have h3:w % 4=1:=by omega
  unfold Zhq
  rw [if_neg h1,if_neg h2,if_pos h3]
  unfold Zqr
  simp only [Zs.mk.injEq,true_and,and_true]
  refine ⟨?_,by omega,by omega⟩
  split <;> omega
 have:=Zv0 ((off % 1073741824).toNat * 4+1+code.toNat * 4294967296+count.toNat * 34359738368) (by omega) (by rw [hd];show ¬ (2:Int)=4;decide)
 rw [hd] at this
 rw [this]
 congr 2
 omega
theorem Zeu {x:Int} (h0:0≤x) (h1:x < 18446744073709551616):IntKind.u64.wrap x=x:=IntWalk.u64_in _ (by omega)
theorem Zs0 {a t k u:Int} (a0:0≤a) (a1:a≤1048576) (t0:0≤t) (t1:t≤1048576) (k0:0≤k) (k1:k≤1) (u0:0≤u) (u1:u < 4294967296) :
  X7 a t k u=some ((t - a - 1) % 1073741824 * 4+k+u * 4294967296):=by
 unfold X7
 rw [Z4 (x:=t - a) (by omega) (by omega),Z4 (x:=t - a - 1) (by omega) (by omega)]
 by_cases h:t - a - 1 < 0
 ·rw [decide_eq_true h,cond_true,Z4 (by omega) (by omega),Option.bind_some,Z4 (x:=4 * _) (by omega) (by omega),Z4 (by omega) (by omega),Zeu (x:=u * _) (by omega) (by omega),Zeu (x:=_+k) (by omega) (by omega),Zeu (by omega) (by omega)]
  congr 1
  omega
 rw [decide_eq_false h,cond_false,Option.bind_some,Z4 (x:=4 * _) (by omega) (by omega),Z4 (by omega) (by omega),Zeu (x:=u * _) (by omega) (by omega),Zeu (x:=_+k) (by omega) (by omega),Zeu (by omega) (by omega)]
 congr 1
 omega
def Zsx (w:Nat) (out:List Int) (i:Nat) (n:Int):List Int:=Xu out ((i * w / 64:Nat):Int) (out[i * w / 64]?.getD 0+n * 2 ^ (i * w % 64))
def Z6k (w N:Nat) (i:Nat) (out:List Int):Prop:=out.length=(N * w+63) / 64∧∀ (q:Nat) (v:Int),out[q]? = some v→0≤v∧v < 2 ^ min 64 (i * w - q * 64)
theorem Z8d {s w:Nat} {v n:Int} (h0:0≤v) (h1:v < 2 ^ s) (n0:0≤n) (n1:n < 2 ^ w):0≤v+n * 2 ^ s∧v+n * 2 ^ s < 2 ^ (s+w)∧0≤n * 2 ^ s:=by
 have p:(0:Int) < 2 ^ s:=Int.pow_pos (by decide)
 have a:=Int.mul_nonneg n0 (Int.le_of_lt p)
 have b:(n+1) * 2 ^ s≤2 ^ w * 2 ^ s:=Int.mul_le_mul_of_nonneg_right (by omega) (Int.le_of_lt p)
 rw [Int.add_mul,Int.one_mul,Int.mul_comm (2 ^ w),← Int.pow_add] at b
 exact ⟨by omega,by omega,a⟩
theorem Zwr {a b:Nat} (h:a≤b):(2:Int) ^ a≤2 ^ b:=by
 have:=Nat.pow_le_pow_right (n:=2) (by decide) h
 exact_mod_cast this
theorem Z8h {w N i:Nat} {out:List Int} {n:Int} (hw:0 < w) (hs:i * w % 64+w≤64) (hi:i < N) (hI:Z6k w N i out) (n0:0≤n) (n1:n < 2 ^ w) :
  ∃ v:Int,out[i * w / 64]? = some v∧0≤v∧v < 2 ^ (i * w % 64)∧v+n * 2 ^ (i * w % 64) < 18446744073709551616∧0≤n * 2 ^ (i * w % 64)∧Z6k w N (i+1) (Zsx w out i n):=by
 obtain ⟨hl,hv⟩:=hI
 have hm:i * w+w≤N * w:=by
  have:=Nat.mul_le_mul_right w (show i+1≤N by omega)
  rwa [Nat.add_mul,Nat.one_mul] at this
 have hq:i * w / 64 < out.length:=by rw [hl];omega
 have hx:out[i * w / 64]? = some out[i * w / 64]:=List.getElem?_eq_getElem hq
 obtain ⟨v0,v1⟩:=hv _ _ hx
 have e:min 64 (i * w - i * w / 64 * 64)=i * w % 64:=by omega
 rw [e] at v1
 obtain ⟨a,b,c⟩:=Z8d v0 v1 n0 n1
 have d:=Zwr hs
 refine ⟨_,hx,v0,v1,by omega,c,by unfold Zsx;rw [Qa,hl],fun q u hu => ?_⟩
 unfold Zsx Xu at hu
 rw [Int.toNat_natCast,hx,Option.getD_some,List.getElem?_set] at hu
 have e1:(i+1) * w=i * w+w:=by rw [Nat.add_mul,Nat.one_mul]
 by_cases h:i * w / 64=q
 ·rw [if_pos h,if_pos hq] at hu
  cases hu
  subst h
  refine ⟨a,?_⟩
  have:min 64 ((i+1) * w - i * w / 64 * 64)=i * w % 64+w:=by rw [e1];omega
  rw [this]
  exact b
 rw [if_neg h] at hu
 obtain ⟨u0,u1⟩:=hv _ _ hu
 refine ⟨u0,Int.lt_of_lt_of_le u1 (Zwr ?_)⟩
 rw [e1]
 omega
theorem Z8g (w N:Nat):Z6k w N 0 (List.replicate ((N * w+63) / 64) 0):=by
 refine ⟨List.length_replicate,fun q v h => ?_⟩
 have:=List.mem_of_getElem? h
 rw [List.mem_replicate] at this
 rw [this.2]
 exact ⟨by decide,Int.pow_pos (by decide)⟩
def Zn5 (c:Int) (ns:List Int):List Int:=if c=0 then [] else Zcl (Zsx (wid c)) (List.replicate ((ns.length * wid c+63) / 64) 0) 0 ns
theorem Z63 {w each:Nat} (hw:0 < w) (hw2:w≤64) (he:0 < each) (he2:each≤64) (hE:IntKind.i64.wrap (Int.tdiv 64 (w:Int))=(each:Int)) (hq:∀ i:Nat,i / each=i * w / 64) (hr:∀ i:Nat,i % each * w=i * w % 64) (hs:∀ i:Nat,i * w % 64+w≤64)
  {ns:List Int} (hn:ns.length≤1048576) (hf:∀ n∈ns,0≤n∧n < 2 ^ w) :
  Zw (Zat ns ((w:Int),true)) (0,List.replicate ((ns.length * w+63) / 64) 0)=some (Zcl (Zsx w) (List.replicate ((ns.length * w+63) / 64) 0) 0 ns)∧Z6k w ns.length ns.length (Zcl (Zsx w) (List.replicate ((ns.length * w+63) / 64) 0) 0 ns) :=
 Zc3 ns (fun i s=>(i,s)) (fun s=>s) (Zat ns ((w:Int),true)) (Zsx w) (Z6k w ns.length) (by omega) (fun i s n hi hx hm hI=>by
  obtain ⟨n0,n1⟩:=hf n hm
  obtain ⟨v,hv,v0,v1,v2,v3,v4⟩:=Z8h hw (hs i) hi hI n0 n1
  refine ⟨?_,v4⟩
  unfold Zat
  simp only
  have e1:IntKind.i64.wrap (Int.tdiv (i:Int) (each:Int))=((i * w / 64:Nat):Int):=by
   have hb:=Nat.mul_le_mul_left i hw2
   rw [Int.tdiv_eq_ediv_of_nonneg (by omega),← Int.natCast_ediv,hq i,Z4 (by omega) (by omega)]
  have e2:IntKind.i64.wrap (Int.tmod (i:Int) (each:Int) * (w:Int))=((i * w % 64:Nat):Int):=by
   rw [Int.tmod_eq_emod_of_nonneg (by omega),← Int.natCast_emod,← Int.natCast_mul,hr i,Z4 (by omega) (by omega)]
  have e3:min (Int.toNat ((i * w % 64:Nat):Int)) 64=i * w % 64:=by omega
  have e4:IntKind.u64.wrap (n * 2 ^ (i * w % 64))=n * 2 ^ (i * w % 64):=Zeu v3 (by omega)
  have e5:IntKind.u64.wrap (Zcq .u64 v (n * 2 ^ (i * w % 64)))=v+n * 2 ^ (i * w % 64):=by
   obtain ⟨a,rfl⟩:=Int.eq_ofNat_of_zero_le v0
   obtain ⟨b,rfl⟩:=Int.eq_ofNat_of_zero_le n0
   have f:((b:Nat):Int) * 2 ^ (i * w % 64)=((b * 2 ^ (i * w % 64):Nat):Int):=by simp
   have f1:a < 2 ^ (i * w % 64):=by exact_mod_cast v1
   rw [f] at v2 v3 ⊢
   rw [Zl9 _ _ (by omega) (by omega),Zn1 _ _ _ f1,Int.natCast_add]
  rw [Zb3 hi,cond_true,Y5 hx,Option.bind_some,hE,Jv (by omega),Option.bind_some,e1,Y5 hv,Option.bind_some,Option.bind_some,e2,Jv (by omega),Option.bind_some,e3,e4,e5]
  unfold Zsx
  rw [hv]
  rfl) (fun s _=>by
  unfold Zat
  simp only
  rw [Zbr,cond_false]) _ (Z8g w ns.length)
theorem Z38 {c:Int} {ns:List Int} (h:0≤c∧c≤5) (hn:ns.length≤1048576) (hf:∀ n∈ns,0≤n∧Zcx c n=true):Zw (Zcd c ns) (true,0)=some true :=
 (Zc3 ns (fun i s=>(s,i)) (fun s=>s) (Zcd c ns) (fun s _ _=>s) (fun _ s=>s=true) (by omega) (fun i s n hi hx hm hI=>by
  subst hI
  refine ⟨?_,rfl⟩
  unfold Zcd
  simp only
  rw [Zb3 hi,cond_true,Y5 hx,Option.bind_some,cond_true,Z22 h.1 h.2 (hf n hm).1,Option.bind_some,(hf n hm).2]
  rfl) (fun s _=>by
  unfold Zcd
  simp only
  rw [Zbr,cond_false]) true rfl).1.trans (by
  have:∀ (l:List Int) (k:Nat),Zcl (fun (s:Bool) (_:Nat) (_:Int)=>s) true k l=true:=fun l=>by
   induction l with
   | nil=>intro k;rfl
   | cons x l ih=>intro k;exact ih (k+1)
  rw [this])
theorem Z09 {c:Int} (h:0≤c∧c≤5) {ns:List Int} (hn:ns.length≤1048576) (hf:∀ n∈ns,0≤n∧Zcx c n=true):Zd2 c ns=some (Zn5 c ns,true)∧(Zn5 c ns).length=(ns.length * wid c+63) / 64:=by
 have hw:Q3 c=some (((wid c:Nat):Int),true):=by
  unfold Q3
  rcases c5' h with rfl | rfl | rfl | rfl | rfl | rfl <;> rfl
 have hb:wid c≤64:=by rcases c5' h with rfl | rfl | rfl | rfl | rfl | rfl <;> decide
 have hm:ns.length * wid c≤1048576 * 64:=Nat.mul_le_mul hn hb
 have hf':∀ n∈ns,0≤n∧n < 2 ^ wid c:=fun n hn=>⟨(hf n hn).1,by have:=(hf n hn).2;unfold Zcx at this;exact of_decide_eq_true this⟩
 unfold Zd2 Zn5
 rw [hw,Option.bind_some]
 simp only
 rw [Z38 h hn hf,Option.bind_some,Bool.not_true,cond_false,Zxd h hn,Option.bind_some]
 unfold Zi9
 rw [Zku (by omega) (by omega) (by omega),Option.bind_some,Int.toNat_natCast]
 have key:∀ w each:Nat,wid c=w→0 < w→0 < each→each≤64→IntKind.i64.wrap (Int.tdiv 64 (w:Int))=(each:Int)→(∀ i:Nat,i / each=i * w / 64)→(∀ i:Nat,i % each * w=i * w % 64)→(∀ i:Nat,i * w % 64+w≤64)→¬ c=0 →
   (cond (((wid c:Nat):Int) == 0) (some (List.replicate ((ns.length * wid c+63) / 64) (0:Int),true)) ((Xe (((wid c:Nat):Int)≠0)).bind fun u14=>(Zw (Zat ns (((wid c:Nat):Int),true)) (0,List.replicate ((ns.length * wid c+63) / 64) 0)).bind fun (z24:(List Int))=>some (z24,true)))=some ((if c=0 then [] else Zcl (Zsx (wid c)) (List.replicate ((ns.length * wid c+63) / 64) 0) 0 ns),true)∧(if c=0 then [] else Zcl (Zsx (wid c)) (List.replicate ((ns.length * wid c+63) / 64) 0) 0 ns).length=(ns.length * wid c+63) / 64:=by
  intro w each ew a1 a2 a3 a4 a5 a6 a7 a8
  have:=Z63 a1 (by omega) a2 a3 a4 a5 a6 a7 hn (by rw [← ew];exact hf')
  rw [ew,if_neg a8,Xk (by omega),cond_false,Jv (by omega),Option.bind_some,this.1,Option.bind_some]
  exact ⟨rfl,this.2.1⟩
 rcases c5' h with rfl | rfl | rfl | rfl | rfl | rfl
 ·exact ⟨by simp [wid],by simp [wid]⟩
 ·exact key 1 64 rfl (by decide) (by decide) (by decide) rfl (fun i=>by omega) (fun i=>by omega) (fun i=>by omega) (by decide)
 ·exact key 8 8 rfl (by decide) (by decide) (by decide) rfl (fun i=>by omega) (fun i=>by omega) (fun i=>by omega) (by decide)
 ·exact key 16 4 rfl (by decide) (by decide) (by decide) rfl (fun i=>by omega) (fun i=>by omega) (fun i=>by omega) (by decide)
 ·exact key 32 2 rfl (by decide) (by decide) (by decide) rfl (fun i=>by omega) (fun i=>by omega) (fun i=>by omega) (by decide)
 exact key 64 1 rfl (by decide) (by decide) (by decide) rfl (fun i=>by omega) (fun i=>by omega) (fun i=>by omega) (by decide)
theorem Z1l {y2:Int} {s0:Int×List Int} {s:Nat} {n:Int} (hs:s < 64) (he:Int.tmod (IntKind.i64.wrap (s0.1 * y2)) 64=(s:Int)) (n0:0≤n) (hb:n * 2 ^ s < 18446744073709551616):Zw (Zay y2 s0) (n,0)=some (n * 2 ^ s):=by
 refine Zry (fun st=>∃ j:Nat,j≤s∧st=(n * 2 ^ j,(j:Int))) (fun st=>s - st.2.toNat) ?_ _ ⟨0,by omega,by simp⟩
 rintro st ⟨j,hj,rfl⟩
 unfold Zay
 simp only
 rw [he]
 by_cases h:j < s
 ·left
  have p:n * 2 ^ (j+1)≤n * 2 ^ s:=Int.mul_le_mul_of_nonneg_left (Zwr (by omega)) n0
  have q:n * 2 ^ j * 2=n * 2 ^ (j+1):=by rw [Int.pow_succ,Int.mul_assoc]
  have r:0≤n * 2 ^ (j+1):=Int.mul_nonneg n0 (Int.le_of_lt (Int.pow_pos (by decide)))
  refine ⟨(n * 2 ^ (j+1),((j+1:Nat):Int)),?_,⟨j+1,by omega,rfl⟩,by simp only;omega⟩
  rw [decide_eq_true (by omega),cond_true,q,Zeu r (by omega),Z4 (by omega) (by omega)]
  rfl
 right
 obtain rfl:j=s:=by omega
 rw [decide_eq_false (by omega),cond_false]
theorem Z6n {c:Int} {w:Nat} (h:0≤c∧c≤5) (ew:wid c=w) (hw:0 < w) (hw2:w≤64) (hs:∀ i:Nat,i * w % 64+w≤64)
  {ns:List Int} (hn:ns.length≤1048576) (hu:∀ n∈ns,0≤n∧n < 18446744073709551616∧Zcx c n=true) :
  Zw (Xb c ns (w:Int)) (0,List.replicate ((ns.length * w+63) / 64) 0)=some (.inr (Zcl (Zsx w) (List.replicate ((ns.length * w+63) / 64) 0) 0 ns)) :=
 (Zc3 ns (fun i s=>(i,s)) (fun s => .inr s) (Xb c ns (w:Int)) (Zsx w) (Z6k w ns.length) (by omega) (fun i s n hi hx hm hI=>by
  obtain ⟨n0,n1,n2⟩:=hu n hm
  have n3:n < 2 ^ w:=by unfold Zcx at n2;rw [← ew];exact of_decide_eq_true n2
  obtain ⟨v,hv,v0,v1,v2,v3,v4⟩:=Z8h hw (hs i) hi hI n0 n3
  refine ⟨?_,v4⟩
  unfold Xb
  simp only
  have hb:=Nat.mul_le_mul_left i hw2
  have e1:IntKind.i64.wrap ((i:Int) * (w:Int))=((i * w:Nat):Int):=by
   rw [← Int.natCast_mul,Z4 (by omega) (by omega)]
  have e2:IntKind.i64.wrap (Int.tdiv ((i * w:Nat):Int) 64)=((i * w / 64:Nat):Int):=by
   rw [Int.tdiv_eq_ediv_of_nonneg (by omega),Z4 (by omega) (by omega)]
   omega
  have e3:Int.tmod (IntKind.i64.wrap ((i:Int) * (w:Int))) 64=((i * w % 64:Nat):Int):=by
   rw [e1,Int.tmod_eq_emod_of_nonneg (by omega)]
   omega
  have e4:=Z1l (y2:=(w:Int)) (s0:=((i:Int),s)) (by omega) e3 n0 (by omega)
  rw [Zb3 hi,cond_true,Y5 hx,Option.bind_some,Zww h.1 h.2 n0 n1,Option.bind_some,n2,Bool.not_true,cond_false,e4,Option.bind_some,decide_eq_true (by omega),cond_true,e1,e2,Y5 hv,Option.bind_some,Option.bind_some,Zeu (by omega) v2]
  unfold Zsx
  rw [hv]
  rfl) (fun s _=>by
  unfold Xb
  simp only
  rw [Zbr,cond_false]) _ (Z8g w ns.length)).1
theorem Z30 {ns:List Int} (hn:ns.length≤1048576) (hu:∀ n∈ns,0≤n∧n < 18446744073709551616∧Zcx 0 n=true) (l0:List Int):Zw (Xb 0 ns ((0:Nat):Int)) (0,l0)=some (.inr l0):=by
 have:=(Zc3 ns (fun i s=>(i,s)) (fun s => .inr s) (Xb 0 ns ((0:Nat):Int)) (fun s _ _=>s) (fun _ s=>s=l0) (by omega) (fun i s n hi hx hm hI=>by
  obtain ⟨n0,n1,n2⟩:=hu n hm
  refine ⟨?_,hI⟩
  unfold Xb
  simp only
  have e3:Int.tmod (IntKind.i64.wrap ((i:Int) * ((0:Nat):Int))) 64=((0:Nat):Int):=by
   rw [Int.natCast_zero,Int.mul_zero]
   rfl
  have e4:=Z1l (y2:=((0:Nat):Int)) (s0:=((i:Int),s)) (by omega) e3 n0 (by omega)
  rw [Zb3 hi,cond_true,Y5 hx,Option.bind_some,Zww (by decide) (by decide) n0 n1,Option.bind_some,n2,Bool.not_true,cond_false,e4,Option.bind_some,decide_eq_false (by decide),cond_false,Option.bind_some]) (fun s _=>by
  unfold Xb
  simp only
  rw [Zbr,cond_false]) l0 rfl)
 rw [this.1,this.2]
theorem Z8r {c:Int} (h:0≤c∧c≤5) {ns:List Int} (hn:ns.length≤1048576) (hu:∀ n∈ns,0≤n∧n < 18446744073709551616∧Zcx c n=true):Za7 c ns=some (Zn5 c ns,true):=by
 have hb:wid c≤64:=by rcases c5' h with rfl | rfl | rfl | rfl | rfl | rfl <;> decide
 have hm:ns.length * wid c≤1048576 * 64:=Nat.mul_le_mul hn hb
 unfold Za7 Zn5
 rw [Z49 h,Option.bind_some,decide_eq_false (by omega),cond_false,Z2v h (by omega),Option.bind_some,Zku (by omega) (by omega) (by omega),Option.bind_some,Int.toNat_natCast]
 have key:∀ w:Nat,wid c=w→0 < w→(∀ i:Nat,i * w % 64+w≤64)→¬ c=0→((Zw (Xb c ns ((wid c:Nat):Int)) (0,List.replicate ((ns.length * wid c+63) / 64) 0)).bind fun (z20:(Unit ⊕ (List Int)))=>match z20 with | .inl z20=>some (([]:(List Int)),false) | .inr z20=>some (z20,true))=some ((if c=0 then [] else Zcl (Zsx (wid c)) (List.replicate ((ns.length * wid c+63) / 64) 0) 0 ns),true):=by
  intro w ew a1 a2 a3
  rw [if_neg a3,ew,Z6n h ew a1 (by omega) a2 hn hu]
  rfl
 rcases c5' h with rfl | rfl | rfl | rfl | rfl | rfl
 ·rw [show wid 0=0 from rfl,Z30 hn hu,Nat.mul_zero,if_pos rfl]
  rfl
 ·exact key 1 rfl (by decide) (fun i=>by omega) (by decide)
 ·exact key 8 rfl (by decide) (fun i=>by omega) (by decide)
 ·exact key 16 rfl (by decide) (fun i=>by omega) (by decide)
 ·exact key 32 rfl (by decide) (fun i=>by omega) (by decide)
 exact key 64 rfl (by decide) (fun i=>by omega) (by decide)
def ato (t:Tr):List Int:=t.Kids.map fun k=>k.Words.headD 0
theorem Zr2 (t:Tr):(ato t).length=t.Kids.length:=by unfold ato;rw [List.length_map]
theorem Z3q {t:Tr} (hk:2≤t.Kind∧t.Kind≤7) (hn:t.Kids.length≤1048576) (ha:∀ k∈t.Kids,∃ w,k.Words=[w]∧0≤w∧Zcx (t.Kind - 2) w=true):Zhg t=some (Zn5 (t.Kind - 2) (ato t)):=by
 have l0:=Z2a t.Kids (fun k=>k.Words.headD 0) (Zbs t) [] (by omega) (fun i x out hi hx hm ho=>by
  obtain ⟨w,hw,_⟩:=ha x hm
  have e:Zno x 0=some w:=by
   unfold Zno
   rw [hw]
   rfl
  unfold Zbs
  simp only [List.length_nil] at ho ⊢
  rw [Zb3 hi,cond_true,Y5 hx,Option.bind_some,e,Option.bind_some,Zbm (by simp only [List.length_singleton];omega) (by simp only [List.length_singleton];omega),Option.bind_some,hw]
  rfl) (fun out=>by
  unfold Zbs
  simp only
  rw [Zbr,cond_false])
 unfold Zhg
 rw [l0,Option.bind_some,Z4 (by omega) (by omega)]
 have:Zd2 (t.Kind - 2) (ato t)=some (Zn5 (t.Kind - 2) (ato t),true):=(Z09 (by omega) (by rw [Zr2];omega) (fun n hn=>by
  obtain ⟨k,hk,rfl⟩:=List.mem_map.1 hn
  obtain ⟨w,hw,h0,h1⟩:=ha k hk
  rw [hw]
  exact ⟨h0,h1⟩)).1
 unfold ato at this
 rw [List.nil_append,this]
 rfl
theorem Z7d {t:Tr} (hn:t.Kids.length≤1048576) (ha:∀ k∈t.Kids,∃ w,k.Words=[w]∧0≤w∧Zcx (t.Kind - 2) w=true):Gg t=some (ato t):=by
 have l0:=Z2a t.Kids (fun k=>k.Words.headD 0) (K5 t) [] (by omega) (fun i x out hi hx hm ho=>by
  obtain ⟨w,hw,_⟩:=ha x hm
  have e:Y2 x.Words 0=some w:=by rw [hw];rfl
  unfold K5
  simp only [List.length_nil] at ho ⊢
  rw [Zb3 hi,cond_true,Y5 hx,Option.bind_some,e,Option.bind_some,Zbm (by simp only [List.length_singleton];omega) (by simp only [List.length_singleton];omega),Option.bind_some,hw]
  rfl) (fun out=>by
  unfold K5
  simp only
  rw [Zbr,cond_false])
 unfold Gg
 rw [l0,Option.bind_some,List.nil_append]
 rfl
theorem Z2g {α:Type} {f:α→Nat} {x:α}:∀ {l:List α},x∈l→f x≤(l.map f).sum
 | [],h=>by cases h
 | y::l,h=>by
  simp only [List.map_cons,List.sum_cons]
  rcases List.mem_cons.1 h with rfl | h
  ·omega
  have:=Z2g (f:=f) h;omega
theorem Z2f {α:Type} {f:α→Nat}:∀ {l:List α},(∀ x∈l,1≤f x)→l.length≤(l.map f).sum
 | [],_=>by simp
 | y::l,h=>by
  have:=Z2f fun x hx=>h x (.tail _ hx)
  have:=h y (.head _)
  simp only [List.map_cons,List.sum_cons,List.length_cons]
  omega
theorem Z42 {α β:Type} {f:α→Nat} {g:β→Nat} (p:α→β):∀ {l:List α},(∀ x∈l,g (p x)≤f x)→((l.map p).map g).sum≤(l.map f).sum
 | [],_=>by simp
 | y::l,h=>by
  have:=Z42 p fun x hx=>h x (.tail _ hx)
  have:=h y (.head _)
  simp only [List.map_cons,List.sum_cons]
  omega
theorem Z5h {α:Type} {p:α→Bool} {f:α→Nat}:∀ l:List α,((tr p l).map f).sum≤(l.map f).sum
 | []=>by simp [tr]
 | x::l=>by
  have:=Z5h (p:=p) (f:=f) l
  by_cases h:tr p l=[]
  ·rw [Zjp h]
   split <;> simp
  rw [Zmu h]
  simp only [List.map_cons,List.sum_cons]
  omega
theorem Z8e (t:Tr):1≤pt t:=by rw [Zn3];omega
theorem Z0y {t x:Tr} (h:x∈t.Kids):pt x+1≤pt t:=by
 have:=Z2g (f:=pt) h
 rw [Zn3 t]
 omega
theorem Zgz (t:Tr):1+t.Words.length+t.Kids.length≤pt t:=by
 have:=Z2f (f:=pt) (l:=t.Kids) fun x _=>Z8e x
 rw [Zn3 t]
 omega
theorem Z45:∀ (n:Nat) (t:Tr),SizeOf.sizeOf t < n→pt (nrm t)≤pt t
 | 0,_,h=>by omega
 | n+1,t,h=>by
  have ih:∀ x∈t.Kids,pt (nrm x)≤pt x:=fun x hx=>Z45 n x (by have:=Y8 hx;omega)
  have e:=Z42 (f:=pt) (g:=pt) nrm ih
  by_cases h0:t.Kind=0
  ·rw [Znq h0,Zn3]
   exact Z8e t
  by_cases h1:t.Kind=1
  ·rw [Gj h1,Zn3,Zn3 t]
   simp only
   have a:=Zd7 (fun x:Int=>x == 0) t.Words
   have b:=Z5h (p:=fun x:Tr=>x.Kind == 0) (f:=pt) (t.Kids.map nrm)
   exact Nat.add_le_add (Nat.add_le_add_left a 1) (Nat.le_trans b e)
  rw [Zdr h0 h1,Zn3,Zn3 t]
  simp only
  omega
theorem Z7m {M N:Int}:∀ (l:List Tr) (s:Int×Int),(∀ x∈l,(x.Words.length:Int)≤M∧(x.Kids.length:Int)≤N)→0≤s.1→s.1≤M→0≤s.2→s.2≤N →
  s.1≤(l.foldl frS s).1∧(l.foldl frS s).1≤M∧s.2≤(l.foldl frS s).2∧(l.foldl frS s).2≤N∧∀ x∈l,(x.Words.length:Int)≤(l.foldl frS s).1∧(x.Kids.length:Int)≤(l.foldl frS s).2
 | [],s,_,a,b,c,d=>⟨Int.le_refl _,b,Int.le_refl _,d,fun x hx=>by cases hx⟩
 | y::l,s,h,a,b,c,d=>by
  obtain ⟨h1,h2⟩:=h y (.head _)
  have e1:s.1≤(frS s y).1∧(frS s y).1≤M∧(y.Words.length:Int)≤(frS s y).1:=by unfold frS;simp only;split <;> omega
  have e2:s.2≤(frS s y).2∧(frS s y).2≤N∧(y.Kids.length:Int)≤(frS s y).2:=by unfold frS;simp only;split <;> omega
  obtain ⟨k1,k2,k3,k4,k5⟩:=Z7m l (frS s y) (fun x hx=>h x (.tail _ hx)) (by omega) e1.2.1 (by omega) e2.2.1
  rw [List.foldl_cons]
  refine ⟨by omega,k2,by omega,k4,fun x hx => ?_⟩
  rcases List.mem_cons.1 hx with rfl | hx
  ·omega
  exact k5 x hx
theorem Yb9 {M N:Int} {l:List Tr} (h:∀ x∈l,(x.Words.length:Int)≤M∧(x.Kids.length:Int)≤N) (hM:0≤M) (hN:0≤N) :
  0≤(fr l).1∧(fr l).1≤M∧0≤(fr l).2∧(fr l).2≤N∧∀ x∈l,(x.Words.length:Int)≤(fr l).1∧(x.Kids.length:Int)≤(fr l).2 :=
 Z7m l (0,0) h (Int.le_refl _) hM (Int.le_refl _) hN
theorem Zvg {α:Type} {f:α→Int} {g:α→Nat} {c:Int}:∀ {l:List α},(∀ x∈l,0≤f x∧f x≤c * (g x:Int))→0≤(l.map f).sum∧(l.map f).sum≤c * (((l.map g).sum:Nat):Int)
 | [],_=>by simp
 | y::l,h=>by
  obtain ⟨a,b⟩:=Zvg fun x hx=>h x (.tail _ hx)
  obtain ⟨c1,d⟩:=h y (.head _)
  simp only [List.map_cons,List.sum_cons,Int.natCast_add,Int.mul_add]
  omega
theorem Zbg {t:Tr} {d:Nat} (h:rt t d=true) (h0:¬ t.Kind=0) (h1:¬ t.Kind=10):t.Words.length < 65536∧(t.Kind=1→t.Kids.length < 65536)∧(1 < t.Kind→t.Words=[])∧∀ k∈t.Kids,rt k (d - 1)=true∧okk t.Kind k=true:=by
 rw [Zfe,if_neg h0,if_neg h1] at h
 by_cases hb:t.Kind < 0∨10 < t.Kind∨d=0∨65536≤t.Words.length∨(t.Kind=1∧65536≤t.Kids.length)∨1048576≤t.Kids.length∨(1 < t.Kind∧0 < t.Words.length)
 ·rw [if_pos hb] at h;cases h
 rw [if_neg hb,List.all_eq_true] at h
 refine ⟨by omega,fun h=>by omega,fun h=>List.length_eq_zero_iff.1 (by omega),fun k hk => ?_⟩
 have:=h k hk
 rwa [Bool.and_eq_true] at this
theorem Ya5 {l:List Tr} (hl:l.length≤200000) (h:∀ x∈l,x.Words.length≤65535∧x.Kids.length≤65535):h9 l=1+(l.length:Int) * ((fr l).1+(fr l).2)∧0≤(l.length:Int) * ((fr l).1+(fr l).2)∧(l.length:Int) * ((fr l).1+(fr l).2)≤26214000000∧(0≤(fr l).1∧(fr l).1≤65535∧0≤(fr l).2∧(fr l).2≤65535∧∀ x∈l,(x.Words.length:Int)≤(fr l).1∧(x.Kids.length:Int)≤(fr l).2):=by
 have f:=Yb9 (M:=65535) (N:=65535) (l:=l) (fun x hx=>by have:=h x hx;omega) (by decide) (by decide)
 have a:0≤(l.length:Int) * ((fr l).1+(fr l).2):=Int.mul_nonneg (by omega) (by omega)
 have b:(l.length:Int) * ((fr l).1+(fr l).2)≤200000 * 131070:=Int.mul_le_mul (by omega) (by omega) (by omega) (by decide)
 refine ⟨?_,a,by omega,f⟩
 unfold h9
 rw [Z4 (x:=(fr l).1+(fr l).2) (by omega) (by omega),Z4 (x:=(l.length:Int) * _) (by omega) (by omega),Z4 (by omega) (by omega)]
theorem Zvm {c:Int} (h:0≤c∧c≤5) (n:Nat):(n * wid c+63) / 64≤n:=by
 have hb:wid c≤64:=by rcases c5' h with rfl | rfl | rfl | rfl | rfl | rfl <;> decide
 have:=Nat.mul_le_mul_left n hb
 omega
theorem Z84:∀ (n:Nat) (t:Tr) (d:Nat),SizeOf.sizeOf t < n→rt t d=true→pt t≤200000→0≤sz t∧sz t≤27000000000 * (pt t:Int)
 | 0,_,_,h,_,_=>by omega
 | n+1,t,d,h,hr,hp=>by
  obtain ⟨_,_,_,_,hk⟩:=Zff hr
  have ih:∀ x∈t.Kids,0≤sz x∧sz x≤27000000000 * (pt x:Int):=fun x hx=>Z84 n x (d - 1) (by have:=Y8 hx;omega) (hk x hx) (by have:=Z0y hx;omega)
  have ih2:∀ x∈t.Kids,0≤(x.Kids.map sz).sum∧(x.Kids.map sz).sum≤27000000000 * (pt x:Int):=fun x hx=>by
   have:=Zvg (f:=sz) (g:=pt) (c:=27000000000) (l:=x.Kids) fun y hy=>Z84 n y (d - 1 - 1) (by have:=Y8 hx;have:=Y8 hy;omega) ((Zff (hk x hx)).2.2.2.2 y hy) (by have:=Z0y hx;have:=Z0y hy;omega)
   rw [Zn3 x]
   omega
  have s1:=Zvg ih
  have s2:=Zvg ih2
  have pk:=Zgz t
  have pe:=Zn3 t
  rw [Zjc]
  by_cases h1:t.Kind=1
  ·rw [if_pos h1];omega
  by_cases h2:2≤t.Kind∧t.Kind≤7
  ·rw [if_neg h1,if_pos h2]
   have:=Zvm (c:=t.Kind - 2) (by omega) t.Kids.length
   unfold Zi9
   omega
  by_cases h8:t.Kind=8
  ·rw [if_neg h1,if_neg h2,if_pos h8];omega
  by_cases h9':t.Kind=9
  ·rw [if_neg h1,if_neg h2,if_neg h8,if_pos h9']
   obtain ⟨e,a,b,_⟩:=Ya5 (l:=t.Kids) (by omega) (fun x hx=>by
    obtain ⟨r1,r2⟩:=(Zbg hr (by omega) (by omega)).2.2.2 x hx
    unfold okk at r2
    rw [if_neg h2,Bool.and_eq_true,bne_iff_ne,Bool.or_eq_true,bne_iff_ne,beq_iff_eq] at r2
    have k1:x.Kind=1:=by rcases r2.2 with h | h;exact absurd h9' h;exact h
    have:=Zbg r1 (by omega) (by omega)
    have:=this.2.1 k1
    omega)
   omega
  rw [if_neg h1,if_neg h2,if_neg h8,if_neg h9'];omega
theorem Zu9 {t:Tr} {d:Nat} (hr:rt t d=true) (hp:pt t≤200000):0≤sz t∧sz t≤5400000000000000:=by
 have:=Z84 _ t d (Nat.lt_succ_self _) hr hp
 omega
def zs (l:List Int) (N:Nat):List Int:=l++List.replicate (N - l.length) 0
theorem Zrz {l:List Int} {N:Nat} (h:l.length≤N):(zs l N).length=N:=by
 unfold zs
 rw [List.length_append,List.length_replicate]
 omega
theorem Yb1 {l:List Int} {N a:Nat} {v:Int} (h:l[a]? = some v):(zs l N)[a]? = some v:=by
 unfold zs
 rw [List.getElem?_append_left (List.getElem?_eq_some_iff.1 h).1,h]
theorem Zuq {l:List Int} {N a:Nat} {v:Int} (h:a < l.length):Xu (zs l N) (a:Int) v=zs (Xu l (a:Int) v) N:=by
 unfold zs
 rw [Qa]
 unfold Xu
 rw [Int.toNat_natCast,List.set_append_left _ _ h]
theorem Z1b {l ys:List Int} {N:Nat} (h:l.length+ys.length≤N):Zjj (zs l N) (l.length:Int) ys=zs (l++ys) N:=by
 unfold Zjj
 rw [Zrz (by omega)]
 unfold zs
 rw [Int.toNat_natCast,List.take_left,List.take_of_length_le (by omega),List.drop_append,List.drop_replicate,List.drop_eq_nil_of_le (by omega),List.nil_append,List.length_append]
 congr 2
 omega
theorem Zn9 {l:List Int} {N n:Nat} (h:l.length+n≤N):zs (l++List.replicate n 0) N=zs l N:=by
 unfold zs
 rw [List.length_append,List.length_replicate,List.append_assoc,List.replicate_append_replicate]
 congr 2
 omega
theorem Z26 {l:List Int} {n:Nat} (h:l.length+n≤1048576):Vg l (n:Int)=some (l++List.replicate n 0):=by
 have:=(Zc3 (List.replicate n ()) (fun i s=>(i,s)) (fun s=>s) (Up (n:Int)) (fun s _ _=>s++[0]) (fun i s=>s=l++List.replicate i 0) (by rw [List.length_replicate];omega) (fun i s x hi hx hm hI=>by
  subst hI
  rw [List.length_replicate] at hi
  refine ⟨?_,?_⟩
  ·unfold Up
   simp only
   rw [decide_eq_true (by omega),cond_true,Zbm (by rw [List.length_append,List.length_replicate,List.length_singleton];omega) (by rw [List.length_append,List.length_replicate,List.length_singleton];omega)]
   rfl
  ·rw [List.append_assoc,List.replicate_succ']) (fun s _=>by
  unfold Up
  simp only
  rw [List.length_replicate,Zbr,cond_false]) l (by simp))
 unfold Vg
 rw [this.1,Option.bind_some,this.2,List.length_replicate]
noncomputable def ly (t:Tr) (l:List Int) (a:Nat):List Int:=(Yl (SizeOf.sizeOf t+1) l (a:Int) t).getD []
def Sim (t:Tr):Prop:=∀ (l:List Int) (a:Nat),a < l.length→(l.length:Int)+sz t≤131072 →
 ((ly t l a).length:Int)=l.length+sz t∧(∀ j,SizeOf.sizeOf t < j→Yl j l (a:Int) t=some (ly t l a)) ∧
 (∀ N k:Nat,(l.length:Int)+sz t≤N→N≤131072→4 * SizeOf.sizeOf t < k→(Zl k).1 ⟨zs l N,(l.length:Int)⟩ (a:Int) t=some ⟨zs (ly t l a) N,((ly t l a).length:Int)⟩)
theorem Zw2 {t:Tr} {l R:List Int} {a:Nat} (hr:(R.length:Int)=l.length+sz t) (ref:∀ j,SizeOf.sizeOf t≤j→Xn (Yl j) l (a:Int) t=some R)
  (prog:∀ N k:Nat,(l.length:Int)+sz t≤N→N≤131072→4 * SizeOf.sizeOf t < k+4→(Zl (k+4)).1 ⟨zs l N,(l.length:Int)⟩ (a:Int) t=some ⟨zs R N,(R.length:Int)⟩) :
  ly t l a=R∧((ly t l a).length:Int)=l.length+sz t∧(∀ j,SizeOf.sizeOf t < j→Yl j l (a:Int) t=some (ly t l a)) ∧
  (∀ N k:Nat,(l.length:Int)+sz t≤N→N≤131072→4 * SizeOf.sizeOf t < k→(Zl k).1 ⟨zs l N,(l.length:Int)⟩ (a:Int) t=some ⟨zs (ly t l a) N,((ly t l a).length:Int)⟩):=by
 have e:ly t l a=R:=by
  unfold ly
  have:=ref (SizeOf.sizeOf t) (Nat.le_refl _)
  show Option.getD (Xn (Yl (SizeOf.sizeOf t)) l (a:Int) t) []=R
  rw [this]
  rfl
 refine ⟨e,by rw [e];exact hr,fun j hj => ?_,fun N k h1 h2 h3 => ?_⟩
 ·obtain ⟨i,rfl⟩:∃ i,j=i+1:=⟨j - 1,by omega⟩
  rw [e]
  exact ref i (by omega)
 have:=Zk9 t
 obtain ⟨i,rfl⟩:∃ i,k=i+4:=⟨k - 4,by omega⟩
 rw [e]
 exact prog N i h1 h2 h3
theorem Z91 (k:Nat):(Zl (k+1)).1=Kg ((Zl k).1) ((Zl k).2.1) ((Zl k).2.2.1) ((Zl k).2.2.2):=rfl
theorem Z92 (k:Nat):(Zl (k+1)).2.1=Jd ((Zl k).1) ((Zl k).2.1) ((Zl k).2.2.1) ((Zl k).2.2.2):=rfl
theorem Yde (k:Nat):(Zl (k+1)).2.2.1=Zbn ((Zl k).1) ((Zl k).2.1) ((Zl k).2.2.1) ((Zl k).2.2.2):=rfl
theorem Ydf (k:Nat):(Zl (k+1)).2.2.2=Zcj ((Zl k).1) ((Zl k).2.1) ((Zl k).2.2.1) ((Zl k).2.2.2):=rfl
noncomputable def lyK (b:Nat) (ks:List Tr) (l:List Int):List Int:=Zcl (fun l i x=>ly x l (b+i)) l 0 ks
theorem Zz2 {α σ:Type} {f:σ→Nat→α→σ} (I:Nat→σ→Prop) (xs:List α) (h:∀ (i:Nat) (s:σ) (x:α),i < xs.length→xs[i]? = some x→x∈xs→I i s→I (i+1) (f s i x)) {s:σ} (h0:I 0 s):I xs.length (Zcl f s 0 xs):=by
 have key:∀ (l pre:List α) (s:σ),xs=pre++l→I pre.length s→I xs.length (Zcl f s pre.length l):=fun l=>by
  induction l with
  | nil =>
   intro pre s hp hi
   rw [List.append_nil] at hp
   subst hp
   exact hi
  | cons x l ih =>
   intro pre s hp hI
   have hx:xs[pre.length]? = some x:=by rw [hp,List.getElem?_append_right (Nat.le_refl _),Nat.sub_self];rfl
   have hi:pre.length < xs.length:=by rw [hp];simp
   have b:=h pre.length s x hi hx (List.mem_of_getElem? hx) hI
   have:=ih (pre++[x]) (f s pre.length x) (by rw [hp];simp) (by rw [List.length_append,List.length_singleton];exact b)
   rw [List.length_append,List.length_singleton] at this
   exact this
 exact key xs [] s rfl h0
theorem Zsi {ks:List Tr} (hk:∀ x∈ks,Sim x∧0≤sz x) {l:List Int} {b:Nat} (hb:b+ks.length≤l.length) (hs:(l.length:Int)+(ks.map sz).sum≤131072)
  (i:Nat) (s:List Int) (x:Tr) (hi:i < ks.length) (hx:ks[i]? = some x) (hm:x∈ks) (hI:(s.length:Int)=l.length+((ks.take i).map sz).sum) :
  b+i < s.length∧(s.length:Int)+sz x≤l.length+(ks.map sz).sum∧((ly x s (b+i)).length:Int)=l.length+((ks.take (i+1)).map sz).sum:=by
 obtain ⟨h1,h2⟩:=Zw4 (f:=sz) hx fun y hy=>(hk y hy).2
 have h3:=Ut (f:=sz) (xs:=ks.take i) fun y hy=>(hk y (List.mem_of_mem_take hy)).2
 have h4:=((hk x hm).1 s (b+i) (by omega) (by omega)).1
 exact ⟨by omega,by omega,by omega⟩
theorem Zsj {ks:List Tr} (hk:∀ x∈ks,Sim x∧0≤sz x) {l:List Int} {b:Nat} (hb:b+ks.length≤l.length) (hs:(l.length:Int)+(ks.map sz).sum≤131072):((lyK b ks l).length:Int)=l.length+(ks.map sz).sum:=by
 have:=Zz2 (f:=fun l i x=>ly x l (b+i)) (fun i (s:List Int)=>(s.length:Int)=l.length+((ks.take i).map sz).sum) ks (fun i s x hi hx hm hI=>(Zsi hk hb hs i s x hi hx hm hI).2.2) (s:=l) (by simp)
 rw [List.take_length] at this
 exact this
theorem Z7s {ks:List Tr} (hk:∀ x∈ks,Sim x∧0≤sz x) {l:List Int} {b:Nat} (hb:b+ks.length≤l.length) (hs:(l.length:Int)+(ks.map sz).sum≤131072)
  (j:Nat) (step:Int×List Int→Option ((Int×List Int) ⊕ List Int)) (hj:∀ x∈ks,SizeOf.sizeOf x < j)
  (h1:∀ (i:Nat) (s:List Int) (x:Tr) (s':List Int),i < ks.length→ks[i]? = some x→x∈ks→Yl j s ((b+i:Nat):Int) x=some s'→step ((i:Int),s)=some (.inl (IntKind.i64.wrap ((i:Int)+1),s')))
  (h2:∀ s,step ((ks.length:Int),s)=some (.inr s)):Zw step (0,l)=some (lyK b ks l):=by
 have h3:=Ut (f:=sz) (xs:=ks) fun y hy=>(hk y hy).2
 exact (Zc3 ks (fun i s=>(i,s)) (fun s=>s) step (fun l i x=>ly x l (b+i)) (fun i (s:List Int)=>(s.length:Int)=l.length+((ks.take i).map sz).sum) (by omega) (fun i s x hi hx hm hI=>by
  obtain ⟨a1,a2,a3⟩:=Zsi hk hb hs i s x hi hx hm hI
  exact ⟨h1 i s x _ hi hx hm (((hk x hm).1 s (b+i) a1 (by omega)).2.1 j (hj x hm)),a3⟩) (fun s _=>h2 s) l (by simp)).1
theorem Z7r {ks:List Tr} (hk:∀ x∈ks,Sim x∧0≤sz x) {l:List Int} {b:Nat} (hb:b+ks.length≤l.length) (hs:(l.length:Int)+(ks.map sz).sum≤131072)
  (N m:Nat) (hN:(l.length:Int)+(ks.map sz).sum≤N) (hN2:N≤131072) (hm:∀ x∈ks,4 * SizeOf.sizeOf x < m) :
  (Zl (m+1)).2.2.1 ⟨zs l N,(l.length:Int)⟩ (b:Int) ks=some ⟨zs (lyK b ks l) N,((lyK b ks l).length:Int)⟩:=by
 have h3:=Ut (f:=sz) (xs:=ks) fun y hy=>(hk y hy).2
 rw [Yde]
 unfold Zbn
 have:=(Zc3 ks (fun i (s:List Int)=>(i,zs s N,(s.length:Int))) (fun s=>(zs s N,(s.length:Int))) (K0 (Zl m).1 (b:Int) ks) (fun l i x=>ly x l (b+i)) (fun i (s:List Int)=>(s.length:Int)=l.length+((ks.take i).map sz).sum) (by omega) (fun i s x hi hx hm' hI=>by
  obtain ⟨a1,a2,a3⟩:=Zsi hk hb hs i s x hi hx hm' hI
  refine ⟨?_,a3⟩
  unfold K0
  simp only
  have e:IntKind.i64.wrap ((b:Int)+(i:Int))=((b+i:Nat):Int):=by rw [Z4 (by omega) (by omega)];omega
  rw [Zb3 hi,cond_true,Y5 hx,Option.bind_some,e,((hk x hm').1 s (b+i) a1 (by omega)).2.2 N m (by omega) hN2 (hm x hm'),Option.bind_some]) (fun s _=>by
  unfold K0
  simp only
  rw [Zbr,cond_false]) l (by simp)).1
 rw [this]
 rfl
theorem V1 {a b:Int} (h:a=b):(a == b)=true:=by rw [h];exact beq_self_eq_true b
theorem Zta {l:List Int} {a:Nat} (h:a < l.length):Y2 l (a:Int)=some l[a]:=Y5 (List.getElem?_eq_getElem h)
theorem Z54 {l:List Int} {a N:Nat} (h:a < l.length):Y2 (zs l N) (a:Int)=some l[a]:=Y5 (Yb1 (List.getElem?_eq_getElem h))
theorem Z94 {ks:List Tr} (h:ks=[]) (b b':Nat) (l:List Int):lyK b ks l=lyK b' ks l:=by subst h;rfl
theorem Z8z {t:Tr} (h0:t.Kind=0):Sim t:=fun l a ha hs=>by
 have e:sz t=0:=by
  rw [Zjc,if_neg (by omega),if_neg (by omega),if_neg (by omega),if_neg (by omega)]
 exact (Zw2 (R:=l) (by omega) (fun j _=>by
  unfold Xn
  rw [V1 h0,cond_true]) (fun N k _ _ _=>by
  rw [Z91]
  unfold Kg
  rw [V1 h0,cond_true])).2
def Zjf (t:Tr) (l:List Int) (a:Nat):Int:=if t.Words.length+t.Kids.length=0 then -1 else (l.length:Int) - a - 1
def RS1 (t:Tr) (l:List Int) (a:Nat):List Int:=Xu l (a:Int) (Zjf t l a % 1073741824 * 4+(t.Words.length:Int) * 4294967296+(t.Kids.length:Int) * 281474976710656)++t.Words++List.replicate t.Kids.length 0
theorem Zwe {t:Tr} (h1:t.Kind=1) (hw:t.Words.length < 65536) (hkl:t.Kids.length < 65536) (hk:∀ x∈t.Kids,Sim x∧0≤sz x) (l:List Int) (a:Nat) (ha:a < l.length) (hs:(l.length:Int)+sz t≤131072) :
  ly t l a=lyK (l.length+t.Words.length) t.Kids (RS1 t l a)∧((ly t l a).length:Int)=l.length+sz t∧(∀ j,SizeOf.sizeOf t < j→Yl j l (a:Int) t=some (ly t l a)) ∧
  (∀ N k:Nat,(l.length:Int)+sz t≤N→N≤131072→4 * SizeOf.sizeOf t < k→(Zl k).1 ⟨zs l N,(l.length:Int)⟩ (a:Int) t=some ⟨zs (ly t l a) N,((ly t l a).length:Int)⟩):=by
 have es:sz t=((t.Words.length:Int)+(t.Kids.length:Int))+(t.Kids.map sz).sum:=by rw [Zjc,if_pos h1]
 have s0:=Ut (f:=sz) (xs:=t.Kids) fun y hy=>(hk y hy).2
 have k0:(t.Kind == 0)=false:=Xk (by omega)
 have k1:(t.Kind == 1)=true:=V1 h1
 have l2:(RS1 t l a).length=l.length+t.Words.length+t.Kids.length:=by unfold RS1;rw [List.length_append,List.length_append,Qa,List.length_replicate]
 have hb:l.length+t.Words.length+t.Kids.length≤(RS1 t l a).length:=by omega
 have hs2:((RS1 t l a).length:Int)+(t.Kids.map sz).sum≤131072:=by omega
 have len:=Zsj hk hb hs2
 have ho:-536870912≤Zjf t l a∧Zjf t l a < 536870912∧¬ (Zjf t l a=0∧(t.Words.length:Int)=0∧(t.Kids.length:Int)=0):=by unfold Zjf;split <;> omega
 refine Zw2 (by rw [len];omega) (fun j hj => ?_) (fun N k hN hN2 hkk => ?_)
 ·unfold Xn
  rw [k0,cond_false,k1,cond_true]
  have ez:(cond ((IntKind.i64.wrap ((t.Words.length:Int)+(t.Kids.length:Int))) == 0) (some (a:Int)) (some (l.length:Int)))=some (((if t.Words.length+t.Kids.length=0 then a else l.length:Nat):Nat):Int):=by
   rw [Z4 (by omega) (by omega)]
   by_cases q:t.Words.length+t.Kids.length=0
   ·rw [V1 (by omega),cond_true,if_pos q]
   rw [Xk (by omega),cond_false,if_neg q]
  rw [ez,Option.bind_some]
  generalize ht:(if t.Words.length+t.Kids.length=0 then a else l.length)=tt
  have hto:tt≤l.length∧(tt:Int) - a - 1=Zjf t l a∧(tt=l.length∨t.Kids=[]):=by
   unfold Zjf
   by_cases q:t.Words.length+t.Kids.length=0
   ·rw [if_pos q] at ht ⊢
    exact ⟨by omega,by omega,.inr (List.length_eq_zero_iff.1 (by omega))⟩
   rw [if_neg q] at ht ⊢
   exact ⟨by omega,by omega,.inl ht.symm⟩
  have hto3:t.Kids.length=0∨tt=l.length:=by
   rcases hto.2.2 with h | h
   ·exact .inr h
   exact .inl (by rw [h];rfl)
  rw [Zeu (x:=(t.Words.length:Int)) (by omega) (by omega),Zeu (x:=(t.Kids.length:Int)) (by omega) (by omega),Zeu (x:=65536 * _) (by omega) (by omega),Zeu (by omega) (by omega),Zs0 (by omega) (by omega) (by omega) (by omega) (by decide) (by decide) (by omega) (by omega),Option.bind_some,Zta ha,Option.bind_some,hto.2.1]
  have ev:Zjf t l a % 1073741824 * 4+0+((t.Words.length:Int)+65536 * (t.Kids.length:Int)) * 4294967296=Zjf t l a % 1073741824 * 4+(t.Words.length:Int) * 4294967296+(t.Kids.length:Int) * 281474976710656:=by omega
  rw [ev,Zbm (by rw [Qa];omega) (by rw [Qa];omega),Option.bind_some,Z26 (by rw [List.length_append,Qa];omega),Option.bind_some]
  have:=Z7s (b:=tt+t.Words.length) hk (by omega) hs2 j (Ui (Yl j) t (tt:Int)) (fun x hx=>by have:=Y8 hx;omega) (fun i s x s' hi hx hm hq=>by
   unfold Ui
   simp only
   have e:IntKind.i64.wrap (IntKind.i64.wrap ((tt:Int)+(t.Words.length:Int))+(i:Int))=((tt+t.Words.length+i:Nat):Int):=by rw [Z4 (x:=(tt:Int)+_) (by omega) (by omega),Z4 (by omega) (by omega)];omega
   rw [Zb3 hi,cond_true,Y5 hx,Option.bind_some,e,hq,Option.bind_some]) (fun s=>by
   unfold Ui
   simp only
   rw [Zbr,cond_false])
  unfold RS1 at this ⊢
  rw [this,Option.bind_some]
  rcases hto.2.2 with h | h
  ·rw [h]
  rw [Z94 h]
 rw [Z91]
 unfold Kg
 rw [k0,cond_false]
 have e1:Zar t=some (⟨1,0,(t.Words.length:Int),(t.Kids.length:Int),0,0,0,false⟩:Zs):=by unfold Zar;rw [k1,cond_true]
 have e2:Yt (⟨1,0,(t.Words.length:Int),(t.Kids.length:Int),0,0,0,false⟩:Zs)=some ((t.Words.length:Int)+(t.Kids.length:Int),true):=by
  unfold Yt
  simp only
  rw [V1 rfl,cond_true,Z4 (by omega) (by omega)]
 have e3:(cond (cond ((1:Int) == 1) (((t.Words.length:Int)+(t.Kids.length:Int)) == 0) false) (some (-1)) (some (IntKind.i64.wrap ((IntKind.i64.wrap ((l.length:Int) - (a:Int))) - 1))))=some (Zjf t l a):=by
  unfold Zjf
  rw [Z4 (x:=(l.length:Int) - (a:Int)) (by omega) (by omega),Z4 (by omega) (by omega),V1 rfl,cond_true]
  by_cases q:t.Words.length+t.Kids.length=0
  ·rw [V1 (by omega),cond_true,if_pos q]
  rw [Xk (by omega),cond_false,if_neg q]
 rw [e1,Option.bind_some,e2,Option.bind_some]
 simp only
 rw [e3,Option.bind_some,Z7g ho.1 ho.2.1 (by omega) (by omega) (by omega) (by omega) ho.2.2,Option.bind_some,Z54 ha,Option.bind_some,Zuq ha,Z92]
 unfold Jd
 simp only
 rw [k1,cond_true]
 have l1:=Qa l (a:Int) (Zjf t l a % 1073741824 * 4+(t.Words.length:Int) * 4294967296+(t.Kids.length:Int) * 281474976710656)
 unfold RS1 at l2 len hb hs2 ⊢
 generalize Xu l (a:Int) (Zjf t l a % 1073741824 * 4+(t.Words.length:Int) * 4294967296+(t.Kids.length:Int) * 281474976710656)=m at *
 rw [Zrz (by omega),Jv (by omega),Option.bind_some,Z4 (x:=(l.length:Int)+_) (by omega) (by omega),Z4 (by omega) (by omega),← l1,Z1b (by omega),← Zn9 (n:=t.Kids.length) (by rw [List.length_append];omega)]
 have:=Z7r hk hb hs2 N (k+1) (by omega) hN2 (fun x hx=>by have:=Y8 hx;omega)
 have e4:(m.length:Int)+((min t.Words.length (((N:Nat):Int) - (m.length:Int)).toNat:Nat):Int)=((m.length+t.Words.length:Nat):Int):=by omega
 have e5:(m.length:Int)+((t.Words.length:Int)+(t.Kids.length:Int))=((m++t.Words++List.replicate t.Kids.length 0).length:Int):=by omega
 rw [e4,e5,← l1] at *
 rw [this]
 rfl
theorem Yby {c:Int} (h:0≤c∧c≤6):Zei c=some (if c=6 then 64 else ((wid c:Nat):Int)):=by
 have:c=0∨c=1∨c=2∨c=3∨c=4∨c=5∨c=6:=by omega
 rcases this with rfl | rfl | rfl | rfl | rfl | rfl | rfl <;> rfl
def rmL (c:Int) (n:Nat):Nat:=if c=6 then n else (n * wid c+63) / 64
theorem Z8i {c off:Int} {n:Nat} (h:0≤c∧c≤6) (hn:n≤200000):Yt (⟨2,off,0,0,c,(n:Int),0,false⟩:Zs)=some (((rmL c n:Nat):Int),true):=by
 unfold Yt
 simp only
 rw [Xk (a:=2) (b:=1) (by decide),cond_false,V1 (a:=2) (b:=2) rfl,cond_true,Xk (a:=c) (b:=7) (by omega),cond_false,cond_true,decide_eq_true (by omega),cond_true,decide_eq_true (by omega),cond_true,decide_eq_true (by omega),cond_true,decide_eq_true (by omega),cond_true,Yby h,Option.bind_some]
 unfold rmL
 by_cases q:c=6
 ·rw [if_pos q,if_pos q,Z4 (x:=(n:Int) * 64) (by omega) (by omega),Z4 (x:=(n:Int) * 64+63) (by omega) (by omega),Int.tdiv_eq_ediv_of_nonneg (by omega),Z4 (by omega) (by omega)]
  congr 2
  omega
 rw [if_neg q,if_neg q]
 have hb:wid c≤64:=by rcases c5' (show 0≤c∧c≤5 by omega) with rfl | rfl | rfl | rfl | rfl | rfl <;> decide
 have hm:n * wid c≤200000 * 64:=Nat.mul_le_mul hn hb
 rw [← Int.natCast_mul]
 generalize n * wid c=m at hm ⊢
 rw [Z4 (x:=(m:Int)) (by omega) (by omega),Z4 (x:=(m:Int)+63) (by omega) (by omega),Int.tdiv_eq_ediv_of_nonneg (by omega),Z4 (by omega) (by omega)]
 congr 1
def hdL (t:Tr) (l:List Int) (a:Nat):Int:=((l.length:Int) - a - 1) % 1073741824 * 4+1+(t.Kind - 2) * 4294967296+(t.Kids.length:Int) * 34359738368
theorem Ybx {t:Tr} (h2:2≤t.Kind∧t.Kind≤8):Zar t=some (⟨2,0,0,0,t.Kind - 2,(t.Kids.length:Int),0,false⟩:Zs):=by
 unfold Zar
 rw [Xk (by omega),cond_false,Xk (by omega),cond_false,Z4 (by omega) (by omega)]
theorem Zwq {t:Tr} (h2:2≤t.Kind∧t.Kind≤8) (hn:t.Kids.length≤200000) {l:List Int} {a N:Nat} (ha:a < l.length) (hl:l.length≤131072) (k:Nat) :
  (Zl (k+1)).1 ⟨zs l N,(l.length:Int)⟩ (a:Int) t=((Zl k).2.1 ⟨zs (Xu l (a:Int) (hdL t l a)) N,((l.length+rmL (t.Kind - 2) t.Kids.length:Nat):Int)⟩ (l.length:Int) t).bind fun y=>some ⟨y.words,y.next⟩:=by
 rw [Z91]
 unfold Kg
 have hr:rmL (t.Kind - 2) t.Kids.length≤t.Kids.length:=by
  unfold rmL
  split
  ·exact Nat.le_refl _
  exact Zvm (by omega) _
 rw [Xk (by omega),cond_false,Ybx h2,Option.bind_some,Z8i (by omega) hn,Option.bind_some]
 simp only
 rw [Xk (a:=2) (b:=1) (by decide),cond_false,cond_false,Option.bind_some,Z4 (x:=(l.length:Int) - (a:Int)) (by omega) (by omega),Z4 (by omega) (by omega),Z9r (by omega) (by omega) (by omega) (by omega) (by omega) (by omega),Option.bind_some,Z54 ha,Option.bind_some,Zuq ha,Z4 (by omega) (by omega)]
 rfl
theorem Z15 {t:Tr} (h8:t.Kind=8) (hn:t.Kids.length≤200000) (hk:∀ x∈t.Kids,Sim x∧0≤sz x) (l:List Int) (a:Nat) (ha:a < l.length) (hs:(l.length:Int)+sz t≤131072) :
  ly t l a=lyK l.length t.Kids (Xu l (a:Int) (hdL t l a)++List.replicate t.Kids.length 0)∧((ly t l a).length:Int)=l.length+sz t∧(∀ j,SizeOf.sizeOf t < j→Yl j l (a:Int) t=some (ly t l a)) ∧
  (∀ N k:Nat,(l.length:Int)+sz t≤N→N≤131072→4 * SizeOf.sizeOf t < k→(Zl k).1 ⟨zs l N,(l.length:Int)⟩ (a:Int) t=some ⟨zs (ly t l a) N,((ly t l a).length:Int)⟩):=by
 have es:sz t=(t.Kids.length:Int)+(t.Kids.map sz).sum:=by rw [Zjc,if_neg (by omega),if_neg (by omega),if_pos h8]
 have s0:=Ut (f:=sz) (xs:=t.Kids) fun y hy=>(hk y hy).2
 have l1:=Qa l (a:Int) (hdL t l a)
 have l2:(Xu l (a:Int) (hdL t l a)++List.replicate t.Kids.length 0).length=l.length+t.Kids.length:=by rw [List.length_append,Qa,List.length_replicate]
 have hb:l.length+t.Kids.length≤(Xu l (a:Int) (hdL t l a)++List.replicate t.Kids.length 0).length:=by omega
 have hs2:((Xu l (a:Int) (hdL t l a)++List.replicate t.Kids.length 0).length:Int)+(t.Kids.map sz).sum≤131072:=by omega
 have len:=Zsj hk hb hs2
 refine Zw2 (by rw [len];omega) (fun j hj => ?_) (fun N k hN hN2 hkk => ?_)
 ·unfold Xn
  rw [Xk (by omega),cond_false,Xk (by omega),cond_false,V1 h8,cond_true,Zeu (x:=(t.Kids.length:Int)) (by omega) (by omega),Zeu (x:=8 * _) (by omega) (by omega),Zeu (by omega) (by omega),Zs0 (by omega) (by omega) (by omega) (by omega) (by decide) (by decide) (by omega) (by omega),Option.bind_some,Zta ha,Option.bind_some]
  have ev:((l.length:Int) - (a:Int) - 1) % 1073741824 * 4+1+(6+8 * (t.Kids.length:Int)) * 4294967296=hdL t l a:=by unfold hdL;rw [h8];omega
  rw [ev,Z26 (by omega),Option.bind_some]
  have:=Z7s hk hb hs2 j (Uj (Yl j) l t) (fun x hx=>by have:=Y8 hx;omega) (fun i s x s' hi hx hm hq=>by
   unfold Uj
   simp only
   have e:IntKind.i64.wrap ((l.length:Int)+(i:Int))=((l.length+i:Nat):Int):=by rw [Z4 (by omega) (by omega)];omega
   rw [Zb3 hi,cond_true,Y5 hx,Option.bind_some,e,hq,Option.bind_some]) (fun s=>by
   unfold Uj
   simp only
   rw [Zbr,cond_false])
  rw [this,Option.bind_some]
 rw [Zwq (by omega) hn ha (by omega),Z92]
 unfold Jd
 simp only
 rw [Xk (by omega),cond_false,V1 h8,cond_true]
 have e0:rmL (t.Kind - 2) t.Kids.length=t.Kids.length:=by unfold rmL;rw [if_pos (by omega)]
 have:=Z7r hk hb hs2 N (k+1) (by omega) hN2 (fun x hx=>by have:=Y8 hx;omega)
 rw [Zn9 (by omega),l2] at this
 rw [e0,this]
 rfl
theorem Z13 {t:Tr} (h2:2≤t.Kind∧t.Kind≤7) (hn:t.Kids.length≤200000) (hat:∀ k∈t.Kids,∃ w,k.Words=[w]∧0≤w∧w < 18446744073709551616∧Zcx (t.Kind - 2) w=true) (l:List Int) (a:Nat) (ha:a < l.length) (hs:(l.length:Int)+sz t≤131072) :
  ly t l a=Xu l (a:Int) (hdL t l a)++Zn5 (t.Kind - 2) (ato t)∧((ly t l a).length:Int)=l.length+sz t∧(∀ j,SizeOf.sizeOf t < j→Yl j l (a:Int) t=some (ly t l a)) ∧
  (∀ N k:Nat,(l.length:Int)+sz t≤N→N≤131072→4 * SizeOf.sizeOf t < k→(Zl k).1 ⟨zs l N,(l.length:Int)⟩ (a:Int) t=some ⟨zs (ly t l a) N,((ly t l a).length:Int)⟩):=by
 have es:sz t=((rmL (t.Kind - 2) t.Kids.length:Nat):Int):=by
  rw [Zjc,if_neg (by omega),if_pos h2]
  unfold Zi9 rmL
  rw [if_neg (by omega)]
 have hr:rmL (t.Kind - 2) t.Kids.length≤t.Kids.length:=by
  unfold rmL
  rw [if_neg (by omega)]
  exact Zvm (by omega) _
 have l1:=Qa l (a:Int) (hdL t l a)
 have hp:(Zn5 (t.Kind - 2) (ato t)).length=rmL (t.Kind - 2) t.Kids.length:=by
  have:=(Z09 (c:=t.Kind - 2) (by omega) (ns:=ato t) (by rw [Zr2];omega) (fun n hn=>by
   obtain ⟨k,hk,rfl⟩:=List.mem_map.1 hn
   obtain ⟨w,hw,h0,_,h1⟩:=hat k hk
   rw [hw]
   exact ⟨h0,h1⟩)).2
  rw [this,Zr2]
  unfold rmL
  rw [if_neg (by omega)]
 have l2:(Xu l (a:Int) (hdL t l a)++Zn5 (t.Kind - 2) (ato t)).length=l.length+rmL (t.Kind - 2) t.Kids.length:=by rw [List.length_append,Qa,hp]
 refine Zw2 (by rw [l2];omega) (fun j hj => ?_) (fun N k hN hN2 hkk => ?_)
 ·unfold Xn
  rw [Xk (by omega),cond_false,Xk (by omega),cond_false,Xk (by omega),cond_false,Xk (by omega),cond_false,Z7d (by omega) (fun k hk=>by obtain ⟨w,a,b,_,c⟩:=hat k hk;exact ⟨w,a,b,c⟩),Option.bind_some,Z4 (x:=t.Kind - 2) (by omega) (by omega),Z8r (by omega) (by rw [Zr2];omega) (fun n hn=>by
   obtain ⟨k,hk,rfl⟩:=List.mem_map.1 hn
   obtain ⟨w,hw,h0,h1,h2⟩:=hat k hk
   rw [hw]
   exact ⟨h0,h1,h2⟩),Option.bind_some,Zeu (x:=t.Kind - 2) (by omega) (by omega),Zeu (x:=(t.Kids.length:Int)) (by omega) (by omega),Zeu (x:=8 * _) (by omega) (by omega),Zeu (by omega) (by omega),Zs0 (by omega) (by omega) (by omega) (by omega) (by decide) (by decide) (by omega) (by omega),Option.bind_some,Zta ha,Option.bind_some]
  have ev:((l.length:Int) - (a:Int) - 1) % 1073741824 * 4+1+(t.Kind - 2+8 * (t.Kids.length:Int)) * 4294967296=hdL t l a:=by unfold hdL;omega
  simp only
  rw [ev,Zbm (by omega) (by omega)]
  rfl
 rw [Zwq (by omega) hn ha (by omega),Z92]
 unfold Jd
 simp only
 rw [Xk (by omega),cond_false,Xk (by omega),cond_false,Xk (by omega),cond_false,Zrz (by omega),Jv (by omega),Option.bind_some,Z3q h2 (by omega) (fun k hk=>by obtain ⟨w,a,b,_,c⟩:=hat k hk;exact ⟨w,a,b,c⟩),Option.bind_some,Option.bind_some]
 have:=Z1b (l:=Xu l (a:Int) (hdL t l a)) (ys:=Zn5 (t.Kind - 2) (ato t)) (N:=N) (by omega)
 rw [l1] at this
 simp only
 rw [this,l2]
theorem Z39 {l:List Int} {N:Nat} (v:Int) (h:l.length < N):Xu (zs l N) (l.length:Int) v=zs (l++[v]) N:=by
 unfold zs Xu
 rw [Int.toNat_natCast,List.set_append_right _ _ (Nat.le_refl _),Nat.sub_self,List.length_append,List.length_singleton,List.append_assoc]
 congr 1
 obtain ⟨m,hm⟩:∃ m,N - l.length=m+1:=⟨N - l.length - 1,by omega⟩
 have:N - (l.length+1)=m:=by omega
 rw [hm,this,List.replicate_succ,List.set_cons_zero]
 rfl
def cpW (W K:Nat) (ks:List Tr) (l:List Int):List Int:=Zcl (fun s _ x=>s++x.Words++List.replicate (W+K - x.Words.length) 0) l 0 ks
noncomputable def cpK (W K b:Nat) (ks:List Tr) (l:List Int):List Int:=Zcl (fun s i x=>lyK (b+i * (W+K)+W) x.Kids s) l 0 ks
def hd9 (t:Tr) (W K:Nat) (l:List Int) (a:Nat):Int:=((l.length:Int) - a - 1) % 1073741824 * 4+1+7 * 4294967296+((t.Kids.length * (W+K):Nat):Int) * 34359738368
def Zjh (t:Tr) (W K:Nat):Int:=(t.Kids.length:Int) * 4+(W:Int) * 4294967296+(K:Int) * 281474976710656
theorem Zai {i n m:Nat} (h:i < n):i * m+m≤n * m:=by
 have:=Nat.mul_le_mul_right m (show i+1≤n by omega)
 rwa [Nat.add_mul,Nat.one_mul] at this
theorem Z4h {W K:Nat} {ks:List Tr} (hw:∀ x∈ks,x.Words.length≤W) (l:List Int):(cpW W K ks l).length=l.length+ks.length * (W+K) :=
 Zz2 (f:=fun (s:List Int) _ (x:Tr)=>s++x.Words++List.replicate (W+K - x.Words.length) 0) (fun i s=>s.length=l.length+i * (W+K)) ks (fun i s x hi hx hm hI=>by
  have:=hw x hm
  rw [List.length_append,List.length_append,List.length_replicate,hI,Nat.add_mul,Nat.one_mul]
  omega) (s:=l) (by omega)
def szK (k:Tr):Int:=(k.Kids.map sz).sum
theorem Z12 {t:Tr} (h9:t.Kind=9) (hn:t.Kids.length≤200000) {W K:Nat} (hf:fr t.Kids=((W:Int),(K:Int))) (hW:W≤65535) (hK:K≤65535) (hwk:∀ x∈t.Kids,x.Words.length≤W∧x.Kids.length≤K)
  (hk:∀ x∈t.Kids,∀ y∈x.Kids,Sim y∧0≤sz y) (es:sz t=1+((t.Kids.length * (W+K):Nat):Int)+(t.Kids.map szK).sum) (l:List Int) (a:Nat) (ha:a < l.length) (hs:(l.length:Int)+sz t≤131072) :
  ly t l a=cpK W K (l.length+1) t.Kids (cpW W K t.Kids (Xu l (a:Int) (hd9 t W K l a)++[Zjh t W K]))∧((ly t l a).length:Int)=l.length+sz t∧(∀ j,SizeOf.sizeOf t < j→Yl j l (a:Int) t=some (ly t l a)) ∧
  (∀ N k:Nat,(l.length:Int)+sz t≤N→N≤131072→4 * SizeOf.sizeOf t < k→(Zl k).1 ⟨zs l N,(l.length:Int)⟩ (a:Int) t=some ⟨zs (ly t l a) N,((ly t l a).length:Int)⟩):=by
 have hq:∀ x∈t.Kids,0≤szK x:=fun x hx=>Ut fun y hy=>(hk x hx y hy).2
 have s0:=Ut (f:=szK) (xs:=t.Kids) hq
 have hc:t.Kids.length * (W+K)≤131072:=by omega
 have ec:IntKind.i64.wrap ((t.Kids.length:Int) * (IntKind.i64.wrap ((W:Int)+(K:Int))))=((t.Kids.length * (W+K):Nat):Int):=by
  rw [Z4 (x:=(W:Int)+_) (by omega) (by omega),← Int.natCast_add,← Int.natCast_mul,Z4 (by omega) (by omega)]
 have ei:∀ i:Nat,i < t.Kids.length→IntKind.i64.wrap ((IntKind.i64.wrap ((l.length:Int)+1))+(IntKind.i64.wrap ((i:Int) * (IntKind.i64.wrap ((W:Int)+(K:Int))))))=((l.length+1+i * (W+K):Nat):Int):=fun i hi=>by
  have:=Zai (m:=W+K) hi
  rw [Z4 (x:=(W:Int)+_) (by omega) (by omega),← Int.natCast_add,← Int.natCast_mul,Z4 (x:=(l.length:Int)+1) (by omega) (by omega),Z4 (x:=((i * (W+K):Nat):Int)) (by omega) (by omega),Z4 (by omega) (by omega)]
  omega
 have l1:=Qa l (a:Int) (hd9 t W K l a)
 have l3:(Xu l (a:Int) (hd9 t W K l a)++[Zjh t W K]).length=l.length+1:=by rw [List.length_append,l1];rfl
 have l4:(cpW W K t.Kids (Xu l (a:Int) (hd9 t W K l a)++[Zjh t W K])).length=l.length+1+t.Kids.length * (W+K):=by rw [Z4h (fun x hx=>(hwk x hx).1),l3]
 generalize hL4:cpW W K t.Kids (Xu l (a:Int) (hd9 t W K l a)++[Zjh t W K])=L4 at *
 have kst:∀ (i:Nat) (s:List Int) (x:Tr),i < t.Kids.length→t.Kids[i]? = some x→x∈t.Kids→(s.length:Int)=L4.length+((t.Kids.take i).map szK).sum →
   l.length+1+i * (W+K)+W+x.Kids.length≤s.length∧(s.length:Int)+(x.Kids.map sz).sum≤l.length+sz t∧((lyK (l.length+1+i * (W+K)+W) x.Kids s).length:Int)=L4.length+((t.Kids.take (i+1)).map szK).sum:=fun i s x hi hx hm hI=>by
  obtain ⟨h1,h2⟩:=Zw4 (f:=szK) hx hq
  have h3:=Ut (f:=szK) (xs:=t.Kids.take i) fun y hy=>hq y (List.mem_of_mem_take hy)
  have h4:=Zai (m:=W+K) hi
  have h5:=(hwk x hm).2
  have h8:szK x=(x.Kids.map sz).sum:=rfl
  have h6:l.length+1+i * (W+K)+W+x.Kids.length≤s.length:=by omega
  have h7:=Zsj (ks:=x.Kids) (hk x hm) h6 (by omega)
  exact ⟨h6,by omega,by omega⟩
 have len:((cpK W K (l.length+1) t.Kids L4).length:Int)=l.length+sz t:=by
  have:=Zz2 (f:=fun (s:List Int) i (x:Tr)=>lyK (l.length+1+i * (W+K)+W) x.Kids s) (fun i s=>(s.length:Int)=L4.length+((t.Kids.take i).map szK).sum) t.Kids (fun i s x hi hx hm hI=>(kst i s x hi hx hm hI).2.2) (s:=L4) (by simp)
  rw [List.take_length] at this
  unfold cpK
  omega
 refine Zw2 len (fun j hj => ?_) (fun N k hN hN2 hkk => ?_)
 ·unfold Xn
  rw [Xk (by omega),cond_false,Xk (by omega),cond_false,Xk (by omega),cond_false,V1 h9,cond_true,Zyf (by omega),Option.bind_some,hf]
  simp only
  rw [ec,Zeu (x:=((t.Kids.length * (W+K):Nat):Int)) (by omega) (by omega),Zeu (x:=8 * _) (by omega) (by omega),Zeu (x:=7+_) (by omega) (by omega),Zs0 (by omega) (by omega) (by omega) (by omega) (by decide) (by decide) (by omega) (by omega),Option.bind_some,Zta ha,Option.bind_some]
  have ev:((l.length:Int) - (a:Int) - 1) % 1073741824 * 4+1+(7+8 * ((t.Kids.length * (W+K):Nat):Int)) * 4294967296=hd9 t W K l a:=by unfold hd9;omega
  rw [ev,Z4 (x:=4 * (t.Kids.length:Int)) (by omega) (by omega),Zeu (x:=4 * (t.Kids.length:Int)) (by omega) (by omega),Zeu (x:=(W:Int)) (by omega) (by omega),Zeu (x:=(K:Int)) (by omega) (by omega),Zeu (x:=65536 * _) (by omega) (by omega),Zeu (x:=(W:Int)+_) (by omega) (by omega),Zeu (x:=4294967296 * _) (by omega) (by omega),Zeu (x:=4 * (t.Kids.length:Int)+_) (by omega) (by omega)]
  have et:4 * (t.Kids.length:Int)+4294967296 * ((W:Int)+65536 * (K:Int))=Zjh t W K:=by unfold Zjh;omega
  rw [et,Zbm (by rw [l1];simp only [List.length_singleton];omega) (by rw [l1];simp only [List.length_singleton];omega),Option.bind_some]
  have a1:=(Zc3 t.Kids (fun i s=>(i,s)) (fun s=>s) (Uk t ((W:Int),(K:Int))) (fun (s:List Int) _ (x:Tr)=>s++x.Words++List.replicate (W+K - x.Words.length) 0) (fun i s=>s.length=l.length+1+i * (W+K)) (by omega) (fun i s x hi hx hm hI=>by
   have h5:=(hwk x hm).1
   have h4:=Zai (m:=W+K) hi
   refine ⟨?_,by rw [List.length_append,List.length_append,List.length_replicate,hI,Nat.add_mul,Nat.one_mul];omega⟩
   unfold Uk
   simp only
   have e:IntKind.i64.wrap (IntKind.i64.wrap ((W:Int)+(K:Int)) - (x.Words.length:Int))=((W+K - x.Words.length:Nat):Int):=by rw [Z4 (x:=(W:Int)+_) (by omega) (by omega),Z4 (by omega) (by omega)];omega
   rw [Zb3 hi,cond_true,Y5 hx,Option.bind_some,Zbm (by omega) (by omega),Option.bind_some,Option.bind_some,e,Z26 (by rw [List.length_append];omega),Option.bind_some]) (fun s _=>by
   unfold Uk
   simp only
   rw [Zbr,cond_false]) (Xu l (a:Int) (hd9 t W K l a)++[Zjh t W K]) (by rw [l3];omega)).1
  unfold cpW at hL4
  rw [a1,Option.bind_some,hL4]
  have a2:=(Zc3 t.Kids (fun i s=>(i,s)) (fun s=>s) (Ul (Yl j) l t ((W:Int),(K:Int))) (fun (s:List Int) i (x:Tr)=>lyK (l.length+1+i * (W+K)+W) x.Kids s) (fun i s=>(s.length:Int)=L4.length+((t.Kids.take i).map szK).sum) (by omega) (fun i s x hi hx hm hI=>by
   obtain ⟨b1,b2,b3⟩:=kst i s x hi hx hm hI
   refine ⟨?_,b3⟩
   have b5:0≤(x.Kids.map sz).sum:=hq x hm
   have b4:=Z7s (ks:=x.Kids) (hk x hm) b1 (by omega) j (Um (Yl j) l t ((W:Int),(K:Int)) ((i:Int),s)) (fun y hy=>by have:=Y8 hm;have:=Y8 hy;omega) (fun i' s' y s'' hi' hy hm' hq=>by
    unfold Um
    simp only
    have e:IntKind.i64.wrap (IntKind.i64.wrap (((l.length+1+i * (W+K):Nat):Int)+(W:Int))+(i':Int))=((l.length+1+i * (W+K)+W+i':Nat):Int):=by rw [Z4 (x:=_+(W:Int)) (by omega) (by omega),Z4 (by omega) (by omega)];omega
    rw [Y5 hx,Option.bind_some,Zb3 hi',cond_true,Option.bind_some,Y5 hy,Option.bind_some,ei i hi,e,hq,Option.bind_some]) (fun s'=>by
    unfold Um
    simp only
    rw [Y5 hx,Option.bind_some,Zbr,cond_false])
   unfold Ul
   simp only
   rw [Zb3 hi,cond_true,b4,Option.bind_some]) (fun s _=>by
   unfold Ul
   simp only
   rw [Zbr,cond_false]) L4 (by simp)).1
  rw [a2]
  rfl
 rw [Z91]
 unfold Kg
 have e1:Zar t=some (⟨2,0,0,0,7,((t.Kids.length * (W+K):Nat):Int),0,false⟩:Zs):=by
  unfold Zar
  rw [Xk (by omega),cond_false,V1 h9,cond_true,Zv3 (by omega),Option.bind_some,hf]
  simp only
  rw [ec]
 have e2:Yt (⟨2,0,0,0,7,((t.Kids.length * (W+K):Nat):Int),0,false⟩:Zs)=some (((t.Kids.length * (W+K):Nat):Int)+1,true):=by
  unfold Yt
  simp only
  rw [Xk (a:=2) (b:=1) (by decide),cond_false,V1 (a:=2) (b:=2) rfl,cond_true,V1 (a:=7) (b:=7) rfl,cond_true,Z4 (by omega) (by omega)]
 rw [Xk (by omega),cond_false,e1,Option.bind_some,e2,Option.bind_some]
 simp only
 rw [Xk (a:=2) (b:=1) (by decide),cond_false,cond_false,Option.bind_some,Z4 (x:=(l.length:Int) - (a:Int)) (by omega) (by omega),Z4 (by omega) (by omega),Z9r (by omega) (by omega) (by omega) (by omega) (by omega) (by omega),Option.bind_some,Z54 ha,Option.bind_some,Zuq ha,Z4 (by omega) (by omega)]
 have ev:((l.length:Int) - (a:Int) - 1) % 1073741824 * 4+1+7 * 4294967296+((t.Kids.length * (W+K):Nat):Int) * 34359738368=hd9 t W K l a:=by unfold hd9;rfl
 simp only
 rw [ev,Z92]
 unfold Jd
 simp only
 rw [Xk (by omega),cond_false,Xk (by omega),cond_false,V1 h9,cond_true,Ydf]
 unfold Zcj
 rw [Zv3 (by omega),Option.bind_some,hf]
 simp only
 have ez:(cond (decide (0 < (t.Kids.length:Int))) ((Qd (⟨1,(t.Kids.length:Int),(W:Int),(K:Int),0,0,0,false⟩:Zs)).bind fun y4=>(Y2 (zs (Xu l (a:Int) (hd9 t W K l a)) N) (l.length:Int)).bind fun x5=>some (Xu (zs (Xu l (a:Int) (hd9 t W K l a)) N) (l.length:Int) y4.1)) (some (zs (Xu l (a:Int) (hd9 t W K l a)) N)))=some (zs (Xu l (a:Int) (hd9 t W K l a)++[Zjh t W K]) N):=by
  by_cases q:0 < t.Kids.length
  ·have g:Y2 (zs (Xu l (a:Int) (hd9 t W K l a)) N) (l.length:Int)=some (zs (Xu l (a:Int) (hd9 t W K l a)) N)[l.length]! := by
    have:l.length < (zs (Xu l (a:Int) (hd9 t W K l a)) N).length:=by rw [Zrz (by omega)];omega
    rw [Zta this,List.getElem!_eq_getElem?_getD,List.getElem?_eq_getElem this]
    rfl
   rw [decide_eq_true (by omega),cond_true,Z7g (by omega) (by omega) (by omega) (by omega) (by omega) (by omega) (by omega),Option.bind_some,g,Option.bind_some]
   have:=Z39 (N:=N) (l:=Xu l (a:Int) (hd9 t W K l a)) (Zjh t W K) (by omega)
   rw [l1] at this
   rw [← this]
   congr 2
   unfold Zjh
   omega
  have q0:t.Kids=[]:=List.length_eq_zero_iff.1 (by omega)
  rw [q0] at hf
  have hW0:W=0∧K=0:=by
   have:((0:Int),(0:Int))=((W:Int),(K:Int)):=hf
   rw [Prod.mk.injEq] at this
   omega
  have t0:Zjh t W K=0:=by unfold Zjh;rw [hW0.1,hW0.2,q0];rfl
  rw [decide_eq_false (by omega),cond_false,t0]
  have:=Zn9 (N:=N) (n:=1) (l:=Xu l (a:Int) (hd9 t W K l a)) (by omega)
  rw [List.replicate_one] at this
  rw [this]
 rw [ez,Option.bind_some]
 have a1:=(Zc3 t.Kids (fun i s=>(i,zs s N)) (fun s=>zs s N) (Vs (l.length:Int) t ((W:Int),(K:Int))) (fun (s:List Int) _ (x:Tr)=>s++x.Words++List.replicate (W+K - x.Words.length) 0) (fun i s=>s.length=l.length+1+i * (W+K)) (by omega) (fun i s x hi hx hm hI=>by
  have h5:=(hwk x hm).1
  have h4:=Zai (m:=W+K) hi
  refine ⟨?_,by rw [List.length_append,List.length_append,List.length_replicate,hI,Nat.add_mul,Nat.one_mul];omega⟩
  unfold Vs
  simp only
  rw [Zb3 hi,cond_true,Y5 hx,Option.bind_some,ei i hi,Zrz (by omega),Jv (by omega),Option.bind_some,← hI,Z1b (by omega),Zn9 (by rw [List.length_append];omega)]) (fun s _=>by
  unfold Vs
  simp only
  rw [Zbr,cond_false]) (Xu l (a:Int) (hd9 t W K l a)++[Zjh t W K]) (by rw [l3];omega)).1
 unfold cpW at hL4
 rw [a1,Option.bind_some,hL4]
 have a2:=(Zc3 t.Kids (fun i s=>(i,zs s N,(s.length:Int))) (fun s=>(zs s N,(s.length:Int))) (Vt (Zl (k+1)).2.2.1 (l.length:Int) t ((W:Int),(K:Int))) (fun (s:List Int) i (x:Tr)=>lyK (l.length+1+i * (W+K)+W) x.Kids s) (fun i s=>(s.length:Int)=L4.length+((t.Kids.take i).map szK).sum) (by omega) (fun i s x hi hx hm hI=>by
  obtain ⟨b1,b2,b3⟩:=kst i s x hi hx hm hI
  refine ⟨?_,b3⟩
  have b5:0≤(x.Kids.map sz).sum:=hq x hm
  have h4:=Zai (m:=W+K) hi
  have b4:=Z7r (ks:=x.Kids) (hk x hm) b1 (by omega) N k (by omega) hN2 (fun y hy=>by have:=Y8 hm;have:=Y8 hy;omega)
  unfold Vt
  simp only
  have e:IntKind.i64.wrap (((l.length+1+i * (W+K):Nat):Int)+(W:Int))=((l.length+1+i * (W+K)+W:Nat):Int):=by rw [Z4 (by omega) (by omega)];omega
  rw [Zb3 hi,cond_true,Y5 hx,Option.bind_some,ei i hi,e,b4,Option.bind_some]) (fun s _=>by
  unfold Vt
  simp only
  rw [Zbr,cond_false]) L4 (by simp)).1
 have e6:(l.length:Int)+(((t.Kids.length * (W+K):Nat):Int)+1)=(L4.length:Int):=by omega
 rw [e6,a2]
 rfl
theorem Z14 {t:Tr} (h0:t.Kind=0) (l:List Int) (a:Nat):ly t l a=l:=by
 unfold ly
 show Option.getD (Xn (Yl (SizeOf.sizeOf t)) l (a:Int) t) []=l
 unfold Xn
 rw [V1 h0,cond_true]
 rfl
theorem Za0 {kind:Int} {k:Tr} (h:¬ (2≤kind∧kind≤7)) (hk:okk kind k=true):¬ k.Kind=10∧(kind=9→k.Kind=1):=by
 unfold okk at hk
 rw [if_neg h,Bool.and_eq_true,bne_iff_ne,Bool.or_eq_true,bne_iff_ne,beq_iff_eq] at hk
 exact ⟨hk.1,fun h9=>by rcases hk.2 with h | h;exact absurd h9 h;exact h⟩
theorem Zwm {kind:Int} {k:Tr} {d:Nat} (h:2≤kind∧kind≤7) (hb:Bd k) (hr:rt k d=true) (hk:okk kind k=true):∃ w,k.Words=[w]∧0≤w∧w < 18446744073709551616∧Zcx (kind - 2) w=true:=by
 unfold okk at hk
 rw [if_pos h,Bool.and_eq_true,beq_iff_eq] at hk
 obtain ⟨w,hw⟩:=Zpl hk.1 hr
 have hu:=hb.u w (by rw [hw];exact .head _)
 refine ⟨w,hw,hu.1,hu.2,?_⟩
 have:=hk.2
 rwa [hw] at this
structure Fine (t:Tr) (d:Nat):Prop where
 bd:Bd t
 rt:rt t d=true
 pt:pt t≤200000
theorem Fine.kid {t x:Tr} {d:Nat} (h:Fine t d) (hx:x∈t.Kids):Fine x (d - 1):=⟨h.bd.all x hx,(Zff h.rt).2.2.2.2 x hx,by have:=h.pt;have:=Z0y hx;omega⟩
theorem Zv1 {t:Tr} {d:Nat} (h:Fine t d) (h9:t.Kind=9):∃ W K:Nat,fr t.Kids=((W:Int),(K:Int))∧W≤65535∧K≤65535∧(∀ x∈t.Kids,x.Words.length≤W∧x.Kids.length≤K)∧sz t=1+((t.Kids.length * (W+K):Nat):Int)+(t.Kids.map szK).sum:=by
 have p:=h.pt
 have pk:=Zgz t
 obtain ⟨e,_,_,f0,f1,f2,f3,f4⟩:=Ya5 (l:=t.Kids) (by omega) (fun x hx=>by
  obtain ⟨r1,r2⟩:=(Zbg h.rt (by omega) (by omega)).2.2.2 x hx
  have k1:=(Za0 (by omega) r2).2 h9
  obtain ⟨a1,a2,_⟩:=Zbg r1 (by omega) (by omega)
  have:=a2 k1
  omega)
 obtain ⟨W,hW⟩:=Int.eq_ofNat_of_zero_le f0
 obtain ⟨K,hK⟩:=Int.eq_ofNat_of_zero_le f2
 rw [hW] at f1
 rw [hK] at f3
 refine ⟨W,K,Prod.ext hW hK,by omega,by omega,fun x hx => ?_,?_⟩
 ·have:=f4 x hx
  rw [hW,hK] at this
  omega
 rw [Zjc,if_neg (by omega),if_neg (by omega),if_neg (by omega),if_pos h9,e,hW,hK,← Int.natCast_add,← Int.natCast_mul]
 rfl
theorem Zvn:∀ (n:Nat) (t:Tr) (d:Nat),SizeOf.sizeOf t < n→Fine t d→¬ t.Kind=10→Sim t
 | 0,_,_,h,_,_=>by omega
 | n+1,t,d,h,hf,h10=>by
  have p:=hf.pt
  have pk:=Zgz t
  obtain ⟨g1,g2,_⟩:=Zff hf.rt
  by_cases h0:t.Kind=0
  ·exact Z8z h0
  obtain ⟨i1,i2,i3,i4⟩:=Zbg hf.rt h0 h10
  have hk:¬ (2≤t.Kind∧t.Kind≤7)→∀ x∈t.Kids,Sim x∧0≤sz x:=fun hn x hx =>
   ⟨Zvn n x (d - 1) (by have:=Y8 hx;omega) (hf.kid hx) (Za0 hn (i4 x hx).2).1,(Zu9 (hf.kid hx).rt (hf.kid hx).pt).1⟩
  by_cases h1:t.Kind=1
  ·exact fun l a ha hs=>(Zwe h1 i1 (i2 h1) (hk (by omega)) l a ha hs).2
  by_cases h2:2≤t.Kind∧t.Kind≤7
  ·exact fun l a ha hs=>(Z13 h2 (by omega) (fun k hk=>Zwm h2 (hf.bd.all k hk) (hf.kid hk).rt (i4 k hk).2) l a ha hs).2
  by_cases h8:t.Kind=8
  ·exact fun l a ha hs=>(Z15 h8 (by omega) (hk (by omega)) l a ha hs).2
  have h9:t.Kind=9:=by omega
  obtain ⟨W,K,e1,e2,e3,e4,e5⟩:=Zv1 hf h9
  exact fun l a ha hs=>(Z12 h9 (by omega) e1 e2 e3 e4 (fun x hx y hy=>by
   have k1:=(Za0 (by omega) (i4 x hx).2).2 h9
   have j4:=(Zbg (hf.kid hx).rt (by omega) (by omega)).2.2.2 y hy
   have fy:=(hf.kid hx).kid hy
   exact ⟨Zvn n y (d - 1 - 1) (by have:=Y8 hx;have:=Y8 hy;omega) fy (Za0 (by omega) j4.2).1,(Zu9 fy.rt fy.pt).1⟩) e5 l a ha hs).2
theorem Fine.nrm {t:Tr} {d:Nat} (h:Fine t d):Fine (nrm t) d:=⟨h.bd.nrm,rtN h.rt,Nat.le_trans (Z45 _ t (Nat.lt_succ_self _)) h.pt⟩
noncomputable def enc (t:Tr) (most:Int):List Int×Bool:=if t.Kind=10∨rt t 64=false then ([],false) else if most≤sz (nrm t)∨131072≤sz (nrm t) then ([],false) else (ly (nrm t) [0] 0,true)
theorem Ya7 {t:Tr} (hf:Fine t 64) (h10:¬ t.Kind=10) (hs:sz t < 131072):((ly t [0] 0).length:Int)=1+sz t∧Zf7 [0] 0 t=some (ly t [0] 0)∧(Zfn 8 (IntKind.i64.wrap (1+sz t)) (0:Int)).bind (fun l11=>(Zdk (⟨l11,1⟩:Zp) 0 t).bind fun y13=>some (y13.words,true))=some (ly t [0] 0,true):=by
 have s0:=(Zu9 hf.rt hf.pt).1
 obtain ⟨a,b,c⟩:=Zvn _ t 64 (Nat.lt_succ_self _) hf h10 [0] 0 (by decide) (by simp only [List.length_singleton];omega)
 simp only [List.length_singleton] at a c
 refine ⟨by omega,Zf5 (SizeOf.sizeOf t+1) fun k hk=>b k (by omega),?_⟩
 have e:Zdk (⟨zs [0] (1+sz t).toNat,1⟩:Zp) 0 t=some ⟨zs (ly t [0] 0) (1+sz t).toNat,((ly t [0] 0).length:Int)⟩:=Zf5 (4 * SizeOf.sizeOf t+1) fun k hk=>c (1+sz t).toNat k (by omega) (by omega) (by omega)
 have e2:List.replicate (1+sz t).toNat (0:Int)=zs [0] (1+sz t).toNat:=by
  unfold zs
  obtain ⟨m,hm⟩:∃ m,(1+sz t).toNat=m+1:=⟨(sz t).toNat,by omega⟩
  rw [hm,List.replicate_succ]
  rfl
 have e3:zs (ly t [0] 0) (1+sz t).toNat=ly t [0] 0:=by
  unfold zs
  rw [show (1+sz t).toNat - (ly t [0] 0).length=0 by omega,List.replicate_zero,List.append_nil]
 rw [Z4 (by omega) (by omega),Zku (by omega) (by omega) (by omega),Option.bind_some,e2,e,Option.bind_some,e3]
theorem Zx2 {t:Tr} (hb:Bd t) (hp:pt t≤200000) (most:Int):Znk t most=some (enc t most)∧Uo t most=some (enc t most)∧(((enc t most).1.length:Nat):Int)≤131072:=by
 unfold Znk Uo enc
 rw [Z8n hb,Option.bind_some,show ((64:Int))=((64:Nat):Int) from rfl,Z6o hb (Nat.le_refl _),Option.bind_some]
 by_cases h10:t.Kind=10
 ·rw [if_pos (.inl h10),V1 h10]
  simp
 cases hr:rt t 64 with
 | false =>
  rw [if_pos (.inr rfl),Xk h10]
  simp
 | true =>
  have hf:Fine (nrm t) 64:=Fine.nrm ⟨hb,hr,hp⟩
  have hn:=Zu9 hf.rt hf.pt
  rw [if_neg (by simp [h10]),Xk h10]
  simp only [cond_false,cond_true,Bool.not_true,Option.bind_some]
  rw [Z41 hb,Z8q hb,Option.bind_some,Option.bind_some,Z9j (d:=64) hb.nrm hf.rt,Option.bind_some,Zso,Z8s hf.rt,Option.bind_some,Option.bind_some,Z4 (x:=sz (nrm t)) (by omega) (by omega),Z4 (x:=1+sz (nrm t)) (by omega) (by omega)]
  by_cases q:most≤sz (nrm t)∨131072≤sz (nrm t)
  ·rw [if_pos q]
   have q1:(cond (decide (most < 1+sz (nrm t))) true (decide (131072 < 1+sz (nrm t))))=true:=by
    by_cases q2:most≤sz (nrm t)
    ·rw [decide_eq_true (by omega),cond_true]
    rw [decide_eq_false (by omega),cond_false,decide_eq_true (by omega)]
   have q2:(cond (decide (most≤sz (nrm t))) (some true) (some (cond (decide (most≤sz (nrm t))) true (decide (131072≤sz (nrm t))))))=some true:=by
    by_cases q2:most≤sz (nrm t)
    ·rw [decide_eq_true q2,cond_true]
    rw [decide_eq_false q2,cond_false,cond_false,decide_eq_true (by omega)]
   rw [q1,q2,cond_true,Option.bind_some,cond_true]
   exact ⟨rfl,rfl,by decide⟩
  rw [if_neg q]
  obtain ⟨a,b,c⟩:=Ya7 hf (by rw [Qg];exact h10) (by omega)
  rw [Z4 (x:=1+sz (nrm t)) (by omega) (by omega)] at c
  have q1:(cond (decide (most < 1+sz (nrm t))) true (decide (131072 < 1+sz (nrm t))))=false:=by
   rw [decide_eq_false (by omega),cond_false,decide_eq_false (by omega)]
  have q2:(cond (decide (most≤sz (nrm t))) (some true) (some (cond (decide (most≤sz (nrm t))) true (decide (131072≤sz (nrm t))))))=some false:=by
   rw [decide_eq_false (by omega),cond_false,cond_false,decide_eq_false (by omega)]
  rw [q1,q2,cond_false,Option.bind_some,cond_false,c,b]
  exact ⟨rfl,rfl,by simp only;omega⟩
structure Nm (t:Tr) (d:Nat):Prop where
 f:Fine t d
 n:nrm t=t
 k:¬ t.Kind=10
theorem Nm.kid {t x:Tr} {d:Nat} (h:Nm t d) (h0:¬ t.Kind=0) (hx:x∈t.Kids) (h10:¬ x.Kind=10):Nm x (d - 1):=by
 refine ⟨h.f.kid hx,?_,h10⟩
 have hn:=h.n
 by_cases h1:t.Kind=1
 ·rw [Gj h1] at hn
  rw [← hn] at hx
  simp only at hx
  obtain ⟨y,_,rfl⟩:=List.mem_map.1 (Zjy hx)
  exact Zso y
 rw [Zdr h0 h1] at hn
 rw [← hn] at hx
 simp only at hx
 obtain ⟨y,_,rfl⟩:=List.mem_map.1 hx
 exact Zso y
theorem Nm.words {t:Tr} {d:Nat} (h:Nm t d) (h1:t.Kind=1):tr (fun x=>x == 0) t.Words=t.Words:=by
 have hn:=h.n
 rw [Gj h1] at hn
 exact congrArg Zb.Words hn
theorem Nm.kids {t:Tr} {d:Nat} (h:Nm t d) (h1:t.Kind=1):tr (fun x=>x.Kind == 0) t.Kids=t.Kids:=by
 have hn:=h.n
 rw [Gj h1] at hn
 have:=congrArg Zb.Kids hn
 simp only at this
 rw [← this,Zzm]
theorem Nm.sim {t:Tr} {d:Nat} (h:Nm t d):Sim t∧0≤sz t:=⟨Zvn _ t d (Nat.lt_succ_self _) h.f h.k,(Zu9 h.f.rt h.f.pt).1⟩
theorem Nm.okids {t:Tr} {d:Nat} (h:Nm t d) (h18:t.Kind=1∨t.Kind=8):∀ x∈t.Kids,Nm x (d - 1):=fun x hx =>
 h.kid (by omega) hx (Za0 (by omega) ((Zbg h.f.rt (by omega) h.k).2.2.2 x hx).2).1
theorem Nm.structs {t:Tr} {d:Nat} (h:Nm t d) (h9:t.Kind=9):∀ x∈t.Kids,Nm x (d - 1)∧x.Kind=1:=fun x hx=>by
 have k1:=(Za0 (by omega) ((Zbg h.f.rt (by omega) h.k).2.2.2 x hx).2).2 h9
 exact ⟨h.kid (by omega) hx (by omega),k1⟩
theorem Znc {α σ:Type}:∀ (xs:List α) (f:σ→Nat→α→σ) (s:σ) (k:Nat),Zcl f s k xs=Zcl (fun s i x=>f s (k+i) x) s 0 xs
 | [],f,s,k=>rfl
 | x::xs,f,s,k=>by
  show Zcl f (f s k x) (k+1) xs=Zcl (fun s i x=>f s (k+i) x) (f s (k+0) x) (0+1) xs
  rw [Znc xs f _ (k+1),Znc xs (fun s i x=>f s (k+i) x) _ (0+1)]
  have:(fun (s:σ) (i:Nat) (x:α)=>f s (k+(0+1+i)) x)=fun s i x=>f s (k+1+i) x:=by
   funext s i x
   rw [show k+(0+1+i)=k+1+i by omega]
  rw [this]
  rfl
theorem Zwj (b:Nat) (x:Tr) (xs:List Tr) (l:List Int):lyK b (x::xs) l=lyK (b+1) xs (ly x l b):=by
 unfold lyK
 show Zcl (fun l i x=>ly x l (b+i)) (ly x l (b+0)) (0+1) xs=_
 rw [Znc]
 have:(fun (l:List Int) (i:Nat) (x:Tr)=>ly x l (b+(0+1+i)))=fun l i x=>ly x l (b+1+i):=by
  funext s i x
  rw [show b+(0+1+i)=b+1+i by omega]
 rw [this]
 rfl
def hdS (t:Tr) (l:List Int) (a:Nat):Int:=Zjf t l a % 1073741824 * 4+(t.Words.length:Int) * 4294967296+(t.Kids.length:Int) * 281474976710656
theorem Yaq (t:Tr) (l:List Int) (a:Nat):(RS1 t l a).length=l.length+t.Words.length+t.Kids.length:=by unfold RS1;rw [List.length_append,List.length_append,Qa,List.length_replicate]
theorem Ybr {t:Tr} {d:Nat} (h:Nm t d):t.Kids.length≤200000:=by
 have:=Zgz t
 have:=h.f.pt
 omega
theorem Nm.atoms {t:Tr} {d:Nat} (h:Nm t d) (h2:2≤t.Kind∧t.Kind≤7):∀ k∈t.Kids,∃ w,k=⟨10,[w],[]⟩∧0≤w∧w < 18446744073709551616∧Zcx (t.Kind - 2) w=true:=fun k hk=>by
 have i4:=(Zbg h.f.rt (by omega) h.k).2.2.2 k hk
 obtain ⟨w,hw,a,b,c⟩:=Zwm h2 (h.f.bd.all k hk) i4.1 i4.2
 have k10:k.Kind=10:=by
  have:=i4.2
  unfold okk at this
  rw [if_pos h2,Bool.and_eq_true,beq_iff_eq] at this
  exact this.1
 have k0:k.Kids=[]:=(Zff i4.1).2.2.2.1 (.inr k10)
 refine ⟨w,?_,a,b,c⟩
 obtain ⟨x,y,z⟩:=k
 simp only at hw k10 k0
 rw [hw,k10,k0]
theorem Z9o {t:Tr} {d:Nat} (h:Nm t d) (h2:2≤t.Kind∧t.Kind≤7) {l:List Int} {a:Nat} (ha:a < l.length) (hs:(l.length:Int)+sz t≤131072) :
  ly t l a=Xu l (a:Int) (hdL t l a)++Zn5 (t.Kind - 2) (ato t) :=
 (Z13 h2 (Ybr h) (fun k hk=>by obtain ⟨w,e,a,b,c⟩:=h.atoms h2 k hk;exact ⟨w,by rw [e],a,b,c⟩) l a ha hs).1
def hv (t:Tr) (l:List Int) (a:Nat) (c:Int):Int:=if t.Kind=0 then 0 else if t.Kind=1 then hdS t l a else ((l.length:Int) - a - 1) % 1073741824 * 4+1+(t.Kind - 2) * 4294967296+c * 34359738368
def StN (W K:Nat) (x:Tr):Prop:=x.Kind=1∧(∃ d,Nm x d)∧x.Words.length≤W∧x.Kids.length≤K
theorem StN.kids {W K:Nat} {x:Tr} (h:StN W K x):∀ y∈x.Kids,∃ d,Nm y d:=fun y hy=>by
 obtain ⟨k,⟨d,n⟩,_⟩:=h
 exact ⟨_,n.okids (.inl k) y hy⟩
section
variable {A:Zj}
theorem Zz8 {f:Za→Int→Tr×Int×Int} {g:Int→Za×Int}:∀ (m i:Nat) (left:Int) (acc:List Tr),(Yw f g m i left acc).2.2=0 →
  ∃ ts:List Tr,(Yw f g m i left acc).1=acc++ts∧ts.length=m∧∀ (j:Nat) (x:Tr),ts[j]? = some x→(g ((i+j:Nat):Int)).2=0∧∃ l',(f (g ((i+j:Nat):Int)).1 l').2.2=0∧x=(f (g ((i+j:Nat):Int)).1 l').1
 | 0,i,left,acc,_=>⟨[],by simp [Yw],rfl,fun j x h=>by simp at h⟩
 | m+1,i,left,acc,h=>by
  rw [Yw] at h ⊢
  by_cases h1:(g i).2≠0
  ·rw [if_pos h1] at h;exact absurd h h1
  rw [if_neg h1] at h ⊢
  by_cases h2:(f (g i).1 left).2.2≠0
  ·rw [if_pos h2] at h;exact absurd h h2
  rw [if_neg h2] at h ⊢
  obtain ⟨ts,c1,c2,c3⟩:=Zz8 m (i+1) _ _ h
  refine ⟨(f (g i).1 left).1::ts,by rw [c1,List.append_assoc];rfl,by rw [List.length_cons,c2],fun j x hx => ?_⟩
  cases j with
  | zero =>
   simp only [List.getElem?_cons_zero,Option.some.injEq] at hx
   exact ⟨by simpa using h1,left,by simpa using h2,by simpa using hx.symm⟩
  | succ j =>
   rw [List.getElem?_cons_succ] at hx
   have:=c3 j x hx
   rwa [show i+1+j=i+(j+1) by omega] at this
inductive MR (A:Zj):Za→Tr→Prop
 | mk (r:Za) (t:Tr) (ho:OKr A r) (hk:t.Kind=r.kind) (hw:t.Words=Xf A r) (hl:(t.Kids.length:Int)=Yx r)
   (he:∀ (i:Nat) (x:Tr),t.Kids[i]? = some x→(Yv A r i).2=0) (hs:∀ (i:Nat) (x:Tr),t.Kids[i]? = some x→MR A (Yv A r i).1 x):MR A r t
theorem MR.o {r:Za} {t:Tr} (h:MR A r t):OKr A r:=by cases h;assumption
theorem MR.kd {r:Za} {t:Tr} (h:MR A r t):t.Kind=r.kind:=by cases h;assumption
theorem MR.ws {r:Za} {t:Tr} (h:MR A r t):t.Words=Xf A r:=by cases h;assumption
theorem MR.len {r:Za} {t:Tr} (h:MR A r t):(t.Kids.length:Int)=Yx r:=by cases h;assumption
theorem MR.kid {r:Za} {t:Tr} (h:MR A r t) {i:Nat} {x:Tr} (hx:t.Kids[i]? = some x):(Yv A r i).2=0∧MR A (Yv A r i).1 x:=by
 cases h with
 | mk _ _ _ _ _ _ he hs=>exact ⟨he i x hx,hs i x hx⟩
theorem Z7q {r:Za} (h:OKr A r) (hk:r.kind=0∨r.kind=10):Yx r=0:=by
 cases h <;> simp_all [Yx,r0]
 omega
theorem Z0m {r:Za} (h:OKr A r) (h0:Yx r=0):MR A r ⟨r.kind,Xf A r,[]⟩ := .mk _ _ h rfl rfl (by simp [h0]) (fun i x hx=>by simp at hx) (fun i x hx=>by simp at hx)
theorem Z4w:∀ (d:Nat) (r:Za) (left:Int),OKr A r→(Zcr A d r left).2.2=0→MR A r (Zcr A d r left).1:=fun d=>by
 induction d using Nat.strongRecOn with
 | _ d ih =>
  intro r left ho hq
  have iP:∀ (k:Nat) (r:Za) (left:Int),0 < k→OKr A r→(Yy A k d r left).2.2=0→MR A r (Yy A k d r left).1:=fun k r left hk ho h=>by
   unfold Yy at h ⊢
   by_cases q:k≤d
   ·rw [if_pos q] at h ⊢
    exact ih (d - k) (by omega) r left ho h
   rw [if_neg q] at h
   simp [bad] at h
  rw [Zht] at hq ⊢
  unfold Zg4 at hq ⊢
  by_cases h0:r.kind=0
  ·rw [if_pos h0] at hq ⊢
   exact Z0m ho (Z7q ho (.inl h0))
  rw [if_neg h0] at hq ⊢
  by_cases h1:(d:Int) < lvR r∨left < wtR r
  ·rw [if_pos h1] at hq
   simp at hq
  rw [if_neg h1] at hq ⊢
  simp only at hq ⊢
  obtain ⟨ts,c1,c2,c3⟩:=Zz8 _ _ _ _ hq
  have hn:=Zg1 ho
  rw [c1,List.nil_append]
  have key:∀ (i:Nat) (x:Tr),ts[i]? = some x→(Yv A r i).2=0∧MR A (Yv A r i).1 x:=fun i x hx=>by
   have hi:i < ts.length:=(List.getElem?_eq_some_iff.1 hx).1
   obtain ⟨e1,l',e2,e3⟩:=c3 i x hx
   rw [Nat.zero_add] at e1 e2 e3
   refine ⟨e1,?_⟩
   have hi2:(0:Int)≤(i:Int)∧(i:Int) < Yx r:=by omega
   have hko:=Zax ho (i:Int)
   rw [e3]
   unfold V6 at e2 ⊢
   by_cases k9:r.kind=9
   ·rw [if_pos k9] at e2 ⊢
    have ks:=Zu0 (A:=A) k9 hi2
    generalize (Yv A r (i:Int)).1=k at *
    unfold stK at e2 ⊢
    simp only at e2 ⊢
    obtain ⟨ts',d1,d2,d3⟩:=Zz8 _ _ _ _ e2
    have hn':=Zg1 hko
    have hp:Yx k=k.ptrs:=by unfold Yx;rw [if_pos ks]
    rw [d1,List.nil_append]
    refine .mk _ _ hko ks.symm rfl (by simp only;omega) (fun j y hy => ?_) (fun j y hy => ?_)
    ·have:=(d3 j y hy).1
     rwa [Nat.zero_add] at this
    obtain ⟨f1,l'',f2,f3⟩:=d3 j y hy
    rw [Nat.zero_add] at f1 f2 f3
    rw [f3]
    exact iP 2 _ _ (by decide) (Zax hko _) f2
   rw [if_neg k9] at e2 ⊢
   by_cases k18:r.kind=1∨r.kind=8
   ·rw [if_pos k18] at e2 ⊢
    exact iP 1 _ _ (by decide) hko e2
   rw [if_neg k18] at e2 ⊢
   have kk:=Z7t ho
   have k10:¬ r.kind=10:=fun h=>by
    have:=Z7q ho (.inr h)
    omega
   exact Z0m hko (Zx7 (A:=A) (by omega) hi2).2
  exact .mk _ _ ho rfl rfl (by simp only;omega) (fun i x hx=>(key i x hx).1) (fun i x hx=>(key i x hx).2)
theorem Z85 {α:Type} (p:α→Bool) (l:List α):trN p l l.length=(tr p l).length:=by
 have:=Zuf (p:=p) (l:=l) l.length (Nat.le_refl _)
 rw [List.take_length] at this
 rw [← this.1,List.length_take]
 omega
theorem Zsk (hw:WS A.segments) {r:Za} (h:OKr A r):Uv r=some (((tr (fun x=>x == 0) (Xf A r)).length:Nat):Int):=by
 have hl:=Zxc hw h
 have hn:(Xf A r).length≤65536:=Zqp h
 unfold Uv
 rw [Zyc,Option.bind_some,← hl]
 rw [Zvh (Xf A r) (fun x=>x == 0) (Zc5 r) (by omega) (by
  unfold Zc5
  rfl) (fun n x hx hn'=>by
  unfold Zc5
  have e:IntKind.i64.wrap (((n+1:Nat):Int) - 1)=(n:Int):=by rw [Z4 (by omega) (by omega)];omega
  have ew:Zxb A r (n:Int)=x:=by
   rw [← Zup hw h hn']
   rw [List.getElem?_eq_getElem hn'] at hx
   exact Option.some.inj hx
  rw [e,decide_eq_true (by omega),cond_true,Zvq hw h,Option.bind_some,ew,cond_true,Option.bind_some]
  cases hq:x == 0 with
  | true=>simp
  | false=>simp),Z85]
 rfl
theorem Zr6 (hw:WS A.segments) {r:Za} {t:Tr} (h:MR A r t):Zbi r=some ((((tr (fun x=>x.Kind == 0) t.Kids).length:Nat):Int),0):=by
 have hl:=h.len
 have hn:=Zg1 h.o
 have key:∀ n:Nat,n≤t.Kids.length→Zw (Za8 r) (n:Int)=some (if trN (fun x:Tr=>x.Kind == 0) t.Kids n=0 then .inr () else .inl (((trN (fun x:Tr=>x.Kind == 0) t.Kids n:Nat):Int),0)):=fun n=>by
  induction n with
  | zero =>
   intro _
   refine Y0 ?_
   unfold Za8
   rfl
  | succ n ih =>
   intro hn'
   have hx:t.Kids[n]? = some t.Kids[n]:=List.getElem?_eq_getElem (by omega)
   obtain ⟨e1,e2⟩:=h.kid hx
   have e:IntKind.i64.wrap (((n+1:Nat):Int) - 1)=(n:Int):=by rw [Z4 (by omega) (by omega)];omega
   have st:Za8 r ((n+1:Nat):Int)=some (cond (t.Kids[n].Kind == 0) (.inl (n:Int)) (.inr (.inl (((n+1:Nat):Int),0)))):=by
    unfold Za8
    rw [decide_eq_true (by omega),cond_true,e,Zni hw h.o,Option.bind_some,e1,show Z0 (Yv A r (n:Int)).1=some (Yv A r (n:Int)).1.kind from rfl,← e2.kd]
    cases hq:t.Kids[n].Kind == 0 with
    | true=>simp [bne,hq]
    | false=>simp [bne,hq]
   unfold trN
   rw [hx]
   simp only
   cases hq:t.Kids[n].Kind == 0 with
   | true =>
    rw [hq,cond_true] at st
    rw [Xz st,ih (by omega)]
    rfl
   | false =>
    rw [hq,cond_false] at st
    rw [Y0 st]
    rfl
 unfold Zbi
 rw [Zb6,Option.bind_some,← hl,key _ (Nat.le_refl _),Z85]
 by_cases q:(tr (fun x:Tr=>x.Kind == 0) t.Kids).length=0
 ·rw [if_pos q]
  simp only [Option.bind_some]
  rw [q]
  rfl
 rw [if_neg q]
 rfl
end
theorem Z4v {α β:Type} {f:α→β} {l:List α} {i:Nat} {x:β} (h:(l.map f)[i]? = some x):∃ y,l[i]? = some y∧y∈l∧f y=x:=by
 rw [List.getElem?_map] at h
 cases hy:l[i]? with
 | none=>rw [hy] at h;cases h
 | some y =>
  rw [hy] at h
  exact ⟨y,rfl,List.mem_of_getElem? hy,Option.some.inj h⟩
theorem Zx6 {f:Za→Int→Tr×Int×Int} {g:Int→Za×Int} {w':Tr→Nat}:∀ (ts:List Tr) (i:Nat) (left:Int) (acc:List Tr),
  (∀ (j:Nat) (x:Tr),ts[j]? = some x→(g ((i+j:Nat):Int)).2=0∧∀ l':Int,((w' x:Nat):Int)≤l'→f (g ((i+j:Nat):Int)).1 l'=(x,l' - ((w' x:Nat):Int),0))→(((ts.map w').sum:Nat):Int)≤left →
  Yw f g ts.length i left acc=(acc++ts,left - (((ts.map w').sum:Nat):Int),0)
 | [],i,left,acc,_,_=>by simp [Yw]
 | x::ts,i,left,acc,h,hl=>by
  obtain ⟨e1,e2⟩:=h 0 x rfl
  rw [Nat.add_zero] at e1 e2
  have hs:(((x::ts).map w').sum:Nat)=w' x+(ts.map w').sum:=rfl
  rw [hs] at hl ⊢
  have e3:=e2 left (by omega)
  rw [List.length_cons,Yw,e1,if_neg (by simp),e3]
  simp only
  rw [if_neg (by simp),Zx6 ts (i+1) _ _ (fun j y hy=>by
   have:=h (j+1) y (by rw [List.getElem?_cons_succ];exact hy)
   rwa [show i+(j+1)=i+1+j by omega] at this) (by omega),List.append_assoc]
  refine Prod.ext rfl (Prod.ext ?_ rfl)
  simp only
  omega
theorem Ztr {α:Type} {f:α→Nat} {c:Nat}:∀ {l:List α},(∀ x∈l,f x=c)→(l.map f).sum=l.length * c
 | [],_=>by simp
 | x::l,h=>by
  have:=Ztr (f:=f) (l:=l) fun y hy=>h y (.tail _ hy)
  simp only [List.map_cons,List.sum_cons,List.length_cons,this,h x (.head _),Nat.add_mul,Nat.one_mul]
  omega
theorem Z2w {α:Type} {f g:α→Nat} {c:Nat}:∀ {l:List α},(∀ x∈l,f x=c+g x)→(l.map f).sum=l.length * c+(l.map g).sum
 | [],_=>by simp
 | x::l,h=>by
  have:=Z2w (f:=f) (g:=g) (l:=l) fun y hy=>h y (.tail _ hy)
  simp only [List.map_cons,List.sum_cons,List.length_cons,this,h x (.head _),Nat.add_mul,Nat.one_mul]
  omega
theorem Znp {A:Zj} {r:Za} {t:Tr} (h:MR A r t):(⟨r.kind,Xf A r,t.Kids⟩:Tr)=t:=by
 obtain ⟨a,b,c⟩:=t
 have h1:=h.kd
 have h2:=h.ws
 simp only at h1 h2
 rw [h1,h2]
def wtK (t:Tr):Nat:=(t.Kids.map wt).sum
theorem Z8u {t:Tr} {d:Nat} (h:rt t d=true) (h0:¬ t.Kind=0) (h1:¬ t.Kind=10):1≤d:=by
 rw [Zfe,if_neg h0,if_neg h1] at h
 by_cases hb:t.Kind < 0∨10 < t.Kind∨d=0∨65536≤t.Words.length∨(t.Kind=1∧65536≤t.Kids.length)∨1048576≤t.Kids.length∨(1 < t.Kind∧0 < t.Words.length)
 ·rw [if_pos hb] at h;cases h
 omega
theorem Yce {A:Zj}:∀ (d:Nat) (r:Za) (u:Tr) (left:Int),MR A r u→rt u d=true→¬ u.Kind=10→((wt u:Nat):Int)≤left→Zcr A d r left=(u,left - ((wt u:Nat):Int),0):=fun d=>by
 induction d using Nat.strongRecOn with
 | _ d ih =>
  intro r u left hm hr h10 hl
  have iP:∀ (k:Nat) (r:Za) (u:Tr) (left:Int),0 < k→k≤d→MR A r u→rt u (d - k)=true→¬ u.Kind=10→((wt u:Nat):Int)≤left→Yy A k d r left=(u,left - ((wt u:Nat):Int),0):=fun k r u left hk hkd hm hr h10 hl=>by
   unfold Yy
   rw [if_pos hkd]
   exact ih (d - k) (by omega) r u left hm hr h10 hl
  have hkd:=hm.kd
  have hlen:=hm.len
  have hln:(Yx r).toNat=u.Kids.length:=by omega
  have hwe:=Z5l u
  rw [Zht]
  unfold Zg4
  by_cases h0:r.kind=0
  ·rw [if_pos h0]
   have:=Z7q hm.o (.inl h0)
   have hk:u.Kids=[]:=List.length_eq_zero_iff.1 (by omega)
   have e:=Znp hm
   rw [hk] at e
   rw [if_pos (by omega)] at hwe
   rw [e,hwe]
   simp
  rw [if_neg h0]
  rw [if_neg (by omega),if_neg h10] at hwe
  have hd1:=Z8u hr (by omega) h10
  have hri:=Zbg hr (by omega) h10
  -- a struct
  by_cases h1:r.kind=1
  ·have hw:=Zqq hm.o h1
   rw [← hm.ws] at hw
   have hk:Yx r=r.ptrs:=by unfold Yx;rw [if_pos h1]
   have ewt:wtR r=1+((u.Words.length:Int)+(u.Kids.length:Int)):=by unfold wtR;rw [if_neg h0,if_pos h1];omega
   have elv:lvR r=1:=by unfold lvR;rw [if_neg h0,if_neg (by omega)]
   rw [if_pos (by omega)] at hwe
   have ef:V6 A (Yy A 1 d) (Yy A 2 d) r=Yy A 1 d:=by unfold V6;rw [if_neg (by omega),if_pos (.inl h1)]
   have main:=Zx6 (f:=Yy A 1 d) (g:=Yv A r) (w':=wt) u.Kids 0 (left - wtR r) [] (fun j x hx=>by
    obtain ⟨e1,e2⟩:=hm.kid hx
    have hxm:=List.mem_of_getElem? hx
    rw [Nat.zero_add]
    exact ⟨e1,fun l' hl'=>iP 1 _ _ _ (by decide) hd1 e2 (hri.2.2.2 x hxm).1 (Za0 (by omega) (hri.2.2.2 x hxm).2).1 hl'⟩) (by omega)
   rw [if_neg (by omega),hln,ef]
   simp only
   rw [main]
   simp only [List.nil_append]
   rw [Znp hm]
   refine Prod.ext rfl (Prod.ext ?_ rfl)
   simp only
   omega
  have hk:Yx r=r.count:=by unfold Yx;rw [if_neg h1]
  rw [if_neg (by omega)] at hwe
  by_cases h9:r.kind=9
  ·rw [if_neg (by omega)] at hwe
   have st:∀ (j:Nat) (x:Tr),u.Kids[j]? = some x→MR A ⟨some A,1,r.segment,r.at_+1+(j:Int) * (r.words+r.ptrs),r.words,r.ptrs,0,0,0⟩ x∧(x.Words.length:Int)=r.words∧(x.Kids.length:Int)=r.ptrs∧x.Kind=1:=fun j x hx=>by
    obtain ⟨e1,e2⟩:=hm.kid hx
    have hj:j < u.Kids.length:=(List.getElem?_eq_some_iff.1 hx).1
    have hks:=Z0h (A:=A) h9 (i:=(j:Int)) (by omega)
    rw [hks] at e2
    have q1:=e2.kd
    have q2:=Zqq e2.o rfl
    rw [← e2.ws] at q2
    have q3:=e2.len
    exact ⟨e2,q2,q3,q1⟩
   by_cases hn:u.Kids.length=0
   ·have hz:u.Kids=[]:=List.length_eq_zero_iff.1 hn
    have ewt:wtR r=1:=by unfold wtR;rw [if_neg h0,if_neg h1,if_pos h9,← hk,← hlen,hn];simp
    have elv:lvR r=1:=by unfold lvR;rw [if_neg h0,if_neg (by omega)]
    rw [if_neg (by rw [hz] at hwe;simp at hwe;omega),hln,hn]
    simp only [Yw]
    have e:=Znp hm
    rw [hz] at e
    rw [e,hwe,hz,ewt]
    rfl
   obtain ⟨x0,hx0⟩:∃ x,u.Kids[0]? = some x:=⟨_,List.getElem?_eq_getElem (by omega)⟩
   obtain ⟨_,w0,p0,k0⟩:=st 0 x0 hx0
   have hd2:2≤d:=by
    have:=Z8u (hri.2.2.2 x0 (List.mem_of_getElem? hx0)).1 (by omega) (by omega)
    omega
   have hsum:(u.Kids.map wt).sum=u.Kids.length * (1+(x0.Words.length+x0.Kids.length))+(u.Kids.map wtK).sum:=Z2w fun x hx=>by
    obtain ⟨j,hj⟩:=List.mem_iff_getElem?.1 hx
    obtain ⟨_,q1,q2,q3⟩:=st j x hj
    rw [Z5l,if_neg (by omega),if_neg (by omega),if_pos q3]
    unfold wtK
    omega
   have ewt:wtR r=1+((u.Kids.length * (1+(x0.Words.length+x0.Kids.length)):Nat):Int):=by
    unfold wtR
    rw [if_neg h0,if_neg h1,if_pos h9,← w0,← p0,← hk,← hlen,Int.natCast_mul,Int.natCast_add,Int.natCast_add,← Int.add_assoc]
    rfl
   have elv:lvR r=2:=by unfold lvR;rw [if_neg h0,if_pos ⟨h9,by omega⟩]
   have ef:V6 A (Yy A 1 d) (Yy A 2 d) r=stK A (Yy A 2 d):=by unfold V6;rw [if_pos h9]
   have main:=Zx6 (f:=stK A (Yy A 2 d)) (g:=Yv A r) (w':=wtK) u.Kids 0 (left - wtR r) [] (fun j x hx=>by
    obtain ⟨e2,q1,q2,q3⟩:=st j x hx
    have hj:j < u.Kids.length:=(List.getElem?_eq_some_iff.1 hx).1
    have hxr:=hri.2.2.2 x (List.mem_of_getElem? hx)
    have hxi:=Zbg hxr.1 (by omega) (by omega)
    have hks:=Z0h (A:=A) h9 (i:=(j:Int)) (by omega)
    rw [Nat.zero_add,hks]
    refine ⟨rfl,fun l' hl' => ?_⟩
    unfold stK
    have hp:(r.ptrs).toNat=x.Kids.length:=by omega
    have inner:=Zx6 (f:=Yy A 2 d) (g:=Yv A ⟨some A,1,r.segment,r.at_+1+(j:Int) * (r.words+r.ptrs),r.words,r.ptrs,0,0,0⟩) (w':=wt) x.Kids 0 l' [] (fun j' y hy=>by
     obtain ⟨f1,f2⟩:=e2.kid hy
     have hym:=List.mem_of_getElem? hy
     rw [Nat.zero_add]
     refine ⟨f1,fun l'' hl''=>iP 2 _ _ _ (by decide) hd2 f2 ?_ (Za0 (by omega) (hxi.2.2.2 y hym).2).1 hl''⟩
     rw [show d - 2=d - 1 - 1 by omega]
     exact (hxi.2.2.2 y hym).1) hl'
    simp only
    rw [hp,inner]
    simp only [List.nil_append]
    have e:=Znp e2
    simp only at e
    rw [e]
    rfl) (by omega)
   rw [if_neg (by omega),hln,ef]
   simp only
   rw [main]
   simp only [List.nil_append]
   rw [Znp hm]
   refine Prod.ext rfl (Prod.ext ?_ rfl)
   simp only
   omega
  have ewt:wtR r=1+(u.Kids.length:Int):=by unfold wtR;rw [if_neg h0,if_neg h1,if_neg h9];omega
  have elv:lvR r=1:=by unfold lvR;rw [if_neg h0,if_neg (by omega)]
  by_cases h8:r.kind=8
  ·rw [if_pos (by omega)] at hwe
   have ef:V6 A (Yy A 1 d) (Yy A 2 d) r=Yy A 1 d:=by unfold V6;rw [if_neg (by omega),if_pos (.inr h8)]
   have main:=Zx6 (f:=Yy A 1 d) (g:=Yv A r) (w':=wt) u.Kids 0 (left - wtR r) [] (fun j x hx=>by
    obtain ⟨e1,e2⟩:=hm.kid hx
    have hxm:=List.mem_of_getElem? hx
    rw [Nat.zero_add]
    exact ⟨e1,fun l' hl'=>iP 1 _ _ _ (by decide) hd1 e2 (hri.2.2.2 x hxm).1 (Za0 (by omega) (hri.2.2.2 x hxm).2).1 hl'⟩) (by omega)
   rw [if_neg (by omega),hln,ef]
   simp only
   rw [main]
   simp only [List.nil_append]
   rw [Znp hm]
   refine Prod.ext rfl (Prod.ext ?_ rfl)
   simp only
   omega
  rw [if_neg (by omega)] at hwe
  have kk:=Z7t hm.o
  have h27:2≤u.Kind∧u.Kind≤7:=by omega
  have hone:(u.Kids.map wt).sum=u.Kids.length * 1:=Ztr fun x hx=>by
   have:=(hri.2.2.2 x hx).2
   unfold okk at this
   rw [if_pos h27,Bool.and_eq_true,beq_iff_eq] at this
   rw [Z5l,if_neg (by omega),if_pos this.1]
  have hz:(u.Kids.map fun _=>0).sum=u.Kids.length * 0:=Ztr fun x hx=>rfl
  have ef:V6 A (Yy A 1 d) (Yy A 2 d) r=Zus A:=by unfold V6;rw [if_neg (by omega),if_neg (by omega)]
  have main:=Zx6 (f:=Zus A) (g:=Yv A r) (w':=fun _=>0) u.Kids 0 (left - wtR r) [] (fun j x hx=>by
   obtain ⟨e1,e2⟩:=hm.kid hx
   have hj:j < u.Kids.length:=(List.getElem?_eq_some_iff.1 hx).1
   have q:=Zx7 (A:=A) (r:=r) (by omega) (i:=(j:Int)) (by omega)
   rw [Nat.zero_add]
   refine ⟨e1,fun l' hl' => ?_⟩
   have e:=Znp e2
   have hl2:=e2.len
   have hk0:x.Kids=[]:=List.length_eq_zero_iff.1 (by omega)
   rw [hk0] at e
   unfold Zus
   rw [e]
   simp) (by rw [hz];omega)
  rw [if_neg (by omega),hln,ef]
  simp only
  rw [main,hz]
  simp only [List.nil_append]
  rw [Znp hm]
  refine Prod.ext rfl (Prod.ext ?_ rfl)
  simp only
  omega
theorem Ya9:∀ (n:Nat) (t:Tr) (d:Nat),SizeOf.sizeOf t < n→rt t d=true→(t.Kind=0→pt t=1)∧(¬ t.Kind=0→pt t+1≤3 * wt t)
 | 0,_,_,h,_=>by omega
 | n+1,t,d,h,hr=>by
  have g:=Zff hr
  have ih:∀ x∈t.Kids,(x.Kind=0→pt x=1)∧(¬ x.Kind=0→pt x+1≤3 * wt x):=fun x hx=>Ya9 n x (d - 1) (by have:=Y8 hx;omega) (g.2.2.2.2 x hx)
  have hp:=Zn3 t
  have hwe:=Z5l t
  refine ⟨fun h0 => ?_,fun h0 => ?_⟩
  ·have:=hr
   rw [Zfe,if_pos h0,Bool.and_eq_true,beq_iff_eq,beq_iff_eq] at this
   rw [hp,List.length_eq_zero_iff.1 this.2,this.1]
   rfl
  rw [if_neg h0] at hwe
  by_cases h10:t.Kind=10
  ·obtain ⟨w,hw⟩:=Zpl h10 hr
   rw [if_pos h10] at hwe
   rw [hp,hwe,hw,g.2.2.2.1 (.inr h10)]
   simp
  rw [if_neg h10] at hwe
  have hri:=Zbg hr h0 h10
  have s1:(t.Kids.map pt).sum≤(t.Kids.map fun x=>3 * wt x+1).sum:=Z35 t.Kids fun x hx=>by
   have:=ih x hx
   by_cases q:x.Kind=0
   ·have:=this.1 q;omega
   have:=this.2 q;omega
  rw [Zw3 (fun x=>3 * wt x),Z04] at s1
  by_cases h1:t.Kind=1
  ·rw [if_pos h1] at hwe
   omega
  have hw0:=hri.2.2.1 (by omega)
  rw [hw0] at hp
  simp only [List.length_nil] at hp
  rw [if_neg h1] at hwe
  by_cases h8:t.Kind=8
  ·rw [if_pos h8] at hwe
   omega
  rw [if_neg h8] at hwe
  have s2:(t.Kids.map fun x=>pt x+1).sum≤(t.Kids.map fun x=>3 * wt x).sum:=Z35 t.Kids fun x hx=>by
   have:=(hri.2.2.2 x hx).2
   unfold okk at this
   refine (ih x hx).2 ?_
   by_cases q:2≤t.Kind∧t.Kind≤7
   ·rw [if_pos q,Bool.and_eq_true,beq_iff_eq] at this
    omega
   have:=(Za0 q (hri.2.2.2 x hx).2).2 (by omega)
   omega
  rw [Zw3,Z04] at s2
  omega
section
variable {A:Zj}
theorem Z97 (hw:WS A.segments) {d:Nat} (hd:d≤64) {r:Za} (ho:OKr A r) (h10:r.kind≠10) {left:Int} (h0:0≤left) (h1:left≤65536) (hq:(Zcr A d r left).2.2=0) :
  ((wt (Zcr A d r left).1:Nat):Int)≤left∧rt (Zcr A d r left).1 d=true∧(Zcr A d r left).1.Kind=r.kind:=by
 obtain ⟨a1,a2,a3,a4⟩:=Z9v hw d hd r left ho h10 h0 h1 hq
 have hm:=Z4w d r left ho hq
 have e:=Yce d r (Zcr A d r left).1 (left+((wt (Zcr A d r left).1:Nat):Int)) hm a4.2.2 (by rw [a3];exact h10) (by omega)
 have:=(Yaa (A:=A) d d (Nat.le_refl _) r left ((wt (Zcr A d r left).1:Nat):Int) h0 (by omega) hq).2
 rw [e] at this
 simp only at this
 exact ⟨by omega,a4.2.2,a3⟩
theorem Z60 (hw:WS A.segments) (x:Ya) (h:(Zjz A x).2.2=0):Fine (Zjz A x).1 64∧¬ (Zjz A x).1.Kind=10∧(atR A 0 0).2=0∧MR A (atR A 0 0).1 (Zjz A x).1:=by
 have hl:=Z70 x
 have hb:=Yaw (A:=A) hw x
 rcases Z5j (A:=A) x with ⟨h1,h2,h3⟩ | ⟨h1,h2,h3,h4,h5⟩
 ·exact absurd h h1
 rw [h5] at hb ⊢
 have hk:=Ybg (A:=A) 0 0
 obtain ⟨m1,m2,m3⟩:=Z97 hw hl.1 (Zm7 (A:=A) 0 0) hk hl.2.1 hl.2.2 h4
 have r64:=Z48 _ _ (Nat.lt_succ_self _) _ 64 hl.1 m2
 have p:=Ya9 _ _ _ (Nat.lt_succ_self _) m2
 refine ⟨⟨hb,r64,?_⟩,by rw [m3];exact hk,h3,Z4w _ _ _ (Zm7 0 0) h4⟩
 by_cases q:(Zcr A (Zbq x).Depth.toNat (atR A 0 0).1 (Zbq x).Weight).1.Kind=0
 ·have:=p.1 q;omega
 have:=p.2 q;omega
end
def a14:Zj:=⟨[[8589934592,7,0]],0,0⟩
def r14:Za:=⟨some a14,1,0,1,2,0,0,0,0⟩
theorem Z9t:fol a14.segments 0 0=(⟨⟨1,0,2,0,0,0,0,false⟩,0,1⟩,0):=rfl
theorem Z7b:atR a14 0 0=(r14,0):=by
 unfold atR
 rw [Z9t]
 rfl
theorem Z9c:WS a14.segments:=Yb0 _ (by simp) (by simp)
theorem Ya0:Xf a14 r14=[7,0]:=rfl
theorem mr14:MR a14 r14 ⟨1,[7,0],[]⟩:=by
 have ho:OKr a14 r14:=by
  have:=Zm7 (A:=a14) 0 0
  rwa [Z7b] at this
 exact Z0m ho rfl
theorem Z3n:Uv r14=some 1:=by
 rw [Zsk Z9c mr14.o,Ya0]
 rfl
theorem Z88:Zbi r14=some (0,0):=by
 rw [Zr6 Z9c mr14]
 rfl
theorem Z98:Gh (⟨1⟩:Ze) r14=some (0,⟨0⟩):=by
 refine Zf5 2 fun k hk => ?_
 obtain ⟨j,rfl⟩:∃ j,k=j+2:=⟨k - 2,by omega⟩
 show Xs (Zk (j+1)).1 (Zk (j+1)).2.1 (Zk (j+1)).2.2 ⟨1⟩ r14=_
 unfold Xs
 have hk1:Z0 r14=some 1:=rfl
 have ht:Yu ⟨1⟩ (IntKind.i64.wrap (1+0))=some (0,⟨0⟩):=rfl
 have hkd:(Zk (j+1)).2.1 ⟨0⟩ r14 0=some (0,⟨0⟩):=by
  show X4 (Zk j).1 (Zk j).2.1 (Zk j).2.2 ⟨0⟩ r14 0=_
  unfold X4
  have:Zw (Jt (Zk j).1 r14 0) (0,0)=some (.inr 0):=Y0 rfl
  rw [this]
  rfl
 rw [hk1,Option.bind_some,Z88]
 simp only [Option.bind_some]
 rw [Z3n,Option.bind_some,ht]
 simp only [Option.bind_some]
 rw [hkd]
 rfl
theorem Yah:Zbu (⟨[0,0],1⟩:Zd) 0 r14=some ⟨[4294967296,7],2⟩:=by
 refine Zf5 3 fun k hk => ?_
 obtain ⟨j,rfl⟩:∃ j,k=j+3:=⟨k - 3,by omega⟩
 show Qw (Zg (j+2)).1 (Zg (j+2)).2.1 (Zg (j+2)).2.2.1 (Zg (j+2)).2.2.2 ⟨[0,0],1⟩ 0 r14=_
 unfold Qw
 have hk1:Z0 r14=some 1:=rfl
 have hs:Ji r14=some ⟨1,0,1,0,0,0,0,false⟩:=by
  unfold Ji
  rw [hk1,Option.bind_some,Z88]
  simp only [Option.bind_some]
  rw [Z3n]
  rfl
 have he:Qd (⟨1,0,1,0,0,0,0,false⟩:Zs)=some (4294967296,true):=Z7g (by decide) (by decide) (by decide) (by decide) (by decide) (by decide) (by decide)
 have hp:Yt (⟨1,0,1,0,0,0,0,false⟩:Zs)=some (1,true):=rfl
 have hw0:Q9 r14 0=some 7:=by
  rw [Zvq Z9c mr14.o]
  rfl
 have hdt:Q8 (⟨[4294967296,0],2⟩:Zd) 1 r14 1=some ⟨[4294967296,7],2⟩:=by
  unfold Q8
  have s1:X8 1 r14 1 (0,[4294967296,0])=some (.inl (1,[4294967296,7])):=by
   unfold X8
   simp only
   rw [decide_eq_true (by decide),cond_true,hw0]
   rfl
  have:Zw (X8 1 r14 1) (0,[4294967296,0])=some [4294967296,7]:=(Xz s1).trans (Y0 rfl)
  rw [this]
  rfl
 have hpa:(Zg (j+1)).2.2.1 (⟨[4294967296,7],2⟩:Zd) 2 r14 0=some ⟨[4294967296,7],2⟩:=by
  show Qm (Zg j).1 (Zg j).2.1 (Zg j).2.2.1 (Zg j).2.2.2 ⟨[4294967296,7],2⟩ 2 r14 0=_
  unfold Qm
  have:Zw (Qh (Zg j).1 2 r14 0) (0,[4294967296,7],2)=some ([4294967296,7],2):=Y0 rfl
  rw [this]
  rfl
 have hc:(Zg (j+2)).2.1 (⟨[4294967296,0],2⟩:Zd) 1 (⟨1,0,1,0,0,0,0,false⟩:Zs) r14=some ⟨[4294967296,7],2⟩:=by
  show Xc (Zg (j+1)).1 (Zg (j+1)).2.1 (Zg (j+1)).2.2.1 (Zg (j+1)).2.2.2 ⟨[4294967296,0],2⟩ 1 ⟨1,0,1,0,0,0,0,false⟩ r14=_
  unfold Xc
  rw [hk1,Option.bind_some]
  simp only
  rw [show ((1:Int) == 1)=true from rfl,cond_true,hdt,Option.bind_some]
  simp only
  rw [show IntKind.i64.wrap (1+1)=2 from rfl,hpa]
  rfl
 rw [hk1,Option.bind_some,show ((1:Int) == 0)=false from rfl,cond_false,hs,Option.bind_some,hp,Option.bind_some]
 simp only
 rw [show ((1:Int) == 1)=true from rfl,cond_true,show ((1:Int) == 0)=false from rfl,cond_false,Option.bind_some,show IntKind.i64.wrap (IntKind.i64.wrap (1 - 0) - 1)=0 from rfl,he,Option.bind_some,show Y2 ([0,0]:List Int) 0=some 0 from rfl,Option.bind_some,show Xu ([0,0]:List Int) 0 ((4294967296,true):Int×Bool).1=[4294967296,0] from rfl,show IntKind.i64.wrap (1+1)=2 from rfl,hc]
 rfl
theorem Z5w:Ve=some true:=by
 unfold Ve
 have ho:Zd0 ([([8589934592,7,0]:List Int)]:List (List Int))=some (some a14):=Z66 Z9c
 have hr:Zas (some a14)=some (r14,0):=by rw [Z47 Z9c,Z7b]
 have hwd:Zag r14 2=some ([4294967296,7],0):=by
  unfold Zag
  have hk1:Z0 r14=some 1:=rfl
  have ht:Yu (⟨(if (131072:Int) < 2 then 131072 else 2)⟩:Ze) 1=some (0,⟨1⟩):=rfl
  rw [hk1,Option.bind_some,show ((1:Int) == 10)=false from rfl,cond_false,ht,Option.bind_some]
  simp only
  rw [show ((0:Int) != 0)=false from rfl,cond_false,Z98,Option.bind_some]
  simp only
  rw [show ((0:Int) != 0)=false from rfl,cond_false,show (Zfn 8 (IntKind.i64.wrap ((if (131072:Int) < 2 then 131072 else 2) - 0)) (0:Int))=some [0,0] from rfl,Option.bind_some,Yah]
  rfl
 rw [ho,Option.bind_some,hr,Option.bind_some]
 simp only
 rw [hwd,Option.bind_some,Z3n]
 simp only
 rw [Zw0 (by decide)]
 rfl
theorem Zuw {α σ:Type} (g:σ→α→σ):∀ (l:List α) (s:σ) (i:Nat),Zcl (fun s _ x=>g s x) s i l=l.foldl g s
 | [],_,_=>rfl
 | x::l,s,i=>Zuw g l (g s x) (i+1)
theorem Zw7 {α:Type} {p:α→Bool}:∀ {l:List α},tr p l=[]→∀ x∈l,p x=true
 | [],_,x,hx=>by cases hx
 | y::l,h,x,hx=>by
  by_cases h2:tr p l=[]
  ·rw [Zjp h2] at h
   by_cases q:p y=true
   ·rcases List.mem_cons.1 hx with rfl | hx
    ·exact q
    exact Zw7 h2 x hx
   rw [if_neg q] at h
   cases h
  rw [Zmu h2] at h
  cases h
theorem Z2z {α:Type} {p:α→Bool}:∀ l:List α,∃ r,l=tr p l++r∧∀ x∈r,p x=true
 | []=>⟨[],rfl,fun x hx=>by cases hx⟩
 | y::l=>by
  by_cases h2:tr p l=[]
  ·have ha:=Zw7 h2
   rw [Zjp h2]
   by_cases q:p y=true
   ·rw [if_pos q]
    refine ⟨y::l,rfl,fun x hx => ?_⟩
    rcases List.mem_cons.1 hx with rfl | hx
    ·exact q
    exact ha x hx
   rw [if_neg q]
   exact ⟨l,rfl,ha⟩
  obtain ⟨r,h,ha⟩:=Z2z (p:=p) l
  rw [Zmu h2]
  exact ⟨r,by rw [List.cons_append,← h],ha⟩
theorem Zkv {t:Tr} (h:t.Kind=1):(nrm t).Words=tr (fun x=>x == 0) t.Words:=by rw [Gj h]
theorem Zx9 {t:Tr} (h:t.Kind=1):(nrm t).Kids=tr (fun x=>x.Kind == 0) (t.Kids.map nrm):=by rw [Gj h]
theorem Zi0 {t:Tr} (h:t.Kind=1):(nrm t).Kids.length=(tr (fun x:Tr=>x.Kind == 0) t.Kids).length:=by
 rw [Zx9 h]
 have:=Z06 (p:=fun x:Tr=>x.Kind == 0) (q:=fun x:Tr=>x.Kind == 0) (f:=nrm) (fun x=>by simp only [Qg]) t.Kids
 exact (congrArg List.length this).trans (List.length_map _)
theorem Zf9 {t:Tr} (h0:¬ t.Kind=0) (h1:¬ t.Kind=1):(nrm t).Kids=t.Kids.map nrm:=by rw [Zdr h0 h1]
theorem Z11 {t:Tr} (h:t.Kind=1) {m:Nat} (hm:(nrm t).Kids.length≤m):∃ r,(t.Kids.take m).map nrm=(nrm t).Kids++r∧∀ x∈r,x.Kind=0:=by
 obtain ⟨r,h1,h2⟩:=Z2z (p:=fun x:Tr=>x.Kind == 0) (t.Kids.map nrm)
 rw [← Zx9 h] at h1
 refine ⟨r.take (m - (nrm t).Kids.length),?_,fun x hx=>by have:=h2 x (List.mem_of_mem_take hx);simpa using this⟩
 rw [List.map_take,h1,List.take_append,List.take_of_length_le hm]
theorem Z5g {x:Tr} (h:x.Kind=0):sz x=0:=by rw [Zjc,if_neg (by omega),if_neg (by omega),if_neg (by omega),if_neg (by omega)]
theorem Zw5:∀ {r:List Tr},(∀ x∈r,x.Kind=0)→(r.map sz).sum=0
 | [],_=>rfl
 | x::r,h=>by
  have:=Zw5 fun y hy=>h y (.tail _ hy)
  simp only [List.map_cons,List.sum_cons,this,Z5g (h x (.head _))]
  rfl
theorem Z05 {t:Tr} (h:t.Kind=1) {m:Nat} (hm:(nrm t).Kids.length≤m):((t.Kids.take m).map fun x=>sz (nrm x)).sum=((nrm t).Kids.map sz).sum:=by
 obtain ⟨r,h1,h2⟩:=Z11 h hm
 have e:((t.Kids.take m).map fun x=>sz (nrm x))=((t.Kids.take m).map nrm).map sz:=by rw [List.map_map];rfl
 rw [e,h1,List.map_append,Zjm,Zw5 h2]
 omega
theorem Z4t (b:Nat):∀ (xs ys:List Tr) (l:List Int) (b:Nat),lyK b (xs++ys) l=lyK (b+xs.length) ys (lyK b xs l)
 | [],ys,l,b=>rfl
 | x::xs,ys,l,b=>by
  rw [List.cons_append,Zwj,Zwj,Z4t b xs ys _ (b+1),List.length_cons]
  congr 1
  omega
theorem Z2c:∀ {r:List Tr},(∀ x∈r,x.Kind=0)→∀ (l:List Int) (b:Nat),lyK b r l=l
 | [],_,l,b=>rfl
 | x::r,h,l,b=>by rw [Zwj,Z14 (h x (.head _)),Z2c fun y hy=>h y (.tail _ hy)]
theorem Z4u {t:Tr} (h:t.Kind=1) {m:Nat} (hm:(nrm t).Kids.length≤m) (b:Nat) (l:List Int):lyK b ((t.Kids.take m).map nrm) l=lyK b (nrm t).Kids l:=by
 obtain ⟨r,h1,h2⟩:=Z11 h hm
 rw [h1,Z4t b,Z2c h2]
section
variable {A:Zj}
theorem Z5b {r:Za} {t:Tr} (hm:MR A r t) (h9:r.kind=9) {j:Nat} {x:Tr} (hx:t.Kids[j]? = some x) :
  Yv A r (j:Int)=(⟨some A,1,r.segment,r.at_+1+(j:Int) * (r.words+r.ptrs),r.words,r.ptrs,0,0,0⟩,0)∧MR A ⟨some A,1,r.segment,r.at_+1+(j:Int) * (r.words+r.ptrs),r.words,r.ptrs,0,0,0⟩ x∧(x.Words.length:Int)=r.words∧(x.Kids.length:Int)=r.ptrs∧x.Kind=1:=by
 obtain ⟨e1,e2⟩:=hm.kid hx
 have hj:j < t.Kids.length:=(List.getElem?_eq_some_iff.1 hx).1
 have hln:=hm.len
 have hks:=Z0h (A:=A) h9 (i:=(j:Int)) (by omega)
 rw [hks] at e2
 have q2:=Zqq e2.o rfl
 rw [← e2.ws] at q2
 exact ⟨hks,e2,q2,e2.len,e2.kd⟩
theorem Z4k {x:Tr} (h:x.Kind=1) (s:Int×Int):frS s (nrm x)=(if s.1 < ((tr (fun x:Int=>x == 0) x.Words).length:Int) then ((tr (fun x:Int=>x == 0) x.Words).length:Int) else s.1,if s.2 < ((tr (fun x:Tr=>x.Kind == 0) x.Kids).length:Int) then ((tr (fun x:Tr=>x.Kind == 0) x.Kids).length:Int) else s.2):=by
 unfold frS
 rw [Zkv h,Zi0 h]
theorem Zrf (hw:WS A.segments) {r:Za} {t:Tr} (hm:MR A r t) (h9:t.Kind=9):Zbt r=some ((fr (t.Kids.map nrm)).1,(fr (t.Kids.map nrm)).2,0):=by
 have hk9:r.kind=9:=by rw [← hm.kd];exact h9
 have hln:=hm.len
 have hkn:=Zg1 hm.o
 have hrp:0≤r.words∧r.words < 65536∧0≤r.ptrs∧r.ptrs < 65536:=by
  cases hm.o with
  | z=>simp [r0] at hk9
  | st=>simp at hk9
  | li k s a n hk hn hin=>simp only at hk9;omega
  | co s a d p n hd hp hn hwx hin=>simp only;omega
  | at_=>simp at hk9
 unfold Zbt
 rw [Z6l,if_pos hk9,Option.bind_some]
 simp only
 rw [Z4 (x:=r.words+r.ptrs) (by omega) (by omega)]
 have hfold:fr (t.Kids.map nrm)=t.Kids.foldl (fun s x=>frS s (nrm x)) (0,0):=by unfold fr;rw [List.foldl_map]
 by_cases h0:r.words+r.ptrs=0
 ·rw [V1 h0,cond_true]
  have:∀ (l:List Tr),(∀ x∈l,x.Kind=1∧x.Words.length=0∧x.Kids.length=0)→l.foldl (fun s x=>frS s (nrm x)) (0,0)=(0,0):=fun l=>by
   induction l with
   | nil=>intro _;rfl
   | cons x l ih =>
    intro h
    obtain ⟨a1,a2,a3⟩:=h x (.head _)
    rw [List.foldl_cons,Z4k a1,List.length_eq_zero_iff.1 a2,List.length_eq_zero_iff.1 a3]
    exact ih fun y hy=>h y (.tail _ hy)
  rw [hfold,this t.Kids fun x hx=>by
   obtain ⟨j,hj⟩:=List.mem_iff_getElem?.1 hx
   obtain ⟨_,_,a,b,c⟩:=Z5b hm hk9 hj
   exact ⟨c,by omega,by omega⟩]
 rw [Xk h0,cond_false,Zb6,Option.bind_some,← hln]
 have main:=(Zc3 t.Kids (fun i (s:Int×Int)=>(s.1,s.2,i)) (fun s=>(.inr s:Int ⊕ (Int×Int))) (Zb4 r (t.Kids.length:Int)) (fun s _ x=>frS s (nrm x)) (fun _ _=>True) (by omega) (fun i s x hi hx hmx _=>by
  refine ⟨?_,trivial⟩
  obtain ⟨a1,a2,a3,a4,a5⟩:=Z5b hm hk9 hx
  unfold Zb4
  simp only
  rw [Zb3 hi,cond_true,Zni hw hm.o,Option.bind_some,a1]
  simp only
  rw [Zr6 hw a2,Option.bind_some]
  simp only
  rw [show ((0:Int) != 0)=false from rfl,cond_false,Zsk hw a2.o,Option.bind_some,← a2.ws,Z4k a5]) (fun s _=>by
  unfold Zb4
  simp only
  rw [Zbr,cond_false]) (0,0) trivial).1
 rw [main,Option.bind_some,Zuw (fun s x=>frS s (nrm x)),hfold]
def MT (F:Ze→Option (Int×Ze)) (s:Int):Prop:=∀ left:Int,0≤left→left≤131072→∃ e l',F ⟨left⟩=some (e,⟨l'⟩)∧(s≤left→e=0∧l'=left - s)∧(left < s→e=3)
theorem Zvp {n:Int} (h0:0≤n):MT (fun c=>Yu c n) n:=fun left h1 h2=>by
 unfold Yu
 simp only
 by_cases h:left < n
 ·rw [decide_eq_true h]
  exact ⟨3,left,rfl,fun q=>by omega,fun _=>rfl⟩
 rw [decide_eq_false h,cond_false,Z4 (by omega) (by omega)]
 exact ⟨0,left - n,rfl,fun _=>⟨rfl,rfl⟩,fun q=>by omega⟩
theorem Z4x {F:Ze→Za→Option (Int×Ze)} {step:Int×Int→Option ((Int×Int) ⊕ ((Int×Int) ⊕ Int))} (xs:List Tr) (f:Tr→Int) (hl:(xs.length:Int)≤140737488355328) (h0:∀ x∈xs,0≤f x)
  (h1:∀ (i:Nat) (x:Tr),xs[i]? = some x→∀ left:Int,0≤left→left≤131072→∃ e l',(f x≤left→e=0∧l'=left - f x)∧(left < f x→e=3)∧step ((i:Int),left)=some (cond (e != 0) (.inr (.inl (e,l'))) (.inl (IntKind.i64.wrap ((i:Int)+1),l'))))
  (h2:∀ left,step ((xs.length:Int),left)=some (.inr (.inr left))):∀ left:Int,0≤left→left≤131072→∃ z:(Int×Int) ⊕ Int,Zw step (0,left)=some z∧((xs.map f).sum≤left→z = .inr (left - (xs.map f).sum))∧(left < (xs.map f).sum→∃ l',z = .inl (3,l')):=by
 have key:∀ (l pre:List Tr) (left:Int),xs=pre++l→0≤left→left≤131072→∃ z:(Int×Int) ⊕ Int,Zw step (((pre.length:Nat):Int),left)=some z∧((l.map f).sum≤left→z = .inr (left - (l.map f).sum))∧(left < (l.map f).sum→∃ l',z = .inl (3,l')):=fun l=>by
  induction l with
  | nil =>
   intro pre left hp _ _
   rw [List.append_nil] at hp
   subst hp
   exact ⟨.inr left,Y0 (h2 left),fun _=>by simp,fun q=>by simp at q;omega⟩
  | cons x l ih =>
   intro pre left hp h3 h4
   have hx:xs[pre.length]? = some x:=by rw [hp,List.getElem?_append_right (Nat.le_refl _),Nat.sub_self];rfl
   have hi:pre.length < xs.length:=by rw [hp];simp
   have hsum:((x::l).map f).sum=f x+(l.map f).sum:=rfl
   have hln:0≤(l.map f).sum:=Ut fun y hy=>h0 y (by rw [hp];exact List.mem_append_right _ (.tail _ hy))
   have hfx:=h0 x (by rw [hp];exact List.mem_append_right _ (.head _))
   obtain ⟨e,l',e1,e2,e3⟩:=h1 pre.length x hx left h3 h4
   rw [hsum]
   by_cases q:f x≤left
   ·obtain ⟨q1,q2⟩:=e1 q
    rw [q1,show ((0:Int) != 0)=false from rfl,cond_false,Z4 (by omega) (by omega)] at e3
    obtain ⟨z,z1,z2,z3⟩:=ih (pre++[x]) l' (by rw [hp];simp) (by omega) (by omega)
    rw [List.length_append,List.length_singleton] at z1
    refine ⟨z,(Xz e3).trans z1,fun h => ?_,fun h=>z3 (by omega)⟩
    rw [z2 (by omega),q2]
    congr 1
    omega
   have q1:=e2 (by omega)
   rw [q1,show ((3:Int) != 0)=true from rfl,cond_true] at e3
   exact ⟨_,Y0 e3,fun h=>by omega,fun _=>⟨l',rfl⟩⟩
 exact fun left h3 h4=>key xs [] left rfl h3 h4
theorem Z6d (hw:WS A.segments) {F:Ze→Za→Option (Int×Ze)} {g2:Ze→Za→Int→Option (Int×Ze)} {g3:Ze→Za→Option (Int×Ze)} {r:Za} {t:Tr} (hm:MR A r t) {m:Nat} (hmm:m≤t.Kids.length)
  (h0:∀ x∈t.Kids,0≤sz (nrm x)) (hF:∀ (i:Nat) (x:Tr),i < m→t.Kids[i]? = some x→MT (fun c=>F c (Yv A r (i:Int)).1) (sz (nrm x))):MT (fun c=>X4 F g2 g3 c r (m:Int)) (((t.Kids.take m).map fun x=>sz (nrm x)).sum):=fun left h1 h2=>by
 have hl:(t.Kids.take m).length=m:=by rw [List.length_take];omega
 have hkn:=Zg1 hm.o
 have hln:=hm.len
 obtain ⟨z,z1,z2,z3⟩:=Z4x (F:=F) (step:=Jt F r (m:Int)) (t.Kids.take m) (fun x=>sz (nrm x)) (by omega) (fun x hx=>h0 x (List.mem_of_mem_take hx)) (fun i x hx left h1 h2=>by
  have hi:i < m:=by have:=(List.getElem?_eq_some_iff.1 hx).1;omega
  have hx':t.Kids[i]? = some x:=by rwa [List.getElem?_take,if_pos hi] at hx
  obtain ⟨e,l',e1',e2,e3⟩:=hF i x hi hx' left h1 h2
  have e1:F ⟨left⟩ (Yv A r (i:Int)).1=some (e,⟨l'⟩):=e1'
  obtain ⟨f1,f2⟩:=hm.kid hx'
  refine ⟨e,l',e2,e3,?_⟩
  unfold Jt
  simp only
  rw [Zb3 hi,cond_true,Zni hw hm.o,Option.bind_some,f1,show ((0:Int) != 0)=false from rfl,cond_false,e1,Option.bind_some]
  cases e != 0 <;> rfl) (fun left=>by
  unfold Jt
  simp only
  rw [hl,Zbr,cond_false]) left h1 h2
 unfold X4
 simp only
 rw [z1,Option.bind_some]
 by_cases q:((t.Kids.take m).map fun x=>sz (nrm x)).sum≤left
 ·rw [z2 q]
  exact ⟨0,_,rfl,fun _=>⟨rfl,rfl⟩,fun h=>by omega⟩
 obtain ⟨l',e⟩:=z3 (by omega)
 rw [e]
 exact ⟨3,l',rfl,fun h=>by omega,fun _=>rfl⟩
end
section
variable {A:Zj}
theorem Z77 {F1 F2:Ze→Option (Int×Ze)} {s1 s2:Int} (h1:MT F1 s1) (h2:MT F2 s2) (n1:0≤s1) (n2:0≤s2):MT (fun c=>(F1 c).bind fun y=>cond (y.1 != 0) (some (y.1,y.2)) ((F2 y.2).bind fun z=>some (z.1,z.2))) (s1+s2):=fun left h3 h4=>by
 obtain ⟨e,l',e1,e2,e3⟩:=h1 left h3 h4
 simp only
 rw [e1,Option.bind_some]
 simp only
 by_cases q:s1≤left
 ·obtain ⟨q1,q2⟩:=e2 q
  subst q1
  obtain ⟨f,l'',f1,f2,f3⟩:=h2 l' (by omega) (by omega)
  rw [show ((0:Int) != 0)=false from rfl,cond_false,f1]
  exact ⟨f,l'',rfl,fun h=>by have:=f2 (by omega);omega,fun h=>f3 (by omega)⟩
 have q1:=e3 (by omega)
 subst q1
 exact ⟨3,l',rfl,fun h=>by omega,fun _=>rfl⟩
theorem Ya8 {F:Ze→Option (Int×Ze)} {s:Int} (h:MT F s):MT (fun c=>(F c).bind fun z=>some (z.1,z.2)) s:=fun left h3 h4=>by
 obtain ⟨e,l',e1,e2⟩:=h left h3 h4
 simp only
 rw [e1]
 exact ⟨e,l',rfl,e2⟩
theorem Yat {x:Tr} (h:x.Kind=1):((x.Kids.take x.Kids.length).map fun y=>sz (nrm y)).sum=szK (nrm x):=Z05 h (by rw [Zi0 h];exact Zd7 _ _)
theorem Zr8 {t:Tr} {d:Nat} (h:Fine t d):0≤sz (nrm t)∧sz (nrm t)≤5400000000000000:=Zu9 h.nrm.rt h.nrm.pt
theorem Zuu {t:Tr} {d:Nat} (hf:Fine t d) (h9:t.Kind=9):∃ W K:Nat,fr (t.Kids.map nrm)=((W:Int),(K:Int))∧W≤65535∧K≤65535∧(∀ x∈t.Kids,(nrm x).Words.length≤W∧(nrm x).Kids.length≤K)∧sz (nrm t)=1+((t.Kids.length * (W+K):Nat):Int)+(t.Kids.map fun x=>szK (nrm x)).sum∧(nrm t).Kids=t.Kids.map nrm:=by
 obtain ⟨W,K,e1,e2,e3,e4,e5⟩:=Zv1 hf.nrm (by rw [Qg];exact h9)
 have e:=Zf9 (t:=t) (by omega) (by omega)
 rw [e] at e1 e4 e5
 refine ⟨W,K,e1,e2,e3,fun x hx=>e4 (nrm x) (List.mem_map.2 ⟨x,hx,rfl⟩),?_,e⟩
 rw [e5,List.length_map,List.map_map]
 rfl
theorem Z0n (hw:WS A.segments) {g1:Ze→Za→Option (Int×Ze)} {F2:Ze→Za→Int→Option (Int×Ze)} {g3:Ze→Za→Option (Int×Ze)} {r:Za} {t:Tr} {d:Nat} (hm:MR A r t) (hf:Fine t d) (h9:t.Kind=9)
  (hF:∀ (i:Nat) (x:Tr),t.Kids[i]? = some x→MT (fun c=>F2 c (Yv A r (i:Int)).1 (x.Kids.length:Int)) (szK (nrm x))):MT (fun c=>X5 g1 F2 g3 c r) (sz (nrm t)):=fun left h1 h2=>by
 obtain ⟨W,K,e1,e2,e3,e4,e5,e6⟩:=Zuu hf h9
 have hk9:r.kind=9:=by rw [← hm.kd];exact h9
 have hln:=hm.len
 have pk:=Zgz t
 have pp:=hf.pt
 have hs0:∀ x∈t.Kids,0≤szK (nrm x):=fun x hx=>by
  have fx:=(hf.kid hx).nrm
  exact Ut fun y hy=>(Zu9 (fx.kid hy).rt (fx.kid hy).pt).1
 have hsum:=Ut (f:=fun x:Tr=>szK (nrm x)) (xs:=t.Kids) hs0
 have hmu:t.Kids.length * (W+K)≤200000 * 131070:=Nat.mul_le_mul (by omega) (by omega)
 have ec:IntKind.i64.wrap (1+(IntKind.i64.wrap ((t.Kids.length:Int) * (IntKind.i64.wrap ((W:Int)+(K:Int))))))=1+((t.Kids.length * (W+K):Nat):Int):=by
  rw [Z4 (x:=(W:Int)+_) (by omega) (by omega),← Int.natCast_add,← Int.natCast_mul,Z4 (x:=((t.Kids.length * (W+K):Nat):Int)) (by omega) (by omega),Z4 (by omega) (by omega)]
 unfold X5
 dsimp only
 rw [Zrf hw hm h9,Option.bind_some,e1]
 simp only
 rw [show ((0:Int) != 0)=false from rfl,cond_false,Zb6,Option.bind_some,← hln,ec]
 obtain ⟨e,l',f1',f2,f3⟩:=Zvp (n:=1+((t.Kids.length * (W+K):Nat):Int)) (by omega) left h1 h2
 have f1:Yu ⟨left⟩ (1+((t.Kids.length * (W+K):Nat):Int))=some (e,⟨l'⟩):=f1'
 rw [f1,Option.bind_some]
 simp only
 by_cases q:1+((t.Kids.length * (W+K):Nat):Int)≤left
 ·obtain ⟨q1,q2⟩:=f2 q
  subst q1
  rw [show ((0:Int) != 0)=false from rfl,cond_false]
  by_cases k0:K=0
  ·have z:(t.Kids.map fun x=>szK (nrm x)).sum=0:=by
    have:∀ l:List Tr,(∀ x∈l,(nrm x).Kids.length≤0)→(l.map fun x=>szK (nrm x)).sum=0:=fun l=>by
     induction l with
     | nil=>intro _;rfl
     | cons x l ih =>
      intro h
      have hx:(nrm x).Kids=[]:=List.length_eq_zero_iff.1 (by have:=h x (.head _);omega)
      simp only [List.map_cons,List.sum_cons,ih fun y hy=>h y (.tail _ hy)]
      unfold szK
      rw [hx]
      rfl
    exact this _ fun x hx=>by have:=(e4 x hx).2;omega
   rw [V1 (by omega),cond_true]
   exact ⟨0,l',rfl,fun _=>⟨rfl,by omega⟩,fun h=>by omega⟩
  rw [Xk (by omega),cond_false,Option.bind_some]
  obtain ⟨z,z1,z2,z3⟩:=Z4x (F:=g1) (step:=Ju F2 r (t.Kids.length:Int)) t.Kids (fun x=>szK (nrm x)) (by omega) hs0 (fun i x hx left h1 h2=>by
   have hi:i < t.Kids.length:=(List.getElem?_eq_some_iff.1 hx).1
   obtain ⟨e,l',g1',g2,g3⟩:=hF i x hx left h1 h2
   have g1:F2 ⟨left⟩ (Yv A r (i:Int)).1 (x.Kids.length:Int)=some (e,⟨l'⟩):=g1'
   obtain ⟨a1,a2,a3,a4,a5⟩:=Z5b hm hk9 hx
   refine ⟨e,l',g2,g3,?_⟩
   rw [a1] at g1
   unfold Ju
   simp only
   rw [Zb3 hi,cond_true,Zni hw hm.o,Option.bind_some,a1]
   simp only
   rw [Zb6,Option.bind_some,← a2.len,g1,Option.bind_some]
   cases e != 0 <;> rfl) (fun left=>by
   unfold Ju
   simp only
   rw [Zbr,cond_false]) l' (by omega) (by omega)
  rw [z1,Option.bind_some]
  by_cases q5:(t.Kids.map fun x=>szK (nrm x)).sum≤l'
  ·rw [z2 q5]
   exact ⟨0,_,rfl,fun _=>⟨rfl,by omega⟩,fun h=>by omega⟩
  obtain ⟨l'',e⟩:=z3 (by omega)
  rw [e]
  exact ⟨3,l'',rfl,fun h=>by omega,fun _=>rfl⟩
 have q1:=f3 (by omega)
 subst q1
 rw [show ((3:Int) != 0)=true from rfl,cond_true,cond_true]
 exact ⟨3,l',rfl,fun h=>by omega,fun _=>rfl⟩
theorem Z3o (hw:WS A.segments) {g1:Ze→Za→Option (Int×Ze)} {F2:Ze→Za→Int→Option (Int×Ze)} {F3:Ze→Za→Option (Int×Ze)} {r:Za} {t:Tr} {d:Nat} (hm:MR A r t) (hf:Fine t d) (h10:¬ t.Kind=10)
  (hF:t.Kind=1∨t.Kind=8→∀ m:Nat,m≤t.Kids.length→MT (fun c=>F2 c r (m:Int)) (((t.Kids.take m).map fun x=>sz (nrm x)).sum)) (hS:t.Kind=9→MT (fun c=>F3 c r) (sz (nrm t))):MT (fun c=>Xs g1 F2 F3 c r) (sz (nrm t)):=by
 have g:=Zff hf.rt
 have hkd:=hm.kd
 have hln:=hm.len
 have pk:=Zgz t
 have pp:=hf.pt
 have hkk:Z0 r=some r.kind:=rfl
 have hz0:∀ x∈t.Kids,0≤sz (nrm x):=fun x hx=>(Zr8 (hf.kid hx)).1
 have hsz:=Zr8 hf
 unfold Xs
 rw [hkk]
 simp only [Option.bind_some]
 by_cases h0:r.kind=0
 ·rw [V1 h0]
  intro left h1 h2
  have:sz (nrm t)=0:=Z5g (by rw [Qg];omega)
  rw [this]
  exact ⟨0,left,rfl,fun _=>⟨rfl,by omega⟩,fun h=>by omega⟩
 rw [Xk h0]
 simp only [cond_false]
 by_cases h1:r.kind=1
 ·rw [V1 h1,Zr6 hw hm,Zsk hw hm.o,← hm.ws]
  simp only [cond_true,Option.bind_some]
  rw [show ((0:Int) != 0)=false from rfl]
  simp only [cond_false]
  have k1:t.Kind=1:=by omega
  rw [← Zkv k1,← Zi0 k1]
  have l1:(nrm t).Words.length≤t.Words.length:=by rw [Zkv k1];exact Zd7 _ _
  have l2:(nrm t).Kids.length≤t.Kids.length:=by rw [Zi0 k1];exact Zd7 _ _
  have es:sz (nrm t)=(((nrm t).Words.length:Int)+((nrm t).Kids.length:Int))+((nrm t).Kids.map sz).sum:=by rw [Zjc,if_pos (by rw [Qg];exact k1)]
  have h2:=hF (.inl k1) (nrm t).Kids.length l2
  rw [Z05 k1 (Nat.le_refl _)] at h2
  rw [Z4 (x:=((nrm t).Words.length:Int)+((nrm t).Kids.length:Int)) (by omega) (by omega),es]
  exact Z77 (Zvp (by omega)) h2 (by omega) (Ut fun y hy=>(Zu9 (hf.nrm.kid hy).rt (hf.nrm.kid hy).pt).1)
 rw [Xk h1]
 simp only [cond_false]
 by_cases h8:r.kind=8
 ·have k8:t.Kind=8:=by omega
  have e6:=Zf9 (t:=t) (by omega) (by omega)
  rw [V1 h8,Zb6,← hln]
  simp only [cond_true,Option.bind_some]
  have es:sz (nrm t)=((nrm t).Kids.length:Int)+((nrm t).Kids.map sz).sum:=by rw [Zjc,if_neg (by rw [Qg];omega),if_neg (by rw [Qg];omega),if_pos (by rw [Qg];exact k8)]
  rw [e6,List.length_map,List.map_map] at es
  have h2:=hF (.inr k8) t.Kids.length (Nat.le_refl _)
  rw [List.take_length] at h2
  rw [es]
  exact Z77 (Zvp (by omega)) h2 (by omega) (Ut hz0)
 rw [Xk h8]
 simp only [cond_false]
 by_cases h9:r.kind=9
 ·rw [V1 h9]
  simp only [cond_true]
  exact Ya8 (hS (by omega))
 rw [Xk h9,Zb6,← hln]
 simp only [cond_false,Option.bind_some]
 have es:sz (nrm t)=Zi9 (t.Kind - 2) t.Kids.length:=by
  rw [Zjc,Qg,if_neg (by omega),if_pos (by omega),Zf9 (by omega) (by omega),List.length_map]
 rw [Z4 (x:=r.kind - 2) (by omega) (by omega),Zxd (by omega) (by omega),← hkd,es]
 simp only [Option.bind_some]
 have hz:0≤Zi9 (t.Kind - 2) t.Kids.length:=by unfold Zi9;omega
 exact Ya8 (Zvp hz)
theorem Z2d (hw:WS A.segments):∀ k:Nat,(∀ (t:Tr) (r:Za) (d:Nat),MR A r t→Fine t d→¬ t.Kind=10→3 * SizeOf.sizeOf t < k→MT (fun c=>(Zk k).1 c r) (sz (nrm t))) ∧
  (∀ (t:Tr) (r:Za) (d m:Nat),MR A r t→Fine t d→(t.Kind=1∨t.Kind=8)→m≤t.Kids.length→3 * SizeOf.sizeOf t < k+1→MT (fun c=>(Zk k).2.1 c r (m:Int)) (((t.Kids.take m).map fun x=>sz (nrm x)).sum)) ∧
  (∀ (t:Tr) (r:Za) (d:Nat),MR A r t→Fine t d→t.Kind=9→3 * SizeOf.sizeOf t < k+1→MT (fun c=>(Zk k).2.2 c r) (sz (nrm t)))
 | 0=>⟨fun t r d _ _ _ h=>by omega,fun t r d m _ _ _ _ h=>by have:=Zk9 t;omega,fun t r d _ _ _ h=>by have:=Zk9 t;omega⟩
 | k+1=>by
  obtain ⟨i1,i2,i3⟩:=Z2d hw k
  refine ⟨fun t r d hm hf h10 hk => ?_,fun t r d m hm hf h18 hmm hk => ?_,fun t r d hm hf h9 hk => ?_⟩
  ·exact Z3o (g1:=(Zk k).1) hw hm hf h10 (fun h18 m hmm=>i2 t r d m hm hf h18 hmm (by omega)) (fun h9=>i3 t r d hm hf h9 (by omega))
  ·refine Z6d (g2:=(Zk k).2.1) (g3:=(Zk k).2.2) hw hm hmm (fun x hx=>(Zr8 (hf.kid hx)).1) fun i x hi hx => ?_
   have hxm:=List.mem_of_getElem? hx
   exact i1 x _ (d - 1) (hm.kid hx).2 (hf.kid hxm) (Za0 (by omega) ((Zbg hf.rt (by omega) (by omega)).2.2.2 x hxm).2).1 (by have:=Y8 hxm;omega)
  refine Z0n (g1:=(Zk k).1) (g3:=(Zk k).2.2) hw hm hf h9 fun i x hx => ?_
  have hxm:=List.mem_of_getElem? hx
  have k1:=(Za0 (by omega) ((Zbg hf.rt (by omega) (by omega)).2.2.2 x hxm).2).2 h9
  rw [← Yat k1]
  exact i2 x _ (d - 1) x.Kids.length (hm.kid hx).2 (hf.kid hxm) (.inl k1) (Nat.le_refl _) (by have:=Y8 hxm;omega)
theorem Zwk:∀ (k:Nat),(∀ c r v,(Zk k).1 c r=some v→(Zk (k+1)).1 c r=some v)∧(∀ c r m v,(Zk k).2.1 c r m=some v→(Zk (k+1)).2.1 c r m=some v)∧(∀ c r v,(Zk k).2.2 c r=some v→(Zk (k+1)).2.2 c r=some v)
 | 0=>⟨fun c r v h=>(by cases h),fun c r m v h=>(by cases h),fun c r v h=>(by cases h)⟩
 | k+1=>by
  obtain ⟨i1,i2,i3⟩:=Zwk k
  refine ⟨fun c r v h => ?_,fun c r m v h => ?_,fun c r v h => ?_⟩
  ·have h':Xs (Zk k).1 (Zk k).2.1 (Zk k).2.2 c r=some v:=h
   show Xs (Zk (k+1)).1 (Zk (k+1)).2.1 (Zk (k+1)).2.2 c r=some v
   unfold Xs at h' ⊢
   refine Vu (fun _ q=>q) (fun y=>Zdu _ (fun _ q=>q) (Zdu _ (fun _=>Vu (fun _ q=>q) fun w=>Zdu _ (fun _ q=>q) fun _=>Vu (fun _ q=>q) fun u _=>Vu (fun _ q=>q) fun b=>Zdu _ (fun _ q=>q) fun _=>Vu (fun x q=>i2 _ _ _ x q) fun _ _ q=>q) (Zdu _ (fun _=>Vu (fun _ q=>q) fun w _=>Vu (fun _ q=>q) fun b=>Zdu _ (fun _ q=>q) fun _=>Vu (fun _ q=>q) fun u _=>Vu (fun x q=>i2 _ _ _ x q) fun _ _ q=>q) (Zdu _ (fun _=>Vu (fun x q=>i3 _ _ x q) fun _ _ q=>q) fun _ q=>q)))) h'
  ·have h':X4 (Zk k).1 (Zk k).2.1 (Zk k).2.2 c r m=some v:=h
   show X4 (Zk (k+1)).1 (Zk (k+1)).2.1 (Zk (k+1)).2.2 c r m=some v
   unfold X4 at h' ⊢
   refine Vu (fun x=>Zwz fun s y q => ?_) (fun _ _ q=>q) h'
   exact Zdu _ (fun _=>Vu (fun _ q=>q) fun u=>Zdu _ (fun _ q=>q) fun _=>Vu (fun x q=>i1 _ _ x q) fun _ _ q=>q) (fun _ q=>q) y q
  have h':X5 (Zk k).1 (Zk k).2.1 (Zk k).2.2 c r=some v:=h
  show X5 (Zk (k+1)).1 (Zk (k+1)).2.1 (Zk (k+1)).2.2 c r=some v
  unfold X5 at h' ⊢
  refine Vu (fun _ q=>q) (fun n=>Zdu _ (fun _ q=>q) fun _=>Vu (fun _ q=>q) fun u _=>Vu (fun _ q=>q) fun b=>Zdu _ (fun _ q=>q) fun _=>Vu (fun _ q=>q) fun w _=>Vu (fun x=>Zwz fun s y q => ?_) fun _ _ q=>q) h'
  exact Zdu _ (fun _=>Vu (fun _ q=>q) fun u _=>Vu (fun _ q=>q) fun w _=>Vu (fun x q=>i2 _ _ _ x q) fun _ _ q=>q) (fun _ q=>q) y q
theorem Z74 (hw:WS A.segments) {t:Tr} {r:Za} {d:Nat} (hm:MR A r t) (hf:Fine t d) (h10:¬ t.Kind=10):MT (fun c=>Gh c r) (sz (nrm t)):=fun left h1 h2=>by
 obtain ⟨e,l',e1,e2⟩:=(Z2d hw (3 * SizeOf.sizeOf t+1)).1 t r d hm hf h10 (by omega) left h1 h2
 exact ⟨e,l',Z7z (F:=fun k=>(Zk k).1 ⟨left⟩ r) (fun k x=>(Zwk k).1 _ _ x) e1,e2⟩
end
section
variable {A:Zj}
theorem Ycd (k:Nat):(Zg (k+1)).1=Qw ((Zg k).1) ((Zg k).2.1) ((Zg k).2.2.1) ((Zg k).2.2.2):=rfl
theorem Z93 (k:Nat):(Zg (k+1)).2.1=Xc ((Zg k).1) ((Zg k).2.1) ((Zg k).2.2.1) ((Zg k).2.2.2):=rfl
theorem Ydg (k:Nat):(Zg (k+1)).2.2.1=Qm ((Zg k).1) ((Zg k).2.1) ((Zg k).2.2.1) ((Zg k).2.2.2):=rfl
theorem Ydh (k:Nat):(Zg (k+1)).2.2.2=V0 ((Zg k).1) ((Zg k).2.1) ((Zg k).2.2.1) ((Zg k).2.2.2):=rfl
theorem Z1u {l:List Int} {N:Nat} (h:l.length < N):∃ v,Y2 (zs l N) (l.length:Int)=some v:=⟨_,Zta (by rw [Zrz (by omega)];exact h)⟩
theorem Z7f (hw:WS A.segments) {r:Za} {t:Tr} (hm:MR A r t) (h1:t.Kind=1) {l:List Int} {N:Nat} (hN:l.length+(nrm t).Words.length≤N) (hN2:N≤131072) (nx:Int):Q8 ⟨zs l N,nx⟩ (l.length:Int) r ((nrm t).Words.length:Int)=some ⟨zs (l++(nrm t).Words) N,nx⟩:=by
 have ew:=Zkv h1
 have htk:=Z5i (fun x:Int=>x == 0) t.Words
 rw [← ew] at htk
 have hle:(nrm t).Words.length≤t.Words.length:=by rw [ew];exact Zd7 _ _
 generalize (nrm t).Words=ws at *
 unfold Q8
 have main:=Zc3 ws (fun i (s:List Int)=>(i,zs s N)) (fun s=>zs s N) (X8 (l.length:Int) r (ws.length:Int)) (fun s _ x=>s++[x]) (fun i s=>s=l++ws.take i) (by omega) (fun i s x hi hx hm' hI=>by
  have hsl:s.length=l.length+i:=by rw [hI,List.length_append,List.length_take];omega
  refine ⟨?_,by rw [hI,List.take_add_one,hx,List.append_assoc];rfl⟩
  unfold X8
  simp only
  have hxt:t.Words[i]? = some x:=by
   rw [← htk,List.getElem?_take,if_pos hi] at hx
   exact hx
  have hwr:Zxb A r (i:Int)=x:=by
   have hi':i < (Xf A r).length:=by rw [← hm.ws];omega
   have h2:(Xf A r)[i]? = some x:=by rw [← hm.ws];exact hxt
   rw [List.getElem?_eq_getElem hi'] at h2
   rw [← Zup hw hm.o hi']
   exact Option.some.inj h2
  have e:(l.length:Int)+(i:Int)=(s.length:Int):=by omega
  obtain ⟨v,hv⟩:=Z1u (l:=s) (N:=N) (by omega)
  rw [Zb3 hi,cond_true,Zvq hw hm.o,Option.bind_some,hwr,Z4 (x:=(l.length:Int)+(i:Int)) (by omega) (by omega),e,hv,Option.bind_some,Z39 x (by omega)]) (fun s _=>by
  unfold X8
  simp only
  rw [Zbr,cond_false]) l (by simp)
 rw [main.1,main.2,Option.bind_some,List.take_length]
def PT (A:Zj) (k:Nat) (r:Za) (t:Tr):Prop:=∀ (l:List Int) (a N:Nat),a < l.length→(l.length:Int)+sz (nrm t)≤N→N≤131072→(Zg k).1 ⟨zs l N,(l.length:Int)⟩ (a:Int) r=some ⟨zs (ly (nrm t) l a) N,((ly (nrm t) l a).length:Int)⟩
theorem Zrt (hw:WS A.segments) {r:Za} {t:Tr} (hm:MR A r t) {m:Nat} (hmm:m≤t.Kids.length) (hk:∀ x∈(t.Kids.take m).map nrm,Sim x∧0≤sz x) {l:List Int} {b N k:Nat} (hb:b+m≤l.length) (hN:(l.length:Int)+(((t.Kids.take m).map nrm).map sz).sum≤N) (hN2:N≤131072)
  (hP:∀ (i:Nat) (x:Tr),i < m→t.Kids[i]? = some x→PT A k (Yv A r (i:Int)).1 x) :
  (Zg (k+1)).2.2.1 ⟨zs l N,(l.length:Int)⟩ (b:Int) r (m:Int)=some ⟨zs (lyK b ((t.Kids.take m).map nrm) l) N,((lyK b ((t.Kids.take m).map nrm) l).length:Int)⟩:=by
 have hl:((t.Kids.take m).map nrm).length=m:=by rw [List.length_map,List.length_take];omega
 have h3:=Ut (f:=sz) (xs:=(t.Kids.take m).map nrm) fun y hy=>(hk y hy).2
 rw [Ydg]
 unfold Qm
 have:=(Zc3 ((t.Kids.take m).map nrm) (fun i (s:List Int)=>(i,zs s N,(s.length:Int))) (fun s=>(zs s N,(s.length:Int))) (Qh (Zg k).1 (b:Int) r (m:Int)) (fun l i x=>ly x l (b+i)) (fun i (s:List Int)=>(s.length:Int)=l.length+((((t.Kids.take m).map nrm).take i).map sz).sum) (by omega) (fun i s x hi hx hm' hI=>by
  obtain ⟨a1,a2,a3⟩:=Zsi (l:=l) (b:=b) hk (by omega) (by omega) i s x hi hx hm' hI
  refine ⟨?_,a3⟩
  obtain ⟨y,hy,_,rfl⟩:=Z4v hx
  have him:i < m:=by omega
  rw [List.getElem?_take,if_pos him] at hy
  obtain ⟨f1,f2⟩:=hm.kid hy
  unfold Qh
  simp only
  have e:IntKind.i64.wrap ((b:Int)+(i:Int))=((b+i:Nat):Int):=by rw [Z4 (by omega) (by omega)];omega
  rw [Zb3 him,cond_true,Zni hw hm.o,Option.bind_some,e,hP i y him hy s (b+i) N a1 (by omega) hN2,Option.bind_some]) (fun s _=>by
  unfold Qh
  simp only
  rw [hl,Zbr,cond_false]) l (by simp)).1
 rw [this]
 rfl
theorem Zoc {t:Tr} {d:Nat} (hf:Fine t d) (h10:¬ t.Kind=10):Nm (nrm t) d:=⟨hf.nrm,Zso t,by rw [Qg];exact h10⟩
theorem Zwd (hw:WS A.segments) {r:Za} {t:Tr} {d:Nat} (hm:MR A r t) (hf:Fine t d) (h18:t.Kind=1∨t.Kind=8) (m:Nat):∀ x∈(t.Kids.take m).map nrm,Sim x∧0≤sz x:=fun x hx=>by
 obtain ⟨y,hy,rfl⟩:=List.mem_map.1 hx
 have hym:=List.mem_of_mem_take hy
 exact (Zoc (hf.kid hym) (Za0 (by omega) ((Zbg hf.rt (by omega) (by omega)).2.2.2 y hym).2).1).sim
theorem Zru {r:Za} {t:Tr} (hk:r.kind=t.Kind) (h0:¬ t.Kind=0) (k:Nat) (s:Zd) (a:Int):(Zg (k+1)).1 s a r=(Ji r).bind fun y4=>(Yt y4).bind fun y6=>(cond (cond (y4.Kind == 1) (y6.1 == 0) false) (some (-1)) (some (IntKind.i64.wrap ((IntKind.i64.wrap (s.next - a)) - 1)))).bind fun (z7:Int)=>(Qd (⟨y4.Kind,z7,y4.Data,y4.Ptrs,y4.Code,y4.Count,y4.Segment,y4.Double⟩:Zs)).bind fun y12=>(Y2 s.words a).bind fun x13=>((Zg k).2.1 (⟨(Xu s.words a y12.1),(IntKind.i64.wrap (s.next+y6.1))⟩:Zd) s.next (⟨y4.Kind,z7,y4.Data,y4.Ptrs,y4.Code,y4.Count,y4.Segment,y4.Double⟩:Zs) r).bind fun y15=>some (⟨y15.words,y15.next⟩:Zd):=by
 rw [Ycd]
 unfold Qw
 rw [show Z0 r=some r.kind from rfl,Option.bind_some,Xk (by omega),cond_false]
theorem Yak {r:Za} {t:Tr} (hm:MR A r t) (h0:t.Kind=0) (k:Nat):PT A (k+1) r t:=fun l a N ha hN hN2=>by
 rw [Ycd]
 unfold Qw
 rw [show Z0 r=some r.kind from rfl,Option.bind_some,← hm.kd,V1 h0,cond_true,Z14 (by rw [Qg];exact h0)]
theorem Z6j (hw:WS A.segments) {r:Za} {t:Tr} {d:Nat} (hm:MR A r t) (hf:Fine t d) (h1:t.Kind=1) {k:Nat} (hP:∀ (i:Nat) (x:Tr),t.Kids[i]? = some x→PT A k (Yv A r (i:Int)).1 x):PT A (k+3) r t:=fun l a N ha hN hN2=>by
 have hn:=Zoc hf (by omega)
 have n1:(nrm t).Kind=1:=by rw [Qg];exact h1
 obtain ⟨i1,i2,_,_⟩:=Zbg hn.f.rt (by omega) hn.k
 have hk:∀ x∈(nrm t).Kids,Sim x∧0≤sz x:=fun x hx=>(hn.okids (.inl n1) x hx).sim
 have e:=(Zwe n1 i1 (i2 n1) hk l a ha (by omega)).1
 have l2:(RS1 (nrm t) l a).length=l.length+(nrm t).Words.length+(nrm t).Kids.length:=Yaq _ _ _
 have es:sz (nrm t)=(((nrm t).Words.length:Int)+((nrm t).Kids.length:Int))+((nrm t).Kids.map sz).sum:=by rw [Zjc,if_pos n1]
 have s0:=Ut (f:=sz) (xs:=(nrm t).Kids) fun y hy=>(hk y hy).2
 have i2':=i2 n1
 have ho:-536870912≤Zjf (nrm t) l a∧Zjf (nrm t) l a < 536870912∧¬ (Zjf (nrm t) l a=0∧((nrm t).Words.length:Int)=0∧((nrm t).Kids.length:Int)=0):=by unfold Zjf;split <;> omega
 have e1:Ji r=some (⟨1,0,((nrm t).Words.length:Int),((nrm t).Kids.length:Int),0,0,0,false⟩:Zs):=by
  unfold Ji
  rw [show Z0 r=some r.kind from rfl,Option.bind_some,← hm.kd,V1 h1,cond_true,Zr6 hw hm,Option.bind_some,Zsk hw hm.o,Option.bind_some,← hm.ws,← Zkv h1,← Zi0 h1]
 have e2:Yt (⟨1,0,((nrm t).Words.length:Int),((nrm t).Kids.length:Int),0,0,0,false⟩:Zs)=some (((nrm t).Words.length:Int)+((nrm t).Kids.length:Int),true):=by
  unfold Yt
  simp only
  rw [V1 rfl,cond_true,Z4 (by omega) (by omega)]
 have e3:(cond (cond ((1:Int) == 1) ((((nrm t).Words.length:Int)+((nrm t).Kids.length:Int)) == 0) false) (some (-1)) (some (IntKind.i64.wrap ((IntKind.i64.wrap ((l.length:Int) - (a:Int))) - 1))))=some (Zjf (nrm t) l a):=by
  unfold Zjf
  rw [Z4 (x:=(l.length:Int) - (a:Int)) (by omega) (by omega),Z4 (by omega) (by omega),V1 rfl,cond_true]
  by_cases q:(nrm t).Words.length+(nrm t).Kids.length=0
  ·rw [V1 (by omega),cond_true,if_pos q]
  rw [Xk (by omega),cond_false,if_neg q]
 rw [Zru hm.kd.symm (by omega),e1,Option.bind_some,e2,Option.bind_some]
 simp only
 rw [e3,Option.bind_some,Z7g ho.1 ho.2.1 (by omega) (by omega) (by omega) (by omega) ho.2.2,Option.bind_some,Z54 ha,Option.bind_some,Zuq ha,Z93]
 unfold Xc
 simp only
 rw [show Z0 r=some r.kind from rfl,Option.bind_some,← hm.kd,V1 h1,cond_true]
 have l1:=Qa l (a:Int) (Zjf (nrm t) l a % 1073741824 * 4+((nrm t).Words.length:Int) * 4294967296+((nrm t).Kids.length:Int) * 281474976710656)
 rw [e]
 have lnk:=Zsj hk (l:=RS1 (nrm t) l a) (b:=l.length+(nrm t).Words.length) (by omega) (by omega)
 unfold RS1 at l2 lnk ⊢
 generalize Xu l (a:Int) (Zjf (nrm t) l a % 1073741824 * 4+((nrm t).Words.length:Int) * 4294967296+((nrm t).Kids.length:Int) * 281474976710656)=m at *
 rw [← l1,Z7f hw hm h1 (by omega) hN2,Option.bind_some]
 simp only
 have hle:(nrm t).Kids.length≤t.Kids.length:=by rw [Zi0 h1];exact Zd7 _ _
 have hsz:(((t.Kids.take (nrm t).Kids.length).map nrm).map sz).sum=((nrm t).Kids.map sz).sum:=by
  have:=Z05 h1 (Nat.le_refl (nrm t).Kids.length)
  rw [← this,List.map_map]
  rfl
 have:=Zrt hw hm (m:=(nrm t).Kids.length) hle (Zwd hw hm hf (.inl h1) _) (l:=m++(nrm t).Words++List.replicate (nrm t).Kids.length 0) (b:=m.length+(nrm t).Words.length) (N:=N) (k:=k) (by omega) (by rw [hsz];omega) hN2 (fun i x _ hx=>hP i x hx)
 rw [Z4u h1 (Nat.le_refl _),Zn9 (by rw [List.length_append];omega)] at this
 rw [Z4 (x:=(m.length:Int)+((nrm t).Words.length:Int)) (by omega) (by omega),Z4 (by omega) (by omega)]
 have e5:(m.length:Int)+(((nrm t).Words.length:Int)+((nrm t).Kids.length:Int))=((m++(nrm t).Words++List.replicate (nrm t).Kids.length 0).length:Int):=by omega
 rw [e5,← Int.natCast_add,this]
 rfl
theorem Zsv {r:Za} {t:Tr} (hm:MR A r t) (h2:2≤t.Kind∧t.Kind≤8) (hn:t.Kids.length≤200000) {l:List Int} {a N:Nat} (ha:a < l.length) (hl:l.length≤131072) (k:Nat) :
  (Zg (k+1)).1 ⟨zs l N,(l.length:Int)⟩ (a:Int) r=((Zg k).2.1 ⟨zs (Xu l (a:Int) (hdL (nrm t) l a)) N,((l.length+rmL (t.Kind - 2) t.Kids.length:Nat):Int)⟩ (l.length:Int) ⟨2,(l.length:Int) - a - 1,0,0,t.Kind - 2,(t.Kids.length:Int),0,false⟩ r).bind fun y=>some ⟨y.words,y.next⟩:=by
 have hr:rmL (t.Kind - 2) t.Kids.length≤t.Kids.length:=by
  unfold rmL
  split
  ·exact Nat.le_refl _
  exact Zvm (by omega) _
 have e1:Ji r=some (⟨2,0,0,0,t.Kind - 2,(t.Kids.length:Int),0,false⟩:Zs):=by
  unfold Ji
  rw [show Z0 r=some r.kind from rfl,Option.bind_some,← hm.kd,Xk (by omega),cond_false,Xk (by omega),cond_false,Option.bind_some,Zb6,Option.bind_some,← hm.len,Z4 (by omega) (by omega)]
 have eh:hdL (nrm t) l a=((l.length:Int) - a - 1) % 1073741824 * 4+1+(t.Kind - 2) * 4294967296+(t.Kids.length:Int) * 34359738368:=by
  unfold hdL
  rw [Qg,Zf9 (by omega) (by omega),List.length_map]
 rw [Zru hm.kd.symm (by omega),e1,Option.bind_some,Z8i (by omega) hn,Option.bind_some]
 simp only
 rw [Xk (a:=2) (b:=1) (by decide),cond_false,cond_false,Option.bind_some,Z4 (x:=(l.length:Int) - (a:Int)) (by omega) (by omega),Z4 (by omega) (by omega),Z9r (by omega) (by omega) (by omega) (by omega) (by omega) (by omega),Option.bind_some,Z54 ha,Option.bind_some,Zuq ha,Z4 (by omega) (by omega),eh]
 rfl
theorem Yal (hw:WS A.segments) {r:Za} {t:Tr} {d:Nat} (hm:MR A r t) (hf:Fine t d) (h8:t.Kind=8) {k:Nat} (hP:∀ (i:Nat) (x:Tr),t.Kids[i]? = some x→PT A k (Yv A r (i:Int)).1 x):PT A (k+3) r t:=fun l a N ha hN hN2=>by
 have hn:=Zoc hf (by omega)
 have n8:(nrm t).Kind=8:=by rw [Qg];exact h8
 have ek:=Zf9 (t:=t) (by omega) (by omega)
 have hk:∀ x∈(nrm t).Kids,Sim x∧0≤sz x:=fun x hx=>(hn.okids (.inr n8) x hx).sim
 have lb:=Zgz t
 have pp:=hf.pt
 have e:=(Z15 n8 (by rw [ek,List.length_map];omega) hk l a ha (by omega)).1
 have es:sz (nrm t)=((nrm t).Kids.length:Int)+((nrm t).Kids.map sz).sum:=by rw [Zjc,if_neg (by omega),if_neg (by omega),if_pos n8]
 have s0:=Ut (f:=sz) (xs:=(nrm t).Kids) fun y hy=>(hk y hy).2
 have l1:=Qa l (a:Int) (hdL (nrm t) l a)
 rw [Zsv hm (by omega) (by omega) ha (by omega),Z93]
 unfold Xc
 simp only
 rw [show Z0 r=some r.kind from rfl,Option.bind_some,← hm.kd,Xk (by omega),cond_false,V1 h8,cond_true]
 have e0:rmL (t.Kind - 2) t.Kids.length=t.Kids.length:=by unfold rmL;rw [if_pos (by omega)]
 have tk:(t.Kids.take t.Kids.length).map nrm=(nrm t).Kids:=by rw [List.take_length,ek]
 have kl:(nrm t).Kids.length=t.Kids.length:=by rw [ek,List.length_map]
 have:=Zrt hw hm (m:=t.Kids.length) (Nat.le_refl _) (Zwd hw hm hf (.inr h8) _) (l:=Xu l (a:Int) (hdL (nrm t) l a)++List.replicate t.Kids.length 0) (b:=l.length) (N:=N) (k:=k) (by rw [List.length_append,List.length_replicate];omega) (by rw [tk,List.length_append,List.length_replicate];omega) hN2 (fun i x _ hx=>hP i x hx)
 rw [tk,Zn9 (by omega),List.length_append,l1,List.length_replicate] at this
 rw [e0,this,e,kl]
 rfl
theorem Z9m {t:Tr} {d:Nat} (hf:Fine t d) (h2:2≤t.Kind∧t.Kind≤7):ato (nrm t)=ato t:=by
 unfold ato
 rw [Zf9 (by omega) (by omega),List.map_map]
 refine List.map_congr_left fun x hx => ?_
 have:=((Zbg hf.rt (by omega) (by omega)).2.2.2 x hx).2
 unfold okk at this
 rw [if_pos h2,Bool.and_eq_true,beq_iff_eq] at this
 show (nrm x).Words.headD 0=x.Words.headD 0
 rw [Zdr (by omega) (by omega)]
theorem Z6g (hw:WS A.segments) {r:Za} {t:Tr} {d:Nat} (hm:MR A r t) (hf:Fine t d) (h2:2≤t.Kind∧t.Kind≤7) {l:List Int} {N:Nat} (h0:0 < l.length) (hN:l.length+(Zn5 (t.Kind - 2) (ato t)).length≤N) (hN2:N≤131072) (nx:Int):V4 ⟨zs l N,nx⟩ (l.length:Int) r=some ⟨zs (l++Zn5 (t.Kind - 2) (ato t)) N,nx⟩:=by
 have lb:=Zgz t
 have pp:=hf.pt
 have hat:∀ k∈t.Kids,∃ w,k.Words=[w]∧0≤w∧Zcx (t.Kind - 2) w=true:=fun k hk=>by
  obtain ⟨w,a,b,_,c⟩:=Zwm h2 (hf.bd.all k hk) (hf.kid hk).rt ((Zbg hf.rt (by omega) (by omega)).2.2.2 k hk).2
  exact ⟨w,a,b,c⟩
 unfold V4
 rw [Zb6,Option.bind_some,← hm.len]
 have main:=Zc3 t.Kids (fun i (s:List Int)=>(i,s)) (fun s=>s) (Jy r (t.Kids.length:Int)) (fun s _ x=>s++[x.Words.headD 0]) (fun i s=>s=(t.Kids.take i).map fun k=>k.Words.headD 0) (by omega) (fun i s x hi hx hmx hI=>by
  have hsl:s.length=i:=by rw [hI,List.length_map,List.length_take];omega
  refine ⟨?_,by rw [hI,List.take_add_one,hx,List.map_append];rfl⟩
  obtain ⟨f1,f2⟩:=hm.kid hx
  obtain ⟨w,hxw,_,_⟩:=hat x hmx
  have hwr:Zxb A (Yv A r (i:Int)).1 0=x.Words.headD 0:=by
   have h2:=f2.ws
   have hi':0 < (Xf A (Yv A r (i:Int)).1).length:=by rw [← h2,hxw];simp
   have:=Zup hw f2.o hi'
   rw [show ((0:Nat):Int)=0 from rfl] at this
   rw [← this]
   simp only [← h2,hxw]
   rfl
  unfold Jy
  simp only
  rw [Zb3 hi,cond_true,Zni hw hm.o,Option.bind_some,Zvq hw f2.o,Option.bind_some,hwr,Zbm (by rw [List.length_singleton];omega) (by rw [List.length_singleton];omega),Option.bind_some]) (fun s _=>by
  unfold Jy
  simp only
  rw [Zbr,cond_false]) [] (by simp)
 have e:(t.Kids.map fun k=>k.Words.headD 0)=ato t:=rfl
 rw [main.1,main.2,Option.bind_some,List.take_length,e,show Z0 r=some r.kind from rfl,Option.bind_some,← hm.kd,Z4 (by omega) (by omega),(Z09 (c:=t.Kind - 2) (by omega) (ns:=ato t) (by rw [Zr2];omega) (fun n hn=>by
  obtain ⟨k,hk,rfl⟩:=List.mem_map.1 hn
  obtain ⟨w,hw,h0,h1⟩:=hat k hk
  rw [hw]
  exact ⟨h0,h1⟩)).1,Option.bind_some]
 simp only
 rw [Zrz (by omega),Jv (by omega),Option.bind_some,Z1b (by omega)]
theorem Yaj (hw:WS A.segments) {r:Za} {t:Tr} {d:Nat} (hm:MR A r t) (hf:Fine t d) (h2:2≤t.Kind∧t.Kind≤7) (k:Nat):PT A (k+2) r t:=fun l a N ha hN hN2=>by
 have hn:=Zoc hf (by omega)
 have lb:=Zgz t
 have pp:=hf.pt
 have ek:=Zf9 (t:=t) (by omega) (by omega)
 have e:=Z9o hn (by rw [Qg];exact h2) ha (by omega)
 have ln:=(hn.sim.1 l a ha (by omega)).1
 have l1:=Qa l (a:Int) (hdL (nrm t) l a)
 rw [Qg,Z9m hf h2] at e
 rw [e] at ln ⊢
 rw [List.length_append,l1] at ln
 have es:sz (nrm t)=((rmL (t.Kind - 2) t.Kids.length:Nat):Int):=by
  rw [Zjc,Qg,if_neg (by omega),if_pos h2,ek,List.length_map]
  unfold Zi9 rmL
  rw [if_neg (by omega)]
 have er:((l.length+rmL (t.Kind - 2) t.Kids.length:Nat):Int)=((Xu l (a:Int) (hdL (nrm t) l a)++Zn5 (t.Kind - 2) (ato t)).length:Int):=by rw [List.length_append,l1];omega
 rw [Zsv hm (by omega) (by omega) ha (by omega),Z93]
 unfold Xc
 simp only
 rw [show Z0 r=some r.kind from rfl,Option.bind_some,← hm.kd,Xk (by omega),cond_false,Xk (by omega),cond_false,Xk (by omega),cond_false]
 by_cases q:t.Kind=2
 ·have ez:Zn5 (t.Kind - 2) (ato t)=[]:=by unfold Zn5;rw [if_pos (by omega)]
  rw [V1 q,cond_true,Option.bind_some,er,ez,List.append_nil]
 have:=Z6g hw hm hf h2 (l:=Xu l (a:Int) (hdL (nrm t) l a)) (N:=N) (by omega) (by omega) hN2 ((l.length+rmL (t.Kind - 2) t.Kids.length:Nat):Int)
 rw [l1] at this
 rw [Xk q,cond_false,this,Option.bind_some,Option.bind_some,er]
end
section
variable {A:Zj}
theorem Yai (hw:WS A.segments) {r:Za} {t:Tr} {d:Nat} (hm:MR A r t) (hf:Fine t d) (h9:t.Kind=9) {k:Nat} (hP:∀ (i:Nat) (x:Tr),t.Kids[i]? = some x→∀ (j:Nat) (y:Tr),x.Kids[j]? = some y→PT A k (Yv A (Yv A r (i:Int)).1 (j:Int)).1 y):PT A (k+4) r t:=fun l a N ha hN hN2=>by
 have hn:=Zoc hf (by omega)
 have n9:(nrm t).Kind=9:=by rw [Qg];exact h9
 have hk9:r.kind=9:=by rw [← hm.kd];exact h9
 have hln:=hm.len
 have lb:=Zgz t
 have pp:=hf.pt
 obtain ⟨W,K,hfr,hW,hK,hwk,es,ek⟩:=Zuu hf h9
 have kl:(nrm t).Kids.length=t.Kids.length:=by rw [ek,List.length_map]
 have hwk':∀ x∈(nrm t).Kids,x.Words.length≤W∧x.Kids.length≤K:=fun x hx=>by
  rw [ek] at hx
  obtain ⟨y,hy,rfl⟩:=List.mem_map.1 hx
  exact hwk y hy
 have hfr':fr (nrm t).Kids=((W:Int),(K:Int)):=by rw [ek];exact hfr
 have hk:∀ x∈(nrm t).Kids,∀ y∈x.Kids,Sim y∧0≤sz y:=fun x hx y hy=>((hn.structs n9 x hx).1.okids (.inl (hn.structs n9 x hx).2) y hy).sim
 have esk:(t.Kids.map fun x=>szK (nrm x)).sum=((nrm t).Kids.map szK).sum:=by rw [ek,List.map_map];rfl
 rw [esk,← kl] at es
 have e:=(Z12 n9 (by omega) hfr' hW hK hwk' hk es l a ha (by omega)).1
 have hq:∀ x∈(nrm t).Kids,0≤szK x:=fun x hx=>Ut fun y hy=>(hk x hx y hy).2
 have s0:=Ut (f:=szK) (xs:=(nrm t).Kids) hq
 have hc:(nrm t).Kids.length * (W+K)≤131072:=by omega
 have ec:IntKind.i64.wrap (((nrm t).Kids.length:Int) * (IntKind.i64.wrap ((W:Int)+(K:Int))))=(((nrm t).Kids.length * (W+K):Nat):Int):=by
  rw [Z4 (x:=(W:Int)+_) (by omega) (by omega),← Int.natCast_add,← Int.natCast_mul,Z4 (by omega) (by omega)]
 have ei:∀ i:Nat,i < (nrm t).Kids.length→IntKind.i64.wrap ((IntKind.i64.wrap ((l.length:Int)+1))+(IntKind.i64.wrap ((i:Int) * (IntKind.i64.wrap ((W:Int)+(K:Int))))))=((l.length+1+i * (W+K):Nat):Int):=fun i hi=>by
  have:=Zai (m:=W+K) hi
  rw [Z4 (x:=(W:Int)+_) (by omega) (by omega),← Int.natCast_add,← Int.natCast_mul,Z4 (x:=(l.length:Int)+1) (by omega) (by omega),Z4 (x:=((i * (W+K):Nat):Int)) (by omega) (by omega),Z4 (by omega) (by omega)]
  omega
 have l1:=Qa l (a:Int) (hd9 (nrm t) W K l a)
 have l3:(Xu l (a:Int) (hd9 (nrm t) W K l a)++[Zjh (nrm t) W K]).length=l.length+1:=by rw [List.length_append,l1];rfl
 have l4:(cpW W K (nrm t).Kids (Xu l (a:Int) (hd9 (nrm t) W K l a)++[Zjh (nrm t) W K])).length=l.length+1+(nrm t).Kids.length * (W+K):=by rw [Z4h (fun x hx=>(hwk' x hx).1),l3]
 rw [e]
 generalize hL4:cpW W K (nrm t).Kids (Xu l (a:Int) (hd9 (nrm t) W K l a)++[Zjh (nrm t) W K])=L4 at *
 have kst:∀ (i:Nat) (s:List Int) (x:Tr),i < (nrm t).Kids.length→(nrm t).Kids[i]? = some x→x∈(nrm t).Kids→(s.length:Int)=L4.length+(((nrm t).Kids.take i).map szK).sum →
   l.length+1+i * (W+K)+W+K≤s.length∧(s.length:Int)+(x.Kids.map sz).sum≤l.length+sz (nrm t)∧((lyK (l.length+1+i * (W+K)+W) x.Kids s).length:Int)=L4.length+(((nrm t).Kids.take (i+1)).map szK).sum:=fun i s x hi hx hm hI=>by
  obtain ⟨h1,h2⟩:=Zw4 (f:=szK) hx hq
  have h3:=Ut (f:=szK) (xs:=(nrm t).Kids.take i) fun y hy=>hq y (List.mem_of_mem_take hy)
  have h4:=Zai (m:=W+K) hi
  have h5:=(hwk' x hm).2
  have h8:szK x=(x.Kids.map sz).sum:=rfl
  have h6:l.length+1+i * (W+K)+W+x.Kids.length≤s.length:=by omega
  have h7:=Zsj (ks:=x.Kids) (hk x hm) h6 (by omega)
  exact ⟨by omega,by omega,by omega⟩
 have e1:Ji r=some (⟨2,0,0,0,7,(((nrm t).Kids.length * (W+K):Nat):Int),0,false⟩:Zs):=by
  unfold Ji
  rw [show Z0 r=some r.kind from rfl,Option.bind_some,Xk (by omega),cond_false,V1 hk9,cond_true,Zrf hw hm h9,Option.bind_some,hfr,Zb6,Option.bind_some,← hln,← kl]
  simp only
  rw [ec]
 have e2:Yt (⟨2,0,0,0,7,(((nrm t).Kids.length * (W+K):Nat):Int),0,false⟩:Zs)=some ((((nrm t).Kids.length * (W+K):Nat):Int)+1,true):=by
  unfold Yt
  simp only
  rw [Xk (a:=2) (b:=1) (by decide),cond_false,V1 (a:=2) (b:=2) rfl,cond_true,V1 (a:=7) (b:=7) rfl,cond_true,Z4 (by omega) (by omega)]
 rw [Zru hm.kd.symm (by omega),e1,Option.bind_some,e2,Option.bind_some]
 simp only
 rw [Xk (a:=2) (b:=1) (by decide),cond_false,cond_false,Option.bind_some,Z4 (x:=(l.length:Int) - (a:Int)) (by omega) (by omega),Z4 (by omega) (by omega),Z9r (by omega) (by omega) (by omega) (by omega) (by omega) (by omega),Option.bind_some,Z54 ha,Option.bind_some,Zuq ha,Z4 (by omega) (by omega)]
 have ev:((l.length:Int) - (a:Int) - 1) % 1073741824 * 4+1+7 * 4294967296+(((nrm t).Kids.length * (W+K):Nat):Int) * 34359738368=hd9 (nrm t) W K l a:=by unfold hd9;rfl
 simp only
 rw [ev,Z93]
 unfold Xc
 simp only
 rw [show Z0 r=some r.kind from rfl,Option.bind_some,Xk (by omega),cond_false,Xk (by omega),cond_false,V1 hk9,cond_true,Ydh]
 unfold V0
 rw [Zrf hw hm h9,Option.bind_some,hfr,Zb6,← hln,← kl]
 simp only
 have ez:((some (((nrm t).Kids.length:Nat):Int)).bind fun y5=>cond (decide (0 < y5)) ((some (((nrm t).Kids.length:Nat):Int)).bind fun y6=>(Qd (⟨1,y6,(W:Int),(K:Int),0,0,0,false⟩:Zs)).bind fun y7=>(Y2 (zs (Xu l (a:Int) (hd9 (nrm t) W K l a)) N) (l.length:Int)).bind fun x8=>some (Xu (zs (Xu l (a:Int) (hd9 (nrm t) W K l a)) N) (l.length:Int) y7.1)) (some (zs (Xu l (a:Int) (hd9 (nrm t) W K l a)) N)))=some (zs (Xu l (a:Int) (hd9 (nrm t) W K l a)++[Zjh (nrm t) W K]) N):=by
  rw [Option.bind_some]
  by_cases q:0 < (nrm t).Kids.length
  ·obtain ⟨v,hv⟩:=Z1u (l:=Xu l (a:Int) (hd9 (nrm t) W K l a)) (N:=N) (by omega)
   rw [l1] at hv
   rw [decide_eq_true (by omega),cond_true,Option.bind_some,Z7g (by omega) (by omega) (by omega) (by omega) (by omega) (by omega) (by omega),Option.bind_some,hv,Option.bind_some]
   have:=Z39 (N:=N) (l:=Xu l (a:Int) (hd9 (nrm t) W K l a)) (Zjh (nrm t) W K) (by omega)
   rw [l1] at this
   rw [← this]
   congr 2
   unfold Zjh
   omega
  have q0:(nrm t).Kids=[]:=List.length_eq_zero_iff.1 (by omega)
  rw [q0] at hfr'
  have hW0:W=0∧K=0:=by
   have:((0:Int),(0:Int))=((W:Int),(K:Int)):=hfr'
   rw [Prod.mk.injEq] at this
   omega
  have t0:Zjh (nrm t) W K=0:=by unfold Zjh;rw [hW0.1,hW0.2,q0];rfl
  rw [decide_eq_false (by omega),cond_false,t0]
  have:=Zn9 (N:=N) (n:=1) (l:=Xu l (a:Int) (hd9 (nrm t) W K l a)) (by omega)
  rw [List.replicate_one] at this
  rw [this]
 rw [ez,Option.bind_some,Option.bind_some]
 have st:∀ (i:Nat) (x:Tr),(nrm t).Kids[i]? = some x→∃ y,t.Kids[i]? = some y∧nrm y=x∧y.Kind=1∧(Yv A r (i:Int)).2=0∧MR A (Yv A r (i:Int)).1 y∧Fine y (d - 1):=fun i x hx=>by
  rw [ek] at hx
  obtain ⟨y,hy,hym,hxy⟩:=Z4v hx
  obtain ⟨a1,a2,_,_,a5⟩:=Z5b hm hk9 hy
  exact ⟨y,hy,hxy,a5,(hm.kid hy).1,(hm.kid hy).2,hf.kid hym⟩
 have a1:=(Zc3 (nrm t).Kids (fun i s=>(i,zs s N,(l.length:Int)+((((nrm t).Kids.length * (W+K):Nat):Int)+1))) (fun s=>(zs s N,(l.length:Int)+((((nrm t).Kids.length * (W+K):Nat):Int)+1))) (Jr (l.length:Int) r ((W:Int),(K:Int),0) ((nrm t).Kids.length:Int)) (fun (s:List Int) _ (x:Tr)=>s++x.Words++List.replicate (W+K - x.Words.length) 0) (fun i s=>s.length=l.length+1+i * (W+K)) (by omega) (fun i s x hi hx hmx hI=>by
  have h5:=(hwk' x hmx).1
  have h4:=Zai (m:=W+K) hi
  refine ⟨?_,by rw [List.length_append,List.length_append,List.length_replicate,hI,Nat.add_mul,Nat.one_mul];omega⟩
  obtain ⟨y,hy,rfl,y1,_,ym,yf⟩:=st i x hx
  unfold Jr
  simp only
  rw [Zb3 hi,cond_true,Zni hw hm.o,Option.bind_some,Zsk hw ym.o,Option.bind_some,← ym.ws,← Zkv y1,ei i hi,← hI,Z7f hw ym y1 (by omega) hN2,Option.bind_some]
  simp only
  rw [Zn9 (by rw [List.length_append];omega)]) (fun s _=>by
  unfold Jr
  simp only
  rw [Zbr,cond_false]) (Xu l (a:Int) (hd9 (nrm t) W K l a)++[Zjh (nrm t) W K]) (by rw [l3];omega)).1
 unfold cpW at hL4
 rw [a1,Option.bind_some,hL4,Option.bind_some]
 have e6:(l.length:Int)+((((nrm t).Kids.length * (W+K):Nat):Int)+1)=(L4.length:Int):=by omega
 have a2:=(Zc3 (nrm t).Kids (fun i s=>(i,zs s N,(s.length:Int))) (fun s=>(zs s N,(s.length:Int))) (Js (Zg (k+1)).2.2.1 (l.length:Int) r ((W:Int),(K:Int),0) ((nrm t).Kids.length:Int)) (fun (s:List Int) i (x:Tr)=>lyK (l.length+1+i * (W+K)+W) x.Kids s) (fun i s=>(s.length:Int)=L4.length+(((nrm t).Kids.take i).map szK).sum) (by omega) (fun i s x hi hx hmx hI=>by
  obtain ⟨b1,b2,b3⟩:=kst i s x hi hx hmx hI
  refine ⟨?_,b3⟩
  have b5:0≤(x.Kids.map sz).sum:=hq x hmx
  have h4:=Zai (m:=W+K) hi
  have hxk:=(hwk' x hmx).2
  obtain ⟨y,hy,rfl,y1,_,ym,yf⟩:=st i x hx
  have hle:(nrm y).Kids.length≤y.Kids.length:=by rw [Zi0 y1];exact Zd7 _ _
  obtain ⟨m,hm1,hm2,hm3,hm4⟩:∃ m:Nat,(if (y.Kids.length:Int) < (K:Int) then (y.Kids.length:Int) else (K:Int))=(m:Int)∧m≤y.Kids.length∧(nrm y).Kids.length≤m∧m≤K:=by
   by_cases q:y.Kids.length < K
   ·exact ⟨y.Kids.length,by rw [if_pos (by omega)],Nat.le_refl _,hle,by omega⟩
   exact ⟨K,by rw [if_neg (by omega)],by omega,hxk,Nat.le_refl _⟩
  have hsz:(((y.Kids.take m).map nrm).map sz).sum=((nrm y).Kids.map sz).sum:=by
   have:=Z05 y1 hm3
   rw [← this,List.map_map]
   rfl
  have b4:=Zrt hw ym (m:=m) hm2 (Zwd hw ym yf (.inl y1) m) (l:=s) (b:=l.length+1+i * (W+K)+W) (N:=N) (k:=k) (by omega) (by rw [hsz];omega) hN2 (fun j z _ hz=>hP i y hy j z hz)
  rw [Z4u y1 hm3] at b4
  unfold Js
  simp only
  have e:IntKind.i64.wrap (((l.length+1+i * (W+K):Nat):Int)+(W:Int))=((l.length+1+i * (W+K)+W:Nat):Int):=by rw [Z4 (by omega) (by omega)];omega
  rw [Zb3 hi,cond_true,Zni hw hm.o,Option.bind_some,Zb6,Option.bind_some,← ym.len,ei i hi,e,hm1,b4,Option.bind_some]) (fun s _=>by
  unfold Js
  simp only
  rw [Zbr,cond_false]) L4 (by simp)).1
 rw [e6,a2]
 rfl
theorem Z0x (hw:WS A.segments):∀ (n:Nat) (t:Tr) (r:Za) (d k:Nat),SizeOf.sizeOf t < n→MR A r t→Fine t d→¬ t.Kind=10→4 * SizeOf.sizeOf t < k→PT A k r t
 | 0,_,_,_,_,h,_,_,_,_=>by omega
 | n+1,t,r,d,k,h,hm,hf,h10,hk=>by
  have g:=Zff hf.rt
  have sp:=Zk9 t
  by_cases h0:t.Kind=0
  ·obtain ⟨j,rfl⟩:∃ j,k=j+1:=⟨k - 1,by omega⟩
   exact Yak hm h0 j
  have hri:=(Zbg hf.rt h0 h10).2.2.2
  have ih:t.Kind=1∨t.Kind=8→∀ j,k=j+3→∀ (i:Nat) (x:Tr),t.Kids[i]? = some x→PT A j (Yv A r (i:Int)).1 x:=fun h18 j hj i x hx=>by
   have hxm:=List.mem_of_getElem? hx
   exact Z0x hw n x _ (d - 1) j (by have:=Y8 hxm;omega) (hm.kid hx).2 (hf.kid hxm) (Za0 (by omega) (hri x hxm).2).1 (by have:=Y8 hxm;omega)
  by_cases h1:t.Kind=1
  ·obtain ⟨j,rfl⟩:∃ j,k=j+3:=⟨k - 3,by omega⟩
   exact Z6j hw hm hf h1 (ih (.inl h1) j rfl)
  by_cases h2:2≤t.Kind∧t.Kind≤7
  ·obtain ⟨j,rfl⟩:∃ j,k=j+2:=⟨k - 2,by omega⟩
   exact Yaj hw hm hf h2 j
  by_cases h8:t.Kind=8
  ·obtain ⟨j,rfl⟩:∃ j,k=j+3:=⟨k - 3,by omega⟩
   exact Yal hw hm hf h8 (ih (.inr h8) j rfl)
  have h9:t.Kind=9:=by omega
  obtain ⟨j,rfl⟩:∃ j,k=j+4:=⟨k - 4,by omega⟩
  refine Yai hw hm hf h9 fun i x hx jj y hy => ?_
  have hxm:=List.mem_of_getElem? hx
  have hym:=List.mem_of_getElem? hy
  have k1:=(Za0 (by omega) (hri x hxm).2).2 h9
  exact Z0x hw n y _ (d - 1 - 1) j (by have:=Y8 hxm;have:=Y8 hym;omega) ((hm.kid hx).2.kid hy).2 ((hf.kid hxm).kid hym) (Za0 (by omega) ((Zbg (hf.kid hxm).rt (by omega) (by omega)).2.2.2 y hym).2).1 (by have:=Y8 hxm;have:=Y8 hym;omega)
theorem Z5z (hw:WS A.segments) {r:Za} {t:Tr} (hm:MR A r t) (hf:Fine t 64) (h10:¬ t.Kind=10) (most:Int):Zag r most=some (if most≤sz (nrm t)∨131072≤sz (nrm t) then ([],3) else (ly (nrm t) [0] 0,0)):=by
 have hs:=Zr8 hf
 have hn:=Zoc hf h10
 unfold Zag
 rw [show Z0 r=some r.kind from rfl,Option.bind_some,← hm.kd,Xk h10,cond_false]
 have eb:∀ b:Int,(if 131072 < b then (131072:Int) else b)≤131072:=fun b=>by split <;> omega
 by_cases q:(if (131072:Int) < most then (131072:Int) else most) < 1
 ·have:Yu ⟨(if (131072:Int) < most then (131072:Int) else most)⟩ 1=some (3,⟨(if (131072:Int) < most then (131072:Int) else most)⟩):=by
   unfold Yu
   simp only
   rw [decide_eq_true q,cond_true]
  rw [this,Option.bind_some]
  simp only
  rw [show ((3:Int) != 0)=true from rfl,cond_true,if_pos]
  left
  split at q <;> omega
 have hb:=eb most
 generalize hM:(if (131072:Int) < most then (131072:Int) else most)=M at *
 have ht:Yu ⟨M⟩ 1=some (0,⟨M - 1⟩):=by
  unfold Yu
  simp only
  rw [decide_eq_false q,cond_false,Z4 (by omega) (by omega)]
 rw [ht,Option.bind_some]
 simp only
 rw [show ((0:Int) != 0)=false from rfl,cond_false]
 obtain ⟨e,l',m1',m2,m3⟩:=Z74 hw hm hf h10 (M - 1) (by omega) (by omega)
 have m1:Gh ⟨M - 1⟩ r=some (e,⟨l'⟩):=m1'
 rw [m1,Option.bind_some]
 simp only
 by_cases q2:sz (nrm t)≤M - 1
 ·obtain ⟨q3,q4⟩:=m2 q2
  subst q3
  have hp:=Z0x hw _ t r 64 (4 * SizeOf.sizeOf t+1) (Nat.lt_succ_self _) hm hf h10 (by omega)
  have hpt:Zbu ⟨zs [0] (1+sz (nrm t)).toNat,1⟩ 0 r=some ⟨zs (ly (nrm t) [0] 0) (1+sz (nrm t)).toNat,((ly (nrm t) [0] 0).length:Int)⟩ :=
   Zf5 (4 * SizeOf.sizeOf t+1) fun k hk=>Z0x hw _ t r 64 k (Nat.lt_succ_self _) hm hf h10 (by omega) [0] 0 (1+sz (nrm t)).toNat (by decide) (by simp only [List.length_singleton];omega) (by omega)
  have ln:=(Ya7 hn.f hn.k (by omega)).1
  have e2:List.replicate (1+sz (nrm t)).toNat (0:Int)=zs [0] (1+sz (nrm t)).toNat:=by
   unfold zs
   obtain ⟨m,hm⟩:∃ m,(1+sz (nrm t)).toNat=m+1:=⟨(sz (nrm t)).toNat,by omega⟩
   rw [hm,List.replicate_succ]
   rfl
  have e3:zs (ly (nrm t) [0] 0) (1+sz (nrm t)).toNat=ly (nrm t) [0] 0:=by
   unfold zs
   rw [show (1+sz (nrm t)).toNat - (ly (nrm t) [0] 0).length=0 by omega,List.replicate_zero,List.append_nil]
  have e4:M - l'=1+sz (nrm t):=by omega
  rw [show ((0:Int) != 0)=false from rfl,cond_false,e4,Z4 (by omega) (by omega),Zku (by omega) (by omega) (by omega),Option.bind_some,e2,hpt,Option.bind_some,e3,if_neg]
  rintro (h | h)
  ·split at hM <;> omega
  omega
 have q3:=m3 (by omega)
 subst q3
 rw [show ((3:Int) != 0)=true from rfl,cond_true,if_pos]
 split at hM <;> omega
end
theorem Z1k {l:List (List Int)} (hw:WS l) (x:Ya) (most:Int):Us l x most=some true:=by
 obtain ⟨w,hx⟩:=Z7y x
 unfold Us
 rw [hx,Option.bind_some]
 generalize (⟨x.Depth,w,x.MaxD,x.MaxOut⟩:Ya)=y
 rw [show Km l y=_ from Z61 (A:=⟨l,0,0⟩) hw y,Option.bind_some,Z5w]
 by_cases he:(Zjz ⟨l,0,0⟩ y).2.2=0
 ·obtain ⟨hf,hk,ha,hm⟩:=Z60 (A:=⟨l,0,0⟩) hw y he
  rw [he,show ((0:Int) != 0)=false from rfl,cond_false,Z66 hw,Option.bind_some,Z47 (A:=⟨l,0,0⟩) hw,Option.bind_some,Z5z (A:=⟨l,0,0⟩) hw hm hf hk,Option.bind_some,(Zx2 hf.bd hf.pt most).2.1,Option.bind_some,ha]
  have hl3:=(Zx2 hf.bd hf.pt most).2.2
  unfold enc at hl3 ⊢
  rw [if_neg (by rintro (q | q);exact hk q;rw [hf.rt] at q;cases q)] at hl3 ⊢
  by_cases q:most≤sz (nrm (Zjz ⟨l,0,0⟩ y).1)∨131072≤sz (nrm (Zjz ⟨l,0,0⟩ y).1)
  ·rw [if_pos q,if_pos q]
   have hs:Q7 ([]:List Int) []=some true:=by rw [Zw0 (by decide)];rfl
   simp [hs]
  rw [if_neg q] at hl3 ⊢
  rw [if_neg q]
  have hs:Q7 (ly (nrm (Zjz ⟨l,0,0⟩ y).1) [0] 0) (ly (nrm (Zjz ⟨l,0,0⟩ y).1) [0] 0)=some true:=by rw [Zw0 (by simp only at hl3;omega)];simp
  simp [hs]
 rw [bne_iff_ne.2 he,cond_true]
 rfl
end Go.Proofs.Ytnapihlnlajlpaa
