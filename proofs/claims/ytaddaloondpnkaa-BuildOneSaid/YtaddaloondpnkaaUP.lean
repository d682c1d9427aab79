/- Plain facts on this seat's mirrors (part UP); each theorem bears its own conditions. -/
import Derived.Test.YtaddaloondpnkaaUE
namespace Go.Proofs.Ytaddaloondpnkaa
open Go.RowKit
set_option linter.unusedVariables false
set_option linter.unusedSimpArgs false
abbrev Tr:=Zc
theorem Yv {x:Int} (h1:-9223372036854775808≤x) (h2:x≤9223372036854775807):IntKind.i64.wrap x=x:=Gp ⟨h1,h2⟩
theorem Yw {t x:Tr} (h:x∈t.Kids):SizeOf.sizeOf x < SizeOf.sizeOf t:=by
 obtain ⟨k,w,ks⟩:=t
 have:=List.sizeOf_lt_of_mem h
 simp only [Zc.mk.sizeOf_spec]
 simp only at this
 omega
theorem Z1x {α R:Type} (xs:List α) (step:Int→Option (Int ⊕ R)) (p:α→Bool) (e o:R) (hl:(xs.length:Int)≤140737488355328)
  (h1:∀ (i:Nat) (x:α),i < xs.length→xs[i]? = some x→x∈xs→step i=some (if p x=true then .inr e else .inl (IntKind.i64.wrap ((i:Int)+1)))) (h2:step xs.length=some (.inr o)):Zz step 0=some (if xs.any p=true then e else o):=by
 have hloop:=Z0x xs (fun i (_:Unit)=>i) step (fun _ x=>some (if p x=true then .inr e else .inl ())) (fun _=>o) (fun i s x hi hx=>by
  rw [h1 i x hi hx (List.mem_of_getElem? hx),Yv (by omega) (by omega)]
  cases p x <;> rfl) (fun _=>h2) ()
 refine hloop.trans ?_
 rw [Zra p (fun s _=>s) e (fun _ _=>True) xs.length xs () 0 (by omega) trivial (fun s k x _ _ _=>⟨by cases p x <;> rfl,fun _=>trivial⟩)]
theorem Zds {i n:Nat} (h:i < n):decide ((i:Int) < (n:Int))=true:=by rw [decide_eq_true_eq];omega
theorem Zdf {n:Nat}:decide ((n:Int) < (n:Int))=false:=by rw [decide_eq_false_iff_not];omega
def tr {α:Type} (p:α→Bool):List α→List α
 | []=>[]
 | x::xs=>match tr p xs with
  | []=>if p x=true then [] else [x]
  | y::ys=>x::y::ys
def trN {α:Type} (p:α→Bool) (l:List α):Nat→Nat
 | 0=>0
 | n+1=>match l[n]? with
  | some x=>if p x=true then trN p l n else n+1
  | none=>0
theorem Zqk {α:Type} {p:α→Bool} {x:α} (h:p x=true):∀ l:List α,tr p (l++[x])=tr p l
 | []=>by simp [tr,h]
 | y::l=>by simp only [List.cons_append,tr,Zqk h l]
theorem Zqj {α:Type} {p:α→Bool} {x:α} (h:p x=false):∀ l:List α,tr p (l++[x])=l++[x]
 | []=>by simp [tr,h]
 | y::l=>by
  simp only [List.cons_append,tr,Zqj h l]
  cases hl:l++[x] with
  | nil=>simp at hl
  | cons a b=>rfl
theorem Zy6 {α:Type} {p:α→Bool} {l:List α}:∀ n,n≤l.length→l.take (trN p l n)=tr p (l.take n)∧trN p l n≤n
 | 0,_=>by simp [trN,tr]
 | n+1,h=>by
  have hn:l[n]? = some l[n]:=List.getElem?_eq_getElem (by omega)
  have e:l.take (n+1)=l.take n++[l[n]]:=by rw [List.take_add_one,hn];rfl
  obtain ⟨h1,h2⟩:=Zy6 (p:=p) (l:=l) n (by omega)
  unfold trN
  rw [hn]
  simp only
  split
  ·rename_i hp
   rw [e,Zqk hp]
   exact ⟨h1,by omega⟩
  rename_i hp
  rw [e,Zqj (by simpa using hp),← e]
  exact ⟨rfl,Nat.le_refl _⟩
theorem Zob {α:Type} (p:α→Bool):∀ l:List α,(tr p l).length≤l.length
 | []=>by simp [tr]
 | x::l=>by
  have:=Zob p l
  simp only [tr]
  split
  ·split <;> simp
  rename_i y ys he
  rw [he] at this
  simp at this ⊢
  omega
theorem Zkh {α:Type} {p:α→Bool} {x:α}:∀ {l:List α},x∈tr p l→x∈l
 | [],h=>by simp [tr] at h
 | y::l,h=>by
  simp only [tr] at h
  split at h
  ·split at h
   ·simp at h
   simp at h;simp [h]
  rename_i z zs he
  rw [← he] at h
  rcases List.mem_cons.1 h with h | h
  ·simp [h]
  exact List.mem_cons_of_mem _ (Zkh h)
theorem Z0d {α:Type} {p:α→Bool}:∀ l:List α,tr p (tr p l)=tr p l
 | []=>rfl
 | x::l=>by
  have ih:=Z0d (p:=p) l
  simp only [tr]
  cases h:tr p l with
  | nil =>
   simp only
   cases hx:p x <;> simp [tr,hx]
  | cons y ys =>
   rw [h] at ih
   simp only [tr] at ih ⊢
   rw [ih]
theorem Zy8 {α β:Type} {p:α→Bool} {q:β→Bool} {f:α→β} (h:∀ x,q (f x)=p x):∀ l:List α,tr q (l.map f)=(tr p l).map f
 | []=>rfl
 | x::l=>by
  simp only [List.map_cons,tr,Zy8 h l]
  cases tr p l with
  | nil=>simp only [List.map_nil,h];split <;> rfl
  | cons y ys=>rfl
theorem Zzm {α:Type} (l:List α) (p:α→Bool) (step:Int→Option (Int ⊕ Int)) (hl:(l.length:Int)≤140737488355328)
  (h0:step 0=some (.inr 0)) (h1:∀ (n:Nat) (x:α),l[n]? = some x→n < l.length→step ((n+1:Nat):Int)=some (if p x=true then .inl (n:Int) else .inr ((n+1:Nat):Int))):Zz step (l.length:Int)=some (trN p l l.length:Int):=by
 have key:∀ n:Nat,n≤l.length→Zz step (n:Int)=some (trN p l n:Int):=fun n=>by
  induction n with
  | zero=>intro _;exact Jb h0
  | succ n ih =>
   intro hn
   have hx:l[n]? = some l[n]:=List.getElem?_eq_getElem (by omega)
   have h:=h1 n _ hx (by omega)
   unfold trN
   rw [hx]
   simp only
   split
   ·rename_i hp
    rw [if_pos hp] at h
    rw [Kq h]
    exact ih (by omega)
   rename_i hp
   rw [if_neg hp] at h
   exact Jb h
 exact key l.length (Nat.le_refl _)
theorem Zxo {α:Type} {l:List α} {n:Nat} (h:n≤l.length):Zlo l 0 (n:Int)=some (l.take n):=by
 rw [Z4a (by omega) (by omega) (by omega)]
 simp
theorem Z6o {n:Nat}:decide (0 < ((n+1:Nat):Int))=true:=by rw [decide_eq_true_eq];omega
theorem Zv2 {l:List Int} (hl:(l.length:Int)≤140737488355328):Vk l=some (tr (fun x=>x == 0) l):=by
 have hloop:=Zzm l (fun x=>x == 0) (Jl l) hl (by unfold Jl;rfl) (fun n x hx hn=>by
  unfold Jl
  rw [Z6o,cond_true,Yv (by omega) (by omega)]
  have e:((n+1:Nat):Int) - 1=(n:Int):=by omega
  rw [e,Yu hx]
  simp only [Option.bind_some,cond_true]
  cases x == 0 <;> rfl)
 obtain ⟨h1,h2⟩:=Zy6 (p:=fun x=>x == 0) (l:=l) l.length (Nat.le_refl _)
 unfold Vk
 rw [hloop,Option.bind_some,Zxo h2,Option.bind_some,h1,List.take_length]
theorem Zxs {l:List Tr} (hl:(l.length:Int)≤140737488355328):V2 l=some (tr (fun x=>x.Kind == 0) l):=by
 have hloop:=Zzm l (fun x=>x.Kind == 0) (J4 l) hl (by unfold J4;rfl) (fun n x hx hn=>by
  unfold J4
  rw [Z6o,cond_true,Yv (by omega) (by omega)]
  have e:((n+1:Nat):Int) - 1=(n:Int):=by omega
  rw [e,Yu hx]
  simp only [Option.bind_some,cond_true]
  cases x.Kind == 0 <;> rfl)
 obtain ⟨h1,h2⟩:=Zy6 (p:=fun x=>x.Kind == 0) (l:=l) l.length (Nat.le_refl _)
 unfold V2
 rw [hloop,Option.bind_some,Zxo h2,Option.bind_some,h1,List.take_length]
inductive Bd:Tr→Prop
 | mk (t:Tr) (h1:t.Words.length * 8≤140737488355328) (h2:t.Kids.length * 56≤140737488355328) (h3:∀ w∈t.Words,0≤w∧w < 18446744073709551616) (h4:∀ k∈t.Kids,Bd k):Bd t
theorem Bd.w {t:Tr} (h:Bd t):t.Words.length * 8≤140737488355328:=by cases h;assumption
theorem Bd.k {t:Tr} (h:Bd t):t.Kids.length * 56≤140737488355328:=by cases h;assumption
theorem Bd.u {t:Tr} (h:Bd t):∀ w∈t.Words,0≤w∧w < 18446744073709551616:=by cases h;assumption
theorem Bd.all {t:Tr} (h:Bd t):∀ k∈t.Kids,Bd k:=by cases h;assumption
def nrm (t:Tr):Tr :=
 if t.Kind=0 then ⟨0,[],[]⟩
 else if t.Kind=1 then ⟨1,tr (fun x=>x == 0) t.Words,tr (fun x=>x.Kind == 0) (t.Kids.attach.map fun k=>nrm k.1)⟩
 else ⟨t.Kind,t.Words,t.Kids.attach.map fun k=>nrm k.1⟩
termination_by SizeOf.sizeOf t
decreasing_by all_goals exact Yw k.2
theorem Zew (t:Tr):nrm t=if t.Kind=0 then ⟨0,[],[]⟩ else if t.Kind=1 then ⟨1,tr (fun x=>x == 0) t.Words,tr (fun x=>x.Kind == 0) (t.Kids.map nrm)⟩ else ⟨t.Kind,t.Words,t.Kids.map nrm⟩:=by
 rw [nrm]
 simp only [List.attach_map_val]
theorem Zdj (t:Tr):(nrm t).Kind=t.Kind:=by
 rw [Zew]
 split
 ·rename_i h;exact h.symm
 split
 ·rename_i h;exact h.symm
 rfl
theorem Z2p {α β:Type} {xs:List α} {f:α→β} {z:β} {i m:Nat} {x:α} (hi:i+(m+1)=xs.length) (hx:xs[i]? = some x) :
  ((xs.take i).map f++List.replicate (m+1) z).set i (f x)=(xs.take (i+1)).map f++List.replicate m z:=by
 have hl:((xs.take i).map f).length=i:=by rw [List.length_map,List.length_take];omega
 rw [List.set_append,if_neg (by omega),hl,Nat.sub_self,List.replicate_succ,List.set_cons_zero,List.take_add_one,hx]
 simp
theorem Z1y {α β:Type} (xs:List α) (f:α→β) (z:β) (step:Int×List β→Option ((Int×List β) ⊕ List β)) (hl:(xs.length:Int)≤140737488355328)
  (h1:∀ (i:Nat) (x:α) (out:List β) (y:β),i < xs.length→xs[i]? = some x→x∈xs→out[i]? = some y→step ((i:Int),out)=some (.inl (IntKind.i64.wrap ((i:Int)+1),Z9 out (i:Int) (f x))))
  (h2:∀ out,step ((xs.length:Int),out)=some (.inr out)):Zz step (0,List.replicate xs.length z)=some (xs.map f):=by
 have key:∀ m i,i+m=xs.length→Zz step ((i:Int),(xs.take i).map f++List.replicate m z)=some (xs.map f):=fun m=>by
  induction m with
  | zero =>
   intro i hi
   have hi':i=xs.length:=by omega
   subst hi'
   rw [List.take_length,List.replicate_zero,List.append_nil]
   exact Jb (h2 _)
  | succ m ih =>
   intro i hi
   have hx:xs[i]? = some xs[i]:=List.getElem?_eq_getElem (by omega)
   have hl':((xs.take i).map f).length=i:=by rw [List.length_map,List.length_take];omega
   have hy:((xs.take i).map f++List.replicate (m+1) z)[i]? = some z:=by
    rw [List.getElem?_append_right (by omega),hl',Nat.sub_self,List.replicate_succ];rfl
   have h:=h1 i _ _ z (by omega) hx (List.mem_of_getElem? hx) hy
   rw [Yv (by omega) (by omega)] at h
   rw [Kq h]
   unfold Z9
   rw [Int.toNat_natCast,Z2p (by omega) hx]
   exact ih (i+1) (by omega)
 have:=key xs.length 0 (by omega)
 simpa using this
theorem Zzr:∀ (k:Nat) (t:Tr),Bd t→SizeOf.sizeOf t < k→Jo k t=some (nrm t)
 | 0,t,_,h=>by omega
 | k+1,t,hb,hk=>by
  have ih:∀ x∈t.Kids,Jo k x=some (nrm x):=fun x hx=>Zzr k x (hb.all x hx) (by have:=Yw hx;omega)
  have hw:=hb.w
  have hkd:=hb.k
  show Zc8 (Jo k) t=_
  unfold Zc8
  rw [Zew]
  by_cases h0:t.Kind=0
  ·rw [if_pos h0,h0];rfl
  have e0:(t.Kind == 0)=false:=by rw [beq_eq_false_iff_ne];exact h0
  rw [if_neg h0,e0,cond_false]
  have main:∀ (w:List Int) (ks:List Tr),(ks.length:Int)≤140737488355328→(56:Int) * ks.length≤140737488355328→(∀ x∈ks,Jo k x=some (nrm x)) →
    ((cond (decide (0 < ((w,ks).2.length:Int))) ((Zdw 56 ((w,ks).2.length:Int) (⟨(0:Int),([]:(List Int)),([]:(List Zc))⟩:Zc)).bind fun l6=>some l6) (some ([]:List Zc))).bind fun (z5:(List Zc))=>(Zz (Vd (Jo k) (w,ks)) (0,z5)).bind fun (z14:(List Zc))=>some (⟨t.Kind,(w,ks).1,z14⟩:Zc))=some ⟨t.Kind,w,ks.map nrm⟩:=fun w ks h1 h2 hks=>by
   have hz:(cond (decide (0 < ((w,ks).2.length:Int))) ((Zdw 56 ((w,ks).2.length:Int) (⟨(0:Int),([]:(List Int)),([]:(List Zc))⟩:Zc)).bind fun l6=>some l6) (some ([]:List Zc)))=some (List.replicate ks.length (⟨0,[],[]⟩:Tr)):=by
    cases ks with
    | nil=>rfl
    | cons y ys =>
     have:decide (0 < (((w,y::ys).2.length:Nat):Int))=true:=by rw [decide_eq_true_eq];simp
     rw [this,cond_true,Zlb (Int.natCast_nonneg _) h2 h1,Option.bind_some,Int.toNat_natCast]
   rw [hz,Option.bind_some]
   rw [Z1y ks nrm _ (Vd (Jo k) (w,ks)) h1 (fun i x out z hi hx hm hz=>by
     unfold Vd
     simp only
     rw [Zds hi,cond_true,Yu hx,Option.bind_some,hks x hm,Option.bind_some,Yu hz,Option.bind_some]) (fun out=>by
     unfold Vd
     simp only
     rw [Zdf,cond_false]),Option.bind_some]
  by_cases h1:t.Kind=1
  ·have e1:(t.Kind == 1)=true:=by rw [beq_iff_eq];exact h1
   have l1:=Zob (fun x:Tr=>x.Kind == 0) t.Kids
   rw [if_pos h1,e1,cond_true,Zv2 (by omega),Option.bind_some,Zxs (by omega),Option.bind_some,Option.bind_some]
   rw [main _ _ (by omega) (by omega) (fun x hx=>ih x (Zkh hx)),Zy8 (fun x=>by rw [Zdj]),h1]
  have e1:(t.Kind == 1)=false:=by rw [beq_eq_false_iff_ne];exact h1
  rw [if_neg h1,e1,cond_false,Option.bind_some]
  exact main _ _ (by omega) (by omega) ih
theorem Zvj {t:Tr} (h:Bd t):Zgk t=some (nrm t):=Zpu (SizeOf.sizeOf t+1) fun k hk=>Zzr k t h (by omega)
theorem Zxr {α:Type} {p:α→Bool} {x:α} {l:List α} (h:tr p l=[]):tr p (x::l)=if p x=true then [] else [x]:=by simp only [tr,h]
theorem Zy7 {α:Type} {p:α→Bool} {x:α} {l:List α} (h:tr p l≠[]):tr p (x::l)=x::tr p l:=by
 simp only [tr]
 split
 ·rename_i h';exact absurd h' h
 rename_i h';rw [h']
theorem Z13:∀ (n:Nat) (t:Tr),SizeOf.sizeOf t < n→Bd t→Bd (nrm t)
 | 0,t,h,_=>by omega
 | n+1,t,hn,hb=>by
  have ih:∀ x∈t.Kids,Bd (nrm x):=fun x hx=>Z13 n x (by have:=Yw hx;omega) (hb.all x hx)
  have hw:=hb.w
  have hk:=hb.k
  rw [Zew]
  split
  ·exact .mk _ (by simp) (by simp) (fun w h=>by simp at h) (fun w h=>by simp at h)
  split
  ·have l1:=Zob (fun x:Int=>x == 0) t.Words
   have l2:=Zob (fun x:Tr=>x.Kind == 0) (t.Kids.map nrm)
   rw [List.length_map] at l2
   refine .mk _ (by simp only;omega) (Nat.le_trans (Nat.mul_le_mul_right 56 l2) hk) (fun w h=>hb.u w (Zkh h)) (fun x h => ?_)
   obtain ⟨y,hy,rfl⟩:=List.mem_map.1 (Zkh h)
   exact ih y hy
  refine .mk _ hw (by simp only [List.length_map];exact hk) hb.u (fun x h => ?_)
  obtain ⟨y,hy,rfl⟩:=List.mem_map.1 h
  exact ih y hy
theorem Bd.nrm {t:Tr} (h:Bd t):Bd (nrm t):=Z13 _ t (Nat.lt_succ_self _) h
theorem Zul:∀ (n:Nat) (t:Tr),SizeOf.sizeOf t < n→nrm (nrm t)=nrm t
 | 0,t,h=>by omega
 | n+1,t,hn=>by
  have ih:∀ x∈t.Kids,nrm (nrm x)=nrm x:=fun x hx=>Zul n x (by have:=Yw hx;omega)
  have em:∀ l:List Tr,(∀ x∈l,x∈t.Kids)→(l.map nrm).map nrm=l.map nrm:=fun l hl=>by
   rw [List.map_map]
   exact List.map_congr_left fun x hx=>ih x (hl x hx)
  rw [Zew t]
  by_cases h0:t.Kind=0
  ·rw [if_pos h0,Zew];simp
  rw [if_neg h0]
  by_cases h1:t.Kind=1
  ·rw [if_pos h1,Zew]
   simp only [if_neg (show ¬ (1:Int)=0 by decide),if_true]
   have q1:∀ l:List Tr,tr (fun x:Tr=>x.Kind == 0) (l.map nrm)=(tr (fun x:Tr=>x.Kind == 0) l).map nrm:=Zy8 (fun x=>by rw [Zdj])
   rw [Z0d,q1,Z0d,q1,em _ (fun x hx=>Zkh hx)]
  rw [if_neg h1,Zew]
  simp only
  rw [if_neg h0,if_neg h1,em _ (fun x hx=>hx)]
theorem Zqw (t:Tr):nrm (nrm t)=nrm t:=Zul _ t (Nat.lt_succ_self _)
theorem Zlc {t:Tr} (h:t.Kind=0):nrm t=⟨0,[],[]⟩:=by rw [Zew,if_pos h]
theorem Uy {t:Tr} (h:t.Kind=1):nrm t=⟨1,tr (fun x=>x == 0) t.Words,tr (fun x=>x.Kind == 0) (t.Kids.map nrm)⟩:=by rw [Zew,if_neg (by rw [h];decide),if_pos h]
theorem Zex {t:Tr} (h0:¬ t.Kind=0) (h1:¬ t.Kind=1):nrm t=⟨t.Kind,t.Words,t.Kids.map nrm⟩:=by rw [Zew,if_neg h0,if_neg h1]
theorem Zsf (t:Tr):0 < SizeOf.sizeOf t:=by
 obtain ⟨k,w,ks⟩:=t
 simp only [Zc.mk.sizeOf_spec]
 omega
def pt (t:Tr):Nat:=1+t.Words.length+(t.Kids.attach.map fun k=>pt k.1).sum
termination_by SizeOf.sizeOf t
decreasing_by exact Yw k.2
theorem Zkl (t:Tr):pt t=1+t.Words.length+(t.Kids.map pt).sum:=by
 rw [pt]
 simp only [List.attach_map_val]
theorem Zsd:∀ (k:Nat) (t:Tr) (d left:Int),Bd t→SizeOf.sizeOf t < k→0≤d→d≤100→0≤left→left≤1000000→∃ r,Yf k t d left=some r∧-1≤r∧r≤1000000∧(0≤r→r+pt t≤left)
 | 0,t,_,_,_,h,_,_,_,_=>by omega
 | k+1,t,d,left,hb,hk,hd0,hd1,hl0,hl1=>by
  have ih:∀ x∈t.Kids,∀ d left:Int,0≤d→d≤100→0≤left→left≤1000000→∃ r,Yf k x d left=some r∧-1≤r∧r≤1000000∧(0≤r→r+pt x≤left):=fun x hx d left=>Zsd k x d left (hb.all x hx) (by have:=Yw hx;omega)
  have hw:=hb.w
  have hkd:=hb.k
  show ∃ r,Y3 (Yf k) t d left=some r∧_
  unfold Y3
  rw [Yv (x:=left - 1) (by omega) (by omega),Yv (by omega) (by omega),Zkl]
  cases hc:cond (d == 0) true (decide (left - 1 - (t.Words.length:Int) < 0)) with
  | true=>exact ⟨-1,rfl,by omega,by omega,fun h=>by omega⟩
  | false =>
   rw [cond_false]
   have hd:¬ d=0∧0≤left - 1 - (t.Words.length:Int):=by
    by_cases h:d=0
    ·simp [h] at hc
    have e:(d == 0)=false:=by simp [h]
    rw [e,cond_false,decide_eq_false_iff_not] at hc
    exact ⟨h,by omega⟩
   obtain ⟨r,h1,h2⟩:=Zpe (step:=Y0 (Yf k) t d)
    (fun s=>∃ j:Nat,s.2=j∧j≤t.Kids.length∧-1≤s.1∧s.1≤1000000∧(0≤s.1→s.1+(((t.Kids.take j).map pt).sum:Nat)≤left - 1 - (t.Words.length:Int)))
    (fun s=>t.Kids.length - s.2.toNat) (fun r=>-1≤r∧r≤1000000∧(0≤r→r+((t.Kids.map pt).sum:Nat)≤left - 1 - (t.Words.length:Int))) (fun s hI=>by
     obtain ⟨l,i⟩:=s
     obtain ⟨j,rfl,hj,g1,g2,g3⟩:=hI
     simp only at g1 g2 g3 ⊢
     unfold Y0
     simp only
     by_cases hji:j < t.Kids.length
     ·rw [Zds hji,cond_true]
      by_cases hl:0≤l
      ·have e:decide (0≤l)=true:=by simp [hl]
       have hx:t.Kids[j]? = some t.Kids[j]:=List.getElem?_eq_getElem hji
       obtain ⟨r,q1,q2,q3,q4⟩:=ih t.Kids[j] (List.getElem_mem hji) (d - 1) l (by omega) (by omega) hl g2
       rw [e,cond_true,Yu hx,Option.bind_some,Yv (by omega) (by omega),q1,Option.bind_some,Yv (by omega) (by omega)]
       refine .inl ⟨_,rfl,⟨j+1,by simp only;omega,by omega,q2,q3,fun hr => ?_⟩,by simp only;omega⟩
       have:=q4 hr
       have:=g3 hl
       rw [List.take_add_one,hx]
       simp only [Option.toList_some,List.map_append,List.map_cons,List.map_nil,List.sum_append,List.sum_cons,List.sum_nil]
       simp only at hr
       omega
      have e:decide (0≤l)=false:=by simp [hl]
      rw [e,cond_false]
      exact .inr ⟨l,rfl,g1,g2,fun h=>absurd h hl⟩
     have hj':j=t.Kids.length:=by omega
     subst hj'
     rw [Zdf,cond_false]
     rw [List.take_length] at g3
     exact .inr ⟨l,rfl,g1,g2,g3⟩) (left - 1 - (t.Words.length:Int),0) ⟨0,rfl,Nat.zero_le _,by simp only;omega,by simp only;omega,fun _=>by simp⟩
   rw [h1]
   refine ⟨r,rfl,h2.1,h2.2.1,fun hr => ?_⟩
   have:=h2.2.2 hr
   omega
theorem Zui {α:Type} {xs:List α} {i:Int} {x:α} (h:Zx xs i=some x):x∈xs:=List.mem_of_getElem? (Zow h)
theorem Zpf:∀ (k k':Nat) (t:Tr) (d left:Int),SizeOf.sizeOf t < k→SizeOf.sizeOf t < k'→Yf k t d left=Yf k' t d left
 | 0,_,t,_,_,h,_=>by omega
 | k+1,0,t,_,_,_,h=>by omega
 | k+1,k'+1,t,d,left,h,h'=>by
  show Y3 (Yf k) t d left=Y3 (Yf k') t d left
  have e:Y0 (Yf k) t d=Y0 (Yf k') t d:=funext fun s=>by
   unfold Y0
   cases hx:Zx t.Kids s.2 with
   | none=>rfl
   | some x=>simp only [Option.bind_some,Zpf k k' x (IntKind.i64.wrap (d - 1)) s.1 (by have:=Yw (Zui hx);omega) (by have:=Yw (Zui hx);omega)]
  unfold Y3
  rw [e]
theorem Z5j {t:Tr} (h:Bd t):∃ b,Gg t=some b∧(b=true→pt t≤3000):=by
 obtain ⟨r,h1,h2,h3,h4⟩:=Zsd (SizeOf.sizeOf t+1) t 80 3000 h (by omega) (by omega) (by omega) (by omega) (by omega)
 have hr:Uw t 80 3000=some r:=Zpu (SizeOf.sizeOf t+1) fun k hk=>by rw [Zpf k (SizeOf.sizeOf t+1) t 80 3000 (by omega) (by omega)];exact h1
 unfold Gg
 rw [hr,Option.bind_some]
 refine ⟨_,rfl,fun hb => ?_⟩
 have:=h4 (by simpa using hb)
 have:0≤r:=by simpa using hb
 omega
theorem Vq {a b:Int} (h:¬ a=b):(a == b)=false:=by simp [h]
def Zru (w:Nat):Int:=if w / 4 % 1073741824 < 536870912 then ((w / 4 % 1073741824:Nat):Int) else ((w / 4 % 1073741824:Nat):Int) - 1073741824
def Zgq (w:Nat):Zw :=
 if w=0 then ⟨0,0,0,0,0,0,0,false⟩
 else if w % 4=0 then ⟨1,Zru w,(w / 4294967296 % 65536:Nat),(w / 281474976710656 % 65536:Nat),0,0,0,false⟩
 else if w % 4=1 then ⟨2,Zru w,0,0,(w / 4294967296 % 8:Nat),(w / 34359738368 % 536870912:Nat),0,false⟩
 else if w % 4=2 then ⟨3,(w / 8 % 536870912:Nat),0,0,0,0,(w / 4294967296 % 4294967296:Nat),decide (w / 4 % 2=1)⟩
 else ⟨4,0,0,0,0,0,0,false⟩
theorem Z12 (b:Nat):((2:Int) ^ b)=((2 ^ b:Nat):Int):=by simp
theorem Zlv (w f b:Nat) (hw:w < 18446744073709551616) (hf:f < 64) (hb:b≤40):Xe w f b=some ((w / 2 ^ f % 2 ^ b:Nat):Int):=by
 unfold Xe Q9
 rw [if_pos (Int.natCast_nonneg _),if_pos (Int.natCast_nonneg _)]
 simp only [Option.bind_some,Option.some.injEq]
 have hp:(2:Nat) ^ b≤1099511627776:=by have:=Nat.pow_le_pow_right (n:=2) (by decide) hb;simpa using this
 have h1:0 < (2:Nat) ^ b:=Nat.pow_pos (by decide)
 have e1:(min ((f:Int).toNat) 64)=f:=by omega
 have e2:(min ((b:Int).toNat) 64)=b:=by omega
 have hd:w / 2 ^ f < 18446744073709551616:=Nat.lt_of_le_of_lt (Nat.div_le_self _ _) hw
 have e3:((w:Int).fdiv ((2 ^ f:Nat):Int))=((w / 2 ^ f:Nat):Int):=by
  rw [Int.fdiv_eq_ediv_of_nonneg _ (Int.natCast_nonneg _),Int.natCast_ediv]
 rw [e1,e2,Z12,Z12,e3]
 clear e3
 generalize hq:2 ^ b=q at *
 generalize w / 2 ^ f=x at *
 rw [Int.one_mul,IntWalk.u64_in (q:Int) (by omega),IntWalk.u64_in ((q:Int) - 1) (by omega)]
 have e4:((q:Int) - 1)=((q - 1:Nat):Int):=by omega
 rw [e4,Zyk _ _ hd (by omega),← hq,Nat.and_two_pow_sub_one_eq_mod,hq]
 have:x % q < q:=Nat.mod_lt _ h1
 rw [IntWalk.u64_in _ (by omega),IntWalk.i64_in _ (by omega)]
theorem Z5z (w:Nat) (hw:w < 18446744073709551616):IntKind.i64.wrap ((IntKind.i32.wrap (IntKind.u32.wrap (w:Int))).fdiv (2 ^ min (Int.toNat 2) 32))=Zru w:=by
 have e:(2:Int) ^ min (Int.toNat 2) 32=4:=by decide
 rw [e,Int.fdiv_eq_ediv_of_nonneg _ (by decide),IntKind.wrap_u32,IntKind.wrap_i32]
 unfold Zru
 rw [IntWalk.i64_in _ (by omega)]
 split <;> omega
theorem Z16 (w:Nat) (hw:w < 18446744073709551616):Zbs w=some (Zru w):=congrArg some (Z5z w hw)
theorem Z79 (w:Nat) (hw:w < 18446744073709551616):IntKind.u64.wrap (Zbz .u64 w 3)=((w % 4:Nat):Int):=by
 have:=Zyk w 3 hw (by decide)
 rw [show ((3:Nat):Int)=3 from rfl] at this
 rw [this,show (3:Nat)=2 ^ 2 - 1 from rfl,Nat.and_two_pow_sub_one_eq_mod,IntWalk.u64_in _ (by omega)]
theorem Z8c (w:Nat) (hw:w < 18446744073709551616):(IntKind.u64.wrap (Zbz .u64 ((w:Int).fdiv (2 ^ min (Int.toNat 2) 64)) 1) == 1)=decide (w / 4 % 2=1):=by
 have e1:(2:Int) ^ min (Int.toNat 2) 64=4:=by decide
 have e2:((w:Int).fdiv 4)=((w / 4:Nat):Int):=by rw [Int.fdiv_eq_ediv_of_nonneg _ (by decide)];rfl
 have e3:=Zyk (w / 4) 1 (by omega) (by decide)
 rw [show ((1:Nat):Int)=1 from rfl,Nat.and_one_is_mod] at e3
 rw [e1,e2,e3,IntWalk.u64_in _ (by omega)]
 by_cases h:w / 4 % 2=1
 ·rw [h];decide
 have:w / 4 % 2=0:=by omega
 rw [this];decide
theorem Z28 (a:Nat) (b:Nat):((a:Int) == (b:Int))=decide (a=b):=by
 by_cases h:a=b
 ·subst h;simp
 simp [h,Int.natCast_inj]
theorem Z1f (w:Nat) (hw:w < 18446744073709551616):Zbr w=some (Zgq w):=by
 unfold Zbr
 have f1:Xe w 32 16=_:=Zlv w 32 16 hw (by decide) (by decide)
 have f2:Xe w 48 16=_:=Zlv w 48 16 hw (by decide) (by decide)
 have f3:Xe w 32 3=_:=Zlv w 32 3 hw (by decide) (by decide)
 have f4:Xe w 35 29=_:=Zlv w 35 29 hw (by decide) (by decide)
 have f5:Xe w 3 29=_:=Zlv w 3 29 hw (by decide) (by decide)
 have f6:Xe w 32 32=_:=Zlv w 32 32 hw (by decide) (by decide)
 have c0:((w:Int) == 0)=_:=Z28 w 0
 have c1:(((w % 4:Nat):Int) == 0)=_:=Z28 (w % 4) 0
 have c2:(((w % 4:Nat):Int) == 1)=_:=Z28 (w % 4) 1
 have c3:(((w % 4:Nat):Int) == 2)=_:=Z28 (w % 4) 2
 rw [Z79 w hw,Z16 w hw,f1,f2,f3,f4,f5,f6,Z8c w hw,c0,c1,c2,c3]
 simp only [Option.bind_some]
 unfold Zgq
 by_cases h0:w=0
 ·simp [h0]
 by_cases h1:w % 4=0
 ·simp [h0,h1]
 by_cases h2:w % 4=1
 ·simp [h0,h2]
 by_cases h3:w % 4=2
 ·simp [h0,h3]
 simp [h0,h1,h2,h3]
theorem Zlg (k a b:Nat) (h:a < 2 ^ k):a ||| (b * 2 ^ k)=a+b * 2 ^ k:=by
 rw [Nat.or_comm,Nat.mul_comm,← Nat.two_pow_add_eq_or_of_lt h,Nat.add_comm]
def Zvf (p:Zw):Int :=
 if p.Kind=1 then IntKind.u64.wrap (Ug .u64 (IntKind.u64.wrap (Ug .u64 (IntKind.u64.wrap (IntKind.u32.wrap (IntKind.u32.wrap p.Off * 2 ^ min (Int.toNat 2) 32))) (IntKind.u64.wrap (IntKind.u64.wrap p.Data * 2 ^ min (Int.toNat 32) 64)))) (IntKind.u64.wrap (IntKind.u64.wrap p.Ptrs * 2 ^ min (Int.toNat 48) 64)))
 else if p.Kind=2 then IntKind.u64.wrap (Ug .u64 (IntKind.u64.wrap (Ug .u64 (IntKind.u64.wrap (Ug .u64 1 (IntKind.u64.wrap (IntKind.u32.wrap (IntKind.u32.wrap p.Off * 2 ^ min (Int.toNat 2) 32))))) (IntKind.u64.wrap (IntKind.u64.wrap p.Code * 2 ^ min (Int.toNat 32) 64)))) (IntKind.u64.wrap (IntKind.u64.wrap p.Count * 2 ^ min (Int.toNat 35) 64)))
 else if p.Kind=3 then
  if p.Double=true then IntKind.u64.wrap (Ug .u64 (IntKind.u64.wrap (Ug .u64 (IntKind.u64.wrap (Ug .u64 2 (IntKind.u64.wrap (IntKind.u64.wrap p.Off * 2 ^ min (Int.toNat 3) 64)))) (IntKind.u64.wrap (IntKind.u64.wrap p.Segment * 2 ^ min (Int.toNat 32) 64)))) 4)
  else IntKind.u64.wrap (Ug .u64 (IntKind.u64.wrap (Ug .u64 2 (IntKind.u64.wrap (IntKind.u64.wrap p.Off * 2 ^ min (Int.toNat 3) 64)))) (IntKind.u64.wrap (IntKind.u64.wrap p.Segment * 2 ^ min (Int.toNat 32) 64)))
 else 0
theorem Z6s (p:Zw):Zg8 p=some (Zvf p):=by
 unfold Zg8 Zvf
 by_cases h1:p.Kind=1
 ·simp [h1]
 by_cases h2:p.Kind=2
 ·simp [h2]
 by_cases h3:p.Kind=3
 ·by_cases hd:p.Double=true <;> simp [h3,hd]
 simp [h1,h2,h3,Vq h1,Vq h2,Vq h3]
theorem Zv7 (x:Int):∃ w:Nat,IntKind.u64.wrap x=(w:Int)∧w < 18446744073709551616:=by
 refine ⟨(x % 18446744073709551616).toNat,?_,by omega⟩
 simp [IntKind.wrap,IntKind.bits,IntKind.signed]
 omega
theorem Z1u (p:Zw):∃ w:Nat,Zvf p=(w:Int)∧w < 18446744073709551616:=by
 unfold Zvf
 split
 ·exact Zv7 _
 split
 ·exact Zv7 _
 split
 ·split <;> exact Zv7 _
 exact ⟨0,rfl,by decide⟩
theorem Z57 (x:Nat) (h:x < 18446744073709551616):IntKind.u64.wrap (x:Int)=(x:Int):=IntWalk.u64_in _ (by omega)
theorem Z2y (w:Nat):IntKind.u64.wrap (IntKind.u32.wrap (IntKind.u32.wrap (Zru w) * 2 ^ min (Int.toNat 2) 32))=((w / 4 % 1073741824 * 2 ^ 2:Nat):Int):=by
 have e:(2:Int) ^ min (Int.toNat 2) 32=4:=by decide
 rw [e,IntKind.wrap_u32,IntKind.wrap_u32]
 unfold Zru
 rw [IntWalk.u64_in _ (by omega)]
 split <;> omega
theorem Zij (x y:Nat) (hx:x < 18446744073709551616) (hy:y < 18446744073709551616):IntKind.u64.wrap (Ug .u64 x y)=((x ||| y:Nat):Int):=by
 rw [Z6t x y hx hy,Z57 _ (by have:=Nat.or_lt_two_pow (n:=64) (show x < 2 ^ 64 by omega) (show y < 2 ^ 64 by omega);omega)]
theorem Zuv (x k:Nat) (hx:x < 18446744073709551616) (hk:k≤64) (h:x * 2 ^ k < 18446744073709551616):IntKind.u64.wrap (IntKind.u64.wrap (x:Int) * 2 ^ min (Int.toNat (k:Int)) 64)=((x * 2 ^ k:Nat):Int):=by
 have e:min (Int.toNat (k:Int)) 64=k:=by omega
 have e2:((x:Int) * (2:Int) ^ k)=((x * 2 ^ k:Nat):Int):=by simp
 rw [Z57 x hx,e,e2,Z57 _ h]
theorem Z3l (w:Nat) (hw:w < 18446744073709551616) (h3:¬ (Zgq w).Kind=4):Zvf (Zgq w)=(w:Int):=by
 by_cases h0:w=0
 ·subst h0;rfl
 by_cases h1:w % 4=0
 ·have e:Zgq w=⟨1,Zru w,(w / 4294967296 % 65536:Nat),(w / 281474976710656 % 65536:Nat),0,0,0,false⟩:=by simp [Zgq,h0,h1]
  rw [e]
  unfold Zvf
  rw [if_pos rfl]
  simp only
  have s1:=Zuv (w / 4294967296 % 65536) 32 (by omega) (by decide) (by omega)
  have s2:=Zuv (w / 281474976710656 % 65536) 48 (by omega) (by decide) (by omega)
  rw [show ((32:Nat):Int)=32 from rfl] at s1
  rw [show ((48:Nat):Int)=48 from rfl] at s2
  rw [Z2y,s1,s2,Zij _ _ (by omega) (by omega),Zlg 32 _ _ (by omega),Zij _ _ (by omega) (by omega),Zlg 48 _ _ (by omega)]
  omega
 by_cases h2:w % 4=1
 ·have e:Zgq w=⟨2,Zru w,0,0,(w / 4294967296 % 8:Nat),(w / 34359738368 % 536870912:Nat),0,false⟩:=by simp [Zgq,h0,h1,h2]
  rw [e]
  unfold Zvf
  rw [if_neg (by simp),if_pos rfl]
  simp only
  have s1:=Zuv (w / 4294967296 % 8) 32 (by omega) (by decide) (by omega)
  have s2:=Zuv (w / 34359738368 % 536870912) 35 (by omega) (by decide) (by omega)
  rw [show ((32:Nat):Int)=32 from rfl] at s1
  rw [show ((35:Nat):Int)=35 from rfl] at s2
  have l1:=Zij 1 (w / 4 % 1073741824 * 2 ^ 2) (by decide) (by omega)
  rw [show ((1:Nat):Int)=1 from rfl,Zlg 2 1 _ (by decide)] at l1
  rw [Z2y,s1,s2,l1,Zij _ _ (by omega) (by omega),Zlg 32 _ _ (by omega),Zij _ _ (by omega) (by omega),Zlg 35 _ _ (by omega)]
  omega
 by_cases h4:w % 4=2
 ·have e:Zgq w=⟨3,(w / 8 % 536870912:Nat),0,0,0,0,(w / 4294967296 % 4294967296:Nat),decide (w / 4 % 2=1)⟩:=by simp [Zgq,h0,h1,h2,h4]
  rw [e]
  unfold Zvf
  rw [if_neg (by simp),if_neg (by simp),if_pos rfl]
  simp only
  have s1:=Zuv (w / 8 % 536870912) 3 (by omega) (by decide) (by omega)
  have s2:=Zuv (w / 4294967296 % 4294967296) 32 (by omega) (by decide) (by omega)
  rw [show ((3:Nat):Int)=3 from rfl] at s1
  rw [show ((32:Nat):Int)=32 from rfl] at s2
  have l1:=Zij 2 (w / 8 % 536870912 * 2 ^ 3) (by decide) (by omega)
  rw [show ((2:Nat):Int)=2 from rfl,Zlg 3 2 _ (by decide)] at l1
  rw [s1,s2,l1,Zij _ _ (by omega) (by omega),Zlg 32 _ _ (by omega)]
  by_cases hb:w / 4 % 2=1
  ·rw [if_pos (by simpa using hb)]
   have l2:=Zij (2+w / 8 % 536870912 * 2 ^ 3+w / 4294967296 % 4294967296 * 2 ^ 32) 4 (by omega) (by decide)
   rw [show ((4:Nat):Int)=4 from rfl] at l2
   rw [l2]
   have:(2+w / 8 % 536870912 * 2 ^ 3+w / 4294967296 % 4294967296 * 2 ^ 32) ||| 4=2+w / 8 % 536870912 * 2 ^ 3+w / 4294967296 % 4294967296 * 2 ^ 32+4:=by
    have e1:2+w / 8 % 536870912 * 2 ^ 3+w / 4294967296 % 4294967296 * 2 ^ 32=2 ^ 3 * (w / 8 % 536870912+w / 4294967296 % 4294967296 * 2 ^ 29)+2:=by omega
    rw [e1]
    generalize w / 8 % 536870912+w / 4294967296 % 4294967296 * 2 ^ 29=q
    conv=>lhs;rw [Nat.two_pow_add_eq_or_of_lt (by decide),Nat.or_assoc,show (2 ||| 4:Nat)=6 from rfl,← Nat.two_pow_add_eq_or_of_lt (by decide)]
   rw [this]
   omega
  rw [if_neg (by simpa using hb)]
  omega
 exact absurd (by simp [Zgq,h0,h1,h2,h4]) h3
theorem Z33 (p q:Zw):((p.Kind == q.Kind) && ((p.Off == q.Off) && ((p.Data == q.Data) && ((p.Ptrs == q.Ptrs) && ((p.Code == q.Code) && ((p.Count == q.Count) && ((p.Segment == q.Segment) && (p.Double == q.Double))))))))=true↔p=q:=by
 cases p;cases q
 simp [and_assoc]
open Classical in
/-- what 'Encode' tells -/
theorem Z1h (p:Zw):∃ w:Nat,w < 18446744073709551616∧Zvf p=(w:Int)∧X6 p=some ((w:Int),decide (p.Kind≠4∧Zgq w=p)):=by
 obtain ⟨w,hw,hlt⟩:=Z1u p
 refine ⟨w,hlt,hw,?_⟩
 unfold X6
 rw [Z6s,hw]
 simp only [Option.bind_some,Z1f w hlt]
 by_cases h4:p.Kind=4
 ·simp [h4]
 have hk:(p.Kind != 4)=true:=by simp [h4]
 rw [hk]
 simp only [cond_true,Option.bind_some,Option.some.injEq,Prod.mk.injEq,true_and]
 rw [Bool.eq_iff_iff,Z33]
 simp [h4]
theorem Zmo (w:Nat) (hw:w < 18446744073709551616) (h:¬ (Zgq w).Kind=4):X6 (Zgq w)=some ((w:Int),true):=by
 obtain ⟨v,hv,h1,h2⟩:=Z1h (Zgq w)
 have:v=w:=by have:=Z3l w hw h;omega
 subst this
 rw [h2]
 simp [h]
def wid (c:Int):Nat:=if c=0 then 0 else if c=1 then 1 else if c=2 then 8 else if c=3 then 16 else if c=4 then 32 else 64
def Zbj (c w:Int):Bool:=decide (w < 2 ^ wid c)
theorem Zq7 {c:Int} (h0:0≤c) (h1:c≤5):c=0∨c=1∨c=2∨c=3∨c=4∨c=5:=by omega
theorem Zxt {c w:Int} (h0:0≤c) (h1:c≤5) (hw:0≤w):Za6 c w=some (Zbj c w):=by
 have key:∀ n:Nat,n≤64→(Int.fdiv w (2 ^ min (Int.toNat (n:Int)) 64) == 0)=decide (w < 2 ^ n):=fun n hn=>by
  rw [Int.toNat_natCast,Nat.min_eq_left hn,Int.fdiv_eq_ediv_of_nonneg _ (Int.le_of_lt (Int.pow_pos (by decide)))]
  have hp:(0:Int) < 2 ^ n:=Int.pow_pos (by decide)
  rw [Bool.eq_iff_iff,beq_iff_eq,decide_eq_true_eq]
  constructor
  ·intro h
   rcases Int.lt_or_le w (2 ^ n) with h2 | h2
   ·exact h2
   have:=Int.ediv_le_ediv hp h2
   rw [Int.ediv_self (Int.ne_of_gt hp)] at this
   omega
  intro h;exact Int.ediv_eq_zero_of_lt hw h
 have e:∀ n:Nat,n≤64→(some (((n:Int),true):Int×Bool)).bind (fun y2=>(cond y2.2 ((Q9 (0≤y2.1)).bind fun u5=>some (cond y2.2 ((Int.fdiv w (2 ^ min (Int.toNat y2.1) 64)) == 0) false)) (some false)).bind fun (z4:Bool)=>some z4)=some (decide (w < 2 ^ n)):=fun n hn=>by
  rw [Option.bind_some]
  simp only [cond_true]
  rw [Ge (by omega),Option.bind_some,Option.bind_some,key n hn]
 unfold Za6 Zbj
 rcases Zq7 h0 h1 with rfl | rfl | rfl | rfl | rfl | rfl
 ·exact e 0 (by decide)
 ·exact e 1 (by decide)
 ·exact e 8 (by decide)
 ·exact e 16 (by decide)
 ·exact e 32 (by decide)
 exact e 64 (by decide)
theorem Zys (n:Nat) (hn:n≤64) (w:Int) (h0:0≤w) (h1:w < 18446744073709551616):Zz (Xm (n:Int)) (w,0)=some (w / 2 ^ n):=by
 have key:∀ m i:Nat,i+m=n→Zz (Xm (n:Int)) (w / 2 ^ i,(i:Int))=some (w / 2 ^ n):=fun m=>by
  induction m with
  | zero =>
   intro i hi
   have:i=n:=by omega
   subst this
   refine Jb ?_
   unfold Xm
   simp only
   rw [Zdf,cond_false]
  | succ m ih =>
   intro i hi
   have hp:(0:Int) < 2 ^ i:=Int.pow_pos (by decide)
   have q0:0≤w / 2 ^ i:=Int.ediv_nonneg h0 (Int.le_of_lt hp)
   have q1:w / 2 ^ i≤w:=Int.ediv_le_self _ h0
   have hs:Xm (n:Int) (w / 2 ^ i,(i:Int))=some (.inl (w / 2 ^ (i+1),((i+1:Nat):Int))):=by
    unfold Xm
    simp only
    rw [Zds (by omega),cond_true,Yv (by omega) (by omega),Int.tdiv_eq_ediv_of_nonneg q0]
    have e:w / 2 ^ i / 2=w / 2 ^ (i+1):=by rw [Int.ediv_ediv_of_nonneg (Int.le_of_lt hp),Int.pow_succ]
    have q2:0≤w / 2 ^ i / 2:=Int.ediv_nonneg q0 (by decide)
    have q3:w / 2 ^ i / 2≤w / 2 ^ i:=Int.ediv_le_self _ q0
    have e3:IntKind.u64.wrap (w / 2 ^ i / 2)=w / 2 ^ i / 2:=by
     exact Z9t ⟨q2,by omega⟩
    rw [e3,e]
    rfl
   rw [Kq hs]
   exact ih (i+1) (by omega)
 have:=key n 0 (by omega)
 simpa using this
theorem Zxl {c w:Int} (h0:0≤c) (h1:c≤5) (hw:0≤w) (hw':w < 18446744073709551616):Zbp c w=some (Zbj c w):=by
 have e:∀ n:Nat,n≤64→(cond (decide ((n:Int) < 0)) (some false) ((Zz (Xm (n:Int)) (w,0)).bind fun (z4:Int)=>some (z4 == 0)))=some (decide (w < 2 ^ n)):=fun n hn=>by
  have:decide ((n:Int) < 0)=false:=by rw [decide_eq_false_iff_not];omega
  have hp:(0:Int) < 2 ^ n:=Int.pow_pos (by decide)
  rw [this,cond_false,Zys n hn w hw hw',Option.bind_some]
  congr 1
  rw [Bool.eq_iff_iff,beq_iff_eq,decide_eq_true_eq]
  constructor
  ·intro h
   rcases Int.lt_or_le w (2 ^ n) with h2 | h2
   ·exact h2
   have:=Int.ediv_le_ediv hp h2
   rw [Int.ediv_self (Int.ne_of_gt hp)] at this
   omega
  intro h;exact Int.ediv_eq_zero_of_lt hw h
 unfold Zbp Zbj
 rcases Zq7 h0 h1 with rfl | rfl | rfl | rfl | rfl | rfl
 ·exact e 0 (by decide)
 ·exact e 1 (by decide)
 ·exact e 8 (by decide)
 ·exact e 16 (by decide)
 ·exact e 32 (by decide)
 exact e 64 (by decide)
def okk (kind:Int) (k:Tr):Bool:=if 2≤kind∧kind≤7 then k.Kind == 10 && Zbj (kind - 2) (k.Words.headD 0) else k.Kind != 10 && (kind != 9 || k.Kind == 1)
def rt (t:Tr) (d:Nat):Bool :=
 if t.Kind=0 then t.Words.length == 0 && t.Kids.length == 0
 else if t.Kind=10 then t.Words.length == 1 && t.Kids.length == 0
 else if t.Kind < 0∨10 < t.Kind∨d=0∨65536≤t.Words.length∨(t.Kind=1∧65536≤t.Kids.length)∨1048576≤t.Kids.length∨(1 < t.Kind∧0 < t.Words.length) then false
 else (t.Kids.attach.map fun k=>rt k.1 (d - 1) && okk t.Kind k.1).all id
termination_by SizeOf.sizeOf t
decreasing_by exact Yw k.2
theorem Zgl (t:Tr) (d:Nat):rt t d=if t.Kind=0 then t.Words.length == 0 && t.Kids.length == 0
 else if t.Kind=10 then t.Words.length == 1 && t.Kids.length == 0
 else if t.Kind < 0∨10 < t.Kind∨d=0∨65536≤t.Words.length∨(t.Kind=1∧65536≤t.Kids.length)∨1048576≤t.Kids.length∨(1 < t.Kind∧0 < t.Words.length) then false
 else t.Kids.all fun k=>rt k (d - 1) && okk t.Kind k:=by
 rw [rt]
 have:(t.Kids.attach.map fun k=>rt k.1 (d - 1) && okk t.Kind k.1)=t.Kids.map fun k=>rt k (d - 1) && okk t.Kind k:=List.attach_map_val (f:=fun k=>rt k (d - 1) && okk t.Kind k)
 rw [this,List.all_map]
 rfl
theorem Z36 {t:Tr} (h:t.Kind=10) (d d':Nat):rt t d=rt t d':=by
 have h0:¬ t.Kind=0:=by rw [h];decide
 rw [Zgl t d,Zgl t d']
 simp only [if_neg h0,if_pos h]
theorem Zur {t:Tr} (h:t.Kind=10) {d:Nat} (hr:rt t d=true):∃ w,t.Words=[w]:=by
 rw [Zgl,if_neg (by omega),if_pos h,Bool.and_eq_true,beq_iff_eq] at hr
 obtain ⟨k,w,ks⟩:=t
 obtain ⟨h1,_⟩:=hr
 simp only at h1 ⊢
 exact List.length_eq_one_iff.1 h1
theorem Z5q {n:Nat}:((n:Int) == 0)=(n == 0):=by rw [Bool.eq_iff_iff,beq_iff_eq,beq_iff_eq];omega
theorem Z8e {n:Nat}:((n:Int) == 1)=(n == 1):=by rw [Bool.eq_iff_iff,beq_iff_eq,beq_iff_eq];omega
theorem Zol (a b:Bool):cond a b false=(a && b):=by cases a <;> rfl
theorem Zzd {α:Type} (p:α→Bool):∀ l:List α,l.any (fun x => !p x) = !(l.all p)
 | []=>rfl
 | x::l=>by rw [List.any_cons,List.all_cons,Zzd p l];cases p x <;> rfl
theorem Zrs {α R:Type} (xs:List α) (step:Int→Option (Int ⊕ R)) (p:α→Bool) (e o:R) (hl:(xs.length:Int)≤140737488355328)
  (h1:∀ (i:Nat) (x:α),i < xs.length→xs[i]? = some x→x∈xs→step i=some (if p x=true then .inl (IntKind.i64.wrap ((i:Int)+1)) else .inr e)) (h2:step xs.length=some (.inr o)):Zz step 0=some (if xs.all p=true then o else e):=by
 rw [Z1x xs step (fun x => !p x) e o hl (fun i x hi hx hm=>by rw [h1 i x hi hx hm];cases p x <;> rfl) h2,Zzd]
 cases xs.all p <;> rfl
theorem Z3n (n:Int):Zdg n=some (decide (2≤n) && decide (n≤9)):=by unfold Zdg;rw [Zol]
theorem Zyx {l:List Tr} (hl:(l.length:Int)≤140737488355328):Kp l=some (l.all fun x=>x.Kind == 1):=by
 unfold Kp
 rw [Zrs l (Ja l) (fun x=>x.Kind == 1) (.inl ()) (.inr ()) hl (fun i x hi hx hm=>by
  unfold Ja
  rw [Zds hi,cond_true,Yu hx,Option.bind_some]
  simp only [bne]
  cases x.Kind == 1 <;> rfl) (by unfold Ja;rw [Zdf];rfl),Option.bind_some]
 cases l.all fun x=>x.Kind == 1 <;> rfl
theorem Zzc {α:Type} (p q:α→Bool):∀ l:List α,(l.all fun x=>p x && q x)=(l.all p && l.all q)
 | []=>rfl
 | x::l=>by rw [List.all_cons,List.all_cons,List.all_cons,Zzc p q l];cases p x <;> cases q x <;> cases l.all p <;> cases l.all q <;> rfl
theorem Zud {α:Type} {p q:α→Bool}:∀ {l:List α},(∀ x∈l,p x=q x)→l.all p=l.all q
 | [],_=>rfl
 | x::l,h=>by rw [List.all_cons,List.all_cons,h x (.head _),Zud fun y hy=>h y (.tail _ hy)]
def rq (t:Tr) (d:Nat):Bool:=rt t d && t.Kind != 10
def ra (c:Int) (x:Tr):Bool:=x.Kind == 10 && (rt x 64 && Zbj c (x.Words.headD 0))
theorem Zxm:∀ (k:Nat),(∀ t:Tr,Bd t→(2 * SizeOf.sizeOf t+1 < k∨(t.Kind=10∧0 < k))→(Zn k).1 t=some (rt t 64)) ∧
  (∀ (t:Tr) (d:Nat),Bd t→2 * SizeOf.sizeOf t < k→d≤64→(Zn k).2.1 t (d:Int)=some (rq t d)) ∧
  (∀ (l:List Tr) (d:Nat),(∀ x∈l,Bd x∧2 * SizeOf.sizeOf x+1 < k)→(l.length:Int)≤140737488355328→d≤64→1≤k→(Zn k).2.2.1 l (d:Int)=some (l.all fun x=>rq x d)) ∧
  (∀ (l:List Tr) (c:Int),(∀ x∈l,Bd x)→(l.length:Int)≤140737488355328→0≤c→c≤5→2≤k→(Zn k).2.2.2 l c=some (l.all (ra c)))
 | 0=>⟨fun t _ h=>by omega,fun t d _ h=>by omega,fun l d _ _ _ h=>by omega,fun l c _ _ _ _ h=>by omega⟩
 | k+1=>by
  obtain ⟨i1,i2,i3,i4⟩:=Zxm k
  refine ⟨fun t hb hk => ?_,fun t d hb hk hd => ?_,fun l d hl hn hd hk => ?_,fun l c hl hn h0 h5 hk => ?_⟩
  ·show Zbf (Zn k).1 (Zn k).2.1 (Zn k).2.2.1 (Zn k).2.2.2 t=_
   unfold Zbf
   rw [Z5q,Z8e]
   by_cases h10:t.Kind=10
   ·have e:(t.Kind == 10)=true:=by simp [h10]
    rw [e,cond_true,Zol,Zgl,if_neg (by rw [h10];decide),if_pos h10]
   have e:(t.Kind == 10)=false:=by simp [h10]
   have e2:(t.Kind != 10)=true:=by simp [h10]
   have:=i2 t 64 hb (by rcases hk with hk | hk;omega;exact absurd hk.1 h10) (by decide)
   rw [e,cond_false,show (64:Int)=((64:Nat):Int) from rfl,this,Option.bind_some]
   unfold rq
   rw [e2,Bool.and_true]
  ·have hkd:=hb.k
   have hw:=hb.w
   show Zbg (Zn k).1 (Zn k).2.1 (Zn k).2.2.1 (Zn k).2.2.2 t (d:Int)=_
   unfold Zbg rq
   rw [Z5q,Z5q,Zgl]
   by_cases h0:t.Kind=0
   ·have e:(t.Kind == 0)=true:=by simp [h0]
    have e2:(t.Kind != 10)=true:=by rw [h0];rfl
    rw [e,e2,cond_true,Zol,if_pos h0,Bool.and_true]
   have e0:(t.Kind == 0)=false:=by simp [h0]
   rw [e0,cond_false,if_neg h0]
   by_cases hd0:d=0
   ·subst hd0
    have e:(((0:Nat):Int) == 0)=true:=rfl
    rw [e,cond_true]
    by_cases h10:t.Kind=10
    ·simp [h10]
    rw [if_neg h10,if_pos (by omega),Bool.false_and]
   have ed:((d:Int) == 0)=false:=by rw [beq_eq_false_iff_ne];omega
   rw [ed,cond_false]
   obtain ⟨d',rfl⟩:∃ d',d=d'+1:=⟨d - 1,by omega⟩
   have e3:((d'+1:Nat):Int) - 1=(d':Int):=by omega
   have ih3:=i3 t.Kids d' (fun x hx=>⟨hb.all x hx,by have:=Yw hx;omega⟩) (by omega) (by omega) (by have:=Zsf t;omega)
   rw [Yv (x:=((d'+1:Nat):Int) - 1) (by omega) (by omega),e3,ih3,Nat.add_sub_cancel]
   by_cases h1:t.Kind=1
   ·have e:(t.Kind == 1)=true:=by simp [h1]
    have e2:(t.Kind != 10)=true:=by rw [h1];rfl
    have e10:¬ t.Kind=10:=by omega
    have ho:∀ x:Tr,okk t.Kind x=(x.Kind != 10):=fun x=>by unfold okk;rw [h1,if_neg (by decide)];simp
    rw [e,e2,cond_true,if_neg e10,Bool.and_true]
    simp only [ho]
    by_cases hw':t.Words.length < 65536
    ·have q1:decide ((t.Words.length:Int) < 65536)=true:=by rw [decide_eq_true_eq];omega
     by_cases hk':t.Kids.length < 65536
     ·have q2:decide ((t.Kids.length:Int) < 65536)=true:=by rw [decide_eq_true_eq];omega
      rw [q1,q2,if_neg (by omega)]
      rfl
     have q2:decide ((t.Kids.length:Int) < 65536)=false:=by rw [decide_eq_false_iff_not];omega
     rw [q1,q2,if_pos (by omega)]
     rfl
    have q1:decide ((t.Words.length:Int) < 65536)=false:=by rw [decide_eq_false_iff_not];omega
    rw [q1,if_pos (by omega)]
    rfl
   have e1:(t.Kind == 1)=false:=by simp [h1]
   rw [e1,cond_false,Z3n,Option.bind_some]
   by_cases hbad:¬ (2≤t.Kind∧t.Kind≤9)∨0 < t.Words.length∨1048576≤t.Kids.length
   ·have q:cond (cond (!(decide (2≤t.Kind) && decide (t.Kind≤9))) true (decide (0 < (t.Words.length:Int)))) true (decide (1048576≤(t.Kids.length:Int)))=true:=by
     cases hq:cond (cond (!(decide (2≤t.Kind) && decide (t.Kind≤9))) true (decide (0 < (t.Words.length:Int)))) true (decide (1048576≤(t.Kids.length:Int))) with
     | true=>rfl
     | false =>
      have hc:∀ a b c:Bool,cond (cond (!a) true b) true c=false→a=true∧b=false∧c=false:=by decide
      obtain ⟨z1,z2,z3⟩:=hc _ _ _ hq
      rw [Bool.and_eq_true,decide_eq_true_eq,decide_eq_true_eq] at z1
      rw [decide_eq_false_iff_not] at z2 z3
      omega
    rw [q,cond_true]
    by_cases h10:t.Kind=10
    ·have e2:(t.Kind != 10)=false:=by simp [h10]
     rw [e2,Bool.and_false]
    rw [if_neg h10,if_pos (by omega),Bool.false_and]
   have hg:2≤t.Kind∧t.Kind≤9∧¬ 0 < t.Words.length∧¬ 1048576≤t.Kids.length:=by omega
   have q2:decide (0 < (t.Words.length:Int))=false:=by rw [decide_eq_false_iff_not];omega
   have q3:decide (1048576≤(t.Kids.length:Int))=false:=by rw [decide_eq_false_iff_not];omega
   have e10:¬ t.Kind=10:=by omega
   have e2:(t.Kind != 10)=true:=by simp [e10]
   rw [decide_eq_true hg.1,decide_eq_true hg.2.1,q2,q3,e2,if_neg e10,if_neg (by omega),Bool.and_true]
   simp only [Bool.and_true,Bool.not_true,cond_false]
   by_cases h8:t.Kind=8
   ·have e:(t.Kind == 8)=true:=by simp [h8]
    have ho:∀ x:Tr,okk t.Kind x=(x.Kind != 10):=fun x=>by unfold okk;rw [h8,if_neg (by decide)];simp
    rw [e,cond_true,Option.bind_some]
    simp only [ho]
    rfl
   have e8:(t.Kind == 8)=false:=by simp [h8]
   rw [e8,cond_false]
   by_cases h9:t.Kind=9
   ·have e:(t.Kind == 9)=true:=by simp [h9]
    have ho:∀ x:Tr,(rt x d' && okk t.Kind x)=(rq x d' && x.Kind == 1):=fun x=>by
     unfold okk rq
     rw [h9,if_neg (by decide)]
     have:((9:Int) != 9)=false:=rfl
     rw [this,Bool.false_or,Bool.and_assoc]
    rw [e,cond_true,Zyx (by omega),Option.bind_some]
    simp only [ho]
    rw [Zzc]
    cases t.Kids.all fun x=>x.Kind == 1 with
    | false=>rw [Bool.and_false];rfl
    | true=>rw [Bool.and_true];rfl
   have e:(t.Kind == 9)=false:=by simp [h9]
   have hd7:2≤t.Kind∧t.Kind≤7:=by omega
   rw [e,cond_false,Yv (by omega) (by omega),i4 t.Kids (t.Kind - 2) hb.all (by omega) (by omega) (by omega) (by have:=Zsf t;omega),Option.bind_some]
   congr 1
   refine Zud fun x hx => ?_
   unfold okk ra
   rw [if_pos hd7]
   by_cases hx10:x.Kind=10
   ·rw [Z36 hx10 d' 64]
    have:(x.Kind == 10)=true:=by simp [hx10]
    rw [this,Bool.true_and,Bool.true_and]
   have:(x.Kind == 10)=false:=by simp [hx10]
   rw [this,Bool.false_and,Bool.false_and,Bool.and_false]
  ·show Vu (Zn k).1 (Zn k).2.1 (Zn k).2.2.1 (Zn k).2.2.2 l (d:Int)=_
   unfold Vu
   rw [Zrs l (Jv (Zn k).2.1 l (d:Int)) (fun x=>rq x d) (.inl ()) (.inr ()) hn (fun i x hi hx hm=>by
    unfold Jv
    rw [Zds hi,cond_true,Yu hx,Option.bind_some,i2 x d (hl x hm).1 (by have:=(hl x hm).2;omega) hd,Option.bind_some]
    cases rq x d <;> rfl) (by unfold Jv;rw [Zdf];rfl),Option.bind_some]
   cases l.all fun x=>rq x d <;> rfl
  show Vt (Zn k).1 (Zn k).2.1 (Zn k).2.2.1 (Zn k).2.2.2 l c=_
  unfold Vt
  rw [Zrs l (Ju (Zn k).1 l c) (ra c) (.inl ()) (.inr ()) hn (fun i x hi hx hm=>by
   unfold Ju ra
   rw [Zds hi,cond_true,Yu hx,Option.bind_some]
   by_cases hx10:x.Kind=10
   ·have e:(x.Kind == 10)=true:=by simp [hx10]
    have e2:(x.Kind != 10)=false:=by simp [hx10]
    rw [e,e2,cond_false,i1 x (hl x hm) (.inr ⟨hx10,by omega⟩),Option.bind_some,Bool.true_and]
    cases hr:rt x 64 with
    | false=>rfl
    | true =>
     obtain ⟨w,hw⟩:=Zur hx10 hr
     have hu:=(hl x hm).u w (by rw [hw];exact .head _)
     have hg0:Zx [w] (0:Int)=some w:=rfl
     rw [cond_true,hw,hg0,Option.bind_some,Zxt h0 h5 hu.1,Option.bind_some]
     simp only [cond_false,List.headD_cons,Bool.true_and,Bool.not_true]
     cases Zbj c w <;> rfl
   have e:(x.Kind == 10)=false:=by simp [hx10]
   have e2:(x.Kind != 10)=true:=by simp [hx10]
   rw [e,e2]
   rfl) (by unfold Ju;rw [Zdf];rfl),Option.bind_some]
  cases l.all (ra c) <;> rfl
theorem Zxn {t:Tr} (h:Bd t):Zik t=some (rt t 64):=Zpu (2 * SizeOf.sizeOf t+2) fun k hk=>(Zxm k).1 t h (.inl (by omega))
theorem Zl0 {α S R σ:Type} (xs:List α) (mk:S→Int→σ) (f:S→α→S) (out:S→R) (I:S→Prop) (step:σ→Option (σ ⊕ R)) (hl:(xs.length:Int)≤140737488355328)
  (h1:∀ (s:S) (i:Nat) (x:α),I s→i < xs.length→xs[i]? = some x→x∈xs→I (f s x)∧step (mk s (i:Int))=some (.inl (mk (f s x) (IntKind.i64.wrap ((i:Int)+1))))) (h2:∀ s,I s→step (mk s (xs.length:Int))=some (.inr (out s))) (s:S) (hs:I s):Zz step (mk s 0)=some (out (xs.foldl f s))∧I (xs.foldl f s):=by
 have key:∀ (ys:List α) (i:Nat) (s:S),I s→xs.drop i=ys→i≤xs.length→Zz step (mk s (i:Int))=some (out (ys.foldl f s))∧I (ys.foldl f s):=fun ys=>by
  induction ys with
  | nil =>
   intro i s hI h hi
   have:i=xs.length:=by
    have:=congrArg List.length h
    rw [List.length_drop,List.length_nil] at this
    omega
   subst this
   exact ⟨Jb (h2 s hI),hI⟩
  | cons x ys ih =>
   intro i s hI h hi
   have hx:xs[i]? = some x:=by
    have:=congrArg (fun l=>l[0]?) h
    simpa using this
   have hi':i < xs.length:=by
    rcases Nat.lt_or_ge i xs.length with h' | h'
    ·exact h'
    rw [List.getElem?_eq_none h'] at hx;cases hx
   obtain ⟨hI',hs⟩:=h1 s i x hI hi' hx (List.mem_of_getElem? hx)
   have hd:xs.drop (i+1)=ys:=by
    have:=congrArg List.tail h
    rwa [List.tail_drop,List.tail_cons] at this
   have e1:(i:Int)+1=((i+1:Nat):Int):=by omega
   rw [Yv (by omega) (by omega),e1] at hs
   rw [Kq hs]
   exact ih (i+1) (f s x) hI' hd (by omega)
 exact key xs 0 s hs rfl (Nat.zero_le _)
def n0T:Tr:=⟨0,[],[]⟩
theorem Zrt {α β:Type} (xs:List α) (f:α→β) (step:Int×List β→Option ((Int×List β) ⊕ List β)) (acc:List β) (hl:(xs.length:Int)≤140737488355328)
  (h1:∀ (i:Nat) (x:α) (out:List β),i < xs.length→xs[i]? = some x→x∈xs→out.length=acc.length+i→step ((i:Int),out)=some (.inl (IntKind.i64.wrap ((i:Int)+1),out++[f x])))
  (h2:∀ out,step ((xs.length:Int),out)=some (.inr out)):Zz step (0,acc)=some (acc++xs.map f):=by
 have key:∀ m i,i+m=xs.length→Zz step ((i:Int),acc++(xs.take i).map f)=some (acc++xs.map f):=fun m=>by
  induction m with
  | zero =>
   intro i hi
   have hi':i=xs.length:=by omega
   subst hi'
   rw [List.take_length]
   exact Jb (h2 _)
  | succ m ih =>
   intro i hi
   have hx:xs[i]? = some xs[i]:=List.getElem?_eq_getElem (by omega)
   have h:=h1 i _ (acc++(xs.take i).map f) (by omega) hx (List.mem_of_getElem? hx) (by rw [List.length_append,List.length_map,List.length_take];omega)
   rw [Yv (by omega) (by omega)] at h
   rw [Kq h]
   have e:acc++(xs.take i).map f++[f xs[i]]=acc++(xs.take (i+1)).map f:=by
    rw [List.take_add_one,hx,List.map_append,List.append_assoc]
    rfl
   rw [e]
   exact ih (i+1) (by omega)
 have:=key xs.length 0 (by omega)
 simpa using this
theorem Z31 {k:Int} {t:Tr} (h:okk k t=true):okk k (nrm t)=true:=by
 unfold okk at h ⊢
 rw [Zdj]
 split
 ·rename_i hk
  rw [if_pos hk,Bool.and_eq_true,beq_iff_eq] at h
  rw [Zex (by omega) (by omega),h.1]
  simp only [BEq.rfl,Bool.true_and]
  exact h.2
 rename_i hk
 rw [if_neg hk] at h
 exact h
theorem Z2l:∀ (n:Nat) (t:Tr) (d:Nat),SizeOf.sizeOf t < n→rt t d=true→rt (nrm t) d=true
 | 0,_,_,h,_=>by omega
 | n+1,t,d,hn,h=>by
  have hk:=Zdj t
  by_cases h0:t.Kind=0
  ·rw [Zlc h0,Zgl,if_pos rfl];rfl
  rw [Zgl,if_neg h0] at h
  by_cases h10:t.Kind=10
  ·rw [if_pos h10] at h
   rw [Zex h0 (by omega),Zgl,if_neg h0,if_pos h10]
   simp only [List.length_map]
   exact h
  rw [if_neg h10] at h
  by_cases hc:t.Kind < 0∨10 < t.Kind∨d=0∨65536≤t.Words.length∨(t.Kind=1∧65536≤t.Kids.length)∨1048576≤t.Kids.length∨(1 < t.Kind∧0 < t.Words.length)
  ·rw [if_pos hc] at h;cases h
  rw [if_neg hc,List.all_eq_true] at h
  have hkid:∀ x∈t.Kids,(rt (nrm x) (d - 1) && okk t.Kind (nrm x))=true:=fun x hx=>by
   have:=h x hx
   rw [Bool.and_eq_true] at this ⊢
   exact ⟨Z2l n x (d - 1) (by have:=Yw hx;omega) this.1,Z31 this.2⟩
  by_cases h1:t.Kind=1
  ·obtain ⟨W,K,e1,lW,lK,mK⟩:∃ W K,nrm t=⟨1,W,K⟩∧W.length≤t.Words.length∧K.length≤t.Kids.length∧∀ x∈K,x∈t.Kids.map nrm :=
    ⟨_,_,Uy h1,Zob _ _,by have h:=Zob (fun x:Tr=>x.Kind == 0) (t.Kids.map nrm);rw [List.length_map] at h;exact h,fun x hx=>Zkh hx⟩
   rw [e1,Zgl]
   simp only
   rw [if_neg (by decide),if_neg (by decide),if_neg (by omega),List.all_eq_true]
   intro x hx
   obtain ⟨y,hy,rfl⟩:=List.mem_map.1 (mK x hx)
   rw [← h1]
   exact hkid y hy
  rw [Zex h0 h1,Zgl]
  simp only [List.length_map]
  rw [if_neg h0,if_neg h10,if_neg hc,List.all_eq_true]
  intro x hx
  obtain ⟨y,hy,rfl⟩:=List.mem_map.1 hx
  exact hkid y hy
theorem rtN {t:Tr} {d:Nat} (h:rt t d=true):rt (nrm t) d=true:=Z2l _ t d (Nat.lt_succ_self _) h
def atD {α:Type} (z:α) (l:List α) (i:Nat):α:=(l[i]?).getD z
def p0 (x:Int):Bool:=x == 0
def pT (x:Tr):Bool:=x.Kind == 0
def NT (t:Tr):Prop:=nrm t=t
theorem NT.of (t:Tr):NT (nrm t):=Zqw t
theorem NT.z:NT n0T:=Zlc rfl
theorem NT.kids {t:Tr} (h:NT t):∀ k∈t.Kids,NT k:=fun k hk=>by
 unfold NT at h
 rw [← h] at hk
 by_cases h0:t.Kind=0
 ·rw [Zlc h0] at hk;cases hk
 by_cases h1:t.Kind=1
 ·rw [Uy h1] at hk
  obtain ⟨y,_,rfl⟩:=List.mem_map.1 (Zkh hk)
  exact NT.of y
 rw [Zex h0 h1] at hk
 obtain ⟨y,_,rfl⟩:=List.mem_map.1 hk
 exact NT.of y
theorem NT.map {l:List Tr} (h:∀ k∈l,NT k):l.map nrm=l:=by
 conv=>rhs;rw [← List.map_id l]
 exact List.map_congr_left fun x hx=>h x hx
theorem NT.words {t:Tr} (h:NT t) (h1:t.Kind=1):tr p0 t.Words=t.Words∧tr pT t.Kids=t.Kids:=by
 have hk:=NT.map h.kids
 unfold NT at h
 rw [Uy h1] at h
 have hw:=congrArg Zc.Words h
 have hk2:=congrArg Zc.Kids h
 simp only at hw hk2
 rw [hk] at hk2
 exact ⟨hw,hk2⟩
inductive Rg:Tr→Prop
 | mk (t:Tr) (h3:∀ w∈t.Words,0≤w∧w < 18446744073709551616) (h4:∀ k∈t.Kids,Rg k):Rg t
theorem Rg.u {t:Tr} (h:Rg t):∀ w∈t.Words,0≤w∧w < 18446744073709551616:=by cases h;assumption
theorem Rg.all {t:Tr} (h:Rg t):∀ k∈t.Kids,Rg k:=by cases h;assumption
theorem Rg.z:Rg n0T := .mk _ (by simp [n0T]) (by simp [n0T])
theorem Rg.of:∀ (n:Nat) (t:Tr),SizeOf.sizeOf t < n→Bd t→Rg t
 | 0,_,h,_=>by omega
 | n+1,t,hn,h => .mk _ h.u fun k hk=>Rg.of n k (by have:=Yw hk;omega) (h.all k hk)
theorem Bd.rg {t:Tr} (h:Bd t):Rg t:=Rg.of _ t (Nat.lt_succ_self _) h
inductive TX:Tr→Prop
 | mk (t:Tr) (h1:2≤t.Kind∧t.Kind≤9→t.Words=[]) (h9:t.Kind=9→∀ k∈t.Kids,k.Kind=1) (ih:∀ k∈t.Kids,TX k):TX t
theorem TX.w {t:Tr} (h:TX t):2≤t.Kind∧t.Kind≤9→t.Words=[]:=by cases h;assumption
theorem TX.s {t:Tr} (h:TX t):t.Kind=9→∀ k∈t.Kids,k.Kind=1:=by cases h;assumption
theorem TX.all {t:Tr} (h:TX t):∀ k∈t.Kids,TX k:=by cases h;assumption
theorem TX.z:TX n0T := .mk _ (fun _=>rfl) (fun h=>by simp [n0T] at h) (by simp [n0T])
theorem TX.nn:∀ (n:Nat) (t:Tr),SizeOf.sizeOf t < n→TX t→TX (nrm t)
 | 0,_,h,_=>by omega
 | n+1,t,hn,h=>by
  by_cases h0:t.Kind=0
  ·rw [Zlc h0];exact TX.z
  by_cases h1:t.Kind=1
  ·rw [Uy h1]
   refine .mk _ (fun h=>by simp only at h;omega) (fun h=>by simp only at h;omega) fun k hk => ?_
   obtain ⟨y,hy,rfl⟩:=List.mem_map.1 (Zkh hk)
   exact TX.nn n y (by have:=Yw hy;omega) (h.all y hy)
  rw [Zex h0 h1]
  refine .mk _ h.w (fun h9 k hk => ?_) fun k hk => ?_
  ·obtain ⟨y,hy,rfl⟩:=List.mem_map.1 hk
   rw [Zdj];exact h.s h9 y hy
  obtain ⟨y,hy,rfl⟩:=List.mem_map.1 hk
  exact TX.nn n y (by have:=Yw hy;omega) (h.all y hy)
theorem TX.n {t:Tr} (h:TX t):TX (nrm t):=TX.nn _ t (Nat.lt_succ_self _) h
theorem Z27 {α:Type} {z:α} {l:List α} {i:Nat}:atD z l i∈l∨atD z l i=z:=by
 unfold atD
 cases h:l[i]? with
 | none=>exact .inr rfl
 | some x=>exact .inl (List.mem_of_getElem? h)
theorem Z5e {l:List Int} (h:∀ x∈l,0≤x∧x < 18446744073709551616) (i:Nat):0≤atD 0 l i∧atD 0 l i < 18446744073709551616:=by
 rcases Z27 (z:=(0:Int)) (l:=l) (i:=i) with q | q
 ·exact h _ q
 rw [q];omega
structure GT (t:Tr):Prop where
 n:NT t
 g:Rg t
 x:TX t
theorem GT.z:GT n0T:=⟨NT.z,Rg.z,TX.z⟩
theorem GT.all {t:Tr} (h:GT t):∀ k∈t.Kids,GT k:=fun k hk=>⟨h.n.kids k hk,h.g.all k hk,h.x.all k hk⟩
theorem GT.of {t:Tr} (hb:Bd t) (hx:TX t):GT (nrm t):=⟨NT.of t,hb.nrm.rg,hx.n⟩
def Z9u {α:Type} (f:α→α→Option α):Option α→Option α→Option α
 | some x,some y=>f x y
 | some x,none=>some x
 | none,y=>y
def Rise {α:Type} (pl:α→Int) (l:List α):Prop:=l.Pairwise (fun a b=>pl a < pl b)∧∀ x∈l,0≤pl x
theorem Rise.tail {α:Type} {pl:α→Int} {x:α} {l:List α} (h:Rise pl (x::l)):Rise pl l:=⟨(List.pairwise_cons.1 h.1).2,fun y hy=>h.2 y (.tail _ hy)⟩
theorem GT.w {t:Tr} (h:GT t) (j:Nat):0≤atD 0 t.Words j∧atD 0 t.Words j < 18446744073709551616:=Z5e h.g.u j
theorem w_l (a b:Int):IntKind.i64.wrap (IntKind.i64.wrap a+b)=IntKind.i64.wrap (a+b):=by rw [IntKind.wrap_i64 a,IntKind.wrap_i64,IntKind.wrap_i64];omega
theorem w_r (a b:Int):IntKind.i64.wrap (a+IntKind.i64.wrap b)=IntKind.i64.wrap (a+b):=by rw [IntKind.wrap_i64 b,IntKind.wrap_i64,IntKind.wrap_i64];omega
theorem w_w (a:Int):IntKind.i64.wrap (IntKind.i64.wrap a)=IntKind.i64.wrap a:=by rw [IntKind.wrap_i64 a,IntKind.wrap_i64];omega
theorem Z58 (a b:Int):IntKind.i64.wrap (IntKind.i64.wrap a+IntKind.i64.wrap b)=IntKind.i64.wrap (a+b):=by rw [w_l,w_r]
theorem Zp6 {α:Type} (g:α→Int):∀ (l:List α) (s:Int),l.foldl (fun s x=>s+g x) s=s+(l.map g).sum
 | [],s=>by simp
 | x::l,s=>by rw [List.foldl_cons,Zp6 g l,List.map_cons,List.sum_cons];omega
def frS (s:Int×Int) (x:Tr):Int×Int:=(if s.1 < (x.Words.length:Int) then (x.Words.length:Int) else s.1,if s.2 < (x.Kids.length:Int) then (x.Kids.length:Int) else s.2)
def fr (l:List Tr):Int×Int:=l.foldl frS (0,0)
theorem Zkx {t:Tr} (hl:(t.Kids.length:Int)≤140737488355328):Ko t=some (fr t.Kids):=by
 unfold Ko
 rw [(Zl0 t.Kids (fun (s:Int×Int) (i:Int)=>(s.1,s.2,i)) frS id (fun _=>True) (V1 t) hl (fun s i x _ hi hx hm=>⟨trivial,by
  unfold V1
  simp only
  rw [Zds hi,cond_true,Yu hx,Option.bind_some]
  rfl⟩) (fun s _=>by
  unfold V1
  simp only
  rw [Zdf,cond_false]
  rfl) (0,0) trivial).1,Option.bind_some]
 rfl
theorem Z01 {t:Tr} (hl:(t.Kids.length:Int)≤140737488355328):Zam t=some (fr t.Kids):=by
 unfold Zam
 rw [(Zl0 t.Kids (fun (s:Int×Int) (i:Int)=>(s.1,s.2,i)) frS id (fun _=>True) (Ka t) hl (fun s i x _ hi hx hm=>⟨trivial,by
  unfold Ka frS
  simp only
  rw [Zds hi,cond_true,Yu hx,Option.bind_some]
  by_cases h1:s.1 < (x.Words.length:Int) <;> by_cases h2:s.2 < (x.Kids.length:Int) <;> simp [h1,h2]⟩) (fun s _=>by
  unfold Ka
  simp only
  rw [Zdf,cond_false]
  rfl) (0,0) trivial).1,Option.bind_some]
 rfl
def h9 (l:List Tr):Int:=IntKind.i64.wrap (1+IntKind.i64.wrap ((l.length:Int) * IntKind.i64.wrap ((fr l).1+(fr l).2)))
def Zmj (c:Int) (n:Nat):Int:=((n * wid c+63) / 64:Nat)
def sz (t:Tr):Int :=
 if t.Kind=1 then ((t.Words.length:Int)+(t.Kids.length:Int))+(t.Kids.attach.map fun k=>sz k.1).sum
 else if 2≤t.Kind∧t.Kind≤7 then Zmj (t.Kind - 2) t.Kids.length
 else if t.Kind=8 then (t.Kids.length:Int)+(t.Kids.attach.map fun k=>sz k.1).sum
 else if t.Kind=9 then h9 t.Kids+(t.Kids.attach.map fun k=>(k.1.Kids.attach.map fun j=>sz j.1).sum).sum
 else 0
termination_by SizeOf.sizeOf t
decreasing_by
 ·exact Yw k.2
 ·exact Yw k.2
 exact Nat.lt_trans (Yw j.2) (Yw k.2)
theorem Zlp (t:Tr):sz t=if t.Kind=1 then ((t.Words.length:Int)+(t.Kids.length:Int))+(t.Kids.map sz).sum
 else if 2≤t.Kind∧t.Kind≤7 then Zmj (t.Kind - 2) t.Kids.length
 else if t.Kind=8 then (t.Kids.length:Int)+(t.Kids.map sz).sum
 else if t.Kind=9 then h9 t.Kids+(t.Kids.map fun k=>(k.Kids.map sz).sum).sum
 else 0:=by
 rw [sz]
 have h1:(t.Kids.attach.map fun k=>(k.1.Kids.attach.map fun j=>sz j.1).sum)=t.Kids.map fun k=>(k.Kids.map sz).sum:=by
  have:(fun (k:{ x // x∈t.Kids })=>(k.1.Kids.attach.map fun j=>sz j.1).sum)=fun (k:{ x // x∈t.Kids })=>(fun k:Tr=>(k.Kids.map sz).sum) k.1:=funext fun k=>congrArg List.sum (List.attach_map_val (f:=sz))
  rw [this]
  exact List.attach_map_val (f:=fun k:Tr=>(k.Kids.map sz).sum)
 rw [h1]
 simp only [List.attach_map_val]
theorem c5' {c:Int} (h:0≤c∧c≤5):c=0∨c=1∨c=2∨c=3∨c=4∨c=5:=by omega
theorem Zz0 {c:Int} (h:0≤c∧c≤5):Qs c=some ((wid c:Nat):Int):=by
 unfold Qs
 rcases c5' h with rfl | rfl | rfl | rfl | rfl | rfl <;> rfl
theorem Z2k {c:Int} (h:0≤c∧c≤5) {n:Nat} (hn:n≤1099511627776):Zbq c (n:Int)=some (((n * wid c+63) / 64:Nat):Int):=by
 unfold Zbq
 rw [Zz0 h,Option.bind_some]
 have key:∀ (w p:Nat),(1≤w∧w≤64)→w * p=64→Int.tdiv 64 (w:Int)=(p:Int)→(cond (cond (cond (decide ((w:Int) < 1)) true (decide ((n:Int) < 0))) true (decide ((1099511627776:Int) < (n:Int)))) (some 0) ((some ((w:Nat):Int)).bind fun y5=>(Q9 (y5≠0)).bind fun u6=>(Q9 ((IntKind.i64.wrap (Int.tdiv 64 y5))≠0)).bind fun u8=>cond (decide (0 < (Int.tmod (n:Int) (IntKind.i64.wrap (Int.tdiv 64 y5))))) ((Q9 ((IntKind.i64.wrap (Int.tdiv 64 y5))≠0)).bind fun u10=>some (IntKind.i64.wrap ((IntKind.i64.wrap (Int.tdiv (n:Int) (IntKind.i64.wrap (Int.tdiv 64 y5))))+1))) ((Q9 ((IntKind.i64.wrap (Int.tdiv 64 y5))≠0)).bind fun u12=>some (IntKind.i64.wrap (Int.tdiv (n:Int) (IntKind.i64.wrap (Int.tdiv 64 y5)))))))=some (((n * w+63) / 64:Nat):Int):=fun w p hw hp ht=>by
  have hp1:1≤p∧p≤64:=by
   rcases Nat.eq_zero_or_pos p with q | q
   ·rw [q] at hp;omega
   exact ⟨q,by have:=Nat.mul_le_mul_right p hw.1;omega⟩
  have hd:n / p≤n:=Nat.div_le_self _ _
  have hm:p * (n / p)+n % p=n:=Nat.div_add_mod n p
  have hml:n % p < p:=Nat.mod_lt _ hp1.1
  have ed:(n:Int) / (p:Int)=((n / p:Nat):Int):=rfl
  have em:(n:Int) % (p:Int)=((n % p:Nat):Int):=rfl
  have enw:n * w=64 * (n / p)+n % p * w:=by
   have:n * w=(p * (n / p)+n % p) * w:=by rw [hm]
   rw [this,Nat.add_mul,Nat.mul_comm p,Nat.mul_assoc,Nat.mul_comm p,hp,Nat.mul_comm (n / p)]
  rw [show decide ((w:Int) < 1)=false from by rw [decide_eq_false_iff_not];omega,cond_false,show decide ((n:Int) < 0)=false from by rw [decide_eq_false_iff_not];omega,cond_false,show decide ((1099511627776:Int) < (n:Int))=false from by rw [decide_eq_false_iff_not];omega,cond_false,Option.bind_some,ht,Yv (x:=(p:Int)) (by omega) (by omega),Ge (by omega),Option.bind_some,Ge (by omega),Option.bind_some,Int.tmod_eq_emod_of_nonneg (by omega),Int.tdiv_eq_ediv_of_nonneg (by omega),ed,em,Yv (x:=((n / p:Nat):Int)) (by omega) (by omega),Yv (x:=((n / p:Nat):Int)+1) (by omega) (by omega)]
  by_cases q:0 < n % p
  ·have h1:1 * w≤n % p * w:=Nat.mul_le_mul_right _ q
   have h2:(n % p+1) * w≤p * w:=Nat.mul_le_mul_right _ hml
   rw [Nat.mul_comm p,hp,Nat.add_mul,Nat.one_mul] at h2
   rw [show decide ((0:Int) < ((n % p:Nat):Int))=true from by rw [decide_eq_true_eq];omega,cond_true,Option.bind_some]
   congr 1
   generalize n % p * w=z at *
   omega
  have h0:n % p=0:=by omega
  rw [h0,Nat.zero_mul] at enw
  rw [show decide ((0:Int) < ((n % p:Nat):Int))=false from by rw [decide_eq_false_iff_not];omega,cond_false,Option.bind_some]
  congr 1
  omega
 rcases c5' h with rfl | rfl | rfl | rfl | rfl | rfl
 ·rw [show decide (((wid 0:Nat):Int) < 1)=true from rfl,cond_true,cond_true,cond_true,show wid 0=0 from rfl,Nat.mul_zero]
  rfl
 ·exact key 1 64 (by decide) rfl rfl
 ·exact key 8 8 (by decide) rfl rfl
 ·exact key 16 4 (by decide) rfl rfl
 ·exact key 32 2 (by decide) rfl rfl
 exact key 64 1 (by decide) rfl rfl
theorem Zxy {c:Int} (h:0≤c∧c≤5) {n:Nat} (hn:n≤1048576):Za7 c (n:Int)=some (Zmj c n):=by
 have hw:Jp c=some (((wid c:Nat):Int),true):=by
  unfold Jp
  rcases c5' h with rfl | rfl | rfl | rfl | rfl | rfl <;> rfl
 have hb:wid c≤64:=by rcases c5' h with rfl | rfl | rfl | rfl | rfl | rfl <;> decide
 have hm:n * wid c≤1048576 * 64:=Nat.mul_le_mul hn hb
 unfold Za7 Zmj
 rw [hw,Option.bind_some]
 simp only
 rw [Bool.not_true,cond_false,decide_eq_false (by omega),cond_false,decide_eq_false (by omega),cond_false,← Int.natCast_mul]
 generalize n * wid c=m at hm ⊢
 rw [Yv (x:=(m:Int)) (by omega) (by omega),Yv (x:=(m:Int)+63) (by omega) (by omega),Int.tdiv_eq_ediv_of_nonneg (by omega),Yv (by omega) (by omega)]
 congr 1
theorem Zi6 {t:Tr} {d:Nat} (h:rt t d=true):0≤t.Kind∧t.Kind≤10∧t.Kids.length < 1048576∧(t.Kind=0∨t.Kind=10→t.Kids=[])∧∀ k∈t.Kids,rt k (d - 1)=true:=by
 rw [Zgl] at h
 by_cases h0:t.Kind=0
 ·rw [if_pos h0,Bool.and_eq_true,beq_iff_eq,beq_iff_eq] at h
  have:=List.length_eq_zero_iff.1 h.2
  rw [this]
  exact ⟨by omega,by omega,by simp,fun _=>rfl,fun k hk=>by cases hk⟩
 by_cases h1:t.Kind=10
 ·rw [if_neg h0,if_pos h1,Bool.and_eq_true,beq_iff_eq,beq_iff_eq] at h
  have:=List.length_eq_zero_iff.1 h.2
  rw [this]
  exact ⟨by omega,by omega,by simp,fun _=>rfl,fun k hk=>by cases hk⟩
 rw [if_neg h0,if_neg h1] at h
 by_cases hb:t.Kind < 0∨10 < t.Kind∨d=0∨65536≤t.Words.length∨(t.Kind=1∧65536≤t.Kids.length)∨1048576≤t.Kids.length∨(1 < t.Kind∧0 < t.Words.length)
 ·rw [if_pos hb] at h;cases h
 rw [if_neg hb,List.all_eq_true] at h
 refine ⟨by omega,by omega,by omega,fun q=>by omega,fun k hk => ?_⟩
 have:=h k hk
 rw [Bool.and_eq_true] at this
 exact this.1
theorem Zyu {k:Nat} (l:List Tr) (hl:(l.length:Int)≤140737488355328) (h:∀ x∈l,(Ym k).1 x=some (IntKind.i64.wrap (sz x))):Zz (Kg (Ym k).1 l) (0,0)=some (IntKind.i64.wrap (l.map sz).sum):=by
 have:=(Zl0 l (fun (s:Int) (i:Int)=>(IntKind.i64.wrap s,i)) (fun s x=>s+sz x) (fun s=>IntKind.i64.wrap s) (fun _=>True) (Kg (Ym k).1 l) hl (fun s i x _ hi hx hm=>⟨trivial,by
  unfold Kg
  simp only
  rw [Zds hi,cond_true,Yu hx,Option.bind_some,h x hm,Option.bind_some,Z58]⟩) (fun s _=>by
  unfold Kg
  simp only
  rw [Zdf,cond_false]) 0 trivial).1
 rw [Zp6,Int.zero_add] at this
 exact this
theorem Zz4:∀ (k:Nat),(∀ (t:Tr) (d:Nat),rt t d=true→2 * SizeOf.sizeOf t < k→(Ym k).1 t=some (IntKind.i64.wrap (sz t))) ∧
  (∀ l:List Tr,0 < k→(l.length:Int)≤140737488355328→(∀ x∈l,(∃ d,rt x d=true)∧2 * SizeOf.sizeOf x+1 < k)→(Ym k).2 l=some (IntKind.i64.wrap (l.map sz).sum))
 | 0=>⟨fun _ _ _ h=>by omega,fun _ h=>by omega⟩
 | k+1=>by
  obtain ⟨i1,i2⟩:=Zz4 k
  refine ⟨fun t d hr hk => ?_,fun l _ hl h => ?_⟩
  ·obtain ⟨r1,r2,r3,r4,r5⟩:=Zi6 hr
   have s0:0 < SizeOf.sizeOf t:=by
    obtain ⟨a,b,c⟩:=t
    simp only [Zc.mk.sizeOf_spec]
    omega
   have k0:0 < k:=by omega
   have hs:∀ x∈t.Kids,(∃ d,rt x d=true)∧2 * SizeOf.sizeOf x+1 < k:=fun x hx=>⟨⟨_,r5 x hx⟩,by have:=Yw hx;omega⟩
   have hk9:∀ y∈t.Kids,(Ym k).2 y.Kids=some (IntKind.i64.wrap (y.Kids.map sz).sum):=fun y hy =>
    i2 _ k0 (by have:=(Zi6 (r5 y hy)).2.2.1;omega) fun x hx=>⟨⟨_,(Zi6 (r5 y hy)).2.2.2.2 x hx⟩,by have:=Yw hx;have:=Yw hy;omega⟩
   show Zc9 (Ym k).1 (Ym k).2 t=_
   unfold Zc9 Zgj
   rw [Zlp]
   by_cases h1:t.Kind=1
   ·rw [if_pos h1,show (t.Kind == 1)=true from by rw [h1];rfl,cond_true,i2 _ k0 (by omega) hs,Option.bind_some,Z58]
   rw [if_neg h1,beq_eq_false_iff_ne.2 h1,cond_false,Option.bind_some]
   by_cases h2:2≤t.Kind∧t.Kind≤7
   ·rw [if_pos h2,decide_eq_true h2.1,cond_true,decide_eq_true h2.2,cond_true,Yv (by omega) (by omega),Zxy (by omega) (by omega),Option.bind_some]
    have:IntKind.i64.wrap (Zmj (t.Kind - 2) t.Kids.length)=Zmj (t.Kind - 2) t.Kids.length:=by
     have hb:wid (t.Kind - 2)≤64:=by rcases c5' (c:=t.Kind - 2) (by omega) with q | q | q | q | q | q <;> rw [q] <;> decide
     have hm:t.Kids.length * wid (t.Kind - 2)≤1048576 * 64:=Nat.mul_le_mul (by omega) hb
     unfold Zmj
     rw [Yv (by omega) (by omega)]
    rw [this]
   rw [if_neg h2]
   have hc:cond (decide (2≤t.Kind)) (decide (t.Kind≤7)) false=false:=by
    rw [Zol,Bool.and_eq_false_iff,decide_eq_false_iff_not,decide_eq_false_iff_not];omega
   rw [hc,cond_false]
   by_cases h8:t.Kind=8
   ·rw [if_pos h8,show (t.Kind == 8)=true from by rw [h8];rfl,cond_true,i2 _ k0 (by omega) hs,Option.bind_some,w_r]
   rw [if_neg h8,beq_eq_false_iff_ne.2 h8,cond_false]
   by_cases h9':t.Kind=9
   ·rw [if_pos h9',show (t.Kind == 9)=true from by rw [h9'];rfl,cond_true,Zkx (by omega),Option.bind_some]
    have:=(Zl0 t.Kids (fun (s:Int) (i:Int)=>(IntKind.i64.wrap s,i)) (fun s x=>s+(x.Kids.map sz).sum) (fun s=>IntKind.i64.wrap s) (fun _=>True) (Ve (Ym k).2 t) (by omega) (fun s i x _ hi hx hm=>⟨trivial,by
     unfold Ve
     simp only
     rw [Zds hi,cond_true,Yu hx,Option.bind_some,hk9 x hm,Option.bind_some,Z58]⟩) (fun s _=>by
     unfold Ve
     simp only
     rw [Zdf,cond_false]) (h9 t.Kids) trivial).1
    rw [Zp6,show IntKind.i64.wrap (h9 t.Kids)=h9 t.Kids from w_w _] at this
    show (Zz (Ve (Ym k).2 t) (h9 t.Kids,0)).bind _=_
    rw [this,Option.bind_some]
   rw [if_neg h9',beq_eq_false_iff_ne.2 h9',cond_false]
   rfl
  show Zbh (Ym k).1 (Ym k).2 l=_
  unfold Zbh
  rw [Zyu l hl (fun x hx=>by obtain ⟨⟨d,hd⟩,hh⟩:=h x hx;exact i1 x d hd (by omega)),Option.bind_some]
theorem Z39 {t:Tr} {d:Nat} (h:rt t d=true):Zla t=some (IntKind.i64.wrap (sz t)):=Zpu (2 * SizeOf.sizeOf t+1) fun k hk=>(Zz4 k).1 t d h (by omega)
theorem Z23 {t:Tr} {d:Nat} (hb:Bd t) (h:rt t d=true):Zdh t=some (IntKind.i64.wrap (sz (nrm t))):=by
 unfold Zdh
 rw [Zvj hb,Option.bind_some,Z39 (rtN h),Option.bind_some]
def Gk {α σ:Type} (f:σ→Nat→α→σ):σ→Nat→List α→σ
 | s,_,[]=>s
 | s,i,x::xs=>Gk f (f s i x) (i+1) xs
theorem Zev {α σ S R:Type} (xs:List α) (pack:Int→σ→S) (out:σ→R) (step:S→Option (S ⊕ R)) (f:σ→Nat→α→σ) (I:Nat→σ→Prop) (hl:(xs.length:Int)≤140737488355328)
  (h1:∀ (i:Nat) (s:σ) (x:α),i < xs.length→xs[i]? = some x→x∈xs→I i s→step (pack i s)=some (.inl (pack (IntKind.i64.wrap ((i:Int)+1)) (f s i x)))∧I (i+1) (f s i x))
  (h2:∀ s,I xs.length s→step (pack xs.length s)=some (.inr (out s))) (s:σ) (h0:I 0 s):Zz step (pack 0 s)=some (out (Gk f s 0 xs))∧I xs.length (Gk f s 0 xs):=by
 have key:∀ (l pre:List α) (s:σ),xs=pre++l→I pre.length s→Zz step (pack (pre.length:Nat) s)=some (out (Gk f s pre.length l))∧I xs.length (Gk f s pre.length l):=fun l=>by
  induction l with
  | nil =>
   intro pre s hp hi
   rw [List.append_nil] at hp
   subst hp
   exact ⟨Jb (h2 s hi),hi⟩
  | cons x l ih =>
   intro pre s hp hI
   have hx:xs[pre.length]? = some x:=by rw [hp,List.getElem?_append_right (Nat.le_refl _),Nat.sub_self];rfl
   have hi:pre.length < xs.length:=by rw [hp];simp
   obtain ⟨a,b⟩:=h1 pre.length s x hi hx (List.mem_of_getElem? hx) hI
   rw [Yv (by omega) (by omega)] at a
   have:=ih (pre++[x]) (f s pre.length x) (by rw [hp];simp) (by rw [List.length_append,List.length_singleton];exact b)
   rw [List.length_append,List.length_singleton] at this
   exact ⟨(Kq a).trans this.1,this.2⟩
 exact key xs [] s rfl h0
theorem Zk4:∀ l m:List Int,(l++m).sum=l.sum+m.sum
 | [],m=>by simp
 | x::l,m=>by simp only [List.cons_append,List.sum_cons,Zk4 l m];omega
theorem Zk5:∀ l:List Int,(∀ x∈l,0≤x)→0≤l.sum
 | [],_=>by simp
 | x::l,h=>by
  have:=Zk5 l fun y hy=>h y (.tail _ hy)
  have:=h x (.head _)
  simp only [List.sum_cons]
  omega
theorem Zxp {α:Type} {f:α→Int} {xs:List α} {i:Nat} {x:α} (hx:xs[i]? = some x) (h:∀ x∈xs,0≤f x):((xs.take (i+1)).map f).sum=((xs.take i).map f).sum+f x∧((xs.take i).map f).sum+f x≤(xs.map f).sum:=by
 have e:((xs.take (i+1)).map f).sum=((xs.take i).map f).sum+f x:=by
  rw [List.take_add_one,hx,List.map_append,Zk4]
  simp
 refine ⟨e,?_⟩
 have e2:(xs.map f).sum=((xs.take (i+1)).map f).sum+((xs.drop (i+1)).map f).sum:=by
  rw [← Zk4,← List.map_append,List.take_append_drop]
 have:=Zk5 ((xs.drop (i+1)).map f) fun y hy=>by
  obtain ⟨z,hz,rfl⟩:=List.mem_map.1 hy
  exact h z (List.mem_of_mem_drop hz)
 omega
theorem Vb {α:Type} {f:α→Int} {xs:List α} (h:∀ x∈xs,0≤f x):0≤(xs.map f).sum:=Zk5 _ fun y hy=>by
 obtain ⟨z,hz,rfl⟩:=List.mem_map.1 hy
 exact h z hz
theorem Z3d {off data ptrs:Int} (a:-536870912≤off) (b:off < 536870912) (c:0≤data) (d:data < 65536) (e:0≤ptrs) (f:ptrs < 65536) (g:¬ (off=0∧data=0∧ptrs=0)) :
  X6 (⟨1,off,data,ptrs,0,0,0,false⟩:Zw)=some (off % 1073741824 * 4+data * 4294967296+ptrs * 281474976710656,true):=by
 have hd:Zgq ((off % 1073741824).toNat * 4+data.toNat * 4294967296+ptrs.toNat * 281474976710656)=⟨1,off,data,ptrs,0,0,0,false⟩:=by
  generalize hw:(off % 1073741824).toNat * 4+data.toNat * 4294967296+ptrs.toNat * 281474976710656=w
  have h1:¬ w=0:=by omega
  have h2:w % 4=0:=by omega
  unfold Zgq
  rw [if_neg h1,if_pos h2]
  unfold Zru
  simp only [Zw.mk.injEq,true_and,and_true]
  refine ⟨?_,by omega,by omega⟩
  split <;> omega
 have:=Zmo ((off % 1073741824).toNat * 4+data.toNat * 4294967296+ptrs.toNat * 281474976710656) (by omega) (by rw [hd];show ¬ (1:Int)=4;decide)
 rw [hd] at this
 rw [this]
 congr 2
 omega
theorem Z5i {off code count:Int} (a:-536870912≤off) (b:off < 536870912) (c:0≤code) (d:code < 8) (e:0≤count) (f:count < 536870912) :
  X6 (⟨2,off,0,0,code,count,0,false⟩:Zw)=some (off % 1073741824 * 4+1+code * 4294967296+count * 34359738368,true):=by
 have hd:Zgq ((off % 1073741824).toNat * 4+1+code.toNat * 4294967296+count.toNat * 34359738368)=⟨2,off,0,0,code,count,0,false⟩:=by
  generalize hw:(off % 1073741824).toNat * 4+1+code.toNat * 4294967296+count.toNat * 34359738368=w
  have h1:¬ w=0:=by omega
  have h2:¬ w % 4=0:=by omega
  have h3:w % 4=1:=by omega
  unfold Zgq
  rw [if_neg h1,if_neg h2,if_pos h3]
  unfold Zru
  simp only [Zw.mk.injEq,true_and,and_true]
  refine ⟨?_,by omega,by omega⟩
  split <;> omega
 have:=Zmo ((off % 1073741824).toNat * 4+1+code.toNat * 4294967296+count.toNat * 34359738368) (by omega) (by rw [hd];show ¬ (2:Int)=4;decide)
 rw [hd] at this
 rw [this]
 congr 2
 omega
theorem Zbd {x:Int} (h0:0≤x) (h1:x < 18446744073709551616):IntKind.u64.wrap x=x:=IntWalk.u64_in _ (by omega)
theorem Zpd {a t k u:Int} (a0:0≤a) (a1:a≤1048576) (t0:0≤t) (t1:t≤1048576) (k0:0≤k) (k1:k≤1) (u0:0≤u) (u1:u < 4294967296) :
  Qb a t k u=some ((t - a - 1) % 1073741824 * 4+k+u * 4294967296):=by
 unfold Qb
 rw [Yv (x:=t - a) (by omega) (by omega),Yv (x:=t - a - 1) (by omega) (by omega)]
 by_cases h:t - a - 1 < 0
 ·rw [decide_eq_true h,cond_true,Yv (by omega) (by omega),Option.bind_some,Yv (x:=4 * _) (by omega) (by omega),Yv (by omega) (by omega),Zbd (x:=u * _) (by omega) (by omega),Zbd (x:=_+k) (by omega) (by omega),Zbd (by omega) (by omega)]
  congr 1
  omega
 rw [decide_eq_false h,cond_false,Option.bind_some,Yv (x:=4 * _) (by omega) (by omega),Yv (by omega) (by omega),Zbd (x:=u * _) (by omega) (by omega),Zbd (x:=_+k) (by omega) (by omega),Zbd (by omega) (by omega)]
 congr 1
 omega
def Zo8 (w:Nat) (out:List Int) (i:Nat) (n:Int):List Int:=Z9 out ((i * w / 64:Nat):Int) (out[i * w / 64]?.getD 0+n * 2 ^ (i * w % 64))
def Z0z (w N:Nat) (i:Nat) (out:List Int):Prop:=out.length=(N * w+63) / 64∧∀ (q:Nat) (v:Int),out[q]? = some v→0≤v∧v < 2 ^ min 64 (i * w - q * 64)
theorem Z2a {s w:Nat} {v n:Int} (h0:0≤v) (h1:v < 2 ^ s) (n0:0≤n) (n1:n < 2 ^ w):0≤v+n * 2 ^ s∧v+n * 2 ^ s < 2 ^ (s+w)∧0≤n * 2 ^ s:=by
 have p:(0:Int) < 2 ^ s:=Int.pow_pos (by decide)
 have a:=Int.mul_nonneg n0 (Int.le_of_lt p)
 have b:(n+1) * 2 ^ s≤2 ^ w * 2 ^ s:=Int.mul_le_mul_of_nonneg_right (by omega) (Int.le_of_lt p)
 rw [Int.add_mul,Int.one_mul,Int.mul_comm (2 ^ w),← Int.pow_add] at b
 exact ⟨by omega,by omega,a⟩
theorem Zr5 {a b:Nat} (h:a≤b):(2:Int) ^ a≤2 ^ b:=by
 have:=Nat.pow_le_pow_right (n:=2) (by decide) h
 exact_mod_cast this
theorem Z2d {w N i:Nat} {out:List Int} {n:Int} (hw:0 < w) (hs:i * w % 64+w≤64) (hi:i < N) (hI:Z0z w N i out) (n0:0≤n) (n1:n < 2 ^ w) :
  ∃ v:Int,out[i * w / 64]? = some v∧0≤v∧v < 2 ^ (i * w % 64)∧v+n * 2 ^ (i * w % 64) < 18446744073709551616∧0≤n * 2 ^ (i * w % 64)∧Z0z w N (i+1) (Zo8 w out i n):=by
 obtain ⟨hl,hv⟩:=hI
 have hm:i * w+w≤N * w:=by
  have:=Nat.mul_le_mul_right w (show i+1≤N by omega)
  rwa [Nat.add_mul,Nat.one_mul] at this
 have hq:i * w / 64 < out.length:=by rw [hl];omega
 have hx:out[i * w / 64]? = some out[i * w / 64]:=List.getElem?_eq_getElem hq
 obtain ⟨v0,v1⟩:=hv _ _ hx
 have e:min 64 (i * w - i * w / 64 * 64)=i * w % 64:=by omega
 rw [e] at v1
 obtain ⟨a,b,c⟩:=Z2a v0 v1 n0 n1
 have d:=Zr5 hs
 refine ⟨_,hx,v0,v1,by omega,c,by unfold Zo8;rw [Ya,hl],fun q u hu => ?_⟩
 unfold Zo8 Z9 at hu
 rw [Int.toNat_natCast,hx,Option.getD_some,List.getElem?_set] at hu
 have e1:(i+1) * w=i * w+w:=by rw [Nat.add_mul,Nat.one_mul]
 by_cases h:i * w / 64=q
 ·rw [if_pos h,if_pos hq] at hu
  cases hu
  subst h
  refine ⟨a,?_⟩
  have:min 64 ((i+1) * w - i * w / 64 * 64)=i * w % 64+w:=by rw [e1];omega
  rw [this]
  exact b
 rw [if_neg h] at hu
 obtain ⟨u0,u1⟩:=hv _ _ hu
 refine ⟨u0,Int.lt_of_lt_of_le u1 (Zr5 ?_)⟩
 rw [e1]
 omega
theorem Z2c (w N:Nat):Z0z w N 0 (List.replicate ((N * w+63) / 64) 0):=by
 refine ⟨List.length_replicate,fun q v h => ?_⟩
 have:=List.mem_of_getElem? h
 rw [List.mem_replicate] at this
 rw [this.2]
 exact ⟨by decide,Int.pow_pos (by decide)⟩
def Ze9 (c:Int) (ns:List Int):List Int:=if c=0 then [] else Gk (Zo8 (wid c)) (List.replicate ((ns.length * wid c+63) / 64) 0) 0 ns
theorem Z08 {w each:Nat} (hw:0 < w) (hw2:w≤64) (he:0 < each) (he2:each≤64) (hE:IntKind.i64.wrap (Int.tdiv 64 (w:Int))=(each:Int)) (hq:∀ i:Nat,i / each=i * w / 64) (hr:∀ i:Nat,i % each * w=i * w % 64) (hs:∀ i:Nat,i * w % 64+w≤64)
  {ns:List Int} (hn:ns.length≤1048576) (hf:∀ n∈ns,0≤n∧n < 2 ^ w) :
  Zz (Ky ns ((w:Int),true)) (0,List.replicate ((ns.length * w+63) / 64) 0)=some (Gk (Zo8 w) (List.replicate ((ns.length * w+63) / 64) 0) 0 ns)∧Z0z w ns.length ns.length (Gk (Zo8 w) (List.replicate ((ns.length * w+63) / 64) 0) 0 ns) :=
 Zev ns (fun i s=>(i,s)) (fun s=>s) (Ky ns ((w:Int),true)) (Zo8 w) (Z0z w ns.length) (by omega) (fun i s n hi hx hm hI=>by
  obtain ⟨n0,n1⟩:=hf n hm
  obtain ⟨v,hv,v0,v1,v2,v3,v4⟩:=Z2d hw (hs i) hi hI n0 n1
  refine ⟨?_,v4⟩
  unfold Ky
  simp only
  have e1:IntKind.i64.wrap (Int.tdiv (i:Int) (each:Int))=((i * w / 64:Nat):Int):=by
   have hb:=Nat.mul_le_mul_left i hw2
   rw [Int.tdiv_eq_ediv_of_nonneg (by omega),← Int.natCast_ediv,hq i,Yv (by omega) (by omega)]
  have e2:IntKind.i64.wrap (Int.tmod (i:Int) (each:Int) * (w:Int))=((i * w % 64:Nat):Int):=by
   rw [Int.tmod_eq_emod_of_nonneg (by omega),← Int.natCast_emod,← Int.natCast_mul,hr i,Yv (by omega) (by omega)]
  have e3:min (Int.toNat ((i * w % 64:Nat):Int)) 64=i * w % 64:=by omega
  have e4:IntKind.u64.wrap (n * 2 ^ (i * w % 64))=n * 2 ^ (i * w % 64):=Zbd v3 (by omega)
  have e5:IntKind.u64.wrap (Ug .u64 v (n * 2 ^ (i * w % 64)))=v+n * 2 ^ (i * w % 64):=by
   obtain ⟨a,rfl⟩:=Int.eq_ofNat_of_zero_le v0
   obtain ⟨b,rfl⟩:=Int.eq_ofNat_of_zero_le n0
   have f:((b:Nat):Int) * 2 ^ (i * w % 64)=((b * 2 ^ (i * w % 64):Nat):Int):=by simp
   have f1:a < 2 ^ (i * w % 64):=by exact_mod_cast v1
   rw [f] at v2 v3 ⊢
   rw [Zij _ _ (by omega) (by omega),Zlg _ _ _ f1,Int.natCast_add]
  rw [Zds hi,cond_true,Yu hx,Option.bind_some,hE,Ge (by omega),Option.bind_some,e1,Yu hv,Option.bind_some,Option.bind_some,e2,Ge (by omega),Option.bind_some,e3,e4,e5]
  unfold Zo8
  rw [hv]
  rfl) (fun s _=>by
  unfold Ky
  simp only
  rw [Zdf,cond_false]) _ (Z2c w ns.length)
theorem Zy9 {c:Int} {ns:List Int} (h:0≤c∧c≤5) (hn:ns.length≤1048576) (hf:∀ n∈ns,0≤n∧Zbj c n=true):Zz (V8 c ns) (true,0)=some true :=
 (Zev ns (fun i s=>(s,i)) (fun s=>s) (V8 c ns) (fun s _ _=>s) (fun _ s=>s=true) (by omega) (fun i s n hi hx hm hI=>by
  subst hI
  refine ⟨?_,rfl⟩
  unfold V8
  simp only
  rw [Zds hi,cond_true,Yu hx,Option.bind_some,cond_true,Zxt h.1 h.2 (hf n hm).1,Option.bind_some,(hf n hm).2]
  rfl) (fun s _=>by
  unfold V8
  simp only
  rw [Zdf,cond_false]) true rfl).1.trans (by
  have:∀ (l:List Int) (k:Nat),Gk (fun (s:Bool) (_:Nat) (_:Int)=>s) true k l=true:=fun l=>by
   induction l with
   | nil=>intro k;rfl
   | cons x l ih=>intro k;exact ih (k+1)
  rw [this])
theorem Zpk {c:Int} (h:0≤c∧c≤5) {ns:List Int} (hn:ns.length≤1048576) (hf:∀ n∈ns,0≤n∧Zbj c n=true):Ux c ns=some (Ze9 c ns,true)∧(Ze9 c ns).length=(ns.length * wid c+63) / 64:=by
 have hw:Jp c=some (((wid c:Nat):Int),true):=by
  unfold Jp
  rcases c5' h with rfl | rfl | rfl | rfl | rfl | rfl <;> rfl
 have hb:wid c≤64:=by rcases c5' h with rfl | rfl | rfl | rfl | rfl | rfl <;> decide
 have hm:ns.length * wid c≤1048576 * 64:=Nat.mul_le_mul hn hb
 have hf':∀ n∈ns,0≤n∧n < 2 ^ wid c:=fun n hn=>⟨(hf n hn).1,by have:=(hf n hn).2;unfold Zbj at this;exact of_decide_eq_true this⟩
 unfold Ux Ze9
 rw [hw,Option.bind_some]
 simp only
 rw [Zy9 h hn hf,Option.bind_some,Bool.not_true,cond_false,Zxy h hn,Option.bind_some]
 unfold Zmj
 rw [Zlb (by omega) (by omega) (by omega),Option.bind_some,Int.toNat_natCast]
 have key:∀ w each:Nat,wid c=w→0 < w→0 < each→each≤64→IntKind.i64.wrap (Int.tdiv 64 (w:Int))=(each:Int)→(∀ i:Nat,i / each=i * w / 64)→(∀ i:Nat,i % each * w=i * w % 64)→(∀ i:Nat,i * w % 64+w≤64)→¬ c=0 →
   (cond (((wid c:Nat):Int) == 0) (some (List.replicate ((ns.length * wid c+63) / 64) (0:Int),true)) ((Q9 (((wid c:Nat):Int)≠0)).bind fun u14=>(Zz (Ky ns (((wid c:Nat):Int),true)) (0,List.replicate ((ns.length * wid c+63) / 64) 0)).bind fun (z24:(List Int))=>some (z24,true)))=some ((if c=0 then [] else Gk (Zo8 (wid c)) (List.replicate ((ns.length * wid c+63) / 64) 0) 0 ns),true)∧(if c=0 then [] else Gk (Zo8 (wid c)) (List.replicate ((ns.length * wid c+63) / 64) 0) 0 ns).length=(ns.length * wid c+63) / 64:=by
  intro w each ew a1 a2 a3 a4 a5 a6 a7 a8
  have:=Z08 a1 (by omega) a2 a3 a4 a5 a6 a7 hn (by rw [← ew];exact hf')
  rw [ew,if_neg a8,Vq (by omega),cond_false,Ge (by omega),Option.bind_some,this.1,Option.bind_some]
  exact ⟨rfl,this.2.1⟩
 rcases c5' h with rfl | rfl | rfl | rfl | rfl | rfl
 ·exact ⟨by simp [wid],by simp [wid]⟩
 ·exact key 1 64 rfl (by decide) (by decide) (by decide) rfl (fun i=>by omega) (fun i=>by omega) (fun i=>by omega) (by decide)
 ·exact key 8 8 rfl (by decide) (by decide) (by decide) rfl (fun i=>by omega) (fun i=>by omega) (fun i=>by omega) (by decide)
 ·exact key 16 4 rfl (by decide) (by decide) (by decide) rfl (fun i=>by omega) (fun i=>by omega) (fun i=>by omega) (by decide)
 ·exact key 32 2 rfl (by decide) (by decide) (by decide) rfl (fun i=>by omega) (fun i=>by omega) (fun i=>by omega) (by decide)
 exact key 64 1 rfl (by decide) (by decide) (by decide) rfl (fun i=>by omega) (fun i=>by omega) (fun i=>by omega) (by decide)
theorem Zwi {y2:Int} {s0:Int×List Int} {s:Nat} {n:Int} (hs:s < 64) (he:Int.tmod (IntKind.i64.wrap (s0.1 * y2)) 64=(s:Int)) (n0:0≤n) (hb:n * 2 ^ s < 18446744073709551616):Zz (Gr y2 s0) (n,0)=some (n * 2 ^ s):=by
 refine Zi8 (fun st=>∃ j:Nat,j≤s∧st=(n * 2 ^ j,(j:Int))) (fun st=>s - st.2.toNat) ?_ _ ⟨0,by omega,by simp⟩
 rintro st ⟨j,hj,rfl⟩
 unfold Gr
 simp only
 rw [he]
 by_cases h:j < s
 ·left
  have p:n * 2 ^ (j+1)≤n * 2 ^ s:=Int.mul_le_mul_of_nonneg_left (Zr5 (by omega)) n0
  have q:n * 2 ^ j * 2=n * 2 ^ (j+1):=by rw [Int.pow_succ,Int.mul_assoc]
  have r:0≤n * 2 ^ (j+1):=Int.mul_nonneg n0 (Int.le_of_lt (Int.pow_pos (by decide)))
  refine ⟨(n * 2 ^ (j+1),((j+1:Nat):Int)),?_,⟨j+1,by omega,rfl⟩,by simp only;omega⟩
  rw [decide_eq_true (by omega),cond_true,q,Zbd r (by omega),Yv (by omega) (by omega)]
  rfl
 right
 obtain rfl:j=s:=by omega
 rw [decide_eq_false (by omega),cond_false]
theorem Z02 {c:Int} {w:Nat} (h:0≤c∧c≤5) (ew:wid c=w) (hw:0 < w) (hw2:w≤64) (hs:∀ i:Nat,i * w % 64+w≤64)
  {ns:List Int} (hn:ns.length≤1048576) (hu:∀ n∈ns,0≤n∧n < 18446744073709551616∧Zbj c n=true) :
  Zz (Yq c ns (w:Int)) (0,List.replicate ((ns.length * w+63) / 64) 0)=some (.inr (Gk (Zo8 w) (List.replicate ((ns.length * w+63) / 64) 0) 0 ns)) :=
 (Zev ns (fun i s=>(i,s)) (fun s => .inr s) (Yq c ns (w:Int)) (Zo8 w) (Z0z w ns.length) (by omega) (fun i s n hi hx hm hI=>by
  obtain ⟨n0,n1,n2⟩:=hu n hm
  have n3:n < 2 ^ w:=by unfold Zbj at n2;rw [← ew];exact of_decide_eq_true n2
  obtain ⟨v,hv,v0,v1,v2,v3,v4⟩:=Z2d hw (hs i) hi hI n0 n3
  refine ⟨?_,v4⟩
  unfold Yq
  simp only
  have hb:=Nat.mul_le_mul_left i hw2
  have e1:IntKind.i64.wrap ((i:Int) * (w:Int))=((i * w:Nat):Int):=by
   rw [← Int.natCast_mul,Yv (by omega) (by omega)]
  have e2:IntKind.i64.wrap (Int.tdiv ((i * w:Nat):Int) 64)=((i * w / 64:Nat):Int):=by
   rw [Int.tdiv_eq_ediv_of_nonneg (by omega),Yv (by omega) (by omega)]
   omega
  have e3:Int.tmod (IntKind.i64.wrap ((i:Int) * (w:Int))) 64=((i * w % 64:Nat):Int):=by
   rw [e1,Int.tmod_eq_emod_of_nonneg (by omega)]
   omega
  have e4:=Zwi (y2:=(w:Int)) (s0:=((i:Int),s)) (by omega) e3 n0 (by omega)
  rw [Zds hi,cond_true,Yu hx,Option.bind_some,Zxl h.1 h.2 n0 n1,Option.bind_some,n2,Bool.not_true,cond_false,e4,Option.bind_some,decide_eq_true (by omega),cond_true,e1,e2,Yu hv,Option.bind_some,Option.bind_some,Zbd (by omega) v2]
  unfold Zo8
  rw [hv]
  rfl) (fun s _=>by
  unfold Yq
  simp only
  rw [Zdf,cond_false]) _ (Z2c w ns.length)).1
theorem Zyt {ns:List Int} (hn:ns.length≤1048576) (hu:∀ n∈ns,0≤n∧n < 18446744073709551616∧Zbj 0 n=true) (l0:List Int):Zz (Yq 0 ns ((0:Nat):Int)) (0,l0)=some (.inr l0):=by
 have:=(Zev ns (fun i s=>(i,s)) (fun s => .inr s) (Yq 0 ns ((0:Nat):Int)) (fun s _ _=>s) (fun _ s=>s=l0) (by omega) (fun i s n hi hx hm hI=>by
  obtain ⟨n0,n1,n2⟩:=hu n hm
  refine ⟨?_,hI⟩
  unfold Yq
  simp only
  have e3:Int.tmod (IntKind.i64.wrap ((i:Int) * ((0:Nat):Int))) 64=((0:Nat):Int):=by
   rw [Int.natCast_zero,Int.mul_zero]
   rfl
  have e4:=Zwi (y2:=((0:Nat):Int)) (s0:=((i:Int),s)) (by omega) e3 n0 (by omega)
  rw [Zds hi,cond_true,Yu hx,Option.bind_some,Zxl (by decide) (by decide) n0 n1,Option.bind_some,n2,Bool.not_true,cond_false,e4,Option.bind_some,decide_eq_false (by decide),cond_false,Option.bind_some]) (fun s _=>by
  unfold Yq
  simp only
  rw [Zdf,cond_false]) l0 rfl)
 rw [this.1,this.2]
theorem Z2j {c:Int} (h:0≤c∧c≤5) {ns:List Int} (hn:ns.length≤1048576) (hu:∀ n∈ns,0≤n∧n < 18446744073709551616∧Zbj c n=true):Zcl c ns=some (Ze9 c ns,true):=by
 have hb:wid c≤64:=by rcases c5' h with rfl | rfl | rfl | rfl | rfl | rfl <;> decide
 have hm:ns.length * wid c≤1048576 * 64:=Nat.mul_le_mul hn hb
 unfold Zcl Ze9
 rw [Zz0 h,Option.bind_some,decide_eq_false (by omega),cond_false,Z2k h (by omega),Option.bind_some,Zlb (by omega) (by omega) (by omega),Option.bind_some,Int.toNat_natCast]
 have key:∀ w:Nat,wid c=w→0 < w→(∀ i:Nat,i * w % 64+w≤64)→¬ c=0→((Zz (Yq c ns ((wid c:Nat):Int)) (0,List.replicate ((ns.length * wid c+63) / 64) 0)).bind fun (z20:(Unit ⊕ (List Int)))=>match z20 with | .inl z20=>some (([]:(List Int)),false) | .inr z20=>some (z20,true))=some ((if c=0 then [] else Gk (Zo8 (wid c)) (List.replicate ((ns.length * wid c+63) / 64) 0) 0 ns),true):=by
  intro w ew a1 a2 a3
  rw [if_neg a3,ew,Z02 h ew a1 (by omega) a2 hn hu]
  rfl
 rcases c5' h with rfl | rfl | rfl | rfl | rfl | rfl
 ·rw [show wid 0=0 from rfl,Zyt hn hu,Nat.mul_zero,if_pos rfl]
  rfl
 ·exact key 1 rfl (by decide) (fun i=>by omega) (by decide)
 ·exact key 8 rfl (by decide) (fun i=>by omega) (by decide)
 ·exact key 16 rfl (by decide) (fun i=>by omega) (by decide)
 ·exact key 32 rfl (by decide) (fun i=>by omega) (by decide)
 exact key 64 rfl (by decide) (fun i=>by omega) (by decide)
def ato (t:Tr):List Int:=t.Kids.map fun k=>k.Words.headD 0
theorem Zdz (t:Tr):(ato t).length=t.Kids.length:=by unfold ato;rw [List.length_map]
theorem Zym {t:Tr} (hk:2≤t.Kind∧t.Kind≤7) (hn:t.Kids.length≤1048576) (ha:∀ k∈t.Kids,∃ w,k.Words=[w]∧0≤w∧Zbj (t.Kind - 2) w=true):V0 t=some (Ze9 (t.Kind - 2) (ato t)):=by
 have l0:=Zrt t.Kids (fun k=>k.Words.headD 0) (J3 t) [] (by omega) (fun i x out hi hx hm ho=>by
  obtain ⟨w,hw,_⟩:=ha x hm
  have e:Vn x 0=some w:=by
   unfold Vn
   rw [hw]
   rfl
  unfold J3
  simp only [List.length_nil] at ho ⊢
  rw [Zds hi,cond_true,Yu hx,Option.bind_some,e,Option.bind_some,Zdy (by simp only [List.length_singleton];omega) (by simp only [List.length_singleton];omega),Option.bind_some,hw]
  rfl) (fun out=>by
  unfold J3
  simp only
  rw [Zdf,cond_false])
 unfold V0
 rw [l0,Option.bind_some,Yv (by omega) (by omega)]
 have:Ux (t.Kind - 2) (ato t)=some (Ze9 (t.Kind - 2) (ato t),true):=(Zpk (by omega) (by rw [Zdz];omega) (fun n hn=>by
  obtain ⟨k,hk,rfl⟩:=List.mem_map.1 hn
  obtain ⟨w,hw,h0,h1⟩:=ha k hk
  rw [hw]
  exact ⟨h0,h1⟩)).1
 unfold ato at this
 rw [List.nil_append,this]
 rfl
theorem Z1e {t:Tr} (hn:t.Kids.length≤1048576) (ha:∀ k∈t.Kids,∃ w,k.Words=[w]∧0≤w∧Zbj (t.Kind - 2) w=true):Zan t=some (ato t):=by
 have l0:=Zrt t.Kids (fun k=>k.Words.headD 0) (Kb t) [] (by omega) (fun i x out hi hx hm ho=>by
  obtain ⟨w,hw,_⟩:=ha x hm
  have e:Zx x.Words 0=some w:=by rw [hw];rfl
  unfold Kb
  simp only [List.length_nil] at ho ⊢
  rw [Zds hi,cond_true,Yu hx,Option.bind_some,e,Option.bind_some,Zdy (by simp only [List.length_singleton];omega) (by simp only [List.length_singleton];omega),Option.bind_some,hw]
  rfl) (fun out=>by
  unfold Kb
  simp only
  rw [Zdf,cond_false])
 unfold Zan
 rw [l0,Option.bind_some,List.nil_append]
 rfl
theorem Zw8 {α:Type} {f:α→Nat} {x:α}:∀ {l:List α},x∈l→f x≤(l.map f).sum
 | [],h=>by cases h
 | y::l,h=>by
  simp only [List.map_cons,List.sum_cons]
  rcases List.mem_cons.1 h with rfl | h
  ·omega
  have:=Zw8 (f:=f) h;omega
theorem Zw7 {α:Type} {f:α→Nat}:∀ {l:List α},(∀ x∈l,1≤f x)→l.length≤(l.map f).sum
 | [],_=>by simp
 | y::l,h=>by
  have:=Zw7 fun x hx=>h x (.tail _ hx)
  have:=h y (.head _)
  simp only [List.map_cons,List.sum_cons,List.length_cons]
  omega
theorem Zzs {α β:Type} {f:α→Nat} {g:β→Nat} (p:α→β):∀ {l:List α},(∀ x∈l,g (p x)≤f x)→((l.map p).map g).sum≤(l.map f).sum
 | [],_=>by simp
 | y::l,h=>by
  have:=Zzs p fun x hx=>h x (.tail _ hx)
  have:=h y (.head _)
  simp only [List.map_cons,List.sum_cons]
  omega
theorem Z0c {α:Type} {p:α→Bool} {f:α→Nat}:∀ l:List α,((tr p l).map f).sum≤(l.map f).sum
 | []=>by simp [tr]
 | x::l=>by
  have:=Z0c (p:=p) (f:=f) l
  by_cases h:tr p l=[]
  ·rw [Zxr h]
   split <;> simp
  rw [Zy7 h]
  simp only [List.map_cons,List.sum_cons]
  omega
theorem Z2b (t:Tr):1≤pt t:=by rw [Zkl];omega
theorem Zvx {t x:Tr} (h:x∈t.Kids):pt x+1≤pt t:=by
 have:=Zw8 (f:=pt) h
 rw [Zkl t]
 omega
theorem Zd0 (t:Tr):1+t.Words.length+t.Kids.length≤pt t:=by
 have:=Zw7 (f:=pt) (l:=t.Kids) fun x _=>Z2b x
 rw [Zkl t]
 omega
theorem Zzx:∀ (n:Nat) (t:Tr),SizeOf.sizeOf t < n→pt (nrm t)≤pt t
 | 0,_,h=>by omega
 | n+1,t,h=>by
  have ih:∀ x∈t.Kids,pt (nrm x)≤pt x:=fun x hx=>Zzx n x (by have:=Yw hx;omega)
  have e:=Zzs (f:=pt) (g:=pt) nrm ih
  by_cases h0:t.Kind=0
  ·rw [Zlc h0,Zkl]
   exact Z2b t
  by_cases h1:t.Kind=1
  ·rw [Uy h1,Zkl,Zkl t]
   simp only
   have a:=Zob (fun x:Int=>x == 0) t.Words
   have b:=Z0c (p:=fun x:Tr=>x.Kind == 0) (f:=pt) (t.Kids.map nrm)
   exact Nat.add_le_add (Nat.add_le_add_left a 1) (Nat.le_trans b e)
  rw [Zex h0 h1,Zkl,Zkl t]
  simp only
  omega
theorem Z1k {M N:Int}:∀ (l:List Tr) (s:Int×Int),(∀ x∈l,(x.Words.length:Int)≤M∧(x.Kids.length:Int)≤N)→0≤s.1→s.1≤M→0≤s.2→s.2≤N →
  s.1≤(l.foldl frS s).1∧(l.foldl frS s).1≤M∧s.2≤(l.foldl frS s).2∧(l.foldl frS s).2≤N∧∀ x∈l,(x.Words.length:Int)≤(l.foldl frS s).1∧(x.Kids.length:Int)≤(l.foldl frS s).2
 | [],s,_,a,b,c,d=>⟨Int.le_refl _,b,Int.le_refl _,d,fun x hx=>by cases hx⟩
 | y::l,s,h,a,b,c,d=>by
  obtain ⟨h1,h2⟩:=h y (.head _)
  have e1:s.1≤(frS s y).1∧(frS s y).1≤M∧(y.Words.length:Int)≤(frS s y).1:=by unfold frS;simp only;split <;> omega
  have e2:s.2≤(frS s y).2∧(frS s y).2≤N∧(y.Kids.length:Int)≤(frS s y).2:=by unfold frS;simp only;split <;> omega
  obtain ⟨k1,k2,k3,k4,k5⟩:=Z1k l (frS s y) (fun x hx=>h x (.tail _ hx)) (by omega) e1.2.1 (by omega) e2.2.1
  rw [List.foldl_cons]
  refine ⟨by omega,k2,by omega,k4,fun x hx => ?_⟩
  rcases List.mem_cons.1 hx with rfl | hx
  ·omega
  exact k5 x hx
theorem Z6l {M N:Int} {l:List Tr} (h:∀ x∈l,(x.Words.length:Int)≤M∧(x.Kids.length:Int)≤N) (hM:0≤M) (hN:0≤N) :
  0≤(fr l).1∧(fr l).1≤M∧0≤(fr l).2∧(fr l).2≤N∧∀ x∈l,(x.Words.length:Int)≤(fr l).1∧(x.Kids.length:Int)≤(fr l).2 :=
 Z1k l (0,0) h (Int.le_refl _) hM (Int.le_refl _) hN
theorem Zqu {α:Type} {f:α→Int} {g:α→Nat} {c:Int}:∀ {l:List α},(∀ x∈l,0≤f x∧f x≤c * (g x:Int))→0≤(l.map f).sum∧(l.map f).sum≤c * (((l.map g).sum:Nat):Int)
 | [],_=>by simp
 | y::l,h=>by
  obtain ⟨a,b⟩:=Zqu fun x hx=>h x (.tail _ hx)
  obtain ⟨c1,d⟩:=h y (.head _)
  simp only [List.map_cons,List.sum_cons,Int.natCast_add,Int.mul_add]
  omega
theorem Zav {t:Tr} {d:Nat} (h:rt t d=true) (h0:¬ t.Kind=0) (h1:¬ t.Kind=10):t.Words.length < 65536∧(t.Kind=1→t.Kids.length < 65536)∧(1 < t.Kind→t.Words=[])∧∀ k∈t.Kids,rt k (d - 1)=true∧okk t.Kind k=true:=by
 rw [Zgl,if_neg h0,if_neg h1] at h
 by_cases hb:t.Kind < 0∨10 < t.Kind∨d=0∨65536≤t.Words.length∨(t.Kind=1∧65536≤t.Kids.length)∨1048576≤t.Kids.length∨(1 < t.Kind∧0 < t.Words.length)
 ·rw [if_pos hb] at h;cases h
 rw [if_neg hb,List.all_eq_true] at h
 refine ⟨by omega,fun h=>by omega,fun h=>List.length_eq_zero_iff.1 (by omega),fun k hk => ?_⟩
 have:=h k hk
 rwa [Bool.and_eq_true] at this
theorem Z1p {l:List Tr} (hl:l.length≤200000) (h:∀ x∈l,x.Words.length≤65535∧x.Kids.length≤65535):h9 l=1+(l.length:Int) * ((fr l).1+(fr l).2)∧0≤(l.length:Int) * ((fr l).1+(fr l).2)∧(l.length:Int) * ((fr l).1+(fr l).2)≤26214000000∧(0≤(fr l).1∧(fr l).1≤65535∧0≤(fr l).2∧(fr l).2≤65535∧∀ x∈l,(x.Words.length:Int)≤(fr l).1∧(x.Kids.length:Int)≤(fr l).2):=by
 have f:=Z6l (M:=65535) (N:=65535) (l:=l) (fun x hx=>by have:=h x hx;omega) (by decide) (by decide)
 have a:0≤(l.length:Int) * ((fr l).1+(fr l).2):=Int.mul_nonneg (by omega) (by omega)
 have b:(l.length:Int) * ((fr l).1+(fr l).2)≤200000 * 131070:=Int.mul_le_mul (by omega) (by omega) (by omega) (by decide)
 refine ⟨?_,a,by omega,f⟩
 unfold h9
 rw [Yv (x:=(fr l).1+(fr l).2) (by omega) (by omega),Yv (x:=(l.length:Int) * _) (by omega) (by omega),Yv (by omega) (by omega)]
theorem Zv0 {c:Int} (h:0≤c∧c≤5) (n:Nat):(n * wid c+63) / 64≤n:=by
 have hb:wid c≤64:=by rcases c5' h with rfl | rfl | rfl | rfl | rfl | rfl <;> decide
 have:=Nat.mul_le_mul_left n hb
 omega
theorem Z2w:∀ (n:Nat) (t:Tr) (d:Nat),SizeOf.sizeOf t < n→rt t d=true→pt t≤200000→0≤sz t∧sz t≤27000000000 * (pt t:Int)
 | 0,_,_,h,_,_=>by omega
 | n+1,t,d,h,hr,hp=>by
  obtain ⟨_,_,_,_,hk⟩:=Zi6 hr
  have ih:∀ x∈t.Kids,0≤sz x∧sz x≤27000000000 * (pt x:Int):=fun x hx=>Z2w n x (d - 1) (by have:=Yw hx;omega) (hk x hx) (by have:=Zvx hx;omega)
  have ih2:∀ x∈t.Kids,0≤(x.Kids.map sz).sum∧(x.Kids.map sz).sum≤27000000000 * (pt x:Int):=fun x hx=>by
   have:=Zqu (f:=sz) (g:=pt) (c:=27000000000) (l:=x.Kids) fun y hy=>Z2w n y (d - 1 - 1) (by have:=Yw hx;have:=Yw hy;omega) ((Zi6 (hk x hx)).2.2.2.2 y hy) (by have:=Zvx hx;have:=Zvx hy;omega)
   rw [Zkl x]
   omega
  have s1:=Zqu ih
  have s2:=Zqu ih2
  have pk:=Zd0 t
  have pe:=Zkl t
  rw [Zlp]
  by_cases h1:t.Kind=1
  ·rw [if_pos h1];omega
  by_cases h2:2≤t.Kind∧t.Kind≤7
  ·rw [if_neg h1,if_pos h2]
   have:=Zv0 (c:=t.Kind - 2) (by omega) t.Kids.length
   unfold Zmj
   omega
  by_cases h8:t.Kind=8
  ·rw [if_neg h1,if_neg h2,if_pos h8];omega
  by_cases h9':t.Kind=9
  ·rw [if_neg h1,if_neg h2,if_neg h8,if_pos h9']
   obtain ⟨e,a,b,_⟩:=Z1p (l:=t.Kids) (by omega) (fun x hx=>by
    obtain ⟨r1,r2⟩:=(Zav hr (by omega) (by omega)).2.2.2 x hx
    unfold okk at r2
    rw [if_neg h2,Bool.and_eq_true,bne_iff_ne,Bool.or_eq_true,bne_iff_ne,beq_iff_eq] at r2
    have k1:x.Kind=1:=by rcases r2.2 with h | h;exact absurd h9' h;exact h
    have:=Zav r1 (by omega) (by omega)
    have:=this.2.1 k1
    omega)
   omega
  rw [if_neg h1,if_neg h2,if_neg h8,if_neg h9'];omega
theorem Zuw {t:Tr} {d:Nat} (hr:rt t d=true) (hp:pt t≤200000):0≤sz t∧sz t≤5400000000000000:=by
 have:=Z2w _ t d (Nat.lt_succ_self _) hr hp
 omega
def zs (l:List Int) (N:Nat):List Int:=l++List.replicate (N - l.length) 0
theorem Ztu {l:List Int} {N:Nat} (h:l.length≤N):(zs l N).length=N:=by
 unfold zs
 rw [List.length_append,List.length_replicate]
 omega
theorem Z59 {l:List Int} {N a:Nat} {v:Int} (h:l[a]? = some v):(zs l N)[a]? = some v:=by
 unfold zs
 rw [List.getElem?_append_left (List.getElem?_eq_some_iff.1 h).1,h]
theorem Zzb {l:List Int} {N a:Nat} {v:Int} (h:a < l.length):Z9 (zs l N) (a:Int) v=zs (Z9 l (a:Int) v) N:=by
 unfold zs
 rw [Ya]
 unfold Z9
 rw [Int.toNat_natCast,List.set_append_left _ _ h]
theorem Zza {l ys:List Int} {N:Nat} (h:l.length+ys.length≤N):Zeg (zs l N) (l.length:Int) ys=zs (l++ys) N:=by
 unfold Zeg
 rw [Ztu (by omega)]
 unfold zs
 rw [Int.toNat_natCast,List.take_left,List.take_of_length_le (by omega),List.drop_append,List.drop_replicate,List.drop_eq_nil_of_le (by omega),List.nil_append,List.length_append]
 congr 2
 omega
theorem Zv8 {l:List Int} {N n:Nat} (h:l.length+n≤N):zs (l++List.replicate n 0) N=zs l N:=by
 unfold zs
 rw [List.length_append,List.length_replicate,List.append_assoc,List.replicate_append_replicate]
 congr 2
 omega
theorem Zux {l:List Int} {n:Nat} (h:l.length+n≤1048576):Vj l (n:Int)=some (l++List.replicate n 0):=by
 have:=(Zev (List.replicate n ()) (fun i s=>(i,s)) (fun s=>s) (Va (n:Int)) (fun s _ _=>s++[0]) (fun i s=>s=l++List.replicate i 0) (by rw [List.length_replicate];omega) (fun i s x hi hx hm hI=>by
  subst hI
  rw [List.length_replicate] at hi
  refine ⟨?_,?_⟩
  ·unfold Va
   simp only
   rw [decide_eq_true (by omega),cond_true,Zdy (by rw [List.length_append,List.length_replicate,List.length_singleton];omega) (by rw [List.length_append,List.length_replicate,List.length_singleton];omega)]
   rfl
  ·rw [List.append_assoc,List.replicate_succ']) (fun s _=>by
  unfold Va
  simp only
  rw [List.length_replicate,Zdf,cond_false]) l (by simp))
 unfold Vj
 rw [this.1,Option.bind_some,this.2,List.length_replicate]
noncomputable def ly (t:Tr) (l:List Int) (a:Nat):List Int:=(Yb (SizeOf.sizeOf t+1) l (a:Int) t).getD []
def Sim (t:Tr):Prop:=∀ (l:List Int) (a:Nat),a < l.length→(l.length:Int)+sz t≤131072 →
 ((ly t l a).length:Int)=l.length+sz t∧(∀ j,SizeOf.sizeOf t < j→Yb j l (a:Int) t=some (ly t l a)) ∧
 (∀ N k:Nat,(l.length:Int)+sz t≤N→N≤131072→4 * SizeOf.sizeOf t < k→(Zi k).1 ⟨zs l N,(l.length:Int)⟩ (a:Int) t=some ⟨zs (ly t l a) N,((ly t l a).length:Int)⟩)
theorem Zse {t:Tr} {l R:List Int} {a:Nat} (hr:(R.length:Int)=l.length+sz t) (ref:∀ j,SizeOf.sizeOf t≤j→Xc (Yb j) l (a:Int) t=some R)
  (prog:∀ N k:Nat,(l.length:Int)+sz t≤N→N≤131072→4 * SizeOf.sizeOf t < k+4→(Zi (k+4)).1 ⟨zs l N,(l.length:Int)⟩ (a:Int) t=some ⟨zs R N,(R.length:Int)⟩) :
  ly t l a=R∧((ly t l a).length:Int)=l.length+sz t∧(∀ j,SizeOf.sizeOf t < j→Yb j l (a:Int) t=some (ly t l a)) ∧
  (∀ N k:Nat,(l.length:Int)+sz t≤N→N≤131072→4 * SizeOf.sizeOf t < k→(Zi k).1 ⟨zs l N,(l.length:Int)⟩ (a:Int) t=some ⟨zs (ly t l a) N,((ly t l a).length:Int)⟩):=by
 have e:ly t l a=R:=by
  unfold ly
  have:=ref (SizeOf.sizeOf t) (Nat.le_refl _)
  show Option.getD (Xc (Yb (SizeOf.sizeOf t)) l (a:Int) t) []=R
  rw [this]
  rfl
 refine ⟨e,by rw [e];exact hr,fun j hj => ?_,fun N k h1 h2 h3 => ?_⟩
 ·obtain ⟨i,rfl⟩:∃ i,j=i+1:=⟨j - 1,by omega⟩
  rw [e]
  exact ref i (by omega)
 have:=Zsf t
 obtain ⟨i,rfl⟩:∃ i,k=i+4:=⟨k - 4,by omega⟩
 rw [e]
 exact prog N i h1 h2 h3
theorem Z3p (k:Nat):(Zi (k+1)).1=Xd ((Zi k).1) ((Zi k).2.1) ((Zi k).2.2.1) ((Zi k).2.2.2):=rfl
theorem Z3q (k:Nat):(Zi (k+1)).2.1=Yx ((Zi k).1) ((Zi k).2.1) ((Zi k).2.2.1) ((Zi k).2.2.2):=rfl
theorem Z8f (k:Nat):(Zi (k+1)).2.2.1=Qf ((Zi k).1) ((Zi k).2.1) ((Zi k).2.2.1) ((Zi k).2.2.2):=rfl
theorem Z8g (k:Nat):(Zi (k+1)).2.2.2=Qo ((Zi k).1) ((Zi k).2.1) ((Zi k).2.2.1) ((Zi k).2.2.2):=rfl
noncomputable def lyK (b:Nat) (ks:List Tr) (l:List Int):List Int:=Gk (fun l i x=>ly x l (b+i)) l 0 ks
theorem Zu5 {α σ:Type} {f:σ→Nat→α→σ} (I:Nat→σ→Prop) (xs:List α) (h:∀ (i:Nat) (s:σ) (x:α),i < xs.length→xs[i]? = some x→x∈xs→I i s→I (i+1) (f s i x)) {s:σ} (h0:I 0 s):I xs.length (Gk f s 0 xs):=by
 have key:∀ (l pre:List α) (s:σ),xs=pre++l→I pre.length s→I xs.length (Gk f s pre.length l):=fun l=>by
  induction l with
  | nil =>
   intro pre s hp hi
   rw [List.append_nil] at hp
   subst hp
   exact hi
  | cons x l ih =>
   intro pre s hp hI
   have hx:xs[pre.length]? = some x:=by rw [hp,List.getElem?_append_right (Nat.le_refl _),Nat.sub_self];rfl
   have hi:pre.length < xs.length:=by rw [hp];simp
   have b:=h pre.length s x hi hx (List.mem_of_getElem? hx) hI
   have:=ih (pre++[x]) (f s pre.length x) (by rw [hp];simp) (by rw [List.length_append,List.length_singleton];exact b)
   rw [List.length_append,List.length_singleton] at this
   exact this
 exact key xs [] s rfl h0
theorem Zrm {ks:List Tr} (hk:∀ x∈ks,Sim x∧0≤sz x) {l:List Int} {b:Nat} (hb:b+ks.length≤l.length) (hs:(l.length:Int)+(ks.map sz).sum≤131072)
  (i:Nat) (s:List Int) (x:Tr) (hi:i < ks.length) (hx:ks[i]? = some x) (hm:x∈ks) (hI:(s.length:Int)=l.length+((ks.take i).map sz).sum) :
  b+i < s.length∧(s.length:Int)+sz x≤l.length+(ks.map sz).sum∧((ly x s (b+i)).length:Int)=l.length+((ks.take (i+1)).map sz).sum:=by
 obtain ⟨h1,h2⟩:=Zxp (f:=sz) hx fun y hy=>(hk y hy).2
 have h3:=Vb (f:=sz) (xs:=ks.take i) fun y hy=>(hk y (List.mem_of_mem_take hy)).2
 have h4:=((hk x hm).1 s (b+i) (by omega) (by omega)).1
 exact ⟨by omega,by omega,by omega⟩
theorem Zqv {ks:List Tr} (hk:∀ x∈ks,Sim x∧0≤sz x) {l:List Int} {b:Nat} (hb:b+ks.length≤l.length) (hs:(l.length:Int)+(ks.map sz).sum≤131072):((lyK b ks l).length:Int)=l.length+(ks.map sz).sum:=by
 have:=Zu5 (f:=fun l i x=>ly x l (b+i)) (fun i (s:List Int)=>(s.length:Int)=l.length+((ks.take i).map sz).sum) ks (fun i s x hi hx hm hI=>(Zrm hk hb hs i s x hi hx hm hI).2.2) (s:=l) (by simp)
 rw [List.take_length] at this
 exact this
theorem Z1r {ks:List Tr} (hk:∀ x∈ks,Sim x∧0≤sz x) {l:List Int} {b:Nat} (hb:b+ks.length≤l.length) (hs:(l.length:Int)+(ks.map sz).sum≤131072)
  (j:Nat) (step:Int×List Int→Option ((Int×List Int) ⊕ List Int)) (hj:∀ x∈ks,SizeOf.sizeOf x < j)
  (h1:∀ (i:Nat) (s:List Int) (x:Tr) (s':List Int),i < ks.length→ks[i]? = some x→x∈ks→Yb j s ((b+i:Nat):Int) x=some s'→step ((i:Int),s)=some (.inl (IntKind.i64.wrap ((i:Int)+1),s')))
  (h2:∀ s,step ((ks.length:Int),s)=some (.inr s)):Zz step (0,l)=some (lyK b ks l):=by
 have h3:=Vb (f:=sz) (xs:=ks) fun y hy=>(hk y hy).2
 exact (Zev ks (fun i s=>(i,s)) (fun s=>s) step (fun l i x=>ly x l (b+i)) (fun i (s:List Int)=>(s.length:Int)=l.length+((ks.take i).map sz).sum) (by omega) (fun i s x hi hx hm hI=>by
  obtain ⟨a1,a2,a3⟩:=Zrm hk hb hs i s x hi hx hm hI
  exact ⟨h1 i s x _ hi hx hm (((hk x hm).1 s (b+i) a1 (by omega)).2.1 j (hj x hm)),a3⟩) (fun s _=>h2 s) l (by simp)).1
theorem Z1q {ks:List Tr} (hk:∀ x∈ks,Sim x∧0≤sz x) {l:List Int} {b:Nat} (hb:b+ks.length≤l.length) (hs:(l.length:Int)+(ks.map sz).sum≤131072)
  (N m:Nat) (hN:(l.length:Int)+(ks.map sz).sum≤N) (hN2:N≤131072) (hm:∀ x∈ks,4 * SizeOf.sizeOf x < m) :
  (Zi (m+1)).2.2.1 ⟨zs l N,(l.length:Int)⟩ (b:Int) ks=some ⟨zs (lyK b ks l) N,((lyK b ks l).length:Int)⟩:=by
 have h3:=Vb (f:=sz) (xs:=ks) fun y hy=>(hk y hy).2
 rw [Z8f]
 unfold Qf
 have:=(Zev ks (fun i (s:List Int)=>(i,zs s N,(s.length:Int))) (fun s=>(zs s N,(s.length:Int))) (Xu (Zi m).1 (b:Int) ks) (fun l i x=>ly x l (b+i)) (fun i (s:List Int)=>(s.length:Int)=l.length+((ks.take i).map sz).sum) (by omega) (fun i s x hi hx hm' hI=>by
  obtain ⟨a1,a2,a3⟩:=Zrm hk hb hs i s x hi hx hm' hI
  refine ⟨?_,a3⟩
  unfold Xu
  simp only
  have e:IntKind.i64.wrap ((b:Int)+(i:Int))=((b+i:Nat):Int):=by rw [Yv (by omega) (by omega)];omega
  rw [Zds hi,cond_true,Yu hx,Option.bind_some,e,((hk x hm').1 s (b+i) a1 (by omega)).2.2 N m (by omega) hN2 (hm x hm'),Option.bind_some]) (fun s _=>by
  unfold Xu
  simp only
  rw [Zdf,cond_false]) l (by simp)).1
 rw [this]
 rfl
theorem Uk {a b:Int} (h:a=b):(a == b)=true:=by rw [h];exact beq_self_eq_true b
theorem Zrf {l:List Int} {a:Nat} (h:a < l.length):Zx l (a:Int)=some l[a]:=Yu (List.getElem?_eq_getElem h)
theorem Z5m {l:List Int} {a N:Nat} (h:a < l.length):Zx (zs l N) (a:Int)=some l[a]:=Yu (Z59 (List.getElem?_eq_getElem h))
theorem Z3r {ks:List Tr} (h:ks=[]) (b b':Nat) (l:List Int):lyK b ks l=lyK b' ks l:=by subst h;rfl
theorem Z2r {t:Tr} (h0:t.Kind=0):Sim t:=fun l a ha hs=>by
 have e:sz t=0:=by
  rw [Zlp,if_neg (by omega),if_neg (by omega),if_neg (by omega),if_neg (by omega)]
 exact (Zse (R:=l) (by omega) (fun j _=>by
  unfold Xc
  rw [Uk h0,cond_true]) (fun N k _ _ _=>by
  rw [Z3p]
  unfold Xd
  rw [Uk h0,cond_true])).2
def Zoy (t:Tr) (l:List Int) (a:Nat):Int:=if t.Words.length+t.Kids.length=0 then -1 else (l.length:Int) - a - 1
def RS1 (t:Tr) (l:List Int) (a:Nat):List Int:=Z9 l (a:Int) (Zoy t l a % 1073741824 * 4+(t.Words.length:Int) * 4294967296+(t.Kids.length:Int) * 281474976710656)++t.Words++List.replicate t.Kids.length 0
theorem Zrn {t:Tr} (h1:t.Kind=1) (hw:t.Words.length < 65536) (hkl:t.Kids.length < 65536) (hk:∀ x∈t.Kids,Sim x∧0≤sz x) (l:List Int) (a:Nat) (ha:a < l.length) (hs:(l.length:Int)+sz t≤131072) :
  ly t l a=lyK (l.length+t.Words.length) t.Kids (RS1 t l a)∧((ly t l a).length:Int)=l.length+sz t∧(∀ j,SizeOf.sizeOf t < j→Yb j l (a:Int) t=some (ly t l a)) ∧
  (∀ N k:Nat,(l.length:Int)+sz t≤N→N≤131072→4 * SizeOf.sizeOf t < k→(Zi k).1 ⟨zs l N,(l.length:Int)⟩ (a:Int) t=some ⟨zs (ly t l a) N,((ly t l a).length:Int)⟩):=by
 have es:sz t=((t.Words.length:Int)+(t.Kids.length:Int))+(t.Kids.map sz).sum:=by rw [Zlp,if_pos h1]
 have s0:=Vb (f:=sz) (xs:=t.Kids) fun y hy=>(hk y hy).2
 have k0:(t.Kind == 0)=false:=Vq (by omega)
 have k1:(t.Kind == 1)=true:=Uk h1
 have l2:(RS1 t l a).length=l.length+t.Words.length+t.Kids.length:=by unfold RS1;rw [List.length_append,List.length_append,Ya,List.length_replicate]
 have hb:l.length+t.Words.length+t.Kids.length≤(RS1 t l a).length:=by omega
 have hs2:((RS1 t l a).length:Int)+(t.Kids.map sz).sum≤131072:=by omega
 have len:=Zqv hk hb hs2
 have ho:-536870912≤Zoy t l a∧Zoy t l a < 536870912∧¬ (Zoy t l a=0∧(t.Words.length:Int)=0∧(t.Kids.length:Int)=0):=by unfold Zoy;split <;> omega
 refine Zse (by rw [len];omega) (fun j hj => ?_) (fun N k hN hN2 hkk => ?_)
 ·unfold Xc
  rw [k0,cond_false,k1,cond_true]
  have ez:(cond ((IntKind.i64.wrap ((t.Words.length:Int)+(t.Kids.length:Int))) == 0) (some (a:Int)) (some (l.length:Int)))=some (((if t.Words.length+t.Kids.length=0 then a else l.length:Nat):Nat):Int):=by
   rw [Yv (by omega) (by omega)]
   by_cases q:t.Words.length+t.Kids.length=0
   ·rw [Uk (by omega),cond_true,if_pos q]
   rw [Vq (by omega),cond_false,if_neg q]
  rw [ez,Option.bind_some]
  generalize ht:(if t.Words.length+t.Kids.length=0 then a else l.length)=tt
  have hto:tt≤l.length∧(tt:Int) - a - 1=Zoy t l a∧(tt=l.length∨t.Kids=[]):=by
   unfold Zoy
   by_cases q:t.Words.length+t.Kids.length=0
   ·rw [if_pos q] at ht ⊢
    exact ⟨by omega,by omega,.inr (List.length_eq_zero_iff.1 (by omega))⟩
   rw [if_neg q] at ht ⊢
   exact ⟨by omega,by omega,.inl ht.symm⟩
  have hto3:t.Kids.length=0∨tt=l.length:=by
   rcases hto.2.2 with h | h
   ·exact .inr h
   exact .inl (by rw [h];rfl)
  rw [Zbd (x:=(t.Words.length:Int)) (by omega) (by omega),Zbd (x:=(t.Kids.length:Int)) (by omega) (by omega),Zbd (x:=65536 * _) (by omega) (by omega),Zbd (by omega) (by omega),Zpd (by omega) (by omega) (by omega) (by omega) (by decide) (by decide) (by omega) (by omega),Option.bind_some,Zrf ha,Option.bind_some,hto.2.1]
  have ev:Zoy t l a % 1073741824 * 4+0+((t.Words.length:Int)+65536 * (t.Kids.length:Int)) * 4294967296=Zoy t l a % 1073741824 * 4+(t.Words.length:Int) * 4294967296+(t.Kids.length:Int) * 281474976710656:=by omega
  rw [ev,Zdy (by rw [Ya];omega) (by rw [Ya];omega),Option.bind_some,Zux (by rw [List.length_append,Ya];omega),Option.bind_some]
  have:=Z1r (b:=tt+t.Words.length) hk (by omega) hs2 j (K4 (Yb j) t (tt:Int)) (fun x hx=>by have:=Yw hx;omega) (fun i s x s' hi hx hm hq=>by
   unfold K4
   simp only
   have e:IntKind.i64.wrap (IntKind.i64.wrap ((tt:Int)+(t.Words.length:Int))+(i:Int))=((tt+t.Words.length+i:Nat):Int):=by rw [Yv (x:=(tt:Int)+_) (by omega) (by omega),Yv (by omega) (by omega)];omega
   rw [Zds hi,cond_true,Yu hx,Option.bind_some,e,hq,Option.bind_some]) (fun s=>by
   unfold K4
   simp only
   rw [Zdf,cond_false])
  unfold RS1 at this ⊢
  rw [this,Option.bind_some]
  rcases hto.2.2 with h | h
  ·rw [h]
  rw [Z3r h]
 rw [Z3p]
 unfold Xd
 rw [k0,cond_false]
 have e1:Q2 t=some (⟨1,0,(t.Words.length:Int),(t.Kids.length:Int),0,0,0,false⟩:Zw):=by unfold Q2;rw [k1,cond_true]
 have e2:Yz (⟨1,0,(t.Words.length:Int),(t.Kids.length:Int),0,0,0,false⟩:Zw)=some ((t.Words.length:Int)+(t.Kids.length:Int),true):=by
  unfold Yz
  simp only
  rw [Uk rfl,cond_true,Yv (by omega) (by omega)]
 have e3:(cond (cond ((1:Int) == 1) (((t.Words.length:Int)+(t.Kids.length:Int)) == 0) false) (some (-1)) (some (IntKind.i64.wrap ((IntKind.i64.wrap ((l.length:Int) - (a:Int))) - 1))))=some (Zoy t l a):=by
  unfold Zoy
  rw [Yv (x:=(l.length:Int) - (a:Int)) (by omega) (by omega),Yv (by omega) (by omega),Uk rfl,cond_true]
  by_cases q:t.Words.length+t.Kids.length=0
  ·rw [Uk (by omega),cond_true,if_pos q]
  rw [Vq (by omega),cond_false,if_neg q]
 rw [e1,Option.bind_some,e2,Option.bind_some]
 simp only
 rw [e3,Option.bind_some,Z3d ho.1 ho.2.1 (by omega) (by omega) (by omega) (by omega) ho.2.2,Option.bind_some,Z5m ha,Option.bind_some,Zzb ha,Z3q]
 unfold Yx
 simp only
 rw [k1,cond_true]
 have l1:=Ya l (a:Int) (Zoy t l a % 1073741824 * 4+(t.Words.length:Int) * 4294967296+(t.Kids.length:Int) * 281474976710656)
 unfold RS1 at l2 len hb hs2 ⊢
 generalize Z9 l (a:Int) (Zoy t l a % 1073741824 * 4+(t.Words.length:Int) * 4294967296+(t.Kids.length:Int) * 281474976710656)=m at *
 rw [Ztu (by omega),Ge (by omega),Option.bind_some,Yv (x:=(l.length:Int)+_) (by omega) (by omega),Yv (by omega) (by omega),← l1,Zza (by omega),← Zv8 (n:=t.Kids.length) (by rw [List.length_append];omega)]
 have:=Z1q hk hb hs2 N (k+1) (by omega) hN2 (fun x hx=>by have:=Yw hx;omega)
 have e4:(m.length:Int)+((min t.Words.length (((N:Nat):Int) - (m.length:Int)).toNat:Nat):Int)=((m.length+t.Words.length:Nat):Int):=by omega
 have e5:(m.length:Int)+((t.Words.length:Int)+(t.Kids.length:Int))=((m++t.Words++List.replicate t.Kids.length 0).length:Int):=by omega
 rw [e4,e5,← l1] at *
 rw [this]
 rfl
theorem Z54 {c:Int} (h:0≤c∧c≤6):Zgi c=some (if c=6 then 64 else ((wid c:Nat):Int)):=by
 have:c=0∨c=1∨c=2∨c=3∨c=4∨c=5∨c=6:=by omega
 rcases this with rfl | rfl | rfl | rfl | rfl | rfl | rfl <;> rfl
def rmL (c:Int) (n:Nat):Nat:=if c=6 then n else (n * wid c+63) / 64
theorem Z2g {c off:Int} {n:Nat} (h:0≤c∧c≤6) (hn:n≤200000):Yz (⟨2,off,0,0,c,(n:Int),0,false⟩:Zw)=some (((rmL c n:Nat):Int),true):=by
 unfold Yz
 simp only
 rw [Vq (a:=2) (b:=1) (by decide),cond_false,Uk (a:=2) (b:=2) rfl,cond_true,Vq (a:=c) (b:=7) (by omega),cond_false,cond_true,decide_eq_true (by omega),cond_true,decide_eq_true (by omega),cond_true,decide_eq_true (by omega),cond_true,decide_eq_true (by omega),cond_true,Z54 h,Option.bind_some]
 unfold rmL
 by_cases q:c=6
 ·rw [if_pos q,if_pos q,Yv (x:=(n:Int) * 64) (by omega) (by omega),Yv (x:=(n:Int) * 64+63) (by omega) (by omega),Int.tdiv_eq_ediv_of_nonneg (by omega),Yv (by omega) (by omega)]
  congr 2
  omega
 rw [if_neg q,if_neg q]
 have hb:wid c≤64:=by rcases c5' (show 0≤c∧c≤5 by omega) with rfl | rfl | rfl | rfl | rfl | rfl <;> decide
 have hm:n * wid c≤200000 * 64:=Nat.mul_le_mul hn hb
 rw [← Int.natCast_mul]
 generalize n * wid c=m at hm ⊢
 rw [Yv (x:=(m:Int)) (by omega) (by omega),Yv (x:=(m:Int)+63) (by omega) (by omega),Int.tdiv_eq_ediv_of_nonneg (by omega),Yv (by omega) (by omega)]
 congr 1
def hdL (t:Tr) (l:List Int) (a:Nat):Int:=((l.length:Int) - a - 1) % 1073741824 * 4+1+(t.Kind - 2) * 4294967296+(t.Kids.length:Int) * 34359738368
theorem Z50 {t:Tr} (h2:2≤t.Kind∧t.Kind≤8):Q2 t=some (⟨2,0,0,0,t.Kind - 2,(t.Kids.length:Int),0,false⟩:Zw):=by
 unfold Q2
 rw [Vq (by omega),cond_false,Vq (by omega),cond_false,Yv (by omega) (by omega)]
theorem Zr2 {t:Tr} (h2:2≤t.Kind∧t.Kind≤8) (hn:t.Kids.length≤200000) {l:List Int} {a N:Nat} (ha:a < l.length) (hl:l.length≤131072) (k:Nat) :
  (Zi (k+1)).1 ⟨zs l N,(l.length:Int)⟩ (a:Int) t=((Zi k).2.1 ⟨zs (Z9 l (a:Int) (hdL t l a)) N,((l.length+rmL (t.Kind - 2) t.Kids.length:Nat):Int)⟩ (l.length:Int) t).bind fun y=>some ⟨y.words,y.next⟩:=by
 rw [Z3p]
 unfold Xd
 have hr:rmL (t.Kind - 2) t.Kids.length≤t.Kids.length:=by
  unfold rmL
  split
  ·exact Nat.le_refl _
  exact Zv0 (by omega) _
 rw [Vq (by omega),cond_false,Z50 h2,Option.bind_some,Z2g (by omega) hn,Option.bind_some]
 simp only
 rw [Vq (a:=2) (b:=1) (by decide),cond_false,cond_false,Option.bind_some,Yv (x:=(l.length:Int) - (a:Int)) (by omega) (by omega),Yv (by omega) (by omega),Z5i (by omega) (by omega) (by omega) (by omega) (by omega) (by omega),Option.bind_some,Z5m ha,Option.bind_some,Zzb ha,Yv (by omega) (by omega)]
 rfl
theorem Zw2 {t:Tr} (h8:t.Kind=8) (hn:t.Kids.length≤200000) (hk:∀ x∈t.Kids,Sim x∧0≤sz x) (l:List Int) (a:Nat) (ha:a < l.length) (hs:(l.length:Int)+sz t≤131072) :
  ly t l a=lyK l.length t.Kids (Z9 l (a:Int) (hdL t l a)++List.replicate t.Kids.length 0)∧((ly t l a).length:Int)=l.length+sz t∧(∀ j,SizeOf.sizeOf t < j→Yb j l (a:Int) t=some (ly t l a)) ∧
  (∀ N k:Nat,(l.length:Int)+sz t≤N→N≤131072→4 * SizeOf.sizeOf t < k→(Zi k).1 ⟨zs l N,(l.length:Int)⟩ (a:Int) t=some ⟨zs (ly t l a) N,((ly t l a).length:Int)⟩):=by
 have es:sz t=(t.Kids.length:Int)+(t.Kids.map sz).sum:=by rw [Zlp,if_neg (by omega),if_neg (by omega),if_pos h8]
 have s0:=Vb (f:=sz) (xs:=t.Kids) fun y hy=>(hk y hy).2
 have l1:=Ya l (a:Int) (hdL t l a)
 have l2:(Z9 l (a:Int) (hdL t l a)++List.replicate t.Kids.length 0).length=l.length+t.Kids.length:=by rw [List.length_append,Ya,List.length_replicate]
 have hb:l.length+t.Kids.length≤(Z9 l (a:Int) (hdL t l a)++List.replicate t.Kids.length 0).length:=by omega
 have hs2:((Z9 l (a:Int) (hdL t l a)++List.replicate t.Kids.length 0).length:Int)+(t.Kids.map sz).sum≤131072:=by omega
 have len:=Zqv hk hb hs2
 refine Zse (by rw [len];omega) (fun j hj => ?_) (fun N k hN hN2 hkk => ?_)
 ·unfold Xc
  rw [Vq (by omega),cond_false,Vq (by omega),cond_false,Uk h8,cond_true,Zbd (x:=(t.Kids.length:Int)) (by omega) (by omega),Zbd (x:=8 * _) (by omega) (by omega),Zbd (by omega) (by omega),Zpd (by omega) (by omega) (by omega) (by omega) (by decide) (by decide) (by omega) (by omega),Option.bind_some,Zrf ha,Option.bind_some]
  have ev:((l.length:Int) - (a:Int) - 1) % 1073741824 * 4+1+(6+8 * (t.Kids.length:Int)) * 4294967296=hdL t l a:=by unfold hdL;rw [h8];omega
  rw [ev,Zux (by omega),Option.bind_some]
  have:=Z1r hk hb hs2 j (K5 (Yb j) l t) (fun x hx=>by have:=Yw hx;omega) (fun i s x s' hi hx hm hq=>by
   unfold K5
   simp only
   have e:IntKind.i64.wrap ((l.length:Int)+(i:Int))=((l.length+i:Nat):Int):=by rw [Yv (by omega) (by omega)];omega
   rw [Zds hi,cond_true,Yu hx,Option.bind_some,e,hq,Option.bind_some]) (fun s=>by
   unfold K5
   simp only
   rw [Zdf,cond_false])
  rw [this,Option.bind_some]
 rw [Zr2 (by omega) hn ha (by omega),Z3q]
 unfold Yx
 simp only
 rw [Vq (by omega),cond_false,Uk h8,cond_true]
 have e0:rmL (t.Kind - 2) t.Kids.length=t.Kids.length:=by unfold rmL;rw [if_pos (by omega)]
 have:=Z1q hk hb hs2 N (k+1) (by omega) hN2 (fun x hx=>by have:=Yw hx;omega)
 rw [Zv8 (by omega),l2] at this
 rw [e0,this]
 rfl
theorem Zw1 {t:Tr} (h2:2≤t.Kind∧t.Kind≤7) (hn:t.Kids.length≤200000) (hat:∀ k∈t.Kids,∃ w,k.Words=[w]∧0≤w∧w < 18446744073709551616∧Zbj (t.Kind - 2) w=true) (l:List Int) (a:Nat) (ha:a < l.length) (hs:(l.length:Int)+sz t≤131072) :
  ly t l a=Z9 l (a:Int) (hdL t l a)++Ze9 (t.Kind - 2) (ato t)∧((ly t l a).length:Int)=l.length+sz t∧(∀ j,SizeOf.sizeOf t < j→Yb j l (a:Int) t=some (ly t l a)) ∧
  (∀ N k:Nat,(l.length:Int)+sz t≤N→N≤131072→4 * SizeOf.sizeOf t < k→(Zi k).1 ⟨zs l N,(l.length:Int)⟩ (a:Int) t=some ⟨zs (ly t l a) N,((ly t l a).length:Int)⟩):=by
 have es:sz t=((rmL (t.Kind - 2) t.Kids.length:Nat):Int):=by
  rw [Zlp,if_neg (by omega),if_pos h2]
  unfold Zmj rmL
  rw [if_neg (by omega)]
 have hr:rmL (t.Kind - 2) t.Kids.length≤t.Kids.length:=by
  unfold rmL
  rw [if_neg (by omega)]
  exact Zv0 (by omega) _
 have l1:=Ya l (a:Int) (hdL t l a)
 have hp:(Ze9 (t.Kind - 2) (ato t)).length=rmL (t.Kind - 2) t.Kids.length:=by
  have:=(Zpk (c:=t.Kind - 2) (by omega) (ns:=ato t) (by rw [Zdz];omega) (fun n hn=>by
   obtain ⟨k,hk,rfl⟩:=List.mem_map.1 hn
   obtain ⟨w,hw,h0,_,h1⟩:=hat k hk
   rw [hw]
   exact ⟨h0,h1⟩)).2
  rw [this,Zdz]
  unfold rmL
  rw [if_neg (by omega)]
 have l2:(Z9 l (a:Int) (hdL t l a)++Ze9 (t.Kind - 2) (ato t)).length=l.length+rmL (t.Kind - 2) t.Kids.length:=by rw [List.length_append,Ya,hp]
 refine Zse (by rw [l2];omega) (fun j hj => ?_) (fun N k hN hN2 hkk => ?_)
 ·unfold Xc
  rw [Vq (by omega),cond_false,Vq (by omega),cond_false,Vq (by omega),cond_false,Vq (by omega),cond_false,Z1e (by omega) (fun k hk=>by obtain ⟨w,a,b,_,c⟩:=hat k hk;exact ⟨w,a,b,c⟩),Option.bind_some,Yv (x:=t.Kind - 2) (by omega) (by omega),Z2j (by omega) (by rw [Zdz];omega) (fun n hn=>by
   obtain ⟨k,hk,rfl⟩:=List.mem_map.1 hn
   obtain ⟨w,hw,h0,h1,h2⟩:=hat k hk
   rw [hw]
   exact ⟨h0,h1,h2⟩),Option.bind_some,Zbd (x:=t.Kind - 2) (by omega) (by omega),Zbd (x:=(t.Kids.length:Int)) (by omega) (by omega),Zbd (x:=8 * _) (by omega) (by omega),Zbd (by omega) (by omega),Zpd (by omega) (by omega) (by omega) (by omega) (by decide) (by decide) (by omega) (by omega),Option.bind_some,Zrf ha,Option.bind_some]
  have ev:((l.length:Int) - (a:Int) - 1) % 1073741824 * 4+1+(t.Kind - 2+8 * (t.Kids.length:Int)) * 4294967296=hdL t l a:=by unfold hdL;omega
  simp only
  rw [ev,Zdy (by omega) (by omega)]
  rfl
 rw [Zr2 (by omega) hn ha (by omega),Z3q]
 unfold Yx
 simp only
 rw [Vq (by omega),cond_false,Vq (by omega),cond_false,Vq (by omega),cond_false,Ztu (by omega),Ge (by omega),Option.bind_some,Zym h2 (by omega) (fun k hk=>by obtain ⟨w,a,b,_,c⟩:=hat k hk;exact ⟨w,a,b,c⟩),Option.bind_some,Option.bind_some]
 have:=Zza (l:=Z9 l (a:Int) (hdL t l a)) (ys:=Ze9 (t.Kind - 2) (ato t)) (N:=N) (by omega)
 rw [l1] at this
 simp only
 rw [this,l2]
theorem Z6a {l:List Int} {N:Nat} (v:Int) (h:l.length < N):Z9 (zs l N) (l.length:Int) v=zs (l++[v]) N:=by
 unfold zs Z9
 rw [Int.toNat_natCast,List.set_append_right _ _ (Nat.le_refl _),Nat.sub_self,List.length_append,List.length_singleton,List.append_assoc]
 congr 1
 obtain ⟨m,hm⟩:∃ m,N - l.length=m+1:=⟨N - l.length - 1,by omega⟩
 have:N - (l.length+1)=m:=by omega
 rw [hm,this,List.replicate_succ,List.set_cons_zero]
 rfl
def cpW (W K:Nat) (ks:List Tr) (l:List Int):List Int:=Gk (fun s _ x=>s++x.Words++List.replicate (W+K - x.Words.length) 0) l 0 ks
noncomputable def cpK (W K b:Nat) (ks:List Tr) (l:List Int):List Int:=Gk (fun s i x=>lyK (b+i * (W+K)+W) x.Kids s) l 0 ks
def hd9 (t:Tr) (W K:Nat) (l:List Int) (a:Nat):Int:=((l.length:Int) - a - 1) % 1073741824 * 4+1+7 * 4294967296+((t.Kids.length * (W+K):Nat):Int) * 34359738368
def Zd1 (t:Tr) (W K:Nat):Int:=(t.Kids.length:Int) * 4+(W:Int) * 4294967296+(K:Int) * 281474976710656
theorem Zdi {i n m:Nat} (h:i < n):i * m+m≤n * m:=by
 have:=Nat.mul_le_mul_right m (show i+1≤n by omega)
 rwa [Nat.add_mul,Nat.one_mul] at this
theorem Zze {W K:Nat} {ks:List Tr} (hw:∀ x∈ks,x.Words.length≤W) (l:List Int):(cpW W K ks l).length=l.length+ks.length * (W+K) :=
 Zu5 (f:=fun (s:List Int) _ (x:Tr)=>s++x.Words++List.replicate (W+K - x.Words.length) 0) (fun i s=>s.length=l.length+i * (W+K)) ks (fun i s x hi hx hm hI=>by
  have:=hw x hm
  rw [List.length_append,List.length_append,List.length_replicate,hI,Nat.add_mul,Nat.one_mul]
  omega) (s:=l) (by omega)
def szK (k:Tr):Int:=(k.Kids.map sz).sum
theorem Zw0 {t:Tr} (h9:t.Kind=9) (hn:t.Kids.length≤200000) {W K:Nat} (hf:fr t.Kids=((W:Int),(K:Int))) (hW:W≤65535) (hK:K≤65535) (hwk:∀ x∈t.Kids,x.Words.length≤W∧x.Kids.length≤K)
  (hk:∀ x∈t.Kids,∀ y∈x.Kids,Sim y∧0≤sz y) (es:sz t=1+((t.Kids.length * (W+K):Nat):Int)+(t.Kids.map szK).sum) (l:List Int) (a:Nat) (ha:a < l.length) (hs:(l.length:Int)+sz t≤131072) :
  ly t l a=cpK W K (l.length+1) t.Kids (cpW W K t.Kids (Z9 l (a:Int) (hd9 t W K l a)++[Zd1 t W K]))∧((ly t l a).length:Int)=l.length+sz t∧(∀ j,SizeOf.sizeOf t < j→Yb j l (a:Int) t=some (ly t l a)) ∧
  (∀ N k:Nat,(l.length:Int)+sz t≤N→N≤131072→4 * SizeOf.sizeOf t < k→(Zi k).1 ⟨zs l N,(l.length:Int)⟩ (a:Int) t=some ⟨zs (ly t l a) N,((ly t l a).length:Int)⟩):=by
 have hq:∀ x∈t.Kids,0≤szK x:=fun x hx=>Vb fun y hy=>(hk x hx y hy).2
 have s0:=Vb (f:=szK) (xs:=t.Kids) hq
 have hc:t.Kids.length * (W+K)≤131072:=by omega
 have ec:IntKind.i64.wrap ((t.Kids.length:Int) * (IntKind.i64.wrap ((W:Int)+(K:Int))))=((t.Kids.length * (W+K):Nat):Int):=by
  rw [Yv (x:=(W:Int)+_) (by omega) (by omega),← Int.natCast_add,← Int.natCast_mul,Yv (by omega) (by omega)]
 have ei:∀ i:Nat,i < t.Kids.length→IntKind.i64.wrap ((IntKind.i64.wrap ((l.length:Int)+1))+(IntKind.i64.wrap ((i:Int) * (IntKind.i64.wrap ((W:Int)+(K:Int))))))=((l.length+1+i * (W+K):Nat):Int):=fun i hi=>by
  have:=Zdi (m:=W+K) hi
  rw [Yv (x:=(W:Int)+_) (by omega) (by omega),← Int.natCast_add,← Int.natCast_mul,Yv (x:=(l.length:Int)+1) (by omega) (by omega),Yv (x:=((i * (W+K):Nat):Int)) (by omega) (by omega),Yv (by omega) (by omega)]
  omega
 have l1:=Ya l (a:Int) (hd9 t W K l a)
 have l3:(Z9 l (a:Int) (hd9 t W K l a)++[Zd1 t W K]).length=l.length+1:=by rw [List.length_append,l1];rfl
 have l4:(cpW W K t.Kids (Z9 l (a:Int) (hd9 t W K l a)++[Zd1 t W K])).length=l.length+1+t.Kids.length * (W+K):=by rw [Zze (fun x hx=>(hwk x hx).1),l3]
 generalize hL4:cpW W K t.Kids (Z9 l (a:Int) (hd9 t W K l a)++[Zd1 t W K])=L4 at *
 have kst:∀ (i:Nat) (s:List Int) (x:Tr),i < t.Kids.length→t.Kids[i]? = some x→x∈t.Kids→(s.length:Int)=L4.length+((t.Kids.take i).map szK).sum →
   l.length+1+i * (W+K)+W+x.Kids.length≤s.length∧(s.length:Int)+(x.Kids.map sz).sum≤l.length+sz t∧((lyK (l.length+1+i * (W+K)+W) x.Kids s).length:Int)=L4.length+((t.Kids.take (i+1)).map szK).sum:=fun i s x hi hx hm hI=>by
  obtain ⟨h1,h2⟩:=Zxp (f:=szK) hx hq
  have h3:=Vb (f:=szK) (xs:=t.Kids.take i) fun y hy=>hq y (List.mem_of_mem_take hy)
  have h4:=Zdi (m:=W+K) hi
  have h5:=(hwk x hm).2
  have h8:szK x=(x.Kids.map sz).sum:=rfl
  have h6:l.length+1+i * (W+K)+W+x.Kids.length≤s.length:=by omega
  have h7:=Zqv (ks:=x.Kids) (hk x hm) h6 (by omega)
  exact ⟨h6,by omega,by omega⟩
 have len:((cpK W K (l.length+1) t.Kids L4).length:Int)=l.length+sz t:=by
  have:=Zu5 (f:=fun (s:List Int) i (x:Tr)=>lyK (l.length+1+i * (W+K)+W) x.Kids s) (fun i s=>(s.length:Int)=L4.length+((t.Kids.take i).map szK).sum) t.Kids (fun i s x hi hx hm hI=>(kst i s x hi hx hm hI).2.2) (s:=L4) (by simp)
  rw [List.take_length] at this
  unfold cpK
  omega
 refine Zse len (fun j hj => ?_) (fun N k hN hN2 hkk => ?_)
 ·unfold Xc
  rw [Vq (by omega),cond_false,Vq (by omega),cond_false,Vq (by omega),cond_false,Uk h9,cond_true,Z01 (by omega),Option.bind_some,hf]
  simp only
  rw [ec,Zbd (x:=((t.Kids.length * (W+K):Nat):Int)) (by omega) (by omega),Zbd (x:=8 * _) (by omega) (by omega),Zbd (x:=7+_) (by omega) (by omega),Zpd (by omega) (by omega) (by omega) (by omega) (by decide) (by decide) (by omega) (by omega),Option.bind_some,Zrf ha,Option.bind_some]
  have ev:((l.length:Int) - (a:Int) - 1) % 1073741824 * 4+1+(7+8 * ((t.Kids.length * (W+K):Nat):Int)) * 4294967296=hd9 t W K l a:=by unfold hd9;omega
  rw [ev,Yv (x:=4 * (t.Kids.length:Int)) (by omega) (by omega),Zbd (x:=4 * (t.Kids.length:Int)) (by omega) (by omega),Zbd (x:=(W:Int)) (by omega) (by omega),Zbd (x:=(K:Int)) (by omega) (by omega),Zbd (x:=65536 * _) (by omega) (by omega),Zbd (x:=(W:Int)+_) (by omega) (by omega),Zbd (x:=4294967296 * _) (by omega) (by omega),Zbd (x:=4 * (t.Kids.length:Int)+_) (by omega) (by omega)]
  have et:4 * (t.Kids.length:Int)+4294967296 * ((W:Int)+65536 * (K:Int))=Zd1 t W K:=by unfold Zd1;omega
  rw [et,Zdy (by rw [l1];simp only [List.length_singleton];omega) (by rw [l1];simp only [List.length_singleton];omega),Option.bind_some]
  have a1:=(Zev t.Kids (fun i s=>(i,s)) (fun s=>s) (K6 t ((W:Int),(K:Int))) (fun (s:List Int) _ (x:Tr)=>s++x.Words++List.replicate (W+K - x.Words.length) 0) (fun i s=>s.length=l.length+1+i * (W+K)) (by omega) (fun i s x hi hx hm hI=>by
   have h5:=(hwk x hm).1
   have h4:=Zdi (m:=W+K) hi
   refine ⟨?_,by rw [List.length_append,List.length_append,List.length_replicate,hI,Nat.add_mul,Nat.one_mul];omega⟩
   unfold K6
   simp only
   have e:IntKind.i64.wrap (IntKind.i64.wrap ((W:Int)+(K:Int)) - (x.Words.length:Int))=((W+K - x.Words.length:Nat):Int):=by rw [Yv (x:=(W:Int)+_) (by omega) (by omega),Yv (by omega) (by omega)];omega
   rw [Zds hi,cond_true,Yu hx,Option.bind_some,Zdy (by omega) (by omega),Option.bind_some,Option.bind_some,e,Zux (by rw [List.length_append];omega),Option.bind_some]) (fun s _=>by
   unfold K6
   simp only
   rw [Zdf,cond_false]) (Z9 l (a:Int) (hd9 t W K l a)++[Zd1 t W K]) (by rw [l3];omega)).1
  unfold cpW at hL4
  rw [a1,Option.bind_some,hL4]
  have a2:=(Zev t.Kids (fun i s=>(i,s)) (fun s=>s) (K7 (Yb j) l t ((W:Int),(K:Int))) (fun (s:List Int) i (x:Tr)=>lyK (l.length+1+i * (W+K)+W) x.Kids s) (fun i s=>(s.length:Int)=L4.length+((t.Kids.take i).map szK).sum) (by omega) (fun i s x hi hx hm hI=>by
   obtain ⟨b1,b2,b3⟩:=kst i s x hi hx hm hI
   refine ⟨?_,b3⟩
   have b5:0≤(x.Kids.map sz).sum:=hq x hm
   have b4:=Z1r (ks:=x.Kids) (hk x hm) b1 (by omega) j (K8 (Yb j) l t ((W:Int),(K:Int)) ((i:Int),s)) (fun y hy=>by have:=Yw hm;have:=Yw hy;omega) (fun i' s' y s'' hi' hy hm' hq=>by
    unfold K8
    simp only
    have e:IntKind.i64.wrap (IntKind.i64.wrap (((l.length+1+i * (W+K):Nat):Int)+(W:Int))+(i':Int))=((l.length+1+i * (W+K)+W+i':Nat):Int):=by rw [Yv (x:=_+(W:Int)) (by omega) (by omega),Yv (by omega) (by omega)];omega
    rw [Yu hx,Option.bind_some,Zds hi',cond_true,Option.bind_some,Yu hy,Option.bind_some,ei i hi,e,hq,Option.bind_some]) (fun s'=>by
    unfold K8
    simp only
    rw [Yu hx,Option.bind_some,Zdf,cond_false])
   unfold K7
   simp only
   rw [Zds hi,cond_true,b4,Option.bind_some]) (fun s _=>by
   unfold K7
   simp only
   rw [Zdf,cond_false]) L4 (by simp)).1
  rw [a2]
  rfl
 rw [Z3p]
 unfold Xd
 have e1:Q2 t=some (⟨2,0,0,0,7,((t.Kids.length * (W+K):Nat):Int),0,false⟩:Zw):=by
  unfold Q2
  rw [Vq (by omega),cond_false,Uk h9,cond_true,Zkx (by omega),Option.bind_some,hf]
  simp only
  rw [ec]
 have e2:Yz (⟨2,0,0,0,7,((t.Kids.length * (W+K):Nat):Int),0,false⟩:Zw)=some (((t.Kids.length * (W+K):Nat):Int)+1,true):=by
  unfold Yz
  simp only
  rw [Vq (a:=2) (b:=1) (by decide),cond_false,Uk (a:=2) (b:=2) rfl,cond_true,Uk (a:=7) (b:=7) rfl,cond_true,Yv (by omega) (by omega)]
 rw [Vq (by omega),cond_false,e1,Option.bind_some,e2,Option.bind_some]
 simp only
 rw [Vq (a:=2) (b:=1) (by decide),cond_false,cond_false,Option.bind_some,Yv (x:=(l.length:Int) - (a:Int)) (by omega) (by omega),Yv (by omega) (by omega),Z5i (by omega) (by omega) (by omega) (by omega) (by omega) (by omega),Option.bind_some,Z5m ha,Option.bind_some,Zzb ha,Yv (by omega) (by omega)]
 have ev:((l.length:Int) - (a:Int) - 1) % 1073741824 * 4+1+7 * 4294967296+((t.Kids.length * (W+K):Nat):Int) * 34359738368=hd9 t W K l a:=by unfold hd9;rfl
 simp only
 rw [ev,Z3q]
 unfold Yx
 simp only
 rw [Vq (by omega),cond_false,Vq (by omega),cond_false,Uk h9,cond_true,Z8g]
 unfold Qo
 rw [Zkx (by omega),Option.bind_some,hf]
 simp only
 have ez:(cond (decide (0 < (t.Kids.length:Int))) ((X6 (⟨1,(t.Kids.length:Int),(W:Int),(K:Int),0,0,0,false⟩:Zw)).bind fun y4=>(Zx (zs (Z9 l (a:Int) (hd9 t W K l a)) N) (l.length:Int)).bind fun x5=>some (Z9 (zs (Z9 l (a:Int) (hd9 t W K l a)) N) (l.length:Int) y4.1)) (some (zs (Z9 l (a:Int) (hd9 t W K l a)) N)))=some (zs (Z9 l (a:Int) (hd9 t W K l a)++[Zd1 t W K]) N):=by
  by_cases q:0 < t.Kids.length
  ·have g:Zx (zs (Z9 l (a:Int) (hd9 t W K l a)) N) (l.length:Int)=some (zs (Z9 l (a:Int) (hd9 t W K l a)) N)[l.length]! := by
    have:l.length < (zs (Z9 l (a:Int) (hd9 t W K l a)) N).length:=by rw [Ztu (by omega)];omega
    rw [Zrf this,List.getElem!_eq_getElem?_getD,List.getElem?_eq_getElem this]
    rfl
   rw [decide_eq_true (by omega),cond_true,Z3d (by omega) (by omega) (by omega) (by omega) (by omega) (by omega) (by omega),Option.bind_some,g,Option.bind_some]
   have:=Z6a (N:=N) (l:=Z9 l (a:Int) (hd9 t W K l a)) (Zd1 t W K) (by omega)
   rw [l1] at this
   rw [← this]
   congr 2
   unfold Zd1
   omega
  have q0:t.Kids=[]:=List.length_eq_zero_iff.1 (by omega)
  rw [q0] at hf
  have hW0:W=0∧K=0:=by
   have:((0:Int),(0:Int))=((W:Int),(K:Int)):=hf
   rw [Prod.mk.injEq] at this
   omega
  have t0:Zd1 t W K=0:=by unfold Zd1;rw [hW0.1,hW0.2,q0];rfl
  rw [decide_eq_false (by omega),cond_false,t0]
  have:=Zv8 (N:=N) (n:=1) (l:=Z9 l (a:Int) (hd9 t W K l a)) (by omega)
  rw [List.replicate_one] at this
  rw [this]
 rw [ez,Option.bind_some]
 have a1:=(Zev t.Kids (fun i s=>(i,zs s N)) (fun s=>zs s N) (X2 (l.length:Int) t ((W:Int),(K:Int))) (fun (s:List Int) _ (x:Tr)=>s++x.Words++List.replicate (W+K - x.Words.length) 0) (fun i s=>s.length=l.length+1+i * (W+K)) (by omega) (fun i s x hi hx hm hI=>by
  have h5:=(hwk x hm).1
  have h4:=Zdi (m:=W+K) hi
  refine ⟨?_,by rw [List.length_append,List.length_append,List.length_replicate,hI,Nat.add_mul,Nat.one_mul];omega⟩
  unfold X2
  simp only
  rw [Zds hi,cond_true,Yu hx,Option.bind_some,ei i hi,Ztu (by omega),Ge (by omega),Option.bind_some,← hI,Zza (by omega),Zv8 (by rw [List.length_append];omega)]) (fun s _=>by
  unfold X2
  simp only
  rw [Zdf,cond_false]) (Z9 l (a:Int) (hd9 t W K l a)++[Zd1 t W K]) (by rw [l3];omega)).1
 unfold cpW at hL4
 rw [a1,Option.bind_some,hL4]
 have a2:=(Zev t.Kids (fun i s=>(i,zs s N,(s.length:Int))) (fun s=>(zs s N,(s.length:Int))) (X3 (Zi (k+1)).2.2.1 (l.length:Int) t ((W:Int),(K:Int))) (fun (s:List Int) i (x:Tr)=>lyK (l.length+1+i * (W+K)+W) x.Kids s) (fun i s=>(s.length:Int)=L4.length+((t.Kids.take i).map szK).sum) (by omega) (fun i s x hi hx hm hI=>by
  obtain ⟨b1,b2,b3⟩:=kst i s x hi hx hm hI
  refine ⟨?_,b3⟩
  have b5:0≤(x.Kids.map sz).sum:=hq x hm
  have h4:=Zdi (m:=W+K) hi
  have b4:=Z1q (ks:=x.Kids) (hk x hm) b1 (by omega) N k (by omega) hN2 (fun y hy=>by have:=Yw hm;have:=Yw hy;omega)
  unfold X3
  simp only
  have e:IntKind.i64.wrap (((l.length+1+i * (W+K):Nat):Int)+(W:Int))=((l.length+1+i * (W+K)+W:Nat):Int):=by rw [Yv (by omega) (by omega)];omega
  rw [Zds hi,cond_true,Yu hx,Option.bind_some,ei i hi,e,b4,Option.bind_some]) (fun s _=>by
  unfold X3
  simp only
  rw [Zdf,cond_false]) L4 (by simp)).1
 have e6:(l.length:Int)+(((t.Kids.length * (W+K):Nat):Int)+1)=(L4.length:Int):=by omega
 rw [e6,a2]
 rfl
theorem Z1v {t:Tr} (h0:t.Kind=0) (l:List Int) (a:Nat):ly t l a=l:=by
 unfold ly
 show Option.getD (Xc (Yb (SizeOf.sizeOf t)) l (a:Int) t) []=l
 unfold Xc
 rw [Uk h0,cond_true]
 rfl
theorem Uf {kind:Int} {k:Tr} (h:¬ (2≤kind∧kind≤7)) (hk:okk kind k=true):¬ k.Kind=10∧(kind=9→k.Kind=1):=by
 unfold okk at hk
 rw [if_neg h,Bool.and_eq_true,bne_iff_ne,Bool.or_eq_true,bne_iff_ne,beq_iff_eq] at hk
 exact ⟨hk.1,fun h9=>by rcases hk.2 with h | h;exact absurd h9 h;exact h⟩
theorem Zr1 {kind:Int} {k:Tr} {d:Nat} (h:2≤kind∧kind≤7) (hb:Bd k) (hr:rt k d=true) (hk:okk kind k=true):∃ w,k.Words=[w]∧0≤w∧w < 18446744073709551616∧Zbj (kind - 2) w=true:=by
 unfold okk at hk
 rw [if_pos h,Bool.and_eq_true,beq_iff_eq] at hk
 obtain ⟨w,hw⟩:=Zur hk.1 hr
 have hu:=hb.u w (by rw [hw];exact .head _)
 refine ⟨w,hw,hu.1,hu.2,?_⟩
 have:=hk.2
 rwa [hw] at this
structure Fine (t:Tr) (d:Nat):Prop where
 bd:Bd t
 rt:rt t d=true
 pt:pt t≤200000
theorem Fine.kid {t x:Tr} {d:Nat} (h:Fine t d) (hx:x∈t.Kids):Fine x (d - 1):=⟨h.bd.all x hx,(Zi6 h.rt).2.2.2.2 x hx,by have:=h.pt;have:=Zvx hx;omega⟩
theorem Zq9 {t:Tr} {d:Nat} (h:Fine t d) (h9:t.Kind=9):∃ W K:Nat,fr t.Kids=((W:Int),(K:Int))∧W≤65535∧K≤65535∧(∀ x∈t.Kids,x.Words.length≤W∧x.Kids.length≤K)∧sz t=1+((t.Kids.length * (W+K):Nat):Int)+(t.Kids.map szK).sum:=by
 have p:=h.pt
 have pk:=Zd0 t
 obtain ⟨e,_,_,f0,f1,f2,f3,f4⟩:=Z1p (l:=t.Kids) (by omega) (fun x hx=>by
  obtain ⟨r1,r2⟩:=(Zav h.rt (by omega) (by omega)).2.2.2 x hx
  have k1:=(Uf (by omega) r2).2 h9
  obtain ⟨a1,a2,_⟩:=Zav r1 (by omega) (by omega)
  have:=a2 k1
  omega)
 obtain ⟨W,hW⟩:=Int.eq_ofNat_of_zero_le f0
 obtain ⟨K,hK⟩:=Int.eq_ofNat_of_zero_le f2
 rw [hW] at f1
 rw [hK] at f3
 refine ⟨W,K,Prod.ext hW hK,by omega,by omega,fun x hx => ?_,?_⟩
 ·have:=f4 x hx
  rw [hW,hK] at this
  omega
 rw [Zlp,if_neg (by omega),if_neg (by omega),if_neg (by omega),if_pos h9,e,hW,hK,← Int.natCast_add,← Int.natCast_mul]
 rfl
theorem Zpg:∀ (n:Nat) (t:Tr) (d:Nat),SizeOf.sizeOf t < n→Fine t d→¬ t.Kind=10→Sim t
 | 0,_,_,h,_,_=>by omega
 | n+1,t,d,h,hf,h10=>by
  have p:=hf.pt
  have pk:=Zd0 t
  obtain ⟨g1,g2,_⟩:=Zi6 hf.rt
  by_cases h0:t.Kind=0
  ·exact Z2r h0
  obtain ⟨i1,i2,i3,i4⟩:=Zav hf.rt h0 h10
  have hk:¬ (2≤t.Kind∧t.Kind≤7)→∀ x∈t.Kids,Sim x∧0≤sz x:=fun hn x hx =>
   ⟨Zpg n x (d - 1) (by have:=Yw hx;omega) (hf.kid hx) (Uf hn (i4 x hx).2).1,(Zuw (hf.kid hx).rt (hf.kid hx).pt).1⟩
  by_cases h1:t.Kind=1
  ·exact fun l a ha hs=>(Zrn h1 i1 (i2 h1) (hk (by omega)) l a ha hs).2
  by_cases h2:2≤t.Kind∧t.Kind≤7
  ·exact fun l a ha hs=>(Zw1 h2 (by omega) (fun k hk=>Zr1 h2 (hf.bd.all k hk) (hf.kid hk).rt (i4 k hk).2) l a ha hs).2
  by_cases h8:t.Kind=8
  ·exact fun l a ha hs=>(Zw2 h8 (by omega) (hk (by omega)) l a ha hs).2
  have h9:t.Kind=9:=by omega
  obtain ⟨W,K,e1,e2,e3,e4,e5⟩:=Zq9 hf h9
  exact fun l a ha hs=>(Zw0 h9 (by omega) e1 e2 e3 e4 (fun x hx y hy=>by
   have k1:=(Uf (by omega) (i4 x hx).2).2 h9
   have j4:=(Zav (hf.kid hx).rt (by omega) (by omega)).2.2.2 y hy
   have fy:=(hf.kid hx).kid hy
   exact ⟨Zpg n y (d - 1 - 1) (by have:=Yw hx;have:=Yw hy;omega) fy (Uf (by omega) j4.2).1,(Zuw fy.rt fy.pt).1⟩) e5 l a ha hs).2
theorem Fine.nrm {t:Tr} {d:Nat} (h:Fine t d):Fine (nrm t) d:=⟨h.bd.nrm,rtN h.rt,Nat.le_trans (Zzx _ t (Nat.lt_succ_self _)) h.pt⟩
noncomputable def enc (t:Tr) (most:Int):List Int×Bool:=if t.Kind=10∨rt t 64=false then ([],false) else if most≤sz (nrm t)∨131072≤sz (nrm t) then ([],false) else (ly (nrm t) [0] 0,true)
theorem Z6u {t:Tr} (hf:Fine t 64) (h10:¬ t.Kind=10) (hs:sz t < 131072):((ly t [0] 0).length:Int)=1+sz t∧Zpw [0] 0 t=some (ly t [0] 0)∧(Zdw 8 (IntKind.i64.wrap (1+sz t)) (0:Int)).bind (fun l11=>(K9 (⟨l11,1⟩:Ze) 0 t).bind fun y13=>some (y13.words,true))=some (ly t [0] 0,true):=by
 have s0:=(Zuw hf.rt hf.pt).1
 obtain ⟨a,b,c⟩:=Zpg _ t 64 (Nat.lt_succ_self _) hf h10 [0] 0 (by decide) (by simp only [List.length_singleton];omega)
 simp only [List.length_singleton] at a c
 refine ⟨by omega,Zpu (SizeOf.sizeOf t+1) fun k hk=>b k (by omega),?_⟩
 have e:K9 (⟨zs [0] (1+sz t).toNat,1⟩:Ze) 0 t=some ⟨zs (ly t [0] 0) (1+sz t).toNat,((ly t [0] 0).length:Int)⟩:=Zpu (4 * SizeOf.sizeOf t+1) fun k hk=>c (1+sz t).toNat k (by omega) (by omega) (by omega)
 have e2:List.replicate (1+sz t).toNat (0:Int)=zs [0] (1+sz t).toNat:=by
  unfold zs
  obtain ⟨m,hm⟩:∃ m,(1+sz t).toNat=m+1:=⟨(sz t).toNat,by omega⟩
  rw [hm,List.replicate_succ]
  rfl
 have e3:zs (ly t [0] 0) (1+sz t).toNat=ly t [0] 0:=by
  unfold zs
  rw [show (1+sz t).toNat - (ly t [0] 0).length=0 by omega,List.replicate_zero,List.append_nil]
 rw [Yv (by omega) (by omega),Zlb (by omega) (by omega) (by omega),Option.bind_some,e2,e,Option.bind_some,e3]
structure Nm (t:Tr) (d:Nat):Prop where
 f:Fine t d
 n:nrm t=t
 k:¬ t.Kind=10
theorem Nm.kid {t x:Tr} {d:Nat} (h:Nm t d) (h0:¬ t.Kind=0) (hx:x∈t.Kids) (h10:¬ x.Kind=10):Nm x (d - 1):=by
 refine ⟨h.f.kid hx,?_,h10⟩
 have hn:=h.n
 by_cases h1:t.Kind=1
 ·rw [Uy h1] at hn
  rw [← hn] at hx
  simp only at hx
  obtain ⟨y,_,rfl⟩:=List.mem_map.1 (Zkh hx)
  exact Zqw y
 rw [Zex h0 h1] at hn
 rw [← hn] at hx
 simp only at hx
 obtain ⟨y,_,rfl⟩:=List.mem_map.1 hx
 exact Zqw y
theorem Nm.words {t:Tr} {d:Nat} (h:Nm t d) (h1:t.Kind=1):tr (fun x=>x == 0) t.Words=t.Words:=by
 have hn:=h.n
 rw [Uy h1] at hn
 exact congrArg Zc.Words hn
theorem Nm.kids {t:Tr} {d:Nat} (h:Nm t d) (h1:t.Kind=1):tr (fun x=>x.Kind == 0) t.Kids=t.Kids:=by
 have hn:=h.n
 rw [Uy h1] at hn
 have:=congrArg Zc.Kids hn
 simp only at this
 rw [← this,Z0d]
theorem Nm.structs {t:Tr} {d:Nat} (h:Nm t d) (h9:t.Kind=9):∀ x∈t.Kids,Nm x (d - 1)∧x.Kind=1:=fun x hx=>by
 have k1:=(Uf (by omega) ((Zav h.f.rt (by omega) h.k).2.2.2 x hx).2).2 h9
 exact ⟨h.kid (by omega) hx (by omega),k1⟩
end Go.Proofs.Ytaddaloondpnkaa
