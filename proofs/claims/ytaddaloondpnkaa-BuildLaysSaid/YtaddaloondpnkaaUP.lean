/- Plain facts on this seat's mirrors (part UP); each theorem bears its own conditions. -/
import Derived.Test.YtaddaloondpnkaaUE
namespace Go.Proofs.Ytaddaloondpnkaa
open Go.RowKit
set_option linter.unusedVariables false
set_option linter.unusedSimpArgs false
abbrev Tr:=Zd
theorem Je {x:Int} (h1:-9223372036854775808≤x) (h2:x≤9223372036854775807):IntKind.i64.wrap x=x:=X3 ⟨h1,h2⟩
theorem Qn {t x:Tr} (h:x∈t.Kids):SizeOf.sizeOf x < SizeOf.sizeOf t:=by
 obtain ⟨k,w,ks⟩:=t
 have:=List.sizeOf_lt_of_mem h
 simp only [Zd.mk.sizeOf_spec]
 simp only at this
 omega
theorem Z0n {α R:Type} (xs:List α) (step:Int→Option (Int ⊕ R)) (p:α→Bool) (e o:R) (hl:(xs.length:Int)≤140737488355328)
  (h1:∀ (i:Nat) (x:α),i < xs.length→xs[i]? = some x→x∈xs→step i=some (if p x=true then .inr e else .inl (IntKind.i64.wrap ((i:Int)+1)))) (h2:step xs.length=some (.inr o)):Zy step 0=some (if xs.any p=true then e else o):=by
 have hloop:=Zzn xs (fun i (_:Unit)=>i) step (fun _ x=>some (if p x=true then .inr e else .inl ())) (fun _=>o) (fun i s x hi hx=>by
  rw [h1 i x hi hx (List.mem_of_getElem? hx),Je (by omega) (by omega)]
  cases p x <;> rfl) (fun _=>h2) ()
 refine hloop.trans ?_
 rw [Zpx p (fun s _=>s) e (fun _ _=>True) xs.length xs () 0 (by omega) trivial (fun s k x _ _ _=>⟨by cases p x <;> rfl,fun _=>trivial⟩)]
theorem Zkz {i n:Nat} (h:i < n):decide ((i:Int) < (n:Int))=true:=by rw [decide_eq_true_eq];omega
theorem Zky {n:Nat}:decide ((n:Int) < (n:Int))=false:=by rw [decide_eq_false_iff_not];omega
def tr {α:Type} (p:α→Bool):List α→List α
 | []=>[]
 | x::xs=>match tr p xs with
  | []=>if p x=true then [] else [x]
  | y::ys=>x::y::ys
def trN {α:Type} (p:α→Bool) (l:List α):Nat→Nat
 | 0=>0
 | n+1=>match l[n]? with
  | some x=>if p x=true then trN p l n else n+1
  | none=>0
theorem Zpb {α:Type} {p:α→Bool} {x:α} (h:p x=true):∀ l:List α,tr p (l++[x])=tr p l
 | []=>by simp [tr,h]
 | y::l=>by simp only [List.cons_append,tr,Zpb h l]
theorem Zpa {α:Type} {p:α→Bool} {x:α} (h:p x=false):∀ l:List α,tr p (l++[x])=l++[x]
 | []=>by simp [tr,h]
 | y::l=>by
  simp only [List.cons_append,tr,Zpa h l]
  cases hl:l++[x] with
  | nil=>simp at hl
  | cons a b=>rfl
theorem Zr0 {α:Type} {p:α→Bool} {l:List α}:∀ n,n≤l.length→l.take (trN p l n)=tr p (l.take n)∧trN p l n≤n
 | 0,_=>by simp [trN,tr]
 | n+1,h=>by
  have hn:l[n]? = some l[n]:=List.getElem?_eq_getElem (by omega)
  have e:l.take (n+1)=l.take n++[l[n]]:=by rw [List.take_add_one,hn];rfl
  obtain ⟨h1,h2⟩:=Zr0 (p:=p) (l:=l) n (by omega)
  unfold trN
  rw [hn]
  simp only
  split
  ·rename_i hp
   rw [e,Zpb hp]
   exact ⟨h1,by omega⟩
  rename_i hp
  rw [e,Zpa (by simpa using hp),← e]
  exact ⟨rfl,Nat.le_refl _⟩
theorem Zjg {α:Type} (p:α→Bool):∀ l:List α,(tr p l).length≤l.length
 | []=>by simp [tr]
 | x::l=>by
  have:=Zjg p l
  simp only [tr]
  split
  ·split <;> simp
  rename_i y ys he
  rw [he] at this
  simp at this ⊢
  omega
theorem Zjh {α:Type} {p:α→Bool} {x:α}:∀ {l:List α},x∈tr p l→x∈l
 | [],h=>by simp [tr] at h
 | y::l,h=>by
  simp only [tr] at h
  split at h
  ·split at h
   ·simp at h
   simp at h;simp [h]
  rename_i z zs he
  rw [← he] at h
  rcases List.mem_cons.1 h with h | h
  ·simp [h]
  exact List.mem_cons_of_mem _ (Zjh h)
theorem Zy3 {α:Type} {p:α→Bool}:∀ l:List α,tr p (tr p l)=tr p l
 | []=>rfl
 | x::l=>by
  have ih:=Zy3 (p:=p) l
  simp only [tr]
  cases h:tr p l with
  | nil =>
   simp only
   cases hx:p x <;> simp [tr,hx]
  | cons y ys =>
   rw [h] at ih
   simp only [tr] at ih ⊢
   rw [ih]
theorem Zx5 {α β:Type} {p:α→Bool} {q:β→Bool} {f:α→β} (h:∀ x,q (f x)=p x):∀ l:List α,tr q (l.map f)=(tr p l).map f
 | []=>rfl
 | x::l=>by
  simp only [List.map_cons,tr,Zx5 h l]
  cases tr p l with
  | nil=>simp only [List.map_nil,h];split <;> rfl
  | cons y ys=>rfl
theorem Zt6 {α:Type} (l:List α) (p:α→Bool) (step:Int→Option (Int ⊕ Int)) (hl:(l.length:Int)≤140737488355328)
  (h0:step 0=some (.inr 0)) (h1:∀ (n:Nat) (x:α),l[n]? = some x→n < l.length→step ((n+1:Nat):Int)=some (if p x=true then .inl (n:Int) else .inr ((n+1:Nat):Int))):Zy step (l.length:Int)=some (trN p l l.length:Int):=by
 have key:∀ n:Nat,n≤l.length→Zy step (n:Int)=some (trN p l n:Int):=fun n=>by
  induction n with
  | zero=>intro _;exact Qk h0
  | succ n ih =>
   intro hn
   have hx:l[n]? = some l[n]:=List.getElem?_eq_getElem (by omega)
   have h:=h1 n _ hx (by omega)
   unfold trN
   rw [hx]
   simp only
   split
   ·rename_i hp
    rw [if_pos hp] at h
    rw [Ji h]
    exact ih (by omega)
   rename_i hp
   rw [if_neg hp] at h
   exact Qk h
 exact key l.length (Nat.le_refl _)
theorem Zoa {α:Type} {l:List α} {n:Nat} (h:n≤l.length):Zf2 l 0 (n:Int)=some (l.take n):=by
 rw [Z2z (by omega) (by omega) (by omega)]
 simp
theorem Z4e {n:Nat}:decide (0 < ((n+1:Nat):Int))=true:=by rw [decide_eq_true_eq];omega
theorem Zus {l:List Int} (hl:(l.length:Int)≤140737488355328):K1 l=some (tr (fun x=>x == 0) l):=by
 have hloop:=Zt6 l (fun x=>x == 0) (Jc l) hl (by unfold Jc;rfl) (fun n x hx hn=>by
  unfold Jc
  rw [Z4e,cond_true,Je (by omega) (by omega)]
  have e:((n+1:Nat):Int) - 1=(n:Int):=by omega
  rw [e,X8 hx]
  simp only [Option.bind_some,cond_true]
  cases x == 0 <;> rfl)
 obtain ⟨h1,h2⟩:=Zr0 (p:=fun x=>x == 0) (l:=l) l.length (Nat.le_refl _)
 unfold K1
 rw [hloop,Option.bind_some,Zoa h2,Option.bind_some,h1,List.take_length]
theorem Zwm {l:List Tr} (hl:(l.length:Int)≤140737488355328):Vj l=some (tr (fun x=>x.Kind == 0) l):=by
 have hloop:=Zt6 l (fun x=>x.Kind == 0) (Ju l) hl (by unfold Ju;rfl) (fun n x hx hn=>by
  unfold Ju
  rw [Z4e,cond_true,Je (by omega) (by omega)]
  have e:((n+1:Nat):Int) - 1=(n:Int):=by omega
  rw [e,X8 hx]
  simp only [Option.bind_some,cond_true]
  cases x.Kind == 0 <;> rfl)
 obtain ⟨h1,h2⟩:=Zr0 (p:=fun x=>x.Kind == 0) (l:=l) l.length (Nat.le_refl _)
 unfold Vj
 rw [hloop,Option.bind_some,Zoa h2,Option.bind_some,h1,List.take_length]
theorem Z08 {l:List Int} (hl:l.length * 8≤140737488355328):Kc l=some (tr (fun x=>x == 0) l):=by
 have hloop:=Zt6 l (fun x=>x == 0) (Q1 l) (by omega) (by unfold Q1;rfl) (fun n x hx hn=>by
  unfold Q1
  rw [Z4e,cond_true,Je (by omega) (by omega)]
  have e:((n+1:Nat):Int) - 1=(n:Int):=by omega
  rw [e,X8 hx]
  simp only [Option.bind_some,cond_true]
  cases x == 0 <;> rfl)
 obtain ⟨h1,h2⟩:=Zr0 (p:=fun x=>x == 0) (l:=l) l.length (Nat.le_refl _)
 have h3:=Zjg (fun x=>x == 0) l
 unfold Kc
 rw [hloop,Option.bind_some,Zoa h2,Option.bind_some,h1,List.take_length,Zkh (by rw [List.length_nil];omega) (by rw [List.length_nil];omega)]
 rfl
inductive Bd:Tr→Prop
 | mk (t:Tr) (h1:t.Words.length * 8≤140737488355328) (h2:t.Kids.length * 56≤140737488355328) (h3:∀ w∈t.Words,0≤w∧w < 18446744073709551616) (h4:∀ k∈t.Kids,Bd k):Bd t
theorem Bd.w {t:Tr} (h:Bd t):t.Words.length * 8≤140737488355328:=by cases h;assumption
theorem Bd.k {t:Tr} (h:Bd t):t.Kids.length * 56≤140737488355328:=by cases h;assumption
theorem Bd.u {t:Tr} (h:Bd t):∀ w∈t.Words,0≤w∧w < 18446744073709551616:=by cases h;assumption
theorem Bd.all {t:Tr} (h:Bd t):∀ k∈t.Kids,Bd k:=by cases h;assumption
def nrm (t:Tr):Tr :=
 if t.Kind=0 then ⟨0,[],[]⟩
 else if t.Kind=1 then ⟨1,tr (fun x=>x == 0) t.Words,tr (fun x=>x.Kind == 0) (t.Kids.attach.map fun k=>nrm k.1)⟩
 else ⟨t.Kind,t.Words,t.Kids.attach.map fun k=>nrm k.1⟩
termination_by SizeOf.sizeOf t
decreasing_by all_goals exact Qn k.2
theorem Zcz (t:Tr):nrm t=if t.Kind=0 then ⟨0,[],[]⟩ else if t.Kind=1 then ⟨1,tr (fun x=>x == 0) t.Words,tr (fun x=>x.Kind == 0) (t.Kids.map nrm)⟩ else ⟨t.Kind,t.Words,t.Kids.map nrm⟩:=by
 rw [nrm]
 simp only [List.attach_map_val]
theorem U6 (t:Tr):(nrm t).Kind=t.Kind:=by
 rw [Zcz]
 split
 ·rename_i h;exact h.symm
 split
 ·rename_i h;exact h.symm
 rfl
theorem Z1n {α β:Type} {xs:List α} {f:α→β} {z:β} {i m:Nat} {x:α} (hi:i+(m+1)=xs.length) (hx:xs[i]? = some x) :
  ((xs.take i).map f++List.replicate (m+1) z).set i (f x)=(xs.take (i+1)).map f++List.replicate m z:=by
 have hl:((xs.take i).map f).length=i:=by rw [List.length_map,List.length_take];omega
 rw [List.set_append,if_neg (by omega),hl,Nat.sub_self,List.replicate_succ,List.set_cons_zero,List.take_add_one,hx]
 simp
theorem Z0o {α β:Type} (xs:List α) (f:α→β) (z:β) (step:Int×List β→Option ((Int×List β) ⊕ List β)) (hl:(xs.length:Int)≤140737488355328)
  (h1:∀ (i:Nat) (x:α) (out:List β) (y:β),i < xs.length→xs[i]? = some x→x∈xs→out[i]? = some y→step ((i:Int),out)=some (.inl (IntKind.i64.wrap ((i:Int)+1),Yc out (i:Int) (f x))))
  (h2:∀ out,step ((xs.length:Int),out)=some (.inr out)):Zy step (0,List.replicate xs.length z)=some (xs.map f):=by
 have key:∀ m i,i+m=xs.length→Zy step ((i:Int),(xs.take i).map f++List.replicate m z)=some (xs.map f):=fun m=>by
  induction m with
  | zero =>
   intro i hi
   have hi':i=xs.length:=by omega
   subst hi'
   rw [List.take_length,List.replicate_zero,List.append_nil]
   exact Qk (h2 _)
  | succ m ih =>
   intro i hi
   have hx:xs[i]? = some xs[i]:=List.getElem?_eq_getElem (by omega)
   have hl':((xs.take i).map f).length=i:=by rw [List.length_map,List.length_take];omega
   have hy:((xs.take i).map f++List.replicate (m+1) z)[i]? = some z:=by
    rw [List.getElem?_append_right (by omega),hl',Nat.sub_self,List.replicate_succ];rfl
   have h:=h1 i _ _ z (by omega) hx (List.mem_of_getElem? hx) hy
   rw [Je (by omega) (by omega)] at h
   rw [Ji h]
   unfold Yc
   rw [Int.toNat_natCast,Z1n (by omega) hx]
   exact ih (i+1) (by omega)
 have:=key xs.length 0 (by omega)
 simpa using this
theorem Zyk:∀ (k:Nat) (t:Tr),Bd t→SizeOf.sizeOf t < k→Jf k t=some (nrm t)
 | 0,t,_,h=>by omega
 | k+1,t,hb,hk=>by
  have ih:∀ x∈t.Kids,Jf k x=some (nrm x):=fun x hx=>Zyk k x (hb.all x hx) (by have:=Qn hx;omega)
  have hw:=hb.w
  have hkd:=hb.k
  show Zch (Jf k) t=_
  unfold Zch
  rw [Zcz]
  by_cases h0:t.Kind=0
  ·rw [if_pos h0,h0];rfl
  have e0:(t.Kind == 0)=false:=by rw [beq_eq_false_iff_ne];exact h0
  rw [if_neg h0,e0,cond_false]
  have main:∀ (w:List Int) (ks:List Tr),(ks.length:Int)≤140737488355328→(56:Int) * ks.length≤140737488355328→(∀ x∈ks,Jf k x=some (nrm x)) →
    ((cond (decide (0 < ((w,ks).2.length:Int))) ((Zfq 56 ((w,ks).2.length:Int) (⟨(0:Int),([]:(List Int)),([]:(List Zd))⟩:Zd)).bind fun l6=>some l6) (some ([]:List Zd))).bind fun (z5:(List Zd))=>(Zy (Kv (Jf k) (w,ks)) (0,z5)).bind fun (z14:(List Zd))=>some (⟨t.Kind,(w,ks).1,z14⟩:Zd))=some ⟨t.Kind,w,ks.map nrm⟩:=fun w ks h1 h2 hks=>by
   have hz:(cond (decide (0 < ((w,ks).2.length:Int))) ((Zfq 56 ((w,ks).2.length:Int) (⟨(0:Int),([]:(List Int)),([]:(List Zd))⟩:Zd)).bind fun l6=>some l6) (some ([]:List Zd)))=some (List.replicate ks.length (⟨0,[],[]⟩:Tr)):=by
    cases ks with
    | nil=>rfl
    | cons y ys =>
     have:decide (0 < (((w,y::ys).2.length:Nat):Int))=true:=by rw [decide_eq_true_eq];simp
     rw [this,cond_true,Znp (Int.natCast_nonneg _) h2 h1,Option.bind_some,Int.toNat_natCast]
   rw [hz,Option.bind_some]
   rw [Z0o ks nrm _ (Kv (Jf k) (w,ks)) h1 (fun i x out z hi hx hm hz=>by
     unfold Kv
     simp only
     rw [Zkz hi,cond_true,X8 hx,Option.bind_some,hks x hm,Option.bind_some,X8 hz,Option.bind_some]) (fun out=>by
     unfold Kv
     simp only
     rw [Zky,cond_false]),Option.bind_some]
  by_cases h1:t.Kind=1
  ·have e1:(t.Kind == 1)=true:=by rw [beq_iff_eq];exact h1
   have l1:=Zjg (fun x:Tr=>x.Kind == 0) t.Kids
   rw [if_pos h1,e1,cond_true,Zus (by omega),Option.bind_some,Zwm (by omega),Option.bind_some,Option.bind_some]
   rw [main _ _ (by omega) (by omega) (fun x hx=>ih x (Zjh hx)),Zx5 (fun x=>by rw [U6]),h1]
  have e1:(t.Kind == 1)=false:=by rw [beq_eq_false_iff_ne];exact h1
  rw [if_neg h1,e1,cond_false,Option.bind_some]
  exact main _ _ (by omega) (by omega) ih
theorem Z2i {t:Tr} (h:Bd t):Zo7 t=some (nrm t):=Zqd (SizeOf.sizeOf t+1) fun k hk=>Zyk k t h (by omega)
theorem Zpc {α:Type} {p:α→Bool} {x:α} {l:List α} (h:tr p l=[]):tr p (x::l)=if p x=true then [] else [x]:=by simp only [tr,h]
theorem Zr1 {α:Type} {p:α→Bool} {x:α} {l:List α} (h:tr p l≠[]):tr p (x::l)=x::tr p l:=by
 simp only [tr]
 split
 ·rename_i h';exact absurd h' h
 rename_i h';rw [h']
theorem Zyf:∀ (l:List Tr) (n:Nat) (acc:Int),(l.zipIdx n).foldl (fun a p=>if p.1.Kind=0 then a else ((p.2+1:Nat):Int)) acc=if (tr (fun x=>x.Kind == 0) l).length=0 then acc else ((n+(tr (fun x=>x.Kind == 0) l).length:Nat):Int)
 | [],n,acc=>by simp [tr]
 | x::l,n,acc=>by
  rw [List.zipIdx_cons,List.foldl_cons,Zyf l (n+1)]
  by_cases h:tr (fun x=>x.Kind == 0) l=[]
  ·rw [Zpc h,h]
   by_cases hx:x.Kind=0
   ·simp [hx]
   simp [hx]
  have h':(tr (fun x=>x.Kind == 0) l).length≠0:=by simpa using h
  rw [Zr1 h,if_neg h',List.length_cons,if_neg (by omega)]
  congr 1
  omega
theorem Z3b {α:Type} (p:α→Bool) (l:List α):l.take (tr p l).length=tr p l:=by
 obtain ⟨h1,h2⟩:=Zr0 (p:=p) (l:=l) l.length (Nat.le_refl _)
 rw [List.take_length] at h1
 rw [← h1,List.length_take]
 congr 1
 omega
theorem Z1e {k:Nat} {t:Tr} (hl:t.Kids.length * 56≤140737488355328) (ih:∀ x∈t.Kids,Ys k x=some (nrm x)) :
  Zy (Xc (Ys k) t) (0,0,[])=some (if (tr (fun x=>x.Kind == 0) (t.Kids.map nrm)).length=0 then 0 else ((tr (fun x=>x.Kind == 0) (t.Kids.map nrm)).length:Int),t.Kids.map nrm):=by
 have key:∀ (l pre:List Tr) (a:Int),t.Kids=pre++l→Zy (Xc (Ys k) t) (a,((pre.length:Nat):Int),pre.map nrm)=some (((l.map nrm).zipIdx pre.length).foldl (fun a p=>if p.1.Kind=0 then a else ((p.2+1:Nat):Int)) a,t.Kids.map nrm):=fun l=>by
  induction l with
  | nil =>
   intro pre a hp
   rw [List.append_nil] at hp
   refine Qk ?_
   unfold Xc
   simp only
   rw [hp,Zky,cond_false]
   rfl
  | cons x l ihl =>
   intro pre a hp
   have hx:t.Kids[pre.length]? = some x:=by rw [hp,List.getElem?_append_right (Nat.le_refl _),Nat.sub_self];rfl
   have hi:pre.length < t.Kids.length:=by rw [hp];simp
   have hm:x∈t.Kids:=List.mem_of_getElem? hx
   have hs:Xc (Ys k) t (a,((pre.length:Nat):Int),pre.map nrm)=some (.inl (if x.Kind=0 then a else ((pre.length+1:Nat):Int),(((pre++[x]).length:Nat):Int),(pre++[x]).map nrm)):=by
    unfold Xc
    simp only
    rw [Zkz hi,cond_true,X8 hx,Option.bind_some,ih x hm,Option.bind_some,Zkh (by simp;omega) (by simp;omega),Option.bind_some,Je (by omega) (by omega),U6]
    have e:((pre.length:Nat):Int)+1=((pre.length+1:Nat):Int):=by omega
    rw [e]
    by_cases h0:x.Kind=0
    ·simp [h0]
    have:(x.Kind != 0)=true:=by simp [h0]
    rw [this,cond_true]
    simp [h0]
   rw [Ji hs,ihl (pre++[x]) _ (by rw [hp];simp)]
   simp only [List.map_cons,List.zipIdx_cons,List.foldl_cons,List.length_append,List.length_singleton,U6]
 have:=key t.Kids [] 0 rfl
 rw [Zyf] at this
 simpa using this
theorem Zwg:∀ (k:Nat) (t:Tr),Bd t→SizeOf.sizeOf t < k→Ys k t=some (nrm t)
 | 0,t,_,h=>by omega
 | k+1,t,hb,hk=>by
  have ih:∀ x∈t.Kids,Ys k x=some (nrm x):=fun x hx=>Zwg k x (hb.all x hx) (by have:=Qn hx;omega)
  have hw:=hb.w
  have hkd:=hb.k
  show J7 (Ys k) t=_
  unfold J7
  rw [Zcz]
  by_cases h0:t.Kind=0
  ·rw [if_pos h0,h0];rfl
  have e0:(t.Kind == 0)=false:=by rw [beq_eq_false_iff_ne];exact h0
  rw [if_neg h0,e0,cond_false,Z1e hkd ih,Option.bind_some]
  by_cases h1:t.Kind=1
  ·have e1:(t.Kind == 1)=true:=by rw [beq_iff_eq];exact h1
   rw [if_pos h1,e1,cond_true,Z08 hw,Option.bind_some]
   have l1:=Zjg (fun x:Tr=>x.Kind == 0) (t.Kids.map nrm)
   have l2:(if (tr (fun x=>x.Kind == 0) (t.Kids.map nrm)).length=0 then (0:Int) else ((tr (fun x=>x.Kind == 0) (t.Kids.map nrm)).length:Int))=((tr (fun x=>x.Kind == 0) (t.Kids.map nrm)).length:Int):=by
    split
    ·rename_i h;rw [h];rfl
    rfl
   simp only [l2]
   rw [Zoa l1,Option.bind_some,Z3b]
  have e1:(t.Kind == 1)=false:=by rw [beq_eq_false_iff_ne];exact h1
  rw [if_neg h1,e1,cond_false,Zkh (by rw [List.length_nil];omega) (by rw [List.length_nil];omega)]
  rfl
theorem Z1f {t:Tr} (h:Bd t):Zfo t=some (nrm t):=Zqd (SizeOf.sizeOf t+1) fun k hk=>Zwg k t h (by omega)
theorem Z0s:∀ (n:Nat) (t:Tr),SizeOf.sizeOf t < n→Bd t→Bd (nrm t)
 | 0,t,h,_=>by omega
 | n+1,t,hn,hb=>by
  have ih:∀ x∈t.Kids,Bd (nrm x):=fun x hx=>Z0s n x (by have:=Qn hx;omega) (hb.all x hx)
  have hw:=hb.w
  have hk:=hb.k
  rw [Zcz]
  split
  ·exact .mk _ (by simp) (by simp) (fun w h=>by simp at h) (fun w h=>by simp at h)
  split
  ·have l1:=Zjg (fun x:Int=>x == 0) t.Words
   have l2:=Zjg (fun x:Tr=>x.Kind == 0) (t.Kids.map nrm)
   rw [List.length_map] at l2
   refine .mk _ (by simp only;omega) (Nat.le_trans (Nat.mul_le_mul_right 56 l2) hk) (fun w h=>hb.u w (Zjh h)) (fun x h => ?_)
   obtain ⟨y,hy,rfl⟩:=List.mem_map.1 (Zjh h)
   exact ih y hy
  refine .mk _ hw (by simp only [List.length_map];exact hk) hb.u (fun x h => ?_)
  obtain ⟨y,hy,rfl⟩:=List.mem_map.1 h
  exact ih y hy
theorem Bd.nrm {t:Tr} (h:Bd t):Bd (nrm t):=Z0s _ t (Nat.lt_succ_self _) h
theorem Zs5:∀ (n:Nat) (t:Tr),SizeOf.sizeOf t < n→nrm (nrm t)=nrm t
 | 0,t,h=>by omega
 | n+1,t,hn=>by
  have ih:∀ x∈t.Kids,nrm (nrm x)=nrm x:=fun x hx=>Zs5 n x (by have:=Qn hx;omega)
  have em:∀ l:List Tr,(∀ x∈l,x∈t.Kids)→(l.map nrm).map nrm=l.map nrm:=fun l hl=>by
   rw [List.map_map]
   exact List.map_congr_left fun x hx=>ih x (hl x hx)
  rw [Zcz t]
  by_cases h0:t.Kind=0
  ·rw [if_pos h0,Zcz];simp
  rw [if_neg h0]
  by_cases h1:t.Kind=1
  ·rw [if_pos h1,Zcz]
   simp only [if_neg (show ¬ (1:Int)=0 by decide),if_true]
   have q1:∀ l:List Tr,tr (fun x:Tr=>x.Kind == 0) (l.map nrm)=(tr (fun x:Tr=>x.Kind == 0) l).map nrm:=Zx5 (fun x=>by rw [U6])
   rw [Zy3,q1,Zy3,q1,em _ (fun x hx=>Zjh hx)]
  rw [if_neg h1,Zcz]
  simp only
  rw [if_neg h0,if_neg h1,em _ (fun x hx=>hx)]
theorem Zt7 (t:Tr):nrm (nrm t)=nrm t:=Zs5 _ t (Nat.lt_succ_self _)
theorem Zj1 {t:Tr} (h:t.Kind=0):nrm t=⟨0,[],[]⟩:=by rw [Zcz,if_pos h]
theorem Zbu {t:Tr} (h:t.Kind=1):nrm t=⟨1,tr (fun x=>x == 0) t.Words,tr (fun x=>x.Kind == 0) (t.Kids.map nrm)⟩:=by rw [Zcz,if_neg (by rw [h];decide),if_pos h]
theorem Zd8 {t:Tr} (h0:¬ t.Kind=0) (h1:¬ t.Kind=1):nrm t=⟨t.Kind,t.Words,t.Kids.map nrm⟩:=by rw [Zcz,if_neg h0,if_neg h1]
theorem Zwj (t:Tr):0 < SizeOf.sizeOf t:=by
 obtain ⟨k,w,ks⟩:=t
 simp only [Zd.mk.sizeOf_spec]
 omega
def pt (t:Tr):Nat:=1+t.Words.length+(t.Kids.attach.map fun k=>pt k.1).sum
termination_by SizeOf.sizeOf t
decreasing_by exact Qn k.2
theorem Zk9 (t:Tr):pt t=1+t.Words.length+(t.Kids.map pt).sum:=by
 rw [pt]
 simp only [List.attach_map_val]
theorem Zqv:∀ (k:Nat) (t:Tr) (d left:Int),Bd t→SizeOf.sizeOf t < k→0≤d→d≤100→0≤left→left≤1000000→∃ r,Z7 k t d left=some r∧-1≤r∧r≤1000000∧(0≤r→r+pt t≤left)
 | 0,t,_,_,_,h,_,_,_,_=>by omega
 | k+1,t,d,left,hb,hk,hd0,hd1,hl0,hl1=>by
  have ih:∀ x∈t.Kids,∀ d left:Int,0≤d→d≤100→0≤left→left≤1000000→∃ r,Z7 k x d left=some r∧-1≤r∧r≤1000000∧(0≤r→r+pt x≤left):=fun x hx d left=>Zqv k x d left (hb.all x hx) (by have:=Qn hx;omega)
  have hw:=hb.w
  have hkd:=hb.k
  show ∃ r,Yy (Z7 k) t d left=some r∧_
  unfold Yy
  rw [Je (x:=left - 1) (by omega) (by omega),Je (by omega) (by omega),Zk9]
  cases hc:cond (d == 0) true (decide (left - 1 - (t.Words.length:Int) < 0)) with
  | true=>exact ⟨-1,rfl,by omega,by omega,fun h=>by omega⟩
  | false =>
   rw [cond_false]
   have hd:¬ d=0∧0≤left - 1 - (t.Words.length:Int):=by
    by_cases h:d=0
    ·simp [h] at hc
    have e:(d == 0)=false:=by simp [h]
    rw [e,cond_false,decide_eq_false_iff_not] at hc
    exact ⟨h,by omega⟩
   obtain ⟨r,h1,h2⟩:=Zh7 (step:=Yv (Z7 k) t d)
    (fun s=>∃ j:Nat,s.2=j∧j≤t.Kids.length∧-1≤s.1∧s.1≤1000000∧(0≤s.1→s.1+(((t.Kids.take j).map pt).sum:Nat)≤left - 1 - (t.Words.length:Int)))
    (fun s=>t.Kids.length - s.2.toNat) (fun r=>-1≤r∧r≤1000000∧(0≤r→r+((t.Kids.map pt).sum:Nat)≤left - 1 - (t.Words.length:Int))) (fun s hI=>by
     obtain ⟨l,i⟩:=s
     obtain ⟨j,rfl,hj,g1,g2,g3⟩:=hI
     simp only at g1 g2 g3 ⊢
     unfold Yv
     simp only
     by_cases hji:j < t.Kids.length
     ·rw [Zkz hji,cond_true]
      by_cases hl:0≤l
      ·have e:decide (0≤l)=true:=by simp [hl]
       have hx:t.Kids[j]? = some t.Kids[j]:=List.getElem?_eq_getElem hji
       obtain ⟨r,q1,q2,q3,q4⟩:=ih t.Kids[j] (List.getElem_mem hji) (d - 1) l (by omega) (by omega) hl g2
       rw [e,cond_true,X8 hx,Option.bind_some,Je (by omega) (by omega),q1,Option.bind_some,Je (by omega) (by omega)]
       refine .inl ⟨_,rfl,⟨j+1,by simp only;omega,by omega,q2,q3,fun hr => ?_⟩,by simp only;omega⟩
       have:=q4 hr
       have:=g3 hl
       rw [List.take_add_one,hx]
       simp only [Option.toList_some,List.map_append,List.map_cons,List.map_nil,List.sum_append,List.sum_cons,List.sum_nil]
       simp only at hr
       omega
      have e:decide (0≤l)=false:=by simp [hl]
      rw [e,cond_false]
      exact .inr ⟨l,rfl,g1,g2,fun h=>absurd h hl⟩
     have hj':j=t.Kids.length:=by omega
     subst hj'
     rw [Zky,cond_false]
     rw [List.take_length] at g3
     exact .inr ⟨l,rfl,g1,g2,g3⟩) (left - 1 - (t.Words.length:Int),0) ⟨0,rfl,Nat.zero_le _,by simp only;omega,by simp only;omega,fun _=>by simp⟩
   rw [h1]
   refine ⟨r,rfl,h2.1,h2.2.1,fun hr => ?_⟩
   have:=h2.2.2 hr
   omega
theorem Zsz {α:Type} {xs:List α} {i:Int} {x:α} (h:Zv xs i=some x):x∈xs:=List.mem_of_getElem? (Znj h)
theorem Zn9:∀ (k k':Nat) (t:Tr) (d left:Int),SizeOf.sizeOf t < k→SizeOf.sizeOf t < k'→Z7 k t d left=Z7 k' t d left
 | 0,_,t,_,_,h,_=>by omega
 | k+1,0,t,_,_,_,h=>by omega
 | k+1,k'+1,t,d,left,h,h'=>by
  show Yy (Z7 k) t d left=Yy (Z7 k') t d left
  have e:Yv (Z7 k) t d=Yv (Z7 k') t d:=funext fun s=>by
   unfold Yv
   cases hx:Zv t.Kids s.2 with
   | none=>rfl
   | some x=>simp only [Option.bind_some,Zn9 k k' x (IntKind.i64.wrap (d - 1)) s.1 (by have:=Qn (Zsz hx);omega) (by have:=Qn (Zsz hx);omega)]
  unfold Yy
  rw [e]
theorem Z4c {t:Tr} (h:Bd t):∃ b,Uv t=some b∧(b=true→pt t≤3000):=by
 obtain ⟨r,h1,h2,h3,h4⟩:=Zqv (SizeOf.sizeOf t+1) t 80 3000 h (by omega) (by omega) (by omega) (by omega) (by omega)
 have hr:Uc t 80 3000=some r:=Zqd (SizeOf.sizeOf t+1) fun k hk=>by rw [Zn9 k (SizeOf.sizeOf t+1) t 80 3000 (by omega) (by omega)];exact h1
 unfold Uv
 rw [hr,Option.bind_some]
 refine ⟨_,rfl,fun hb => ?_⟩
 have:=h4 (by simpa using hb)
 have:0≤r:=by simpa using hb
 omega
theorem Zom {a b:Int} (h:¬ a=b):(a == b)=false:=by simp [h]
def Zqh (w:Nat):Int:=if w / 4 % 1073741824 < 536870912 then ((w / 4 % 1073741824:Nat):Int) else ((w / 4 % 1073741824:Nat):Int) - 1073741824
def Zfx (w:Nat):Z3 :=
 if w=0 then ⟨0,0,0,0,0,0,0,false⟩
 else if w % 4=0 then ⟨1,Zqh w,(w / 4294967296 % 65536:Nat),(w / 281474976710656 % 65536:Nat),0,0,0,false⟩
 else if w % 4=1 then ⟨2,Zqh w,0,0,(w / 4294967296 % 8:Nat),(w / 34359738368 % 536870912:Nat),0,false⟩
 else if w % 4=2 then ⟨3,(w / 8 % 536870912:Nat),0,0,0,0,(w / 4294967296 % 4294967296:Nat),decide (w / 4 % 2=1)⟩
 else ⟨4,0,0,0,0,0,0,false⟩
theorem Z0q (b:Nat):((2:Int) ^ b)=((2 ^ b:Nat):Int):=by simp
theorem Zkk (w f b:Nat) (hw:w < 18446744073709551616) (hf:f < 64) (hb:b≤40):Y6 w f b=some ((w / 2 ^ f % 2 ^ b:Nat):Int):=by
 unfold Y6 Jr
 rw [if_pos (Int.natCast_nonneg _),if_pos (Int.natCast_nonneg _)]
 simp only [Option.bind_some,Option.some.injEq]
 have hp:(2:Nat) ^ b≤1099511627776:=by have:=Nat.pow_le_pow_right (n:=2) (by decide) hb;simpa using this
 have h1:0 < (2:Nat) ^ b:=Nat.pow_pos (by decide)
 have e1:(min ((f:Int).toNat) 64)=f:=by omega
 have e2:(min ((b:Int).toNat) 64)=b:=by omega
 have hd:w / 2 ^ f < 18446744073709551616:=Nat.lt_of_le_of_lt (Nat.div_le_self _ _) hw
 have e3:((w:Int).fdiv ((2 ^ f:Nat):Int))=((w / 2 ^ f:Nat):Int):=by
  rw [Int.fdiv_eq_ediv_of_nonneg _ (Int.natCast_nonneg _),Int.natCast_ediv]
 rw [e1,e2,Z0q,Z0q,e3]
 clear e3
 generalize hq:2 ^ b=q at *
 generalize w / 2 ^ f=x at *
 rw [Int.one_mul,IntWalk.u64_in (q:Int) (by omega),IntWalk.u64_in ((q:Int) - 1) (by omega)]
 have e4:((q:Int) - 1)=((q - 1:Nat):Int):=by omega
 rw [e4,Zxf _ _ hd (by omega),← hq,Nat.and_two_pow_sub_one_eq_mod,hq]
 have:x % q < q:=Nat.mod_lt _ h1
 rw [IntWalk.u64_in _ (by omega),IntWalk.i64_in _ (by omega)]
theorem Z4o (w:Nat) (hw:w < 18446744073709551616):IntKind.i64.wrap ((IntKind.i32.wrap (IntKind.u32.wrap (w:Int))).fdiv (2 ^ min (Int.toNat 2) 32))=Zqh w:=by
 have e:(2:Int) ^ min (Int.toNat 2) 32=4:=by decide
 rw [e,Int.fdiv_eq_ediv_of_nonneg _ (by decide),IntKind.wrap_u32,IntKind.wrap_i32]
 unfold Zqh
 rw [IntWalk.i64_in _ (by omega)]
 split <;> omega
theorem Z0y (w:Nat) (hw:w < 18446744073709551616):Zax w=some (Zqh w):=congrArg some (Z4o w hw)
theorem Z61 (w:Nat) (hw:w < 18446744073709551616):IntKind.u64.wrap (Za5 .u64 w 3)=((w % 4:Nat):Int):=by
 have:=Zxf w 3 hw (by decide)
 rw [show ((3:Nat):Int)=3 from rfl] at this
 rw [this,show (3:Nat)=2 ^ 2 - 1 from rfl,Nat.and_two_pow_sub_one_eq_mod,IntWalk.u64_in _ (by omega)]
theorem Z64 (w:Nat) (hw:w < 18446744073709551616):(IntKind.u64.wrap (Za5 .u64 ((w:Int).fdiv (2 ^ min (Int.toNat 2) 64)) 1) == 1)=decide (w / 4 % 2=1):=by
 have e1:(2:Int) ^ min (Int.toNat 2) 64=4:=by decide
 have e2:((w:Int).fdiv 4)=((w / 4:Nat):Int):=by rw [Int.fdiv_eq_ediv_of_nonneg _ (by decide)];rfl
 have e3:=Zxf (w / 4) 1 (by omega) (by decide)
 rw [show ((1:Nat):Int)=1 from rfl,Nat.and_one_is_mod] at e3
 rw [e1,e2,e3,IntWalk.u64_in _ (by omega)]
 by_cases h:w / 4 % 2=1
 ·rw [h];decide
 have:w / 4 % 2=0:=by omega
 rw [this];decide
theorem Z11 (a:Nat) (b:Nat):((a:Int) == (b:Int))=decide (a=b):=by
 by_cases h:a=b
 ·subst h;simp
 simp [h,Int.natCast_inj]
theorem Zz9 (w:Nat) (hw:w < 18446744073709551616):Zaw w=some (Zfx w):=by
 unfold Zaw
 have f1:Y6 w 32 16=_:=Zkk w 32 16 hw (by decide) (by decide)
 have f2:Y6 w 48 16=_:=Zkk w 48 16 hw (by decide) (by decide)
 have f3:Y6 w 32 3=_:=Zkk w 32 3 hw (by decide) (by decide)
 have f4:Y6 w 35 29=_:=Zkk w 35 29 hw (by decide) (by decide)
 have f5:Y6 w 3 29=_:=Zkk w 3 29 hw (by decide) (by decide)
 have f6:Y6 w 32 32=_:=Zkk w 32 32 hw (by decide) (by decide)
 have c0:((w:Int) == 0)=_:=Z11 w 0
 have c1:(((w % 4:Nat):Int) == 0)=_:=Z11 (w % 4) 0
 have c2:(((w % 4:Nat):Int) == 1)=_:=Z11 (w % 4) 1
 have c3:(((w % 4:Nat):Int) == 2)=_:=Z11 (w % 4) 2
 rw [Z61 w hw,Z0y w hw,f1,f2,f3,f4,f5,f6,Z64 w hw,c0,c1,c2,c3]
 simp only [Option.bind_some]
 unfold Zfx
 by_cases h0:w=0
 ·simp [h0]
 by_cases h1:w % 4=0
 ·simp [h0,h1]
 by_cases h2:w % 4=1
 ·simp [h0,h2]
 by_cases h3:w % 4=2
 ·simp [h0,h3]
 simp [h0,h1,h2,h3]
theorem Zj5 (k a b:Nat) (h:a < 2 ^ k):a ||| (b * 2 ^ k)=a+b * 2 ^ k:=by
 rw [Nat.or_comm,Nat.mul_comm,← Nat.two_pow_add_eq_or_of_lt h,Nat.add_comm]
def Zt2 (p:Z3):Int :=
 if p.Kind=1 then IntKind.u64.wrap (Vy .u64 (IntKind.u64.wrap (Vy .u64 (IntKind.u64.wrap (IntKind.u32.wrap (IntKind.u32.wrap p.Off * 2 ^ min (Int.toNat 2) 32))) (IntKind.u64.wrap (IntKind.u64.wrap p.Data * 2 ^ min (Int.toNat 32) 64)))) (IntKind.u64.wrap (IntKind.u64.wrap p.Ptrs * 2 ^ min (Int.toNat 48) 64)))
 else if p.Kind=2 then IntKind.u64.wrap (Vy .u64 (IntKind.u64.wrap (Vy .u64 (IntKind.u64.wrap (Vy .u64 1 (IntKind.u64.wrap (IntKind.u32.wrap (IntKind.u32.wrap p.Off * 2 ^ min (Int.toNat 2) 32))))) (IntKind.u64.wrap (IntKind.u64.wrap p.Code * 2 ^ min (Int.toNat 32) 64)))) (IntKind.u64.wrap (IntKind.u64.wrap p.Count * 2 ^ min (Int.toNat 35) 64)))
 else if p.Kind=3 then
  if p.Double=true then IntKind.u64.wrap (Vy .u64 (IntKind.u64.wrap (Vy .u64 (IntKind.u64.wrap (Vy .u64 2 (IntKind.u64.wrap (IntKind.u64.wrap p.Off * 2 ^ min (Int.toNat 3) 64)))) (IntKind.u64.wrap (IntKind.u64.wrap p.Segment * 2 ^ min (Int.toNat 32) 64)))) 4)
  else IntKind.u64.wrap (Vy .u64 (IntKind.u64.wrap (Vy .u64 2 (IntKind.u64.wrap (IntKind.u64.wrap p.Off * 2 ^ min (Int.toNat 3) 64)))) (IntKind.u64.wrap (IntKind.u64.wrap p.Segment * 2 ^ min (Int.toNat 32) 64)))
 else 0
theorem Z5i (p:Z3):Zgc p=some (Zt2 p):=by
 unfold Zgc Zt2
 by_cases h1:p.Kind=1
 ·simp [h1]
 by_cases h2:p.Kind=2
 ·simp [h2]
 by_cases h3:p.Kind=3
 ·by_cases hd:p.Double=true <;> simp [h3,hd]
 simp [h1,h2,h3,Zom h1,Zom h2,Zom h3]
theorem Zuw (x:Int):∃ w:Nat,IntKind.u64.wrap x=(w:Int)∧w < 18446744073709551616:=by
 refine ⟨(x % 18446744073709551616).toNat,?_,by omega⟩
 simp [IntKind.wrap,IntKind.bits,IntKind.signed]
 omega
theorem Z0m (p:Z3):∃ w:Nat,Zt2 p=(w:Int)∧w < 18446744073709551616:=by
 unfold Zt2
 split
 ·exact Zuw _
 split
 ·exact Zuw _
 split
 ·split <;> exact Zuw _
 exact ⟨0,rfl,by decide⟩
theorem Z4z (x:Nat) (h:x < 18446744073709551616):IntKind.u64.wrap (x:Int)=(x:Int):=IntWalk.u64_in _ (by omega)
theorem Z1s (w:Nat):IntKind.u64.wrap (IntKind.u32.wrap (IntKind.u32.wrap (Zqh w) * 2 ^ min (Int.toNat 2) 32))=((w / 4 % 1073741824 * 2 ^ 2:Nat):Int):=by
 have e:(2:Int) ^ min (Int.toNat 2) 32=4:=by decide
 rw [e,IntKind.wrap_u32,IntKind.wrap_u32]
 unfold Zqh
 rw [IntWalk.u64_in _ (by omega)]
 split <;> omega
theorem Zhj (x y:Nat) (hx:x < 18446744073709551616) (hy:y < 18446744073709551616):IntKind.u64.wrap (Vy .u64 x y)=((x ||| y:Nat):Int):=by
 rw [Z5k x y hx hy,Z4z _ (by have:=Nat.or_lt_two_pow (n:=64) (show x < 2 ^ 64 by omega) (show y < 2 ^ 64 by omega);omega)]
theorem Ztg (x k:Nat) (hx:x < 18446744073709551616) (hk:k≤64) (h:x * 2 ^ k < 18446744073709551616):IntKind.u64.wrap (IntKind.u64.wrap (x:Int) * 2 ^ min (Int.toNat (k:Int)) 64)=((x * 2 ^ k:Nat):Int):=by
 have e:min (Int.toNat (k:Int)) 64=k:=by omega
 have e2:((x:Int) * (2:Int) ^ k)=((x * 2 ^ k:Nat):Int):=by simp
 rw [Z4z x hx,e,e2,Z4z _ h]
theorem Z2a (w:Nat) (hw:w < 18446744073709551616) (h3:¬ (Zfx w).Kind=4):Zt2 (Zfx w)=(w:Int):=by
 by_cases h0:w=0
 ·subst h0;rfl
 by_cases h1:w % 4=0
 ·have e:Zfx w=⟨1,Zqh w,(w / 4294967296 % 65536:Nat),(w / 281474976710656 % 65536:Nat),0,0,0,false⟩:=by simp [Zfx,h0,h1]
  rw [e]
  unfold Zt2
  rw [if_pos rfl]
  simp only
  have s1:=Ztg (w / 4294967296 % 65536) 32 (by omega) (by decide) (by omega)
  have s2:=Ztg (w / 281474976710656 % 65536) 48 (by omega) (by decide) (by omega)
  rw [show ((32:Nat):Int)=32 from rfl] at s1
  rw [show ((48:Nat):Int)=48 from rfl] at s2
  rw [Z1s,s1,s2,Zhj _ _ (by omega) (by omega),Zj5 32 _ _ (by omega),Zhj _ _ (by omega) (by omega),Zj5 48 _ _ (by omega)]
  omega
 by_cases h2:w % 4=1
 ·have e:Zfx w=⟨2,Zqh w,0,0,(w / 4294967296 % 8:Nat),(w / 34359738368 % 536870912:Nat),0,false⟩:=by simp [Zfx,h0,h1,h2]
  rw [e]
  unfold Zt2
  rw [if_neg (by simp),if_pos rfl]
  simp only
  have s1:=Ztg (w / 4294967296 % 8) 32 (by omega) (by decide) (by omega)
  have s2:=Ztg (w / 34359738368 % 536870912) 35 (by omega) (by decide) (by omega)
  rw [show ((32:Nat):Int)=32 from rfl] at s1
  rw [show ((35:Nat):Int)=35 from rfl] at s2
  have l1:=Zhj 1 (w / 4 % 1073741824 * 2 ^ 2) (by decide) (by omega)
  rw [show ((1:Nat):Int)=1 from rfl,Zj5 2 1 _ (by decide)] at l1
  rw [Z1s,s1,s2,l1,Zhj _ _ (by omega) (by omega),Zj5 32 _ _ (by omega),Zhj _ _ (by omega) (by omega),Zj5 35 _ _ (by omega)]
  omega
 by_cases h4:w % 4=2
 ·have e:Zfx w=⟨3,(w / 8 % 536870912:Nat),0,0,0,0,(w / 4294967296 % 4294967296:Nat),decide (w / 4 % 2=1)⟩:=by simp [Zfx,h0,h1,h2,h4]
  rw [e]
  unfold Zt2
  rw [if_neg (by simp),if_neg (by simp),if_pos rfl]
  simp only
  have s1:=Ztg (w / 8 % 536870912) 3 (by omega) (by decide) (by omega)
  have s2:=Ztg (w / 4294967296 % 4294967296) 32 (by omega) (by decide) (by omega)
  rw [show ((3:Nat):Int)=3 from rfl] at s1
  rw [show ((32:Nat):Int)=32 from rfl] at s2
  have l1:=Zhj 2 (w / 8 % 536870912 * 2 ^ 3) (by decide) (by omega)
  rw [show ((2:Nat):Int)=2 from rfl,Zj5 3 2 _ (by decide)] at l1
  rw [s1,s2,l1,Zhj _ _ (by omega) (by omega),Zj5 32 _ _ (by omega)]
  by_cases hb:w / 4 % 2=1
  ·rw [if_pos (by simpa using hb)]
   have l2:=Zhj (2+w / 8 % 536870912 * 2 ^ 3+w / 4294967296 % 4294967296 * 2 ^ 32) 4 (by omega) (by decide)
   rw [show ((4:Nat):Int)=4 from rfl] at l2
   rw [l2]
   have:(2+w / 8 % 536870912 * 2 ^ 3+w / 4294967296 % 4294967296 * 2 ^ 32) ||| 4=2+w / 8 % 536870912 * 2 ^ 3+w / 4294967296 % 4294967296 * 2 ^ 32+4:=by
    have e1:2+w / 8 % 536870912 * 2 ^ 3+w / 4294967296 % 4294967296 * 2 ^ 32=2 ^ 3 * (w / 8 % 536870912+w / 4294967296 % 4294967296 * 2 ^ 29)+2:=by omega
    rw [e1]
    generalize w / 8 % 536870912+w / 4294967296 % 4294967296 * 2 ^ 29=q
    conv=>lhs;rw [Nat.two_pow_add_eq_or_of_lt (by decide),Nat.or_assoc,show (2 ||| 4:Nat)=6 from rfl,← Nat.two_pow_add_eq_or_of_lt (by decide)]
   rw [this]
   omega
  rw [if_neg (by simpa using hb)]
  omega
 exact absurd (by simp [Zfx,h0,h1,h2,h4]) h3
theorem Z2p (p q:Z3):((p.Kind == q.Kind) && ((p.Off == q.Off) && ((p.Data == q.Data) && ((p.Ptrs == q.Ptrs) && ((p.Code == q.Code) && ((p.Count == q.Count) && ((p.Segment == q.Segment) && (p.Double == q.Double))))))))=true↔p=q:=by
 cases p;cases q
 simp [and_assoc]
open Classical in
/-- what 'Encode' tells -/
theorem Z0b (p:Z3):∃ w:Nat,w < 18446744073709551616∧Zt2 p=(w:Int)∧Jg p=some ((w:Int),decide (p.Kind≠4∧Zfx w=p)):=by
 obtain ⟨w,hw,hlt⟩:=Z0m p
 refine ⟨w,hlt,hw,?_⟩
 unfold Jg
 rw [Z5i,hw]
 simp only [Option.bind_some,Zz9 w hlt]
 by_cases h4:p.Kind=4
 ·simp [h4]
 have hk:(p.Kind != 4)=true:=by simp [h4]
 rw [hk]
 simp only [cond_true,Option.bind_some,Option.some.injEq,Prod.mk.injEq,true_and]
 rw [Bool.eq_iff_iff,Z2p]
 simp [h4]
theorem Zle (w:Nat) (hw:w < 18446744073709551616) (h:¬ (Zfx w).Kind=4):Jg (Zfx w)=some ((w:Int),true):=by
 obtain ⟨v,hv,h1,h2⟩:=Z0b (Zfx w)
 have:v=w:=by have:=Z2a w hw h;omega
 subst this
 rw [h2]
 simp [h]
def wid (c:Int):Nat:=if c=0 then 0 else if c=1 then 1 else if c=2 then 8 else if c=3 then 16 else if c=4 then 32 else 64
def Zcj (c w:Int):Bool:=decide (w < 2 ^ wid c)
theorem Zpv {c:Int} (h0:0≤c) (h1:c≤5):c=0∨c=1∨c=2∨c=3∨c=4∨c=5:=by omega
theorem Zwn {c w:Int} (h0:0≤c) (h1:c≤5) (hw:0≤w):Zag c w=some (Zcj c w):=by
 have key:∀ n:Nat,n≤64→(Int.fdiv w (2 ^ min (Int.toNat (n:Int)) 64) == 0)=decide (w < 2 ^ n):=fun n hn=>by
  rw [Int.toNat_natCast,Nat.min_eq_left hn,Int.fdiv_eq_ediv_of_nonneg _ (Int.le_of_lt (Int.pow_pos (by decide)))]
  have hp:(0:Int) < 2 ^ n:=Int.pow_pos (by decide)
  rw [Bool.eq_iff_iff,beq_iff_eq,decide_eq_true_eq]
  constructor
  ·intro h
   rcases Int.lt_or_le w (2 ^ n) with h2 | h2
   ·exact h2
   have:=Int.ediv_le_ediv hp h2
   rw [Int.ediv_self (Int.ne_of_gt hp)] at this
   omega
  intro h;exact Int.ediv_eq_zero_of_lt hw h
 have e:∀ n:Nat,n≤64→(some (((n:Int),true):Int×Bool)).bind (fun y2=>(cond y2.2 ((Jr (0≤y2.1)).bind fun u5=>some (cond y2.2 ((Int.fdiv w (2 ^ min (Int.toNat y2.1) 64)) == 0) false)) (some false)).bind fun (z4:Bool)=>some z4)=some (decide (w < 2 ^ n)):=fun n hn=>by
  rw [Option.bind_some]
  simp only [cond_true]
  rw [Zdc (by omega),Option.bind_some,Option.bind_some,key n hn]
 unfold Zag Zcj
 rcases Zpv h0 h1 with rfl | rfl | rfl | rfl | rfl | rfl
 ·exact e 0 (by decide)
 ·exact e 1 (by decide)
 ·exact e 8 (by decide)
 ·exact e 16 (by decide)
 ·exact e 32 (by decide)
 exact e 64 (by decide)
theorem Zxq (n:Nat) (hn:n≤64) (w:Int) (h0:0≤w) (h1:w < 18446744073709551616):Zy (Yz (n:Int)) (w,0)=some (w / 2 ^ n):=by
 have key:∀ m i:Nat,i+m=n→Zy (Yz (n:Int)) (w / 2 ^ i,(i:Int))=some (w / 2 ^ n):=fun m=>by
  induction m with
  | zero =>
   intro i hi
   have:i=n:=by omega
   subst this
   refine Qk ?_
   unfold Yz
   simp only
   rw [Zky,cond_false]
  | succ m ih =>
   intro i hi
   have hp:(0:Int) < 2 ^ i:=Int.pow_pos (by decide)
   have q0:0≤w / 2 ^ i:=Int.ediv_nonneg h0 (Int.le_of_lt hp)
   have q1:w / 2 ^ i≤w:=Int.ediv_le_self _ h0
   have hs:Yz (n:Int) (w / 2 ^ i,(i:Int))=some (.inl (w / 2 ^ (i+1),((i+1:Nat):Int))):=by
    unfold Yz
    simp only
    rw [Zkz (by omega),cond_true,Je (by omega) (by omega),Int.tdiv_eq_ediv_of_nonneg q0]
    have e:w / 2 ^ i / 2=w / 2 ^ (i+1):=by rw [Int.ediv_ediv_of_nonneg (Int.le_of_lt hp),Int.pow_succ]
    have q2:0≤w / 2 ^ i / 2:=Int.ediv_nonneg q0 (by decide)
    have q3:w / 2 ^ i / 2≤w / 2 ^ i:=Int.ediv_le_self _ q0
    have e3:IntKind.u64.wrap (w / 2 ^ i / 2)=w / 2 ^ i / 2:=by
     exact Z8j ⟨q2,by omega⟩
    rw [e3,e]
    rfl
   rw [Ji hs]
   exact ih (i+1) (by omega)
 have:=key n 0 (by omega)
 simpa using this
theorem Zqs {c w:Int} (h0:0≤c) (h1:c≤5) (hw:0≤w) (hw':w < 18446744073709551616):Qb c w=some (Zcj c w):=by
 have e:∀ n:Nat,n≤64→(cond (decide ((n:Int) < 0)) (some false) ((Zy (Yz (n:Int)) (w,0)).bind fun (z4:Int)=>some (z4 == 0)))=some (decide (w < 2 ^ n)):=fun n hn=>by
  have:decide ((n:Int) < 0)=false:=by rw [decide_eq_false_iff_not];omega
  have hp:(0:Int) < 2 ^ n:=Int.pow_pos (by decide)
  rw [this,cond_false,Zxq n hn w hw hw',Option.bind_some]
  congr 1
  rw [Bool.eq_iff_iff,beq_iff_eq,decide_eq_true_eq]
  constructor
  ·intro h
   rcases Int.lt_or_le w (2 ^ n) with h2 | h2
   ·exact h2
   have:=Int.ediv_le_ediv hp h2
   rw [Int.ediv_self (Int.ne_of_gt hp)] at this
   omega
  intro h;exact Int.ediv_eq_zero_of_lt hw h
 unfold Qb Zcj
 rcases Zpv h0 h1 with rfl | rfl | rfl | rfl | rfl | rfl
 ·exact e 0 (by decide)
 ·exact e 1 (by decide)
 ·exact e 8 (by decide)
 ·exact e 16 (by decide)
 ·exact e 32 (by decide)
 exact e 64 (by decide)
def okk (kind:Int) (k:Tr):Bool:=if 2≤kind∧kind≤7 then k.Kind == 10 && Zcj (kind - 2) (k.Words.headD 0) else k.Kind != 10 && (kind != 9 || k.Kind == 1)
def rt (t:Tr) (d:Nat):Bool :=
 if t.Kind=0 then t.Words.length == 0 && t.Kids.length == 0
 else if t.Kind=10 then t.Words.length == 1 && t.Kids.length == 0
 else if t.Kind < 0∨10 < t.Kind∨d=0∨65536≤t.Words.length∨(t.Kind=1∧65536≤t.Kids.length)∨1048576≤t.Kids.length∨(1 < t.Kind∧0 < t.Words.length) then false
 else (t.Kids.attach.map fun k=>rt k.1 (d - 1) && okk t.Kind k.1).all id
termination_by SizeOf.sizeOf t
decreasing_by exact Qn k.2
theorem Zep (t:Tr) (d:Nat):rt t d=if t.Kind=0 then t.Words.length == 0 && t.Kids.length == 0
 else if t.Kind=10 then t.Words.length == 1 && t.Kids.length == 0
 else if t.Kind < 0∨10 < t.Kind∨d=0∨65536≤t.Words.length∨(t.Kind=1∧65536≤t.Kids.length)∨1048576≤t.Kids.length∨(1 < t.Kind∧0 < t.Words.length) then false
 else t.Kids.all fun k=>rt k (d - 1) && okk t.Kind k:=by
 rw [rt]
 have:(t.Kids.attach.map fun k=>rt k.1 (d - 1) && okk t.Kind k.1)=t.Kids.map fun k=>rt k (d - 1) && okk t.Kind k:=List.attach_map_val (f:=fun k=>rt k (d - 1) && okk t.Kind k)
 rw [this,List.all_map]
 rfl
theorem Z2w {t:Tr} (h:t.Kind=10) (d d':Nat):rt t d=rt t d':=by
 have h0:¬ t.Kind=0:=by rw [h];decide
 rw [Zep t d,Zep t d']
 simp only [if_neg h0,if_pos h]
theorem Zov {t:Tr} (h:t.Kind=10) {d:Nat} (hr:rt t d=true):∃ w,t.Words=[w]:=by
 rw [Zep,if_neg (by omega),if_pos h,Bool.and_eq_true,beq_iff_eq] at hr
 obtain ⟨k,w,ks⟩:=t
 obtain ⟨h1,_⟩:=hr
 simp only at h1 ⊢
 exact List.length_eq_one_iff.1 h1
theorem Zzm {n:Nat}:((n:Int) == 0)=(n == 0):=by rw [Bool.eq_iff_iff,beq_iff_eq,beq_iff_eq];omega
theorem Z5j {n:Nat}:((n:Int) == 1)=(n == 1):=by rw [Bool.eq_iff_iff,beq_iff_eq,beq_iff_eq];omega
theorem Zap (a b:Bool):cond a b false=(a && b):=by cases a <;> rfl
theorem Zx9 {α:Type} (p:α→Bool):∀ l:List α,l.any (fun x => !p x) = !(l.all p)
 | []=>rfl
 | x::l=>by rw [List.any_cons,List.all_cons,Zx9 p l];cases p x <;> rfl
theorem Znn {α R:Type} (xs:List α) (step:Int→Option (Int ⊕ R)) (p:α→Bool) (e o:R) (hl:(xs.length:Int)≤140737488355328)
  (h1:∀ (i:Nat) (x:α),i < xs.length→xs[i]? = some x→x∈xs→step i=some (if p x=true then .inl (IntKind.i64.wrap ((i:Int)+1)) else .inr e)) (h2:step xs.length=some (.inr o)):Zy step 0=some (if xs.all p=true then o else e):=by
 rw [Z0n xs step (fun x => !p x) e o hl (fun i x hi hx hm=>by rw [h1 i x hi hx hm];cases p x <;> rfl) h2,Zx9]
 cases xs.all p <;> rfl
theorem Ztd:∀ (k:Nat) (t:Tr) (d:Nat),Bd t→SizeOf.sizeOf t < k→d≤64→Xr k t (d:Int)=some (rt t d)
 | 0,t,d,_,h,_=>by omega
 | k+1,t,d,hb,hk,hd=>by
  have hkd:=hb.k
  show Jl (Xr k) t (d:Int)=_
  unfold Jl
  rw [Zep,Zzm,Z5j]
  by_cases h0:t.Kind=0
  ·rw [if_pos h0,h0]
   simp only [Zzm,Zap]
   rfl
  have e0:(t.Kind == 0)=false:=by simp [h0]
  rw [if_neg h0,e0,cond_false]
  by_cases h10:t.Kind=10
  ·rw [if_pos h10,h10]
   simp only [Zzm,Zap]
   rfl
  have e10:(t.Kind == 10)=false:=by simp [h10]
  rw [if_neg h10,e10,cond_false]
  by_cases hbad:t.Kind < 0∨10 < t.Kind∨d=0∨65536≤t.Words.length∨(t.Kind=1∧65536≤t.Kids.length)∨1048576≤t.Kids.length∨(1 < t.Kind∧0 < t.Words.length)
  ·rw [if_pos hbad]
   have hc:∀ c1 c2 c3 c4 c5 c6 c7 c8:Bool,(c1=true∨c2=true∨c3=true∨c4=true∨(c5=true∧c6=true)∨c7=true∨c8=true)→∀ X:Option Bool,
     cond (cond (cond (cond (cond (cond c1 true c2) true c3) true c4) true (cond c5 c6 false)) true c7) (some false) (cond c8 (some false) X)=some false:=by
    intro c1 c2 c3 c4 c5 c6 c7 c8 h X
    cases c1 <;> cases c2 <;> cases c3 <;> cases c4 <;> cases c5 <;> cases c6 <;> cases c7 <;> cases c8 <;> first | rfl | (simp at h;done)
   refine hc _ _ _ _ _ _ _ _ ?_ _
   simp only [decide_eq_true_eq,beq_iff_eq,Zap,Bool.and_eq_true]
   omega
  rw [if_neg hbad]
  have hg:¬ t.Kind < 0∧¬ 10 < t.Kind∧¬ d=0∧¬ 65536≤t.Words.length∧¬ (t.Kind=1∧65536≤t.Kids.length)∧¬ 1048576≤t.Kids.length∧¬ (1 < t.Kind∧0 < t.Words.length):=by omega
  have hc:∀ c1 c2 c3 c4 c5 c7 c8:Bool,c1=false→c2=false→c3=false→c4=false→c5=false→c7=false→c8=false→∀ X:Option Bool,
    cond (cond (cond (cond (cond (cond c1 true c2) true c3) true c4) true c5) true c7) (some false) (cond c8 (some false) X)=X:=by
   intro c1 c2 c3 c4 c5 c7 c8 h1 h2 h3 h4 h5 h7 h8 X
   subst h1 h2 h3 h4 h5 h7 h8
   rfl
  rw [hc _ _ _ _ _ _ _ (decide_eq_false hg.1) (decide_eq_false hg.2.1) (by rw [beq_eq_false_iff_ne];omega) (by rw [decide_eq_false_iff_not];omega) (by rw [Zap,Bool.and_eq_false_iff,beq_eq_false_iff_ne,decide_eq_false_iff_not];omega) (by rw [decide_eq_false_iff_not];omega) (by rw [Zap,Bool.and_eq_false_iff,decide_eq_false_iff_not,decide_eq_false_iff_not];omega)]
  obtain ⟨d',rfl⟩:∃ d',d=d'+1:=⟨d - 1,by omega⟩
  have ih:∀ x∈t.Kids,Xr k x (d':Int)=some (rt x d'):=fun x hx=>Ztd k x d' (hb.all x hx) (by have:=Qn hx;omega) (by omega)
  rw [Znn t.Kids (Ql (Xr k) t ((d'+1:Nat):Int)) (fun x=>rt x d' && okk t.Kind x) (.inl ()) (.inr ()) (by omega) (fun i x hi hx hm=>by
   unfold Ql
   have ed:((d'+1:Nat):Int) - 1=(d':Int):=by omega
   rw [Zkz hi,cond_true,X8 hx,Option.bind_some,Je (x:=((d'+1:Nat):Int) - 1) (by omega) (by omega),ed,ih x hm,Option.bind_some]
   cases hr:rt x d' with
   | false=>rfl
   | true =>
    rw [Bool.not_true,cond_false,Bool.true_and]
    unfold okk
    by_cases hdt:2≤t.Kind∧t.Kind≤7
    ·have e2:decide (2≤t.Kind)=true:=decide_eq_true hdt.1
     have e7:decide (t.Kind≤7)=true:=decide_eq_true hdt.2
     have e9:(t.Kind == 9)=false:=by rw [beq_eq_false_iff_ne];omega
     rw [e2,e7,e9,if_pos hdt]
     simp only [cond_true,cond_false]
     by_cases hx10:x.Kind=10
     ·obtain ⟨w,hw⟩:=Zov hx10 hr
      have hu:=(hb.all x hm).u w (by rw [hw];exact .head _)
      have ex:(x.Kind == 10)=true:=by simp [hx10]
      have ex2:((true:Bool) != true)=false:=rfl
      have hg0:Zv [w] (0:Int)=some w:=rfl
      rw [ex,ex2,cond_false,hw,hg0,Option.bind_some,Je (by omega) (by omega),Zqs (by omega) (by omega) hu.1 hu.2,Option.bind_some]
      simp only [cond_false,List.headD_cons,Bool.true_and]
      cases Zcj (t.Kind - 2) w <;> rfl
     have ex:(x.Kind == 10)=false:=by simp [hx10]
     rw [ex]
     rfl
    have ed2:cond (decide (2≤t.Kind)) (decide (t.Kind≤7)) false=false:=by
     rw [Zap,Bool.and_eq_false_iff,decide_eq_false_iff_not,decide_eq_false_iff_not];omega
    rw [ed2,if_neg hdt]
    have hin:∀ (X:Option Bool) (b:Bool),(cond (decide (2≤t.Kind)) (cond (decide (t.Kind≤7)) X (some b)) (some b))=some b:=fun X b=>by
     by_cases h2:2≤t.Kind
     ·have h7:decide (t.Kind≤7)=false:=by rw [decide_eq_false_iff_not];omega
      rw [decide_eq_true h2,h7];rfl
     rw [decide_eq_false h2];rfl
    by_cases hx10:x.Kind=10
    ·have ex:(x.Kind == 10)=true:=by simp [hx10]
     have ex2:(x.Kind != 10)=false:=by simp [hx10]
     rw [ex,ex2]
     rfl
    have ex:(x.Kind == 10)=false:=by simp [hx10]
    have ex2:(x.Kind != 10)=true:=by simp [hx10]
    have ex3:((false:Bool) != false)=false:=rfl
    rw [ex,ex2,ex3,cond_false]
    simp only [cond_false]
    rw [hin]
    by_cases h9:t.Kind=9
    ·have e9:(t.Kind == 9)=true:=by simp [h9]
     have e9':(t.Kind != 9)=false:=by simp [h9]
     rw [e9,e9',cond_true]
     by_cases hx1:x.Kind=1
     ·have q1:(x.Kind != 1)=false:=by simp [hx1]
      have q2:(x.Kind == 1)=true:=by simp [hx1]
      rw [q1,q2,cond_false]
      rfl
     have q1:(x.Kind != 1)=true:=by simp [hx1]
     have q2:(x.Kind == 1)=false:=by simp [hx1]
     rw [q1,q2,cond_true]
     rfl
    have e9:(t.Kind == 9)=false:=by simp [h9]
    have e9':(t.Kind != 9)=true:=by simp [h9]
    rw [e9,e9']
    rfl) (by unfold Ql;rw [Zky];rfl),Option.bind_some,Nat.add_sub_cancel]
  cases t.Kids.all fun x=>rt x d' && okk t.Kind x <;> rfl
theorem Zzz {t:Tr} (h:Bd t) {d:Nat} (hd:d≤64):Gp t (d:Int)=some (rt t d):=Zqd (SizeOf.sizeOf t+1) fun k hk=>Ztd k t d h (by omega) hd
theorem Z2d (n:Int):Zco n=some (decide (2≤n) && decide (n≤9)):=by unfold Zco;rw [Zap]
theorem Zxw {l:List Tr} (hl:(l.length:Int)≤140737488355328):Ke l=some (l.all fun x=>x.Kind == 1):=by
 unfold Ke
 rw [Znn l (Q2 l) (fun x=>x.Kind == 1) (.inl ()) (.inr ()) hl (fun i x hi hx hm=>by
  unfold Q2
  rw [Zkz hi,cond_true,X8 hx,Option.bind_some]
  simp only [bne]
  cases x.Kind == 1 <;> rfl) (by unfold Q2;rw [Zky];rfl),Option.bind_some]
 cases l.all fun x=>x.Kind == 1 <;> rfl
theorem Zx8 {α:Type} (p q:α→Bool):∀ l:List α,(l.all fun x=>p x && q x)=(l.all p && l.all q)
 | []=>rfl
 | x::l=>by rw [List.all_cons,List.all_cons,List.all_cons,Zx8 p q l];cases p x <;> cases q x <;> cases l.all p <;> cases l.all q <;> rfl
theorem Zss {α:Type} {p q:α→Bool}:∀ {l:List α},(∀ x∈l,p x=q x)→l.all p=l.all q
 | [],_=>rfl
 | x::l,h=>by rw [List.all_cons,List.all_cons,h x (.head _),Zss fun y hy=>h y (.tail _ hy)]
def rq (t:Tr) (d:Nat):Bool:=rt t d && t.Kind != 10
def ra (c:Int) (x:Tr):Bool:=x.Kind == 10 && (rt x 64 && Zcj c (x.Words.headD 0))
theorem Zwf:∀ (k:Nat),(∀ t:Tr,Bd t→(2 * SizeOf.sizeOf t+1 < k∨(t.Kind=10∧0 < k))→(Zr k).1 t=some (rt t 64)) ∧
  (∀ (t:Tr) (d:Nat),Bd t→2 * SizeOf.sizeOf t < k→d≤64→(Zr k).2.1 t (d:Int)=some (rq t d)) ∧
  (∀ (l:List Tr) (d:Nat),(∀ x∈l,Bd x∧2 * SizeOf.sizeOf x+1 < k)→(l.length:Int)≤140737488355328→d≤64→1≤k→(Zr k).2.2.1 l (d:Int)=some (l.all fun x=>rq x d)) ∧
  (∀ (l:List Tr) (c:Int),(∀ x∈l,Bd x)→(l.length:Int)≤140737488355328→0≤c→c≤5→2≤k→(Zr k).2.2.2 l c=some (l.all (ra c)))
 | 0=>⟨fun t _ h=>by omega,fun t d _ h=>by omega,fun l d _ _ _ h=>by omega,fun l c _ _ _ _ h=>by omega⟩
 | k+1=>by
  obtain ⟨i1,i2,i3,i4⟩:=Zwf k
  refine ⟨fun t hb hk => ?_,fun t d hb hk hd => ?_,fun l d hl hn hd hk => ?_,fun l c hl hn h0 h5 hk => ?_⟩
  ·show Zan (Zr k).1 (Zr k).2.1 (Zr k).2.2.1 (Zr k).2.2.2 t=_
   unfold Zan
   rw [Zzm,Z5j]
   by_cases h10:t.Kind=10
   ·have e:(t.Kind == 10)=true:=by simp [h10]
    rw [e,cond_true,Zap,Zep,if_neg (by rw [h10];decide),if_pos h10]
   have e:(t.Kind == 10)=false:=by simp [h10]
   have e2:(t.Kind != 10)=true:=by simp [h10]
   have:=i2 t 64 hb (by rcases hk with hk | hk;omega;exact absurd hk.1 h10) (by decide)
   rw [e,cond_false,show (64:Int)=((64:Nat):Int) from rfl,this,Option.bind_some]
   unfold rq
   rw [e2,Bool.and_true]
  ·have hkd:=hb.k
   have hw:=hb.w
   show Zao (Zr k).1 (Zr k).2.1 (Zr k).2.2.1 (Zr k).2.2.2 t (d:Int)=_
   unfold Zao rq
   rw [Zzm,Zzm,Zep]
   by_cases h0:t.Kind=0
   ·have e:(t.Kind == 0)=true:=by simp [h0]
    have e2:(t.Kind != 10)=true:=by rw [h0];rfl
    rw [e,e2,cond_true,Zap,if_pos h0,Bool.and_true]
   have e0:(t.Kind == 0)=false:=by simp [h0]
   rw [e0,cond_false,if_neg h0]
   by_cases hd0:d=0
   ·subst hd0
    have e:(((0:Nat):Int) == 0)=true:=rfl
    rw [e,cond_true]
    by_cases h10:t.Kind=10
    ·simp [h10]
    rw [if_neg h10,if_pos (by omega),Bool.false_and]
   have ed:((d:Int) == 0)=false:=by rw [beq_eq_false_iff_ne];omega
   rw [ed,cond_false]
   obtain ⟨d',rfl⟩:∃ d',d=d'+1:=⟨d - 1,by omega⟩
   have e3:((d'+1:Nat):Int) - 1=(d':Int):=by omega
   have ih3:=i3 t.Kids d' (fun x hx=>⟨hb.all x hx,by have:=Qn hx;omega⟩) (by omega) (by omega) (by have:=Zwj t;omega)
   rw [Je (x:=((d'+1:Nat):Int) - 1) (by omega) (by omega),e3,ih3,Nat.add_sub_cancel]
   by_cases h1:t.Kind=1
   ·have e:(t.Kind == 1)=true:=by simp [h1]
    have e2:(t.Kind != 10)=true:=by rw [h1];rfl
    have e10:¬ t.Kind=10:=by omega
    have ho:∀ x:Tr,okk t.Kind x=(x.Kind != 10):=fun x=>by unfold okk;rw [h1,if_neg (by decide)];simp
    rw [e,e2,cond_true,if_neg e10,Bool.and_true]
    simp only [ho]
    by_cases hw':t.Words.length < 65536
    ·have q1:decide ((t.Words.length:Int) < 65536)=true:=by rw [decide_eq_true_eq];omega
     by_cases hk':t.Kids.length < 65536
     ·have q2:decide ((t.Kids.length:Int) < 65536)=true:=by rw [decide_eq_true_eq];omega
      rw [q1,q2,if_neg (by omega)]
      rfl
     have q2:decide ((t.Kids.length:Int) < 65536)=false:=by rw [decide_eq_false_iff_not];omega
     rw [q1,q2,if_pos (by omega)]
     rfl
    have q1:decide ((t.Words.length:Int) < 65536)=false:=by rw [decide_eq_false_iff_not];omega
    rw [q1,if_pos (by omega)]
    rfl
   have e1:(t.Kind == 1)=false:=by simp [h1]
   rw [e1,cond_false,Z2d,Option.bind_some]
   by_cases hbad:¬ (2≤t.Kind∧t.Kind≤9)∨0 < t.Words.length∨1048576≤t.Kids.length
   ·have q:cond (cond (!(decide (2≤t.Kind) && decide (t.Kind≤9))) true (decide (0 < (t.Words.length:Int)))) true (decide (1048576≤(t.Kids.length:Int)))=true:=by
     cases hq:cond (cond (!(decide (2≤t.Kind) && decide (t.Kind≤9))) true (decide (0 < (t.Words.length:Int)))) true (decide (1048576≤(t.Kids.length:Int))) with
     | true=>rfl
     | false =>
      have hc:∀ a b c:Bool,cond (cond (!a) true b) true c=false→a=true∧b=false∧c=false:=by decide
      obtain ⟨z1,z2,z3⟩:=hc _ _ _ hq
      rw [Bool.and_eq_true,decide_eq_true_eq,decide_eq_true_eq] at z1
      rw [decide_eq_false_iff_not] at z2 z3
      omega
    rw [q,cond_true]
    by_cases h10:t.Kind=10
    ·have e2:(t.Kind != 10)=false:=by simp [h10]
     rw [e2,Bool.and_false]
    rw [if_neg h10,if_pos (by omega),Bool.false_and]
   have hg:2≤t.Kind∧t.Kind≤9∧¬ 0 < t.Words.length∧¬ 1048576≤t.Kids.length:=by omega
   have q2:decide (0 < (t.Words.length:Int))=false:=by rw [decide_eq_false_iff_not];omega
   have q3:decide (1048576≤(t.Kids.length:Int))=false:=by rw [decide_eq_false_iff_not];omega
   have e10:¬ t.Kind=10:=by omega
   have e2:(t.Kind != 10)=true:=by simp [e10]
   rw [decide_eq_true hg.1,decide_eq_true hg.2.1,q2,q3,e2,if_neg e10,if_neg (by omega),Bool.and_true]
   simp only [Bool.and_true,Bool.not_true,cond_false]
   by_cases h8:t.Kind=8
   ·have e:(t.Kind == 8)=true:=by simp [h8]
    have ho:∀ x:Tr,okk t.Kind x=(x.Kind != 10):=fun x=>by unfold okk;rw [h8,if_neg (by decide)];simp
    rw [e,cond_true,Option.bind_some]
    simp only [ho]
    rfl
   have e8:(t.Kind == 8)=false:=by simp [h8]
   rw [e8,cond_false]
   by_cases h9:t.Kind=9
   ·have e:(t.Kind == 9)=true:=by simp [h9]
    have ho:∀ x:Tr,(rt x d' && okk t.Kind x)=(rq x d' && x.Kind == 1):=fun x=>by
     unfold okk rq
     rw [h9,if_neg (by decide)]
     have:((9:Int) != 9)=false:=rfl
     rw [this,Bool.false_or,Bool.and_assoc]
    rw [e,cond_true,Zxw (by omega),Option.bind_some]
    simp only [ho]
    rw [Zx8]
    cases t.Kids.all fun x=>x.Kind == 1 with
    | false=>rw [Bool.and_false];rfl
    | true=>rw [Bool.and_true];rfl
   have e:(t.Kind == 9)=false:=by simp [h9]
   have hd7:2≤t.Kind∧t.Kind≤7:=by omega
   rw [e,cond_false,Je (by omega) (by omega),i4 t.Kids (t.Kind - 2) hb.all (by omega) (by omega) (by omega) (by have:=Zwj t;omega),Option.bind_some]
   congr 1
   refine Zss fun x hx => ?_
   unfold okk ra
   rw [if_pos hd7]
   by_cases hx10:x.Kind=10
   ·rw [Z2w hx10 d' 64]
    have:(x.Kind == 10)=true:=by simp [hx10]
    rw [this,Bool.true_and,Bool.true_and]
   have:(x.Kind == 10)=false:=by simp [hx10]
   rw [this,Bool.false_and,Bool.false_and,Bool.and_false]
  ·show Ve (Zr k).1 (Zr k).2.1 (Zr k).2.2.1 (Zr k).2.2.2 l (d:Int)=_
   unfold Ve
   rw [Znn l (Jn (Zr k).2.1 l (d:Int)) (fun x=>rq x d) (.inl ()) (.inr ()) hn (fun i x hi hx hm=>by
    unfold Jn
    rw [Zkz hi,cond_true,X8 hx,Option.bind_some,i2 x d (hl x hm).1 (by have:=(hl x hm).2;omega) hd,Option.bind_some]
    cases rq x d <;> rfl) (by unfold Jn;rw [Zky];rfl),Option.bind_some]
   cases l.all fun x=>rq x d <;> rfl
  show Vd (Zr k).1 (Zr k).2.1 (Zr k).2.2.1 (Zr k).2.2.2 l c=_
  unfold Vd
  rw [Znn l (Jm (Zr k).1 l c) (ra c) (.inl ()) (.inr ()) hn (fun i x hi hx hm=>by
   unfold Jm ra
   rw [Zkz hi,cond_true,X8 hx,Option.bind_some]
   by_cases hx10:x.Kind=10
   ·have e:(x.Kind == 10)=true:=by simp [hx10]
    have e2:(x.Kind != 10)=false:=by simp [hx10]
    rw [e,e2,cond_false,i1 x (hl x hm) (.inr ⟨hx10,by omega⟩),Option.bind_some,Bool.true_and]
    cases hr:rt x 64 with
    | false=>rfl
    | true =>
     obtain ⟨w,hw⟩:=Zov hx10 hr
     have hu:=(hl x hm).u w (by rw [hw];exact .head _)
     have hg0:Zv [w] (0:Int)=some w:=rfl
     rw [cond_true,hw,hg0,Option.bind_some,Zwn h0 h5 hu.1,Option.bind_some]
     simp only [cond_false,List.headD_cons,Bool.true_and,Bool.not_true]
     cases Zcj c w <;> rfl
   have e:(x.Kind == 10)=false:=by simp [hx10]
   have e2:(x.Kind != 10)=true:=by simp [hx10]
   rw [e,e2]
   rfl) (by unfold Jm;rw [Zky];rfl),Option.bind_some]
  cases l.all (ra c) <;> rfl
theorem Z1b {t:Tr} (h:Bd t):Zno t=some (rt t 64):=Zqd (2 * SizeOf.sizeOf t+2) fun k hk=>(Zwf k).1 t h (.inl (by omega))
theorem Zs4 {α S R σ:Type} (xs:List α) (mk:S→Int→σ) (f:S→α→S) (out:S→R) (I:S→Prop) (step:σ→Option (σ ⊕ R)) (hl:(xs.length:Int)≤140737488355328)
  (h1:∀ (s:S) (i:Nat) (x:α),I s→i < xs.length→xs[i]? = some x→x∈xs→I (f s x)∧step (mk s (i:Int))=some (.inl (mk (f s x) (IntKind.i64.wrap ((i:Int)+1))))) (h2:∀ s,I s→step (mk s (xs.length:Int))=some (.inr (out s))) (s:S) (hs:I s):Zy step (mk s 0)=some (out (xs.foldl f s))∧I (xs.foldl f s):=by
 have key:∀ (ys:List α) (i:Nat) (s:S),I s→xs.drop i=ys→i≤xs.length→Zy step (mk s (i:Int))=some (out (ys.foldl f s))∧I (ys.foldl f s):=fun ys=>by
  induction ys with
  | nil =>
   intro i s hI h hi
   have:i=xs.length:=by
    have:=congrArg List.length h
    rw [List.length_drop,List.length_nil] at this
    omega
   subst this
   exact ⟨Qk (h2 s hI),hI⟩
  | cons x ys ih =>
   intro i s hI h hi
   have hx:xs[i]? = some x:=by
    have:=congrArg (fun l=>l[0]?) h
    simpa using this
   have hi':i < xs.length:=by
    rcases Nat.lt_or_ge i xs.length with h' | h'
    ·exact h'
    rw [List.getElem?_eq_none h'] at hx;cases hx
   obtain ⟨hI',hs⟩:=h1 s i x hI hi' hx (List.mem_of_getElem? hx)
   have hd:xs.drop (i+1)=ys:=by
    have:=congrArg List.tail h
    rwa [List.tail_drop,List.tail_cons] at this
   have e1:(i:Int)+1=((i+1:Nat):Int):=by omega
   rw [Je (by omega) (by omega),e1] at hs
   rw [Ji hs]
   exact ih (i+1) (f s x) hI' hd (by omega)
 exact key xs 0 s hs rfl (Nat.zero_le _)
def n0T:Tr:=⟨0,[],[]⟩
theorem Zvs {α β:Type} (xs:List α) (f:α→β) (step:Int×List β→Option ((Int×List β) ⊕ List β)) (acc:List β) (hl:(xs.length:Int)≤140737488355328)
  (h1:∀ (i:Nat) (x:α) (out:List β),i < xs.length→xs[i]? = some x→x∈xs→out.length=acc.length+i→step ((i:Int),out)=some (.inl (IntKind.i64.wrap ((i:Int)+1),out++[f x])))
  (h2:∀ out,step ((xs.length:Int),out)=some (.inr out)):Zy step (0,acc)=some (acc++xs.map f):=by
 have key:∀ m i,i+m=xs.length→Zy step ((i:Int),acc++(xs.take i).map f)=some (acc++xs.map f):=fun m=>by
  induction m with
  | zero =>
   intro i hi
   have hi':i=xs.length:=by omega
   subst hi'
   rw [List.take_length]
   exact Qk (h2 _)
  | succ m ih =>
   intro i hi
   have hx:xs[i]? = some xs[i]:=List.getElem?_eq_getElem (by omega)
   have h:=h1 i _ (acc++(xs.take i).map f) (by omega) hx (List.mem_of_getElem? hx) (by rw [List.length_append,List.length_map,List.length_take];omega)
   rw [Je (by omega) (by omega)] at h
   rw [Ji h]
   have e:acc++(xs.take i).map f++[f xs[i]]=acc++(xs.take (i+1)).map f:=by
    rw [List.take_add_one,hx,List.map_append,List.append_assoc]
    rfl
   rw [e]
   exact ih (i+1) (by omega)
 have:=key xs.length 0 (by omega)
 simpa using this
theorem Z2n {k:Int} {t:Tr} (h:okk k t=true):okk k (nrm t)=true:=by
 unfold okk at h ⊢
 rw [U6]
 split
 ·rename_i hk
  rw [if_pos hk,Bool.and_eq_true,beq_iff_eq] at h
  rw [Zd8 (by omega) (by omega),h.1]
  simp only [BEq.rfl,Bool.true_and]
  exact h.2
 rename_i hk
 rw [if_neg hk] at h
 exact h
theorem Z1j:∀ (n:Nat) (t:Tr) (d:Nat),SizeOf.sizeOf t < n→rt t d=true→rt (nrm t) d=true
 | 0,_,_,h,_=>by omega
 | n+1,t,d,hn,h=>by
  have hk:=U6 t
  by_cases h0:t.Kind=0
  ·rw [Zj1 h0,Zep,if_pos rfl];rfl
  rw [Zep,if_neg h0] at h
  by_cases h10:t.Kind=10
  ·rw [if_pos h10] at h
   rw [Zd8 h0 (by omega),Zep,if_neg h0,if_pos h10]
   simp only [List.length_map]
   exact h
  rw [if_neg h10] at h
  by_cases hc:t.Kind < 0∨10 < t.Kind∨d=0∨65536≤t.Words.length∨(t.Kind=1∧65536≤t.Kids.length)∨1048576≤t.Kids.length∨(1 < t.Kind∧0 < t.Words.length)
  ·rw [if_pos hc] at h;cases h
  rw [if_neg hc,List.all_eq_true] at h
  have hkid:∀ x∈t.Kids,(rt (nrm x) (d - 1) && okk t.Kind (nrm x))=true:=fun x hx=>by
   have:=h x hx
   rw [Bool.and_eq_true] at this ⊢
   exact ⟨Z1j n x (d - 1) (by have:=Qn hx;omega) this.1,Z2n this.2⟩
  by_cases h1:t.Kind=1
  ·obtain ⟨W,K,e1,lW,lK,mK⟩:∃ W K,nrm t=⟨1,W,K⟩∧W.length≤t.Words.length∧K.length≤t.Kids.length∧∀ x∈K,x∈t.Kids.map nrm :=
    ⟨_,_,Zbu h1,Zjg _ _,by have h:=Zjg (fun x:Tr=>x.Kind == 0) (t.Kids.map nrm);rw [List.length_map] at h;exact h,fun x hx=>Zjh hx⟩
   rw [e1,Zep]
   simp only
   rw [if_neg (by decide),if_neg (by decide),if_neg (by omega),List.all_eq_true]
   intro x hx
   obtain ⟨y,hy,rfl⟩:=List.mem_map.1 (mK x hx)
   rw [← h1]
   exact hkid y hy
  rw [Zd8 h0 h1,Zep]
  simp only [List.length_map]
  rw [if_neg h0,if_neg h10,if_neg hc,List.all_eq_true]
  intro x hx
  obtain ⟨y,hy,rfl⟩:=List.mem_map.1 hx
  exact hkid y hy
theorem rtN {t:Tr} {d:Nat} (h:rt t d=true):rt (nrm t) d=true:=Z1j _ t d (Nat.lt_succ_self _) h
def atD {α:Type} (z:α) (l:List α) (i:Nat):α:=(l[i]?).getD z
def NT (t:Tr):Prop:=nrm t=t
theorem NT.of (t:Tr):NT (nrm t):=Zt7 t
theorem NT.z:NT n0T:=Zj1 rfl
theorem NT.kids {t:Tr} (h:NT t):∀ k∈t.Kids,NT k:=fun k hk=>by
 unfold NT at h
 rw [← h] at hk
 by_cases h0:t.Kind=0
 ·rw [Zj1 h0] at hk;cases hk
 by_cases h1:t.Kind=1
 ·rw [Zbu h1] at hk
  obtain ⟨y,_,rfl⟩:=List.mem_map.1 (Zjh hk)
  exact NT.of y
 rw [Zd8 h0 h1] at hk
 obtain ⟨y,_,rfl⟩:=List.mem_map.1 hk
 exact NT.of y
theorem NT.map {l:List Tr} (h:∀ k∈l,NT k):l.map nrm=l:=by
 conv=>rhs;rw [← List.map_id l]
 exact List.map_congr_left fun x hx=>h x hx
inductive Rg:Tr→Prop
 | mk (t:Tr) (h3:∀ w∈t.Words,0≤w∧w < 18446744073709551616) (h4:∀ k∈t.Kids,Rg k):Rg t
theorem Rg.u {t:Tr} (h:Rg t):∀ w∈t.Words,0≤w∧w < 18446744073709551616:=by cases h;assumption
theorem Rg.all {t:Tr} (h:Rg t):∀ k∈t.Kids,Rg k:=by cases h;assumption
theorem Rg.z:Rg n0T := .mk _ (by simp [n0T]) (by simp [n0T])
theorem Rg.of:∀ (n:Nat) (t:Tr),SizeOf.sizeOf t < n→Bd t→Rg t
 | 0,_,h,_=>by omega
 | n+1,t,hn,h => .mk _ h.u fun k hk=>Rg.of n k (by have:=Qn hk;omega) (h.all k hk)
theorem Bd.rg {t:Tr} (h:Bd t):Rg t:=Rg.of _ t (Nat.lt_succ_self _) h
inductive TX:Tr→Prop
 | mk (t:Tr) (h1:2≤t.Kind∧t.Kind≤9→t.Words=[]) (h9:t.Kind=9→∀ k∈t.Kids,k.Kind=1) (ih:∀ k∈t.Kids,TX k):TX t
theorem TX.w {t:Tr} (h:TX t):2≤t.Kind∧t.Kind≤9→t.Words=[]:=by cases h;assumption
theorem TX.s {t:Tr} (h:TX t):t.Kind=9→∀ k∈t.Kids,k.Kind=1:=by cases h;assumption
theorem TX.all {t:Tr} (h:TX t):∀ k∈t.Kids,TX k:=by cases h;assumption
theorem TX.z:TX n0T := .mk _ (fun _=>rfl) (fun h=>by simp [n0T] at h) (by simp [n0T])
theorem TX.nn:∀ (n:Nat) (t:Tr),SizeOf.sizeOf t < n→TX t→TX (nrm t)
 | 0,_,h,_=>by omega
 | n+1,t,hn,h=>by
  by_cases h0:t.Kind=0
  ·rw [Zj1 h0];exact TX.z
  by_cases h1:t.Kind=1
  ·rw [Zbu h1]
   refine .mk _ (fun h=>by simp only at h;omega) (fun h=>by simp only at h;omega) fun k hk => ?_
   obtain ⟨y,hy,rfl⟩:=List.mem_map.1 (Zjh hk)
   exact TX.nn n y (by have:=Qn hy;omega) (h.all y hy)
  rw [Zd8 h0 h1]
  refine .mk _ h.w (fun h9 k hk => ?_) fun k hk => ?_
  ·obtain ⟨y,hy,rfl⟩:=List.mem_map.1 hk
   rw [U6];exact h.s h9 y hy
  obtain ⟨y,hy,rfl⟩:=List.mem_map.1 hk
  exact TX.nn n y (by have:=Qn hy;omega) (h.all y hy)
theorem TX.n {t:Tr} (h:TX t):TX (nrm t):=TX.nn _ t (Nat.lt_succ_self _) h
theorem Z10 {α:Type} {z:α} {l:List α} {i:Nat}:atD z l i∈l∨atD z l i=z:=by
 unfold atD
 cases h:l[i]? with
 | none=>exact .inr rfl
 | some x=>exact .inl (List.mem_of_getElem? h)
theorem Z38 {l:List Int} (h:∀ x∈l,0≤x∧x < 18446744073709551616) (i:Nat):0≤atD 0 l i∧atD 0 l i < 18446744073709551616:=by
 rcases Z10 (z:=(0:Int)) (l:=l) (i:=i) with q | q
 ·exact h _ q
 rw [q];omega
structure GT (t:Tr):Prop where
 n:NT t
 g:Rg t
 x:TX t
theorem GT.z:GT n0T:=⟨NT.z,Rg.z,TX.z⟩
theorem GT.all {t:Tr} (h:GT t):∀ k∈t.Kids,GT k:=fun k hk=>⟨h.n.kids k hk,h.g.all k hk,h.x.all k hk⟩
theorem GT.of {t:Tr} (hb:Bd t) (hx:TX t):GT (nrm t):=⟨NT.of t,hb.nrm.rg,hx.n⟩
def Z8k {α:Type} (f:α→α→Option α):Option α→Option α→Option α
 | some x,some y=>f x y
 | some x,none=>some x
 | none,y=>y
def Rise {α:Type} (pl:α→Int) (l:List α):Prop:=l.Pairwise (fun a b=>pl a < pl b)∧∀ x∈l,0≤pl x
theorem Rise.tail {α:Type} {pl:α→Int} {x:α} {l:List α} (h:Rise pl (x::l)):Rise pl l:=⟨(List.pairwise_cons.1 h.1).2,fun y hy=>h.2 y (.tail _ hy)⟩
theorem GT.w {t:Tr} (h:GT t) (j:Nat):0≤atD 0 t.Words j∧atD 0 t.Words j < 18446744073709551616:=Z38 h.g.u j
def frS (s:Int×Int) (x:Tr):Int×Int:=(if s.1 < (x.Words.length:Int) then (x.Words.length:Int) else s.1,if s.2 < (x.Kids.length:Int) then (x.Kids.length:Int) else s.2)
def fr (l:List Tr):Int×Int:=l.foldl frS (0,0)
theorem Zvd {t:Tr} (hl:(t.Kids.length:Int)≤140737488355328):Zay t=some (fr t.Kids):=by
 unfold Zay
 rw [(Zs4 t.Kids (fun (s:Int×Int) (i:Int)=>(s.1,s.2,i)) frS id (fun _=>True) (Vi t) hl (fun s i x _ hi hx hm=>⟨trivial,by
  unfold Vi
  simp only
  rw [Zkz hi,cond_true,X8 hx,Option.bind_some]
  rfl⟩) (fun s _=>by
  unfold Vi
  simp only
  rw [Zky,cond_false]
  rfl) (0,0) trivial).1,Option.bind_some]
 rfl
theorem Zzw {t:Tr} (hl:(t.Kids.length:Int)≤140737488355328):Vb t=some (fr t.Kids):=by
 unfold Vb
 rw [(Zs4 t.Kids (fun (s:Int×Int) (i:Int)=>(s.1,s.2,i)) frS id (fun _=>True) (Qm t) hl (fun s i x _ hi hx hm=>⟨trivial,by
  unfold Qm frS
  simp only
  rw [Zkz hi,cond_true,X8 hx,Option.bind_some]
  by_cases h1:s.1 < (x.Words.length:Int) <;> by_cases h2:s.2 < (x.Kids.length:Int) <;> simp [h1,h2]⟩) (fun s _=>by
  unfold Qm
  simp only
  rw [Zky,cond_false]
  rfl) (0,0) trivial).1,Option.bind_some]
 rfl
def h9 (l:List Tr):Int:=IntKind.i64.wrap (1+IntKind.i64.wrap ((l.length:Int) * IntKind.i64.wrap ((fr l).1+(fr l).2)))
def Z1g (c:Int) (n:Nat):Int:=((n * wid c+63) / 64:Nat)
theorem c5' {c:Int} (h:0≤c∧c≤5):c=0∨c=1∨c=2∨c=3∨c=4∨c=5:=by omega
theorem Zyv {c:Int} (h:0≤c∧c≤5):Xg c=some ((wid c:Nat):Int):=by
 unfold Xg
 rcases c5' h with rfl | rfl | rfl | rfl | rfl | rfl <;> rfl
theorem Z1i {c:Int} (h:0≤c∧c≤5) {n:Nat} (hn:n≤1099511627776):J8 c (n:Int)=some (((n * wid c+63) / 64:Nat):Int):=by
 unfold J8
 rw [Zyv h,Option.bind_some]
 have key:∀ (w p:Nat),(1≤w∧w≤64)→w * p=64→Int.tdiv 64 (w:Int)=(p:Int)→(cond (cond (cond (decide ((w:Int) < 1)) true (decide ((n:Int) < 0))) true (decide ((1099511627776:Int) < (n:Int)))) (some 0) ((some ((w:Nat):Int)).bind fun y5=>(Jr (y5≠0)).bind fun u6=>(Jr ((IntKind.i64.wrap (Int.tdiv 64 y5))≠0)).bind fun u8=>cond (decide (0 < (Int.tmod (n:Int) (IntKind.i64.wrap (Int.tdiv 64 y5))))) ((Jr ((IntKind.i64.wrap (Int.tdiv 64 y5))≠0)).bind fun u10=>some (IntKind.i64.wrap ((IntKind.i64.wrap (Int.tdiv (n:Int) (IntKind.i64.wrap (Int.tdiv 64 y5))))+1))) ((Jr ((IntKind.i64.wrap (Int.tdiv 64 y5))≠0)).bind fun u12=>some (IntKind.i64.wrap (Int.tdiv (n:Int) (IntKind.i64.wrap (Int.tdiv 64 y5)))))))=some (((n * w+63) / 64:Nat):Int):=fun w p hw hp ht=>by
  have hp1:1≤p∧p≤64:=by
   rcases Nat.eq_zero_or_pos p with q | q
   ·rw [q] at hp;omega
   exact ⟨q,by have:=Nat.mul_le_mul_right p hw.1;omega⟩
  have hd:n / p≤n:=Nat.div_le_self _ _
  have hm:p * (n / p)+n % p=n:=Nat.div_add_mod n p
  have hml:n % p < p:=Nat.mod_lt _ hp1.1
  have ed:(n:Int) / (p:Int)=((n / p:Nat):Int):=rfl
  have em:(n:Int) % (p:Int)=((n % p:Nat):Int):=rfl
  have enw:n * w=64 * (n / p)+n % p * w:=by
   have:n * w=(p * (n / p)+n % p) * w:=by rw [hm]
   rw [this,Nat.add_mul,Nat.mul_comm p,Nat.mul_assoc,Nat.mul_comm p,hp,Nat.mul_comm (n / p)]
  rw [show decide ((w:Int) < 1)=false from by rw [decide_eq_false_iff_not];omega,cond_false,show decide ((n:Int) < 0)=false from by rw [decide_eq_false_iff_not];omega,cond_false,show decide ((1099511627776:Int) < (n:Int))=false from by rw [decide_eq_false_iff_not];omega,cond_false,Option.bind_some,ht,Je (x:=(p:Int)) (by omega) (by omega),Zdc (by omega),Option.bind_some,Zdc (by omega),Option.bind_some,Int.tmod_eq_emod_of_nonneg (by omega),Int.tdiv_eq_ediv_of_nonneg (by omega),ed,em,Je (x:=((n / p:Nat):Int)) (by omega) (by omega),Je (x:=((n / p:Nat):Int)+1) (by omega) (by omega)]
  by_cases q:0 < n % p
  ·have h1:1 * w≤n % p * w:=Nat.mul_le_mul_right _ q
   have h2:(n % p+1) * w≤p * w:=Nat.mul_le_mul_right _ hml
   rw [Nat.mul_comm p,hp,Nat.add_mul,Nat.one_mul] at h2
   rw [show decide ((0:Int) < ((n % p:Nat):Int))=true from by rw [decide_eq_true_eq];omega,cond_true,Option.bind_some]
   congr 1
   generalize n % p * w=z at *
   omega
  have h0:n % p=0:=by omega
  rw [h0,Nat.zero_mul] at enw
  rw [show decide ((0:Int) < ((n % p:Nat):Int))=false from by rw [decide_eq_false_iff_not];omega,cond_false,Option.bind_some]
  congr 1
  omega
 rcases c5' h with rfl | rfl | rfl | rfl | rfl | rfl
 ·rw [show decide (((wid 0:Nat):Int) < 1)=true from rfl,cond_true,cond_true,cond_true,show wid 0=0 from rfl,Nat.mul_zero]
  rfl
 ·exact key 1 64 (by decide) rfl rfl
 ·exact key 8 8 (by decide) rfl rfl
 ·exact key 16 4 (by decide) rfl rfl
 ·exact key 32 2 (by decide) rfl rfl
 exact key 64 1 (by decide) rfl rfl
theorem Z1v {c:Int} (h:0≤c∧c≤5) {n:Nat} (hn:n≤1048576):Zcq c (n:Int)=some (Z1g c n):=by
 have hw:Jh c=some (((wid c:Nat):Int),true):=by
  unfold Jh
  rcases c5' h with rfl | rfl | rfl | rfl | rfl | rfl <;> rfl
 have hb:wid c≤64:=by rcases c5' h with rfl | rfl | rfl | rfl | rfl | rfl <;> decide
 have hm:n * wid c≤1048576 * 64:=Nat.mul_le_mul hn hb
 unfold Zcq Z1g
 rw [hw,Option.bind_some]
 simp only
 rw [Bool.not_true,cond_false,decide_eq_false (by omega),cond_false,decide_eq_false (by omega),cond_false,← Int.natCast_mul]
 generalize n * wid c=m at hm ⊢
 rw [Je (x:=(m:Int)) (by omega) (by omega),Je (x:=(m:Int)+63) (by omega) (by omega),Int.tdiv_eq_ediv_of_nonneg (by omega),Je (by omega) (by omega)]
 congr 1
theorem Zxt {t:Tr} {d:Nat} (h:rt t d=true):0≤t.Kind∧t.Kind≤10∧t.Kids.length < 1048576∧(t.Kind=0∨t.Kind=10→t.Kids=[])∧∀ k∈t.Kids,rt k (d - 1)=true:=by
 rw [Zep] at h
 by_cases h0:t.Kind=0
 ·rw [if_pos h0,Bool.and_eq_true,beq_iff_eq,beq_iff_eq] at h
  have:=List.length_eq_zero_iff.1 h.2
  rw [this]
  exact ⟨by omega,by omega,by simp,fun _=>rfl,fun k hk=>by cases hk⟩
 by_cases h1:t.Kind=10
 ·rw [if_neg h0,if_pos h1,Bool.and_eq_true,beq_iff_eq,beq_iff_eq] at h
  have:=List.length_eq_zero_iff.1 h.2
  rw [this]
  exact ⟨by omega,by omega,by simp,fun _=>rfl,fun k hk=>by cases hk⟩
 rw [if_neg h0,if_neg h1] at h
 by_cases hb:t.Kind < 0∨10 < t.Kind∨d=0∨65536≤t.Words.length∨(t.Kind=1∧65536≤t.Kids.length)∨1048576≤t.Kids.length∨(1 < t.Kind∧0 < t.Words.length)
 ·rw [if_pos hb] at h;cases h
 rw [if_neg hb,List.all_eq_true] at h
 refine ⟨by omega,by omega,by omega,fun q=>by omega,fun k hk => ?_⟩
 have:=h k hk
 rw [Bool.and_eq_true] at this
 exact this.1
def Zf7 {α σ:Type} (f:σ→Nat→α→σ):σ→Nat→List α→σ
 | s,_,[]=>s
 | s,i,x::xs=>Zf7 f (f s i x) (i+1) xs
theorem Zt5 {α σ S R:Type} (xs:List α) (pack:Int→σ→S) (out:σ→R) (step:S→Option (S ⊕ R)) (f:σ→Nat→α→σ) (I:Nat→σ→Prop) (hl:(xs.length:Int)≤140737488355328)
  (h1:∀ (i:Nat) (s:σ) (x:α),i < xs.length→xs[i]? = some x→x∈xs→I i s→step (pack i s)=some (.inl (pack (IntKind.i64.wrap ((i:Int)+1)) (f s i x)))∧I (i+1) (f s i x))
  (h2:∀ s,I xs.length s→step (pack xs.length s)=some (.inr (out s))) (s:σ) (h0:I 0 s):Zy step (pack 0 s)=some (out (Zf7 f s 0 xs))∧I xs.length (Zf7 f s 0 xs):=by
 have key:∀ (l pre:List α) (s:σ),xs=pre++l→I pre.length s→Zy step (pack (pre.length:Nat) s)=some (out (Zf7 f s pre.length l))∧I xs.length (Zf7 f s pre.length l):=fun l=>by
  induction l with
  | nil =>
   intro pre s hp hi
   rw [List.append_nil] at hp
   subst hp
   exact ⟨Qk (h2 s hi),hi⟩
  | cons x l ih =>
   intro pre s hp hI
   have hx:xs[pre.length]? = some x:=by rw [hp,List.getElem?_append_right (Nat.le_refl _),Nat.sub_self];rfl
   have hi:pre.length < xs.length:=by rw [hp];simp
   obtain ⟨a,b⟩:=h1 pre.length s x hi hx (List.mem_of_getElem? hx) hI
   rw [Je (by omega) (by omega)] at a
   have:=ih (pre++[x]) (f s pre.length x) (by rw [hp];simp) (by rw [List.length_append,List.length_singleton];exact b)
   rw [List.length_append,List.length_singleton] at this
   exact ⟨(Ji a).trans this.1,this.2⟩
 exact key xs [] s rfl h0
theorem Z5a {off data ptrs:Int} (a:-536870912≤off) (b:off < 536870912) (c:0≤data) (d:data < 65536) (e:0≤ptrs) (f:ptrs < 65536) (g:¬ (off=0∧data=0∧ptrs=0)) :
  Jg (⟨1,off,data,ptrs,0,0,0,false⟩:Z3)=some (off % 1073741824 * 4+data * 4294967296+ptrs * 281474976710656,true):=by
 have hd:Zfx ((off % 1073741824).toNat * 4+data.toNat * 4294967296+ptrs.toNat * 281474976710656)=⟨1,off,data,ptrs,0,0,0,false⟩:=by
  generalize hw:(off % 1073741824).toNat * 4+data.toNat * 4294967296+ptrs.toNat * 281474976710656=w
  have h1:¬ w=0:=by omega
  have h2:w % 4=0:=by omega
  unfold Zfx
  rw [if_neg h1,if_pos h2]
  unfold Zqh
  simp only [Z3.mk.injEq,true_and,and_true]
  refine ⟨?_,by omega,by omega⟩
  split <;> omega
 have:=Zle ((off % 1073741824).toNat * 4+data.toNat * 4294967296+ptrs.toNat * 281474976710656) (by omega) (by rw [hd];show ¬ (1:Int)=4;decide)
 rw [hd] at this
 rw [this]
 congr 2
 omega
theorem Z66 {off code count:Int} (a:-536870912≤off) (b:off < 536870912) (c:0≤code) (d:code < 8) (e:0≤count) (f:count < 536870912) :
  Jg (⟨2,off,0,0,code,count,0,false⟩:Z3)=some (off % 1073741824 * 4+1+code * 4294967296+count * 34359738368,true):=by
 have hd:Zfx ((off % 1073741824).toNat * 4+1+code.toNat * 4294967296+count.toNat * 34359738368)=⟨2,off,0,0,code,count,0,false⟩:=by
  generalize hw:(off % 1073741824).toNat * 4+1+code.toNat * 4294967296+count.toNat * 34359738368=w
  have h1:¬ w=0:=by omega
  have h2:¬ w % 4=0:=by omega
  have h3:w % 4=1:=by omega
  unfold Zfx
  rw [if_neg h1,if_neg h2,if_pos h3]
  unfold Zqh
  simp only [Z3.mk.injEq,true_and,and_true]
  refine ⟨?_,by omega,by omega⟩
  split <;> omega
 have:=Zle ((off % 1073741824).toNat * 4+1+code.toNat * 4294967296+count.toNat * 34359738368) (by omega) (by rw [hd];show ¬ (2:Int)=4;decide)
 rw [hd] at this
 rw [this]
 congr 2
 omega
theorem Q5 {x:Int} (h0:0≤x) (h1:x < 18446744073709551616):IntKind.u64.wrap x=x:=IntWalk.u64_in _ (by omega)
def Zn1 (w:Nat) (out:List Int) (i:Nat) (n:Int):List Int:=Yc out ((i * w / 64:Nat):Int) (out[i * w / 64]?.getD 0+n * 2 ^ (i * w % 64))
def Zzs (w N:Nat) (i:Nat) (out:List Int):Prop:=out.length=(N * w+63) / 64∧∀ (q:Nat) (v:Int),out[q]? = some v→0≤v∧v < 2 ^ min 64 (i * w - q * 64)
theorem Z01 {s w:Nat} {v n:Int} (h0:0≤v) (h1:v < 2 ^ s) (n0:0≤n) (n1:n < 2 ^ w):0≤v+n * 2 ^ s∧v+n * 2 ^ s < 2 ^ (s+w)∧0≤n * 2 ^ s:=by
 have p:(0:Int) < 2 ^ s:=Int.pow_pos (by decide)
 have a:=Int.mul_nonneg n0 (Int.le_of_lt p)
 have b:(n+1) * 2 ^ s≤2 ^ w * 2 ^ s:=Int.mul_le_mul_of_nonneg_right (by omega) (Int.le_of_lt p)
 rw [Int.add_mul,Int.one_mul,Int.mul_comm (2 ^ w),← Int.pow_add] at b
 exact ⟨by omega,by omega,a⟩
theorem Zqp {a b:Nat} (h:a≤b):(2:Int) ^ a≤2 ^ b:=by
 have:=Nat.pow_le_pow_right (n:=2) (by decide) h
 exact_mod_cast this
theorem Z04 {w N i:Nat} {out:List Int} {n:Int} (hw:0 < w) (hs:i * w % 64+w≤64) (hi:i < N) (hI:Zzs w N i out) (n0:0≤n) (n1:n < 2 ^ w) :
  ∃ v:Int,out[i * w / 64]? = some v∧0≤v∧v < 2 ^ (i * w % 64)∧v+n * 2 ^ (i * w % 64) < 18446744073709551616∧0≤n * 2 ^ (i * w % 64)∧Zzs w N (i+1) (Zn1 w out i n):=by
 obtain ⟨hl,hv⟩:=hI
 have hm:i * w+w≤N * w:=by
  have:=Nat.mul_le_mul_right w (show i+1≤N by omega)
  rwa [Nat.add_mul,Nat.one_mul] at this
 have hq:i * w / 64 < out.length:=by rw [hl];omega
 have hx:out[i * w / 64]? = some out[i * w / 64]:=List.getElem?_eq_getElem hq
 obtain ⟨v0,v1⟩:=hv _ _ hx
 have e:min 64 (i * w - i * w / 64 * 64)=i * w % 64:=by omega
 rw [e] at v1
 obtain ⟨a,b,c⟩:=Z01 v0 v1 n0 n1
 have d:=Zqp hs
 refine ⟨_,hx,v0,v1,by omega,c,by unfold Zn1;rw [Xj,hl],fun q u hu => ?_⟩
 unfold Zn1 Yc at hu
 rw [Int.toNat_natCast,hx,Option.getD_some,List.getElem?_set] at hu
 have e1:(i+1) * w=i * w+w:=by rw [Nat.add_mul,Nat.one_mul]
 by_cases h:i * w / 64=q
 ·rw [if_pos h,if_pos hq] at hu
  cases hu
  subst h
  refine ⟨a,?_⟩
  have:min 64 ((i+1) * w - i * w / 64 * 64)=i * w % 64+w:=by rw [e1];omega
  rw [this]
  exact b
 rw [if_neg h] at hu
 obtain ⟨u0,u1⟩:=hv _ _ hu
 refine ⟨u0,Int.lt_of_lt_of_le u1 (Zqp ?_)⟩
 rw [e1]
 omega
theorem Z03 (w N:Nat):Zzs w N 0 (List.replicate ((N * w+63) / 64) 0):=by
 refine ⟨List.length_replicate,fun q v h => ?_⟩
 have:=List.mem_of_getElem? h
 rw [List.mem_replicate] at this
 rw [this.2]
 exact ⟨by decide,Int.pow_pos (by decide)⟩
def Zkb (c:Int) (ns:List Int):List Int:=if c=0 then [] else Zf7 (Zn1 (wid c)) (List.replicate ((ns.length * wid c+63) / 64) 0) 0 ns
theorem Zz5 {w each:Nat} (hw:0 < w) (hw2:w≤64) (he:0 < each) (he2:each≤64) (hE:IntKind.i64.wrap (Int.tdiv 64 (w:Int))=(each:Int)) (hq:∀ i:Nat,i / each=i * w / 64) (hr:∀ i:Nat,i % each * w=i * w % 64) (hs:∀ i:Nat,i * w % 64+w≤64)
  {ns:List Int} (hn:ns.length≤1048576) (hf:∀ n∈ns,0≤n∧n < 2 ^ w) :
  Zy (Kk ns ((w:Int),true)) (0,List.replicate ((ns.length * w+63) / 64) 0)=some (Zf7 (Zn1 w) (List.replicate ((ns.length * w+63) / 64) 0) 0 ns)∧Zzs w ns.length ns.length (Zf7 (Zn1 w) (List.replicate ((ns.length * w+63) / 64) 0) 0 ns) :=
 Zt5 ns (fun i s=>(i,s)) (fun s=>s) (Kk ns ((w:Int),true)) (Zn1 w) (Zzs w ns.length) (by omega) (fun i s n hi hx hm hI=>by
  obtain ⟨n0,n1⟩:=hf n hm
  obtain ⟨v,hv,v0,v1,v2,v3,v4⟩:=Z04 hw (hs i) hi hI n0 n1
  refine ⟨?_,v4⟩
  unfold Kk
  simp only
  have e1:IntKind.i64.wrap (Int.tdiv (i:Int) (each:Int))=((i * w / 64:Nat):Int):=by
   have hb:=Nat.mul_le_mul_left i hw2
   rw [Int.tdiv_eq_ediv_of_nonneg (by omega),← Int.natCast_ediv,hq i,Je (by omega) (by omega)]
  have e2:IntKind.i64.wrap (Int.tmod (i:Int) (each:Int) * (w:Int))=((i * w % 64:Nat):Int):=by
   rw [Int.tmod_eq_emod_of_nonneg (by omega),← Int.natCast_emod,← Int.natCast_mul,hr i,Je (by omega) (by omega)]
  have e3:min (Int.toNat ((i * w % 64:Nat):Int)) 64=i * w % 64:=by omega
  have e4:IntKind.u64.wrap (n * 2 ^ (i * w % 64))=n * 2 ^ (i * w % 64):=Q5 v3 (by omega)
  have e5:IntKind.u64.wrap (Vy .u64 v (n * 2 ^ (i * w % 64)))=v+n * 2 ^ (i * w % 64):=by
   obtain ⟨a,rfl⟩:=Int.eq_ofNat_of_zero_le v0
   obtain ⟨b,rfl⟩:=Int.eq_ofNat_of_zero_le n0
   have f:((b:Nat):Int) * 2 ^ (i * w % 64)=((b * 2 ^ (i * w % 64):Nat):Int):=by simp
   have f1:a < 2 ^ (i * w % 64):=by exact_mod_cast v1
   rw [f] at v2 v3 ⊢
   rw [Zhj _ _ (by omega) (by omega),Zj5 _ _ _ f1,Int.natCast_add]
  rw [Zkz hi,cond_true,X8 hx,Option.bind_some,hE,Zdc (by omega),Option.bind_some,e1,X8 hv,Option.bind_some,Option.bind_some,e2,Zdc (by omega),Option.bind_some,e3,e4,e5]
  unfold Zn1
  rw [hv]
  rfl) (fun s _=>by
  unfold Kk
  simp only
  rw [Zky,cond_false]) _ (Z03 w ns.length)
theorem Zx6 {c:Int} {ns:List Int} (h:0≤c∧c≤5) (hn:ns.length≤1048576) (hf:∀ n∈ns,0≤n∧Zcj c n=true):Zy (Vo c ns) (true,0)=some true :=
 (Zt5 ns (fun i s=>(s,i)) (fun s=>s) (Vo c ns) (fun s _ _=>s) (fun _ s=>s=true) (by omega) (fun i s n hi hx hm hI=>by
  subst hI
  refine ⟨?_,rfl⟩
  unfold Vo
  simp only
  rw [Zkz hi,cond_true,X8 hx,Option.bind_some,cond_true,Zwn h.1 h.2 (hf n hm).1,Option.bind_some,(hf n hm).2]
  rfl) (fun s _=>by
  unfold Vo
  simp only
  rw [Zky,cond_false]) true rfl).1.trans (by
  have:∀ (l:List Int) (k:Nat),Zf7 (fun (s:Bool) (_:Nat) (_:Int)=>s) true k l=true:=fun l=>by
   induction l with
   | nil=>intro k;rfl
   | cons x l ih=>intro k;exact ih (k+1)
  rw [this])
theorem Zuv {c:Int} (h:0≤c∧c≤5) {ns:List Int} (hn:ns.length≤1048576) (hf:∀ n∈ns,0≤n∧Zcj c n=true):Zbs c ns=some (Zkb c ns,true)∧(Zkb c ns).length=(ns.length * wid c+63) / 64:=by
 have hw:Jh c=some (((wid c:Nat):Int),true):=by
  unfold Jh
  rcases c5' h with rfl | rfl | rfl | rfl | rfl | rfl <;> rfl
 have hb:wid c≤64:=by rcases c5' h with rfl | rfl | rfl | rfl | rfl | rfl <;> decide
 have hm:ns.length * wid c≤1048576 * 64:=Nat.mul_le_mul hn hb
 have hf':∀ n∈ns,0≤n∧n < 2 ^ wid c:=fun n hn=>⟨(hf n hn).1,by have:=(hf n hn).2;unfold Zcj at this;exact of_decide_eq_true this⟩
 unfold Zbs Zkb
 rw [hw,Option.bind_some]
 simp only
 rw [Zx6 h hn hf,Option.bind_some,Bool.not_true,cond_false,Z1v h hn,Option.bind_some]
 unfold Z1g
 rw [Znp (by omega) (by omega) (by omega),Option.bind_some,Int.toNat_natCast]
 have key:∀ w each:Nat,wid c=w→0 < w→0 < each→each≤64→IntKind.i64.wrap (Int.tdiv 64 (w:Int))=(each:Int)→(∀ i:Nat,i / each=i * w / 64)→(∀ i:Nat,i % each * w=i * w % 64)→(∀ i:Nat,i * w % 64+w≤64)→¬ c=0 →
   (cond (((wid c:Nat):Int) == 0) (some (List.replicate ((ns.length * wid c+63) / 64) (0:Int),true)) ((Jr (((wid c:Nat):Int)≠0)).bind fun u14=>(Zy (Kk ns (((wid c:Nat):Int),true)) (0,List.replicate ((ns.length * wid c+63) / 64) 0)).bind fun (z24:(List Int))=>some (z24,true)))=some ((if c=0 then [] else Zf7 (Zn1 (wid c)) (List.replicate ((ns.length * wid c+63) / 64) 0) 0 ns),true)∧(if c=0 then [] else Zf7 (Zn1 (wid c)) (List.replicate ((ns.length * wid c+63) / 64) 0) 0 ns).length=(ns.length * wid c+63) / 64:=by
  intro w each ew a1 a2 a3 a4 a5 a6 a7 a8
  have:=Zz5 a1 (by omega) a2 a3 a4 a5 a6 a7 hn (by rw [← ew];exact hf')
  rw [ew,if_neg a8,Zom (by omega),cond_false,Zdc (by omega),Option.bind_some,this.1,Option.bind_some]
  exact ⟨rfl,this.2.1⟩
 rcases c5' h with rfl | rfl | rfl | rfl | rfl | rfl
 ·exact ⟨by simp [wid],by simp [wid]⟩
 ·exact key 1 64 rfl (by decide) (by decide) (by decide) rfl (fun i=>by omega) (fun i=>by omega) (fun i=>by omega) (by decide)
 ·exact key 8 8 rfl (by decide) (by decide) (by decide) rfl (fun i=>by omega) (fun i=>by omega) (fun i=>by omega) (by decide)
 ·exact key 16 4 rfl (by decide) (by decide) (by decide) rfl (fun i=>by omega) (fun i=>by omega) (fun i=>by omega) (by decide)
 ·exact key 32 2 rfl (by decide) (by decide) (by decide) rfl (fun i=>by omega) (fun i=>by omega) (fun i=>by omega) (by decide)
 exact key 64 1 rfl (by decide) (by decide) (by decide) rfl (fun i=>by omega) (fun i=>by omega) (fun i=>by omega) (by decide)
theorem Zu8 {y2:Int} {s0:Int×List Int} {s:Nat} {n:Int} (hs:s < 64) (he:Int.tmod (IntKind.i64.wrap (s0.1 * y2)) 64=(s:Int)) (n0:0≤n) (hb:n * 2 ^ s < 18446744073709551616):Zy (Kr y2 s0) (n,0)=some (n * 2 ^ s):=by
 refine Zh6 (fun st=>∃ j:Nat,j≤s∧st=(n * 2 ^ j,(j:Int))) (fun st=>s - st.2.toNat) ?_ _ ⟨0,by omega,by simp⟩
 rintro st ⟨j,hj,rfl⟩
 unfold Kr
 simp only
 rw [he]
 by_cases h:j < s
 ·left
  have p:n * 2 ^ (j+1)≤n * 2 ^ s:=Int.mul_le_mul_of_nonneg_left (Zqp (by omega)) n0
  have q:n * 2 ^ j * 2=n * 2 ^ (j+1):=by rw [Int.pow_succ,Int.mul_assoc]
  have r:0≤n * 2 ^ (j+1):=Int.mul_nonneg n0 (Int.le_of_lt (Int.pow_pos (by decide)))
  refine ⟨(n * 2 ^ (j+1),((j+1:Nat):Int)),?_,⟨j+1,by omega,rfl⟩,by simp only;omega⟩
  rw [decide_eq_true (by omega),cond_true,q,Q5 r (by omega),Je (by omega) (by omega)]
  rfl
 right
 obtain rfl:j=s:=by omega
 rw [decide_eq_false (by omega),cond_false]
theorem Zzy {c:Int} {w:Nat} (h:0≤c∧c≤5) (ew:wid c=w) (hw:0 < w) (hw2:w≤64) (hs:∀ i:Nat,i * w % 64+w≤64)
  {ns:List Int} (hn:ns.length≤1048576) (hu:∀ n∈ns,0≤n∧n < 18446744073709551616∧Zcj c n=true) :
  Zy (Yl c ns (w:Int)) (0,List.replicate ((ns.length * w+63) / 64) 0)=some (.inr (Zf7 (Zn1 w) (List.replicate ((ns.length * w+63) / 64) 0) 0 ns)) :=
 (Zt5 ns (fun i s=>(i,s)) (fun s => .inr s) (Yl c ns (w:Int)) (Zn1 w) (Zzs w ns.length) (by omega) (fun i s n hi hx hm hI=>by
  obtain ⟨n0,n1,n2⟩:=hu n hm
  have n3:n < 2 ^ w:=by unfold Zcj at n2;rw [← ew];exact of_decide_eq_true n2
  obtain ⟨v,hv,v0,v1,v2,v3,v4⟩:=Z04 hw (hs i) hi hI n0 n3
  refine ⟨?_,v4⟩
  unfold Yl
  simp only
  have hb:=Nat.mul_le_mul_left i hw2
  have e1:IntKind.i64.wrap ((i:Int) * (w:Int))=((i * w:Nat):Int):=by
   rw [← Int.natCast_mul,Je (by omega) (by omega)]
  have e2:IntKind.i64.wrap (Int.tdiv ((i * w:Nat):Int) 64)=((i * w / 64:Nat):Int):=by
   rw [Int.tdiv_eq_ediv_of_nonneg (by omega),Je (by omega) (by omega)]
   omega
  have e3:Int.tmod (IntKind.i64.wrap ((i:Int) * (w:Int))) 64=((i * w % 64:Nat):Int):=by
   rw [e1,Int.tmod_eq_emod_of_nonneg (by omega)]
   omega
  have e4:=Zu8 (y2:=(w:Int)) (s0:=((i:Int),s)) (by omega) e3 n0 (by omega)
  rw [Zkz hi,cond_true,X8 hx,Option.bind_some,Zqs h.1 h.2 n0 n1,Option.bind_some,n2,Bool.not_true,cond_false,e4,Option.bind_some,decide_eq_true (by omega),cond_true,e1,e2,X8 hv,Option.bind_some,Option.bind_some,Q5 (by omega) v2]
  unfold Zn1
  rw [hv]
  rfl) (fun s _=>by
  unfold Yl
  simp only
  rw [Zky,cond_false]) _ (Z03 w ns.length)).1
theorem Zxs {ns:List Int} (hn:ns.length≤1048576) (hu:∀ n∈ns,0≤n∧n < 18446744073709551616∧Zcj 0 n=true) (l0:List Int):Zy (Yl 0 ns ((0:Nat):Int)) (0,l0)=some (.inr l0):=by
 have:=(Zt5 ns (fun i s=>(i,s)) (fun s => .inr s) (Yl 0 ns ((0:Nat):Int)) (fun s _ _=>s) (fun _ s=>s=l0) (by omega) (fun i s n hi hx hm hI=>by
  obtain ⟨n0,n1,n2⟩:=hu n hm
  refine ⟨?_,hI⟩
  unfold Yl
  simp only
  have e3:Int.tmod (IntKind.i64.wrap ((i:Int) * ((0:Nat):Int))) 64=((0:Nat):Int):=by
   rw [Int.natCast_zero,Int.mul_zero]
   rfl
  have e4:=Zu8 (y2:=((0:Nat):Int)) (s0:=((i:Int),s)) (by omega) e3 n0 (by omega)
  rw [Zkz hi,cond_true,X8 hx,Option.bind_some,Zqs (by decide) (by decide) n0 n1,Option.bind_some,n2,Bool.not_true,cond_false,e4,Option.bind_some,decide_eq_false (by decide),cond_false,Option.bind_some]) (fun s _=>by
  unfold Yl
  simp only
  rw [Zky,cond_false]) l0 rfl)
 rw [this.1,this.2]
theorem Z1h {c:Int} (h:0≤c∧c≤5) {ns:List Int} (hn:ns.length≤1048576) (hu:∀ n∈ns,0≤n∧n < 18446744073709551616∧Zcj c n=true):K0 c ns=some (Zkb c ns,true):=by
 have hb:wid c≤64:=by rcases c5' h with rfl | rfl | rfl | rfl | rfl | rfl <;> decide
 have hm:ns.length * wid c≤1048576 * 64:=Nat.mul_le_mul hn hb
 unfold K0 Zkb
 rw [Zyv h,Option.bind_some,decide_eq_false (by omega),cond_false,Z1i h (by omega),Option.bind_some,Znp (by omega) (by omega) (by omega),Option.bind_some,Int.toNat_natCast]
 have key:∀ w:Nat,wid c=w→0 < w→(∀ i:Nat,i * w % 64+w≤64)→¬ c=0→((Zy (Yl c ns ((wid c:Nat):Int)) (0,List.replicate ((ns.length * wid c+63) / 64) 0)).bind fun (z20:(Unit ⊕ (List Int)))=>match z20 with | .inl z20=>some (([]:(List Int)),false) | .inr z20=>some (z20,true))=some ((if c=0 then [] else Zf7 (Zn1 (wid c)) (List.replicate ((ns.length * wid c+63) / 64) 0) 0 ns),true):=by
  intro w ew a1 a2 a3
  rw [if_neg a3,ew,Zzy h ew a1 (by omega) a2 hn hu]
  rfl
 rcases c5' h with rfl | rfl | rfl | rfl | rfl | rfl
 ·rw [show wid 0=0 from rfl,Zxs hn hu,Nat.mul_zero,if_pos rfl]
  rfl
 ·exact key 1 rfl (by decide) (fun i=>by omega) (by decide)
 ·exact key 8 rfl (by decide) (fun i=>by omega) (by decide)
 ·exact key 16 rfl (by decide) (fun i=>by omega) (by decide)
 ·exact key 32 rfl (by decide) (fun i=>by omega) (by decide)
 exact key 64 rfl (by decide) (fun i=>by omega) (by decide)
def ato (t:Tr):List Int:=t.Kids.map fun k=>k.Words.headD 0
theorem Zki (t:Tr):(ato t).length=t.Kids.length:=by unfold ato;rw [List.length_map]
theorem Zvx {α:Type} {f:α→Nat} {x:α}:∀ {l:List α},x∈l→f x≤(l.map f).sum
 | [],h=>by cases h
 | y::l,h=>by
  simp only [List.map_cons,List.sum_cons]
  rcases List.mem_cons.1 h with rfl | h
  ·omega
  have:=Zvx (f:=f) h;omega
theorem Zvw {α:Type} {f:α→Nat}:∀ {l:List α},(∀ x∈l,1≤f x)→l.length≤(l.map f).sum
 | [],_=>by simp
 | y::l,h=>by
  have:=Zvw fun x hx=>h x (.tail _ hx)
  have:=h y (.head _)
  simp only [List.map_cons,List.sum_cons,List.length_cons]
  omega
theorem Zyl {α β:Type} {f:α→Nat} {g:β→Nat} (p:α→β):∀ {l:List α},(∀ x∈l,g (p x)≤f x)→((l.map p).map g).sum≤(l.map f).sum
 | [],_=>by simp
 | y::l,h=>by
  have:=Zyl p fun x hx=>h x (.tail _ hx)
  have:=h y (.head _)
  simp only [List.map_cons,List.sum_cons]
  omega
theorem Zy2 {α:Type} {p:α→Bool} {f:α→Nat}:∀ l:List α,((tr p l).map f).sum≤(l.map f).sum
 | []=>by simp [tr]
 | x::l=>by
  have:=Zy2 (p:=p) (f:=f) l
  by_cases h:tr p l=[]
  ·rw [Zpc h]
   split <;> simp
  rw [Zr1 h]
  simp only [List.map_cons,List.sum_cons]
  omega
theorem Z02 (t:Tr):1≤pt t:=by rw [Zk9];omega
theorem Z4p {t x:Tr} (h:x∈t.Kids):pt x+1≤pt t:=by
 have:=Zvx (f:=pt) h
 rw [Zk9 t]
 omega
theorem Zfr (t:Tr):1+t.Words.length+t.Kids.length≤pt t:=by
 have:=Zvw (f:=pt) (l:=t.Kids) fun x _=>Z02 x
 rw [Zk9 t]
 omega
theorem Zyq:∀ (n:Nat) (t:Tr),SizeOf.sizeOf t < n→pt (nrm t)≤pt t
 | 0,_,h=>by omega
 | n+1,t,h=>by
  have ih:∀ x∈t.Kids,pt (nrm x)≤pt x:=fun x hx=>Zyq n x (by have:=Qn hx;omega)
  have e:=Zyl (f:=pt) (g:=pt) nrm ih
  by_cases h0:t.Kind=0
  ·rw [Zj1 h0,Zk9]
   exact Z02 t
  by_cases h1:t.Kind=1
  ·rw [Zbu h1,Zk9,Zk9 t]
   simp only
   have a:=Zjg (fun x:Int=>x == 0) t.Words
   have b:=Zy2 (p:=fun x:Tr=>x.Kind == 0) (f:=pt) (t.Kids.map nrm)
   exact Nat.add_le_add (Nat.add_le_add_left a 1) (Nat.le_trans b e)
  rw [Zd8 h0 h1,Zk9,Zk9 t]
  simp only
  omega
theorem Z0f {M N:Int}:∀ (l:List Tr) (s:Int×Int),(∀ x∈l,(x.Words.length:Int)≤M∧(x.Kids.length:Int)≤N)→0≤s.1→s.1≤M→0≤s.2→s.2≤N →
  s.1≤(l.foldl frS s).1∧(l.foldl frS s).1≤M∧s.2≤(l.foldl frS s).2∧(l.foldl frS s).2≤N∧∀ x∈l,(x.Words.length:Int)≤(l.foldl frS s).1∧(x.Kids.length:Int)≤(l.foldl frS s).2
 | [],s,_,a,b,c,d=>⟨Int.le_refl _,b,Int.le_refl _,d,fun x hx=>by cases hx⟩
 | y::l,s,h,a,b,c,d=>by
  obtain ⟨h1,h2⟩:=h y (.head _)
  have e1:s.1≤(frS s y).1∧(frS s y).1≤M∧(y.Words.length:Int)≤(frS s y).1:=by unfold frS;simp only;split <;> omega
  have e2:s.2≤(frS s y).2∧(frS s y).2≤N∧(y.Kids.length:Int)≤(frS s y).2:=by unfold frS;simp only;split <;> omega
  obtain ⟨k1,k2,k3,k4,k5⟩:=Z0f l (frS s y) (fun x hx=>h x (.tail _ hx)) (by omega) e1.2.1 (by omega) e2.2.1
  rw [List.foldl_cons]
  refine ⟨by omega,k2,by omega,k4,fun x hx => ?_⟩
  rcases List.mem_cons.1 hx with rfl | hx
  ·omega
  exact k5 x hx
theorem Z5c {M N:Int} {l:List Tr} (h:∀ x∈l,(x.Words.length:Int)≤M∧(x.Kids.length:Int)≤N) (hM:0≤M) (hN:0≤N) :
  0≤(fr l).1∧(fr l).1≤M∧0≤(fr l).2∧(fr l).2≤N∧∀ x∈l,(x.Words.length:Int)≤(fr l).1∧(x.Kids.length:Int)≤(fr l).2 :=
 Z0f l (0,0) h (Int.le_refl _) hM (Int.le_refl _) hN
theorem Zeq {t:Tr} {d:Nat} (h:rt t d=true) (h0:¬ t.Kind=0) (h1:¬ t.Kind=10):t.Words.length < 65536∧(t.Kind=1→t.Kids.length < 65536)∧(1 < t.Kind→t.Words=[])∧∀ k∈t.Kids,rt k (d - 1)=true∧okk t.Kind k=true:=by
 rw [Zep,if_neg h0,if_neg h1] at h
 by_cases hb:t.Kind < 0∨10 < t.Kind∨d=0∨65536≤t.Words.length∨(t.Kind=1∧65536≤t.Kids.length)∨1048576≤t.Kids.length∨(1 < t.Kind∧0 < t.Words.length)
 ·rw [if_pos hb] at h;cases h
 rw [if_neg hb,List.all_eq_true] at h
 refine ⟨by omega,fun h=>by omega,fun h=>List.length_eq_zero_iff.1 (by omega),fun k hk => ?_⟩
 have:=h k hk
 rwa [Bool.and_eq_true] at this
theorem Z5e {l:List Tr} (hl:l.length≤200000) (h:∀ x∈l,x.Words.length≤65535∧x.Kids.length≤65535):h9 l=1+(l.length:Int) * ((fr l).1+(fr l).2)∧0≤(l.length:Int) * ((fr l).1+(fr l).2)∧(l.length:Int) * ((fr l).1+(fr l).2)≤26214000000∧(0≤(fr l).1∧(fr l).1≤65535∧0≤(fr l).2∧(fr l).2≤65535∧∀ x∈l,(x.Words.length:Int)≤(fr l).1∧(x.Kids.length:Int)≤(fr l).2):=by
 have f:=Z5c (M:=65535) (N:=65535) (l:=l) (fun x hx=>by have:=h x hx;omega) (by decide) (by decide)
 have a:0≤(l.length:Int) * ((fr l).1+(fr l).2):=Int.mul_nonneg (by omega) (by omega)
 have b:(l.length:Int) * ((fr l).1+(fr l).2)≤200000 * 131070:=Int.mul_le_mul (by omega) (by omega) (by omega) (by decide)
 refine ⟨?_,a,by omega,f⟩
 unfold h9
 rw [Je (x:=(fr l).1+(fr l).2) (by omega) (by omega),Je (x:=(l.length:Int) * _) (by omega) (by omega),Je (by omega) (by omega)]
theorem Z2u {c:Int} (h:0≤c∧c≤5) (n:Nat):(n * wid c+63) / 64≤n:=by
 have hb:wid c≤64:=by rcases c5' h with rfl | rfl | rfl | rfl | rfl | rfl <;> decide
 have:=Nat.mul_le_mul_left n hb
 omega
def zs (l:List Int) (N:Nat):List Int:=l++List.replicate (N - l.length) 0
theorem Zm8 {a b:Int} (h:a=b):(a == b)=true:=by rw [h];exact beq_self_eq_true b
theorem Z4t {c:Int} (h:0≤c∧c≤6):Zfp c=some (if c=6 then 64 else ((wid c:Nat):Int)):=by
 have:c=0∨c=1∨c=2∨c=3∨c=4∨c=5∨c=6:=by omega
 rcases this with rfl | rfl | rfl | rfl | rfl | rfl | rfl <;> rfl
def rmL (c:Int) (n:Nat):Nat:=if c=6 then n else (n * wid c+63) / 64
theorem Z4u {c off:Int} {n:Nat} (h:0≤c∧c≤6) (hn:n≤200000):Ja (⟨2,off,0,0,c,(n:Int),0,false⟩:Z3)=some (((rmL c n:Nat):Int),true):=by
 unfold Ja
 simp only
 rw [Zom (a:=2) (b:=1) (by decide),cond_false,Zm8 (a:=2) (b:=2) rfl,cond_true,Zom (a:=c) (b:=7) (by omega),cond_false,cond_true,decide_eq_true (by omega),cond_true,decide_eq_true (by omega),cond_true,decide_eq_true (by omega),cond_true,decide_eq_true (by omega),cond_true,Z4t h,Option.bind_some]
 unfold rmL
 by_cases q:c=6
 ·rw [if_pos q,if_pos q,Je (x:=(n:Int) * 64) (by omega) (by omega),Je (x:=(n:Int) * 64+63) (by omega) (by omega),Int.tdiv_eq_ediv_of_nonneg (by omega),Je (by omega) (by omega)]
  congr 2
  omega
 rw [if_neg q,if_neg q]
 have hb:wid c≤64:=by rcases c5' (show 0≤c∧c≤5 by omega) with rfl | rfl | rfl | rfl | rfl | rfl <;> decide
 have hm:n * wid c≤200000 * 64:=Nat.mul_le_mul hn hb
 rw [← Int.natCast_mul]
 generalize n * wid c=m at hm ⊢
 rw [Je (x:=(m:Int)) (by omega) (by omega),Je (x:=(m:Int)+63) (by omega) (by omega),Int.tdiv_eq_ediv_of_nonneg (by omega),Je (by omega) (by omega)]
 congr 1
theorem U9 {kind:Int} {k:Tr} (h:¬ (2≤kind∧kind≤7)) (hk:okk kind k=true):¬ k.Kind=10∧(kind=9→k.Kind=1):=by
 unfold okk at hk
 rw [if_neg h,Bool.and_eq_true,bne_iff_ne,Bool.or_eq_true,bne_iff_ne,beq_iff_eq] at hk
 exact ⟨hk.1,fun h9=>by rcases hk.2 with h | h;exact absurd h9 h;exact h⟩
theorem Zv3 {kind:Int} {k:Tr} {d:Nat} (h:2≤kind∧kind≤7) (hb:Bd k) (hr:rt k d=true) (hk:okk kind k=true):∃ w,k.Words=[w]∧0≤w∧w < 18446744073709551616∧Zcj (kind - 2) w=true:=by
 unfold okk at hk
 rw [if_pos h,Bool.and_eq_true,beq_iff_eq] at hk
 obtain ⟨w,hw⟩:=Zov hk.1 hr
 have hu:=hb.u w (by rw [hw];exact .head _)
 refine ⟨w,hw,hu.1,hu.2,?_⟩
 have:=hk.2
 rwa [hw] at this
structure Fine (t:Tr) (d:Nat):Prop where
 bd:Bd t
 rt:rt t d=true
 pt:pt t≤200000
theorem Fine.kid {t x:Tr} {d:Nat} (h:Fine t d) (hx:x∈t.Kids):Fine x (d - 1):=⟨h.bd.all x hx,(Zxt h.rt).2.2.2.2 x hx,by have:=h.pt;have:=Z4p hx;omega⟩
theorem Fine.nrm {t:Tr} {d:Nat} (h:Fine t d):Fine (nrm t) d:=⟨h.bd.nrm,rtN h.rt,Nat.le_trans (Zyq _ t (Nat.lt_succ_self _)) h.pt⟩
structure Nm (t:Tr) (d:Nat):Prop where
 f:Fine t d
 n:nrm t=t
 k:¬ t.Kind=10
theorem Nm.kid {t x:Tr} {d:Nat} (h:Nm t d) (h0:¬ t.Kind=0) (hx:x∈t.Kids) (h10:¬ x.Kind=10):Nm x (d - 1):=by
 refine ⟨h.f.kid hx,?_,h10⟩
 have hn:=h.n
 by_cases h1:t.Kind=1
 ·rw [Zbu h1] at hn
  rw [← hn] at hx
  simp only at hx
  obtain ⟨y,_,rfl⟩:=List.mem_map.1 (Zjh hx)
  exact Zt7 y
 rw [Zd8 h0 h1] at hn
 rw [← hn] at hx
 simp only at hx
 obtain ⟨y,_,rfl⟩:=List.mem_map.1 hx
 exact Zt7 y
theorem Nm.kids {t:Tr} {d:Nat} (h:Nm t d) (h1:t.Kind=1):tr (fun x=>x.Kind == 0) t.Kids=t.Kids:=by
 have hn:=h.n
 rw [Zbu h1] at hn
 have:=congrArg Zd.Kids hn
 simp only at this
 rw [← this,Zy3]
theorem Nm.structs {t:Tr} {d:Nat} (h:Nm t d) (h9:t.Kind=9):∀ x∈t.Kids,Nm x (d - 1)∧x.Kind=1:=fun x hx=>by
 have k1:=(U9 (by omega) ((Zeq h.f.rt (by omega) h.k).2.2.2 x hx).2).2 h9
 exact ⟨h.kid (by omega) hx (by omega),k1⟩
end Go.Proofs.Ytaddaloondpnkaa
