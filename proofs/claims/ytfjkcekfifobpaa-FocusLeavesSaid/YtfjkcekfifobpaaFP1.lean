/- Plain facts on this seat's mirrors (part FP1); each theorem bears its own conditions. -/
import Derived.Test.YtfjkcekfifobpaaFD
import Derived.IntWalk
namespace Go.Proofs.Ytfjkcekfifobpaa
open Go.RowKit
set_option linter.unusedVariables false
set_option linter.unusedSimpArgs false
abbrev Tr:=Zb
theorem Jm {x:Int} (h1:-9223372036854775808≤x) (h2:x≤9223372036854775807):IntKind.i64.wrap x=x:=Z3p ⟨h1,h2⟩
theorem Zbg {t x:Tr} (h:x∈t.Kids):SizeOf.sizeOf x < SizeOf.sizeOf t:=by
 obtain ⟨k,w,ks⟩:=t
 have:=List.sizeOf_lt_of_mem h
 simp only [Zb.mk.sizeOf_spec]
 simp only at this
 omega
theorem Z0f {α R:Type} (xs:List α) (step:Int→Option (Int ⊕ R)) (p:α→Bool) (e o:R) (hl:(xs.length:Int)≤140737488355328)
  (h1:∀ (i:Nat) (x:α),i < xs.length→xs[i]? = some x→x∈xs→step i=some (if p x=true then .inr e else .inl (IntKind.i64.wrap ((i:Int)+1)))) (h2:step xs.length=some (.inr o)):Zv step 0=some (if xs.any p=true then e else o):=by
 have hloop:=Yb3 xs (fun i (_:Unit)=>i) step (fun _ x=>some (if p x=true then .inr e else .inl ())) (fun _=>o) (fun i s x hi hx=>by
  rw [h1 i x hi hx (List.mem_of_getElem? hx),Jm (by omega) (by omega)]
  cases p x <;> rfl) (fun _=>h2) ()
 refine hloop.trans ?_
 rw [Zzv p (fun s _=>s) e (fun _ _=>True) xs.length xs () 0 (by omega) trivial (fun s k x _ _ _=>⟨by cases p x <;> rfl,fun _=>trivial⟩)]
theorem Us {i n:Nat} (h:i < n):decide ((i:Int) < (n:Int))=true:=by rw [decide_eq_true_eq];omega
theorem Zbh {n:Nat}:decide ((n:Int) < (n:Int))=false:=by rw [decide_eq_false_iff_not];omega
def tr {α:Type} (p:α→Bool):List α→List α
 | []=>[]
 | x::xs=>match tr p xs with
  | []=>if p x=true then [] else [x]
  | y::ys=>x::y::ys
def trN {α:Type} (p:α→Bool) (l:List α):Nat→Nat
 | 0=>0
 | n+1=>match l[n]? with
  | some x=>if p x=true then trN p l n else n+1
  | none=>0
theorem Zwi {α:Type} {p:α→Bool} {x:α} (h:p x=true):∀ l:List α,tr p (l++[x])=tr p l
 | []=>by simp [tr,h]
 | y::l=>by simp only [List.cons_append,tr,Zwi h l]
theorem Zwh {α:Type} {p:α→Bool} {x:α} (h:p x=false):∀ l:List α,tr p (l++[x])=l++[x]
 | []=>by simp [tr,h]
 | y::l=>by
  simp only [List.cons_append,tr,Zwh h l]
  cases hl:l++[x] with
  | nil=>simp at hl
  | cons a b=>rfl
theorem Z1g {α:Type} {p:α→Bool} {l:List α}:∀ n,n≤l.length→l.take (trN p l n)=tr p (l.take n)∧trN p l n≤n
 | 0,_=>by simp [trN,tr]
 | n+1,h=>by
  have hn:l[n]? = some l[n]:=List.getElem?_eq_getElem (by omega)
  have e:l.take (n+1)=l.take n++[l[n]]:=by rw [List.take_add_one,hn];rfl
  obtain ⟨h1,h2⟩:=Z1g (p:=p) (l:=l) n (by omega)
  unfold trN
  rw [hn]
  simp only
  split
  ·rename_i hp
   rw [e,Zwi hp]
   exact ⟨h1,by omega⟩
  rename_i hp
  rw [e,Zwh (by simpa using hp),← e]
  exact ⟨rfl,Nat.le_refl _⟩
theorem Zlv {α:Type} (p:α→Bool):∀ l:List α,(tr p l).length≤l.length
 | []=>by simp [tr]
 | x::l=>by
  have:=Zlv p l
  simp only [tr]
  split
  ·split <;> simp
  rename_i y ys he
  rw [he] at this
  simp at this ⊢
  omega
theorem Zg6 {α:Type} {p:α→Bool} {x:α}:∀ {l:List α},x∈tr p l→x∈l
 | [],h=>by simp [tr] at h
 | y::l,h=>by
  simp only [tr] at h
  split at h
  ·split at h
   ·simp at h
   simp at h;simp [h]
  rename_i z zs he
  rw [← he] at h
  rcases List.mem_cons.1 h with h | h
  ·simp [h]
  exact List.mem_cons_of_mem _ (Zg6 h)
theorem Z7w {α:Type} {p:α→Bool}:∀ l:List α,tr p (tr p l)=tr p l
 | []=>rfl
 | x::l=>by
  have ih:=Z7w (p:=p) l
  simp only [tr]
  cases h:tr p l with
  | nil =>
   simp only
   cases hx:p x <;> simp [tr,hx]
  | cons y ys =>
   rw [h] at ih
   simp only [tr] at ih ⊢
   rw [ih]
theorem Z5y {α β:Type} {p:α→Bool} {q:β→Bool} {f:α→β} (h:∀ x,q (f x)=p x):∀ l:List α,tr q (l.map f)=(tr p l).map f
 | []=>rfl
 | x::l=>by
  simp only [List.map_cons,tr,Z5y h l]
  cases tr p l with
  | nil=>simp only [List.map_nil,h];split <;> rfl
  | cons y ys=>rfl
theorem Z33 {α:Type} (l:List α) (p:α→Bool) (step:Int→Option (Int ⊕ Int)) (hl:(l.length:Int)≤140737488355328)
  (h0:step 0=some (.inr 0)) (h1:∀ (n:Nat) (x:α),l[n]? = some x→n < l.length→step ((n+1:Nat):Int)=some (if p x=true then .inl (n:Int) else .inr ((n+1:Nat):Int))):Zv step (l.length:Int)=some (trN p l l.length:Int):=by
 have key:∀ n:Nat,n≤l.length→Zv step (n:Int)=some (trN p l n:Int):=fun n=>by
  induction n with
  | zero=>intro _;exact Z7 h0
  | succ n ih =>
   intro hn
   have hx:l[n]? = some l[n]:=List.getElem?_eq_getElem (by omega)
   have h:=h1 n _ hx (by omega)
   unfold trN
   rw [hx]
   simp only
   split
   ·rename_i hp
    rw [if_pos hp] at h
    rw [Y9 h]
    exact ih (by omega)
   rename_i hp
   rw [if_neg hp] at h
   exact Z7 h
 exact key l.length (Nat.le_refl _)
theorem Zt8 {α:Type} {l:List α} {n:Nat} (h:n≤l.length):Zf1 l 0 (n:Int)=some (l.take n):=by
 rw [Zn4 (by omega) (by omega) (by omega)]
 simp
theorem Yhu {n:Nat}:decide (0 < ((n+1:Nat):Int))=true:=by rw [decide_eq_true_eq];omega
theorem Zn7 {l:List Int} (hl:(l.length:Int)≤140737488355328):Ub l=some (tr (fun x=>x == 0) l):=by
 have hloop:=Z33 l (fun x=>x == 0) (Gu l) hl (by unfold Gu;rfl) (fun n x hx hn=>by
  unfold Gu
  rw [Yhu,cond_true,Jm (by omega) (by omega)]
  have e:((n+1:Nat):Int) - 1=(n:Int):=by omega
  rw [e,Z6 hx]
  simp only [Option.bind_some,cond_true]
  cases x == 0 <;> rfl)
 obtain ⟨h1,h2⟩:=Z1g (p:=fun x=>x == 0) (l:=l) l.length (Nat.le_refl _)
 unfold Ub
 rw [hloop,Option.bind_some,Zt8 h2,Option.bind_some,h1,List.take_length]
theorem Zps {l:List Tr} (hl:(l.length:Int)≤140737488355328):Gl l=some (tr (fun x=>x.Kind == 0) l):=by
 have hloop:=Z33 l (fun x=>x.Kind == 0) (Zau l) hl (by unfold Zau;rfl) (fun n x hx hn=>by
  unfold Zau
  rw [Yhu,cond_true,Jm (by omega) (by omega)]
  have e:((n+1:Nat):Int) - 1=(n:Int):=by omega
  rw [e,Z6 hx]
  simp only [Option.bind_some,cond_true]
  cases x.Kind == 0 <;> rfl)
 obtain ⟨h1,h2⟩:=Z1g (p:=fun x=>x.Kind == 0) (l:=l) l.length (Nat.le_refl _)
 unfold Gl
 rw [hloop,Option.bind_some,Zt8 h2,Option.bind_some,h1,List.take_length]
theorem Yef {l:List Int} (hl:l.length * 8≤140737488355328):Zb0 l=some (tr (fun x=>x == 0) l):=by
 have hloop:=Z33 l (fun x=>x == 0) (Uu l) (by omega) (by unfold Uu;rfl) (fun n x hx hn=>by
  unfold Uu
  rw [Yhu,cond_true,Jm (by omega) (by omega)]
  have e:((n+1:Nat):Int) - 1=(n:Int):=by omega
  rw [e,Z6 hx]
  simp only [Option.bind_some,cond_true]
  cases x == 0 <;> rfl)
 obtain ⟨h1,h2⟩:=Z1g (p:=fun x=>x == 0) (l:=l) l.length (Nat.le_refl _)
 have h3:=Zlv (fun x=>x == 0) l
 unfold Zb0
 rw [hloop,Option.bind_some,Zt8 h2,Option.bind_some,h1,List.take_length,Jc (by rw [List.length_nil];omega) (by rw [List.length_nil];omega)]
 rfl
inductive Bd:Tr→Prop
 | mk (t:Tr) (h1:t.Words.length * 8≤140737488355328) (h2:t.Kids.length * 56≤140737488355328) (h3:∀ w∈t.Words,0≤w∧w < 18446744073709551616) (h4:∀ k∈t.Kids,Bd k):Bd t
theorem Bd.w {t:Tr} (h:Bd t):t.Words.length * 8≤140737488355328:=by cases h;assumption
theorem Bd.k {t:Tr} (h:Bd t):t.Kids.length * 56≤140737488355328:=by cases h;assumption
theorem Bd.u {t:Tr} (h:Bd t):∀ w∈t.Words,0≤w∧w < 18446744073709551616:=by cases h;assumption
theorem Bd.all {t:Tr} (h:Bd t):∀ k∈t.Kids,Bd k:=by cases h;assumption
def nrm (t:Tr):Tr :=
 if t.Kind=0 then ⟨0,[],[]⟩
 else if t.Kind=1 then ⟨1,tr (fun x=>x == 0) t.Words,tr (fun x=>x.Kind == 0) (t.Kids.attach.map fun k=>nrm k.1)⟩
 else ⟨t.Kind,t.Words,t.Kids.attach.map fun k=>nrm k.1⟩
termination_by SizeOf.sizeOf t
decreasing_by all_goals exact Zbg k.2
theorem Zg3 (t:Tr):nrm t=if t.Kind=0 then ⟨0,[],[]⟩ else if t.Kind=1 then ⟨1,tr (fun x=>x == 0) t.Words,tr (fun x=>x.Kind == 0) (t.Kids.map nrm)⟩ else ⟨t.Kind,t.Words,t.Kids.map nrm⟩:=by
 rw [nrm]
 simp only [List.attach_map_val]
theorem Ky (t:Tr):(nrm t).Kind=t.Kind:=by
 rw [Zg3]
 split
 ·rename_i h;exact h.symm
 split
 ·rename_i h;exact h.symm
 rfl
theorem Yes {α β:Type} {xs:List α} {f:α→β} {z:β} {i m:Nat} {x:α} (hi:i+(m+1)=xs.length) (hx:xs[i]? = some x) :
  ((xs.take i).map f++List.replicate (m+1) z).set i (f x)=(xs.take (i+1)).map f++List.replicate m z:=by
 have hl:((xs.take i).map f).length=i:=by rw [List.length_map,List.length_take];omega
 rw [List.set_append,if_neg (by omega),hl,Nat.sub_self,List.replicate_succ,List.set_cons_zero,List.take_add_one,hx]
 simp
theorem Ydv {α β:Type} (xs:List α) (f:α→β) (z:β) (step:Int×List β→Option ((Int×List β) ⊕ List β)) (hl:(xs.length:Int)≤140737488355328)
  (h1:∀ (i:Nat) (x:α) (out:List β) (y:β),i < xs.length→xs[i]? = some x→x∈xs→out[i]? = some y→step ((i:Int),out)=some (.inl (IntKind.i64.wrap ((i:Int)+1),Zf0 out (i:Int) (f x))))
  (h2:∀ out,step ((xs.length:Int),out)=some (.inr out)):Zv step (0,List.replicate xs.length z)=some (xs.map f):=by
 have key:∀ m i,i+m=xs.length→Zv step ((i:Int),(xs.take i).map f++List.replicate m z)=some (xs.map f):=fun m=>by
  induction m with
  | zero =>
   intro i hi
   have hi':i=xs.length:=by omega
   subst hi'
   rw [List.take_length,List.replicate_zero,List.append_nil]
   exact Z7 (h2 _)
  | succ m ih =>
   intro i hi
   have hx:xs[i]? = some xs[i]:=List.getElem?_eq_getElem (by omega)
   have hl':((xs.take i).map f).length=i:=by rw [List.length_map,List.length_take];omega
   have hy:((xs.take i).map f++List.replicate (m+1) z)[i]? = some z:=by
    rw [List.getElem?_append_right (by omega),hl',Nat.sub_self,List.replicate_succ];rfl
   have h:=h1 i _ _ z (by omega) hx (List.mem_of_getElem? hx) hy
   rw [Jm (by omega) (by omega)] at h
   rw [Y9 h]
   unfold Zf0
   rw [Int.toNat_natCast,Yes (by omega) hx]
   exact ih (i+1) (by omega)
 have:=key xs.length 0 (by omega)
 simpa using this
theorem Z9w:∀ (k:Nat) (t:Tr),Bd t→SizeOf.sizeOf t < k→Gx k t=some (nrm t)
 | 0,t,_,h=>by omega
 | k+1,t,hb,hk=>by
  have ih:∀ x∈t.Kids,Gx k x=some (nrm x):=fun x hx=>Z9w k x (hb.all x hx) (by have:=Zbg hx;omega)
  have hw:=hb.w
  have hkd:=hb.k
  show Ziu (Gx k) t=_
  unfold Ziu
  rw [Zg3]
  by_cases h0:t.Kind=0
  ·rw [if_pos h0,h0];rfl
  have e0:(t.Kind == 0)=false:=by rw [beq_eq_false_iff_ne];exact h0
  rw [if_neg h0,e0,cond_false]
  have main:∀ (w:List Int) (ks:List Tr),(ks.length:Int)≤140737488355328→(56:Int) * ks.length≤140737488355328→(∀ x∈ks,Gx k x=some (nrm x)) →
    ((cond (decide (0 < ((w,ks).2.length:Int))) ((Zpa 56 ((w,ks).2.length:Int) (⟨(0:Int),([]:(List Int)),([]:(List Zb))⟩:Zb)).bind fun l6=>some l6) (some ([]:List Zb))).bind fun (z5:(List Zb))=>(Zv (Zc8 (Gx k) (w,ks)) (0,z5)).bind fun (z14:(List Zb))=>some (⟨t.Kind,(w,ks).1,z14⟩:Zb))=some ⟨t.Kind,w,ks.map nrm⟩:=fun w ks h1 h2 hks=>by
   have hz:(cond (decide (0 < ((w,ks).2.length:Int))) ((Zpa 56 ((w,ks).2.length:Int) (⟨(0:Int),([]:(List Int)),([]:(List Zb))⟩:Zb)).bind fun l6=>some l6) (some ([]:List Zb)))=some (List.replicate ks.length (⟨0,[],[]⟩:Tr)):=by
    cases ks with
    | nil=>rfl
    | cons y ys =>
     have:decide (0 < (((w,y::ys).2.length:Nat):Int))=true:=by rw [decide_eq_true_eq];simp
     rw [this,cond_true,Ydy (Int.natCast_nonneg _) h2 h1,Option.bind_some,Int.toNat_natCast]
   rw [hz,Option.bind_some]
   rw [Ydv ks nrm _ (Zc8 (Gx k) (w,ks)) h1 (fun i x out z hi hx hm hz=>by
     unfold Zc8
     simp only
     rw [Us hi,cond_true,Z6 hx,Option.bind_some,hks x hm,Option.bind_some,Z6 hz,Option.bind_some]) (fun out=>by
     unfold Zc8
     simp only
     rw [Zbh,cond_false]),Option.bind_some]
  by_cases h1:t.Kind=1
  ·have e1:(t.Kind == 1)=true:=by rw [beq_iff_eq];exact h1
   have l1:=Zlv (fun x:Tr=>x.Kind == 0) t.Kids
   rw [if_pos h1,e1,cond_true,Zn7 (by omega),Option.bind_some,Zps (by omega),Option.bind_some,Option.bind_some]
   rw [main _ _ (by omega) (by omega) (fun x hx=>ih x (Zg6 hx)),Z5y (fun x=>by rw [Ky]),h1]
  have e1:(t.Kind == 1)=false:=by rw [beq_eq_false_iff_ne];exact h1
  rw [if_neg h1,e1,cond_false,Option.bind_some]
  exact main _ _ (by omega) (by omega) ih
theorem Zxm {t:Tr} (h:Bd t):Zdl t=some (nrm t):=Zcr (SizeOf.sizeOf t+1) fun k hk=>Z9w k t h (by omega)
theorem Zjb {α:Type} {p:α→Bool} {x:α} {l:List α} (h:tr p l=[]):tr p (x::l)=if p x=true then [] else [x]:=by simp only [tr,h]
theorem Zn6 {α:Type} {p:α→Bool} {x:α} {l:List α} (h:tr p l≠[]):tr p (x::l)=x::tr p l:=by
 simp only [tr]
 split
 ·rename_i h';exact absurd h' h
 rename_i h';rw [h']
theorem Z9o:∀ (l:List Tr) (n:Nat) (acc:Int),(l.zipIdx n).foldl (fun a p=>if p.1.Kind=0 then a else ((p.2+1:Nat):Int)) acc=if (tr (fun x=>x.Kind == 0) l).length=0 then acc else ((n+(tr (fun x=>x.Kind == 0) l).length:Nat):Int)
 | [],n,acc=>by simp [tr]
 | x::l,n,acc=>by
  rw [List.zipIdx_cons,List.foldl_cons,Z9o l (n+1)]
  by_cases h:tr (fun x=>x.Kind == 0) l=[]
  ·rw [Zjb h,h]
   by_cases hx:x.Kind=0
   ·simp [hx]
   simp [hx]
  have h':(tr (fun x=>x.Kind == 0) l).length≠0:=by simpa using h
  rw [Zn6 h,if_neg h',List.length_cons,if_neg (by omega)]
  congr 1
  omega
theorem Ygx {α:Type} (p:α→Bool) (l:List α):l.take (tr p l).length=tr p l:=by
 obtain ⟨h1,h2⟩:=Z1g (p:=p) (l:=l) l.length (Nat.le_refl _)
 rw [List.take_length] at h1
 rw [← h1,List.length_take]
 congr 1
 omega
theorem Yel {k:Nat} {t:Tr} (hl:t.Kids.length * 56≤140737488355328) (ih:∀ x∈t.Kids,Qd k x=some (nrm x)) :
  Zv (Jf (Qd k) t) (0,0,[])=some (if (tr (fun x=>x.Kind == 0) (t.Kids.map nrm)).length=0 then 0 else ((tr (fun x=>x.Kind == 0) (t.Kids.map nrm)).length:Int),t.Kids.map nrm):=by
 have key:∀ (l pre:List Tr) (a:Int),t.Kids=pre++l→Zv (Jf (Qd k) t) (a,((pre.length:Nat):Int),pre.map nrm)=some (((l.map nrm).zipIdx pre.length).foldl (fun a p=>if p.1.Kind=0 then a else ((p.2+1:Nat):Int)) a,t.Kids.map nrm):=fun l=>by
  induction l with
  | nil =>
   intro pre a hp
   rw [List.append_nil] at hp
   refine Z7 ?_
   unfold Jf
   simp only
   rw [hp,Zbh,cond_false]
   rfl
  | cons x l ihl =>
   intro pre a hp
   have hx:t.Kids[pre.length]? = some x:=by rw [hp,List.getElem?_append_right (Nat.le_refl _),Nat.sub_self];rfl
   have hi:pre.length < t.Kids.length:=by rw [hp];simp
   have hm:x∈t.Kids:=List.mem_of_getElem? hx
   have hs:Jf (Qd k) t (a,((pre.length:Nat):Int),pre.map nrm)=some (.inl (if x.Kind=0 then a else ((pre.length+1:Nat):Int),(((pre++[x]).length:Nat):Int),(pre++[x]).map nrm)):=by
    unfold Jf
    simp only
    rw [Us hi,cond_true,Z6 hx,Option.bind_some,ih x hm,Option.bind_some,Jc (by simp;omega) (by simp;omega),Option.bind_some,Jm (by omega) (by omega),Ky]
    have e:((pre.length:Nat):Int)+1=((pre.length+1:Nat):Int):=by omega
    rw [e]
    by_cases h0:x.Kind=0
    ·simp [h0]
    have:(x.Kind != 0)=true:=by simp [h0]
    rw [this,cond_true]
    simp [h0]
   rw [Y9 hs,ihl (pre++[x]) _ (by rw [hp];simp)]
   simp only [List.map_cons,List.zipIdx_cons,List.foldl_cons,List.length_append,List.length_singleton,Ky]
 have:=key t.Kids [] 0 rfl
 rw [Z9o] at this
 simpa using this
theorem Z7n:∀ (k:Nat) (t:Tr),Bd t→SizeOf.sizeOf t < k→Qd k t=some (nrm t)
 | 0,t,_,h=>by omega
 | k+1,t,hb,hk=>by
  have ih:∀ x∈t.Kids,Qd k x=some (nrm x):=fun x hx=>Z7n k x (hb.all x hx) (by have:=Zbg hx;omega)
  have hw:=hb.w
  have hkd:=hb.k
  show Zbp (Qd k) t=_
  unfold Zbp
  rw [Zg3]
  by_cases h0:t.Kind=0
  ·rw [if_pos h0,h0];rfl
  have e0:(t.Kind == 0)=false:=by rw [beq_eq_false_iff_ne];exact h0
  rw [if_neg h0,e0,cond_false,Yel hkd ih,Option.bind_some]
  by_cases h1:t.Kind=1
  ·have e1:(t.Kind == 1)=true:=by rw [beq_iff_eq];exact h1
   rw [if_pos h1,e1,cond_true,Yef hw,Option.bind_some]
   have l1:=Zlv (fun x:Tr=>x.Kind == 0) (t.Kids.map nrm)
   have l2:(if (tr (fun x=>x.Kind == 0) (t.Kids.map nrm)).length=0 then (0:Int) else ((tr (fun x=>x.Kind == 0) (t.Kids.map nrm)).length:Int))=((tr (fun x=>x.Kind == 0) (t.Kids.map nrm)).length:Int):=by
    split
    ·rename_i h;rw [h];rfl
    rfl
   simp only [l2]
   rw [Zt8 l1,Option.bind_some,Ygx]
  have e1:(t.Kind == 1)=false:=by rw [beq_eq_false_iff_ne];exact h1
  rw [if_neg h1,e1,cond_false,Jc (by rw [List.length_nil];omega) (by rw [List.length_nil];omega)]
  rfl
theorem Ztx {t:Tr} (h:Bd t):U7 t=some (nrm t):=Zcr (SizeOf.sizeOf t+1) fun k hk=>Z7n k t h (by omega)
theorem Yd1:∀ (n:Nat) (t:Tr),SizeOf.sizeOf t < n→Bd t→Bd (nrm t)
 | 0,t,h,_=>by omega
 | n+1,t,hn,hb=>by
  have ih:∀ x∈t.Kids,Bd (nrm x):=fun x hx=>Yd1 n x (by have:=Zbg hx;omega) (hb.all x hx)
  have hw:=hb.w
  have hk:=hb.k
  rw [Zg3]
  split
  ·exact .mk _ (by simp) (by simp) (fun w h=>by simp at h) (fun w h=>by simp at h)
  split
  ·have l1:=Zlv (fun x:Int=>x == 0) t.Words
   have l2:=Zlv (fun x:Tr=>x.Kind == 0) (t.Kids.map nrm)
   rw [List.length_map] at l2
   refine .mk _ (by simp only;omega) (Nat.le_trans (Nat.mul_le_mul_right 56 l2) hk) (fun w h=>hb.u w (Zg6 h)) (fun x h => ?_)
   obtain ⟨y,hy,rfl⟩:=List.mem_map.1 (Zg6 h)
   exact ih y hy
  refine .mk _ hw (by simp only [List.length_map];exact hk) hb.u (fun x h => ?_)
  obtain ⟨y,hy,rfl⟩:=List.mem_map.1 h
  exact ih y hy
theorem Bd.nrm {t:Tr} (h:Bd t):Bd (nrm t):=Yd1 _ t (Nat.lt_succ_self _) h
theorem Z2n:∀ (n:Nat) (t:Tr),SizeOf.sizeOf t < n→nrm (nrm t)=nrm t
 | 0,t,h=>by omega
 | n+1,t,hn=>by
  have ih:∀ x∈t.Kids,nrm (nrm x)=nrm x:=fun x hx=>Z2n n x (by have:=Zbg hx;omega)
  have em:∀ l:List Tr,(∀ x∈l,x∈t.Kids)→(l.map nrm).map nrm=l.map nrm:=fun l hl=>by
   rw [List.map_map]
   exact List.map_congr_left fun x hx=>ih x (hl x hx)
  rw [Zg3 t]
  by_cases h0:t.Kind=0
  ·rw [if_pos h0,Zg3];simp
  rw [if_neg h0]
  by_cases h1:t.Kind=1
  ·rw [if_pos h1,Zg3]
   simp only [if_neg (show ¬ (1:Int)=0 by decide),if_true]
   have q1:∀ l:List Tr,tr (fun x:Tr=>x.Kind == 0) (l.map nrm)=(tr (fun x:Tr=>x.Kind == 0) l).map nrm:=Z5y (fun x=>by rw [Ky])
   rw [Z7w,q1,Z7w,q1,em _ (fun x hx=>Zg6 hx)]
  rw [if_neg h1,Zg3]
  simp only
  rw [if_neg h0,if_neg h1,em _ (fun x hx=>hx)]
theorem Zs9 (t:Tr):nrm (nrm t)=nrm t:=Z2n _ t (Nat.lt_succ_self _)
def eqT (a b:Tr):Bool:=a.Kind == b.Kind && (a.Words == b.Words && (a.Kids.length == b.Kids.length && (a.Kids.attach.zip b.Kids).all fun p=>eqT p.1.1 p.2))
termination_by SizeOf.sizeOf a
decreasing_by exact Zbg p.1.2
def eqL:List Tr→List Tr→Bool
 | [],[]=>true
 | x::xs,y::ys=>eqT x y && eqL xs ys
 | _,_=>false
theorem Ybr:∀ (l m:List Tr) (P:Tr→Prop) (l':List {x // P x}),l'.map (·.1)=l→(l.length == m.length && (l'.zip m).all fun p=>eqT p.1.1 p.2)=eqL l m
 | [],[],P,l',h=>by cases l' <;> simp_all [eqL]
 | [],y::m,P,l',h=>by cases l' <;> simp_all [eqL]
 | x::l,[],P,l',h=>by cases l' <;> simp_all [eqL]
 | x::l,y::m,P,l',h=>by
  cases l' with
  | nil=>simp at h
  | cons z l' =>
   simp only [List.map_cons,List.cons.injEq] at h
   have ih:=Ybr l m P l' h.2
   simp only [List.length_cons,List.zip_cons_cons,List.all_cons,eqL,h.1]
   rw [← ih]
   have:(l.length+1 == m.length+1)=(l.length == m.length):=by simp
   rw [this]
   cases l.length == m.length <;> cases eqT x y <;> rfl
theorem Z8a (a b:Tr):eqT a b=(a.Kind == b.Kind && (a.Words == b.Words && eqL a.Kids b.Kids)):=by
 rw [eqT,Ybr a.Kids b.Kids (·∈a.Kids) a.Kids.attach (by simp)]
theorem Zzp (x y:Tr) (xs ys:List Tr):eqL (x::xs) (y::ys)=(eqT x y && eqL xs ys):=rfl
theorem Z19:∀ (n:Nat) (a b:Tr),SizeOf.sizeOf a < n→(eqT a b=true↔a=b)
 | 0,a,b,h=>by omega
 | n+1,a,b,hn=>by
  have ih:∀ x∈a.Kids,∀ y,eqT x y=true↔x=y:=fun x hx y=>Z19 n x y (by have:=Zbg hx;omega)
  have hl:∀ (l m:List Tr),(∀ x∈l,x∈a.Kids)→(eqL l m=true↔l=m):=fun l=>by
   induction l with
   | nil=>intro m _;cases m <;> simp [eqL]
   | cons x l ihl =>
    intro m hm
    cases m with
    | nil=>simp [eqL]
    | cons y m=>rw [Zzp,Bool.and_eq_true,ih x (hm x (.head _)) y,ihl m (fun z hz=>hm z (.tail _ hz)),List.cons.injEq]
  rw [Z8a,Bool.and_eq_true,Bool.and_eq_true,hl a.Kids b.Kids (fun x hx=>hx),beq_iff_eq,beq_iff_eq]
  obtain ⟨k,w,ks⟩:=a
  obtain ⟨k',w',ks'⟩:=b
  simp
theorem eqT_iff {a b:Tr}:eqT a b=true↔a=b:=Z19 _ a b (Nat.lt_succ_self _)
theorem Zzq (a:Tr):eqT a a=true:=eqT_iff.2 rfl
theorem Yct:∀ (a b:List Int),a.length=b.length→(a.zip b).any (fun p=>p.1 != p.2) = !(a == b)
 | [],[],_=>rfl
 | [],_::_,h=>by simp at h
 | _::_,[],h=>by simp at h
 | x::a,y::b,h=>by
  have ih:=Yct a b (by simpa using h)
  rw [List.zip_cons_cons,List.any_cons,ih]
  by_cases hxy:x=y
  ·subst hxy;simp
  simp [bne,hxy]
theorem Z61 {R:Type} (a b:List Int) (step:Int→Option (Int ⊕ R)) (e o:R) (hab:a.length=b.length) (hl:(a.length:Int)≤140737488355328)
  (h1:∀ (i:Nat) (x y:Int),i < a.length→a[i]? = some x→b[i]? = some y→step i=some (if (x != y)=true then .inr e else .inl (IntKind.i64.wrap ((i:Int)+1)))) (h2:step a.length=some (.inr o)) :
  Zv step 0=some (if (a == b)=true then o else e):=by
 have hz:(a.zip b).length=a.length:=by rw [List.length_zip];omega
 have:=Z0f (a.zip b) step (fun p=>p.1 != p.2) e o (by rw [hz];exact hl) (fun i p hi hp hm=>by
  rw [hz] at hi
  have ha:a[i]? = some a[i]:=List.getElem?_eq_getElem hi
  have hb:b[i]? = some b[i]:=List.getElem?_eq_getElem (by omega)
  have:p=(a[i],b[i]):=by
   rw [List.getElem?_eq_getElem (by rw [hz];exact hi)] at hp
   injection hp with hp
   rw [← hp,List.getElem_zip]
  subst this
  exact h1 i _ _ hi ha hb) (by rw [hz];exact h2)
 rw [this,Yct a b hab]
 cases a == b <;> rfl
theorem Z0b {a b:Nat}:((a:Int) != (b:Int)) = !(a == b):=by
 rw [Bool.eq_iff_iff];simp;omega
theorem Z9a {a b:List Int} (h:¬ a.length=b.length):(a == b)=false:=by
 rw [beq_eq_false_iff_ne];intro e;exact h (by rw [e])
theorem Yeq {a b:List Int} (h:(a.length:Int)≤140737488355328):Zbz a b=some (a == b):=by
 unfold Zbz
 rw [Z0b]
 by_cases hab:a.length=b.length
 ·have:(!(a.length == b.length))=false:=by simp [hab]
  rw [this,cond_false,Z61 a b (Ut a b) (.inl ()) (.inr ()) hab h (fun i x y hi hx hy=>by
   unfold Ut
   rw [Us hi,cond_true,Z6 hx,Option.bind_some,Z6 hy,Option.bind_some]
   cases x != y <;> rfl) (by unfold Ut;rw [Zbh];rfl)]
  cases a == b <;> rfl
 have:(!(a.length == b.length))=true:=by simp [hab]
 rw [this,cond_true,Z9a hab]
theorem Z2a {a b:List Int} (h:(a.length:Int)≤140737488355328):X4 a b=some (a == b):=by
 unfold X4
 rw [Z0b]
 by_cases hab:a.length=b.length
 ·have:(!(a.length == b.length))=false:=by simp [hab]
  rw [this,cond_false,Z61 a b (Qg a b) (.inl ()) (.inr ()) hab h (fun i x y hi hx hy=>by
   unfold Qg
   rw [Us hi,cond_true,Z6 hx,Option.bind_some,Z6 hy,Option.bind_some]
   cases x != y <;> rfl) (by unfold Qg;rw [Zbh];rfl)]
  cases a == b <;> rfl
 have:(!(a.length == b.length))=true:=by simp [hab]
 rw [this,cond_true,Z9a hab]
theorem Yg5 (q:Tr→Tr→Bool):∀ (a b:List Tr),(a.zip b).any (fun p => !q p.1 p.2) = !((a.zip b).all fun p=>q p.1 p.2)
 | [],b=>by simp
 | x::a,[]=>by simp
 | x::a,y::b=>by rw [List.zip_cons_cons,List.any_cons,Yg5 q a b,List.all_cons];cases q x y <;> rfl
theorem Z2k {R:Type} (a b:List Tr) (q:Tr→Tr→Bool) (step:Int→Option (Int ⊕ R)) (e o:R) (hab:a.length=b.length) (hl:(a.length:Int)≤140737488355328)
  (h1:∀ (i:Nat) (x y:Tr),i < a.length→a[i]? = some x→b[i]? = some y→x∈a→y∈b→step i=some (if (!q x y)=true then .inr e else .inl (IntKind.i64.wrap ((i:Int)+1)))) (h2:step a.length=some (.inr o)) :
  Zv step 0=some (if ((a.zip b).all fun p=>q p.1 p.2)=true then o else e):=by
 have hz:(a.zip b).length=a.length:=by rw [List.length_zip];omega
 have:=Z0f (a.zip b) step (fun p => !q p.1 p.2) e o (by rw [hz];exact hl) (fun i p hi hp hm=>by
  rw [hz] at hi
  have ha:a[i]? = some a[i]:=List.getElem?_eq_getElem hi
  have hb:b[i]? = some b[i]:=List.getElem?_eq_getElem (by omega)
  have:p=(a[i],b[i]):=by
   rw [List.getElem?_eq_getElem (by rw [hz];exact hi)] at hp
   injection hp with hp
   rw [← hp,List.getElem_zip]
  subst this
  exact h1 i _ _ hi ha hb (List.getElem_mem _) (List.getElem_mem _)) (by rw [hz];exact h2)
 rw [this,Yg5 q a b]
 cases (a.zip b).all fun p=>q p.1 p.2 <;> rfl
theorem Z85 (f:Tr→Tr):∀ (a b:List Tr),a.length=b.length→((a.zip b).all fun p=>eqT (f p.1) (f p.2))=eqL (a.map f) (b.map f)
 | [],[],_=>rfl
 | [],_::_,h=>by simp at h
 | _::_,[],h=>by simp at h
 | x::a,y::b,h=>by
  have ih:=Z85 f a b (by simpa using h)
  rw [List.zip_cons_cons,List.all_cons,ih];rfl
theorem Z6c:∀ (a b:List Tr),a.length=b.length→((a.zip b).all fun p=>eqT p.1 p.2)=eqL a b
 | [],[],_=>rfl
 | [],_::_,h=>by simp at h
 | _::_,[],h=>by simp at h
 | x::a,y::b,h=>by
  have ih:=Z6c a b (by simpa using h)
  rw [List.zip_cons_cons,List.all_cons,ih];rfl
theorem Z29:∀ (a b:List Tr),a.length≠b.length→eqL a b=false
 | [],[],h=>by simp at h
 | [],_::_,_=>rfl
 | _::_,[],_=>rfl
 | x::a,y::b,h=>by rw [Zzp,Z29 a b (by simpa using h),Bool.and_false]
theorem Yaa:∀ (k:Nat) (a b:Tr),Bd a→Bd b→SizeOf.sizeOf a < k→Kp k a b=some (eqT a b)
 | 0,a,b,_,_,h=>by omega
 | k+1,a,b,ha,hb,hk=>by
  have ih:∀ x∈a.Kids,∀ y∈b.Kids,Kp k x y=some (eqT x y):=fun x hx y hy=>Yaa k x y (ha.all x hx) (hb.all y hy) (by have:=Zbg hx;omega)
  have hw:=ha.w
  have hkd:=ha.k
  show Zbq (Kp k) a b=_
  unfold Zbq
  rw [Z8a,Yeq (by omega),Option.bind_some,Z0b]
  by_cases h0:a.Kind=b.Kind
  ·have e0:(a.Kind != b.Kind)=false:=by simp [h0]
   have e1:(a.Kind == b.Kind)=true:=by simp [h0]
   rw [e0,e1,cond_false,cond_false,Option.bind_some,Bool.true_and]
   cases hw':a.Words == b.Words with
   | false=>rfl
   | true =>
    rw [Bool.not_true,cond_false,Bool.true_and]
    by_cases hab:a.Kids.length=b.Kids.length
    ·have:(!(a.Kids.length == b.Kids.length))=false:=by simp [hab]
     rw [this,cond_false,Z2k a.Kids b.Kids eqT (Um (Kp k) a b) (.inl ()) (.inr ()) hab (by omega) (fun i x y hi hx hy hmx hmy=>by
      unfold Um
      rw [Us hi,cond_true,Z6 hx,Option.bind_some,Z6 hy,Option.bind_some,ih x hmx y hmy,Option.bind_some]
      cases eqT x y <;> rfl) (by unfold Um;rw [Zbh];rfl)]
     rw [Z6c a.Kids b.Kids hab]
     cases eqL a.Kids b.Kids <;> rfl
    have:(!(a.Kids.length == b.Kids.length))=true:=by simp [hab]
    rw [this,cond_true,Z29 _ _ hab]
  have e0:(a.Kind != b.Kind)=true:=by simp [h0]
  have e1:(a.Kind == b.Kind)=false:=by simp [h0]
  rw [e0,e1];rfl
theorem Zx7 {a b:Tr} (ha:Bd a) (hb:Bd b):U8 a b=some (eqT a b):=Zcr (SizeOf.sizeOf a+1) fun k hk=>Yaa k a b ha hb (by omega)
theorem Zmc {t:Tr} (h:t.Kind=0):nrm t=⟨0,[],[]⟩:=by rw [Zg3,if_pos h]
theorem Gm {t:Tr} (h:t.Kind=1):nrm t=⟨1,tr (fun x=>x == 0) t.Words,tr (fun x=>x.Kind == 0) (t.Kids.map nrm)⟩:=by rw [Zg3,if_neg (by rw [h];decide),if_pos h]
theorem Zea {t:Tr} (h0:¬ t.Kind=0) (h1:¬ t.Kind=1):nrm t=⟨t.Kind,t.Words,t.Kids.map nrm⟩:=by rw [Zg3,if_neg h0,if_neg h1]
theorem Z09 (t:Tr):0 < SizeOf.sizeOf t:=by
 obtain ⟨k,w,ks⟩:=t
 simp only [Zb.mk.sizeOf_spec]
 omega
theorem Zzr:∀ (k:Nat),(∀ a b:Tr,Bd a→Bd b→2 * SizeOf.sizeOf a < k→(Xz k).1 a b=some (eqT (nrm a) (nrm b))) ∧
  (∀ (l m:List Tr),(∀ x∈l,Bd x∧2 * SizeOf.sizeOf x+1 < k)→(∀ x∈m,Bd x)→(l.length:Int)≤140737488355328→1≤k→(Xz k).2 l m=some (eqL (l.map nrm) (m.map nrm)))
 | 0=>⟨fun a b _ _ h=>by omega,fun l m hl hm hn h=>by omega⟩
 | k+1=>by
  obtain ⟨i1,i2⟩:=Zzr k
  refine ⟨fun a b ha hb hk => ?_,fun l m hl hm hn h => ?_⟩
  ·have hp:=Z09 a
   have hw:=ha.w
   have hkd:=ha.k
   have hw':=hb.w
   have hkd':=hb.k
   show Zhk (Xz k).1 (Xz k).2 a b=_
   unfold Zhk
   rw [Z8a,Ky,Ky]
   by_cases h0:a.Kind=b.Kind
   ·have e0:(a.Kind != b.Kind)=false:=by simp [h0]
    have e1:(a.Kind == b.Kind)=true:=by simp [h0]
    rw [e0,e1,cond_false,Bool.true_and]
    by_cases hz:a.Kind=0
    ·have e2:(a.Kind == 0)=true:=by simp [hz]
     rw [e2,cond_true,Zg3 a,Zg3 b,if_pos hz,if_pos (h0 ▸ hz)]
     rfl
    have e2:(a.Kind == 0)=false:=by simp [hz]
    rw [e2,cond_false]
    have rec_:∀ l m:List Tr,(∀ x∈l,x∈a.Kids)→(∀ x∈m,x∈b.Kids)→l.length≤a.Kids.length→(Xz k).2 l m=some (eqL (l.map nrm) (m.map nrm)):=fun l m h1 h2 h3 =>
     i2 l m (fun x hx=>⟨ha.all x (h1 x hx),by have:=Zbg (h1 x hx);omega⟩) (fun x hx=>hb.all x (h2 x hx)) (by omega) (by omega)
    by_cases h1:a.Kind=1
    ·have e3:(a.Kind == 1)=true:=by simp [h1]
     have l1:=Zlv (fun x:Int=>x == 0) a.Words
     have l2:=Zlv (fun x:Tr=>x.Kind == 0) a.Kids
     have q1:∀ l:List Tr,tr (fun x:Tr=>x.Kind == 0) (l.map nrm)=(tr (fun x:Tr=>x.Kind == 0) l).map nrm:=Z5y (fun x=>by rw [Ky])
     rw [e3,cond_true,Zn7 (by omega),Option.bind_some,Zn7 (by omega),Option.bind_some,Z2a (by omega),Option.bind_some,Zps (by omega),Option.bind_some,Zps (by omega),Option.bind_some,
      rec_ _ _ (fun x hx=>Zg6 hx) (fun x hx=>Zg6 hx) l2,Option.bind_some,Gm h1,Gm (h0 ▸ h1)]
     simp only [q1]
     cases tr (fun x=>x == 0) a.Words == tr (fun x=>x == 0) b.Words <;> rfl
    have e3:(a.Kind == 1)=false:=by simp [h1]
    rw [e3,cond_false,Z2a (by omega),Option.bind_some,rec_ _ _ (fun x hx=>hx) (fun x hx=>hx) (Nat.le_refl _),Option.bind_some,Zea hz h1,Zea (fun q=>hz (h0.trans q)) (fun q=>h1 (h0.trans q))]
    simp only
    cases a.Words == b.Words <;> rfl
   have e0:(a.Kind != b.Kind)=true:=by simp [h0]
   have e1:(a.Kind == b.Kind)=false:=by simp [h0]
   rw [e0,e1];rfl
  show Yl (Xz k).1 (Xz k).2 l m=_
  unfold Yl
  rw [Z0b]
  by_cases hlm:l.length=m.length
  ·have:(!(l.length == m.length))=false:=by simp [hlm]
   rw [this,cond_false,Z2k l m (fun x y=>eqT (nrm x) (nrm y)) (Yc (Xz k).1 l m) (.inl ()) (.inr ()) hlm hn (fun i x y hi hx hy hmx hmy=>by
    unfold Yc
    rw [Us hi,cond_true,Z6 hx,Option.bind_some,Z6 hy,Option.bind_some,i1 x y (hl x hmx).1 (hm y hmy) (by have:=(hl x hmx).2;omega),Option.bind_some]
    cases eqT (nrm x) (nrm y) <;> rfl) (by unfold Yc;rw [Zbh];rfl)]
   rw [Z85 nrm l m hlm]
   cases eqL (l.map nrm) (m.map nrm) <;> rfl
  have:(!(l.length == m.length))=true:=by simp [hlm]
  rw [this,cond_true,Z29 _ _ (by simpa using hlm)]
theorem Yda {a b:Tr} (ha:Bd a) (hb:Bd b):Znj a b=some (eqT (nrm a) (nrm b)):=Zcr (2 * SizeOf.sizeOf a+1) fun k hk=>(Zzr k).1 a b ha hb (by omega)
def pt (t:Tr):Nat:=1+t.Words.length+(t.Kids.attach.map fun k=>pt k.1).sum
termination_by SizeOf.sizeOf t
decreasing_by exact Zbg k.2
theorem Ztr (t:Tr):pt t=1+t.Words.length+(t.Kids.map pt).sum:=by
 rw [pt]
 simp only [List.attach_map_val]
theorem Zr7:∀ (k:Nat) (t:Tr) (d left:Int),Bd t→SizeOf.sizeOf t < k→0≤d→d≤100→0≤left→left≤1000000→∃ r,Xb k t d left=some r∧-1≤r∧r≤1000000∧(0≤r→r+pt t≤left)
 | 0,t,_,_,_,h,_,_,_,_=>by omega
 | k+1,t,d,left,hb,hk,hd0,hd1,hl0,hl1=>by
  have ih:∀ x∈t.Kids,∀ d left:Int,0≤d→d≤100→0≤left→left≤1000000→∃ r,Xb k x d left=some r∧-1≤r∧r≤1000000∧(0≤r→r+pt x≤left):=fun x hx d left=>Zr7 k x d left (hb.all x hx) (by have:=Zbg hx;omega)
  have hw:=hb.w
  have hkd:=hb.k
  show ∃ r,Qs (Xb k) t d left=some r∧_
  unfold Qs
  rw [Jm (x:=left - 1) (by omega) (by omega),Jm (by omega) (by omega),Ztr]
  cases hc:cond (d == 0) true (decide (left - 1 - (t.Words.length:Int) < 0)) with
  | true=>exact ⟨-1,rfl,by omega,by omega,fun h=>by omega⟩
  | false =>
   rw [cond_false]
   have hd:¬ d=0∧0≤left - 1 - (t.Words.length:Int):=by
    by_cases h:d=0
    ·simp [h] at hc
    have e:(d == 0)=false:=by simp [h]
    rw [e,cond_false,decide_eq_false_iff_not] at hc
    exact ⟨h,by omega⟩
   obtain ⟨r,h1,h2⟩:=Zce (step:=Qj (Xb k) t d)
    (fun s=>∃ j:Nat,s.2=j∧j≤t.Kids.length∧-1≤s.1∧s.1≤1000000∧(0≤s.1→s.1+(((t.Kids.take j).map pt).sum:Nat)≤left - 1 - (t.Words.length:Int)))
    (fun s=>t.Kids.length - s.2.toNat) (fun r=>-1≤r∧r≤1000000∧(0≤r→r+((t.Kids.map pt).sum:Nat)≤left - 1 - (t.Words.length:Int))) (fun s hI=>by
     obtain ⟨l,i⟩:=s
     obtain ⟨j,rfl,hj,g1,g2,g3⟩:=hI
     simp only at g1 g2 g3 ⊢
     unfold Qj
     simp only
     by_cases hji:j < t.Kids.length
     ·rw [Us hji,cond_true]
      by_cases hl:0≤l
      ·have e:decide (0≤l)=true:=by simp [hl]
       have hx:t.Kids[j]? = some t.Kids[j]:=List.getElem?_eq_getElem hji
       obtain ⟨r,q1,q2,q3,q4⟩:=ih t.Kids[j] (List.getElem_mem hji) (d - 1) l (by omega) (by omega) hl g2
       rw [e,cond_true,Z6 hx,Option.bind_some,Jm (by omega) (by omega),q1,Option.bind_some,Jm (by omega) (by omega)]
       refine .inl ⟨_,rfl,⟨j+1,by simp only;omega,by omega,q2,q3,fun hr => ?_⟩,by simp only;omega⟩
       have:=q4 hr
       have:=g3 hl
       rw [List.take_add_one,hx]
       simp only [Option.toList_some,List.map_append,List.map_cons,List.map_nil,List.sum_append,List.sum_cons,List.sum_nil]
       simp only at hr
       omega
      have e:decide (0≤l)=false:=by simp [hl]
      rw [e,cond_false]
      exact .inr ⟨l,rfl,g1,g2,fun h=>absurd h hl⟩
     have hj':j=t.Kids.length:=by omega
     subst hj'
     rw [Zbh,cond_false]
     rw [List.take_length] at g3
     exact .inr ⟨l,rfl,g1,g2,g3⟩) (left - 1 - (t.Words.length:Int),0) ⟨0,rfl,Nat.zero_le _,by simp only;omega,by simp only;omega,fun _=>by simp⟩
   rw [h1]
   refine ⟨r,rfl,h2.1,h2.2.1,fun hr => ?_⟩
   have:=h2.2.2 hr
   omega
theorem Zl2 {α:Type} {xs:List α} {i:Int} {x:α} (h:Y7 xs i=some x):x∈xs:=List.mem_of_getElem? (Zo4 h)
theorem Zn1:∀ (k k':Nat) (t:Tr) (d left:Int),SizeOf.sizeOf t < k→SizeOf.sizeOf t < k'→Xb k t d left=Xb k' t d left
 | 0,_,t,_,_,h,_=>by omega
 | k+1,0,t,_,_,_,h=>by omega
 | k+1,k'+1,t,d,left,h,h'=>by
  show Qs (Xb k) t d left=Qs (Xb k') t d left
  have e:Qj (Xb k) t d=Qj (Xb k') t d:=funext fun s=>by
   unfold Qj
   cases hx:Y7 t.Kids s.2 with
   | none=>rfl
   | some x=>simp only [Option.bind_some,Zn1 k k' x (IntKind.i64.wrap (d - 1)) s.1 (by have:=Zbg (Zl2 hx);omega) (by have:=Zbg (Zl2 hx);omega)]
  unfold Qs
  rw [e]
theorem Yht {t:Tr} (h:Bd t):∃ b,Zdc t=some b∧(b=true→pt t≤3000):=by
 obtain ⟨r,h1,h2,h3,h4⟩:=Zr7 (SizeOf.sizeOf t+1) t 80 3000 h (by omega) (by omega) (by omega) (by omega) (by omega)
 have hr:X8 t 80 3000=some r:=Zcr (SizeOf.sizeOf t+1) fun k hk=>by rw [Zn1 k (SizeOf.sizeOf t+1) t 80 3000 (by omega) (by omega)];exact h1
 unfold Zdc
 rw [hr,Option.bind_some]
 refine ⟨_,rfl,fun hb => ?_⟩
 have:=h4 (by simpa using hb)
 have:0≤r:=by simpa using hb
 omega
theorem Z9n {α:Type} {f:α→Nat} {x:α}:∀ {l:List α},x∈l→f x≤(l.map f).sum
 | y::l,h=>by
  simp only [List.map_cons,List.sum_cons]
  rcases List.mem_cons.1 h with rfl | h
  ·omega
  have:=Z9n (f:=f) h
  omega
theorem Z3s {t x:Tr} (h:x∈t.Kids):pt x≤pt t:=by
 rw [Ztr t]
 have:=Z9n (f:=pt) h
 omega
theorem Zww (k:Int) (w:List Int) (hw:w.length≤100) (hu:∀ x∈w,0≤x∧x < 18446744073709551616):Bd ⟨k,w,[]⟩ := .mk _ (by simp only;omega) (by simp) hu (fun k h=>by simp at h)
theorem Zqo {t:Tr} (h:Bd t) {left:Int} (h0:0≤left) (h1:left≤1000000):∃ r,X8 t 80 left=some r∧-1≤r∧r≤1000000∧(0≤r→r+pt t≤left):=by
 obtain ⟨r,h2,h3⟩:=Zr7 (SizeOf.sizeOf t+1) t 80 left h (by omega) (by omega) (by omega) h0 h1
 exact ⟨r,Zcr (SizeOf.sizeOf t+1) fun k hk=>by rw [Zn1 k (SizeOf.sizeOf t+1) t 80 left (by omega) (by omega)];exact h2,h3⟩
def wid (c:Int):Nat:=if c=0 then 0 else if c=1 then 1 else if c=2 then 8 else if c=3 then 16 else if c=4 then 32 else 64
def Zv8 (c w:Int):Bool:=decide (w < 2 ^ wid c)
theorem Zzo {c:Int} (h0:0≤c) (h1:c≤5):c=0∨c=1∨c=2∨c=3∨c=4∨c=5:=by omega
theorem Ye4 {c w:Int} (h0:0≤c) (h1:c≤5) (hw:0≤w):Zi1 c w=some (Zv8 c w):=by
 have key:∀ n:Nat,n≤64→(Int.fdiv w (2 ^ min (Int.toNat (n:Int)) 64) == 0)=decide (w < 2 ^ n):=fun n hn=>by
  rw [Int.toNat_natCast,Nat.min_eq_left hn,Int.fdiv_eq_ediv_of_nonneg _ (Int.le_of_lt (Int.pow_pos (by decide)))]
  have hp:(0:Int) < 2 ^ n:=Int.pow_pos (by decide)
  rw [Bool.eq_iff_iff,beq_iff_eq,decide_eq_true_eq]
  constructor
  ·intro h
   rcases Int.lt_or_le w (2 ^ n) with h2 | h2
   ·exact h2
   have:=Int.ediv_le_ediv hp h2
   rw [Int.ediv_self (Int.ne_of_gt hp)] at this
   omega
  intro h;exact Int.ediv_eq_zero_of_lt hw h
 have e:∀ n:Nat,n≤64→(some (((n:Int),true):Int×Bool)).bind (fun y2=>(cond y2.2 ((Zm9 (0≤y2.1)).bind fun u5=>some (cond y2.2 ((Int.fdiv w (2 ^ min (Int.toNat y2.1) 64)) == 0) false)) (some false)).bind fun (z4:Bool)=>some z4)=some (decide (w < 2 ^ n)):=fun n hn=>by
  rw [Option.bind_some]
  simp only [cond_true]
  rw [Zvj (by omega),Option.bind_some,Option.bind_some,key n hn]
 unfold Zi1 Zv8
 rcases Zzo h0 h1 with rfl | rfl | rfl | rfl | rfl | rfl
 ·exact e 0 (by decide)
 ·exact e 1 (by decide)
 ·exact e 8 (by decide)
 ·exact e 16 (by decide)
 ·exact e 32 (by decide)
 exact e 64 (by decide)
theorem Z8s (n:Nat) (hn:n≤64) (w:Int) (h0:0≤w) (h1:w < 18446744073709551616):Zv (Qu (n:Int)) (w,0)=some (w / 2 ^ n):=by
 have key:∀ m i:Nat,i+m=n→Zv (Qu (n:Int)) (w / 2 ^ i,(i:Int))=some (w / 2 ^ n):=fun m=>by
  induction m with
  | zero =>
   intro i hi
   have:i=n:=by omega
   subst this
   refine Z7 ?_
   unfold Qu
   simp only
   rw [Zbh,cond_false]
  | succ m ih =>
   intro i hi
   have hp:(0:Int) < 2 ^ i:=Int.pow_pos (by decide)
   have q0:0≤w / 2 ^ i:=Int.ediv_nonneg h0 (Int.le_of_lt hp)
   have q1:w / 2 ^ i≤w:=Int.ediv_le_self _ h0
   have hs:Qu (n:Int) (w / 2 ^ i,(i:Int))=some (.inl (w / 2 ^ (i+1),((i+1:Nat):Int))):=by
    unfold Qu
    simp only
    rw [Us (by omega),cond_true,Jm (by omega) (by omega),Int.tdiv_eq_ediv_of_nonneg q0]
    have e:w / 2 ^ i / 2=w / 2 ^ (i+1):=by rw [Int.ediv_ediv_of_nonneg (Int.le_of_lt hp),Int.pow_succ]
    have q2:0≤w / 2 ^ i / 2:=Int.ediv_nonneg q0 (by decide)
    have q3:w / 2 ^ i / 2≤w / 2 ^ i:=Int.ediv_le_self _ q0
    have e3:IntKind.u64.wrap (w / 2 ^ i / 2)=w / 2 ^ i / 2:=by
     exact Yez ⟨q2,by omega⟩
    rw [e3,e]
    rfl
   rw [Y9 hs]
   exact ih (i+1) (by omega)
 have:=key n 0 (by omega)
 simpa using this
theorem Yei {c w:Int} (h0:0≤c) (h1:c≤5) (hw:0≤w) (hw':w < 18446744073709551616):U6 c w=some (Zv8 c w):=by
 have e:∀ n:Nat,n≤64→(cond (decide ((n:Int) < 0)) (some false) ((Zv (Qu (n:Int)) (w,0)).bind fun (z4:Int)=>some (z4 == 0)))=some (decide (w < 2 ^ n)):=fun n hn=>by
  have:decide ((n:Int) < 0)=false:=by rw [decide_eq_false_iff_not];omega
  have hp:(0:Int) < 2 ^ n:=Int.pow_pos (by decide)
  rw [this,cond_false,Z8s n hn w hw hw',Option.bind_some]
  congr 1
  rw [Bool.eq_iff_iff,beq_iff_eq,decide_eq_true_eq]
  constructor
  ·intro h
   rcases Int.lt_or_le w (2 ^ n) with h2 | h2
   ·exact h2
   have:=Int.ediv_le_ediv hp h2
   rw [Int.ediv_self (Int.ne_of_gt hp)] at this
   omega
  intro h;exact Int.ediv_eq_zero_of_lt hw h
 unfold U6 Zv8
 rcases Zzo h0 h1 with rfl | rfl | rfl | rfl | rfl | rfl
 ·exact e 0 (by decide)
 ·exact e 1 (by decide)
 ·exact e 8 (by decide)
 ·exact e 16 (by decide)
 ·exact e 32 (by decide)
 exact e 64 (by decide)
def okk (kind:Int) (k:Tr):Bool:=if 2≤kind∧kind≤7 then k.Kind == 10 && Zv8 (kind - 2) (k.Words.headD 0) else k.Kind != 10 && (kind != 9 || k.Kind == 1)
def rt (t:Tr) (d:Nat):Bool :=
 if t.Kind=0 then t.Words.length == 0 && t.Kids.length == 0
 else if t.Kind=10 then t.Words.length == 1 && t.Kids.length == 0
 else if t.Kind < 0∨10 < t.Kind∨d=0∨65536≤t.Words.length∨(t.Kind=1∧65536≤t.Kids.length)∨1048576≤t.Kids.length∨(1 < t.Kind∧0 < t.Words.length) then false
 else (t.Kids.attach.map fun k=>rt k.1 (d - 1) && okk t.Kind k.1).all id
termination_by SizeOf.sizeOf t
decreasing_by exact Zbg k.2
theorem Zli (t:Tr) (d:Nat):rt t d=if t.Kind=0 then t.Words.length == 0 && t.Kids.length == 0
 else if t.Kind=10 then t.Words.length == 1 && t.Kids.length == 0
 else if t.Kind < 0∨10 < t.Kind∨d=0∨65536≤t.Words.length∨(t.Kind=1∧65536≤t.Kids.length)∨1048576≤t.Kids.length∨(1 < t.Kind∧0 < t.Words.length) then false
 else t.Kids.all fun k=>rt k (d - 1) && okk t.Kind k:=by
 rw [rt]
 have:(t.Kids.attach.map fun k=>rt k.1 (d - 1) && okk t.Kind k.1)=t.Kids.map fun k=>rt k (d - 1) && okk t.Kind k:=List.attach_map_val (f:=fun k=>rt k (d - 1) && okk t.Kind k)
 rw [this,List.all_map]
 rfl
theorem Ygc {t:Tr} (h:t.Kind=10) (d d':Nat):rt t d=rt t d':=by
 have h0:¬ t.Kind=0:=by rw [h];decide
 rw [Zli t d,Zli t d']
 simp only [if_neg h0,if_pos h]
theorem Z2w {t:Tr} (h:t.Kind=10) {d:Nat} (hr:rt t d=true):∃ w,t.Words=[w]:=by
 rw [Zli,if_neg (by omega),if_pos h,Bool.and_eq_true,beq_iff_eq] at hr
 obtain ⟨k,w,ks⟩:=t
 obtain ⟨h1,_⟩:=hr
 simp only at h1 ⊢
 exact List.length_eq_one_iff.1 h1
theorem Z3w {n:Nat}:((n:Int) == 0)=(n == 0):=by rw [Bool.eq_iff_iff,beq_iff_eq,beq_iff_eq];omega
theorem Yis {n:Nat}:((n:Int) == 1)=(n == 1):=by rw [Bool.eq_iff_iff,beq_iff_eq,beq_iff_eq];omega
theorem Ze3 (a b:Bool):cond a b false=(a && b):=by cases a <;> rfl
theorem Z84 {α:Type} (p:α→Bool):∀ l:List α,l.any (fun x => !p x) = !(l.all p)
 | []=>rfl
 | x::l=>by rw [List.any_cons,List.all_cons,Z84 p l];cases p x <;> rfl
theorem Zda {α R:Type} (xs:List α) (step:Int→Option (Int ⊕ R)) (p:α→Bool) (e o:R) (hl:(xs.length:Int)≤140737488355328)
  (h1:∀ (i:Nat) (x:α),i < xs.length→xs[i]? = some x→x∈xs→step i=some (if p x=true then .inl (IntKind.i64.wrap ((i:Int)+1)) else .inr e)) (h2:step xs.length=some (.inr o)):Zv step 0=some (if xs.all p=true then o else e):=by
 rw [Z0f xs step (fun x => !p x) e o hl (fun i x hi hx hm=>by rw [h1 i x hi hx hm];cases p x <;> rfl) h2,Z84]
 cases xs.all p <;> rfl
theorem Z2v:∀ (k:Nat) (t:Tr) (d:Nat),Bd t→SizeOf.sizeOf t < k→d≤64→Ju k t (d:Int)=some (rt t d)
 | 0,t,d,_,h,_=>by omega
 | k+1,t,d,hb,hk,hd=>by
  have hkd:=hb.k
  show Zad (Ju k) t (d:Int)=_
  unfold Zad
  rw [Zli,Z3w,Yis]
  by_cases h0:t.Kind=0
  ·rw [if_pos h0,h0]
   simp only [Z3w,Ze3]
   rfl
  have e0:(t.Kind == 0)=false:=by simp [h0]
  rw [if_neg h0,e0,cond_false]
  by_cases h10:t.Kind=10
  ·rw [if_pos h10,h10]
   simp only [Z3w,Ze3]
   rfl
  have e10:(t.Kind == 10)=false:=by simp [h10]
  rw [if_neg h10,e10,cond_false]
  by_cases hbad:t.Kind < 0∨10 < t.Kind∨d=0∨65536≤t.Words.length∨(t.Kind=1∧65536≤t.Kids.length)∨1048576≤t.Kids.length∨(1 < t.Kind∧0 < t.Words.length)
  ·rw [if_pos hbad]
   have hc:∀ c1 c2 c3 c4 c5 c6 c7 c8:Bool,(c1=true∨c2=true∨c3=true∨c4=true∨(c5=true∧c6=true)∨c7=true∨c8=true)→∀ X:Option Bool,
     cond (cond (cond (cond (cond (cond c1 true c2) true c3) true c4) true (cond c5 c6 false)) true c7) (some false) (cond c8 (some false) X)=some false:=by
    intro c1 c2 c3 c4 c5 c6 c7 c8 h X
    cases c1 <;> cases c2 <;> cases c3 <;> cases c4 <;> cases c5 <;> cases c6 <;> cases c7 <;> cases c8 <;> first | rfl | (simp at h;done)
   refine hc _ _ _ _ _ _ _ _ ?_ _
   simp only [decide_eq_true_eq,beq_iff_eq,Ze3,Bool.and_eq_true]
   omega
  rw [if_neg hbad]
  have hg:¬ t.Kind < 0∧¬ 10 < t.Kind∧¬ d=0∧¬ 65536≤t.Words.length∧¬ (t.Kind=1∧65536≤t.Kids.length)∧¬ 1048576≤t.Kids.length∧¬ (1 < t.Kind∧0 < t.Words.length):=by omega
  have hc:∀ c1 c2 c3 c4 c5 c7 c8:Bool,c1=false→c2=false→c3=false→c4=false→c5=false→c7=false→c8=false→∀ X:Option Bool,
    cond (cond (cond (cond (cond (cond c1 true c2) true c3) true c4) true c5) true c7) (some false) (cond c8 (some false) X)=X:=by
   intro c1 c2 c3 c4 c5 c7 c8 h1 h2 h3 h4 h5 h7 h8 X
   subst h1 h2 h3 h4 h5 h7 h8
   rfl
  rw [hc _ _ _ _ _ _ _ (decide_eq_false hg.1) (decide_eq_false hg.2.1) (by rw [beq_eq_false_iff_ne];omega) (by rw [decide_eq_false_iff_not];omega) (by rw [Ze3,Bool.and_eq_false_iff,beq_eq_false_iff_ne,decide_eq_false_iff_not];omega) (by rw [decide_eq_false_iff_not];omega) (by rw [Ze3,Bool.and_eq_false_iff,decide_eq_false_iff_not,decide_eq_false_iff_not];omega)]
  obtain ⟨d',rfl⟩:∃ d',d=d'+1:=⟨d - 1,by omega⟩
  have ih:∀ x∈t.Kids,Ju k x (d':Int)=some (rt x d'):=fun x hx=>Z2v k x d' (hb.all x hx) (by have:=Zbg hx;omega) (by omega)
  rw [Zda t.Kids (Vx (Ju k) t ((d'+1:Nat):Int)) (fun x=>rt x d' && okk t.Kind x) (.inl ()) (.inr ()) (by omega) (fun i x hi hx hm=>by
   unfold Vx
   have ed:((d'+1:Nat):Int) - 1=(d':Int):=by omega
   rw [Us hi,cond_true,Z6 hx,Option.bind_some,Jm (x:=((d'+1:Nat):Int) - 1) (by omega) (by omega),ed,ih x hm,Option.bind_some]
   cases hr:rt x d' with
   | false=>rfl
   | true =>
    rw [Bool.not_true,cond_false,Bool.true_and]
    unfold okk
    by_cases hdt:2≤t.Kind∧t.Kind≤7
    ·have e2:decide (2≤t.Kind)=true:=decide_eq_true hdt.1
     have e7:decide (t.Kind≤7)=true:=decide_eq_true hdt.2
     have e9:(t.Kind == 9)=false:=by rw [beq_eq_false_iff_ne];omega
     rw [e2,e7,e9,if_pos hdt]
     simp only [cond_true,cond_false]
     by_cases hx10:x.Kind=10
     ·obtain ⟨w,hw⟩:=Z2w hx10 hr
      have hu:=(hb.all x hm).u w (by rw [hw];exact .head _)
      have ex:(x.Kind == 10)=true:=by simp [hx10]
      have ex2:((true:Bool) != true)=false:=rfl
      have hg0:Y7 [w] (0:Int)=some w:=rfl
      rw [ex,ex2,cond_false,hw,hg0,Option.bind_some,Jm (by omega) (by omega),Yei (by omega) (by omega) hu.1 hu.2,Option.bind_some]
      simp only [cond_false,List.headD_cons,Bool.true_and]
      cases Zv8 (t.Kind - 2) w <;> rfl
     have ex:(x.Kind == 10)=false:=by simp [hx10]
     rw [ex]
     rfl
    have ed2:cond (decide (2≤t.Kind)) (decide (t.Kind≤7)) false=false:=by
     rw [Ze3,Bool.and_eq_false_iff,decide_eq_false_iff_not,decide_eq_false_iff_not];omega
    rw [ed2,if_neg hdt]
    have hin:∀ (X:Option Bool) (b:Bool),(cond (decide (2≤t.Kind)) (cond (decide (t.Kind≤7)) X (some b)) (some b))=some b:=fun X b=>by
     by_cases h2:2≤t.Kind
     ·have h7:decide (t.Kind≤7)=false:=by rw [decide_eq_false_iff_not];omega
      rw [decide_eq_true h2,h7];rfl
     rw [decide_eq_false h2];rfl
    by_cases hx10:x.Kind=10
    ·have ex:(x.Kind == 10)=true:=by simp [hx10]
     have ex2:(x.Kind != 10)=false:=by simp [hx10]
     rw [ex,ex2]
     rfl
    have ex:(x.Kind == 10)=false:=by simp [hx10]
    have ex2:(x.Kind != 10)=true:=by simp [hx10]
    have ex3:((false:Bool) != false)=false:=rfl
    rw [ex,ex2,ex3,cond_false]
    simp only [cond_false]
    rw [hin]
    by_cases h9:t.Kind=9
    ·have e9:(t.Kind == 9)=true:=by simp [h9]
     have e9':(t.Kind != 9)=false:=by simp [h9]
     rw [e9,e9',cond_true]
     by_cases hx1:x.Kind=1
     ·have q1:(x.Kind != 1)=false:=by simp [hx1]
      have q2:(x.Kind == 1)=true:=by simp [hx1]
      rw [q1,q2,cond_false]
      rfl
     have q1:(x.Kind != 1)=true:=by simp [hx1]
     have q2:(x.Kind == 1)=false:=by simp [hx1]
     rw [q1,q2,cond_true]
     rfl
    have e9:(t.Kind == 9)=false:=by simp [h9]
    have e9':(t.Kind != 9)=true:=by simp [h9]
    rw [e9,e9']
    rfl) (by unfold Vx;rw [Zbh];rfl),Option.bind_some,Nat.add_sub_cancel]
  cases t.Kids.all fun x=>rt x d' && okk t.Kind x <;> rfl
theorem Zqn {t:Tr} (h:Bd t) {d:Nat} (hd:d≤64):V8 t (d:Int)=some (rt t d):=Zcr (SizeOf.sizeOf t+1) fun k hk=>Z2v k t d h (by omega) hd
theorem Z30 (n:Int):Uy n=some (decide (2≤n) && decide (n≤9)):=by unfold Uy;rw [Ze3]
theorem Z8x {l:List Tr} (hl:(l.length:Int)≤140737488355328):Zb5 l=some (l.all fun x=>x.Kind == 1):=by
 unfold Zb5
 rw [Zda l (Uz l) (fun x=>x.Kind == 1) (.inl ()) (.inr ()) hl (fun i x hi hx hm=>by
  unfold Uz
  rw [Us hi,cond_true,Z6 hx,Option.bind_some]
  simp only [bne]
  cases x.Kind == 1 <;> rfl) (by unfold Uz;rw [Zbh];rfl),Option.bind_some]
 cases l.all fun x=>x.Kind == 1 <;> rfl
theorem Zwu {α:Type} (p q:α→Bool):∀ l:List α,(l.all fun x=>p x && q x)=(l.all p && l.all q)
 | []=>rfl
 | x::l=>by rw [List.all_cons,List.all_cons,List.all_cons,Zwu p q l];cases p x <;> cases q x <;> cases l.all p <;> cases l.all q <;> rfl
theorem Z17 {α:Type} {p q:α→Bool}:∀ {l:List α},(∀ x∈l,p x=q x)→l.all p=l.all q
 | [],_=>rfl
 | x::l,h=>by rw [List.all_cons,List.all_cons,h x (.head _),Z17 fun y hy=>h y (.tail _ hy)]
def rq (t:Tr) (d:Nat):Bool:=rt t d && t.Kind != 10
def ra (c:Int) (x:Tr):Bool:=x.Kind == 10 && (rt x 64 && Zv8 c (x.Words.headD 0))
theorem Z7l:∀ (k:Nat),(∀ t:Tr,Bd t→(2 * SizeOf.sizeOf t+1 < k∨(t.Kind=10∧0 < k))→(Z0 k).1 t=some (rt t 64)) ∧
  (∀ (t:Tr) (d:Nat),Bd t→2 * SizeOf.sizeOf t < k→d≤64→(Z0 k).2.1 t (d:Int)=some (rq t d)) ∧
  (∀ (l:List Tr) (d:Nat),(∀ x∈l,Bd x∧2 * SizeOf.sizeOf x+1 < k)→(l.length:Int)≤140737488355328→d≤64→1≤k→(Z0 k).2.2.1 l (d:Int)=some (l.all fun x=>rq x d)) ∧
  (∀ (l:List Tr) (c:Int),(∀ x∈l,Bd x)→(l.length:Int)≤140737488355328→0≤c→c≤5→2≤k→(Z0 k).2.2.2 l c=some (l.all (ra c)))
 | 0=>⟨fun t _ h=>by omega,fun t d _ h=>by omega,fun l d _ _ _ h=>by omega,fun l c _ _ _ _ h=>by omega⟩
 | k+1=>by
  obtain ⟨i1,i2,i3,i4⟩:=Z7l k
  refine ⟨fun t hb hk => ?_,fun t d hb hk hd => ?_,fun l d hl hn hd hk => ?_,fun l c hl hn h0 h5 hk => ?_⟩
  ·show Zhl (Z0 k).1 (Z0 k).2.1 (Z0 k).2.2.1 (Z0 k).2.2.2 t=_
   unfold Zhl
   rw [Z3w,Yis]
   by_cases h10:t.Kind=10
   ·have e:(t.Kind == 10)=true:=by simp [h10]
    rw [e,cond_true,Ze3,Zli,if_neg (by rw [h10];decide),if_pos h10]
   have e:(t.Kind == 10)=false:=by simp [h10]
   have e2:(t.Kind != 10)=true:=by simp [h10]
   have:=i2 t 64 hb (by rcases hk with hk | hk;omega;exact absurd hk.1 h10) (by decide)
   rw [e,cond_false,show (64:Int)=((64:Nat):Int) from rfl,this,Option.bind_some]
   unfold rq
   rw [e2,Bool.and_true]
  ·have hkd:=hb.k
   have hw:=hb.w
   show Zhm (Z0 k).1 (Z0 k).2.1 (Z0 k).2.2.1 (Z0 k).2.2.2 t (d:Int)=_
   unfold Zhm rq
   rw [Z3w,Z3w,Zli]
   by_cases h0:t.Kind=0
   ·have e:(t.Kind == 0)=true:=by simp [h0]
    have e2:(t.Kind != 10)=true:=by rw [h0];rfl
    rw [e,e2,cond_true,Ze3,if_pos h0,Bool.and_true]
   have e0:(t.Kind == 0)=false:=by simp [h0]
   rw [e0,cond_false,if_neg h0]
   by_cases hd0:d=0
   ·subst hd0
    have e:(((0:Nat):Int) == 0)=true:=rfl
    rw [e,cond_true]
    by_cases h10:t.Kind=10
    ·simp [h10]
    rw [if_neg h10,if_pos (by omega),Bool.false_and]
   have ed:((d:Int) == 0)=false:=by rw [beq_eq_false_iff_ne];omega
   rw [ed,cond_false]
   obtain ⟨d',rfl⟩:∃ d',d=d'+1:=⟨d - 1,by omega⟩
   have e3:((d'+1:Nat):Int) - 1=(d':Int):=by omega
   have ih3:=i3 t.Kids d' (fun x hx=>⟨hb.all x hx,by have:=Zbg hx;omega⟩) (by omega) (by omega) (by have:=Z09 t;omega)
   rw [Jm (x:=((d'+1:Nat):Int) - 1) (by omega) (by omega),e3,ih3,Nat.add_sub_cancel]
   by_cases h1:t.Kind=1
   ·have e:(t.Kind == 1)=true:=by simp [h1]
    have e2:(t.Kind != 10)=true:=by rw [h1];rfl
    have e10:¬ t.Kind=10:=by omega
    have ho:∀ x:Tr,okk t.Kind x=(x.Kind != 10):=fun x=>by unfold okk;rw [h1,if_neg (by decide)];simp
    rw [e,e2,cond_true,if_neg e10,Bool.and_true]
    simp only [ho]
    by_cases hw':t.Words.length < 65536
    ·have q1:decide ((t.Words.length:Int) < 65536)=true:=by rw [decide_eq_true_eq];omega
     by_cases hk':t.Kids.length < 65536
     ·have q2:decide ((t.Kids.length:Int) < 65536)=true:=by rw [decide_eq_true_eq];omega
      rw [q1,q2,if_neg (by omega)]
      rfl
     have q2:decide ((t.Kids.length:Int) < 65536)=false:=by rw [decide_eq_false_iff_not];omega
     rw [q1,q2,if_pos (by omega)]
     rfl
    have q1:decide ((t.Words.length:Int) < 65536)=false:=by rw [decide_eq_false_iff_not];omega
    rw [q1,if_pos (by omega)]
    rfl
   have e1:(t.Kind == 1)=false:=by simp [h1]
   rw [e1,cond_false,Z30,Option.bind_some]
   by_cases hbad:¬ (2≤t.Kind∧t.Kind≤9)∨0 < t.Words.length∨1048576≤t.Kids.length
   ·have q:cond (cond (!(decide (2≤t.Kind) && decide (t.Kind≤9))) true (decide (0 < (t.Words.length:Int)))) true (decide (1048576≤(t.Kids.length:Int)))=true:=by
     cases hq:cond (cond (!(decide (2≤t.Kind) && decide (t.Kind≤9))) true (decide (0 < (t.Words.length:Int)))) true (decide (1048576≤(t.Kids.length:Int))) with
     | true=>rfl
     | false =>
      have hc:∀ a b c:Bool,cond (cond (!a) true b) true c=false→a=true∧b=false∧c=false:=by decide
      obtain ⟨z1,z2,z3⟩:=hc _ _ _ hq
      rw [Bool.and_eq_true,decide_eq_true_eq,decide_eq_true_eq] at z1
      rw [decide_eq_false_iff_not] at z2 z3
      omega
    rw [q,cond_true]
    by_cases h10:t.Kind=10
    ·have e2:(t.Kind != 10)=false:=by simp [h10]
     rw [e2,Bool.and_false]
    rw [if_neg h10,if_pos (by omega),Bool.false_and]
   have hg:2≤t.Kind∧t.Kind≤9∧¬ 0 < t.Words.length∧¬ 1048576≤t.Kids.length:=by omega
   have q2:decide (0 < (t.Words.length:Int))=false:=by rw [decide_eq_false_iff_not];omega
   have q3:decide (1048576≤(t.Kids.length:Int))=false:=by rw [decide_eq_false_iff_not];omega
   have e10:¬ t.Kind=10:=by omega
   have e2:(t.Kind != 10)=true:=by simp [e10]
   rw [decide_eq_true hg.1,decide_eq_true hg.2.1,q2,q3,e2,if_neg e10,if_neg (by omega),Bool.and_true]
   simp only [Bool.and_true,Bool.not_true,cond_false]
   by_cases h8:t.Kind=8
   ·have e:(t.Kind == 8)=true:=by simp [h8]
    have ho:∀ x:Tr,okk t.Kind x=(x.Kind != 10):=fun x=>by unfold okk;rw [h8,if_neg (by decide)];simp
    rw [e,cond_true,Option.bind_some]
    simp only [ho]
    rfl
   have e8:(t.Kind == 8)=false:=by simp [h8]
   rw [e8,cond_false]
   by_cases h9:t.Kind=9
   ·have e:(t.Kind == 9)=true:=by simp [h9]
    have ho:∀ x:Tr,(rt x d' && okk t.Kind x)=(rq x d' && x.Kind == 1):=fun x=>by
     unfold okk rq
     rw [h9,if_neg (by decide)]
     have:((9:Int) != 9)=false:=rfl
     rw [this,Bool.false_or,Bool.and_assoc]
    rw [e,cond_true,Z8x (by omega),Option.bind_some]
    simp only [ho]
    rw [Zwu]
    cases t.Kids.all fun x=>x.Kind == 1 with
    | false=>rw [Bool.and_false];rfl
    | true=>rw [Bool.and_true];rfl
   have e:(t.Kind == 9)=false:=by simp [h9]
   have hd7:2≤t.Kind∧t.Kind≤7:=by omega
   rw [e,cond_false,Jm (by omega) (by omega),i4 t.Kids (t.Kind - 2) hb.all (by omega) (by omega) (by omega) (by have:=Z09 t;omega),Option.bind_some]
   congr 1
   refine Z17 fun x hx => ?_
   unfold okk ra
   rw [if_pos hd7]
   by_cases hx10:x.Kind=10
   ·rw [Ygc hx10 d' 64]
    have:(x.Kind == 10)=true:=by simp [hx10]
    rw [this,Bool.true_and,Bool.true_and]
   have:(x.Kind == 10)=false:=by simp [hx10]
   rw [this,Bool.false_and,Bool.false_and,Bool.and_false]
  ·show Zd4 (Z0 k).1 (Z0 k).2.1 (Z0 k).2.2.1 (Z0 k).2.2.2 l (d:Int)=_
   unfold Zd4
   rw [Zda l (Zaj (Z0 k).2.1 l (d:Int)) (fun x=>rq x d) (.inl ()) (.inr ()) hn (fun i x hi hx hm=>by
    unfold Zaj
    rw [Us hi,cond_true,Z6 hx,Option.bind_some,i2 x d (hl x hm).1 (by have:=(hl x hm).2;omega) hd,Option.bind_some]
    cases rq x d <;> rfl) (by unfold Zaj;rw [Zbh];rfl),Option.bind_some]
   cases l.all fun x=>rq x d <;> rfl
  show Zd3 (Z0 k).1 (Z0 k).2.1 (Z0 k).2.2.1 (Z0 k).2.2.2 l c=_
  unfold Zd3
  rw [Zda l (Zai (Z0 k).1 l c) (ra c) (.inl ()) (.inr ()) hn (fun i x hi hx hm=>by
   unfold Zai ra
   rw [Us hi,cond_true,Z6 hx,Option.bind_some]
   by_cases hx10:x.Kind=10
   ·have e:(x.Kind == 10)=true:=by simp [hx10]
    have e2:(x.Kind != 10)=false:=by simp [hx10]
    rw [e,e2,cond_false,i1 x (hl x hm) (.inr ⟨hx10,by omega⟩),Option.bind_some,Bool.true_and]
    cases hr:rt x 64 with
    | false=>rfl
    | true =>
     obtain ⟨w,hw⟩:=Z2w hx10 hr
     have hu:=(hl x hm).u w (by rw [hw];exact .head _)
     have hg0:Y7 [w] (0:Int)=some w:=rfl
     rw [cond_true,hw,hg0,Option.bind_some,Ye4 h0 h5 hu.1,Option.bind_some]
     simp only [cond_false,List.headD_cons,Bool.true_and,Bool.not_true]
     cases Zv8 c w <;> rfl
   have e:(x.Kind == 10)=false:=by simp [hx10]
   have e2:(x.Kind != 10)=true:=by simp [hx10]
   rw [e,e2]
   rfl) (by unfold Zai;rw [Zbh];rfl),Option.bind_some]
  cases l.all (ra c) <;> rfl
theorem Z7m {t:Tr} (h:Bd t):Zjr t=some (rt t 64):=Zcr (2 * SizeOf.sizeOf t+2) fun k hk=>(Z7l k).1 t h (.inl (by omega))
theorem Zvt (k:Nat):256 ^ k=2 ^ (8 * k):=by rw [Nat.pow_mul]
def K5 (m:Nat):Nat→Nat
 | 0=>0
 | k+1=>K5 m k+(if m / 2 ^ k % 2=1 then 255 * 256 ^ k else 0)
theorem Z7z (m:Nat):∀ k,K5 m k < 256 ^ k
 | 0=>by simp [K5]
 | k+1=>by
  have:=Z7z m k
  have h:256 ^ (k+1)=256 * 256 ^ k:=by rw [Nat.pow_succ,Nat.mul_comm]
  simp only [K5]
  split <;> omega
theorem Yb9 {k:Nat} (hk:k < 8):256 ^ (k+1)≤2 ^ 64:=by
 rw [Zvt];exact Nat.pow_le_pow_right (by decide) (by omega)
def Zrn (m i:Nat):Bool:=decide (m / 2 ^ i % 2=1)
theorem Yhq {m i:Nat} (h:Zrn m i=true):m / 2 ^ i % 2=1:=of_decide_eq_true h
theorem Yhp {m i:Nat} (h:Zrn m i=false):¬ m / 2 ^ i % 2=1:=of_decide_eq_false h
theorem Ycy (q:Nat):((q:Int) % 2 == 1)=decide (q % 2=1):=by rw [Bool.eq_iff_iff];simp;omega
def Zoh (f:Nat→Nat):Nat→Nat
 | 0=>0
 | k+1=>2 ^ (8 * k) * f k+Zoh f k
theorem Zsp (f:Nat→Nat) (hf:∀ k,f k < 256):∀ k,Zoh f k < 2 ^ (8 * k)
 | 0=>by simp [Zoh]
 | k+1=>by
  have h1:=Zsp f hf k
  have h2:=hf k
  have h3:2 ^ (8 * (k+1))=2 ^ (8 * k) * 256:=by rw [Nat.mul_add,Nat.pow_add]
  have h4:2 ^ (8 * k) * f k≤2 ^ (8 * k) * 255:=Nat.mul_le_mul_left _ (by omega)
  simp only [Zoh]
  omega
theorem Zp2 (f:Nat→Nat) (hf:∀ k,f k < 256) (i:Nat):∀ k,Nat.testBit (Zoh f k) i=(decide (i < 8 * k) && Nat.testBit (f (i / 8)) (i % 8))
 | 0=>by simp [Zoh]
 | k+1=>by
  have h:=Zp2 f hf i k
  simp only [Zoh]
  rw [Nat.testBit_two_pow_mul_add _ (Zsp f hf k)]
  by_cases h1:i < 8 * k
  ·rw [if_pos h1,h]
   simp [h1,show i < 8 * (k+1) by omega]
  rw [if_neg h1]
  by_cases h2:i < 8 * (k+1)
  ·have h3:i / 8=k:=by omega
   have h4:i - 8 * k=i % 8:=by omega
   rw [h3,h4]
   simp [h2]
  have h5:f k < 2 ^ (i - 8 * k):=Nat.lt_of_lt_of_le (hf k) (Nat.pow_le_pow_right (n:=2) (by decide) (show 8≤i - 8 * k by omega))
  rw [Nat.testBit_lt_two_pow h5]
  simp [h2]
def Zbt (n k:Nat):Nat:=n / 256 ^ k % 256
theorem Yc0 (n k:Nat):Zbt n k < 256:=Nat.mod_lt _ (by decide)
theorem Zvb (n k j:Nat) (hj:j < 8):Nat.testBit (Zbt n k) j=Nat.testBit n (8 * k+j):=by
 unfold Zbt
 rw [Zvt,show (256:Nat)=2 ^ 8 from rfl,Nat.testBit_mod_two_pow,Nat.testBit_div_two_pow]
 simp [hj,Nat.add_comm]
def Zln (a b m k:Nat):Nat:=if Zrn m k then Zbt b k else Zbt a k
theorem Zxj (a b m k:Nat):Zln a b m k < 256:=by unfold Zln;split <;> exact Yc0 _ _
def Zq4 (a b m:Nat):Nat:=Zoh (Zln a b m) 8
def Z7x (m k:Nat):Nat:=if Zrn m k then 255 else 0
theorem Z7y (m k:Nat):Z7x m k < 256:=by unfold Z7x;split <;> decide
theorem Zv7 (m:Nat):∀ k,K5 m k=Zoh (Z7x m) k
 | 0=>rfl
 | k+1=>by
  simp only [K5,Zoh,Zv7 m k,Z7x,Zrn,decide_eq_true_eq]
  rw [Zvt]
  split <;> omega
theorem Yho (j:Nat) (hj:j < 8):Nat.testBit 255 j=true:=by
 rw [show (255:Nat)=2 ^ 8 - 1 from rfl,Nat.testBit_two_pow_sub_one];simp [hj]
theorem Zv6 (m i:Nat) (hi:i < 64):Nat.testBit (K5 m 8) i=Zrn m (i / 8):=by
 rw [Zv7,Zp2 _ (Z7y m)]
 unfold Z7x
 have:=Yho (i % 8) (Nat.mod_lt _ (by decide))
 cases Zrn m (i / 8) <;> simp [hi,this]
theorem Ziq (m:Nat):K5 m 8 < 2 ^ 64:=by rw [Zv7];exact Zsp _ (Z7y m) 8
theorem Z63 (a b m:Nat) (ha:a < 2 ^ 64) (hb:b < 2 ^ 64):(a &&& (18446744073709551615 - K5 m 8)) ||| (b &&& K5 m 8)=Zq4 a b m:=by
 refine Nat.eq_of_testBit_eq fun i => ?_
 unfold Zq4
 rw [Zp2 _ (Zxj a b m),Nat.testBit_or,Nat.testBit_and,Nat.testBit_and,show (18446744073709551615 - K5 m 8)=2 ^ 64 - (K5 m 8+1) by have:=Ziq m;omega,Nat.testBit_two_pow_sub_succ (Ziq m)]
 by_cases hi:i < 64
 ·have h:=Zv6 m i hi
  have hs:8 * (i / 8)+i % 8=i:=by omega
  have hj:i % 8 < 8:=Nat.mod_lt _ (by decide)
  rw [h]
  unfold Zln
  cases Zrn m (i / 8) <;> simp [hi,Zvb _ _ _ hj,hs]
 have h1:∀ n,n < 2 ^ 64→Nat.testBit n i=false:=fun n hn=>Nat.testBit_lt_two_pow (Nat.lt_of_lt_of_le hn (Nat.pow_le_pow_right (by decide) (by omega)))
 simp [h1 a ha,h1 b hb,hi]
theorem Ygr (q:Nat):Int.tdiv (q:Int) 256=((q / 256:Nat):Int):=by rw [Int.tdiv_eq_ediv_of_nonneg (Int.natCast_nonneg _)];omega
theorem Yjf (q:Nat):Int.tdiv (q:Int) 2=((q / 2:Nat):Int):=by rw [Int.tdiv_eq_ediv_of_nonneg (Int.natCast_nonneg _)];omega
theorem Ygv (q:Nat):IntKind.u8.wrap (Int.tmod (q:Int) 256)=((q % 256:Nat):Int):=by rw [Int.tmod_eq_emod_of_nonneg (Int.natCast_nonneg _),IntKind.wrap_u8'];omega
theorem Z13 (q:Nat) (h:q < 18446744073709551616):IntKind.u64.wrap (q:Int)=(q:Int):=Yez (by omega)
theorem u8n (q:Nat) (h:q < 256):IntKind.u8.wrap (q:Int)=(q:Int):=by rw [IntKind.wrap_u8'];omega
theorem lt8 {k:Nat} (h:k < 8):k=0∨k=1∨k=2∨k=3∨k=4∨k=5∨k=6∨k=7:=by omega
theorem Ycz (m k:Nat) (hm:m < 256) (hk:k < 8):(IntKind.u8.wrap (Zha .u8 (Int.fdiv (m:Int) (2 ^ min (Int.toNat (k:Int)) 8)) 1) == 1)=Zrn m k:=by
 have e1:Int.fdiv (m:Int) (2 ^ min (Int.toNat (k:Int)) 8)=((m / 2 ^ k:Nat):Int):=by
  rw [Int.toNat_natCast,Nat.min_eq_left (by omega),Int.fdiv_eq_ediv_of_nonneg _ (Int.le_of_lt (Int.pow_pos (by decide)))]
  simp only [Int.natCast_ediv,Int.natCast_pow]
  rfl
 have hq:m / 2 ^ k < 256:=Nat.lt_of_le_of_lt (Nat.div_le_self _ _) hm
 have e2:=Z6y .u8 (m / 2 ^ k) 1 (by simpa [IntKind.bits] using hq) (by simp [IntKind.bits])
 have e3:(m / 2 ^ k) &&& 1=m / 2 ^ k % 2:=Nat.and_one_is_mod _
 have e4:((1:Nat):Int)=1:=rfl
 rw [e4] at e2
 rw [e1,e2,e3,IntKind.wrap_u8']
 unfold Zrn
 rw [Bool.eq_iff_iff,beq_iff_eq,decide_eq_true_eq]
 omega
theorem Yh6 {a b i:Nat} (ha:a < 2 ^ i) (hb:b % 2 ^ i=0):a ||| b=a+b:=by
 obtain ⟨q,rfl⟩:∃ q,b=2 ^ i * q:=⟨b / 2 ^ i,by have:=Nat.div_add_mod b (2 ^ i);omega⟩
 rw [Nat.or_comm,Nat.add_comm,Nat.two_pow_add_eq_or_of_lt ha]
theorem Yg1 (m k:Nat) (hk:k < 8):IntKind.u64.wrap (Z0g .u64 (K5 m k:Nat) (IntKind.u64.wrap (255 * 2 ^ min (Int.toNat (IntKind.i64.wrap (8 * (k:Int)))) 64)))=((K5 m k+255 * 256 ^ k:Nat):Int):=by
 have h1:=Z7z m k
 have h2:=Yb9 hk
 have h3:256 ^ (k+1)=256 * 256 ^ k:=by rw [Nat.pow_succ,Nat.mul_comm]
 have e0:(IntKind.i64.wrap (8 * (k:Int))).toNat=8 * k:=by rw [Z3p (by omega)];omega
 have e:(255 * 2 ^ (8 * k):Int)=((255 * 256 ^ k:Nat):Int):=by rw [Zvt];simp only [Int.natCast_mul,Int.natCast_pow];rfl
 have e2:K5 m k ||| 255 * 256 ^ k=K5 m k+255 * 256 ^ k:=Yh6 (i:=8 * k) (by rw [← Zvt];exact h1) (by rw [← Zvt];exact Nat.mul_mod_left _ _)
 rw [e0,Nat.min_eq_left (by omega),e,Z13 (255 * 256 ^ k) (by omega),Yiu _ _ (by omega) (by omega),e2,Z13 _ (by omega)]
theorem Z20 (m:Nat) (hm:m < 256):∀ j i:Nat,i+j=8→Zv (Zff (m:Int)) (((K5 m i:Nat):Int),(i:Int))=some ((K5 m 8:Nat):Int)
 | 0,i,h=>by
  obtain rfl:i=8:=by omega
  exact Z7 rfl
 | j+1,i,h=>by
  have hs:Zff (m:Int) (((K5 m i:Nat):Int),(i:Int))=some (.inl (((K5 m (i+1):Nat):Int),((i+1:Nat):Int))):=by
   unfold Zff
   have e:decide ((i:Int) < 8)=true:=by rw [decide_eq_true_eq];omega
   simp only
   rw [e,cond_true,Zvj (by omega),Option.bind_some,Ycz m i hm (by omega),Z3p (x:=(i:Int)+1) (by omega)]
   have hw:K5 m (i+1)=K5 m i+(if m / 2 ^ i % 2=1 then 255 * 256 ^ i else 0):=rfl
   cases hb:Zrn m i with
   | true =>
    rw [cond_true,Zvj (by rw [Z3p (by omega)];omega),Option.bind_some,Yg1 m i (by omega),hw,if_pos (Yhq hb)]
    rfl
   | false =>
    rw [cond_false,hw,if_neg (Yhp hb)]
    rfl
  rw [Y9 hs]
  exact Z20 m hm j (i+1) (by omega)
theorem Z5z (m:Nat) (hm:m < 256):Zb6 (m:Int)=some ((K5 m 8:Nat):Int):=by
 unfold Zb6
 have:=Z20 m hm 8 0 rfl
 rw [show ((K5 m 0:Nat):Int)=0 from rfl,show ((0:Nat):Int)=0 from rfl] at this
 rw [this]
 rfl
def ofF (f:Nat→Nat):Arr Int 8:=⟨[(f 0:Nat),(f 1:Nat),(f 2:Nat),(f 3:Nat),(f 4:Nat),(f 5:Nat),(f 6:Nat),(f 7:Nat)],rfl⟩
theorem Zxn (f:Nat→Nat) (k:Nat) (hk:k < 8):Y7 (ofF f).1 (k:Int)=some ((f k:Nat):Int):=by
 rcases lt8 hk with rfl | rfl | rfl | rfl | rfl | rfl | rfl | rfl <;> rfl
theorem Z9z (f:Nat→Nat) (k v:Nat) (hk:k < 8):Arr.put (ofF f) (k:Int) (v:Int)=ofF (fun i=>if i=k then v else f i):=by
 rcases lt8 hk with rfl | rfl | rfl | rfl | rfl | rfl | rfl | rfl <;> rfl
theorem Z2p {f g:Nat→Nat} (h:∀ k,k < 8→f k=g k):ofF f=ofF g:=by
 unfold ofF
 simp only [h 0 (by decide),h 1 (by decide),h 2 (by decide),h 3 (by decide),h 4 (by decide),h 5 (by decide),h 6 (by decide),h 7 (by decide)]
theorem Zzn (n:Nat) (hn:n < 18446744073709551616):∀ j i:Nat,i+j=8→Zv V1 (((n / 256 ^ i:Nat):Int),(i:Int),ofF (fun q=>if q < i then Zbt n q else 0))=some (ofF (Zbt n))
 | 0,i,h=>by
  obtain rfl:i=8:=by omega
  refine (Z7 (r:=ofF (fun q=>if q < 8 then Zbt n q else 0)) rfl).trans ?_
  rw [Z2p (g:=Zbt n) fun k hk=>if_pos hk]
 | j+1,i,h=>by
  have hs:V1 (((n / 256 ^ i:Nat):Int),(i:Int),ofF (fun q=>if q < i then Zbt n q else 0))=some (.inl (((n / 256 ^ (i+1):Nat):Int),((i+1:Nat):Int),ofF (fun q=>if q < i+1 then Zbt n q else 0))):=by
   unfold V1
   have e:decide ((i:Int) < 8)=true:=by rw [decide_eq_true_eq];omega
   simp only
   have q1:n / 256 ^ i≤n:=Nat.div_le_self _ _
   have q2:n / 256 ^ i / 256=n / 256 ^ (i+1):=by rw [Nat.div_div_eq_div_mul,Nat.pow_succ]
   have q3:Int.tdiv ((n / 256 ^ i:Nat):Int) 256=((n / 256 ^ (i+1):Nat):Int):=by rw [← q2,Ygr]
   have q4:IntKind.u8.wrap (Int.tmod ((n / 256 ^ i:Nat):Int) 256)=((Zbt n i:Nat):Int):=by
    rw [Ygv]
    rfl
   have q5:n / 256 ^ (i+1)≤n:=Nat.div_le_self _ _
   rw [e,cond_true,Zxn _ _ (by omega),Option.bind_some,q3,q4,Z13 _ (Nat.lt_of_le_of_lt q5 hn),Z3p (x:=(i:Int)+1) (by omega),Z9z _ _ _ (by omega)]
   have e5:(fun q=>if q=i then Zbt n i else if q < i then Zbt n q else 0)=fun q=>if q < i+1 then Zbt n q else 0:=by
    funext q
    by_cases h1:q=i
    ·rw [if_pos h1,if_pos (by omega),h1]
    rw [if_neg h1]
    by_cases h2:q < i
    ·rw [if_pos h2,if_pos (by omega)]
    rw [if_neg h2,if_neg (by omega)]
   rw [e5]
   rfl
  rw [Y9 hs]
  exact Zzn n hn j (i+1) (by omega)
theorem Z6f (n:Nat) (hn:n < 18446744073709551616):V7 (n:Int)=some (ofF (Zbt n)):=by
 unfold V7
 have h:=Zzn n hn 8 0 rfl
 have e:ofF (fun q=>if q < 0 then Zbt n q else 0)=⟨[0,0,0,0,0,0,0,0],rfl⟩:=rfl
 rw [e,Nat.pow_zero,Nat.div_one,show ((0:Nat):Int)=0 from rfl] at h
 rw [Option.bind_some,Option.bind_some,h]
 rfl
theorem Z0h (m n:Nat) (hm:m < 256) (hn:n≤8):∀ j i:Nat,i+j=n→Zv (Ka (n:Int)) (((m / 2 ^ i:Nat):Int),(i:Int))=some ((m / 2 ^ n:Nat):Int)
 | 0,i,h=>by
  obtain rfl:i=n:=by omega
  refine Z7 ?_
  unfold Ka
  have e:decide ((i:Int) < (i:Int))=false:=by rw [decide_eq_false_iff_not];omega
  simp only
  rw [e,cond_false]
 | j+1,i,h=>by
  have hs:Ka (n:Int) (((m / 2 ^ i:Nat):Int),(i:Int))=some (.inl (((m / 2 ^ (i+1):Nat):Int),((i+1:Nat):Int))):=by
   unfold Ka
   have e:decide ((i:Int) < (n:Int))=true:=by rw [decide_eq_true_eq];omega
   have q1:m / 2 ^ i≤m:=Nat.div_le_self _ _
   have q2:m / 2 ^ i / 2=m / 2 ^ (i+1):=by rw [Nat.div_div_eq_div_mul,Nat.pow_succ]
   have q5:m / 2 ^ (i+1)≤m:=Nat.div_le_self _ _
   have q3:Int.tdiv ((m / 2 ^ i:Nat):Int) 2=((m / 2 ^ (i+1):Nat):Int):=by rw [← q2,Yjf]
   have q4:IntKind.u8.wrap ((m / 2 ^ (i+1):Nat):Int)=((m / 2 ^ (i+1):Nat):Int):=u8n _ (Nat.lt_of_le_of_lt q5 hm)
   simp only
   rw [e,cond_true,q3,q4,Z3p (x:=(i:Int)+1) (by omega)]
   rfl
  rw [Y9 hs]
  exact Z0h m n hm hn j (i+1) (by omega)
theorem Yd0 (m n:Nat) (hm:m < 256) (hn:n≤8):Zar (m:Int) (n:Int)=some (Zrn m n):=by
 unfold Zar
 have h:=Z0h m n hm hn n 0 (by omega)
 rw [Nat.pow_zero,Nat.div_one,show ((0:Nat):Int)=0 from rfl] at h
 rw [h,Option.bind_some,Int.tmod_eq_emod_of_nonneg (Int.natCast_nonneg _),Ycy]
 rfl
theorem Z64 (a b m:Nat) (hm:m < 256):∀ j i:Nat,i+j=8→Zv (Gt (m:Int) (ofF (Zbt b))) ((i:Int),ofF (fun q=>if q < i then Zln a b m q else Zbt a q))=some (ofF (Zln a b m))
 | 0,i,h=>by
  obtain rfl:i=8:=by omega
  refine (Z7 (r:=ofF (fun q=>if q < 8 then Zln a b m q else Zbt a q)) rfl).trans ?_
  rw [Z2p (g:=Zln a b m) fun k hk=>if_pos hk]
 | j+1,i,h=>by
  have hs:Gt (m:Int) (ofF (Zbt b)) ((i:Int),ofF (fun q=>if q < i then Zln a b m q else Zbt a q))=some (.inl (((i+1:Nat):Int),ofF (fun q=>if q < i+1 then Zln a b m q else Zbt a q))):=by
   unfold Gt
   have e:decide ((i:Int) < 8)=true:=by rw [decide_eq_true_eq];omega
   simp only
   rw [e,cond_true,Yd0 m i hm (by omega),Option.bind_some,Z3p (x:=(i:Int)+1) (by omega)]
   have hne:∀ v,v=Zln a b m i→(fun q=>if q=i then v else if q < i then Zln a b m q else Zbt a q)=fun q=>if q < i+1 then Zln a b m q else Zbt a q:=fun v hv=>by
    funext q
    by_cases h1:q=i
    ·rw [if_pos h1,if_pos (by omega),h1,hv]
    rw [if_neg h1]
    by_cases h2:q < i
    ·rw [if_pos h2,if_pos (by omega)]
    rw [if_neg h2,if_neg (by omega)]
   cases hb:Zrn m i with
   | true =>
    rw [cond_true,Zxn _ _ (by omega),Option.bind_some,Zxn _ _ (by omega),Option.bind_some,Option.bind_some,Z9z _ _ _ (by omega),hne _ (by unfold Zln;rw [hb,if_pos rfl])]
    rfl
   | false =>
    have e6:(fun q=>if q < i then Zln a b m q else Zbt a q)=fun q=>if q < i+1 then Zln a b m q else Zbt a q:=by
     funext q
     by_cases h1:q=i
     ·rw [if_neg (by omega),if_pos (by omega),h1]
      unfold Zln
      rw [hb]
      rfl
     by_cases h2:q < i
     ·rw [if_pos h2,if_pos (by omega)]
     rw [if_neg h2,if_neg (by omega)]
    rw [cond_false,Option.bind_some,e6]
    rfl
  rw [Y9 hs]
  exact Z64 a b m hm j (i+1) (by omega)
def hiN (f:Nat→Nat):Nat→Nat→Nat
 | _,0=>0
 | i,n+1=>hiN f (i+1) n * 256+f i
theorem Ydl (f:Nat→Nat) (hf:∀ k,f k < 256):∀ n i,hiN f i n < 256 ^ n
 | 0,_=>by simp [hiN]
 | n+1,i=>by
  have h1:=Ydl f hf n (i+1)
  have h2:=hf i
  have h3:256 ^ (n+1)=256 * 256 ^ n:=by rw [Nat.pow_succ,Nat.mul_comm]
  simp only [hiN]
  omega
theorem Yfv (f:Nat→Nat):hiN f 0 8=Zoh f 8:=by simp only [hiN,Zoh,Nat.reduceMul,Nat.reducePow,Nat.reduceAdd];omega
theorem Z90 (f:Nat→Nat) (hf:∀ k,f k < 256):∀ i n:Nat,i+n=8→Zv (Zas (ofF f).1 0) (((hiN f i n:Nat):Int),(i:Int) - 1)=some ((hiN f 0 8:Nat):Int)
 | 0,n,h=>by
  obtain rfl:n=8:=by omega
  exact Z7 rfl
 | i+1,n,h=>by
  have hs:Zas (ofF f).1 0 (((hiN f (i+1) n:Nat):Int),((i+1:Nat):Int) - 1)=some (.inl (((hiN f i (n+1):Nat):Int),(i:Int) - 1)):=by
   unfold Zas
   have e0:((i+1:Nat):Int) - 1=(i:Int):=by omega
   have e:decide (0≤(i:Int))=true:=by rw [decide_eq_true_eq];omega
   have h1:=Ydl f hf n (i+1)
   have h2:=hf i
   have h3:256 ^ n≤256 ^ 7:=Nat.pow_le_pow_right (by decide) (by omega)
   have h4:(256:Nat) ^ 7=72057594037927936:=by decide
   simp only
   rw [e0,e,cond_true,Int.zero_add,Z3p (x:=(i:Int)) (by omega),Zxn _ _ (by omega),Option.bind_some,Yez (x:=((hiN f (i+1) n:Nat):Int) * 256) (by omega),Yez (x:=((f i:Nat):Int)) (by omega),Yez (by omega),Z3p (by omega)]
   have e7:((hiN f (i+1) n:Nat):Int) * 256+((f i:Nat):Int)=((hiN f i (n+1):Nat):Int):=by simp only [hiN];omega
   rw [e7]
  rw [Y9 hs]
  exact Z90 f hf i (n+1) (by omega)
theorem Yh5 (a b m:Nat) (ha:a < 18446744073709551616) (hb:b < 18446744073709551616) (hm:m < 256):Zdb (a:Int) (b:Int) (m:Int)=some ((Zq4 a b m:Nat):Int):=by
 unfold Zdb
 have h:=Z64 a b m hm 8 0 rfl
 have e:ofF (fun q=>if q < 0 then Zln a b m q else Zbt a q)=ofF (Zbt a):=rfl
 rw [e,show ((0:Nat):Int)=0 from rfl] at h
 have h2:=Z90 (Zln a b m) (Zxj a b m) 8 0 rfl
 rw [Yfv,show ((8:Nat):Int) - 1=7 from rfl,show ((hiN (Zln a b m) 8 0:Nat):Int)=0 from rfl] at h2
 rw [Z6f a ha,Option.bind_some,Z6f b hb,Option.bind_some,Option.bind_some,h,Option.bind_some]
 unfold Zgs
 rw [h2]
 rfl
def wi (x m:Int):Bool:=Zq4 x.toNat 0 m.toNat == 0
theorem Z21 {x m:Int} (h0:0≤x) (h1:x < 18446744073709551616) (m0:0≤m) (m1:m < 256):Vi x m=some (wi x m):=by
 obtain ⟨a,rfl⟩:=Int.eq_ofNat_of_zero_le h0
 obtain ⟨k,rfl⟩:=Int.eq_ofNat_of_zero_le m0
 unfold Vi wi
 rw [show (0:Int)=((0:Nat):Int) from rfl,Yh5 a 0 k (by omega) (by decide) (by omega),Option.bind_some]
 congr 1
 rw [Bool.eq_iff_iff,beq_iff_eq,beq_iff_eq]
 simp only [Int.toNat_natCast]
 omega
theorem Z0v {x m:Int} (h0:0≤x) (h1:x < 18446744073709551616) (m0:0≤m) (m1:m < 256):(IntKind.u64.wrap (Zha .u64 x (IntKind.u64.wrap (Ziz .u64 (if IntKind.signed .u64=true then -1 else IntKind.max .u64) ((K5 m.toNat 8:Nat):Int)))) != 0) = !(wi x m):=by
 obtain ⟨a,rfl⟩:=Int.eq_ofNat_of_zero_le h0
 obtain ⟨k,rfl⟩:=Int.eq_ofNat_of_zero_le m0
 have hw:=Ziq k
 have e0:(if IntKind.signed .u64=true then -1 else IntKind.max .u64)=((18446744073709551615:Nat):Int):=by decide
 have e1:18446744073709551615 ^^^ K5 k 8=18446744073709551615 - K5 k 8:=by
  refine Nat.eq_of_testBit_eq fun i => ?_
  rw [Nat.testBit_xor,show (18446744073709551615 - K5 k 8)=2 ^ 64 - (K5 k 8+1) by omega,Nat.testBit_two_pow_sub_succ hw,show (18446744073709551615:Nat)=2 ^ 64 - 1 from rfl,Nat.testBit_two_pow_sub_one]
  by_cases hi:i < 64
  ·simp [hi]
  rw [Nat.testBit_lt_two_pow (Nat.lt_of_lt_of_le hw (Nat.pow_le_pow_right (by decide) (by omega)))]
  simp [hi]
 have e2:=Z63 a 0 k (by omega) (by decide)
 rw [Nat.zero_and,Nat.or_zero] at e2
 have e3:a &&& (18446744073709551615 - K5 k 8)≤a:=Nat.and_le_left
 unfold wi
 simp only [Int.toNat_natCast]
 rw [e0,Yh2 _ _ (by decide) (by omega),e1,Z13 (18446744073709551615 - K5 k 8) (by omega),Yhy _ _ (by omega) (by omega),Z13 _ (by omega),e2,bne]
 congr 1
 rw [Bool.eq_iff_iff,beq_iff_eq,beq_iff_eq]
 omega
abbrev Ed:=Zc
theorem Jz {e:Ed} {k:Zk} (h:k∈e.Kids):SizeOf.sizeOf k.E < SizeOf.sizeOf e:=by
 obtain ⟨a,b,c,d,ks,f,g⟩:=e
 obtain ⟨i,x⟩:=k
 have h1:=List.sizeOf_lt_of_mem h
 simp only [Zc.mk.sizeOf_spec,Zk.mk.sizeOf_spec] at h1 ⊢
 omega
theorem Uh {e:Ed} {o:Zh} (h:o∈e.Ops):SizeOf.sizeOf o.E < SizeOf.sizeOf e:=by
 obtain ⟨a,b,c,d,ks,f,os⟩:=e
 obtain ⟨i,n,l,x⟩:=o
 have h1:=List.sizeOf_lt_of_mem h
 simp only [Zc.mk.sizeOf_spec,Zh.mk.sizeOf_spec] at h1 ⊢
 omega
theorem Zlz (e:Ed):0 < SizeOf.sizeOf e:=by
 obtain ⟨a,b,c,d,ks,f,g⟩:=e
 simp only [Zc.mk.sizeOf_spec]
 omega
inductive BE:Ed→Prop
 | mk (e:Ed) (h1:Bd e.Old) (h2:Bd e.New) (h3:(e.Words.length:Int)≤140737488355328) (h4:∀ w∈e.Words,(0≤w.Mask∧w.Mask < 256)∧(0≤w.Old∧w.Old < 18446744073709551616)∧(0≤w.New∧w.New < 18446744073709551616))
   (h5:(e.Kids.length:Int)≤140737488355328) (h6:∀ k∈e.Kids,BE k.E) (h7:(e.Ops.length:Int)≤140737488355328) (h8:∀ o∈e.Ops,o.L.length * 56≤140737488355328∧∀ t∈o.L,Bd t) (h9:∀ o∈e.Ops,BE o.E):BE e
theorem BE.old {e:Ed} (h:BE e):Bd e.Old:=by cases h;assumption
theorem BE.new {e:Ed} (h:BE e):Bd e.New:=by cases h;assumption
theorem BE.w {e:Ed} (h:BE e):(e.Words.length:Int)≤140737488355328:=by cases h;assumption
theorem BE.ws {e:Ed} (h:BE e):∀ w∈e.Words,(0≤w.Mask∧w.Mask < 256)∧(0≤w.Old∧w.Old < 18446744073709551616)∧(0≤w.New∧w.New < 18446744073709551616):=by cases h;assumption
theorem BE.k {e:Ed} (h:BE e):(e.Kids.length:Int)≤140737488355328:=by cases h;assumption
theorem BE.ks {e:Ed} (h:BE e):∀ k∈e.Kids,BE k.E:=by cases h;assumption
theorem BE.o {e:Ed} (h:BE e):(e.Ops.length:Int)≤140737488355328:=by cases h;assumption
theorem BE.l {e:Ed} (h:BE e):∀ o∈e.Ops,o.L.length * 56≤140737488355328∧∀ t∈o.L,Bd t:=by cases h;assumption
theorem BE.os {e:Ed} (h:BE e):∀ o∈e.Ops,BE o.E:=by cases h;assumption
theorem Zd5 {α:Type} (a b:Int) (x y:α):cond (a == b) x y=if a=b then x else y:=by
 by_cases h:a=b
 ·rw [beq_iff_eq.2 h,if_pos h];rfl
 rw [beq_eq_false_iff_ne.2 h,if_neg h];rfl
theorem Zsr {α:Type} (a b:Int) (x y:α):cond (a != b) x y=if a=b then y else x:=by
 by_cases h:a=b
 ·have:(a != b)=false:=by simp [h]
  rw [this,if_pos h];rfl
 have:(a != b)=true:=by simp [h]
 rw [this,if_neg h];rfl
def chk {α:Type} (pl:α→Int) (ok:Int→α→Bool):Int→List α→Bool
 | _,[]=>true
 | p,x::xs=>ok p x && chk pl ok (pl x) xs
theorem Zs5 {α R:Type} (xs:List α) (pl:α→Int) (ok:Int→α→Bool) (step:Int×Int→Option ((Int×Int) ⊕ R)) (e o:R) (hl:(xs.length:Int)≤140737488355328)
  (h1:∀ (p:Int) (i:Nat) (x:α),i < xs.length→xs[i]? = some x→x∈xs→step (p,(i:Int))=some (if ok p x=true then .inl (pl x,IntKind.i64.wrap ((i:Int)+1)) else .inr e)) (h2:∀ p,step (p,(xs.length:Int))=some (.inr o)) (p:Int):Zv step (p,0)=some (if chk pl ok p xs=true then o else e):=by
 have key:∀ (ys:List α) (i:Nat) (p:Int),xs.drop i=ys→i≤xs.length→Zv step (p,(i:Int))=some (if chk pl ok p ys=true then o else e):=fun ys=>by
  induction ys with
  | nil =>
   intro i p h hi
   have:i=xs.length:=by
    have:=congrArg List.length h
    rw [List.length_drop,List.length_nil] at this
    omega
   subst this
   exact Z7 (h2 p)
  | cons x ys ih =>
   intro i p h hi
   have hx:xs[i]? = some x:=by
    have:=congrArg (fun l=>l[0]?) h
    simpa using this
   have hi':i < xs.length:=by
    rcases Nat.lt_or_ge i xs.length with h' | h'
    ·exact h'
    rw [List.getElem?_eq_none h'] at hx;cases hx
   have hs:=h1 p i x hi' hx (List.mem_of_getElem? hx)
   have hd:xs.drop (i+1)=ys:=by
    have:=congrArg List.tail h
    rwa [List.tail_drop,List.tail_cons] at this
   cases hk:ok p x with
   | false =>
    rw [hk] at hs
    rw [Z7 (by simpa using hs)]
    simp [chk,hk]
   | true =>
    rw [hk,if_pos rfl,Jm (by omega) (by omega)] at hs
    have e1:(i:Int)+1=((i+1:Nat):Int):=by omega
    rw [e1] at hs
    rw [Y9 hs,ih (i+1) (pl x) hd (by omega)]
    simp [chk,hk]
 exact key xs 0 p rfl (Nat.zero_le _)
def Zcv (t:Tr):Bool:=t.Kind == 0 && (t.Words.length == 0 && t.Kids.length == 0)
theorem Zxl {t:Tr} (h:Bd t):J0 t=some (Zcv t):=by
 have:=h.w
 have:=h.k
 unfold J0 Zcv
 rw [Jm (by omega) (by omega),Ze3]
 congr 2
 rw [Bool.eq_iff_iff,Bool.and_eq_true,beq_iff_eq,beq_iff_eq,beq_iff_eq]
 omega
theorem Zt0 {t:Tr} (h:Bd t):Zaa t=some (!Zcv t):=by
 have:=h.w
 have:=h.k
 unfold Zaa Zcv
 rw [Jm (by omega) (by omega)]
 congr 1
 cases h0:t.Kind == 0 with
 | false=>simp only [bne,h0];rfl
 | true =>
  simp only [bne,h0,Bool.not_true,cond_false,Bool.true_and]
  rw [Bool.eq_iff_iff,Bool.not_eq_true',decide_eq_true_eq,Bool.and_eq_false_iff,beq_eq_false_iff_ne,beq_eq_false_iff_ne]
  omega
def Zhy (e:Ed):Bool:=e.Words.length == 0 && e.Kids.length == 0
def Zhg (e:Ed):Bool:=e.List_ == 0 && e.Ops.length == 0
theorem Ye6 {e:Ed} (h:BE e):decide (0 < IntKind.i64.wrap ((e.Words.length:Int)+(e.Kids.length:Int))) = !Zhy e:=by
 have:=h.w
 have:=h.k
 unfold Zhy
 rw [Jm (by omega) (by omega),Bool.eq_iff_iff,Bool.not_eq_true',decide_eq_true_eq,Bool.and_eq_false_iff,beq_eq_false_iff_ne,beq_eq_false_iff_ne]
 omega
theorem Ydt (e:Ed):cond (e.List_ != 0) true (decide (0 < (e.Ops.length:Int))) = !Zhg e:=by
 unfold Zhg
 cases h0:e.List_ == 0 with
 | false=>simp only [bne,h0];rfl
 | true =>
  simp only [bne,h0,Bool.not_true,cond_false,Bool.true_and]
  rw [Bool.eq_iff_iff,Bool.not_eq_true',decide_eq_true_eq,beq_eq_false_iff_ne]
  omega
def Zj6 (e:Ed):Bool:=Zcv e.Old && Zcv e.New
def Zdp (e:Ed):Bool:=e.Kind == 0 && (Zj6 e && (Zhy e && Zhg e))
theorem Zql {e:Ed} (h:BE e) (a b c:Bool):Uw a b c e=some ((!a || Zj6 e) && ((!b || Zhy e) && (!c || Zhg e))):=by
 unfold Uw
 rw [Zt0 h.old,Zt0 h.new,Ye6 h,Ydt]
 unfold Zj6
 simp only [Option.bind_some]
 generalize Zcv e.Old=p
 generalize Zcv e.New=q
 generalize Zhy e=r
 generalize Zhg e=s
 revert a b c p q r s
 decide
theorem Yer {e:Ed} (h:BE e):U9 e=some (Zdp e):=by
 have:=h.w
 have:=h.k
 have:=h.o
 unfold U9 Zdp
 rw [Zxl h.old,Zxl h.new]
 simp only [Option.bind_some]
 have e1:(IntKind.i64.wrap (IntKind.i64.wrap ((e.Words.length:Int)+(e.Kids.length:Int))+(e.Ops.length:Int)) == 0)=(Zhy e && e.Ops.length == 0):=by
  unfold Zhy
  rw [Jm (x:=(e.Words.length:Int)+(e.Kids.length:Int)) (by omega) (by omega),Jm (by omega) (by omega),Bool.eq_iff_iff,Bool.and_eq_true,Bool.and_eq_true,beq_iff_eq,beq_iff_eq,beq_iff_eq,beq_iff_eq]
  omega
 rw [e1]
 unfold Zj6 Zhg
 generalize Zcv e.Old=p
 generalize Zcv e.New=q
 generalize Zhy e=r
 generalize (e.List_ == 0)=s
 generalize (e.Ops.length == 0)=u
 generalize (e.Kind == 0)=v
 revert p q r s u v
 decide
def okW (p:Int) (w:Zt):Bool := !(((((decide (w.At≤p) || decide (65534 < w.At)) || w.Mask == 0) || !(wi w.Old w.Mask)) || !(wi w.New w.Mask)))
theorem Z12 {l:List Zt} (hl:(l.length:Int)≤140737488355328) (h:∀ w∈l,(0≤w.Mask∧w.Mask < 256)∧(0≤w.Old∧w.Old < 18446744073709551616)∧(0≤w.New∧w.New < 18446744073709551616)):Zb3 l=some (chk (·.At) okW (-1) l):=by
 unfold Zb3
 rw [Zs5 l (·.At) okW (Uv l) (.inl ()) (.inr ()) hl (fun p i x hi hx hm=>by
  obtain ⟨h1,h2,h3⟩:=h x hm
  have ew:Zb6 x.Mask=some ((K5 x.Mask.toNat 8:Nat):Int):=by
   have:=Z5z x.Mask.toNat (by omega)
   rwa [Int.toNat_of_nonneg h1.1] at this
  unfold Uv
  simp only
  rw [Us hi,cond_true,Z6 hx,Option.bind_some,ew,Option.bind_some,Z0v h2.1 h2.2 h1.1 h1.2,Z0v h3.1 h3.2 h1.1 h1.2]
  unfold okW
  generalize decide (x.At≤p)=q1
  generalize decide (65534 < x.At)=q2
  generalize (x.Mask == 0)=q3
  generalize wi x.Old x.Mask=q4
  generalize wi x.New x.Mask=q5
  cases q1 <;> cases q2 <;> cases q3 <;> cases q4 <;> cases q5 <;> rfl) (fun p=>by unfold Uv;simp only;rw [Zbh];rfl) (-1),Option.bind_some]
 cases chk (·.At) okW (-1) l <;> rfl
theorem Ycb {e:Ed} (h:BE e):Zv (J8 e) (-1,0)=some (if chk (·.At) okW (-1) e.Words=true then Sum.inr () else Sum.inl ()) :=
 Zs5 e.Words (·.At) okW (J8 e) (.inl ()) (.inr ()) h.w (fun p i x hi hx hm=>by
  obtain ⟨h1,h2,h3⟩:=h.ws x hm
  unfold J8
  simp only
  rw [Us hi,cond_true,Z6 hx,Option.bind_some,Z21 h2.1 h2.2 h1.1 h1.2,Z21 h3.1 h3.2 h1.1 h1.2]
  simp only [Option.bind_some]
  unfold okW
  generalize decide (x.At≤p)=q1
  generalize decide (65534 < x.At)=q2
  generalize (x.Mask == 0)=q3
  generalize wi x.Old x.Mask=q4
  generalize wi x.New x.Mask=q5
  cases q1 <;> cases q2 <;> cases q3 <;> cases q4 <;> cases q5 <;> rfl) (fun p=>by unfold J8;simp only;rw [Zbh];rfl) (-1)
theorem Z2j {α S R σ:Type} (xs:List α) (mk:S→Int→σ) (f:S→α→S) (out:S→R) (I:S→Prop) (step:σ→Option (σ ⊕ R)) (hl:(xs.length:Int)≤140737488355328)
  (h1:∀ (s:S) (i:Nat) (x:α),I s→i < xs.length→xs[i]? = some x→x∈xs→I (f s x)∧step (mk s (i:Int))=some (.inl (mk (f s x) (IntKind.i64.wrap ((i:Int)+1))))) (h2:∀ s,I s→step (mk s (xs.length:Int))=some (.inr (out s))) (s:S) (hs:I s):Zv step (mk s 0)=some (out (xs.foldl f s))∧I (xs.foldl f s):=by
 have key:∀ (ys:List α) (i:Nat) (s:S),I s→xs.drop i=ys→i≤xs.length→Zv step (mk s (i:Int))=some (out (ys.foldl f s))∧I (ys.foldl f s):=fun ys=>by
  induction ys with
  | nil =>
   intro i s hI h hi
   have:i=xs.length:=by
    have:=congrArg List.length h
    rw [List.length_drop,List.length_nil] at this
    omega
   subst this
   exact ⟨Z7 (h2 s hI),hI⟩
  | cons x ys ih =>
   intro i s hI h hi
   have hx:xs[i]? = some x:=by
    have:=congrArg (fun l=>l[0]?) h
    simpa using this
   have hi':i < xs.length:=by
    rcases Nat.lt_or_ge i xs.length with h' | h'
    ·exact h'
    rw [List.getElem?_eq_none h'] at hx;cases hx
   obtain ⟨hI',hs⟩:=h1 s i x hI hi' hx (List.mem_of_getElem? hx)
   have hd:xs.drop (i+1)=ys:=by
    have:=congrArg List.tail h
    rwa [List.tail_drop,List.tail_cons] at this
   have e1:(i:Int)+1=((i+1:Nat):Int):=by omega
   rw [Jm (by omega) (by omega),e1] at hs
   rw [Y9 hs]
   exact ih (i+1) (f s x) hI' hd (by omega)
 exact key xs 0 s hs rfl (Nat.zero_le _)
def thr (o:Zh):Int:=if o.Kind=0 then (if 1048576 < (if o.N < 0 then 0 else o.N) then 1048576 else (if o.N < 0 then 0 else o.N)) else if o.Kind=1∨o.Kind=2 then (o.L.length:Int) else if o.Kind=3 then 1 else 0
theorem Yih (o:Zh):Zdd o=some (thr o):=by
 unfold Zdd thr
 by_cases h0:o.Kind=0
 ·simp [h0]
 by_cases h1:o.Kind=1
 ·simp [h1]
 by_cases h2:o.Kind=2
 ·simp [h2]
 by_cases h3:o.Kind=3
 ·simp [h3]
 have e0:(o.Kind == 0)=false:=by simp [h0]
 have e1:(o.Kind == 1)=false:=by simp [h1]
 have e2:(o.Kind == 2)=false:=by simp [h2]
 have e3:(o.Kind == 3)=false:=by simp [h3]
 have h12:¬ (o.Kind=1∨o.Kind=2):=by omega
 rw [e0,e1,e2,e3,if_neg h0,if_neg h12,if_neg h3]
 rfl
theorem Z1f {o:Zh} (h:o.L.length * 56≤140737488355328):0≤thr o∧thr o≤140737488355328:=by
 unfold thr
 repeat' split
 all_goals omega
def Zro (x:Int):Int:=if 1048576 < x then 1048576 else x
def stI (s:Int×Int) (o:Zh):Int×Int:=(if o.Kind=2 then s.1 else Zro (s.1+thr o),if o.Kind=1 then s.2 else Zro (s.2+thr o))
def Sm (s:Int×Int):Prop:=(0≤s.1∧s.1≤1048576)∧(0≤s.2∧s.2≤1048576)
theorem Z1b {s:Int×Int} {o:Zh} (hs:Sm s) (h:o.L.length * 56≤140737488355328):Sm (stI s o):=by
 have:=Z1f h
 unfold Sm at hs ⊢
 unfold stI Zro
 refine ⟨?_,?_⟩
 ·simp only
  split
  ·omega
  split <;> omega
 simp only
 split
 ·omega
 split <;> omega
theorem Yf0 {e:Ed} (h:BE e):Zfc e=some (e.Ops.foldl stI (0,0))∧Sm (e.Ops.foldl stI (0,0)):=by
 obtain ⟨h1,h2⟩:=Z2j e.Ops (fun (s:Int×Int) i=>(s.1,s.2,i)) stI (fun s=>(s.1,s.2)) Sm (Zb2 e) h.o (fun s i x hs hi hx hm=>by
  have hb:=(h.l x hm).1
  have ht:=Z1f hb
  refine ⟨Z1b hs hb,?_⟩
  unfold Sm at hs
  unfold Zb2
  simp only
  rw [Us hi,cond_true,Z6 hx,Option.bind_some,Yih]
  simp only [Option.bind_some]
  rw [Jm (x:=s.1+thr x) (by omega) (by omega),Jm (x:=s.2+thr x) (by omega) (by omega)]
  unfold stI Zro
  rw [Zsr]
  by_cases k2:x.Kind=2
  ·simp [k2]
  by_cases k1:x.Kind=1
  ·simp [k1]
  simp [k1,k2,Zsr]) (fun s _=>by unfold Zb2;simp only;rw [Zbh];rfl) (0,0) (by unfold Sm;simp)
 refine ⟨?_,h2⟩
 unfold Zfc
 rw [h1]
 rfl
def Z1s (o:Zh):Int:=if o.Kind=3 then 1 else IntKind.i64.wrap (o.N+(o.L.length:Int))
def stR (s:Int×Int) (o:Zh):Int×Int:=(Zro (if o.Kind=2 then s.1 else IntKind.i64.wrap (s.1+Z1s o)),Zro (if o.Kind=1 then s.2 else IntKind.i64.wrap (s.2+Z1s o)))
theorem Z9p {e:Ed} (h:BE e):Ku e=some (e.Ops.foldl stR (0,0)):=by
 obtain ⟨h1,_⟩:=Z2j e.Ops (fun (s:Int×Int) i=>(s.1,s.2,i)) stR (fun s=>(s.1,s.2)) (fun _=>True) (Kv e) h.o (fun s i x hs hi hx hm=>by
  refine ⟨trivial,?_⟩
  have hc:∀ a b:Int,((cond (decide (1048576 < a)) (some 1048576) (some a)).bind fun (z10:Int)=>cond (decide (1048576 < b)) (some (z10,1048576)) (some (z10,b)))=some (Zro a,Zro b):=fun a b=>by
   unfold Zro
   by_cases q1:1048576 < a <;> by_cases q2:1048576 < b <;> simp [q1,q2]
  unfold Kv
  simp only
  rw [Us hi,cond_true,Z6 hx,Option.bind_some]
  have e1:cond (x.Kind == 3) (some 1) (some (IntKind.i64.wrap (x.N+(x.L.length:Int))))=some (Z1s x):=by
   unfold Z1s
   rw [Zd5]
   split <;> rfl
  rw [e1,Option.bind_some]
  have e2:cond (x.Kind != 2) (some (IntKind.i64.wrap (s.1+Z1s x))) (some s.1)=some (if x.Kind=2 then s.1 else IntKind.i64.wrap (s.1+Z1s x)):=by
   rw [Zsr];split <;> rfl
  have e3:cond (x.Kind != 1) (some (IntKind.i64.wrap (s.2+Z1s x))) (some s.2)=some (if x.Kind=1 then s.2 else IntKind.i64.wrap (s.2+Z1s x)):=by
   rw [Zsr];split <;> rfl
  rw [e2,Option.bind_some,e3,Option.bind_some,hc]
  rfl) (fun s _=>by unfold Kv;simp only;rw [Zbh];rfl) (0,0) trivial
 unfold Ku
 rw [h1]
 rfl
def Zoi (l:Int) (e:Ed):Bool:=if l=8 then e.Kind != 0 else if l=9 then e.Kind == 2 || (e.Kind == 1 && (e.Old.Kind == 1 && e.New.Kind == 1)) else false
theorem Yfl (l:Int) (e:Ed):Zd8 l e=some (Zoi l e):=by
 unfold Zd8 Zoi
 by_cases h8:l=8
 ·simp [h8]
 by_cases h9:l=9
 ·subst h9
  generalize (e.Kind == 2)=a
  generalize (e.Kind == 1)=b
  generalize (e.Old.Kind == 1)=c
  generalize (e.New.Kind == 1)=d
  have k8:((9:Int) == 8)=false:=rfl
  have k9:((9:Int) == 9)=true:=rfl
  rw [k8,k9,if_neg (by decide),if_pos rfl]
  cases a <;> cases b <;> cases c <;> cases d <;> rfl
 have k8:(l == 8)=false:=by simp [h8]
 have k9:(l == 9)=false:=by simp [h9]
 rw [k8,k9,if_neg h8,if_neg h9]
 rfl
def okO (l:Int) (o:Zh) (r:Bool):Bool :=
 if o.Kind=0 then (decide (1≤o.N) && decide (o.N≤1048576)) && (o.L.length == 0 && Zdp o.E)
 else if o.Kind=1∨o.Kind=2 then o.N == 0 && (decide (0 < o.L.length) && ((o.L.all fun t=>rt t 63 && okk l t) && Zdp o.E))
 else if o.Kind=3 then o.N == 0 && (o.L.length == 0 && (o.E.Kind != 0 && (Zoi l o.E && r)))
 else false
def Zj5 (s:Int×Int):Bool:=decide (s.1 < 1048576) && decide (s.2 < 1048576)
theorem Yd3 {l:Int} {o:Zh} {r:Bool} (h:okO l o r=true):o.N+(o.L.length:Int)=(if o.Kind=3 then 0 else thr o)∧0≤thr o:=by
 unfold okO at h
 unfold thr
 by_cases h0:o.Kind=0
 ·rw [if_pos h0] at h
  simp only [Bool.and_eq_true,decide_eq_true_eq,beq_iff_eq] at h
  simp only [h0,if_pos]
  refine ⟨?_,?_⟩
  ·rw [if_neg (by decide)]
   repeat' split
   all_goals omega
  repeat' split
  all_goals omega
 rw [if_neg h0] at h
 by_cases h12:o.Kind=1∨o.Kind=2
 ·rw [if_pos h12] at h
  simp only [Bool.and_eq_true,beq_iff_eq] at h
  rw [if_neg h0,if_pos h12,if_neg (by omega)]
  omega
 rw [if_neg h12] at h
 by_cases h3:o.Kind=3
 ·rw [if_pos h3] at h
  simp only [Bool.and_eq_true,beq_iff_eq] at h
  rw [if_neg h0,if_neg h12,if_pos h3,if_pos h3]
  omega
 rw [if_neg h3] at h
 cases h
theorem Yge {l:Int} {o:Zh} {r:Bool} {s:Int×Int} (h:okO l o r=true) (hs:Sm s) (hl:o.L.length * 56≤140737488355328):stR s o=stI s o:=by
 have ht:=Z1f hl
 have hk:=Yd3 h
 have hi:Z1s o=thr o:=by
  unfold Z1s
  by_cases h3:o.Kind=3
  ·rw [if_pos h3]
   unfold thr
   rw [if_neg (by omega),if_neg (by omega),if_pos h3]
  rw [if_neg h3] at hk ⊢
  rw [Jm (by omega) (by omega)]
  exact hk.1
 unfold Sm at hs
 unfold stR stI
 rw [hi,Jm (by omega) (by omega),Jm (by omega) (by omega)]
 have hc:∀ x:Int,x≤1048576→Zro x=x:=fun x hx=>by unfold Zro;rw [if_neg (by omega)]
 refine Prod.ext ?_ ?_
 ·simp only
  split
  ·exact hc _ hs.1.2
  rfl
 simp only
 split
 ·exact hc _ hs.2.2
 rfl
theorem Zvf {l:Int} (r:Zh→Bool):∀ (os:List Zh) (s:Int×Int),Sm s→(∀ o∈os,okO l o (r o)=true)→(∀ o∈os,o.L.length * 56≤140737488355328)→os.foldl stR s=os.foldl stI s∧Sm (os.foldl stI s)
 | [],s,hs,_,_=>⟨rfl,hs⟩
 | o::os,s,hs,h,hl=>by
  have h1:=Yge (h o (.head _)) hs (hl o (.head _))
  have:=Zvf r os (stI s o) (Z1b hs (hl o (.head _))) (fun x hx=>h x (.tail _ hx)) (fun x hx=>hl x (.tail _ hx))
  rw [List.foldl_cons,List.foldl_cons,h1]
  exact this
theorem Z3e:∀ (os:List Zh) (s:Int×Int),Sm s→(∀ o∈os,o.L.length * 56≤140737488355328)→(s.1=1048576→(os.foldl stI s).1=1048576)∧(s.2=1048576→(os.foldl stI s).2=1048576)
 | [],s,_,_=>⟨id,id⟩
 | o::os,s,hs,hl=>by
  have ht:=Z1f (hl o (.head _))
  have:=Z3e os (stI s o) (Z1b hs (hl o (.head _))) (fun x hx=>hl x (.tail _ hx))
  rw [List.foldl_cons]
  refine ⟨fun h=>this.1 ?_,fun h=>this.2 ?_⟩
  ·unfold stI Zro
   simp only
   repeat' split
   all_goals omega
  unfold stI Zro
  simp only
  repeat' split
  all_goals omega
theorem Z6l {l:Int} (r:Zh→Bool):∀ (os:List Zh) (s:Int×Int),Sm s→(∀ o∈os,okO l o (r o)=true)→(∀ o∈os,o.L.length * 56≤140737488355328)→Zj5 (os.foldl stI s)=true→∀ o∈os,o.L.length < 1048576
 | [],s,hs,_,_,_=>fun o h=>by simp at h
 | o::os,s,hs,h,hl,hb=>by
  have hsm:=Z1b hs (hl o (.head _))
  have hup:=Z3e os (stI s o) hsm (fun x hx=>hl x (.tail _ hx))
  rw [List.foldl_cons] at hb
  intro x hx
  rcases List.mem_cons.1 hx with rfl | hx
  ·have hb':=hb
   unfold Zj5 at hb'
   rw [Bool.and_eq_true,decide_eq_true_eq,decide_eq_true_eq] at hb'
   have n1:(stI s x).1≠1048576:=fun q=>by have:=hup.1 q;omega
   have n2:(stI s x).2≠1048576:=fun q=>by have:=hup.2 q;omega
   have hk:=Yd3 (h x (.head _))
   have ht:=Z1f (hl x (.head _))
   have ho:=h x (.head _)
   unfold Sm at hs
   unfold okO at ho
   unfold stI Zro at n1 n2
   simp only at n1 n2
   by_cases h0:x.Kind=0
   ·rw [if_pos h0] at ho
    simp only [Bool.and_eq_true,decide_eq_true_eq,beq_iff_eq] at ho
    omega
   rw [if_neg h0] at ho
   by_cases h1:x.Kind=1
   ·rw [if_pos (.inl h1)] at ho
    rw [if_neg (by omega)] at hk n1
    simp only [Bool.and_eq_true,beq_iff_eq] at ho
    split at n1 <;> omega
   by_cases h2:x.Kind=2
   ·rw [if_pos (.inr h2)] at ho
    rw [if_neg (by omega)] at hk n2
    simp only [Bool.and_eq_true,beq_iff_eq] at ho
    split at n2 <;> omega
   rw [if_neg (by omega)] at ho
   by_cases h3:x.Kind=3
   ·rw [if_pos h3] at ho
    simp only [Bool.and_eq_true,beq_iff_eq] at ho
    omega
   rw [if_neg h3] at ho
   cases ho
  exact Z6l r os (stI s o) hsm (fun x hx=>h x (.tail _ hx)) (fun x hx=>hl x (.tail _ hx)) hb x hx
theorem Yd6 {l:Int} (r:Zh→Bool) (os:List Zh) (hl:∀ o∈os,o.L.length * 56≤140737488355328) :
  ((os.all fun o=>okO l o (r o) && decide (o.L.length < 1048576)) && Zj5 (os.foldl stI (0,0)))=((os.all fun o=>okO l o (r o)) && Zj5 (os.foldl stR (0,0))):=by
 have h0:Sm (0,0):=by unfold Sm;simp
 cases ha:os.all fun o=>okO l o (r o) with
 | false =>
  rw [Zwu,ha,Bool.false_and,Bool.false_and,Bool.false_and]
 | true =>
  have hall:∀ o∈os,okO l o (r o)=true:=List.all_eq_true.1 ha
  have h1:=Zvf r os (0,0) h0 hall hl
  rw [Zwu,ha,h1.1,Bool.true_and,Bool.true_and]
  cases hb:Zj5 (os.foldl stI (0,0)) with
  | false=>rw [Bool.and_false]
  | true =>
   have:=Z6l r os (0,0) h0 hall hl hb
   rw [Bool.and_true]
   exact List.all_eq_true.2 fun o ho=>decide_eq_true (this o ho)
def okP (p:Int) (x:Int×Bool):Bool := !(decide (x.1≤p) || decide (65534 < x.1)) && x.2
theorem Z9b {α:Type} (g:α→Int×Bool):∀ (xs:List α) (p:Int),chk (·.1) okP p (xs.map g)=chk (fun x=>(g x).1) (fun p x=>okP p (g x)) p xs
 | [],_=>rfl
 | x::xs,p=>by rw [List.map_cons,chk,chk,Z9b g xs]
def rE (e:Ed) (d:Nat):Bool :=
 if d=0 then false
 else if e.Kind=0 then Zdp e
 else if e.Kind=1 then (Zhy e && Zhg e) && ((rt e.Old 64 && e.Old.Kind != 10) && (rt e.New 64 && e.New.Kind != 10))
 else if e.Kind=2 then (Zj6 e && Zhg e) && (chk (·.At) okW (-1) e.Words && chk (·.1) okP (-1) (e.Kids.attach.map fun k=>(k.1.At,k.1.E.Kind != 0 && rE k.1.E (d - 1))))
 else if e.Kind=3 then (Zj6 e && Zhy e) && ((decide (2≤e.List_) && decide (e.List_≤9)) && ((e.Ops.attach.map fun o=>okO e.List_ o.1 (rE o.1.E (d - 1))).all id && Zj5 (e.Ops.foldl stR (0,0))))
 else false
termination_by SizeOf.sizeOf e
decreasing_by
 ·exact Jz k.2
 exact Uh o.2
def okK (d:Nat) (p:Int) (k:Zk):Bool:=okP p (k.At,k.E.Kind != 0 && rE k.E d)
theorem Zoo (e:Ed) (d:Nat):rE e d=if d=0 then false
 else if e.Kind=0 then Zdp e
 else if e.Kind=1 then (Zhy e && Zhg e) && ((rt e.Old 64 && e.Old.Kind != 10) && (rt e.New 64 && e.New.Kind != 10))
 else if e.Kind=2 then (Zj6 e && Zhg e) && (chk (·.At) okW (-1) e.Words && chk (·.At) (okK (d - 1)) (-1) e.Kids)
 else if e.Kind=3 then (Zj6 e && Zhy e) && ((decide (2≤e.List_) && decide (e.List_≤9)) && ((e.Ops.all fun o=>okO e.List_ o (rE o.E (d - 1))) && Zj5 (e.Ops.foldl stR (0,0))))
 else false:=by
 rw [rE]
 have h1:(e.Kids.attach.map fun k=>(k.1.At,k.1.E.Kind != 0 && rE k.1.E (d - 1)))=e.Kids.map fun k=>(k.At,k.E.Kind != 0 && rE k.E (d - 1)):=List.attach_map_val (f:=fun k:Zk=>(k.At,k.E.Kind != 0 && rE k.E (d - 1)))
 have h2:(e.Ops.attach.map fun o=>okO e.List_ o.1 (rE o.1.E (d - 1)))=e.Ops.map fun o=>okO e.List_ o (rE o.E (d - 1)):=List.attach_map_val (f:=fun o:Zh=>okO e.List_ o (rE o.E (d - 1)))
 rw [h1,h2,Z9b,List.all_map]
 rfl
theorem Z96 {e:Ed} (h:e.Kind=0) {d:Nat} (hd:0 < d):rE e d=Zdp e:=by rw [Zoo,if_neg (by omega),if_pos h]
theorem Ycd {e:Ed} (h:¬ e.Kind=0):Zdp e=false:=by unfold Zdp;rw [beq_eq_false_iff_ne.2 h];rfl
theorem Z3x {n:Nat}:decide (0 < (n:Int)) = !(n == 0):=by rw [Bool.eq_iff_iff,Bool.not_eq_true',decide_eq_true_eq,beq_eq_false_iff_ne];omega
theorem Z6z {n:Nat}:decide (0 < n) = !(n == 0):=by rw [Bool.eq_iff_iff,Bool.not_eq_true',decide_eq_true_eq,beq_eq_false_iff_ne];omega
theorem Yhe {l:Int} {L:List Tr} (h2:2≤l) (h9:l≤9):rt ⟨l,[],L⟩ 64=(decide (L.length < 1048576) && L.all fun t=>rt t 63 && okk l t):=by
 rw [Zli]
 simp only
 rw [if_neg (by omega),if_neg (by omega)]
 by_cases h:L.length < 1048576
 ·rw [if_neg (by simp only [List.length_nil];omega),decide_eq_true h,Bool.true_and]
 rw [if_pos (by omega),decide_eq_false h,Bool.false_and]
def BO (o:Zh):Prop:=(o.L.length * 56≤140737488355328∧∀ t∈o.L,Bd t)∧BE o.E
theorem Yg8 {l:Int} {L:List Tr} (h:L.length * 56≤140737488355328∧∀ t∈L,Bd t):Bd ⟨l,[],L⟩ := .mk _ (by simp) (by simp only;omega) (fun w hw=>by simp at hw) h.2
end Go.Proofs.Ytfjkcekfifobpaa
