/- Plain facts on this seat's mirrors (part SP1); each theorem bears its own conditions. -/
import Derived.Test.YtkbcdcffpefklaaGreatSD
namespace Go.Proofs.YtkbcdcffpefklaaGreat
open Go.RowKit
set_option linter.unusedVariables false
set_option linter.unusedSimpArgs false
abbrev Tr:=Zc
theorem Kg {x:Int} (h1:-9223372036854775808≤x) (h2:x≤9223372036854775807):IntKind.i64.wrap x=x:=Z2b ⟨h1,h2⟩
theorem Zff {t x:Tr} (h:x∈t.Kids):SizeOf.sizeOf x < SizeOf.sizeOf t:=by
 obtain ⟨k,w,ks⟩:=t
 have:=List.sizeOf_lt_of_mem h
 simp only [Zc.mk.sizeOf_spec]
 simp only at this
 omega
theorem Zzj {α R:Type} (xs:List α) (step:Int→Option (Int ⊕ R)) (p:α→Bool) (e o:R) (hl:(xs.length:Int)≤140737488355328)
  (h1:∀ (i:Nat) (x:α),i < xs.length→xs[i]? = some x→x∈xs→step i=some (if p x=true then .inr e else .inl (IntKind.i64.wrap ((i:Int)+1)))) (h2:step xs.length=some (.inr o)):Zs step 0=some (if xs.any p=true then e else o):=by
 have hloop:=Yai xs (fun i (_:Unit)=>i) step (fun _ x=>some (if p x=true then .inr e else .inl ())) (fun _=>o) (fun i s x hi hx=>by
  rw [h1 i x hi hx (List.mem_of_getElem? hx),Kg (by omega) (by omega)]
  cases p x <;> rfl) (fun _=>h2) ()
 refine hloop.trans ?_
 rw [Zy2 p (fun s _=>s) e (fun _ _=>True) xs.length xs () 0 (by omega) trivial (fun s k x _ _ _=>⟨by cases p x <;> rfl,fun _=>trivial⟩)]
theorem Ua {i n:Nat} (h:i < n):decide ((i:Int) < (n:Int))=true:=by rw [decide_eq_true_eq];omega
theorem Uo {n:Nat}:decide ((n:Int) < (n:Int))=false:=by rw [decide_eq_false_iff_not];omega
def tr {α:Type} (p:α→Bool):List α→List α
 | []=>[]
 | x::xs=>match tr p xs with
  | []=>if p x=true then [] else [x]
  | y::ys=>x::y::ys
def trN {α:Type} (p:α→Bool) (l:List α):Nat→Nat
 | 0=>0
 | n+1=>match l[n]? with
  | some x=>if p x=true then trN p l n else n+1
  | none=>0
theorem Zvs {α:Type} {p:α→Bool} {x:α} (h:p x=true):∀ l:List α,tr p (l++[x])=tr p l
 | []=>by simp [tr,h]
 | y::l=>by simp only [List.cons_append,tr,Zvs h l]
theorem Zvr {α:Type} {p:α→Bool} {x:α} (h:p x=false):∀ l:List α,tr p (l++[x])=l++[x]
 | []=>by simp [tr,h]
 | y::l=>by
  simp only [List.cons_append,tr,Zvr h l]
  cases hl:l++[x] with
  | nil=>simp at hl
  | cons a b=>rfl
theorem Z0c {α:Type} {p:α→Bool} {l:List α}:∀ n,n≤l.length→l.take (trN p l n)=tr p (l.take n)∧trN p l n≤n
 | 0,_=>by simp [trN,tr]
 | n+1,h=>by
  have hn:l[n]? = some l[n]:=List.getElem?_eq_getElem (by omega)
  have e:l.take (n+1)=l.take n++[l[n]]:=by rw [List.take_add_one,hn];rfl
  obtain ⟨h1,h2⟩:=Z0c (p:=p) (l:=l) n (by omega)
  unfold trN
  rw [hn]
  simp only
  split
  ·rename_i hp
   rw [e,Zvs hp]
   exact ⟨h1,by omega⟩
  rename_i hp
  rw [e,Zvr (by simpa using hp),← e]
  exact ⟨rfl,Nat.le_refl _⟩
theorem Zow {α:Type} (p:α→Bool):∀ l:List α,(tr p l).length≤l.length
 | []=>by simp [tr]
 | x::l=>by
  have:=Zow p l
  simp only [tr]
  split
  ·split <;> simp
  rename_i y ys he
  rw [he] at this
  simp at this ⊢
  omega
theorem Zvf {α:Type} {p:α→Bool} {x:α}:∀ {l:List α},x∈tr p l→x∈l
 | [],h=>by simp [tr] at h
 | y::l,h=>by
  simp only [tr] at h
  split at h
  ·split at h
   ·simp at h
   simp at h;simp [h]
  rename_i z zs he
  rw [← he] at h
  rcases List.mem_cons.1 h with h | h
  ·simp [h]
  exact List.mem_cons_of_mem _ (Zvf h)
theorem Yc8 {α:Type} {p:α→Bool}:∀ l:List α,tr p (tr p l)=tr p l
 | []=>rfl
 | x::l=>by
  have ih:=Yc8 (p:=p) l
  simp only [tr]
  cases h:tr p l with
  | nil =>
   simp only
   cases hx:p x <;> simp [tr,hx]
  | cons y ys =>
   rw [h] at ih
   simp only [tr] at ih ⊢
   rw [ih]
theorem Z7i {α β:Type} {p:α→Bool} {q:β→Bool} {f:α→β} (h:∀ x,q (f x)=p x):∀ l:List α,tr q (l.map f)=(tr p l).map f
 | []=>rfl
 | x::l=>by
  simp only [List.map_cons,tr,Z7i h l]
  cases tr p l with
  | nil=>simp only [List.map_nil,h];split <;> rfl
  | cons y ys=>rfl
theorem Z2o {α:Type} (l:List α) (p:α→Bool) (step:Int→Option (Int ⊕ Int)) (hl:(l.length:Int)≤140737488355328)
  (h0:step 0=some (.inr 0)) (h1:∀ (n:Nat) (x:α),l[n]? = some x→n < l.length→step ((n+1:Nat):Int)=some (if p x=true then .inl (n:Int) else .inr ((n+1:Nat):Int))):Zs step (l.length:Int)=some (trN p l l.length:Int):=by
 have key:∀ n:Nat,n≤l.length→Zs step (n:Int)=some (trN p l n:Int):=fun n=>by
  induction n with
  | zero=>intro _;exact Y2 h0
  | succ n ih =>
   intro hn
   have hx:l[n]? = some l[n]:=List.getElem?_eq_getElem (by omega)
   have h:=h1 n _ hx (by omega)
   unfold trN
   rw [hx]
   simp only
   split
   ·rename_i hp
    rw [if_pos hp] at h
    rw [Y9 h]
    exact ih (by omega)
   rename_i hp
   rw [if_neg hp] at h
   exact Y2 h
 exact key l.length (Nat.le_refl _)
theorem Ztl {α:Type} {l:List α} {n:Nat} (h:n≤l.length):Zik l 0 (n:Int)=some (l.take n):=by
 rw [Yen (by omega) (by omega) (by omega)]
 simp
theorem Ygc {n:Nat}:decide (0 < ((n+1:Nat):Int))=true:=by rw [decide_eq_true_eq];omega
theorem Z4a {l:List Int} (hl:(l.length:Int)≤140737488355328):Zcp l=some (tr (fun x=>x == 0) l):=by
 have hloop:=Z2o l (fun x=>x == 0) (Uz l) hl (by unfold Uz;rfl) (fun n x hx hn=>by
  unfold Uz
  rw [Ygc,cond_true,Kg (by omega) (by omega)]
  have e:((n+1:Nat):Int) - 1=(n:Int):=by omega
  rw [e,Yf hx]
  simp only [Option.bind_some,cond_true]
  cases x == 0 <;> rfl)
 obtain ⟨h1,h2⟩:=Z0c (p:=fun x=>x == 0) (l:=l) l.length (Nat.le_refl _)
 unfold Zcp
 rw [hloop,Option.bind_some,Ztl h2,Option.bind_some,h1,List.take_length]
theorem Z59 {l:List Tr} (hl:(l.length:Int)≤140737488355328):Zdg l=some (tr (fun x=>x.Kind == 0) l):=by
 have hloop:=Z2o l (fun x=>x.Kind == 0) (Gz l) hl (by unfold Gz;rfl) (fun n x hx hn=>by
  unfold Gz
  rw [Ygc,cond_true,Kg (by omega) (by omega)]
  have e:((n+1:Nat):Int) - 1=(n:Int):=by omega
  rw [e,Yf hx]
  simp only [Option.bind_some,cond_true]
  cases x.Kind == 0 <;> rfl)
 obtain ⟨h1,h2⟩:=Z0c (p:=fun x=>x.Kind == 0) (l:=l) l.length (Nat.le_refl _)
 unfold Zdg
 rw [hloop,Option.bind_some,Ztl h2,Option.bind_some,h1,List.take_length]
theorem Ycr {l:List Int} (hl:l.length * 8≤140737488355328):Za0 l=some (tr (fun x=>x == 0) l):=by
 have hloop:=Z2o l (fun x=>x == 0) (V5 l) (by omega) (by unfold V5;rfl) (fun n x hx hn=>by
  unfold V5
  rw [Ygc,cond_true,Kg (by omega) (by omega)]
  have e:((n+1:Nat):Int) - 1=(n:Int):=by omega
  rw [e,Yf hx]
  simp only [Option.bind_some,cond_true]
  cases x == 0 <;> rfl)
 obtain ⟨h1,h2⟩:=Z0c (p:=fun x=>x == 0) (l:=l) l.length (Nat.le_refl _)
 have h3:=Zow (fun x=>x == 0) l
 unfold Za0
 rw [hloop,Option.bind_some,Ztl h2,Option.bind_some,h1,List.take_length,U4 (by rw [List.length_nil];omega) (by rw [List.length_nil];omega)]
 rfl
inductive Bd:Tr→Prop
 | mk (t:Tr) (h1:t.Words.length * 8≤140737488355328) (h2:t.Kids.length * 56≤140737488355328) (h3:∀ w∈t.Words,0≤w∧w < 18446744073709551616) (h4:∀ k∈t.Kids,Bd k):Bd t
theorem Bd.w {t:Tr} (h:Bd t):t.Words.length * 8≤140737488355328:=by cases h;assumption
theorem Bd.k {t:Tr} (h:Bd t):t.Kids.length * 56≤140737488355328:=by cases h;assumption
theorem Bd.u {t:Tr} (h:Bd t):∀ w∈t.Words,0≤w∧w < 18446744073709551616:=by cases h;assumption
theorem Bd.all {t:Tr} (h:Bd t):∀ k∈t.Kids,Bd k:=by cases h;assumption
def nrm (t:Tr):Tr :=
 if t.Kind=0 then ⟨0,[],[]⟩
 else if t.Kind=1 then ⟨1,tr (fun x=>x == 0) t.Words,tr (fun x=>x.Kind == 0) (t.Kids.attach.map fun k=>nrm k.1)⟩
 else ⟨t.Kind,t.Words,t.Kids.attach.map fun k=>nrm k.1⟩
termination_by SizeOf.sizeOf t
decreasing_by all_goals exact Zff k.2
theorem Zjm (t:Tr):nrm t=if t.Kind=0 then ⟨0,[],[]⟩ else if t.Kind=1 then ⟨1,tr (fun x=>x == 0) t.Words,tr (fun x=>x.Kind == 0) (t.Kids.map nrm)⟩ else ⟨t.Kind,t.Words,t.Kids.map nrm⟩:=by
 rw [nrm]
 simp only [List.attach_map_val]
theorem Zfq (t:Tr):(nrm t).Kind=t.Kind:=by
 rw [Zjm]
 split
 ·rename_i h;exact h.symm
 split
 ·rename_i h;exact h.symm
 rfl
theorem Yc2 {α β:Type} {xs:List α} {f:α→β} {z:β} {i m:Nat} {x:α} (hi:i+(m+1)=xs.length) (hx:xs[i]? = some x) :
  ((xs.take i).map f++List.replicate (m+1) z).set i (f x)=(xs.take (i+1)).map f++List.replicate m z:=by
 have hl:((xs.take i).map f).length=i:=by rw [List.length_map,List.length_take];omega
 rw [List.set_append,if_neg (by omega),hl,Nat.sub_self,List.replicate_succ,List.set_cons_zero,List.take_add_one,hx]
 simp
theorem Ybz {α β:Type} (xs:List α) (f:α→β) (z:β) (step:Int×List β→Option ((Int×List β) ⊕ List β)) (hl:(xs.length:Int)≤140737488355328)
  (h1:∀ (i:Nat) (x:α) (out:List β) (y:β),i < xs.length→xs[i]? = some x→x∈xs→out[i]? = some y→step ((i:Int),out)=some (.inl (IntKind.i64.wrap ((i:Int)+1),Zlw out (i:Int) (f x))))
  (h2:∀ out,step ((xs.length:Int),out)=some (.inr out)):Zs step (0,List.replicate xs.length z)=some (xs.map f):=by
 have key:∀ m i,i+m=xs.length→Zs step ((i:Int),(xs.take i).map f++List.replicate m z)=some (xs.map f):=fun m=>by
  induction m with
  | zero =>
   intro i hi
   have hi':i=xs.length:=by omega
   subst hi'
   rw [List.take_length,List.replicate_zero,List.append_nil]
   exact Y2 (h2 _)
  | succ m ih =>
   intro i hi
   have hx:xs[i]? = some xs[i]:=List.getElem?_eq_getElem (by omega)
   have hl':((xs.take i).map f).length=i:=by rw [List.length_map,List.length_take];omega
   have hy:((xs.take i).map f++List.replicate (m+1) z)[i]? = some z:=by
    rw [List.getElem?_append_right (by omega),hl',Nat.sub_self,List.replicate_succ];rfl
   have h:=h1 i _ _ z (by omega) hx (List.mem_of_getElem? hx) hy
   rw [Kg (by omega) (by omega)] at h
   rw [Y9 h]
   unfold Zlw
   rw [Int.toNat_natCast,Yc2 (by omega) hx]
   exact ih (i+1) (by omega)
 have:=key xs.length 0 (by omega)
 simpa using this
theorem Z8h:∀ (k:Nat) (t:Tr),Bd t→SizeOf.sizeOf t < k→U5 k t=some (nrm t)
 | 0,t,_,h=>by omega
 | k+1,t,hb,hk=>by
  have ih:∀ x∈t.Kids,U5 k x=some (nrm x):=fun x hx=>Z8h k x (hb.all x hx) (by have:=Zff hx;omega)
  have hw:=hb.w
  have hkd:=hb.k
  show Zh2 (U5 k) t=_
  unfold Zh2
  rw [Zjm]
  by_cases h0:t.Kind=0
  ·rw [if_pos h0,h0];rfl
  have e0:(t.Kind == 0)=false:=by rw [beq_eq_false_iff_ne];exact h0
  rw [if_neg h0,e0,cond_false]
  have main:∀ (w:List Int) (ks:List Tr),(ks.length:Int)≤140737488355328→(56:Int) * ks.length≤140737488355328→(∀ x∈ks,U5 k x=some (nrm x)) →
    ((cond (decide (0 < ((w,ks).2.length:Int))) ((Zoh 56 ((w,ks).2.length:Int) (⟨(0:Int),([]:(List Int)),([]:(List Zc))⟩:Zc)).bind fun l6=>some l6) (some ([]:List Zc))).bind fun (z5:(List Zc))=>(Zs (Zce (U5 k) (w,ks)) (0,z5)).bind fun (z14:(List Zc))=>some (⟨t.Kind,(w,ks).1,z14⟩:Zc))=some ⟨t.Kind,w,ks.map nrm⟩:=fun w ks h1 h2 hks=>by
   have hz:(cond (decide (0 < ((w,ks).2.length:Int))) ((Zoh 56 ((w,ks).2.length:Int) (⟨(0:Int),([]:(List Int)),([]:(List Zc))⟩:Zc)).bind fun l6=>some l6) (some ([]:List Zc)))=some (List.replicate ks.length (⟨0,[],[]⟩:Tr)):=by
    cases ks with
    | nil=>rfl
    | cons y ys =>
     have:decide (0 < (((w,y::ys).2.length:Nat):Int))=true:=by rw [decide_eq_true_eq];simp
     rw [this,cond_true,Yb3 (Int.natCast_nonneg _) h2 h1,Option.bind_some,Int.toNat_natCast]
   rw [hz,Option.bind_some]
   rw [Ybz ks nrm _ (Zce (U5 k) (w,ks)) h1 (fun i x out z hi hx hm hz=>by
     unfold Zce
     simp only
     rw [Ua hi,cond_true,Yf hx,Option.bind_some,hks x hm,Option.bind_some,Yf hz,Option.bind_some]) (fun out=>by
     unfold Zce
     simp only
     rw [Uo,cond_false]),Option.bind_some]
  by_cases h1:t.Kind=1
  ·have e1:(t.Kind == 1)=true:=by rw [beq_iff_eq];exact h1
   have l1:=Zow (fun x:Tr=>x.Kind == 0) t.Kids
   rw [if_pos h1,e1,cond_true,Z4a (by omega),Option.bind_some,Z59 (by omega),Option.bind_some,Option.bind_some]
   rw [main _ _ (by omega) (by omega) (fun x hx=>ih x (Zvf hx)),Z7i (fun x=>by rw [Zfq]),h1]
  have e1:(t.Kind == 1)=false:=by rw [beq_eq_false_iff_ne];exact h1
  rw [if_neg h1,e1,cond_false,Option.bind_some]
  exact main _ _ (by omega) (by omega) ih
theorem Z2t {t:Tr} (h:Bd t):Zej t=some (nrm t):=Zeh (SizeOf.sizeOf t+1) fun k hk=>Z8h k t h (by omega)
theorem Z58 {α:Type} {p:α→Bool} {x:α} {l:List α} (h:tr p l=[]):tr p (x::l)=if p x=true then [] else [x]:=by simp only [tr,h]
theorem Z7h {α:Type} {p:α→Bool} {x:α} {l:List α} (h:tr p l≠[]):tr p (x::l)=x::tr p l:=by
 simp only [tr]
 split
 ·rename_i h';exact absurd h' h
 rename_i h';rw [h']
theorem Z76:∀ (l:List Tr) (n:Nat) (acc:Int),(l.zipIdx n).foldl (fun a p=>if p.1.Kind=0 then a else ((p.2+1:Nat):Int)) acc=if (tr (fun x=>x.Kind == 0) l).length=0 then acc else ((n+(tr (fun x=>x.Kind == 0) l).length:Nat):Int)
 | [],n,acc=>by simp [tr]
 | x::l,n,acc=>by
  rw [List.zipIdx_cons,List.foldl_cons,Z76 l (n+1)]
  by_cases h:tr (fun x=>x.Kind == 0) l=[]
  ·rw [Z58 h,h]
   by_cases hx:x.Kind=0
   ·simp [hx]
   simp [hx]
  have h':(tr (fun x=>x.Kind == 0) l).length≠0:=by simpa using h
  rw [Z7h h,if_neg h',List.length_cons,if_neg (by omega)]
  congr 1
  omega
theorem Ye5 {α:Type} (p:α→Bool) (l:List α):l.take (tr p l).length=tr p l:=by
 obtain ⟨h1,h2⟩:=Z0c (p:=p) (l:=l) l.length (Nat.le_refl _)
 rw [List.take_length] at h1
 rw [← h1,List.length_take]
 congr 1
 omega
theorem Ycw {k:Nat} {t:Tr} (hl:t.Kids.length * 56≤140737488355328) (ih:∀ x∈t.Kids,X0 k x=some (nrm x)) :
  Zs (Qv (X0 k) t) (0,0,[])=some (if (tr (fun x=>x.Kind == 0) (t.Kids.map nrm)).length=0 then 0 else ((tr (fun x=>x.Kind == 0) (t.Kids.map nrm)).length:Int),t.Kids.map nrm):=by
 have key:∀ (l pre:List Tr) (a:Int),t.Kids=pre++l→Zs (Qv (X0 k) t) (a,((pre.length:Nat):Int),pre.map nrm)=some (((l.map nrm).zipIdx pre.length).foldl (fun a p=>if p.1.Kind=0 then a else ((p.2+1:Nat):Int)) a,t.Kids.map nrm):=fun l=>by
  induction l with
  | nil =>
   intro pre a hp
   rw [List.append_nil] at hp
   refine Y2 ?_
   unfold Qv
   simp only
   rw [hp,Uo,cond_false]
   rfl
  | cons x l ihl =>
   intro pre a hp
   have hx:t.Kids[pre.length]? = some x:=by rw [hp,List.getElem?_append_right (Nat.le_refl _),Nat.sub_self];rfl
   have hi:pre.length < t.Kids.length:=by rw [hp];simp
   have hm:x∈t.Kids:=List.mem_of_getElem? hx
   have hs:Qv (X0 k) t (a,((pre.length:Nat):Int),pre.map nrm)=some (.inl (if x.Kind=0 then a else ((pre.length+1:Nat):Int),(((pre++[x]).length:Nat):Int),(pre++[x]).map nrm)):=by
    unfold Qv
    simp only
    rw [Ua hi,cond_true,Yf hx,Option.bind_some,ih x hm,Option.bind_some,U4 (by simp;omega) (by simp;omega),Option.bind_some,Kg (by omega) (by omega),Zfq]
    have e:((pre.length:Nat):Int)+1=((pre.length+1:Nat):Int):=by omega
    rw [e]
    by_cases h0:x.Kind=0
    ·simp [h0]
    have:(x.Kind != 0)=true:=by simp [h0]
    rw [this,cond_true]
    simp [h0]
   rw [Y9 hs,ihl (pre++[x]) _ (by rw [hp];simp)]
   simp only [List.map_cons,List.zipIdx_cons,List.foldl_cons,List.length_append,List.length_singleton,Zfq]
 have:=key t.Kids [] 0 rfl
 rw [Z76] at this
 simpa using this
theorem Z53:∀ (k:Nat) (t:Tr),Bd t→SizeOf.sizeOf t < k→X0 k t=some (nrm t)
 | 0,t,_,h=>by omega
 | k+1,t,hb,hk=>by
  have ih:∀ x∈t.Kids,X0 k x=some (nrm x):=fun x hx=>Z53 k x (hb.all x hx) (by have:=Zff hx;omega)
  have hw:=hb.w
  have hkd:=hb.k
  show Zao (X0 k) t=_
  unfold Zao
  rw [Zjm]
  by_cases h0:t.Kind=0
  ·rw [if_pos h0,h0];rfl
  have e0:(t.Kind == 0)=false:=by rw [beq_eq_false_iff_ne];exact h0
  rw [if_neg h0,e0,cond_false,Ycw hkd ih,Option.bind_some]
  by_cases h1:t.Kind=1
  ·have e1:(t.Kind == 1)=true:=by rw [beq_iff_eq];exact h1
   rw [if_pos h1,e1,cond_true,Ycr hw,Option.bind_some]
   have l1:=Zow (fun x:Tr=>x.Kind == 0) (t.Kids.map nrm)
   have l2:(if (tr (fun x=>x.Kind == 0) (t.Kids.map nrm)).length=0 then (0:Int) else ((tr (fun x=>x.Kind == 0) (t.Kids.map nrm)).length:Int))=((tr (fun x=>x.Kind == 0) (t.Kids.map nrm)).length:Int):=by
    split
    ·rename_i h;rw [h];rfl
    rfl
   simp only [l2]
   rw [Ztl l1,Option.bind_some,Ye5]
  have e1:(t.Kind == 1)=false:=by rw [beq_eq_false_iff_ne];exact h1
  rw [if_neg h1,e1,cond_false,U4 (by rw [List.length_nil];omega) (by rw [List.length_nil];omega)]
  rfl
theorem Zz4 {t:Tr} (h:Bd t):Zay t=some (nrm t):=Zeh (SizeOf.sizeOf t+1) fun k hk=>Z53 k t h (by omega)
theorem Yb8:∀ (n:Nat) (t:Tr),SizeOf.sizeOf t < n→Bd t→Bd (nrm t)
 | 0,t,h,_=>by omega
 | n+1,t,hn,hb=>by
  have ih:∀ x∈t.Kids,Bd (nrm x):=fun x hx=>Yb8 n x (by have:=Zff hx;omega) (hb.all x hx)
  have hw:=hb.w
  have hk:=hb.k
  rw [Zjm]
  split
  ·exact .mk _ (by simp) (by simp) (fun w h=>by simp at h) (fun w h=>by simp at h)
  split
  ·have l1:=Zow (fun x:Int=>x == 0) t.Words
   have l2:=Zow (fun x:Tr=>x.Kind == 0) (t.Kids.map nrm)
   rw [List.length_map] at l2
   refine .mk _ (by simp only;omega) (Nat.le_trans (Nat.mul_le_mul_right 56 l2) hk) (fun w h=>hb.u w (Zvf h)) (fun x h => ?_)
   obtain ⟨y,hy,rfl⟩:=List.mem_map.1 (Zvf h)
   exact ih y hy
  refine .mk _ hw (by simp only [List.length_map];exact hk) hb.u (fun x h => ?_)
  obtain ⟨y,hy,rfl⟩:=List.mem_map.1 h
  exact ih y hy
theorem Bd.nrm {t:Tr} (h:Bd t):Bd (nrm t):=Yb8 _ t (Nat.lt_succ_self _) h
theorem Z09:∀ (n:Nat) (t:Tr),SizeOf.sizeOf t < n→nrm (nrm t)=nrm t
 | 0,t,h=>by omega
 | n+1,t,hn=>by
  have ih:∀ x∈t.Kids,nrm (nrm x)=nrm x:=fun x hx=>Z09 n x (by have:=Zff hx;omega)
  have em:∀ l:List Tr,(∀ x∈l,x∈t.Kids)→(l.map nrm).map nrm=l.map nrm:=fun l hl=>by
   rw [List.map_map]
   exact List.map_congr_left fun x hx=>ih x (hl x hx)
  rw [Zjm t]
  by_cases h0:t.Kind=0
  ·rw [if_pos h0,Zjm];simp
  rw [if_neg h0]
  by_cases h1:t.Kind=1
  ·rw [if_pos h1,Zjm]
   simp only [if_neg (show ¬ (1:Int)=0 by decide),if_true]
   have q1:∀ l:List Tr,tr (fun x:Tr=>x.Kind == 0) (l.map nrm)=(tr (fun x:Tr=>x.Kind == 0) l).map nrm:=Z7i (fun x=>by rw [Zfq])
   rw [Yc8,q1,Yc8,q1,em _ (fun x hx=>Zvf hx)]
  rw [if_neg h1,Zjm]
  simp only
  rw [if_neg h0,if_neg h1,em _ (fun x hx=>hx)]
theorem Zw6 (t:Tr):nrm (nrm t)=nrm t:=Z09 _ t (Nat.lt_succ_self _)
def eqT (a b:Tr):Bool:=a.Kind == b.Kind && (a.Words == b.Words && (a.Kids.length == b.Kids.length && (a.Kids.attach.zip b.Kids).all fun p=>eqT p.1.1 p.2))
termination_by SizeOf.sizeOf a
decreasing_by exact Zff p.1.2
def eqL:List Tr→List Tr→Bool
 | [],[]=>true
 | x::xs,y::ys=>eqT x y && eqL xs ys
 | _,_=>false
theorem Z90:∀ (l m:List Tr) (P:Tr→Prop) (l':List {x // P x}),l'.map (·.1)=l→(l.length == m.length && (l'.zip m).all fun p=>eqT p.1.1 p.2)=eqL l m
 | [],[],P,l',h=>by cases l' <;> simp_all [eqL]
 | [],y::m,P,l',h=>by cases l' <;> simp_all [eqL]
 | x::l,[],P,l',h=>by cases l' <;> simp_all [eqL]
 | x::l,y::m,P,l',h=>by
  cases l' with
  | nil=>simp at h
  | cons z l' =>
   simp only [List.map_cons,List.cons.injEq] at h
   have ih:=Z90 l m P l' h.2
   simp only [List.length_cons,List.zip_cons_cons,List.all_cons,eqL,h.1]
   rw [← ih]
   have:(l.length+1 == m.length+1)=(l.length == m.length):=by simp
   rw [this]
   cases l.length == m.length <;> cases eqT x y <;> rfl
theorem Ybh (a b:Tr):eqT a b=(a.Kind == b.Kind && (a.Words == b.Words && eqL a.Kids b.Kids)):=by
 rw [eqT,Z90 a.Kids b.Kids (·∈a.Kids) a.Kids.attach (by simp)]
theorem Z4t (x y:Tr) (xs ys:List Tr):eqL (x::xs) (y::ys)=(eqT x y && eqL xs ys):=rfl
theorem Z0w:∀ (n:Nat) (a b:Tr),SizeOf.sizeOf a < n→(eqT a b=true↔a=b)
 | 0,a,b,h=>by omega
 | n+1,a,b,hn=>by
  have ih:∀ x∈a.Kids,∀ y,eqT x y=true↔x=y:=fun x hx y=>Z0w n x y (by have:=Zff hx;omega)
  have hl:∀ (l m:List Tr),(∀ x∈l,x∈a.Kids)→(eqL l m=true↔l=m):=fun l=>by
   induction l with
   | nil=>intro m _;cases m <;> simp [eqL]
   | cons x l ihl =>
    intro m hm
    cases m with
    | nil=>simp [eqL]
    | cons y m=>rw [Z4t,Bool.and_eq_true,ih x (hm x (.head _)) y,ihl m (fun z hz=>hm z (.tail _ hz)),List.cons.injEq]
  rw [Ybh,Bool.and_eq_true,Bool.and_eq_true,hl a.Kids b.Kids (fun x hx=>hx),beq_iff_eq,beq_iff_eq]
  obtain ⟨k,w,ks⟩:=a
  obtain ⟨k',w',ks'⟩:=b
  simp
theorem eqT_iff {a b:Tr}:eqT a b=true↔a=b:=Z0w _ a b (Nat.lt_succ_self _)
theorem Zyx (a:Tr):eqT a a=true:=eqT_iff.2 rfl
theorem Ya6:∀ (a b:List Int),a.length=b.length→(a.zip b).any (fun p=>p.1 != p.2) = !(a == b)
 | [],[],_=>rfl
 | [],_::_,h=>by simp at h
 | _::_,[],h=>by simp at h
 | x::a,y::b,h=>by
  have ih:=Ya6 a b (by simpa using h)
  rw [List.zip_cons_cons,List.any_cons,ih]
  by_cases hxy:x=y
  ·subst hxy;simp
  simp [bne,hxy]
theorem Yb0 {R:Type} (a b:List Int) (step:Int→Option (Int ⊕ R)) (e o:R) (hab:a.length=b.length) (hl:(a.length:Int)≤140737488355328)
  (h1:∀ (i:Nat) (x y:Int),i < a.length→a[i]? = some x→b[i]? = some y→step i=some (if (x != y)=true then .inr e else .inl (IntKind.i64.wrap ((i:Int)+1)))) (h2:step a.length=some (.inr o)) :
  Zs step 0=some (if (a == b)=true then o else e):=by
 have hz:(a.zip b).length=a.length:=by rw [List.length_zip];omega
 have:=Zzj (a.zip b) step (fun p=>p.1 != p.2) e o (by rw [hz];exact hl) (fun i p hi hp hm=>by
  rw [hz] at hi
  have ha:a[i]? = some a[i]:=List.getElem?_eq_getElem hi
  have hb:b[i]? = some b[i]:=List.getElem?_eq_getElem (by omega)
  have:p=(a[i],b[i]):=by
   rw [List.getElem?_eq_getElem (by rw [hz];exact hi)] at hp
   injection hp with hp
   rw [← hp,List.getElem_zip]
  subst this
  exact h1 i _ _ hi ha hb) (by rw [hz];exact h2)
 rw [this,Ya6 a b hab]
 cases a == b <;> rfl
theorem Ybv {a b:Nat}:((a:Int) != (b:Int)) = !(a == b):=by
 rw [Bool.eq_iff_iff];simp;omega
theorem Ydq {a b:List Int} (h:¬ a.length=b.length):(a == b)=false:=by
 rw [beq_eq_false_iff_ne];intro e;exact h (by rw [e])
theorem Yc0 {a b:List Int} (h:(a.length:Int)≤140737488355328):Zax a b=some (a == b):=by
 unfold Zax
 rw [Ybv]
 by_cases hab:a.length=b.length
 ·have:(!(a.length == b.length))=false:=by simp [hab]
  rw [this,cond_false,Yb0 a b (V4 a b) (.inl ()) (.inr ()) hab h (fun i x y hi hx hy=>by
   unfold V4
   rw [Ua hi,cond_true,Yf hx,Option.bind_some,Yf hy,Option.bind_some]
   cases x != y <;> rfl) (by unfold V4;rw [Uo];rfl)]
  cases a == b <;> rfl
 have:(!(a.length == b.length))=true:=by simp [hab]
 rw [this,cond_true,Ydq hab]
theorem Yfa (q:Tr→Tr→Bool):∀ (a b:List Tr),(a.zip b).any (fun p => !q p.1 p.2) = !((a.zip b).all fun p=>q p.1 p.2)
 | [],b=>by simp
 | x::a,[]=>by simp
 | x::a,y::b=>by rw [List.zip_cons_cons,List.any_cons,Yfa q a b,List.all_cons];cases q x y <;> rfl
theorem Yaj {R:Type} (a b:List Tr) (q:Tr→Tr→Bool) (step:Int→Option (Int ⊕ R)) (e o:R) (hab:a.length=b.length) (hl:(a.length:Int)≤140737488355328)
  (h1:∀ (i:Nat) (x y:Tr),i < a.length→a[i]? = some x→b[i]? = some y→x∈a→y∈b→step i=some (if (!q x y)=true then .inr e else .inl (IntKind.i64.wrap ((i:Int)+1)))) (h2:step a.length=some (.inr o)) :
  Zs step 0=some (if ((a.zip b).all fun p=>q p.1 p.2)=true then o else e):=by
 have hz:(a.zip b).length=a.length:=by rw [List.length_zip];omega
 have:=Zzj (a.zip b) step (fun p => !q p.1 p.2) e o (by rw [hz];exact hl) (fun i p hi hp hm=>by
  rw [hz] at hi
  have ha:a[i]? = some a[i]:=List.getElem?_eq_getElem hi
  have hb:b[i]? = some b[i]:=List.getElem?_eq_getElem (by omega)
  have:p=(a[i],b[i]):=by
   rw [List.getElem?_eq_getElem (by rw [hz];exact hi)] at hp
   injection hp with hp
   rw [← hp,List.getElem_zip]
  subst this
  exact h1 i _ _ hi ha hb (List.getElem_mem _) (List.getElem_mem _)) (by rw [hz];exact h2)
 rw [this,Yfa q a b]
 cases (a.zip b).all fun p=>q p.1 p.2 <;> rfl
theorem Z4m:∀ (a b:List Tr),a.length=b.length→((a.zip b).all fun p=>eqT p.1 p.2)=eqL a b
 | [],[],_=>rfl
 | [],_::_,h=>by simp at h
 | _::_,[],h=>by simp at h
 | x::a,y::b,h=>by
  have ih:=Z4m a b (by simpa using h)
  rw [List.zip_cons_cons,List.all_cons,ih];rfl
theorem Z7u:∀ (a b:List Tr),a.length≠b.length→eqL a b=false
 | [],[],h=>by simp at h
 | [],_::_,_=>rfl
 | _::_,[],_=>rfl
 | x::a,y::b,h=>by rw [Z4t,Z7u a b (by simpa using h),Bool.and_false]
theorem Z8s:∀ (k:Nat) (a b:Tr),Bd a→Bd b→SizeOf.sizeOf a < k→J3 k a b=some (eqT a b)
 | 0,a,b,_,_,h=>by omega
 | k+1,a,b,ha,hb,hk=>by
  have ih:∀ x∈a.Kids,∀ y∈b.Kids,J3 k x y=some (eqT x y):=fun x hx y hy=>Z8s k x y (ha.all x hx) (hb.all y hy) (by have:=Zff hx;omega)
  have hw:=ha.w
  have hkd:=ha.k
  show Zap (J3 k) a b=_
  unfold Zap
  rw [Ybh,Yc0 (by omega),Option.bind_some,Ybv]
  by_cases h0:a.Kind=b.Kind
  ·have e0:(a.Kind != b.Kind)=false:=by simp [h0]
   have e1:(a.Kind == b.Kind)=true:=by simp [h0]
   rw [e0,e1,cond_false,cond_false,Option.bind_some,Bool.true_and]
   cases hw':a.Words == b.Words with
   | false=>rfl
   | true =>
    rw [Bool.not_true,cond_false,Bool.true_and]
    by_cases hab:a.Kids.length=b.Kids.length
    ·have:(!(a.Kids.length == b.Kids.length))=false:=by simp [hab]
     rw [this,cond_false,Yaj a.Kids b.Kids eqT (Vw (J3 k) a b) (.inl ()) (.inr ()) hab (by omega) (fun i x y hi hx hy hmx hmy=>by
      unfold Vw
      rw [Ua hi,cond_true,Yf hx,Option.bind_some,Yf hy,Option.bind_some,ih x hmx y hmy,Option.bind_some]
      cases eqT x y <;> rfl) (by unfold Vw;rw [Uo];rfl)]
     rw [Z4m a.Kids b.Kids hab]
     cases eqL a.Kids b.Kids <;> rfl
    have:(!(a.Kids.length == b.Kids.length))=true:=by simp [hab]
    rw [this,cond_true,Z7u _ _ hab]
  have e0:(a.Kind != b.Kind)=true:=by simp [h0]
  have e1:(a.Kind == b.Kind)=false:=by simp [h0]
  rw [e0,e1];rfl
theorem Z3d {a b:Tr} (ha:Bd a) (hb:Bd b):Zaz a b=some (eqT a b):=Zeh (SizeOf.sizeOf a+1) fun k hk=>Z8s k a b ha hb (by omega)
theorem Yb9 {t:Tr} (h:t.Kind=0):nrm t=⟨0,[],[]⟩:=by rw [Zjm,if_pos h]
theorem Z64 {t:Tr} (h:t.Kind=1):nrm t=⟨1,tr (fun x=>x == 0) t.Words,tr (fun x=>x.Kind == 0) (t.Kids.map nrm)⟩:=by rw [Zjm,if_neg (by rw [h];decide),if_pos h]
theorem Zsn {t:Tr} (h0:¬ t.Kind=0) (h1:¬ t.Kind=1):nrm t=⟨t.Kind,t.Words,t.Kids.map nrm⟩:=by rw [Zjm,if_neg h0,if_neg h1]
theorem Z54 (t:Tr):0 < SizeOf.sizeOf t:=by
 obtain ⟨k,w,ks⟩:=t
 simp only [Zc.mk.sizeOf_spec]
 omega
def pt (t:Tr):Nat:=1+t.Words.length+(t.Kids.attach.map fun k=>pt k.1).sum
termination_by SizeOf.sizeOf t
decreasing_by exact Zff k.2
theorem Yht (t:Tr):pt t=1+t.Words.length+(t.Kids.map pt).sum:=by
 rw [pt]
 simp only [List.attach_map_val]
theorem Zz8:∀ (k:Nat) (t:Tr) (d left:Int),Bd t→SizeOf.sizeOf t < k→0≤d→d≤100→0≤left→left≤1000000→∃ r,Y1 k t d left=some r∧-1≤r∧r≤1000000∧(0≤r→r+pt t≤left)
 | 0,t,_,_,_,h,_,_,_,_=>by omega
 | k+1,t,d,left,hb,hk,hd0,hd1,hl0,hl1=>by
  have ih:∀ x∈t.Kids,∀ d left:Int,0≤d→d≤100→0≤left→left≤1000000→∃ r,Y1 k x d left=some r∧-1≤r∧r≤1000000∧(0≤r→r+pt x≤left):=fun x hx d left=>Zz8 k x d left (hb.all x hx) (by have:=Zff hx;omega)
  have hw:=hb.w
  have hkd:=hb.k
  show ∃ r,Qe (Y1 k) t d left=some r∧_
  unfold Qe
  rw [Kg (x:=left - 1) (by omega) (by omega),Kg (by omega) (by omega),Yht]
  cases hc:cond (d == 0) true (decide (left - 1 - (t.Words.length:Int) < 0)) with
  | true=>exact ⟨-1,rfl,by omega,by omega,fun h=>by omega⟩
  | false =>
   rw [cond_false]
   have hd:¬ d=0∧0≤left - 1 - (t.Words.length:Int):=by
    by_cases h:d=0
    ·simp [h] at hc
    have e:(d == 0)=false:=by simp [h]
    rw [e,cond_false,decide_eq_false_iff_not] at hc
    exact ⟨h,by omega⟩
   obtain ⟨r,h1,h2⟩:=Zi7 (step:=X7 (Y1 k) t d)
    (fun s=>∃ j:Nat,s.2=j∧j≤t.Kids.length∧-1≤s.1∧s.1≤1000000∧(0≤s.1→s.1+(((t.Kids.take j).map pt).sum:Nat)≤left - 1 - (t.Words.length:Int)))
    (fun s=>t.Kids.length - s.2.toNat) (fun r=>-1≤r∧r≤1000000∧(0≤r→r+((t.Kids.map pt).sum:Nat)≤left - 1 - (t.Words.length:Int))) (fun s hI=>by
     obtain ⟨l,i⟩:=s
     obtain ⟨j,rfl,hj,g1,g2,g3⟩:=hI
     simp only at g1 g2 g3 ⊢
     unfold X7
     simp only
     by_cases hji:j < t.Kids.length
     ·rw [Ua hji,cond_true]
      by_cases hl:0≤l
      ·have e:decide (0≤l)=true:=by simp [hl]
       have hx:t.Kids[j]? = some t.Kids[j]:=List.getElem?_eq_getElem hji
       obtain ⟨r,q1,q2,q3,q4⟩:=ih t.Kids[j] (List.getElem_mem hji) (d - 1) l (by omega) (by omega) hl g2
       rw [e,cond_true,Yf hx,Option.bind_some,Kg (by omega) (by omega),q1,Option.bind_some,Kg (by omega) (by omega)]
       refine .inl ⟨_,rfl,⟨j+1,by simp only;omega,by omega,q2,q3,fun hr => ?_⟩,by simp only;omega⟩
       have:=q4 hr
       have:=g3 hl
       rw [List.take_add_one,hx]
       simp only [Option.toList_some,List.map_append,List.map_cons,List.map_nil,List.sum_append,List.sum_cons,List.sum_nil]
       simp only at hr
       omega
      have e:decide (0≤l)=false:=by simp [hl]
      rw [e,cond_false]
      exact .inr ⟨l,rfl,g1,g2,fun h=>absurd h hl⟩
     have hj':j=t.Kids.length:=by omega
     subst hj'
     rw [Uo,cond_false]
     rw [List.take_length] at g3
     exact .inr ⟨l,rfl,g1,g2,g3⟩) (left - 1 - (t.Words.length:Int),0) ⟨0,rfl,Nat.zero_le _,by simp only;omega,by simp only;omega,fun _=>by simp⟩
   rw [h1]
   refine ⟨r,rfl,h2.1,h2.2.1,fun hr => ?_⟩
   have:=h2.2.2 hr
   omega
theorem Zli {α:Type} {xs:List α} {i:Int} {x:α} (h:Yx xs i=some x):x∈xs:=List.mem_of_getElem? (Zn9 h)
theorem Zta:∀ (k k':Nat) (t:Tr) (d left:Int),SizeOf.sizeOf t < k→SizeOf.sizeOf t < k'→Y1 k t d left=Y1 k' t d left
 | 0,_,t,_,_,h,_=>by omega
 | k+1,0,t,_,_,_,h=>by omega
 | k+1,k'+1,t,d,left,h,h'=>by
  show Qe (Y1 k) t d left=Qe (Y1 k') t d left
  have e:X7 (Y1 k) t d=X7 (Y1 k') t d:=funext fun s=>by
   unfold X7
   cases hx:Yx t.Kids s.2 with
   | none=>rfl
   | some x=>simp only [Option.bind_some,Zta k k' x (IntKind.i64.wrap (d - 1)) s.1 (by have:=Zff (Zli hx);omega) (by have:=Zff (Zli hx);omega)]
  unfold Qe
  rw [e]
theorem Z3e {t:Tr} (h:Bd t) {left:Int} (h0:0≤left) (h1:left≤1000000):∃ r,J7 t 80 left=some r∧-1≤r∧r≤1000000∧(0≤r→r+pt t≤left):=by
 obtain ⟨r,h2,h3⟩:=Zz8 (SizeOf.sizeOf t+1) t 80 left h (by omega) (by omega) (by omega) h0 h1
 exact ⟨r,Zeh (SizeOf.sizeOf t+1) fun k hk=>by rw [Zta k (SizeOf.sizeOf t+1) t 80 left (by omega) (by omega)];exact h2,h3⟩
def wid (c:Int):Nat:=if c=0 then 0 else if c=1 then 1 else if c=2 then 8 else if c=3 then 16 else if c=4 then 32 else 64
def Zvi (c w:Int):Bool:=decide (w < 2 ^ wid c)
theorem Zyw {c:Int} (h0:0≤c) (h1:c≤5):c=0∨c=1∨c=2∨c=3∨c=4∨c=5:=by omega
theorem Ydf {c w:Int} (h0:0≤c) (h1:c≤5) (hw:0≤w):Zia c w=some (Zvi c w):=by
 have key:∀ n:Nat,n≤64→(Int.fdiv w (2 ^ min (Int.toNat (n:Int)) 64) == 0)=decide (w < 2 ^ n):=fun n hn=>by
  rw [Int.toNat_natCast,Nat.min_eq_left hn,Int.fdiv_eq_ediv_of_nonneg _ (Int.le_of_lt (Int.pow_pos (by decide)))]
  have hp:(0:Int) < 2 ^ n:=Int.pow_pos (by decide)
  rw [Bool.eq_iff_iff,beq_iff_eq,decide_eq_true_eq]
  constructor
  ·intro h
   rcases Int.lt_or_le w (2 ^ n) with h2 | h2
   ·exact h2
   have:=Int.ediv_le_ediv hp h2
   rw [Int.ediv_self (Int.ne_of_gt hp)] at this
   omega
  intro h;exact Int.ediv_eq_zero_of_lt hw h
 have e:∀ n:Nat,n≤64→(some (((n:Int),true):Int×Bool)).bind (fun y2=>(cond y2.2 ((Zmi (0≤y2.1)).bind fun u5=>some (cond y2.2 ((Int.fdiv w (2 ^ min (Int.toNat y2.1) 64)) == 0) false)) (some false)).bind fun (z4:Bool)=>some z4)=some (decide (w < 2 ^ n)):=fun n hn=>by
  rw [Option.bind_some]
  simp only [cond_true]
  rw [Zut (by omega),Option.bind_some,Option.bind_some,key n hn]
 unfold Zia Zvi
 rcases Zyw h0 h1 with rfl | rfl | rfl | rfl | rfl | rfl
 ·exact e 0 (by decide)
 ·exact e 1 (by decide)
 ·exact e 8 (by decide)
 ·exact e 16 (by decide)
 ·exact e 32 (by decide)
 exact e 64 (by decide)
theorem Z7b (n:Nat) (hn:n≤64) (w:Int) (h0:0≤w) (h1:w < 18446744073709551616):Zs (Qf (n:Int)) (w,0)=some (w / 2 ^ n):=by
 have key:∀ m i:Nat,i+m=n→Zs (Qf (n:Int)) (w / 2 ^ i,(i:Int))=some (w / 2 ^ n):=fun m=>by
  induction m with
  | zero =>
   intro i hi
   have:i=n:=by omega
   subst this
   refine Y2 ?_
   unfold Qf
   simp only
   rw [Uo,cond_false]
  | succ m ih =>
   intro i hi
   have hp:(0:Int) < 2 ^ i:=Int.pow_pos (by decide)
   have q0:0≤w / 2 ^ i:=Int.ediv_nonneg h0 (Int.le_of_lt hp)
   have q1:w / 2 ^ i≤w:=Int.ediv_le_self _ h0
   have hs:Qf (n:Int) (w / 2 ^ i,(i:Int))=some (.inl (w / 2 ^ (i+1),((i+1:Nat):Int))):=by
    unfold Qf
    simp only
    rw [Ua (by omega),cond_true,Kg (by omega) (by omega),Int.tdiv_eq_ediv_of_nonneg q0]
    have e:w / 2 ^ i / 2=w / 2 ^ (i+1):=by rw [Int.ediv_ediv_of_nonneg (Int.le_of_lt hp),Int.pow_succ]
    have q2:0≤w / 2 ^ i / 2:=Int.ediv_nonneg q0 (by decide)
    have q3:w / 2 ^ i / 2≤w / 2 ^ i:=Int.ediv_le_self _ q0
    have e3:IntKind.u64.wrap (w / 2 ^ i / 2)=w / 2 ^ i / 2:=by
     exact Yda ⟨q2,by omega⟩
    rw [e3,e]
    rfl
   rw [Y9 hs]
   exact ih (i+1) (by omega)
 have:=key n 0 (by omega)
 simpa using this
theorem Ycs {c w:Int} (h0:0≤c) (h1:c≤5) (hw:0≤w) (hw':w < 18446744073709551616):Uf c w=some (Zvi c w):=by
 have e:∀ n:Nat,n≤64→(cond (decide ((n:Int) < 0)) (some false) ((Zs (Qf (n:Int)) (w,0)).bind fun (z4:Int)=>some (z4 == 0)))=some (decide (w < 2 ^ n)):=fun n hn=>by
  have:decide ((n:Int) < 0)=false:=by rw [decide_eq_false_iff_not];omega
  have hp:(0:Int) < 2 ^ n:=Int.pow_pos (by decide)
  rw [this,cond_false,Z7b n hn w hw hw',Option.bind_some]
  congr 1
  rw [Bool.eq_iff_iff,beq_iff_eq,decide_eq_true_eq]
  constructor
  ·intro h
   rcases Int.lt_or_le w (2 ^ n) with h2 | h2
   ·exact h2
   have:=Int.ediv_le_ediv hp h2
   rw [Int.ediv_self (Int.ne_of_gt hp)] at this
   omega
  intro h;exact Int.ediv_eq_zero_of_lt hw h
 unfold Uf Zvi
 rcases Zyw h0 h1 with rfl | rfl | rfl | rfl | rfl | rfl
 ·exact e 0 (by decide)
 ·exact e 1 (by decide)
 ·exact e 8 (by decide)
 ·exact e 16 (by decide)
 ·exact e 32 (by decide)
 exact e 64 (by decide)
def okk (kind:Int) (k:Tr):Bool:=if 2≤kind∧kind≤7 then k.Kind == 10 && Zvi (kind - 2) (k.Words.headD 0) else k.Kind != 10 && (kind != 9 || k.Kind == 1)
def rt (t:Tr) (d:Nat):Bool :=
 if t.Kind=0 then t.Words.length == 0 && t.Kids.length == 0
 else if t.Kind=10 then t.Words.length == 1 && t.Kids.length == 0
 else if t.Kind < 0∨10 < t.Kind∨d=0∨65536≤t.Words.length∨(t.Kind=1∧65536≤t.Kids.length)∨1048576≤t.Kids.length∨(1 < t.Kind∧0 < t.Words.length) then false
 else (t.Kids.attach.map fun k=>rt k.1 (d - 1) && okk t.Kind k.1).all id
termination_by SizeOf.sizeOf t
decreasing_by exact Zff k.2
theorem Znv (t:Tr) (d:Nat):rt t d=if t.Kind=0 then t.Words.length == 0 && t.Kids.length == 0
 else if t.Kind=10 then t.Words.length == 1 && t.Kids.length == 0
 else if t.Kind < 0∨10 < t.Kind∨d=0∨65536≤t.Words.length∨(t.Kind=1∧65536≤t.Kids.length)∨1048576≤t.Kids.length∨(1 < t.Kind∧0 < t.Words.length) then false
 else t.Kids.all fun k=>rt k (d - 1) && okk t.Kind k:=by
 rw [rt]
 have:(t.Kids.attach.map fun k=>rt k.1 (d - 1) && okk t.Kind k.1)=t.Kids.map fun k=>rt k (d - 1) && okk t.Kind k:=List.attach_map_val (f:=fun k=>rt k (d - 1) && okk t.Kind k)
 rw [this,List.all_map]
 rfl
theorem Yel {t:Tr} (h:t.Kind=10) (d d':Nat):rt t d=rt t d':=by
 have h0:¬ t.Kind=0:=by rw [h];decide
 rw [Znv t d,Znv t d']
 simp only [if_neg h0,if_pos h]
theorem Z1j {t:Tr} (h:t.Kind=10) {d:Nat} (hr:rt t d=true):∃ w,t.Words=[w]:=by
 rw [Znv,if_neg (by omega),if_pos h,Bool.and_eq_true,beq_iff_eq] at hr
 obtain ⟨k,w,ks⟩:=t
 obtain ⟨h1,_⟩:=hr
 simp only at h1 ⊢
 exact List.length_eq_one_iff.1 h1
theorem Z2e {n:Nat}:((n:Int) == 0)=(n == 0):=by rw [Bool.eq_iff_iff,beq_iff_eq,beq_iff_eq];omega
theorem Yg3 {n:Nat}:((n:Int) == 1)=(n == 1):=by rw [Bool.eq_iff_iff,beq_iff_eq,beq_iff_eq];omega
theorem Zeb (a b:Bool):cond a b false=(a && b):=by cases a <;> rfl
theorem Z7l {α:Type} (p:α→Bool):∀ l:List α,l.any (fun x => !p x) = !(l.all p)
 | []=>rfl
 | x::l=>by rw [List.any_cons,List.all_cons,Z7l p l];cases p x <;> rfl
theorem Zck {α R:Type} (xs:List α) (step:Int→Option (Int ⊕ R)) (p:α→Bool) (e o:R) (hl:(xs.length:Int)≤140737488355328)
  (h1:∀ (i:Nat) (x:α),i < xs.length→xs[i]? = some x→x∈xs→step i=some (if p x=true then .inl (IntKind.i64.wrap ((i:Int)+1)) else .inr e)) (h2:step xs.length=some (.inr o)):Zs step 0=some (if xs.all p=true then o else e):=by
 rw [Zzj xs step (fun x => !p x) e o hl (fun i x hi hx hm=>by rw [h1 i x hi hx hm];cases p x <;> rfl) h2,Z7l]
 cases xs.all p <;> rfl
theorem Z1i:∀ (k:Nat) (t:Tr) (d:Nat),Bd t→SizeOf.sizeOf t < k→d≤64→Jc k t (d:Int)=some (rt t d)
 | 0,t,d,_,h,_=>by omega
 | k+1,t,d,hb,hk,hd=>by
  have hkd:=hb.k
  show Gi (Jc k) t (d:Int)=_
  unfold Gi
  rw [Znv,Z2e,Yg3]
  by_cases h0:t.Kind=0
  ·rw [if_pos h0,h0]
   simp only [Z2e,Zeb]
   rfl
  have e0:(t.Kind == 0)=false:=by simp [h0]
  rw [if_neg h0,e0,cond_false]
  by_cases h10:t.Kind=10
  ·rw [if_pos h10,h10]
   simp only [Z2e,Zeb]
   rfl
  have e10:(t.Kind == 10)=false:=by simp [h10]
  rw [if_neg h10,e10,cond_false]
  by_cases hbad:t.Kind < 0∨10 < t.Kind∨d=0∨65536≤t.Words.length∨(t.Kind=1∧65536≤t.Kids.length)∨1048576≤t.Kids.length∨(1 < t.Kind∧0 < t.Words.length)
  ·rw [if_pos hbad]
   have hc:∀ c1 c2 c3 c4 c5 c6 c7 c8:Bool,(c1=true∨c2=true∨c3=true∨c4=true∨(c5=true∧c6=true)∨c7=true∨c8=true)→∀ X:Option Bool,
     cond (cond (cond (cond (cond (cond c1 true c2) true c3) true c4) true (cond c5 c6 false)) true c7) (some false) (cond c8 (some false) X)=some false:=by
    intro c1 c2 c3 c4 c5 c6 c7 c8 h X
    cases c1 <;> cases c2 <;> cases c3 <;> cases c4 <;> cases c5 <;> cases c6 <;> cases c7 <;> cases c8 <;> first | rfl | (simp at h;done)
   refine hc _ _ _ _ _ _ _ _ ?_ _
   simp only [decide_eq_true_eq,beq_iff_eq,Zeb,Bool.and_eq_true]
   omega
  rw [if_neg hbad]
  have hg:¬ t.Kind < 0∧¬ 10 < t.Kind∧¬ d=0∧¬ 65536≤t.Words.length∧¬ (t.Kind=1∧65536≤t.Kids.length)∧¬ 1048576≤t.Kids.length∧¬ (1 < t.Kind∧0 < t.Words.length):=by omega
  have hc:∀ c1 c2 c3 c4 c5 c7 c8:Bool,c1=false→c2=false→c3=false→c4=false→c5=false→c7=false→c8=false→∀ X:Option Bool,
    cond (cond (cond (cond (cond (cond c1 true c2) true c3) true c4) true c5) true c7) (some false) (cond c8 (some false) X)=X:=by
   intro c1 c2 c3 c4 c5 c7 c8 h1 h2 h3 h4 h5 h7 h8 X
   subst h1 h2 h3 h4 h5 h7 h8
   rfl
  rw [hc _ _ _ _ _ _ _ (decide_eq_false hg.1) (decide_eq_false hg.2.1) (by rw [beq_eq_false_iff_ne];omega) (by rw [decide_eq_false_iff_not];omega) (by rw [Zeb,Bool.and_eq_false_iff,beq_eq_false_iff_ne,decide_eq_false_iff_not];omega) (by rw [decide_eq_false_iff_not];omega) (by rw [Zeb,Bool.and_eq_false_iff,decide_eq_false_iff_not,decide_eq_false_iff_not];omega)]
  obtain ⟨d',rfl⟩:∃ d',d=d'+1:=⟨d - 1,by omega⟩
  have ih:∀ x∈t.Kids,Jc k x (d':Int)=some (rt x d'):=fun x hx=>Z1i k x d' (hb.all x hx) (by have:=Zff hx;omega) (by omega)
  rw [Zck t.Kids (K6 (Jc k) t ((d'+1:Nat):Int)) (fun x=>rt x d' && okk t.Kind x) (.inl ()) (.inr ()) (by omega) (fun i x hi hx hm=>by
   unfold K6
   have ed:((d'+1:Nat):Int) - 1=(d':Int):=by omega
   rw [Ua hi,cond_true,Yf hx,Option.bind_some,Kg (x:=((d'+1:Nat):Int) - 1) (by omega) (by omega),ed,ih x hm,Option.bind_some]
   cases hr:rt x d' with
   | false=>rfl
   | true =>
    rw [Bool.not_true,cond_false,Bool.true_and]
    unfold okk
    by_cases hdt:2≤t.Kind∧t.Kind≤7
    ·have e2:decide (2≤t.Kind)=true:=decide_eq_true hdt.1
     have e7:decide (t.Kind≤7)=true:=decide_eq_true hdt.2
     have e9:(t.Kind == 9)=false:=by rw [beq_eq_false_iff_ne];omega
     rw [e2,e7,e9,if_pos hdt]
     simp only [cond_true,cond_false]
     by_cases hx10:x.Kind=10
     ·obtain ⟨w,hw⟩:=Z1j hx10 hr
      have hu:=(hb.all x hm).u w (by rw [hw];exact .head _)
      have ex:(x.Kind == 10)=true:=by simp [hx10]
      have ex2:((true:Bool) != true)=false:=rfl
      have hg0:Yx [w] (0:Int)=some w:=rfl
      rw [ex,ex2,cond_false,hw,hg0,Option.bind_some,Kg (by omega) (by omega),Ycs (by omega) (by omega) hu.1 hu.2,Option.bind_some]
      simp only [cond_false,List.headD_cons,Bool.true_and]
      cases Zvi (t.Kind - 2) w <;> rfl
     have ex:(x.Kind == 10)=false:=by simp [hx10]
     rw [ex]
     rfl
    have ed2:cond (decide (2≤t.Kind)) (decide (t.Kind≤7)) false=false:=by
     rw [Zeb,Bool.and_eq_false_iff,decide_eq_false_iff_not,decide_eq_false_iff_not];omega
    rw [ed2,if_neg hdt]
    have hin:∀ (X:Option Bool) (b:Bool),(cond (decide (2≤t.Kind)) (cond (decide (t.Kind≤7)) X (some b)) (some b))=some b:=fun X b=>by
     by_cases h2:2≤t.Kind
     ·have h7:decide (t.Kind≤7)=false:=by rw [decide_eq_false_iff_not];omega
      rw [decide_eq_true h2,h7];rfl
     rw [decide_eq_false h2];rfl
    by_cases hx10:x.Kind=10
    ·have ex:(x.Kind == 10)=true:=by simp [hx10]
     have ex2:(x.Kind != 10)=false:=by simp [hx10]
     rw [ex,ex2]
     rfl
    have ex:(x.Kind == 10)=false:=by simp [hx10]
    have ex2:(x.Kind != 10)=true:=by simp [hx10]
    have ex3:((false:Bool) != false)=false:=rfl
    rw [ex,ex2,ex3,cond_false]
    simp only [cond_false]
    rw [hin]
    by_cases h9:t.Kind=9
    ·have e9:(t.Kind == 9)=true:=by simp [h9]
     have e9':(t.Kind != 9)=false:=by simp [h9]
     rw [e9,e9',cond_true]
     by_cases hx1:x.Kind=1
     ·have q1:(x.Kind != 1)=false:=by simp [hx1]
      have q2:(x.Kind == 1)=true:=by simp [hx1]
      rw [q1,q2,cond_false]
      rfl
     have q1:(x.Kind != 1)=true:=by simp [hx1]
     have q2:(x.Kind == 1)=false:=by simp [hx1]
     rw [q1,q2,cond_true]
     rfl
    have e9:(t.Kind == 9)=false:=by simp [h9]
    have e9':(t.Kind != 9)=true:=by simp [h9]
    rw [e9,e9']
    rfl) (by unfold K6;rw [Uo];rfl),Option.bind_some,Nat.add_sub_cancel]
  cases t.Kids.all fun x=>rt x d' && okk t.Kind x <;> rfl
theorem Zvc {t:Tr} (h:Bd t) {d:Nat} (hd:d≤64):Gv t (d:Int)=some (rt t d):=Zeh (SizeOf.sizeOf t+1) fun k hk=>Z1i k t d h (by omega) hd
theorem Z79 (n:Int):Zga n=some (decide (2≤n) && decide (n≤9)):=by unfold Zga;rw [Zeb]
theorem Z7f {l:List Tr} (hl:(l.length:Int)≤140737488355328):Za4 l=some (l.all fun x=>x.Kind == 1):=by
 unfold Za4
 rw [Zck l (V8 l) (fun x=>x.Kind == 1) (.inl ()) (.inr ()) hl (fun i x hi hx hm=>by
  unfold V8
  rw [Ua hi,cond_true,Yf hx,Option.bind_some]
  simp only [bne]
  cases x.Kind == 1 <;> rfl) (by unfold V8;rw [Uo];rfl),Option.bind_some]
 cases l.all fun x=>x.Kind == 1 <;> rfl
theorem Zv9 {α:Type} (p q:α→Bool):∀ l:List α,(l.all fun x=>p x && q x)=(l.all p && l.all q)
 | []=>rfl
 | x::l=>by rw [List.all_cons,List.all_cons,List.all_cons,Zv9 p q l];cases p x <;> cases q x <;> cases l.all p <;> cases l.all q <;> rfl
theorem Z0u {α:Type} {p q:α→Bool}:∀ {l:List α},(∀ x∈l,p x=q x)→l.all p=l.all q
 | [],_=>rfl
 | x::l,h=>by rw [List.all_cons,List.all_cons,h x (.head _),Z0u fun y hy=>h y (.tail _ hy)]
def rq (t:Tr) (d:Nat):Bool:=rt t d && t.Kind != 10
def ra (c:Int) (x:Tr):Bool:=x.Kind == 10 && (rt x 64 && Zvi c (x.Words.headD 0))
theorem Z51:∀ (k:Nat),(∀ t:Tr,Bd t→(2 * SizeOf.sizeOf t+1 < k∨(t.Kind=10∧0 < k))→(Zx k).1 t=some (rt t 64)) ∧
  (∀ (t:Tr) (d:Nat),Bd t→2 * SizeOf.sizeOf t < k→d≤64→(Zx k).2.1 t (d:Int)=some (rq t d)) ∧
  (∀ (l:List Tr) (d:Nat),(∀ x∈l,Bd x∧2 * SizeOf.sizeOf x+1 < k)→(l.length:Int)≤140737488355328→d≤64→1≤k→(Zx k).2.2.1 l (d:Int)=some (l.all fun x=>rq x d)) ∧
  (∀ (l:List Tr) (c:Int),(∀ x∈l,Bd x)→(l.length:Int)≤140737488355328→0≤c→c≤5→2≤k→(Zx k).2.2.2 l c=some (l.all (ra c)))
 | 0=>⟨fun t _ h=>by omega,fun t d _ h=>by omega,fun l d _ _ _ h=>by omega,fun l c _ _ _ _ h=>by omega⟩
 | k+1=>by
  obtain ⟨i1,i2,i3,i4⟩:=Z51 k
  refine ⟨fun t hb hk => ?_,fun t d hb hk hd => ?_,fun l d hl hn hd hk => ?_,fun l c hl hn h0 h5 hk => ?_⟩
  ·show Zgk (Zx k).1 (Zx k).2.1 (Zx k).2.2.1 (Zx k).2.2.2 t=_
   unfold Zgk
   rw [Z2e,Yg3]
   by_cases h10:t.Kind=10
   ·have e:(t.Kind == 10)=true:=by simp [h10]
    rw [e,cond_true,Zeb,Znv,if_neg (by rw [h10];decide),if_pos h10]
   have e:(t.Kind == 10)=false:=by simp [h10]
   have e2:(t.Kind != 10)=true:=by simp [h10]
   have:=i2 t 64 hb (by rcases hk with hk | hk;omega;exact absurd hk.1 h10) (by decide)
   rw [e,cond_false,show (64:Int)=((64:Nat):Int) from rfl,this,Option.bind_some]
   unfold rq
   rw [e2,Bool.and_true]
  ·have hkd:=hb.k
   have hw:=hb.w
   show Zgl (Zx k).1 (Zx k).2.1 (Zx k).2.2.1 (Zx k).2.2.2 t (d:Int)=_
   unfold Zgl rq
   rw [Z2e,Z2e,Znv]
   by_cases h0:t.Kind=0
   ·have e:(t.Kind == 0)=true:=by simp [h0]
    have e2:(t.Kind != 10)=true:=by rw [h0];rfl
    rw [e,e2,cond_true,Zeb,if_pos h0,Bool.and_true]
   have e0:(t.Kind == 0)=false:=by simp [h0]
   rw [e0,cond_false,if_neg h0]
   by_cases hd0:d=0
   ·subst hd0
    have e:(((0:Nat):Int) == 0)=true:=rfl
    rw [e,cond_true]
    by_cases h10:t.Kind=10
    ·simp [h10]
    rw [if_neg h10,if_pos (by omega),Bool.false_and]
   have ed:((d:Int) == 0)=false:=by rw [beq_eq_false_iff_ne];omega
   rw [ed,cond_false]
   obtain ⟨d',rfl⟩:∃ d',d=d'+1:=⟨d - 1,by omega⟩
   have e3:((d'+1:Nat):Int) - 1=(d':Int):=by omega
   have ih3:=i3 t.Kids d' (fun x hx=>⟨hb.all x hx,by have:=Zff hx;omega⟩) (by omega) (by omega) (by have:=Z54 t;omega)
   rw [Kg (x:=((d'+1:Nat):Int) - 1) (by omega) (by omega),e3,ih3,Nat.add_sub_cancel]
   by_cases h1:t.Kind=1
   ·have e:(t.Kind == 1)=true:=by simp [h1]
    have e2:(t.Kind != 10)=true:=by rw [h1];rfl
    have e10:¬ t.Kind=10:=by omega
    have ho:∀ x:Tr,okk t.Kind x=(x.Kind != 10):=fun x=>by unfold okk;rw [h1,if_neg (by decide)];simp
    rw [e,e2,cond_true,if_neg e10,Bool.and_true]
    simp only [ho]
    by_cases hw':t.Words.length < 65536
    ·have q1:decide ((t.Words.length:Int) < 65536)=true:=by rw [decide_eq_true_eq];omega
     by_cases hk':t.Kids.length < 65536
     ·have q2:decide ((t.Kids.length:Int) < 65536)=true:=by rw [decide_eq_true_eq];omega
      rw [q1,q2,if_neg (by omega)]
      rfl
     have q2:decide ((t.Kids.length:Int) < 65536)=false:=by rw [decide_eq_false_iff_not];omega
     rw [q1,q2,if_pos (by omega)]
     rfl
    have q1:decide ((t.Words.length:Int) < 65536)=false:=by rw [decide_eq_false_iff_not];omega
    rw [q1,if_pos (by omega)]
    rfl
   have e1:(t.Kind == 1)=false:=by simp [h1]
   rw [e1,cond_false,Z79,Option.bind_some]
   by_cases hbad:¬ (2≤t.Kind∧t.Kind≤9)∨0 < t.Words.length∨1048576≤t.Kids.length
   ·have q:cond (cond (!(decide (2≤t.Kind) && decide (t.Kind≤9))) true (decide (0 < (t.Words.length:Int)))) true (decide (1048576≤(t.Kids.length:Int)))=true:=by
     cases hq:cond (cond (!(decide (2≤t.Kind) && decide (t.Kind≤9))) true (decide (0 < (t.Words.length:Int)))) true (decide (1048576≤(t.Kids.length:Int))) with
     | true=>rfl
     | false =>
      have hc:∀ a b c:Bool,cond (cond (!a) true b) true c=false→a=true∧b=false∧c=false:=by decide
      obtain ⟨z1,z2,z3⟩:=hc _ _ _ hq
      rw [Bool.and_eq_true,decide_eq_true_eq,decide_eq_true_eq] at z1
      rw [decide_eq_false_iff_not] at z2 z3
      omega
    rw [q,cond_true]
    by_cases h10:t.Kind=10
    ·have e2:(t.Kind != 10)=false:=by simp [h10]
     rw [e2,Bool.and_false]
    rw [if_neg h10,if_pos (by omega),Bool.false_and]
   have hg:2≤t.Kind∧t.Kind≤9∧¬ 0 < t.Words.length∧¬ 1048576≤t.Kids.length:=by omega
   have q2:decide (0 < (t.Words.length:Int))=false:=by rw [decide_eq_false_iff_not];omega
   have q3:decide (1048576≤(t.Kids.length:Int))=false:=by rw [decide_eq_false_iff_not];omega
   have e10:¬ t.Kind=10:=by omega
   have e2:(t.Kind != 10)=true:=by simp [e10]
   rw [decide_eq_true hg.1,decide_eq_true hg.2.1,q2,q3,e2,if_neg e10,if_neg (by omega),Bool.and_true]
   simp only [Bool.and_true,Bool.not_true,cond_false]
   by_cases h8:t.Kind=8
   ·have e:(t.Kind == 8)=true:=by simp [h8]
    have ho:∀ x:Tr,okk t.Kind x=(x.Kind != 10):=fun x=>by unfold okk;rw [h8,if_neg (by decide)];simp
    rw [e,cond_true,Option.bind_some]
    simp only [ho]
    rfl
   have e8:(t.Kind == 8)=false:=by simp [h8]
   rw [e8,cond_false]
   by_cases h9:t.Kind=9
   ·have e:(t.Kind == 9)=true:=by simp [h9]
    have ho:∀ x:Tr,(rt x d' && okk t.Kind x)=(rq x d' && x.Kind == 1):=fun x=>by
     unfold okk rq
     rw [h9,if_neg (by decide)]
     have:((9:Int) != 9)=false:=rfl
     rw [this,Bool.false_or,Bool.and_assoc]
    rw [e,cond_true,Z7f (by omega),Option.bind_some]
    simp only [ho]
    rw [Zv9]
    cases t.Kids.all fun x=>x.Kind == 1 with
    | false=>rw [Bool.and_false];rfl
    | true=>rw [Bool.and_true];rfl
   have e:(t.Kind == 9)=false:=by simp [h9]
   have hd7:2≤t.Kind∧t.Kind≤7:=by omega
   rw [e,cond_false,Kg (by omega) (by omega),i4 t.Kids (t.Kind - 2) hb.all (by omega) (by omega) (by omega) (by have:=Z54 t;omega),Option.bind_some]
   congr 1
   refine Z0u fun x hx => ?_
   unfold okk ra
   rw [if_pos hd7]
   by_cases hx10:x.Kind=10
   ·rw [Yel hx10 d' 64]
    have:(x.Kind == 10)=true:=by simp [hx10]
    rw [this,Bool.true_and,Bool.true_and]
   have:(x.Kind == 10)=false:=by simp [hx10]
   rw [this,Bool.false_and,Bool.false_and,Bool.and_false]
  ·show Zdd (Zx k).1 (Zx k).2.1 (Zx k).2.2.1 (Zx k).2.2.2 l (d:Int)=_
   unfold Zdd
   rw [Zck l (Gs (Zx k).2.1 l (d:Int)) (fun x=>rq x d) (.inl ()) (.inr ()) hn (fun i x hi hx hm=>by
    unfold Gs
    rw [Ua hi,cond_true,Yf hx,Option.bind_some,i2 x d (hl x hm).1 (by have:=(hl x hm).2;omega) hd,Option.bind_some]
    cases rq x d <;> rfl) (by unfold Gs;rw [Uo];rfl),Option.bind_some]
   cases l.all fun x=>rq x d <;> rfl
  show Zdc (Zx k).1 (Zx k).2.1 (Zx k).2.2.1 (Zx k).2.2.2 l c=_
  unfold Zdc
  rw [Zck l (Gr (Zx k).1 l c) (ra c) (.inl ()) (.inr ()) hn (fun i x hi hx hm=>by
   unfold Gr ra
   rw [Ua hi,cond_true,Yf hx,Option.bind_some]
   by_cases hx10:x.Kind=10
   ·have e:(x.Kind == 10)=true:=by simp [hx10]
    have e2:(x.Kind != 10)=false:=by simp [hx10]
    rw [e,e2,cond_false,i1 x (hl x hm) (.inr ⟨hx10,by omega⟩),Option.bind_some,Bool.true_and]
    cases hr:rt x 64 with
    | false=>rfl
    | true =>
     obtain ⟨w,hw⟩:=Z1j hx10 hr
     have hu:=(hl x hm).u w (by rw [hw];exact .head _)
     have hg0:Yx [w] (0:Int)=some w:=rfl
     rw [cond_true,hw,hg0,Option.bind_some,Ydf h0 h5 hu.1,Option.bind_some]
     simp only [cond_false,List.headD_cons,Bool.true_and,Bool.not_true]
     cases Zvi c w <;> rfl
   have e:(x.Kind == 10)=false:=by simp [hx10]
   have e2:(x.Kind != 10)=true:=by simp [hx10]
   rw [e,e2]
   rfl) (by unfold Gr;rw [Uo];rfl),Option.bind_some]
  cases l.all (ra c) <;> rfl
theorem Z52 {t:Tr} (h:Bd t):Zi6 t=some (rt t 64):=Zeh (2 * SizeOf.sizeOf t+2) fun k hk=>(Z51 k).1 t h (.inl (by omega))
theorem Zu7 (k:Nat):256 ^ k=2 ^ (8 * k):=by rw [Nat.pow_mul]
def Gc (m:Nat):Nat→Nat
 | 0=>0
 | k+1=>Gc m k+(if m / 2 ^ k % 2=1 then 255 * 256 ^ k else 0)
theorem Z6c (m:Nat):∀ k,Gc m k < 256 ^ k
 | 0=>by simp [Gc]
 | k+1=>by
  have:=Z6c m k
  have h:256 ^ (k+1)=256 * 256 ^ k:=by rw [Nat.pow_succ,Nat.mul_comm]
  simp only [Gc]
  split <;> omega
theorem Yao {k:Nat} (hk:k < 8):256 ^ (k+1)≤2 ^ 64:=by
 rw [Zu7];exact Nat.pow_le_pow_right (by decide) (by omega)
def Zui (m i:Nat):Bool:=decide (m / 2 ^ i % 2=1)
theorem Yf6 {m i:Nat} (h:Zui m i=true):m / 2 ^ i % 2=1:=of_decide_eq_true h
theorem Yf5 {m i:Nat} (h:Zui m i=false):¬ m / 2 ^ i % 2=1:=of_decide_eq_false h
theorem Yba (q:Nat):((q:Int) % 2 == 1)=decide (q % 2=1):=by rw [Bool.eq_iff_iff];simp;omega
def Zno (f:Nat→Nat):Nat→Nat
 | 0=>0
 | k+1=>2 ^ (8 * k) * f k+Zno f k
theorem Zyu (f:Nat→Nat) (hf:∀ k,f k < 256):∀ k,Zno f k < 2 ^ (8 * k)
 | 0=>by simp [Zno]
 | k+1=>by
  have h1:=Zyu f hf k
  have h2:=hf k
  have h3:2 ^ (8 * (k+1))=2 ^ (8 * k) * 256:=by rw [Nat.mul_add,Nat.pow_add]
  have h4:2 ^ (8 * k) * f k≤2 ^ (8 * k) * 255:=Nat.mul_le_mul_left _ (by omega)
  simp only [Zno]
  omega
theorem Zuk (f:Nat→Nat) (hf:∀ k,f k < 256) (i:Nat):∀ k,Nat.testBit (Zno f k) i=(decide (i < 8 * k) && Nat.testBit (f (i / 8)) (i % 8))
 | 0=>by simp [Zno]
 | k+1=>by
  have h:=Zuk f hf i k
  simp only [Zno]
  rw [Nat.testBit_two_pow_mul_add _ (Zyu f hf k)]
  by_cases h1:i < 8 * k
  ·rw [if_pos h1,h]
   simp [h1,show i < 8 * (k+1) by omega]
  rw [if_neg h1]
  by_cases h2:i < 8 * (k+1)
  ·have h3:i / 8=k:=by omega
   have h4:i - 8 * k=i % 8:=by omega
   rw [h3,h4]
   simp [h2]
  have h5:f k < 2 ^ (i - 8 * k):=Nat.lt_of_lt_of_le (hf k) (Nat.pow_le_pow_right (n:=2) (by decide) (show 8≤i - 8 * k by omega))
  rw [Nat.testBit_lt_two_pow h5]
  simp [h2]
def Zas (n k:Nat):Nat:=n / 256 ^ k % 256
theorem Ybc (n k:Nat):Zas n k < 256:=Nat.mod_lt _ (by decide)
theorem Z96 (n k j:Nat) (hj:j < 8):Nat.testBit (Zas n k) j=Nat.testBit n (8 * k+j):=by
 unfold Zas
 rw [Zu7,show (256:Nat)=2 ^ 8 from rfl,Nat.testBit_mod_two_pow,Nat.testBit_div_two_pow]
 simp [hj,Nat.add_comm]
def Zlo (a b m k:Nat):Nat:=if Zui m k then Zas b k else Zas a k
theorem Z8d (a b m k:Nat):Zlo a b m k < 256:=by unfold Zlo;split <;> exact Ybc _ _
def Yd7 (a b m:Nat):Nat:=Zno (Zlo a b m) 8
def Z6a (m k:Nat):Nat:=if Zui m k then 255 else 0
theorem Z6b (m k:Nat):Z6a m k < 256:=by unfold Z6a;split <;> decide
theorem Zvg (m:Nat):∀ k,Gc m k=Zno (Z6a m) k
 | 0=>rfl
 | k+1=>by
  simp only [Gc,Zno,Zvg m k,Z6a,Zui,decide_eq_true_eq]
  rw [Zu7]
  split <;> omega
theorem Yf4 (j:Nat) (hj:j < 8):Nat.testBit 255 j=true:=by
 rw [show (255:Nat)=2 ^ 8 - 1 from rfl,Nat.testBit_two_pow_sub_one];simp [hj]
theorem Yaz (m i:Nat) (hi:i < 64):Nat.testBit (Gc m 8) i=Zui m (i / 8):=by
 rw [Zvg,Zuk _ (Z6b m)]
 unfold Z6a
 have:=Yf4 (i % 8) (Nat.mod_lt _ (by decide))
 cases Zui m (i / 8) <;> simp [hi,this]
theorem Zrs (m:Nat):Gc m 8 < 2 ^ 64:=by rw [Zvg];exact Zyu _ (Z6b m) 8
theorem Yb4 (a b m:Nat) (ha:a < 2 ^ 64) (hb:b < 2 ^ 64):(a &&& (18446744073709551615 - Gc m 8)) ||| (b &&& Gc m 8)=Yd7 a b m:=by
 refine Nat.eq_of_testBit_eq fun i => ?_
 unfold Yd7
 rw [Zuk _ (Z8d a b m),Nat.testBit_or,Nat.testBit_and,Nat.testBit_and,show (18446744073709551615 - Gc m 8)=2 ^ 64 - (Gc m 8+1) by have:=Zrs m;omega,Nat.testBit_two_pow_sub_succ (Zrs m)]
 by_cases hi:i < 64
 ·have h:=Yaz m i hi
  have hs:8 * (i / 8)+i % 8=i:=by omega
  have hj:i % 8 < 8:=Nat.mod_lt _ (by decide)
  rw [h]
  unfold Zlo
  cases Zui m (i / 8) <;> simp [hi,Z96 _ _ _ hj,hs]
 have h1:∀ n,n < 2 ^ 64→Nat.testBit n i=false:=fun n hn=>Nat.testBit_lt_two_pow (Nat.lt_of_lt_of_le hn (Nat.pow_le_pow_right (by decide) (by omega)))
 simp [h1 a ha,h1 b hb,hi]
theorem Ye3 (q:Nat):Int.tdiv (q:Int) 256=((q / 256:Nat):Int):=by rw [Int.tdiv_eq_ediv_of_nonneg (Int.natCast_nonneg _)];omega
theorem Yif (q:Nat):Int.tdiv (q:Int) 2=((q / 2:Nat):Int):=by rw [Int.tdiv_eq_ediv_of_nonneg (Int.natCast_nonneg _)];omega
theorem Ye4 (q:Nat):IntKind.u8.wrap (Int.tmod (q:Int) 256)=((q % 256:Nat):Int):=by rw [Int.tmod_eq_emod_of_nonneg (Int.natCast_nonneg _),IntKind.wrap_u8'];omega
theorem Yc9 (q:Nat) (h:q < 18446744073709551616):IntKind.u64.wrap (q:Int)=(q:Int):=Yda (by omega)
theorem u8n (q:Nat) (h:q < 256):IntKind.u8.wrap (q:Int)=(q:Int):=by rw [IntKind.wrap_u8'];omega
theorem lt8 {k:Nat} (h:k < 8):k=0∨k=1∨k=2∨k=3∨k=4∨k=5∨k=6∨k=7:=by omega
theorem Ybb (m k:Nat) (hm:m < 256) (hk:k < 8):(IntKind.u8.wrap (Zln .u8 (Int.fdiv (m:Int) (2 ^ min (Int.toNat (k:Int)) 8)) 1) == 1)=Zui m k:=by
 have e1:Int.fdiv (m:Int) (2 ^ min (Int.toNat (k:Int)) 8)=((m / 2 ^ k:Nat):Int):=by
  rw [Int.toNat_natCast,Nat.min_eq_left (by omega),Int.fdiv_eq_ediv_of_nonneg _ (Int.le_of_lt (Int.pow_pos (by decide)))]
  simp only [Int.natCast_ediv,Int.natCast_pow]
  rfl
 have hq:m / 2 ^ k < 256:=Nat.lt_of_le_of_lt (Nat.div_le_self _ _) hm
 have e2:=Z5d .u8 (m / 2 ^ k) 1 (by simpa [IntKind.bits] using hq) (by simp [IntKind.bits])
 have e3:(m / 2 ^ k) &&& 1=m / 2 ^ k % 2:=Nat.and_one_is_mod _
 have e4:((1:Nat):Int)=1:=rfl
 rw [e4] at e2
 rw [e1,e2,e3,IntKind.wrap_u8']
 unfold Zui
 rw [Bool.eq_iff_iff,beq_iff_eq,decide_eq_true_eq]
 omega
theorem Ygm {a b i:Nat} (ha:a < 2 ^ i) (hb:b % 2 ^ i=0):a ||| b=a+b:=by
 obtain ⟨q,rfl⟩:∃ q,b=2 ^ i * q:=⟨b / 2 ^ i,by have:=Nat.div_add_mod b (2 ^ i);omega⟩
 rw [Nat.or_comm,Nat.add_comm,Nat.two_pow_add_eq_or_of_lt ha]
theorem Ye8 (m k:Nat) (hk:k < 8):IntKind.u64.wrap (Z62 .u64 (Gc m k:Nat) (IntKind.u64.wrap (255 * 2 ^ min (Int.toNat (IntKind.i64.wrap (8 * (k:Int)))) 64)))=((Gc m k+255 * 256 ^ k:Nat):Int):=by
 have h1:=Z6c m k
 have h2:=Yao hk
 have h3:256 ^ (k+1)=256 * 256 ^ k:=by rw [Nat.pow_succ,Nat.mul_comm]
 have e0:(IntKind.i64.wrap (8 * (k:Int))).toNat=8 * k:=by rw [Z2b (by omega)];omega
 have e:(255 * 2 ^ (8 * k):Int)=((255 * 256 ^ k:Nat):Int):=by rw [Zu7];simp only [Int.natCast_mul,Int.natCast_pow];rfl
 have e2:Gc m k ||| 255 * 256 ^ k=Gc m k+255 * 256 ^ k:=Ygm (i:=8 * k) (by rw [← Zu7];exact h1) (by rw [← Zu7];exact Nat.mul_mod_left _ _)
 rw [e0,Nat.min_eq_left (by omega),e,Yc9 (255 * 256 ^ k) (by omega),Yg6 _ _ (by omega) (by omega),e2,Yc9 _ (by omega)]
theorem Z1o (m:Nat) (hm:m < 256):∀ j i:Nat,i+j=8→Zs (Zek (m:Int)) (((Gc m i:Nat):Int),(i:Int))=some ((Gc m 8:Nat):Int)
 | 0,i,h=>by
  obtain rfl:i=8:=by omega
  exact Y2 rfl
 | j+1,i,h=>by
  have hs:Zek (m:Int) (((Gc m i:Nat):Int),(i:Int))=some (.inl (((Gc m (i+1):Nat):Int),((i+1:Nat):Int))):=by
   unfold Zek
   have e:decide ((i:Int) < 8)=true:=by rw [decide_eq_true_eq];omega
   simp only
   rw [e,cond_true,Zut (by omega),Option.bind_some,Ybb m i hm (by omega),Z2b (x:=(i:Int)+1) (by omega)]
   have hw:Gc m (i+1)=Gc m i+(if m / 2 ^ i % 2=1 then 255 * 256 ^ i else 0):=rfl
   cases hb:Zui m i with
   | true =>
    rw [cond_true,Zut (by rw [Z2b (by omega)];omega),Option.bind_some,Ye8 m i (by omega),hw,if_pos (Yf6 hb)]
    rfl
   | false =>
    rw [cond_false,hw,if_neg (Yf5 hb)]
    rfl
  rw [Y9 hs]
  exact Z1o m hm j (i+1) (by omega)
theorem Ye7 (m:Nat) (hm:m < 256):Zgb (m:Int)=some ((Gc m 8:Nat):Int):=by
 unfold Zgb
 have:=Z1o m hm 8 0 rfl
 rw [show ((Gc m 0:Nat):Int)=0 from rfl,show ((0:Nat):Int)=0 from rfl] at this
 rw [this]
 rfl
def ofF (f:Nat→Nat):Arr Int 8:=⟨[(f 0:Nat),(f 1:Nat),(f 2:Nat),(f 3:Nat),(f 4:Nat),(f 5:Nat),(f 6:Nat),(f 7:Nat)],rfl⟩
theorem Zw7 (f:Nat→Nat) (k:Nat) (hk:k < 8):Yx (ofF f).1 (k:Int)=some ((f k:Nat):Int):=by
 rcases lt8 hk with rfl | rfl | rfl | rfl | rfl | rfl | rfl | rfl <;> rfl
theorem Z8i (f:Nat→Nat) (k v:Nat) (hk:k < 8):Arr.put (ofF f) (k:Int) (v:Int)=ofF (fun i=>if i=k then v else f i):=by
 rcases lt8 hk with rfl | rfl | rfl | rfl | rfl | rfl | rfl | rfl <;> rfl
theorem Z1a {f g:Nat→Nat} (h:∀ k,k < 8→f k=g k):ofF f=ofF g:=by
 unfold ofF
 simp only [h 0 (by decide),h 1 (by decide),h 2 (by decide),h 3 (by decide),h 4 (by decide),h 5 (by decide),h 6 (by decide),h 7 (by decide)]
theorem Zyv (n:Nat) (hn:n < 18446744073709551616):∀ j i:Nat,i+j=8→Zs Ve (((n / 256 ^ i:Nat):Int),(i:Int),ofF (fun q=>if q < i then Zas n q else 0))=some (ofF (Zas n))
 | 0,i,h=>by
  obtain rfl:i=8:=by omega
  refine (Y2 (r:=ofF (fun q=>if q < 8 then Zas n q else 0)) rfl).trans ?_
  rw [Z1a (g:=Zas n) fun k hk=>if_pos hk]
 | j+1,i,h=>by
  have hs:Ve (((n / 256 ^ i:Nat):Int),(i:Int),ofF (fun q=>if q < i then Zas n q else 0))=some (.inl (((n / 256 ^ (i+1):Nat):Int),((i+1:Nat):Int),ofF (fun q=>if q < i+1 then Zas n q else 0))):=by
   unfold Ve
   have e:decide ((i:Int) < 8)=true:=by rw [decide_eq_true_eq];omega
   simp only
   have q1:n / 256 ^ i≤n:=Nat.div_le_self _ _
   have q2:n / 256 ^ i / 256=n / 256 ^ (i+1):=by rw [Nat.div_div_eq_div_mul,Nat.pow_succ]
   have q3:Int.tdiv ((n / 256 ^ i:Nat):Int) 256=((n / 256 ^ (i+1):Nat):Int):=by rw [← q2,Ye3]
   have q4:IntKind.u8.wrap (Int.tmod ((n / 256 ^ i:Nat):Int) 256)=((Zas n i:Nat):Int):=by
    rw [Ye4]
    rfl
   have q5:n / 256 ^ (i+1)≤n:=Nat.div_le_self _ _
   rw [e,cond_true,Zw7 _ _ (by omega),Option.bind_some,q3,q4,Yc9 _ (Nat.lt_of_le_of_lt q5 hn),Z2b (x:=(i:Int)+1) (by omega),Z8i _ _ _ (by omega)]
   have e5:(fun q=>if q=i then Zas n i else if q < i then Zas n q else 0)=fun q=>if q < i+1 then Zas n q else 0:=by
    funext q
    by_cases h1:q=i
    ·rw [if_pos h1,if_pos (by omega),h1]
    rw [if_neg h1]
    by_cases h2:q < i
    ·rw [if_pos h2,if_pos (by omega)]
    rw [if_neg h2,if_neg (by omega)]
   rw [e5]
   rfl
  rw [Y9 hs]
  exact Zyv n hn j (i+1) (by omega)
theorem Z4q (n:Nat) (hn:n < 18446744073709551616):Vi (n:Int)=some (ofF (Zas n)):=by
 unfold Vi
 have h:=Zyv n hn 8 0 rfl
 have e:ofF (fun q=>if q < 0 then Zas n q else 0)=⟨[0,0,0,0,0,0,0,0],rfl⟩:=rfl
 rw [e,Nat.pow_zero,Nat.div_one,show ((0:Nat):Int)=0 from rfl] at h
 rw [Option.bind_some,Option.bind_some,h]
 rfl
theorem Zzk (m n:Nat) (hm:m < 256) (hn:n≤8):∀ j i:Nat,i+j=n→Zs (Jp (n:Int)) (((m / 2 ^ i:Nat):Int),(i:Int))=some ((m / 2 ^ n:Nat):Int)
 | 0,i,h=>by
  obtain rfl:i=n:=by omega
  refine Y2 ?_
  unfold Jp
  have e:decide ((i:Int) < (i:Int))=false:=by rw [decide_eq_false_iff_not];omega
  simp only
  rw [e,cond_false]
 | j+1,i,h=>by
  have hs:Jp (n:Int) (((m / 2 ^ i:Nat):Int),(i:Int))=some (.inl (((m / 2 ^ (i+1):Nat):Int),((i+1:Nat):Int))):=by
   unfold Jp
   have e:decide ((i:Int) < (n:Int))=true:=by rw [decide_eq_true_eq];omega
   have q1:m / 2 ^ i≤m:=Nat.div_le_self _ _
   have q2:m / 2 ^ i / 2=m / 2 ^ (i+1):=by rw [Nat.div_div_eq_div_mul,Nat.pow_succ]
   have q5:m / 2 ^ (i+1)≤m:=Nat.div_le_self _ _
   have q3:Int.tdiv ((m / 2 ^ i:Nat):Int) 2=((m / 2 ^ (i+1):Nat):Int):=by rw [← q2,Yif]
   have q4:IntKind.u8.wrap ((m / 2 ^ (i+1):Nat):Int)=((m / 2 ^ (i+1):Nat):Int):=u8n _ (Nat.lt_of_le_of_lt q5 hm)
   simp only
   rw [e,cond_true,q3,q4,Z2b (x:=(i:Int)+1) (by omega)]
   rfl
  rw [Y9 hs]
  exact Zzk m n hm hn j (i+1) (by omega)
theorem Yb7 (m n:Nat) (hm:m < 256) (hn:n≤8):Gt (m:Int) (n:Int)=some (Zui m n):=by
 unfold Gt
 have h:=Zzk m n hm hn n 0 (by omega)
 rw [Nat.pow_zero,Nat.div_one,show ((0:Nat):Int)=0 from rfl] at h
 rw [h,Option.bind_some,Int.tmod_eq_emod_of_nonneg (Int.natCast_nonneg _),Yba]
 rfl
theorem Z5h (a b m:Nat) (hm:m < 256):∀ j i:Nat,i+j=8→Zs (Uy (m:Int) (ofF (Zas b))) ((i:Int),ofF (fun q=>if q < i then Zlo a b m q else Zas a q))=some (ofF (Zlo a b m))
 | 0,i,h=>by
  obtain rfl:i=8:=by omega
  refine (Y2 (r:=ofF (fun q=>if q < 8 then Zlo a b m q else Zas a q)) rfl).trans ?_
  rw [Z1a (g:=Zlo a b m) fun k hk=>if_pos hk]
 | j+1,i,h=>by
  have hs:Uy (m:Int) (ofF (Zas b)) ((i:Int),ofF (fun q=>if q < i then Zlo a b m q else Zas a q))=some (.inl (((i+1:Nat):Int),ofF (fun q=>if q < i+1 then Zlo a b m q else Zas a q))):=by
   unfold Uy
   have e:decide ((i:Int) < 8)=true:=by rw [decide_eq_true_eq];omega
   simp only
   rw [e,cond_true,Yb7 m i hm (by omega),Option.bind_some,Z2b (x:=(i:Int)+1) (by omega)]
   have hne:∀ v,v=Zlo a b m i→(fun q=>if q=i then v else if q < i then Zlo a b m q else Zas a q)=fun q=>if q < i+1 then Zlo a b m q else Zas a q:=fun v hv=>by
    funext q
    by_cases h1:q=i
    ·rw [if_pos h1,if_pos (by omega),h1,hv]
    rw [if_neg h1]
    by_cases h2:q < i
    ·rw [if_pos h2,if_pos (by omega)]
    rw [if_neg h2,if_neg (by omega)]
   cases hb:Zui m i with
   | true =>
    rw [cond_true,Zw7 _ _ (by omega),Option.bind_some,Zw7 _ _ (by omega),Option.bind_some,Option.bind_some,Z8i _ _ _ (by omega),hne _ (by unfold Zlo;rw [hb,if_pos rfl])]
    rfl
   | false =>
    have e6:(fun q=>if q < i then Zlo a b m q else Zas a q)=fun q=>if q < i+1 then Zlo a b m q else Zas a q:=by
     funext q
     by_cases h1:q=i
     ·rw [if_neg (by omega),if_pos (by omega),h1]
      unfold Zlo
      rw [hb]
      rfl
     by_cases h2:q < i
     ·rw [if_pos h2,if_pos (by omega)]
     rw [if_neg h2,if_neg (by omega)]
    rw [cond_false,Option.bind_some,e6]
    rfl
  rw [Y9 hs]
  exact Z5h a b m hm j (i+1) (by omega)
def hiN (f:Nat→Nat):Nat→Nat→Nat
 | _,0=>0
 | i,n+1=>hiN f (i+1) n * 256+f i
theorem Ybr (f:Nat→Nat) (hf:∀ k,f k < 256):∀ n i,hiN f i n < 256 ^ n
 | 0,_=>by simp [hiN]
 | n+1,i=>by
  have h1:=Ybr f hf n (i+1)
  have h2:=hf i
  have h3:256 ^ (n+1)=256 * 256 ^ n:=by rw [Nat.pow_succ,Nat.mul_comm]
  simp only [hiN]
  omega
theorem Yd0 (f:Nat→Nat):hiN f 0 8=Zno f 8:=by simp only [hiN,Zno,Nat.reduceMul,Nat.reducePow,Nat.reduceAdd];omega
theorem Z8j (f:Nat→Nat) (hf:∀ k,f k < 256):∀ i n:Nat,i+n=8→Zs (Gu (ofF f).1 0) (((hiN f i n:Nat):Int),(i:Int) - 1)=some ((hiN f 0 8:Nat):Int)
 | 0,n,h=>by
  obtain rfl:n=8:=by omega
  exact Y2 rfl
 | i+1,n,h=>by
  have hs:Gu (ofF f).1 0 (((hiN f (i+1) n:Nat):Int),((i+1:Nat):Int) - 1)=some (.inl (((hiN f i (n+1):Nat):Int),(i:Int) - 1)):=by
   unfold Gu
   have e0:((i+1:Nat):Int) - 1=(i:Int):=by omega
   have e:decide (0≤(i:Int))=true:=by rw [decide_eq_true_eq];omega
   have h1:=Ybr f hf n (i+1)
   have h2:=hf i
   have h3:256 ^ n≤256 ^ 7:=Nat.pow_le_pow_right (by decide) (by omega)
   have h4:(256:Nat) ^ 7=72057594037927936:=by decide
   simp only
   rw [e0,e,cond_true,Int.zero_add,Z2b (x:=(i:Int)) (by omega),Zw7 _ _ (by omega),Option.bind_some,Yda (x:=((hiN f (i+1) n:Nat):Int) * 256) (by omega),Yda (x:=((f i:Nat):Int)) (by omega),Yda (by omega),Z2b (by omega)]
   have e7:((hiN f (i+1) n:Nat):Int) * 256+((f i:Nat):Int)=((hiN f i (n+1):Nat):Int):=by simp only [hiN];omega
   rw [e7]
  rw [Y9 hs]
  exact Z8j f hf i (n+1) (by omega)
theorem Ygj (a b m:Nat) (ha:a < 18446744073709551616) (hb:b < 18446744073709551616) (hm:m < 256):Zcl (a:Int) (b:Int) (m:Int)=some ((Yd7 a b m:Nat):Int):=by
 unfold Zcl
 have h:=Z5h a b m hm 8 0 rfl
 have e:ofF (fun q=>if q < 0 then Zlo a b m q else Zas a q)=ofF (Zas a):=rfl
 rw [e,show ((0:Nat):Int)=0 from rfl] at h
 have h2:=Z8j (Zlo a b m) (Z8d a b m) 8 0 rfl
 rw [Yd0,show ((8:Nat):Int) - 1=7 from rfl,show ((hiN (Zlo a b m) 8 0:Nat):Int)=0 from rfl] at h2
 rw [Z4q a ha,Option.bind_some,Z4q b hb,Option.bind_some,Option.bind_some,h,Option.bind_some]
 unfold Zfs
 rw [h2]
 rfl
def wi (x m:Int):Bool:=Yd7 x.toNat 0 m.toNat == 0
theorem Z1p {x m:Int} (h0:0≤x) (h1:x < 18446744073709551616) (m0:0≤m) (m1:m < 256):Ku x m=some (wi x m):=by
 obtain ⟨a,rfl⟩:=Int.eq_ofNat_of_zero_le h0
 obtain ⟨k,rfl⟩:=Int.eq_ofNat_of_zero_le m0
 unfold Ku wi
 rw [show (0:Int)=((0:Nat):Int) from rfl,Ygj a 0 k (by omega) (by decide) (by omega),Option.bind_some]
 congr 1
 rw [Bool.eq_iff_iff,beq_iff_eq,beq_iff_eq]
 simp only [Int.toNat_natCast]
 omega
theorem Zzz {x m:Int} (h0:0≤x) (h1:x < 18446744073709551616) (m0:0≤m) (m1:m < 256):(IntKind.u64.wrap (Zln .u64 x (IntKind.u64.wrap (Znp .u64 (if IntKind.signed .u64=true then -1 else IntKind.max .u64) ((Gc m.toNat 8:Nat):Int)))) != 0) = !(wi x m):=by
 obtain ⟨a,rfl⟩:=Int.eq_ofNat_of_zero_le h0
 obtain ⟨k,rfl⟩:=Int.eq_ofNat_of_zero_le m0
 have hw:=Zrs k
 have e0:(if IntKind.signed .u64=true then -1 else IntKind.max .u64)=((18446744073709551615:Nat):Int):=by decide
 have e1:18446744073709551615 ^^^ Gc k 8=18446744073709551615 - Gc k 8:=by
  refine Nat.eq_of_testBit_eq fun i => ?_
  rw [Nat.testBit_xor,show (18446744073709551615 - Gc k 8)=2 ^ 64 - (Gc k 8+1) by omega,Nat.testBit_two_pow_sub_succ hw,show (18446744073709551615:Nat)=2 ^ 64 - 1 from rfl,Nat.testBit_two_pow_sub_one]
  by_cases hi:i < 64
  ·simp [hi]
  rw [Nat.testBit_lt_two_pow (Nat.lt_of_lt_of_le hw (Nat.pow_le_pow_right (by decide) (by omega)))]
  simp [hi]
 have e2:=Yb4 a 0 k (by omega) (by decide)
 rw [Nat.zero_and,Nat.or_zero] at e2
 have e3:a &&& (18446744073709551615 - Gc k 8)≤a:=Nat.and_le_left
 unfold wi
 simp only [Int.toNat_natCast]
 rw [e0,Ygi _ _ (by decide) (by omega),e1,Yc9 (18446744073709551615 - Gc k 8) (by omega),Ygf _ _ (by omega) (by omega),Yc9 _ (by omega),e2,bne]
 congr 1
 rw [Bool.eq_iff_iff,beq_iff_eq,beq_iff_eq]
 omega
abbrev Ed:=Zb
theorem Q6 {e:Ed} {k:Zj} (h:k∈e.Kids):SizeOf.sizeOf k.E < SizeOf.sizeOf e:=by
 obtain ⟨a,b,c,d,ks,f,g⟩:=e
 obtain ⟨i,x⟩:=k
 have h1:=List.sizeOf_lt_of_mem h
 simp only [Zb.mk.sizeOf_spec,Zj.mk.sizeOf_spec] at h1 ⊢
 omega
theorem Vp {e:Ed} {o:Zg} (h:o∈e.Ops):SizeOf.sizeOf o.E < SizeOf.sizeOf e:=by
 obtain ⟨a,b,c,d,ks,f,os⟩:=e
 obtain ⟨i,n,l,x⟩:=o
 have h1:=List.sizeOf_lt_of_mem h
 simp only [Zb.mk.sizeOf_spec,Zg.mk.sizeOf_spec] at h1 ⊢
 omega
theorem Zn5 (e:Ed):0 < SizeOf.sizeOf e:=by
 obtain ⟨a,b,c,d,ks,f,g⟩:=e
 simp only [Zb.mk.sizeOf_spec]
 omega
inductive BE:Ed→Prop
 | mk (e:Ed) (h1:Bd e.Old) (h2:Bd e.New) (h3:(e.Words.length:Int)≤140737488355328) (h4:∀ w∈e.Words,(0≤w.Mask∧w.Mask < 256)∧(0≤w.Old∧w.Old < 18446744073709551616)∧(0≤w.New∧w.New < 18446744073709551616))
   (h5:(e.Kids.length:Int)≤140737488355328) (h6:∀ k∈e.Kids,BE k.E) (h7:(e.Ops.length:Int)≤140737488355328) (h8:∀ o∈e.Ops,o.L.length * 56≤140737488355328∧∀ t∈o.L,Bd t) (h9:∀ o∈e.Ops,BE o.E):BE e
theorem BE.old {e:Ed} (h:BE e):Bd e.Old:=by cases h;assumption
theorem BE.new {e:Ed} (h:BE e):Bd e.New:=by cases h;assumption
theorem BE.w {e:Ed} (h:BE e):(e.Words.length:Int)≤140737488355328:=by cases h;assumption
theorem BE.ws {e:Ed} (h:BE e):∀ w∈e.Words,(0≤w.Mask∧w.Mask < 256)∧(0≤w.Old∧w.Old < 18446744073709551616)∧(0≤w.New∧w.New < 18446744073709551616):=by cases h;assumption
theorem BE.k {e:Ed} (h:BE e):(e.Kids.length:Int)≤140737488355328:=by cases h;assumption
theorem BE.ks {e:Ed} (h:BE e):∀ k∈e.Kids,BE k.E:=by cases h;assumption
theorem BE.o {e:Ed} (h:BE e):(e.Ops.length:Int)≤140737488355328:=by cases h;assumption
theorem BE.l {e:Ed} (h:BE e):∀ o∈e.Ops,o.L.length * 56≤140737488355328∧∀ t∈o.L,Bd t:=by cases h;assumption
theorem BE.os {e:Ed} (h:BE e):∀ o∈e.Ops,BE o.E:=by cases h;assumption
theorem Zfm {α:Type} (a b:Int) (x y:α):cond (a == b) x y=if a=b then x else y:=by
 by_cases h:a=b
 ·rw [beq_iff_eq.2 h,if_pos h];rfl
 rw [beq_eq_false_iff_ne.2 h,if_neg h];rfl
theorem Zr4 {α:Type} (a b:Int) (x y:α):cond (a != b) x y=if a=b then y else x:=by
 by_cases h:a=b
 ·have:(a != b)=false:=by simp [h]
  rw [this,if_pos h];rfl
 have:(a != b)=true:=by simp [h]
 rw [this,if_neg h];rfl
def chk {α:Type} (pl:α→Int) (ok:Int→α→Bool):Int→List α→Bool
 | _,[]=>true
 | p,x::xs=>ok p x && chk pl ok (pl x) xs
theorem Zsi {α R:Type} (xs:List α) (pl:α→Int) (ok:Int→α→Bool) (step:Int×Int→Option ((Int×Int) ⊕ R)) (e o:R) (hl:(xs.length:Int)≤140737488355328)
  (h1:∀ (p:Int) (i:Nat) (x:α),i < xs.length→xs[i]? = some x→x∈xs→step (p,(i:Int))=some (if ok p x=true then .inl (pl x,IntKind.i64.wrap ((i:Int)+1)) else .inr e)) (h2:∀ p,step (p,(xs.length:Int))=some (.inr o)) (p:Int):Zs step (p,0)=some (if chk pl ok p xs=true then o else e):=by
 have key:∀ (ys:List α) (i:Nat) (p:Int),xs.drop i=ys→i≤xs.length→Zs step (p,(i:Int))=some (if chk pl ok p ys=true then o else e):=fun ys=>by
  induction ys with
  | nil =>
   intro i p h hi
   have:i=xs.length:=by
    have:=congrArg List.length h
    rw [List.length_drop,List.length_nil] at this
    omega
   subst this
   exact Y2 (h2 p)
  | cons x ys ih =>
   intro i p h hi
   have hx:xs[i]? = some x:=by
    have:=congrArg (fun l=>l[0]?) h
    simpa using this
   have hi':i < xs.length:=by
    rcases Nat.lt_or_ge i xs.length with h' | h'
    ·exact h'
    rw [List.getElem?_eq_none h'] at hx;cases hx
   have hs:=h1 p i x hi' hx (List.mem_of_getElem? hx)
   have hd:xs.drop (i+1)=ys:=by
    have:=congrArg List.tail h
    rwa [List.tail_drop,List.tail_cons] at this
   cases hk:ok p x with
   | false =>
    rw [hk] at hs
    rw [Y2 (by simpa using hs)]
    simp [chk,hk]
   | true =>
    rw [hk,if_pos rfl,Kg (by omega) (by omega)] at hs
    have e1:(i:Int)+1=((i+1:Nat):Int):=by omega
    rw [e1] at hs
    rw [Y9 hs,ih (i+1) (pl x) hd (by omega)]
    simp [chk,hk]
 exact key xs 0 p rfl (Nat.zero_le _)
def Zbt (t:Tr):Bool:=t.Kind == 0 && (t.Words.length == 0 && t.Kids.length == 0)
theorem Zw5 {t:Tr} (h:Bd t):Ji t=some (Zbt t):=by
 have:=h.w
 have:=h.k
 unfold Ji Zbt
 rw [Kg (by omega) (by omega),Zeb]
 congr 2
 rw [Bool.eq_iff_iff,Bool.and_eq_true,beq_iff_eq,beq_iff_eq,beq_iff_eq]
 omega
theorem Ztb {t:Tr} (h:Bd t):Gg t=some (!Zbt t):=by
 have:=h.w
 have:=h.k
 unfold Gg Zbt
 rw [Kg (by omega) (by omega)]
 congr 1
 cases h0:t.Kind == 0 with
 | false=>simp only [bne,h0];rfl
 | true =>
  simp only [bne,h0,Bool.not_true,cond_false,Bool.true_and]
  rw [Bool.eq_iff_iff,Bool.not_eq_true',decide_eq_true_eq,Bool.and_eq_false_iff,beq_eq_false_iff_ne,beq_eq_false_iff_ne]
  omega
def Zio (e:Ed):Bool:=e.Words.length == 0 && e.Kids.length == 0
def Zib (e:Ed):Bool:=e.List_ == 0 && e.Ops.length == 0
theorem Ydh {e:Ed} (h:BE e):decide (0 < IntKind.i64.wrap ((e.Words.length:Int)+(e.Kids.length:Int))) = !Zio e:=by
 have:=h.w
 have:=h.k
 unfold Zio
 rw [Kg (by omega) (by omega),Bool.eq_iff_iff,Bool.not_eq_true',decide_eq_true_eq,Bool.and_eq_false_iff,beq_eq_false_iff_ne,beq_eq_false_iff_ne]
 omega
theorem Yby (e:Ed):cond (e.List_ != 0) true (decide (0 < (e.Ops.length:Int))) = !Zib e:=by
 unfold Zib
 cases h0:e.List_ == 0 with
 | false=>simp only [bne,h0];rfl
 | true =>
  simp only [bne,h0,Bool.not_true,cond_false,Bool.true_and]
  rw [Bool.eq_iff_iff,Bool.not_eq_true',decide_eq_true_eq,beq_eq_false_iff_ne]
  omega
def Zjl (e:Ed):Bool:=Zbt e.Old && Zbt e.New
def Zcw (e:Ed):Bool:=e.Kind == 0 && (Zjl e && (Zio e && Zib e))
theorem Zqe {e:Ed} (h:BE e) (a b c:Bool):V7 a b c e=some ((!a || Zjl e) && ((!b || Zio e) && (!c || Zib e))):=by
 unfold V7
 rw [Ztb h.old,Ztb h.new,Ydh h,Yby]
 unfold Zjl
 simp only [Option.bind_some]
 generalize Zbt e.Old=p
 generalize Zbt e.New=q
 generalize Zio e=r
 generalize Zib e=s
 revert a b c p q r s
 decide
theorem Yc1 {e:Ed} (h:BE e):Ug e=some (Zcw e):=by
 have:=h.w
 have:=h.k
 have:=h.o
 unfold Ug Zcw
 rw [Zw5 h.old,Zw5 h.new]
 simp only [Option.bind_some]
 have e1:(IntKind.i64.wrap (IntKind.i64.wrap ((e.Words.length:Int)+(e.Kids.length:Int))+(e.Ops.length:Int)) == 0)=(Zio e && e.Ops.length == 0):=by
  unfold Zio
  rw [Kg (x:=(e.Words.length:Int)+(e.Kids.length:Int)) (by omega) (by omega),Kg (by omega) (by omega),Bool.eq_iff_iff,Bool.and_eq_true,Bool.and_eq_true,beq_iff_eq,beq_iff_eq,beq_iff_eq,beq_iff_eq]
  omega
 rw [e1]
 unfold Zjl Zib
 generalize Zbt e.Old=p
 generalize Zbt e.New=q
 generalize Zio e=r
 generalize (e.List_ == 0)=s
 generalize (e.Ops.length == 0)=u
 generalize (e.Kind == 0)=v
 revert p q r s u v
 decide
def okW (p:Int) (w:Zu):Bool := !(((((decide (w.At≤p) || decide (65534 < w.At)) || w.Mask == 0) || !(wi w.Old w.Mask)) || !(wi w.New w.Mask)))
theorem Z0q {l:List Zu} (hl:(l.length:Int)≤140737488355328) (h:∀ w∈l,(0≤w.Mask∧w.Mask < 256)∧(0≤w.Old∧w.Old < 18446744073709551616)∧(0≤w.New∧w.New < 18446744073709551616)):Za3 l=some (chk (·.At) okW (-1) l):=by
 unfold Za3
 rw [Zsi l (·.At) okW (V6 l) (.inl ()) (.inr ()) hl (fun p i x hi hx hm=>by
  obtain ⟨h1,h2,h3⟩:=h x hm
  have ew:Zgb x.Mask=some ((Gc x.Mask.toNat 8:Nat):Int):=by
   have:=Ye7 x.Mask.toNat (by omega)
   rwa [Int.toNat_of_nonneg h1.1] at this
  unfold V6
  simp only
  rw [Ua hi,cond_true,Yf hx,Option.bind_some,ew,Option.bind_some,Zzz h2.1 h2.2 h1.1 h1.2,Zzz h3.1 h3.2 h1.1 h1.2]
  unfold okW
  generalize decide (x.At≤p)=q1
  generalize decide (65534 < x.At)=q2
  generalize (x.Mask == 0)=q3
  generalize wi x.Old x.Mask=q4
  generalize wi x.New x.Mask=q5
  cases q1 <;> cases q2 <;> cases q3 <;> cases q4 <;> cases q5 <;> rfl) (fun p=>by unfold V6;simp only;rw [Uo];rfl) (-1),Option.bind_some]
 cases chk (·.At) okW (-1) l <;> rfl
theorem Yap {e:Ed} (h:BE e):Zs (Jm e) (-1,0)=some (if chk (·.At) okW (-1) e.Words=true then Sum.inr () else Sum.inl ()) :=
 Zsi e.Words (·.At) okW (Jm e) (.inl ()) (.inr ()) h.w (fun p i x hi hx hm=>by
  obtain ⟨h1,h2,h3⟩:=h.ws x hm
  unfold Jm
  simp only
  rw [Ua hi,cond_true,Yf hx,Option.bind_some,Z1p h2.1 h2.2 h1.1 h1.2,Z1p h3.1 h3.2 h1.1 h1.2]
  simp only [Option.bind_some]
  unfold okW
  generalize decide (x.At≤p)=q1
  generalize decide (65534 < x.At)=q2
  generalize (x.Mask == 0)=q3
  generalize wi x.Old x.Mask=q4
  generalize wi x.New x.Mask=q5
  cases q1 <;> cases q2 <;> cases q3 <;> cases q4 <;> cases q5 <;> rfl) (fun p=>by unfold Jm;simp only;rw [Uo];rfl) (-1)
theorem Zp2 {α S R σ:Type} (xs:List α) (mk:S→Int→σ) (f:S→α→S) (out:S→R) (I:S→Prop) (step:σ→Option (σ ⊕ R)) (hl:(xs.length:Int)≤140737488355328)
  (h1:∀ (s:S) (i:Nat) (x:α),I s→i < xs.length→xs[i]? = some x→x∈xs→I (f s x)∧step (mk s (i:Int))=some (.inl (mk (f s x) (IntKind.i64.wrap ((i:Int)+1))))) (h2:∀ s,I s→step (mk s (xs.length:Int))=some (.inr (out s))) (s:S) (hs:I s):Zs step (mk s 0)=some (out (xs.foldl f s))∧I (xs.foldl f s):=by
 have key:∀ (ys:List α) (i:Nat) (s:S),I s→xs.drop i=ys→i≤xs.length→Zs step (mk s (i:Int))=some (out (ys.foldl f s))∧I (ys.foldl f s):=fun ys=>by
  induction ys with
  | nil =>
   intro i s hI h hi
   have:i=xs.length:=by
    have:=congrArg List.length h
    rw [List.length_drop,List.length_nil] at this
    omega
   subst this
   exact ⟨Y2 (h2 s hI),hI⟩
  | cons x ys ih =>
   intro i s hI h hi
   have hx:xs[i]? = some x:=by
    have:=congrArg (fun l=>l[0]?) h
    simpa using this
   have hi':i < xs.length:=by
    rcases Nat.lt_or_ge i xs.length with h' | h'
    ·exact h'
    rw [List.getElem?_eq_none h'] at hx;cases hx
   obtain ⟨hI',hs⟩:=h1 s i x hI hi' hx (List.mem_of_getElem? hx)
   have hd:xs.drop (i+1)=ys:=by
    have:=congrArg List.tail h
    rwa [List.tail_drop,List.tail_cons] at this
   have e1:(i:Int)+1=((i+1:Nat):Int):=by omega
   rw [Kg (by omega) (by omega),e1] at hs
   rw [Y9 hs]
   exact ih (i+1) (f s x) hI' hd (by omega)
 exact key xs 0 s hs rfl (Nat.zero_le _)
def thr (o:Zg):Int:=if o.Kind=0 then (if 1048576 < (if o.N < 0 then 0 else o.N) then 1048576 else (if o.N < 0 then 0 else o.N)) else if o.Kind=1∨o.Kind=2 then (o.L.length:Int) else if o.Kind=3 then 1 else 0
theorem Ygp (o:Zg):Zco o=some (thr o):=by
 unfold Zco thr
 by_cases h0:o.Kind=0
 ·simp [h0]
 by_cases h1:o.Kind=1
 ·simp [h1]
 by_cases h2:o.Kind=2
 ·simp [h2]
 by_cases h3:o.Kind=3
 ·simp [h3]
 have e0:(o.Kind == 0)=false:=by simp [h0]
 have e1:(o.Kind == 1)=false:=by simp [h1]
 have e2:(o.Kind == 2)=false:=by simp [h2]
 have e3:(o.Kind == 3)=false:=by simp [h3]
 have h12:¬ (o.Kind=1∨o.Kind=2):=by omega
 rw [e0,e1,e2,e3,if_neg h0,if_neg h12,if_neg h3]
 rfl
theorem Z0b {o:Zg} (h:o.L.length * 56≤140737488355328):0≤thr o∧thr o≤140737488355328:=by
 unfold thr
 repeat' split
 all_goals omega
def Zfe (x:Int):Int:=if 1048576 < x then 1048576 else x
def stI (s:Int×Int) (o:Zg):Int×Int:=(if o.Kind=2 then s.1 else Zfe (s.1+thr o),if o.Kind=1 then s.2 else Zfe (s.2+thr o))
def Sm (s:Int×Int):Prop:=(0≤s.1∧s.1≤1048576)∧(0≤s.2∧s.2≤1048576)
theorem Zve {s:Int×Int} {o:Zg} (hs:Sm s) (h:o.L.length * 56≤140737488355328):Sm (stI s o):=by
 have:=Z0b h
 unfold Sm at hs ⊢
 unfold stI Zfe
 refine ⟨?_,?_⟩
 ·simp only
  split
  ·omega
  split <;> omega
 simp only
 split
 ·omega
 split <;> omega
theorem Z77 {e:Ed} (h:BE e):Km e=some (e.Ops.foldl stI (0,0))∧Sm (e.Ops.foldl stI (0,0)):=by
 obtain ⟨h1,h2⟩:=Zp2 e.Ops (fun (s:Int×Int) i=>(s.1,s.2,i)) stI (fun s=>(s.1,s.2)) Sm (Za2 e) h.o (fun s i x hs hi hx hm=>by
  have hb:=(h.l x hm).1
  have ht:=Z0b hb
  refine ⟨Zve hs hb,?_⟩
  unfold Sm at hs
  unfold Za2
  simp only
  rw [Ua hi,cond_true,Yf hx,Option.bind_some,Ygp]
  simp only [Option.bind_some]
  rw [Kg (x:=s.1+thr x) (by omega) (by omega),Kg (x:=s.2+thr x) (by omega) (by omega)]
  unfold stI Zfe
  rw [Zr4]
  by_cases k2:x.Kind=2
  ·simp [k2]
  by_cases k1:x.Kind=1
  ·simp [k1]
  simp [k1,k2,Zr4]) (fun s _=>by unfold Za2;simp only;rw [Uo];rfl) (0,0) (by unfold Sm;simp)
 refine ⟨?_,h2⟩
 unfold Km
 rw [h1]
 rfl
def Z0j (o:Zg):Int:=if o.Kind=3 then 1 else IntKind.i64.wrap (o.N+(o.L.length:Int))
def stR (s:Int×Int) (o:Zg):Int×Int:=(Zfe (if o.Kind=2 then s.1 else IntKind.i64.wrap (s.1+Z0j o)),Zfe (if o.Kind=1 then s.2 else IntKind.i64.wrap (s.2+Z0j o)))
theorem Z78 {e:Ed} (h:BE e):J8 e=some (e.Ops.foldl stR (0,0)):=by
 obtain ⟨h1,_⟩:=Zp2 e.Ops (fun (s:Int×Int) i=>(s.1,s.2,i)) stR (fun s=>(s.1,s.2)) (fun _=>True) (J9 e) h.o (fun s i x hs hi hx hm=>by
  refine ⟨trivial,?_⟩
  have hc:∀ a b:Int,((cond (decide (1048576 < a)) (some 1048576) (some a)).bind fun (z10:Int)=>cond (decide (1048576 < b)) (some (z10,1048576)) (some (z10,b)))=some (Zfe a,Zfe b):=fun a b=>by
   unfold Zfe
   by_cases q1:1048576 < a <;> by_cases q2:1048576 < b <;> simp [q1,q2]
  unfold J9
  simp only
  rw [Ua hi,cond_true,Yf hx,Option.bind_some]
  have e1:cond (x.Kind == 3) (some 1) (some (IntKind.i64.wrap (x.N+(x.L.length:Int))))=some (Z0j x):=by
   unfold Z0j
   rw [Zfm]
   split <;> rfl
  rw [e1,Option.bind_some]
  have e2:cond (x.Kind != 2) (some (IntKind.i64.wrap (s.1+Z0j x))) (some s.1)=some (if x.Kind=2 then s.1 else IntKind.i64.wrap (s.1+Z0j x)):=by
   rw [Zr4];split <;> rfl
  have e3:cond (x.Kind != 1) (some (IntKind.i64.wrap (s.2+Z0j x))) (some s.2)=some (if x.Kind=1 then s.2 else IntKind.i64.wrap (s.2+Z0j x)):=by
   rw [Zr4];split <;> rfl
  rw [e2,Option.bind_some,e3,Option.bind_some,hc]
  rfl) (fun s _=>by unfold J9;simp only;rw [Uo];rfl) (0,0) trivial
 unfold J8
 rw [h1]
 rfl
def Zki (l:Int) (e:Ed):Bool:=if l=8 then e.Kind != 0 else if l=9 then e.Kind == 2 || (e.Kind == 1 && (e.Old.Kind == 1 && e.New.Kind == 1)) else false
theorem Ydt (l:Int) (e:Ed):Zdf l e=some (Zki l e):=by
 unfold Zdf Zki
 by_cases h8:l=8
 ·simp [h8]
 by_cases h9:l=9
 ·subst h9
  generalize (e.Kind == 2)=a
  generalize (e.Kind == 1)=b
  generalize (e.Old.Kind == 1)=c
  generalize (e.New.Kind == 1)=d
  have k8:((9:Int) == 8)=false:=rfl
  have k9:((9:Int) == 9)=true:=rfl
  rw [k8,k9,if_neg (by decide),if_pos rfl]
  cases a <;> cases b <;> cases c <;> cases d <;> rfl
 have k8:(l == 8)=false:=by simp [h8]
 have k9:(l == 9)=false:=by simp [h9]
 rw [k8,k9,if_neg h8,if_neg h9]
 rfl
def okO (l:Int) (o:Zg) (r:Bool):Bool :=
 if o.Kind=0 then (decide (1≤o.N) && decide (o.N≤1048576)) && (o.L.length == 0 && Zcw o.E)
 else if o.Kind=1∨o.Kind=2 then o.N == 0 && (decide (0 < o.L.length) && ((o.L.all fun t=>rt t 63 && okk l t) && Zcw o.E))
 else if o.Kind=3 then o.N == 0 && (o.L.length == 0 && (o.E.Kind != 0 && (Zki l o.E && r)))
 else false
def Zh6 (s:Int×Int):Bool:=decide (s.1 < 1048576) && decide (s.2 < 1048576)
theorem Ycc {l:Int} {o:Zg} {r:Bool} (h:okO l o r=true):o.N+(o.L.length:Int)=(if o.Kind=3 then 0 else thr o)∧0≤thr o:=by
 unfold okO at h
 unfold thr
 by_cases h0:o.Kind=0
 ·rw [if_pos h0] at h
  simp only [Bool.and_eq_true,decide_eq_true_eq,beq_iff_eq] at h
  simp only [h0,if_pos]
  refine ⟨?_,?_⟩
  ·rw [if_neg (by decide)]
   repeat' split
   all_goals omega
  repeat' split
  all_goals omega
 rw [if_neg h0] at h
 by_cases h12:o.Kind=1∨o.Kind=2
 ·rw [if_pos h12] at h
  simp only [Bool.and_eq_true,beq_iff_eq] at h
  rw [if_neg h0,if_pos h12,if_neg (by omega)]
  omega
 rw [if_neg h12] at h
 by_cases h3:o.Kind=3
 ·rw [if_pos h3] at h
  simp only [Bool.and_eq_true,beq_iff_eq] at h
  rw [if_neg h0,if_neg h12,if_pos h3,if_pos h3]
  omega
 rw [if_neg h3] at h
 cases h
theorem Yem {l:Int} {o:Zg} {r:Bool} {s:Int×Int} (h:okO l o r=true) (hs:Sm s) (hl:o.L.length * 56≤140737488355328):stR s o=stI s o:=by
 have ht:=Z0b hl
 have hk:=Ycc h
 have hi:Z0j o=thr o:=by
  unfold Z0j
  by_cases h3:o.Kind=3
  ·rw [if_pos h3]
   unfold thr
   rw [if_neg (by omega),if_neg (by omega),if_pos h3]
  rw [if_neg h3] at hk ⊢
  rw [Kg (by omega) (by omega)]
  exact hk.1
 unfold Sm at hs
 unfold stR stI
 rw [hi,Kg (by omega) (by omega),Kg (by omega) (by omega)]
 have hc:∀ x:Int,x≤1048576→Zfe x=x:=fun x hx=>by unfold Zfe;rw [if_neg (by omega)]
 refine Prod.ext ?_ ?_
 ·simp only
  split
  ·exact hc _ hs.1.2
  rfl
 simp only
 split
 ·exact hc _ hs.2.2
 rfl
theorem Zlg {l:Int} (r:Zg→Bool):∀ (os:List Zg) (s:Int×Int),Sm s→(∀ o∈os,okO l o (r o)=true)→(∀ o∈os,o.L.length * 56≤140737488355328)→os.foldl stR s=os.foldl stI s∧Sm (os.foldl stI s)
 | [],s,hs,_,_=>⟨rfl,hs⟩
 | o::os,s,hs,h,hl=>by
  have h1:=Yem (h o (.head _)) hs (hl o (.head _))
  have:=Zlg r os (stI s o) (Zve hs (hl o (.head _))) (fun x hx=>h x (.tail _ hx)) (fun x hx=>hl x (.tail _ hx))
  rw [List.foldl_cons,List.foldl_cons,h1]
  exact this
theorem Z10:∀ (os:List Zg) (s:Int×Int),Sm s→(∀ o∈os,o.L.length * 56≤140737488355328)→(s.1=1048576→(os.foldl stI s).1=1048576)∧(s.2=1048576→(os.foldl stI s).2=1048576)
 | [],s,_,_=>⟨id,id⟩
 | o::os,s,hs,hl=>by
  have ht:=Z0b (hl o (.head _))
  have:=Z10 os (stI s o) (Zve hs (hl o (.head _))) (fun x hx=>hl x (.tail _ hx))
  rw [List.foldl_cons]
  refine ⟨fun h=>this.1 ?_,fun h=>this.2 ?_⟩
  ·unfold stI Zfe
   simp only
   repeat' split
   all_goals omega
  unfold stI Zfe
  simp only
  repeat' split
  all_goals omega
theorem Z4x {l:Int} (r:Zg→Bool):∀ (os:List Zg) (s:Int×Int),Sm s→(∀ o∈os,okO l o (r o)=true)→(∀ o∈os,o.L.length * 56≤140737488355328)→Zh6 (os.foldl stI s)=true→∀ o∈os,o.L.length < 1048576
 | [],s,hs,_,_,_=>fun o h=>by simp at h
 | o::os,s,hs,h,hl,hb=>by
  have hsm:=Zve hs (hl o (.head _))
  have hup:=Z10 os (stI s o) hsm (fun x hx=>hl x (.tail _ hx))
  rw [List.foldl_cons] at hb
  intro x hx
  rcases List.mem_cons.1 hx with rfl | hx
  ·have hb':=hb
   unfold Zh6 at hb'
   rw [Bool.and_eq_true,decide_eq_true_eq,decide_eq_true_eq] at hb'
   have n1:(stI s x).1≠1048576:=fun q=>by have:=hup.1 q;omega
   have n2:(stI s x).2≠1048576:=fun q=>by have:=hup.2 q;omega
   have hk:=Ycc (h x (.head _))
   have ht:=Z0b (hl x (.head _))
   have ho:=h x (.head _)
   unfold Sm at hs
   unfold okO at ho
   unfold stI Zfe at n1 n2
   simp only at n1 n2
   by_cases h0:x.Kind=0
   ·rw [if_pos h0] at ho
    simp only [Bool.and_eq_true,decide_eq_true_eq,beq_iff_eq] at ho
    omega
   rw [if_neg h0] at ho
   by_cases h1:x.Kind=1
   ·rw [if_pos (.inl h1)] at ho
    rw [if_neg (by omega)] at hk n1
    simp only [Bool.and_eq_true,beq_iff_eq] at ho
    split at n1 <;> omega
   by_cases h2:x.Kind=2
   ·rw [if_pos (.inr h2)] at ho
    rw [if_neg (by omega)] at hk n2
    simp only [Bool.and_eq_true,beq_iff_eq] at ho
    split at n2 <;> omega
   rw [if_neg (by omega)] at ho
   by_cases h3:x.Kind=3
   ·rw [if_pos h3] at ho
    simp only [Bool.and_eq_true,beq_iff_eq] at ho
    omega
   rw [if_neg h3] at ho
   cases ho
  exact Z4x r os (stI s o) hsm (fun x hx=>h x (.tail _ hx)) (fun x hx=>hl x (.tail _ hx)) hb x hx
theorem Yci {l:Int} (r:Zg→Bool) (os:List Zg) (hl:∀ o∈os,o.L.length * 56≤140737488355328) :
  ((os.all fun o=>okO l o (r o) && decide (o.L.length < 1048576)) && Zh6 (os.foldl stI (0,0)))=((os.all fun o=>okO l o (r o)) && Zh6 (os.foldl stR (0,0))):=by
 have h0:Sm (0,0):=by unfold Sm;simp
 cases ha:os.all fun o=>okO l o (r o) with
 | false =>
  rw [Zv9,ha,Bool.false_and,Bool.false_and,Bool.false_and]
 | true =>
  have hall:∀ o∈os,okO l o (r o)=true:=List.all_eq_true.1 ha
  have h1:=Zlg r os (0,0) h0 hall hl
  rw [Zv9,ha,h1.1,Bool.true_and,Bool.true_and]
  cases hb:Zh6 (os.foldl stI (0,0)) with
  | false=>rw [Bool.and_false]
  | true =>
   have:=Z4x r os (0,0) h0 hall hl hb
   rw [Bool.and_true]
   exact List.all_eq_true.2 fun o ho=>decide_eq_true (this o ho)
def okP (p:Int) (x:Int×Bool):Bool := !(decide (x.1≤p) || decide (65534 < x.1)) && x.2
theorem Z7t {α:Type} (g:α→Int×Bool):∀ (xs:List α) (p:Int),chk (·.1) okP p (xs.map g)=chk (fun x=>(g x).1) (fun p x=>okP p (g x)) p xs
 | [],_=>rfl
 | x::xs,p=>by rw [List.map_cons,chk,chk,Z7t g xs]
def rE (e:Ed) (d:Nat):Bool :=
 if d=0 then false
 else if e.Kind=0 then Zcw e
 else if e.Kind=1 then (Zio e && Zib e) && ((rt e.Old 64 && e.Old.Kind != 10) && (rt e.New 64 && e.New.Kind != 10))
 else if e.Kind=2 then (Zjl e && Zib e) && (chk (·.At) okW (-1) e.Words && chk (·.1) okP (-1) (e.Kids.attach.map fun k=>(k.1.At,k.1.E.Kind != 0 && rE k.1.E (d - 1))))
 else if e.Kind=3 then (Zjl e && Zio e) && ((decide (2≤e.List_) && decide (e.List_≤9)) && ((e.Ops.attach.map fun o=>okO e.List_ o.1 (rE o.1.E (d - 1))).all id && Zh6 (e.Ops.foldl stR (0,0))))
 else false
termination_by SizeOf.sizeOf e
decreasing_by
 ·exact Q6 k.2
 exact Vp o.2
def okK (d:Nat) (p:Int) (k:Zj):Bool:=okP p (k.At,k.E.Kind != 0 && rE k.E d)
theorem Zgf (e:Ed) (d:Nat):rE e d=if d=0 then false
 else if e.Kind=0 then Zcw e
 else if e.Kind=1 then (Zio e && Zib e) && ((rt e.Old 64 && e.Old.Kind != 10) && (rt e.New 64 && e.New.Kind != 10))
 else if e.Kind=2 then (Zjl e && Zib e) && (chk (·.At) okW (-1) e.Words && chk (·.At) (okK (d - 1)) (-1) e.Kids)
 else if e.Kind=3 then (Zjl e && Zio e) && ((decide (2≤e.List_) && decide (e.List_≤9)) && ((e.Ops.all fun o=>okO e.List_ o (rE o.E (d - 1))) && Zh6 (e.Ops.foldl stR (0,0))))
 else false:=by
 rw [rE]
 have h1:(e.Kids.attach.map fun k=>(k.1.At,k.1.E.Kind != 0 && rE k.1.E (d - 1)))=e.Kids.map fun k=>(k.At,k.E.Kind != 0 && rE k.E (d - 1)):=List.attach_map_val (f:=fun k:Zj=>(k.At,k.E.Kind != 0 && rE k.E (d - 1)))
 have h2:(e.Ops.attach.map fun o=>okO e.List_ o.1 (rE o.1.E (d - 1)))=e.Ops.map fun o=>okO e.List_ o (rE o.E (d - 1)):=List.attach_map_val (f:=fun o:Zg=>okO e.List_ o (rE o.E (d - 1)))
 rw [h1,h2,Z7t,List.all_map]
 rfl
theorem Z8p {e:Ed} (h:e.Kind=0) {d:Nat} (hd:0 < d):rE e d=Zcw e:=by rw [Zgf,if_neg (by omega),if_pos h]
theorem Yav {e:Ed} (h:¬ e.Kind=0):Zcw e=false:=by unfold Zcw;rw [beq_eq_false_iff_ne.2 h];rfl
theorem Z2h {n:Nat}:decide (0 < (n:Int)) = !(n == 0):=by rw [Bool.eq_iff_iff,Bool.not_eq_true',decide_eq_true_eq,beq_eq_false_iff_ne];omega
theorem Z5e {n:Nat}:decide (0 < n) = !(n == 0):=by rw [Bool.eq_iff_iff,Bool.not_eq_true',decide_eq_true_eq,beq_eq_false_iff_ne];omega
theorem Yfr {l:Int} {L:List Tr} (h2:2≤l) (h9:l≤9):rt ⟨l,[],L⟩ 64=(decide (L.length < 1048576) && L.all fun t=>rt t 63 && okk l t):=by
 rw [Znv]
 simp only
 rw [if_neg (by omega),if_neg (by omega)]
 by_cases h:L.length < 1048576
 ·rw [if_neg (by simp only [List.length_nil];omega),decide_eq_true h,Bool.true_and]
 rw [if_pos (by omega),decide_eq_false h,Bool.false_and]
def BO (o:Zg):Prop:=(o.L.length * 56≤140737488355328∧∀ t∈o.L,Bd t)∧BE o.E
theorem Yfc {l:Int} {L:List Tr} (h:L.length * 56≤140737488355328∧∀ t∈L,Bd t):Bd ⟨l,[],L⟩ := .mk _ (by simp) (by simp only;omega) (fun w hw=>by simp at hw) h.2
theorem Z0x:∀ (k:Nat),(∀ e:Ed,BE e→(4 * SizeOf.sizeOf e+1 < k∨(e.Kind=0∧2≤k))→(Zm k).1 e=some (rE e 64)) ∧
  (∀ (e:Ed) (d:Nat),BE e→(4 * SizeOf.sizeOf e < k∨(e.Kind=0∧1≤k))→d≤64→(Zm k).2.1 e (d:Int)=some (rE e d)) ∧
  (∀ (l:List Zj) (d:Nat),(l.length:Int)≤140737488355328→(∀ x∈l,BE x.E∧4 * SizeOf.sizeOf x.E+1 < k)→1≤k→d≤64→(Zm k).2.2.1 l (d:Int)=some (chk (·.At) (okK d) (-1) l)) ∧
  (∀ (e:Ed) (d:Nat),BE e→(∀ o∈e.Ops,4 * SizeOf.sizeOf o.E+2 < k)→1≤k→d≤64→(Zm k).2.2.2.1 e (d:Int)=some ((decide (2≤e.List_) && decide (e.List_≤9)) && ((e.Ops.all fun o=>okO e.List_ o (rE o.E d)) && Zh6 (e.Ops.foldl stR (0,0))))) ∧
  (∀ (l:Int) (o:Zg) (d:Nat),2≤l→l≤9→BO o→4 * SizeOf.sizeOf o.E+1 < k→d≤64→(Zm k).2.2.2.2.1 l o (d:Int)=some (okO l o (rE o.E d) && decide (o.L.length < 1048576))) ∧
  (∀ (a b c:Bool) (o:Zg),BE o.E→3≤k→(Zm k).2.2.2.2.2 a b c o=some ((!a || o.N == 0) && ((!b || o.L.length == 0) && (!c || Zcw o.E))))
 | 0=>⟨fun e _ h=>by omega,fun e d _ h=>by omega,fun l d _ _ h=>by omega,fun e d _ _ h=>by omega,fun l o d _ _ _ h=>by omega,fun a b c o _ h=>by omega⟩
 | k+1=>by
  obtain ⟨i1,i2,i3,i4,i5,i6⟩:=Z0x k
  refine ⟨fun e hb hk => ?_,fun e d hb hk hd => ?_,fun l d hn hl hk hd => ?_,fun e d hb ho hk hd => ?_,fun l o d h2 h9 hb hk hd => ?_,fun a b c o hb hk => ?_⟩
  ·show Zgi (Zm k).1 (Zm k).2.1 (Zm k).2.2.1 (Zm k).2.2.2.1 (Zm k).2.2.2.2.1 (Zm k).2.2.2.2.2 e=_
   unfold Zgi
   have:=i2 e 64 hb (by rcases hk with hk | hk;exact .inl (by omega);exact .inr ⟨hk.1,by omega⟩) (by decide)
   rw [show (64:Int)=((64:Nat):Int) from rfl,this]
   rfl
  ·show Zgj (Zm k).1 (Zm k).2.1 (Zm k).2.2.1 (Zm k).2.2.2.1 (Zm k).2.2.2.2.1 (Zm k).2.2.2.2.2 e (d:Int)=_
   unfold Zgj
   rw [Zgf]
   by_cases hd0:d=0
   ·subst hd0
    rw [if_pos rfl]
    rfl
   have ed:((d:Int) == 0)=false:=by rw [beq_eq_false_iff_ne];omega
   rw [if_neg hd0,ed,cond_false,Zfm,Zfm,Zfm,Zfm]
   by_cases h0:e.Kind=0
   ·rw [if_pos h0,if_pos h0,Zqe hb,Option.bind_some]
    unfold Zcw
    rw [beq_iff_eq.2 h0]
    rfl
   rw [if_neg h0,if_neg h0]
   have hk':4 * SizeOf.sizeOf e < k+1:=by rcases hk with hk | hk;exact hk;exact absurd hk.1 h0
   have hw:∀ t:Tr,Bd t→Zex t=some (rt t 64 && t.Kind != 10):=fun t ht=>by
    unfold Zex
    rw [Z52 ht]
    cases t.Kind != 10 <;> cases rt t 64 <;> rfl
   by_cases h1:e.Kind=1
   ·rw [if_pos h1,if_pos h1,Zqe hb,hw _ hb.old,hw _ hb.new]
    simp only [Option.bind_some]
    generalize Zjl e=q0
    generalize Zio e=q1
    generalize Zib e=q2
    generalize (rt e.Old 64 && e.Old.Kind != 10)=q3
    generalize (rt e.New 64 && e.New.Kind != 10)=q4
    revert q0 q1 q2 q3 q4
    decide
   rw [if_neg h1,if_neg h1]
   obtain ⟨d',rfl⟩:∃ d',d=d'+1:=⟨d - 1,by omega⟩
   have ed':IntKind.i64.wrap (((d'+1:Nat):Int) - 1)=(d':Int):=by rw [Kg (by omega) (by omega)];omega
   rw [ed',Nat.add_sub_cancel]
   by_cases h2:e.Kind=2
   ·rw [if_pos h2,if_pos h2,Zqe hb,Z0q hb.w hb.ws,i3 e.Kids d' hb.k (fun x hx=>⟨hb.ks x hx,by have:=Q6 hx;omega⟩) (by have:=Zn5 e;omega) (by omega)]
    simp only [Option.bind_some]
    generalize Zjl e=q0
    generalize Zio e=q1
    generalize Zib e=q2
    generalize chk (·.At) okW (-1) e.Words=q3
    generalize chk (·.At) (okK d') (-1) e.Kids=q4
    revert q0 q1 q2 q3 q4
    decide
   rw [if_neg h2,if_neg h2]
   by_cases h3:e.Kind=3
   ·rw [if_pos h3,if_pos h3,Zqe hb,i4 e d' hb (fun o ho=>by have:=Vp ho;omega) (by have:=Zn5 e;omega) (by omega)]
    simp only [Option.bind_some]
    generalize Zjl e=q0
    generalize Zio e=q1
    generalize Zib e=q2
    generalize ((decide (2≤e.List_) && decide (e.List_≤9)) && ((e.Ops.all fun o=>okO e.List_ o (rE o.E d')) && Zh6 (e.Ops.foldl stR (0,0))))=q3
    revert q0 q1 q2 q3
    decide
   rw [if_neg h3,if_neg h3]
  ·show Zcb (Zm k).1 (Zm k).2.1 (Zm k).2.2.1 (Zm k).2.2.2.1 (Zm k).2.2.2.2.1 (Zm k).2.2.2.2.2 l (d:Int)=_
   unfold Zcb
   rw [Zsi l (·.At) (okK d) (Uu (Zm k).2.1 l (d:Int)) (.inl ()) (.inr ()) hn (fun p i x hi hx hm=>by
    unfold Uu
    simp only
    rw [Ua hi,cond_true,Yf hx,Option.bind_some,i2 x.E d (hl x hm).1 (.inl (by have:=(hl x hm).2;omega)) hd]
    simp only [Option.bind_some]
    unfold okK okP bne
    simp only
    generalize decide (x.At≤p)=q1
    generalize decide (65534 < x.At)=q2
    generalize (x.E.Kind == 0)=q3
    generalize rE x.E d=q4
    cases q1 <;> cases q2 <;> cases q3 <;> cases q4 <;> rfl) (fun p=>by unfold Uu;simp only;rw [Uo];rfl) (-1),Option.bind_some]
   cases chk (·.At) (okK d) (-1) l <;> rfl
  ·show Zdb (Zm k).1 (Zm k).2.1 (Zm k).2.2.1 (Zm k).2.2.2.1 (Zm k).2.2.2.2.1 (Zm k).2.2.2.2.2 e (d:Int)=_
   unfold Zdb
   rw [Z79,Option.bind_some]
   by_cases hl:2≤e.List_∧e.List_≤9
   ·rw [decide_eq_true hl.1,decide_eq_true hl.2,(Z77 hb).1]
    rw [Zck e.Ops (Gp (Zm k).2.2.2.2.1 e (d:Int)) (fun o=>okO e.List_ o (rE o.E d) && decide (o.L.length < 1048576)) (.inl ()) (.inr ()) hb.o (fun i x hi hx hm=>by
     unfold Gp
     rw [Ua hi,cond_true,Yf hx,Option.bind_some,i5 e.List_ x d hl.1 hl.2 ⟨hb.l x hm,hb.os x hm⟩ (by have:=ho x hm;omega) hd,Option.bind_some]
     cases okO e.List_ x (rE x.E d) && decide (x.L.length < 1048576) <;> rfl) (by unfold Gp;rw [Uo];rfl)]
    have hob:=Yci (l:=e.List_) (fun o=>rE o.E d) e.Ops (fun o ho=>(hb.l o ho).1)
    rw [← hob]
    unfold Zh6
    cases e.Ops.all fun o=>okO e.List_ o (rE o.E d) && decide (o.L.length < 1048576) with
    | false=>rfl
    | true =>
     simp only [Option.bind_some,Bool.and_true,Bool.not_true,cond_false,Bool.true_and,if_true]
     rw [Zeb]
   have:(decide (2≤e.List_) && decide (e.List_≤9))=false:=by rw [Bool.and_eq_false_iff,decide_eq_false_iff_not,decide_eq_false_iff_not];omega
   rw [this]
   rfl
  ·show Zea (Zm k).1 (Zm k).2.1 (Zm k).2.2.1 (Zm k).2.2.2.1 (Zm k).2.2.2.2.1 (Zm k).2.2.2.2.2 l o (d:Int)=_
   have hp:=Zn5 o.E
   have j6:∀ a b c,(Zm k).2.2.2.2.2 a b c o=some ((!a || o.N == 0) && ((!b || o.L.length == 0) && (!c || Zcw o.E))):=fun a b c=>i6 a b c o hb.2 (by omega)
   unfold Zea okO
   rw [j6,j6,j6,Zfm,Zfm,Zfm,Zfm]
   by_cases h0:o.Kind=0
   ·rw [if_pos h0,if_pos h0]
    simp only [Option.bind_some,Bool.not_false,Bool.not_true,Bool.true_or,Bool.false_or,Bool.true_and]
    congr 1
    cases hL:o.L.length == 0 with
    | false=>simp
    | true =>
     have:o.L.length=0:=beq_iff_eq.1 hL
     rw [this]
     cases decide (1≤o.N) <;> cases decide (o.N≤1048576) <;> cases Zcw o.E <;> rfl
   rw [if_neg h0,if_neg h0]
   by_cases h12:o.Kind=1∨o.Kind=2
   ·have e12:(if o.Kind=1 then some (Sum.inl ()) else if o.Kind=2 then some (Sum.inl ()) else if o.Kind=3 then some (Sum.inr (Sum.inr (Sum.inl ()))) else some (Sum.inr (Sum.inr (Sum.inr ()))))=(some (Sum.inl ()):Option (Unit ⊕ (Bool ⊕ (Unit ⊕ Unit)))):=by
     rcases h12 with h | h
     ·rw [if_pos h]
     rw [if_neg (by omega),if_pos h]
    rw [e12,if_pos h12,Z52 (Yfc hb.1),Yfr h2 h9,Z2h,Z5e]
    simp only [Option.bind_some]
    generalize (o.N == 0)=q1
    generalize (o.L.length == 0)=q2
    generalize Zcw o.E=q3
    generalize decide (o.L.length < 1048576)=q4
    generalize (o.L.all fun t=>rt t 63 && okk l t)=q5
    revert q1 q2 q3 q4 q5
    decide
   rw [if_neg h12,if_neg (by omega),if_neg (by omega)]
   by_cases h3:o.Kind=3
   ·rw [if_pos h3,if_pos h3,Ydt,i2 o.E d hb.2 (.inl (by omega)) hd]
    simp only [Option.bind_some]
    have hdk:Zki l o.E=true→(o.E.Kind != 0)=true:=fun h=>by
     unfold Zki at h
     by_cases k0:o.E.Kind=0
     ·rw [k0] at h
      repeat' split at h
      all_goals simp_all
     simp [k0]
    cases hL:o.L.length == 0 with
    | false =>
     cases (o.N == 0) <;> rfl
    | true =>
     have:o.L.length=0:=beq_iff_eq.1 hL
     rw [this]
     cases hdp:Zki l o.E with
     | false=>cases (o.N == 0) <;> cases (o.E.Kind != 0) <;> rfl
     | true =>
      rw [hdk hdp]
      cases (o.N == 0) <;> cases rE o.E d <;> rfl
   rw [if_neg h3,if_neg h3]
   rfl
  show Zcc (Zm k).1 (Zm k).2.1 (Zm k).2.2.1 (Zm k).2.2.2.1 (Zm k).2.2.2.2.1 (Zm k).2.2.2.2.2 a b c o=_
  unfold Zcc bne
  rw [Z2h]
  by_cases hK:o.E.Kind=0
  ·rw [i1 o.E hb (.inr ⟨hK,by omega⟩),Z8p hK (by decide),beq_iff_eq.2 hK]
   simp only [Option.bind_some]
   generalize (o.N == 0)=q1
   generalize (o.L.length == 0)=q2
   generalize Zcw o.E=q3
   revert a b c q1 q2 q3
   decide
  rw [Yav hK,beq_eq_false_iff_ne.2 hK]
  generalize (o.N == 0)=q1
  generalize (o.L.length == 0)=q2
  cases a <;> cases b <;> cases c <;> cases q1 <;> cases q2 <;> rfl
theorem Z99 {e:Ed} (h:BE e):Zmv e=some (rE e 64):=Zeh (4 * SizeOf.sizeOf e+2) fun k hk=>(Z0x k).1 e h (.inl (by omega))
theorem Yeo {α:Type} {l:List α} {i:Nat} {x:α} (hx:l[i]? = some x) (hl:(l.length:Int)≤140737488355328):Zik l (i:Int) (IntKind.i64.wrap ((i:Int)+1))=some [x]:=by
 have hi:i < l.length:=by
  rcases Nat.lt_or_ge i l.length with h' | h'
  ·exact h'
  rw [List.getElem?_eq_none h'] at hx;cases hx
 rw [Kg (by omega) (by omega)]
 unfold Zik
 rw [if_pos (by omega)]
 have e1:((i:Int)+1 - (i:Int)).toNat=1:=by omega
 rw [e1,Int.toNat_natCast,List.drop_eq_getElem_cons hi,List.take_succ_cons,List.take_zero]
 rw [List.getElem?_eq_getElem hi] at hx
 rw [Option.some.inj hx]
theorem Z7v:∀ (k:Nat),(∀ (e:Ed) (d:Nat),BE e→2 * SizeOf.sizeOf e < k→d≤64→(Ym k).1 e (d:Int)=some (rE e d)) ∧
  (∀ (l:Int) (o:Zg) (d:Nat),2≤l→l≤9→BO o→2 * SizeOf.sizeOf o.E+1 < k→d≤64→(Ym k).2 l o (d:Int)=some (okO l o (rE o.E d)))
 | 0=>⟨fun e d _ h=>by omega,fun l o d _ _ _ h=>by omega⟩
 | k+1=>by
  obtain ⟨i1,i2⟩:=Z7v k
  refine ⟨fun e d hb hk hd => ?_,fun l o d h2 h9 hb hk hd => ?_⟩
  ·show Gl (Ym k).1 (Ym k).2 e (d:Int)=_
   unfold Gl
   rw [Zgf,Zw5 hb.old,Zw5 hb.new,Ydh hb,Yby,Yap hb,Z78 hb]
   by_cases hd0:d=0
   ·subst hd0
    rw [if_pos rfl]
    rfl
   have ed:((d:Int) == 0)=false:=by rw [beq_eq_false_iff_ne];omega
   rw [if_neg hd0,ed,cond_false]
   obtain ⟨d',rfl⟩:∃ d',d=d'+1:=⟨d - 1,by omega⟩
   have ed':IntKind.i64.wrap (((d'+1:Nat):Int) - 1)=(d':Int):=by rw [Kg (by omega) (by omega)];omega
   by_cases hbad:e.Kind < 0∨3 < e.Kind
   ·have q:cond (decide (e.Kind < 0)) true (decide (3 < e.Kind))=true:=by
     rcases hbad with h | h
     ·rw [decide_eq_true h];rfl
     rw [decide_eq_true h];cases decide (e.Kind < 0) <;> rfl
    rw [q,cond_true,if_neg (by omega),if_neg (by omega),if_neg (by omega),if_neg (by omega)]
   have q:cond (decide (e.Kind < 0)) true (decide (3 < e.Kind))=false:=by
    rw [decide_eq_false (by omega),decide_eq_false (by omega)]
    rfl
   rw [q,cond_false]
   simp only [Option.bind_some]
   have hkids:Zs (Jn (Ym k).1 e ((d'+1:Nat):Int)) (-1,0)=some (if chk (·.At) (okK d') (-1) e.Kids=true then Sum.inr () else Sum.inl ()) :=
    Zsi e.Kids (·.At) (okK d') (Jn (Ym k).1 e ((d'+1:Nat):Int)) (.inl ()) (.inr ()) hb.k (fun p i x hi hx hm=>by
     unfold Jn
     simp only
     rw [Ua hi,cond_true,Yf hx,Option.bind_some,ed',i1 x.E d' (hb.ks x hm) (by have:=Q6 hm;omega) (by omega)]
     simp only [Option.bind_some]
     unfold okK okP bne
     simp only
     generalize decide (x.At≤p)=q1
     generalize decide (65534 < x.At)=q2
     generalize (x.E.Kind == 0)=q3
     generalize rE x.E d'=q4
     cases q1 <;> cases q2 <;> cases q3 <;> cases q4 <;> rfl) (fun p=>by unfold Jn;simp only;rw [Uo];rfl) (-1)
   have hnil:e.Ops=[]→Zs (Qo (Ym k).2 e ((d'+1:Nat):Int)) 0=some (Sum.inr ()):=fun h=>Y2 (by
    unfold Qo
    rw [h]
    rfl)
   have wk_nil:Zio e=true→e.Words=[]∧e.Kids=[]:=fun h=>by
    unfold Zio at h
    rw [Bool.and_eq_true,beq_iff_eq,beq_iff_eq] at h
    exact ⟨List.eq_nil_of_length_eq_zero h.1,List.eq_nil_of_length_eq_zero h.2⟩
   have lo_nil:Zib e=true→e.List_=0∧e.Ops=[]:=fun h=>by
    unfold Zib at h
    rw [Bool.and_eq_true,beq_iff_eq,beq_iff_eq] at h
    exact ⟨h.1,List.eq_nil_of_length_eq_zero h.2⟩
   rw [Nat.add_sub_cancel]
   by_cases h0:e.Kind=0
   ·rw [if_pos h0]
    unfold Zcw Zjl
    rw [h0]
    cases hwk:Zio e with
    | false=>cases Zbt e.Old <;> cases Zbt e.New <;> cases Zib e <;> rfl
    | true =>
     cases hlo:Zib e with
     | false=>cases Zbt e.Old <;> cases Zbt e.New <;> rfl
     | true =>
      obtain ⟨w0,k0⟩:=wk_nil hwk
      obtain ⟨l0,o0⟩:=lo_nil hlo
      rw [hkids,hnil o0,w0,k0,o0]
      cases Zbt e.Old <;> cases Zbt e.New <;> rfl
   rw [if_neg h0]
   by_cases h1:e.Kind=1
   ·have r1:=Zvc hb.old (d:=64) (by decide)
    have r2:=Zvc hb.new (d:=64) (by decide)
    rw [show ((64:Nat):Int)=64 from rfl] at r1 r2
    rw [if_pos h1,h1,r1,r2]
    simp only [Option.bind_some]
    generalize Zio e=q1
    generalize Zib e=q2
    generalize rt e.Old 64=q3
    generalize rt e.New 64=q4
    generalize (e.Old.Kind != 10)=q5
    generalize (e.New.Kind != 10)=q6
    cases q1 <;> cases q2 <;> cases q3 <;> cases q4 <;> cases q5 <;> cases q6 <;> rfl
   rw [if_neg h1]
   by_cases h2:e.Kind=2
   ·rw [if_pos h2,h2]
    unfold Zjl
    cases hlo:Zib e with
    | false=>cases Zbt e.Old <;> cases Zbt e.New <;> rfl
    | true =>
     obtain ⟨l0,o0⟩:=lo_nil hlo
     rw [hkids,hnil o0,o0]
     generalize chk (·.At) okW (-1) e.Words=q1
     generalize chk (·.At) (okK d') (-1) e.Kids=q2
     cases Zbt e.Old <;> cases Zbt e.New <;> cases q1 <;> cases q2 <;> rfl
   have h3:e.Kind=3:=by omega
   rw [if_neg h2,if_pos h3,h3]
   unfold Zjl
   cases hwk:Zio e with
   | false=>cases Zbt e.Old <;> cases Zbt e.New <;> rfl
   | true =>
    obtain ⟨w0,k0⟩:=wk_nil hwk
    rw [hkids,w0,k0]
    by_cases hl:2≤e.List_∧e.List_≤9
    ·have hops:Zs (Qo (Ym k).2 e ((d'+1:Nat):Int)) 0=some (if (e.Ops.all fun o=>okO e.List_ o (rE o.E d'))=true then Sum.inr () else Sum.inl ()) :=
      Zck e.Ops _ (fun o=>okO e.List_ o (rE o.E d')) (Sum.inl ():Unit ⊕ Unit) (Sum.inr ()) hb.o (fun i x hi hx hm=>by
       unfold Qo
       rw [Ua hi,cond_true,Yf hx,Option.bind_some,ed',i2 e.List_ x d' hl.1 hl.2 ⟨hb.l x hm,hb.os x hm⟩ (by have:=Vp hm;omega) (by omega),Option.bind_some]
       cases okO e.List_ x (rE x.E d') <;> rfl) (by unfold Qo;rw [Uo];rfl)
     rw [hops,decide_eq_true hl.1,decide_eq_true hl.2,decide_eq_false (p:=e.List_ < 2) (by omega),decide_eq_false (p:=9 < e.List_) (by omega)]
     unfold Zh6
     generalize (e.Ops.all fun o=>okO e.List_ o (rE o.E d'))=q1
     generalize decide ((e.Ops.foldl stR (0,0)).1 < 1048576)=q2
     generalize decide ((e.Ops.foldl stR (0,0)).2 < 1048576)=q3
     cases Zbt e.Old <;> cases Zbt e.New <;> cases q1 <;> cases q2 <;> cases q3 <;> rfl
    have q:cond (decide (e.List_ < 2)) true (decide (9 < e.List_))=true:=by
     by_cases h:e.List_ < 2
     ·rw [decide_eq_true h];rfl
     rw [decide_eq_true (p:=9 < e.List_) (by omega)];cases decide (e.List_ < 2) <;> rfl
    have q':(decide (2≤e.List_) && decide (e.List_≤9))=false:=by rw [Bool.and_eq_false_iff,decide_eq_false_iff_not,decide_eq_false_iff_not];omega
    rw [q,q']
    cases Zbt e.Old <;> cases Zbt e.New <;> rfl
  show Zda (Ym k).1 (Ym k).2 l o (d:Int)=_
  have hlen:(o.L.length:Int)≤140737488355328:=by have:=hb.1.1;omega
  have hloop:Zs (Gm l o) 0=some (if (o.L.all fun t=>rt t 63 && okk l t)=true then Sum.inr () else Sum.inl ()) :=
   Zck o.L _ (fun t=>rt t 63 && okk l t) (Sum.inl ():Unit ⊕ Unit) (Sum.inr ()) hlen (fun i x hi hx hm=>by
    unfold Gm
    have hbx:Bd ⟨l,[],[x]⟩:=Yfc ⟨by simp,fun t ht=>by rw [List.mem_singleton.1 ht];exact hb.1.2 x hm⟩
    have r1:=Zvc hbx (d:=64) (by decide)
    rw [show ((64:Nat):Int)=64 from rfl,Yfr h2 h9] at r1
    rw [Ua hi,cond_true,Yeo hx hlen,Option.bind_some,r1,Option.bind_some]
    simp only [List.all_cons,List.all_nil,Bool.and_true,List.length_singleton]
    cases rt x 63 && okk l x <;> rfl) (by unfold Gm;rw [Uo];rfl)
  unfold Zda okO
  rw [Yc1 hb.2,i1 o.E d hb.2 (by omega) hd,hloop,Z2e,Z2h,Z5e]
  simp only [Option.bind_some]
  by_cases h0:o.Kind=0
  ·rw [if_pos h0,h0]
   generalize decide (1≤o.N)=q1
   generalize decide (o.N≤1048576)=q2
   generalize (o.L.length == 0)=q3
   generalize Zcw o.E=q4
   cases q1 <;> cases q2 <;> cases q3 <;> cases q4 <;> rfl
  rw [if_neg h0,beq_eq_false_iff_ne.2 h0,cond_false]
  by_cases h12:o.Kind=1∨o.Kind=2
  ·rw [if_pos h12,decide_eq_false (p:=o.Kind < 0) (by omega),decide_eq_false (p:=3 < o.Kind) (by omega),decide_eq_true (p:=o.Kind < 3) (by omega)]
   unfold bne
   generalize (o.N == 0)=q1
   generalize (o.L.length == 0)=q2
   generalize (o.L.all fun t=>rt t 63 && okk l t)=q3
   generalize Zcw o.E=q4
   cases q1 <;> cases q2 <;> cases q3 <;> cases q4 <;> rfl
  rw [if_neg h12]
  by_cases h3:o.Kind=3
  ·rw [if_pos h3,h3]
   unfold bne Zki
   by_cases k0:o.E.Kind=0
   ·rw [k0]
    generalize (o.N == 0)=q1
    generalize (o.L.length == 0)=q2
    cases q1 <;> cases q2 <;> rfl
   rw [beq_eq_false_iff_ne.2 k0]
   by_cases l8:l=8
   ·rw [if_pos l8,l8]
    unfold bne
    rw [beq_eq_false_iff_ne.2 k0]
    generalize (o.N == 0)=q1
    generalize (o.L.length == 0)=q2
    generalize rE o.E d=q3
    cases q1 <;> cases q2 <;> cases q3 <;> rfl
   rw [if_neg l8]
   by_cases l9:l=9
   ·rw [if_pos l9,l9]
    generalize (o.N == 0)=q1
    generalize (o.L.length == 0)=q2
    generalize rE o.E d=q3
    generalize (o.E.Kind == 2)=q4
    generalize (o.E.Kind == 1)=q5
    generalize (o.E.Old.Kind == 1)=q6
    generalize (o.E.New.Kind == 1)=q7
    cases q1 <;> cases q2 <;> cases q3 <;> cases q4 <;> cases q5 <;> cases q6 <;> cases q7 <;> rfl
   rw [if_neg l9,decide_eq_true (p:=l≤7) (by omega)]
   generalize (o.N == 0)=q1
   generalize (o.L.length == 0)=q2
   cases q1 <;> cases q2 <;> rfl
  rw [if_neg h3]
  have q:cond (cond (o.N != 0) true (decide (o.Kind < 0))) true (decide (3 < o.Kind))=true:=by
   by_cases h:o.Kind < 0
   ·rw [decide_eq_true h];cases o.N != 0 <;> rfl
   rw [decide_eq_true (p:=3 < o.Kind) (by omega)];cases cond (o.N != 0) true (decide (o.Kind < 0)) <;> rfl
  rw [q]
  rfl
theorem Ydw {e:Ed} (h:BE e) {d:Nat} (hd:d≤64):Zfz e (d:Int)=some (rE e d):=Zeh (2 * SizeOf.sizeOf e+1) fun k hk=>(Z7v k).1 e d h (by omega) hd
def Zlc (a b:Int):Int:=IntKind.i64.wrap (a+b)
def cn (e:Ed):Int:=e.Ops.attach.foldl (fun s o=>if o.1.Kind=3 then Zlc s (cn o.1.E) else s) (e.Kids.attach.foldl (fun s k=>Zlc s (cn k.1.E)) (Zlc (Zlc 1 e.Words.length) e.Ops.length))
termination_by SizeOf.sizeOf e
decreasing_by
 ·exact Vp o.2
 exact Q6 k.2
theorem Yg0 (e:Ed):cn e=e.Ops.foldl (fun s o=>if o.Kind=3 then Zlc s (cn o.E) else s) (e.Kids.foldl (fun s k=>Zlc s (cn k.E)) (Zlc (Zlc 1 e.Words.length) e.Ops.length)):=by
 rw [cn]
 have h1:∀ z:Int,e.Kids.attach.foldl (fun s k=>Zlc s (cn k.1.E)) z=e.Kids.foldl (fun s k=>Zlc s (cn k.E)) z:=fun z=>List.foldl_attach (f:=fun s (k:Zj)=>Zlc s (cn k.E))
 have h2:∀ z:Int,e.Ops.attach.foldl (fun s o=>if o.1.Kind=3 then Zlc s (cn o.1.E) else s) z=e.Ops.foldl (fun s o=>if o.Kind=3 then Zlc s (cn o.E) else s) z:=fun z=>List.foldl_attach (f:=fun s (o:Zg)=>if o.Kind=3 then Zlc s (cn o.E) else s)
 rw [h1,h2]
theorem Zu9:∀ (k:Nat) (e:Ed),BE e→SizeOf.sizeOf e < k→Jd k e=some (cn e)
 | 0,e,_,h=>by omega
 | k+1,e,hb,hk=>by
  show Gj (Jd k) e=_
  unfold Gj
  have h1:=(Zp2 e.Kids (fun (s:Int) i=>(s,i)) (fun s k=>Zlc s (cn k.E)) (fun s=>s) (fun _=>True) (K7 (Jd k) e) hb.k (fun s i x _ hi hx hm=>by
   refine ⟨trivial,?_⟩
   unfold K7
   simp only
   rw [Ua hi,cond_true,Yf hx,Option.bind_some,Zu9 k x.E (hb.ks x hm) (by have:=Q6 hm;omega)]
   rfl) (fun s _=>by unfold K7;simp only;rw [Uo];rfl) (Zlc (Zlc 1 e.Words.length) e.Ops.length) trivial).1
  have h2:=fun z=>(Zp2 e.Ops (fun (s:Int) i=>(s,i)) (fun s o=>if o.Kind=3 then Zlc s (cn o.E) else s) (fun s=>s) (fun _=>True) (K8 (Jd k) e) hb.o (fun s i x _ hi hx hm=>by
   refine ⟨trivial,?_⟩
   unfold K8
   simp only
   rw [Ua hi,cond_true,Yf hx,Option.bind_some,Option.bind_some,Zu9 k x.E (hb.os x hm) (by have:=Vp hm;omega),Zfm]
   by_cases h3:x.Kind=3
   ·rw [if_pos h3,if_pos h3];rfl
   rw [if_neg h3,if_neg h3];rfl) (fun s _=>by unfold K8;simp only;rw [Uo];rfl) z trivial).1
  unfold Zlc at h1
  rw [h1,Option.bind_some,Yg0]
  unfold Zlc at h2 ⊢
  rw [h2]
  rfl
theorem Yaq {e:Ed} (h:BE e):Zfx e=some (cn e):=Zeh (SizeOf.sizeOf e+1) fun k hk=>Zu9 k e h (by omega)
def ce (e:Ed):Nat:=1+e.Words.length+e.Ops.length+(e.Kids.attach.map fun k=>ce k.1.E).sum+(e.Ops.attach.map fun o=>ce o.1.E).sum
termination_by SizeOf.sizeOf e
decreasing_by
 ·exact Q6 k.2
 exact Vp o.2
theorem Zit (e:Ed):ce e=1+e.Words.length+e.Ops.length+(e.Kids.map fun k=>ce k.E).sum+(e.Ops.map fun o=>ce o.E).sum:=by
 rw [ce]
 have h1:(e.Kids.attach.map fun k=>ce k.1.E)=e.Kids.map fun k=>ce k.E:=List.attach_map_val (f:=fun k:Zj=>ce k.E)
 have h2:(e.Ops.attach.map fun o=>ce o.1.E)=e.Ops.map fun o=>ce o.E:=List.attach_map_val (f:=fun o:Zg=>ce o.E)
 rw [h1,h2]
theorem Z2d:∀ (k:Nat) (e:Ed) (d left:Int),BE e→SizeOf.sizeOf e < k→0≤d→d≤100→0≤left→left≤1000000→∃ r,Ys k e d left=some r∧-1≤r∧r≤1000000∧(0≤r→r+(ce e:Nat)≤left)
 | 0,e,_,_,_,h,_,_,_,_=>by omega
 | k+1,e,d,left,hb,hk,hd0,hd1,hl0,hl1=>by
  have hw:=hb.w
  have ho:=hb.o
  show ∃ r,Jh (Ys k) e d left=some r∧_
  unfold Jh
  rw [Kg (x:=left - 1) (by omega) (by omega),Kg (x:=left - 1 - (e.Words.length:Int)) (by omega) (by omega),Kg (by omega) (by omega),Zit]
  cases hc:cond (d == 0) true (decide (left - 1 - (e.Words.length:Int) - (e.Ops.length:Int) < 0)) with
  | true=>exact ⟨-1,rfl,by omega,by omega,fun h=>by omega⟩
  | false =>
   rw [cond_false]
   have hd:¬ d=0∧0≤left - 1 - (e.Words.length:Int) - (e.Ops.length:Int):=by
    by_cases h:d=0
    ·simp [h] at hc
    have e:(d == 0)=false:=by simp [h]
    rw [e,cond_false,decide_eq_false_iff_not] at hc
    exact ⟨h,by omega⟩
   obtain ⟨r1,g1,g2,g3,g4⟩:=Z3e hb.old hd.2 (by omega)
   have hz:∃ z,cond (decide (0≤r1)) ((J7 e.New 80 r1).bind fun y4=>some y4) (some r1)=some z∧-1≤z∧z≤1000000∧(0≤z→z≤left - 1 - (e.Words.length:Int) - (e.Ops.length:Int)):=by
    by_cases h:0≤r1
    ·obtain ⟨r2,f1,f2,f3,f4⟩:=Z3e hb.new h g3
     refine ⟨r2,by rw [decide_eq_true h,f1];rfl,f2,f3,fun h2 => ?_⟩
     have:=f4 h2
     have:=g4 h
     omega
    exact ⟨r1,by rw [decide_eq_false h];rfl,g2,g3,fun h2=>absurd h2 h⟩
   obtain ⟨z,z1,z2,z3,z4⟩:=hz
   rw [g1,Option.bind_some,z1,Option.bind_some]
   obtain ⟨r,h1,h2⟩:=Zi7 (step:=Qw (Ys k) e d)
    (fun s=>∃ j:Nat,s.2=j∧j≤e.Kids.length∧-1≤s.1∧s.1≤1000000∧(0≤s.1→s.1+((((e.Kids.take j).map fun k=>ce k.E)).sum:Nat)≤left - 1 - (e.Words.length:Int) - (e.Ops.length:Int)))
    (fun s=>e.Kids.length - s.2.toNat) (fun r=>-1≤r∧r≤1000000∧(0≤r→r+((e.Kids.map fun k=>ce k.E).sum:Nat)≤left - 1 - (e.Words.length:Int) - (e.Ops.length:Int))) (fun s hI=>by
     obtain ⟨l,i⟩:=s
     obtain ⟨j,rfl,hj,g1,g2,g3⟩:=hI
     have hkl:=hb.k
     simp only at g1 g2 g3 ⊢
     unfold Qw
     simp only
     by_cases hji:j < e.Kids.length
     ·rw [Ua hji,cond_true]
      by_cases hl:0≤l
      ·have e1:decide (0≤l)=true:=by simp [hl]
       have hx:e.Kids[j]? = some e.Kids[j]:=List.getElem?_eq_getElem hji
       have hm:e.Kids[j]∈e.Kids:=List.getElem_mem hji
       obtain ⟨r,q1,q2,q3,q4⟩:=Z2d k e.Kids[j].E (d - 1) l (hb.ks _ hm) (by have:=Q6 hm;omega) (by omega) (by omega) hl g2
       rw [e1,cond_true,Yf hx,Option.bind_some,Kg (x:=d - 1) (by omega) (by omega),q1,Option.bind_some,Kg (by omega) (by omega)]
       refine .inl ⟨_,rfl,⟨j+1,by simp only;omega,by omega,q2,q3,fun hr => ?_⟩,by simp only;omega⟩
       have:=q4 hr
       have:=g3 hl
       rw [List.take_add_one,hx]
       simp only [Option.toList_some,List.map_append,List.map_cons,List.map_nil,List.sum_append,List.sum_cons,List.sum_nil]
       simp only at hr
       omega
      have e1:decide (0≤l)=false:=by simp [hl]
      rw [e1,cond_false]
      exact .inr ⟨l,rfl,g1,g2,fun h=>absurd h hl⟩
     have hj':j=e.Kids.length:=by omega
     subst hj'
     rw [Uo,cond_false]
     rw [List.take_length] at g3
     exact .inr ⟨l,rfl,g1,g2,g3⟩) (z,0) ⟨0,rfl,Nat.zero_le _,z2,z3,fun h=>by simpa using z4 h⟩
   rw [h1,Option.bind_some]
   have inner:∀ (j:Nat) (hj:j < e.Ops.length) (l:Int),0≤l→l≤1000000→∃ r,Zs (Vx e (l,(j:Int))) (l,0)=some r∧-1≤r∧r≤1000000∧r≤l:=fun j hj l hl hl'=>by
    have hx:e.Ops[j]? = some e.Ops[j]:=List.getElem?_eq_getElem hj
    have hm:e.Ops[j]∈e.Ops:=List.getElem_mem hj
    have hL:=(hb.l _ hm).1
    obtain ⟨r,h1,h2⟩:=Zi7 (step:=Vx e (l,(j:Int)))
     (fun s=>∃ i:Nat,s.2=i∧i≤e.Ops[j].L.length∧-1≤s.1∧s.1≤1000000∧s.1≤l)
     (fun s=>e.Ops[j].L.length - s.2.toNat) (fun r=>-1≤r∧r≤1000000∧r≤l) (fun s hI=>by
      obtain ⟨l',i'⟩:=s
      obtain ⟨i,rfl,hi,g1,g2,g3⟩:=hI
      simp only at g1 g2 g3 ⊢
      unfold Vx
      simp only
      rw [Yf hx,Option.bind_some,Option.bind_some]
      by_cases hii:i < e.Ops[j].L.length
      ·rw [Ua hii,cond_true]
       by_cases hl2:0≤l'
       ·have e1:decide (0≤l')=true:=by simp [hl2]
        have hx2:e.Ops[j].L[i]? = some e.Ops[j].L[i]:=List.getElem?_eq_getElem hii
        have hm2:e.Ops[j].L[i]∈e.Ops[j].L:=List.getElem_mem hii
        obtain ⟨r,q1,q2,q3,q4⟩:=Z3e ((hb.l _ hm).2 _ hm2) hl2 g2
        rw [e1,cond_true,Yf hx2,Option.bind_some,q1,Option.bind_some,Kg (by omega) (by omega)]
        refine .inl ⟨_,rfl,⟨i+1,by simp only;omega,by omega,q2,q3,?_⟩,by simp only;omega⟩
        simp only
        by_cases hr:0≤r
        ·have:=q4 hr;omega
        omega
       have e1:decide (0≤l')=false:=by simp [hl2]
       rw [e1,cond_false]
       exact .inr ⟨l',rfl,g1,g2,g3⟩
      have hi':i=e.Ops[j].L.length:=by omega
      subst hi'
      rw [Uo,cond_false]
      exact .inr ⟨l',rfl,g1,g2,g3⟩) (l,0) ⟨0,rfl,Nat.zero_le _,by simp only;omega,by simp only;omega,by simp only;omega⟩
    exact ⟨r,h1,h2⟩
   obtain ⟨r',h1',h2'⟩:=Zi7 (step:=Qx (Ys k) e d)
    (fun s=>∃ j:Nat,s.2=j∧j≤e.Ops.length∧-1≤s.1∧s.1≤1000000∧(0≤s.1→0≤r∧s.1+((((e.Ops.take j).map fun o=>ce o.E)).sum:Nat)≤r))
    (fun s=>e.Ops.length - s.2.toNat) (fun q=>-1≤q∧q≤1000000∧(0≤q→0≤r∧q+((e.Ops.map fun o=>ce o.E).sum:Nat)≤r)) (fun s hI=>by
     obtain ⟨l,i⟩:=s
     obtain ⟨j,rfl,hj,g1,g2,g3⟩:=hI
     simp only at g1 g2 g3 ⊢
     unfold Qx
     simp only
     by_cases hji:j < e.Ops.length
     ·rw [Ua hji,cond_true]
      by_cases hl:0≤l
      ·have e1:decide (0≤l)=true:=by simp [hl]
       have hx:e.Ops[j]? = some e.Ops[j]:=List.getElem?_eq_getElem hji
       have hm:e.Ops[j]∈e.Ops:=List.getElem_mem hji
       obtain ⟨t,t1,t2,t3,t4⟩:=inner j hji l hl g2
       rw [e1,cond_true,t1,Option.bind_some,Kg (x:=(j:Int)+1) (by omega) (by omega)]
       by_cases ht:0≤t
       ·obtain ⟨r,q1,q2,q3,q4⟩:=Z2d k e.Ops[j].E (d - 1) t (hb.os _ hm) (by have:=Vp hm;omega) (by omega) (by omega) ht t3
        rw [decide_eq_true ht,cond_true,Yf hx,Option.bind_some,Kg (x:=d - 1) (by omega) (by omega),q1]
        refine .inl ⟨_,rfl,⟨j+1,by simp only;omega,by omega,q2,q3,fun hr => ?_⟩,by simp only;omega⟩
        have:=q4 hr
        have:=g3 hl
        rw [List.take_add_one,hx]
        simp only [Option.toList_some,List.map_append,List.map_cons,List.map_nil,List.sum_append,List.sum_cons,List.sum_nil]
        simp only at hr
        omega
       rw [decide_eq_false ht]
       exact .inl ⟨_,rfl,⟨j+1,by simp only;omega,by omega,t2,t3,fun hr=>absurd hr ht⟩,by simp only;omega⟩
      have e1:decide (0≤l)=false:=by simp [hl]
      rw [e1,cond_false]
      exact .inr ⟨l,rfl,g1,g2,fun h=>absurd h hl⟩
     have hj':j=e.Ops.length:=by omega
     subst hj'
     rw [Uo,cond_false]
     rw [List.take_length] at g3
     exact .inr ⟨l,rfl,g1,g2,g3⟩) (r,0) ⟨0,rfl,Nat.zero_le _,h2.1,h2.2.1,fun h=>⟨h,by simp⟩⟩
   rw [h1']
   refine ⟨r',rfl,h2'.1,h2'.2.1,fun hr => ?_⟩
   have p1:=h2'.2.2 hr
   have p2:=h2.2.2 p1.1
   omega
theorem Zuu:∀ (k k':Nat) (e:Ed) (d left:Int),SizeOf.sizeOf e < k→SizeOf.sizeOf e < k'→Ys k e d left=Ys k' e d left
 | 0,_,e,_,_,h,_=>by omega
 | k+1,0,e,_,_,_,h=>by omega
 | k+1,k'+1,e,d,left,h,h'=>by
  show Jh (Ys k) e d left=Jh (Ys k') e d left
  have e1:Qw (Ys k) e d=Qw (Ys k') e d:=funext fun s=>by
   unfold Qw
   cases hx:Yx e.Kids s.2 with
   | none=>rfl
   | some x=>simp only [Option.bind_some,Zuu k k' x.E (IntKind.i64.wrap (d - 1)) s.1 (by have:=Q6 (Zli hx);omega) (by have:=Q6 (Zli hx);omega)]
  have e2:Qx (Ys k) e d=Qx (Ys k') e d:=funext fun s=>by
   unfold Qx
   cases hx:Yx e.Ops s.2 with
   | none=>rfl
   | some x=>
    have:∀ z,Ys k x.E (IntKind.i64.wrap (d - 1)) z=Ys k' x.E (IntKind.i64.wrap (d - 1)) z:=fun z=>Zuu k k' x.E _ z (by have:=Vp (Zli hx);omega) (by have:=Vp (Zli hx);omega)
    simp only [Option.bind_some,this]
  unfold Jh
  rw [e1,e2]
theorem Yg1 {e:Ed} (h:BE e):∃ b,Zcm e=some b∧(b=true→ce e≤3000):=by
 obtain ⟨r,h1,h2,h3,h4⟩:=Z2d (SizeOf.sizeOf e+1) e 80 3000 h (by omega) (by omega) (by omega) (by omega) (by omega)
 have hr:Zgz e 80 3000=some r:=Zeh (SizeOf.sizeOf e+1) fun k hk=>by rw [Zuu k (SizeOf.sizeOf e+1) e 80 3000 (by omega) (by omega)];exact h1
 unfold Zcm
 rw [hr,Option.bind_some]
 refine ⟨_,rfl,fun hb => ?_⟩
 have:=h4 (by simpa using hb)
 have:0≤r:=by simpa using hb
 omega
theorem Yei {e:Ed} (hb:BE e) {d:Nat} (h:rE e d=true):e.Ops.foldl stR (0,0)=e.Ops.foldl stI (0,0):=by
 have h0:Sm (0,0):=by unfold Sm;simp
 have hnil:Zib e=true→e.Ops.foldl stR (0,0)=e.Ops.foldl stI (0,0):=fun h=>by
  unfold Zib at h
  rw [Bool.and_eq_true,beq_iff_eq,beq_iff_eq] at h
  rw [List.eq_nil_of_length_eq_zero h.2]
  rfl
 rw [Zgf] at h
 split at h
 ·cases h
 split at h
 ·unfold Zcw at h
  simp only [Bool.and_eq_true] at h
  exact hnil h.2.2.2
 split at h
 ·simp only [Bool.and_eq_true] at h
  exact hnil h.1.2
 split at h
 ·simp only [Bool.and_eq_true] at h
  exact hnil h.1.2
 split at h
 ·simp only [Bool.and_eq_true] at h
  exact (Zlg (fun o=>rE o.E (d - 1)) e.Ops (0,0) h0 (List.all_eq_true.1 h.2.2.1) (fun o ho=>(hb.l o ho).1)).1
 cases h
theorem Z1w {α:Type} {pl:α→Int} {ok:Int→α→Bool} {Q:α→Prop} (h:∀ p x,ok p x=true→Q x):∀ (xs:List α) (p:Int),chk pl ok p xs=true→∀ x∈xs,Q x
 | [],_,_=>fun x hx=>by cases hx
 | y::xs,p,hc=>fun x hx=>by
  rw [chk,Bool.and_eq_true] at hc
  rcases List.mem_cons.1 hx with rfl | hx
  ·exact h p _ hc.1
  exact Z1w h xs (pl y) hc.2 x hx
abbrev EO:=Zg
def n0T:Tr:=⟨0,[],[]⟩
structure NW where
 out:List EO
 gone:List Tr
 come:List Tr
def eS0:Ed:=⟨0,⟨0,[],[]⟩,⟨0,[],[]⟩,[],[],0,[]⟩
def Zcj (l:Int) (e:Ed):Bool:=e.Kind == 0 || (l == 9 && (e.Kind == 2 && (e.Words.length == 0 && e.Kids.length == 0)))
def Un (g:List Tr):List EO:=if g=[] then [] else [⟨1,0,g,eS0⟩]
def Zau (g:List Tr):List EO:=if g=[] then [] else [⟨2,0,g,eS0⟩]
def NW.flush (s:NW):List EO:=s.out++(Un s.gone++Zau s.come)
def Q1 (out:List EO) (n:Int):List EO:=match out.getLast? with
 | some o=>if o.Kind=0 then out.dropLast++[⟨0,o.N+n,o.L,o.E⟩] else out++[⟨0,n,[],eS0⟩]
 | none=>[⟨0,n,[],eS0⟩]
def Ut (l:Int) (s:NW) (p:EO×Ed):NW :=
 if p.1.Kind=1 then ⟨s.out,s.gone++p.1.L.map nrm,s.come⟩
 else if p.1.Kind=2 then ⟨s.out,s.gone,s.come++p.1.L.map nrm⟩
 else if p.1.Kind=0 then ⟨Q1 s.flush p.1.N,[],[]⟩
 else if Zcj l p.2=true then ⟨Q1 s.flush 1,[],[]⟩ else ⟨s.flush++[⟨3,0,[],p.2⟩],[],[]⟩
def s0N:NW:=⟨[],[],[]⟩
def Zcs (l:Int) (ps:List (EO×Ed)):List EO:=(ps.foldl (Ut l) s0N).flush
def nE (e:Ed):Ed :=
 if e.Kind=1 then ⟨1,nrm e.Old,nrm e.New,[],[],0,[]⟩
 else if e.Kind=2 then ⟨2,n0T,n0T,e.Words,e.Kids.attach.map fun k=>⟨k.1.At,nE k.1.E⟩,0,[]⟩
 else if e.Kind=3 then ⟨3,n0T,n0T,[],[],e.List_,Zcs e.List_ (e.Ops.attach.map fun o=>(o.1,nE o.1.E))⟩
 else eS0
termination_by SizeOf.sizeOf e
decreasing_by
 ·exact Q6 k.2
 exact Vp o.2
def Xj (l:List EO):List (EO×Ed):=l.map fun o=>(o,nE o.E)
theorem Zd1 (e:Ed):nE e=if e.Kind=1 then ⟨1,nrm e.Old,nrm e.New,[],[],0,[]⟩
 else if e.Kind=2 then ⟨2,n0T,n0T,e.Words,e.Kids.map fun k=>⟨k.At,nE k.E⟩,0,[]⟩
 else if e.Kind=3 then ⟨3,n0T,n0T,[],[],e.List_,Zcs e.List_ (Xj e.Ops)⟩
 else eS0:=by
 have h1:(e.Kids.attach.map fun k=>(⟨k.1.At,nE k.1.E⟩:Zj))=e.Kids.map fun k=>⟨k.At,nE k.E⟩:=List.attach_map_val (f:=fun k:Zj=>(⟨k.At,nE k.E⟩:Zj))
 have h2:(e.Ops.attach.map fun o=>((o.1,nE o.1.E):EO×Ed))=Xj e.Ops:=List.attach_map_val (f:=fun o:EO=>((o,nE o.E):EO×Ed))
 rw [nE,h1,h2]
theorem Us (o':List EO) (k n:Int) (L:List Tr) (E:Ed):Q1 (o'++[⟨0,k,L,E⟩]) n=o'++[⟨0,k+n,L,E⟩]:=by
 unfold Q1
 simp
theorem Zdn {out:List EO} {n:Int} (h:∀ o,out.getLast? = some o→o.Kind≠0):Q1 out n=out++[⟨0,n,[],eS0⟩]:=by
 unfold Q1
 cases hl:out.getLast? with
 | none=>rw [List.getLast?_eq_none_iff.1 hl];rfl
 | some o=>simp only [if_neg (h o hl)]
theorem Ybg:Un []=[]:=rfl
theorem Z5b:Zau []=[]:=rfl
theorem Zhy {g:List Tr} (h:g≠[]):Un g=[⟨1,0,g,eS0⟩]:=if_neg h
theorem Zhz {g:List Tr} (h:g≠[]):Zau g=[⟨2,0,g,eS0⟩]:=if_neg h
theorem Ybn {a b:List Tr} {o:EO} (h:(Un a++Zau b).getLast? = some o):o.Kind=1∨o.Kind=2:=by
 by_cases hb:b=[]
 ·subst hb
  by_cases ha:a=[]
  ·subst ha;simp [Un,Zau] at h
  rw [Zhy ha,Z5b] at h;simp at h;subst h;exact .inl rfl
 rw [Zhz hb] at h
 simp at h
 subst h
 exact .inr rfl
theorem Ydx {a b:List Tr} (h:Un a++Zau b=[]):a=[]∧b=[]:=by
 rw [List.append_eq_nil_iff] at h
 refine ⟨?_,?_⟩
 ·by_cases ha:a=[]
  ·exact ha
  rw [Zhy ha] at h;simp at h
 by_cases hb:b=[]
 ·exact hb
 rw [Zhz hb] at h;simp at h
theorem Zl9 {s:NW} {o:EO} (h:s.flush.getLast? = some o):(o.Kind=1∨o.Kind=2)∨(s.gone=[]∧s.come=[]∧s.out.getLast? = some o):=by
 unfold NW.flush at h
 by_cases hD:Un s.gone++Zau s.come=[]
 ·obtain ⟨h1,h2⟩:=Ydx hD
  rw [hD,List.append_nil] at h
  exact .inr ⟨h1,h2,h⟩
 rw [List.getLast?_append] at h
 cases hq:(Un s.gone++Zau s.come).getLast? with
 | none=>exact absurd (List.getLast?_eq_none_iff.1 hq) hD
 | some x =>
  rw [hq] at h
  injection h with h
  subst h
  exact .inl (Ybn hq)
structure NInv (l:Int) (s:NW):Prop where
 again:(Xj s.out).foldl (Ut l) s0N=⟨s.out,[],[]⟩
 last:∀ o' o,s.out=o'++[o]→o.Kind=0→o.L=[]∧o.E=eS0∧(∀ x,o'.getLast? = some x→x.Kind≠0)∧((Xj o').foldl (Ut l) s0N).flush=o'
 gone:s.gone.map nrm=s.gone
 come:s.come.map nrm=s.come
theorem Zdv (a b:List EO):Xj (a++b)=Xj a++Xj b:=by simp [Xj]
theorem Ztd {l:Int} {s:NW} {n:Int} {L:List Tr} {E r:Ed}:Ut l s (⟨0,n,L,E⟩,r)=⟨Q1 s.flush n,[],[]⟩:=by
 unfold Ut
 simp
theorem Zpy {l:Int} {s:NW} (h:NInv l s):(Xj s.flush).foldl (Ut l) s0N=s:=by
 unfold NW.flush
 rw [Zdv,List.foldl_append,h.again,Zdv,List.foldl_append]
 have e1:(Xj (Un s.gone)).foldl (Ut l) ⟨s.out,[],[]⟩=⟨s.out,s.gone,[]⟩:=by
  by_cases hg:s.gone=[]
  ·rw [hg];rfl
  rw [Zhy hg];simp [Xj,Ut,h.gone]
 have e2:(Xj (Zau s.come)).foldl (Ut l) ⟨s.out,s.gone,[]⟩=⟨s.out,s.gone,s.come⟩:=by
  by_cases hg:s.come=[]
  ·rw [hg];rfl
  rw [Zhz hg];simp [Xj,Ut,h.come]
 rw [e1,e2]
theorem Zz9 {α:Type} {a b:List α} {x y:α} (h:a++[x]=b++[y]):a=b∧x=y:=by
 have:=List.append_inj' h rfl
 exact ⟨this.1,by simpa using this.2⟩
theorem NInv.keep {l:Int} {s:NW} (h:NInv l s) (n:Int):NInv l ⟨Q1 s.flush n,[],[]⟩:=by
 by_cases hk:∃ o,s.flush.getLast? = some o∧o.Kind=0
 ·obtain ⟨o,ho,hk0⟩:=hk
  rcases Zl9 ho with h12 | ⟨g1,g2,g3⟩
  ·omega
  have hfl:s.flush=s.out:=by unfold NW.flush;rw [g1,g2];simp [Un,Zau]
  obtain ⟨o',ho'⟩:=List.getLast?_eq_some_iff.1 g3
  obtain ⟨a1,a2,a3,a4⟩:=h.last o' o ho' hk0
  obtain ⟨k,N,L,E⟩:=o
  simp only at hk0 a1 a2
  subst hk0 a1 a2
  rw [hfl,ho',Us]
  have key:∀ N':Int,(Xj (o'++[⟨0,N',[],eS0⟩])).foldl (Ut l) s0N=⟨o'++[⟨0,N',[],eS0⟩],[],[]⟩:=fun N'=>by
   rw [Zdv,List.foldl_append]
   show Ut l _ (⟨0,N',[],eS0⟩,nE eS0)=_
   rw [Ztd,a4,Zdn a3]
  refine ⟨key _,fun o1 o2 he hk2 => ?_,rfl,rfl⟩
  obtain ⟨e1,e2⟩:=Zz9 he
  subst e1 e2
  exact ⟨rfl,rfl,a3,a4⟩
 have hk':∀ o,s.flush.getLast? = some o→o.Kind≠0:=fun o ho h0=>hk ⟨o,ho,h0⟩
 rw [Zdn hk']
 refine ⟨?_,fun o1 o2 he hk2 => ?_,rfl,rfl⟩
 ·rw [Zdv,List.foldl_append,Zpy h]
  show Ut l _ (⟨0,n,[],eS0⟩,nE eS0)=_
  rw [Ztd,Zdn hk']
 simp only at he
 obtain ⟨e1,e2⟩:=Zz9 he
 subst e1 e2
 exact ⟨rfl,rfl,hk',by rw [Zpy h]⟩
theorem NInv.step {l:Int} {s:NW} (h:NInv l s) {p:EO×Ed} (hp:nE p.2=p.2):NInv l (Ut l s p):=by
 unfold Ut
 split
 ·exact ⟨h.again,h.last,by simp only [List.map_append,h.gone,List.map_map];congr 1;exact List.map_congr_left fun x _=>Zw6 x,h.come⟩
 split
 ·exact ⟨h.again,h.last,h.gone,by simp only [List.map_append,h.come,List.map_map];congr 1;exact List.map_congr_left fun x _=>Zw6 x⟩
 split
 ·exact h.keep _
 split
 ·exact h.keep _
 rename_i h1 h2 h0 hi
 refine ⟨?_,fun o1 o2 he hk2 => ?_,rfl,rfl⟩
 ·simp only
  rw [Zdv,List.foldl_append,Zpy h]
  show Ut l s (⟨3,0,[],p.2⟩,nE p.2)=_
  rw [hp]
  unfold Ut
  simp only [show ¬ (3:Int)=1 from by decide,show ¬ (3:Int)=2 from by decide,show ¬ (3:Int)=0 from by decide,if_false]
  rw [if_neg hi]
 simp only at he
 obtain ⟨_,e2⟩:=Zz9 he
 subst e2
 simp at hk2
theorem Z08 {l:Int}:∀ (ps:List (EO×Ed)) (s:NW),NInv l s→(∀ p∈ps,nE p.2=p.2)→NInv l (ps.foldl (Ut l) s)
 | [],_,h,_=>h
 | p::ps,s,h,hp=>Z08 ps _ (h.step (hp p (by simp))) fun q hq=>hp q (by simp [hq])
theorem Z63 {l:Int} {ps:List (EO×Ed)} (hp:∀ p∈ps,nE p.2=p.2):Zcs l (Xj (Zcs l ps))=Zcs l ps:=by
 have h:=Z08 ps s0N (l:=l) ⟨rfl,fun o' o he=>by simp [s0N] at he,rfl,rfl⟩ hp
 unfold Zcs
 rw [Zpy h]
theorem Z2s:∀ (n:Nat) (e:Ed),SizeOf.sizeOf e < n→nE (nE e)=nE e
 | 0,_,h=>by omega
 | n+1,e,h=>by
  rw [Zd1 e]
  by_cases h1:e.Kind=1
  ·rw [if_pos h1,Zd1]
   simp [Zw6]
  rw [if_neg h1]
  by_cases h2:e.Kind=2
  ·rw [if_pos h2,Zd1]
   simp only [show ¬ (2:Int)=1 from by decide,if_false,if_true,List.map_map]
   congr 1
   refine List.map_congr_left fun k hk => ?_
   simp only [Function.comp]
   rw [Z2s n k.E (by have:=Q6 hk;omega)]
  rw [if_neg h2]
  by_cases h3:e.Kind=3
  ·rw [if_pos h3,Zd1]
   simp only [show ¬ (3:Int)=1 from by decide,show ¬ (3:Int)=2 from by decide,if_false,if_true]
   rw [Z63 fun p hp => ?_]
   obtain ⟨o,ho,rfl⟩:=List.mem_map.1 hp
   exact Z2s n o.E (by have:=Vp ho;omega)
  rw [if_neg h3,Zd1]
  simp [eS0]
theorem Yb5 (e:Ed):nE (nE e)=nE e:=Z2s _ e (Nat.lt_succ_self _)
theorem Zgx {α β:Type} (xs:List α) (f:α→β) (step:Int×List β→Option ((Int×List β) ⊕ List β)) (acc:List β) (hl:(xs.length:Int)≤140737488355328)
  (h1:∀ (i:Nat) (x:α) (out:List β),i < xs.length→xs[i]? = some x→x∈xs→out.length=acc.length+i→step ((i:Int),out)=some (.inl (IntKind.i64.wrap ((i:Int)+1),out++[f x])))
  (h2:∀ out,step ((xs.length:Int),out)=some (.inr out)):Zs step (0,acc)=some (acc++xs.map f):=by
 have key:∀ m i,i+m=xs.length→Zs step ((i:Int),acc++(xs.take i).map f)=some (acc++xs.map f):=fun m=>by
  induction m with
  | zero =>
   intro i hi
   have hi':i=xs.length:=by omega
   subst hi'
   rw [List.take_length]
   exact Y2 (h2 _)
  | succ m ih =>
   intro i hi
   have hx:xs[i]? = some xs[i]:=List.getElem?_eq_getElem (by omega)
   have h:=h1 i _ (acc++(xs.take i).map f) (by omega) hx (List.mem_of_getElem? hx) (by rw [List.length_append,List.length_map,List.length_take];omega)
   rw [Kg (by omega) (by omega)] at h
   rw [Y9 h]
   have e:acc++(xs.take i).map f++[f xs[i]]=acc++(xs.take (i+1)).map f:=by
    rw [List.take_add_one,hx,List.map_append,List.append_assoc]
    rfl
   rw [e]
   exact ih (i+1) (by omega)
 have:=key xs.length 0 (by omega)
 simpa using this
theorem Zlh {α:Type} (xs:List α) (x:α):Yx (xs++[x]) (xs.length:Int)=some x:=Yf (by simp)
def Zsb (k:Int):List EO:=if 0 < k then [⟨0,k,[],eS0⟩] else []
abbrev Wr:=Zw
theorem Ygh {w:Wr} (ho:w.out.length≤500000000):Xv w=some ⟨w.out++Zsb w.kept++Un w.gone++Zau w.come,0,[],[]⟩:=by
 unfold Xv
 have h1:(cond (decide (0 < w.kept)) ((Vr 240 w.out ([⟨0,0,[],eS0⟩]:List EO)).bind fun l2=>(Yx l2 (w.out.length:Int)).bind fun x3=>some (w.out++[(⟨0,w.kept,[],eS0⟩:EO)])) (some w.out))=some (w.out++Zsb w.kept):=by
  unfold Zsb
  by_cases h:0 < w.kept
  ·rw [decide_eq_true h,cond_true,U4 (by simp only [List.length_singleton];omega) (by simp only [List.length_singleton];omega),Option.bind_some,Zlh,Option.bind_some,if_pos h]
  rw [decide_eq_false h,cond_false,if_neg h,List.append_nil]
 have h2:∀ z1:List EO,z1.length≤w.out.length+1→(cond (decide (0 < (w.gone.length:Int))) ((Vr 240 z1 ([⟨0,0,[],eS0⟩]:List EO)).bind fun l9=>(Yx l9 (z1.length:Int)).bind fun x10=>some ((z1++[(⟨1,0,w.gone,eS0⟩:EO)]),w.gone)) (some (z1,w.gone)))=some (z1++Un w.gone,w.gone):=fun z1 hz=>by
  by_cases h:w.gone=[]
  ·rw [h];simp [Un]
  have:decide (0 < (w.gone.length:Int))=true:=by rw [decide_eq_true_eq];have:=List.length_pos_iff.2 h;omega
  rw [this,cond_true,U4 (by simp only [List.length_singleton];omega) (by simp only [List.length_singleton];omega),Option.bind_some,Zlh,Option.bind_some,Zhy h]
 have h3:∀ z1:List EO,z1.length≤w.out.length+2→(cond (decide (0 < (w.come.length:Int))) ((Vr 240 z1 ([⟨0,0,[],eS0⟩]:List EO)).bind fun l16=>(Yx l16 (z1.length:Int)).bind fun x17=>some ((z1++[(⟨2,0,w.come,eS0⟩:EO)]),w.come)) (some (z1,w.come)))=some (z1++Zau w.come,w.come):=fun z1 hz=>by
  by_cases h:w.come=[]
  ·rw [h];simp [Zau]
  have:decide (0 < (w.come.length:Int))=true:=by rw [decide_eq_true_eq];have:=List.length_pos_iff.2 h;omega
  rw [this,cond_true,U4 (by simp only [List.length_singleton];omega) (by simp only [List.length_singleton];omega),Option.bind_some,Zlh,Option.bind_some,Zhz h]
 have l1:(w.out++Zsb w.kept).length≤w.out.length+1:=by
  unfold Zsb;split <;> simp
 have l2:(w.out++Zsb w.kept++Un w.gone).length≤w.out.length+2:=by
  have:(Un w.gone).length≤1:=by unfold Un;split <;> simp
  rw [List.length_append];omega
 refine Option.bind_eq_some_iff.2 ⟨_,h1,?_⟩
 refine Option.bind_eq_some_iff.2 ⟨_,h2 _ l1,?_⟩
 refine Option.bind_eq_some_iff.2 ⟨_,h3 _ l2,rfl⟩
def thN (o:EO):Nat:=if o.Kind=0 then o.N.toNat else if o.Kind=3 then 1 else o.L.length
def opk (o:EO):Prop:=(o.Kind=0∧1≤o.N)∨(o.Kind=1∧o.L≠[])∨(o.Kind=2∧o.L≠[])∨o.Kind=3
structure WS (w:Wr) (s:NW) (i S:Nat):Prop where
 nn:0≤w.kept
 zero:w.kept=0→s=⟨w.out,w.gone,w.come⟩
 pos:0 < w.kept→w.gone=[]∧w.come=[]∧s=⟨w.out++[⟨0,w.kept,[],eS0⟩],[],[]⟩
 last:(w.kept=0→w.gone=[]∧w.come=[])→∀ o,w.out.getLast? = some o→o.Kind≠0
 len:w.out.length≤3 * i
 sum:w.gone.length+w.come.length+w.kept.toNat≤S
theorem WS.flush {w:Wr} {s:NW} {i S:Nat} (h:WS w s i S):w.out++Zsb w.kept++Un w.gone++Zau w.come=s.flush:=by
 by_cases hk:w.kept=0
 ·rw [h.zero hk]
  unfold NW.flush Zsb
  rw [if_neg (by omega),List.append_nil,List.append_assoc]
 have hp:0 < w.kept:=by have:=h.nn;omega
 obtain ⟨h1,h2,h3⟩:=h.pos hp
 rw [h3,h1,h2]
 unfold NW.flush Zsb
 rw [if_pos hp]
 simp [Un,Zau]
theorem WS.nk {w:Wr} {s:NW} {i S:Nat} (h:WS w s i S) (hk:w.kept=0):∀ o,s.flush.getLast? = some o→o.Kind≠0:=fun o ho=>by
 rcases Zl9 ho with h12 | ⟨g1,g2,g3⟩
 ·omega
 have:=h.zero hk
 rw [this] at g1 g2 g3
 exact h.last (fun _=>⟨g1,g2⟩) o g3
theorem WS.lay {w:Wr} {s:NW} {i S:Nat} (h:WS w s i S) (hi:i≤1048576):Xv w=some ⟨s.flush,0,[],[]⟩:=by
 rw [Ygh (by have:=h.len;omega),h.flush]
theorem WS.flen {w:Wr} {s:NW} {i S:Nat} (h:WS w s i S):s.flush.length≤3 * i+2:=by
 by_cases hk:w.kept=0
 ·rw [h.zero hk]
  have:=h.len
  have d1:(Un w.gone).length≤1:=by unfold Un;split <;> simp
  have d2:(Zau w.come).length≤1:=by unfold Zau;split <;> simp
  unfold NW.flush
  simp only [List.length_append]
  omega
 have hp:0 < w.kept:=by have:=h.nn;omega
 obtain ⟨_,_,h3⟩:=h.pos hp
 rw [h3]
 have:=h.len
 unfold NW.flush
 simp [Un,Zau]
 omega
theorem Zlb (w:Wr):(⟨w.out,w.kept,w.gone,w.come⟩:Wr)=w:=rfl
theorem Z74 {w:Wr} {s:NW} {i S:Nat} (h:WS w s i S) (hi:i≤1048576) (hS:S≤1073741824) {n:Int} (h1:1≤n) (hn:n≤1073741824):∃ w',Kb w n=some w'∧WS w' ⟨Q1 s.flush n,[],[]⟩ (i+1) (S+n.toNat):=by
 unfold Kb
 by_cases hk:w.kept=0
 ·have e:(w.kept == 0)=true:=by rw [hk];rfl
  have hw:IntKind.i64.wrap (0+n)=n:=by rw [Kg (by omega) (by omega)];omega
  rw [e,cond_true,Zlb,h.lay hi]
  simp only [Option.bind_some,hw]
  refine ⟨_,rfl,by simp only;omega,fun h0=>by simp only at h0;omega,fun _=>⟨rfl,rfl,?_⟩,fun _=>h.nk hk,by simp only;have:=h.flen;omega,by simp⟩
  rw [Zdn (h.nk hk)]
 have hp:0 < w.kept:=by have:=h.nn;omega
 have e:(w.kept == 0)=false:=by rw [beq_eq_false_iff_ne];exact hk
 obtain ⟨g1,g2,g3⟩:=h.pos hp
 have hs:=h.sum
 have hw:IntKind.i64.wrap (w.kept+n)=w.kept+n:=by rw [Kg (by omega) (by omega)]
 rw [e,cond_false]
 simp only [Option.bind_some,hw]
 refine ⟨_,rfl,by simp only;omega,fun h0=>by simp only at h0;omega,fun _=>⟨g1,g2,?_⟩,fun _=>h.last (fun h0=>by omega),by simp only;have:=h.len;omega,by simp only;omega⟩
 have hf:s.flush=w.out++[⟨0,w.kept,[],eS0⟩]:=by rw [g3];unfold NW.flush;simp [Un,Zau]
 rw [hf,Us]
theorem Yd1 {l:Int} {e:Ed} (hb:BE e):Zfp l e=some (Zcj l e):=by
 unfold Zfp Zcj
 have hw:=hb.w
 have hk:=hb.k
 have e1:(IntKind.i64.wrap ((e.Words.length:Int)+(e.Kids.length:Int)) == 0)=(e.Words.length == 0 && e.Kids.length == 0):=by
  rw [Kg (by omega) (by omega),Bool.eq_iff_iff,Bool.and_eq_true,beq_iff_eq,beq_iff_eq,beq_iff_eq]
  omega
 rw [e1]
 cases e.Kind == 0 <;> cases l == 9 <;> cases e.Kind == 2 <;> cases (e.Words.length == 0 && e.Kids.length == 0) <;> rfl
theorem Z6o {w:Wr} {s:NW} {i S:Nat} (h:WS w s i S) (hi:i≤1048576) (hS:S≤1073741824) {l:Int} {e:Ed} (hb:BE e) :
  ∃ w',Ka w l e=some w'∧WS w' (if Zcj l e=true then ⟨Q1 s.flush 1,[],[]⟩ else ⟨s.flush++[⟨3,0,[],e⟩],[],[]⟩) (i+1) (S+1):=by
 unfold Ka
 rw [Yd1 hb,Option.bind_some]
 cases hid:Zcj l e with
 | true =>
  obtain ⟨w',h1,h2⟩:=Z74 h hi hS (n:=1) (by omega) (by omega)
  rw [cond_true,Zlb,h1]
  exact ⟨w',rfl,h2⟩
 | false =>
  have hf:=h.flen
  rw [cond_false,Zlb,h.lay hi,Option.bind_some,U4 (by simp only [List.length_singleton];omega) (by simp only [List.length_singleton];omega),Option.bind_some,Zlh,Option.bind_some]
  refine ⟨_,rfl,Int.le_refl _,fun _=>rfl,fun h0=>by simp at h0,fun _ o ho => ?_,by simp;omega,by simp⟩
  simp only [List.getLast?_concat,Option.some.injEq] at ho
  subst ho
  simp
theorem Zzl (step:Int×List Tr→Option ((Int×List Tr) ⊕ List Tr)) (L acc:List Tr) (hL:∀ t∈L,Bd t) (hl:(acc.length+L.length) * 56≤140737488355328)
  (h1:∀ (i:Nat) (x:Tr) (out:List Tr),i < L.length→L[i]? = some x→step ((i:Int),out)=((Zej x).bind fun y6=>(Vr 56 out ([(⟨0,[],[]⟩:Tr)])).bind fun l7=>(Yx l7 (out.length:Int)).bind fun x8=>some (.inl ((IntKind.i64.wrap ((i:Int)+1)),(out++[y6])))))
  (h2:∀ out,step ((L.length:Int),out)=some (.inr out)):Zs step (0,acc)=some (acc++L.map nrm) :=
 Zgx L nrm step acc (by omega) (fun i x out hi hx hm ho=>by
  rw [h1 i x out hi hx,Z2t (hL x hm),Option.bind_some,U4 (by simp only [List.length_singleton];omega) (by simp only [List.length_singleton];omega),Option.bind_some,Zlh,Option.bind_some]) h2
theorem Z2q {α β:Type} {f:α→β} {l:List α} (h:l≠[]):l.map f≠[]:=by simpa using h
theorem Ydc {w:Wr} {s:NW} {i S:Nat} (h:WS w s i S) (hi:i≤1048576) {L:List Tr} (hS:S+L.length≤1073741824) (hne:L≠[]) (hL:∀ t∈L,Bd t) :
  ∃ w',Jt w L=some w'∧WS w' ⟨s.out,s.gone++L.map nrm,s.come⟩ (i+1) (S+L.length):=by
 have hs:=h.sum
 have hloop:∀ acc:List Tr,acc.length≤S→Zs (Qr L) (0,acc)=some (acc++L.map nrm):=fun acc ha =>
  Zzl _ L acc hL (by omega) (fun i x out hi hx=>by unfold Qr;rw [Ua hi,cond_true,Yf hx,Option.bind_some]) (fun out=>by unfold Qr;rw [Uo,cond_false])
 unfold Jt
 by_cases hk:w.kept=0
 ·rw [decide_eq_false (by omega),cond_false,Option.bind_some]
  simp only
  rw [hloop w.gone (by omega),Option.bind_some]
  refine ⟨_,rfl,by simp only;omega,fun _ => ?_,fun h0=>by simp only at h0;omega,fun hg => ?_,by simp only;have:=h.len;omega,by simp only [List.length_append,List.length_map];omega⟩
  ·rw [h.zero hk]
  have:=(hg hk).1
  simp only at this
  exact absurd (List.append_eq_nil_iff.1 this).2 (Z2q hne)
 have hp:0 < w.kept:=by have:=h.nn;omega
 obtain ⟨g1,g2,g3⟩:=h.pos hp
 have hf:s.flush=s.out:=by rw [g3];unfold NW.flush;simp [Un,Zau]
 rw [decide_eq_true hp,cond_true,Zlb,h.lay hi]
 simp only [Option.bind_some]
 rw [hloop [] (by simp),Option.bind_some]
 refine ⟨_,rfl,Int.le_refl _,fun _ => ?_,fun h0=>by simp at h0,fun hg => ?_,by simp only;have:=h.flen;omega,by simp⟩
 ·rw [hf,g3]
 have:=(hg rfl).1
 simp only at this
 exact absurd (List.append_eq_nil_iff.1 this).2 (Z2q hne)
theorem Ydd {w:Wr} {s:NW} {i S:Nat} (h:WS w s i S) (hi:i≤1048576) {L:List Tr} (hS:S+L.length≤1073741824) (hne:L≠[]) (hL:∀ t∈L,Bd t) :
  ∃ w',Ju w L=some w'∧WS w' ⟨s.out,s.gone,s.come++L.map nrm⟩ (i+1) (S+L.length):=by
 have hs:=h.sum
 have hloop:∀ acc:List Tr,acc.length≤S→Zs (Qs L) (0,acc)=some (acc++L.map nrm):=fun acc ha =>
  Zzl _ L acc hL (by omega) (fun i x out hi hx=>by unfold Qs;rw [Ua hi,cond_true,Yf hx,Option.bind_some]) (fun out=>by unfold Qs;rw [Uo,cond_false])
 unfold Ju
 by_cases hk:w.kept=0
 ·rw [decide_eq_false (by omega),cond_false,Option.bind_some]
  simp only
  rw [hloop w.come (by omega),Option.bind_some]
  refine ⟨_,rfl,by simp only;omega,fun _ => ?_,fun h0=>by simp only at h0;omega,fun hg => ?_,by simp only;have:=h.len;omega,by simp only [List.length_append,List.length_map];omega⟩
  ·rw [h.zero hk]
  have:=(hg hk).2
  simp only at this
  exact absurd (List.append_eq_nil_iff.1 this).2 (Z2q hne)
 have hp:0 < w.kept:=by have:=h.nn;omega
 obtain ⟨g1,g2,g3⟩:=h.pos hp
 have hf:s.flush=s.out:=by rw [g3];unfold NW.flush;simp [Un,Zau]
 rw [decide_eq_true hp,cond_true,Zlb,h.lay hi]
 simp only [Option.bind_some]
 rw [hloop [] (by simp),Option.bind_some]
 refine ⟨_,rfl,Int.le_refl _,fun _ => ?_,fun h0=>by simp at h0,fun hg => ?_,by simp only;have:=h.flen;omega,by simp⟩
 ·rw [hf,g3]
 have:=(hg rfl).2
 simp only at this
 exact absurd (List.append_eq_nil_iff.1 this).2 (Z2q hne)
end Go.Proofs.YtkbcdcffpefklaaGreat
