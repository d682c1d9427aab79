/- Plain facts on this seat's mirrors (part SP1); each theorem bears its own conditions. -/
import Derived.Test.YtmpkfolcikhofaaSM5
import Derived.IntWalk
namespace Go.Proofs.Ytmpkfolcikhofaa
open Go.RowKit
set_option linter.unusedVariables false
set_option linter.unusedSimpArgs false
abbrev Tr:=S_api_Tree
theorem Jq {x:Int} (h1:-9223372036854775808≤x) (h2:x≤9223372036854775807):IntKind.i64.wrap x=x:=Zt3 ⟨h1,h2⟩
theorem Uz {t x:Tr} (h:x∈t.Kids):SizeOf.sizeOf x < SizeOf.sizeOf t:=by
 obtain ⟨k,w,ks⟩:=t
 have:=List.sizeOf_lt_of_mem h
 simp only [S_api_Tree.mk.sizeOf_spec]
 simp only at this
 omega
theorem Zqh {α R:Type} (xs:List α) (step:Int→Option (Int ⊕ R)) (p:α→Bool) (e o:R) (hl:(xs.length:Int)≤140737488355328)
  (h1:∀ (i:Nat) (x:α),i < xs.length→xs[i]? = some x→x∈xs→step i=some (if p x=true then .inr e else .inl (IntKind.i64.wrap ((i:Int)+1)))) (h2:step xs.length=some (.inr o)):Zw step 0=some (if xs.any p=true then e else o):=by
 have hloop:=Zz1 xs (fun i (_:Unit)=>i) step (fun _ x=>some (if p x=true then .inr e else .inl ())) (fun _=>o) (fun i s x hi hx=>by
  rw [h1 i x hi hx (List.mem_of_getElem? hx),Jq (by omega) (by omega)]
  cases p x <;> rfl) (fun _=>h2) ()
 refine hloop.trans ?_
 rw [Zp1 p (fun s _=>s) e (fun _ _=>True) xs.length xs () 0 (by omega) trivial (fun s k x _ _ _=>⟨by cases p x <;> rfl,fun _=>trivial⟩)]
theorem Vh {i n:Nat} (h:i < n):decide ((i:Int) < (n:Int))=true:=by rw [decide_eq_true_eq];omega
theorem Zck {n:Nat}:decide ((n:Int) < (n:Int))=false:=by rw [decide_eq_false_iff_not];omega
def tr {α:Type} (p:α→Bool):List α→List α
 | []=>[]
 | x::xs=>match tr p xs with
  | []=>if p x=true then [] else [x]
  | y::ys=>x::y::ys
def trN {α:Type} (p:α→Bool) (l:List α):Nat→Nat
 | 0=>0
 | n+1=>match l[n]? with
  | some x=>if p x=true then trN p l n else n+1
  | none=>0
theorem Zov {α:Type} {p:α→Bool} {x:α} (h:p x=true):∀ l:List α,tr p (l++[x])=tr p l
 | []=>by simp [tr,h]
 | y::l=>by simp only [List.cons_append,tr,Zov h l]
theorem Zou {α:Type} {p:α→Bool} {x:α} (h:p x=false):∀ l:List α,tr p (l++[x])=l++[x]
 | []=>by simp [tr,h]
 | y::l=>by
  simp only [List.cons_append,tr,Zou h l]
  cases hl:l++[x] with
  | nil=>simp at hl
  | cons a b=>rfl
theorem Zry {α:Type} {p:α→Bool} {l:List α}:∀ n,n≤l.length→l.take (trN p l n)=tr p (l.take n)∧trN p l n≤n
 | 0,_=>by simp [trN,tr]
 | n+1,h=>by
  have hn:l[n]? = some l[n]:=List.getElem?_eq_getElem (by omega)
  have e:l.take (n+1)=l.take n++[l[n]]:=by rw [List.take_add_one,hn];rfl
  obtain ⟨h1,h2⟩:=Zry (p:=p) (l:=l) n (by omega)
  unfold trN
  rw [hn]
  simp only
  split
  ·rename_i hp
   rw [e,Zov hp]
   exact ⟨h1,by omega⟩
  rename_i hp
  rw [e,Zou (by simpa using hp),← e]
  exact ⟨rfl,Nat.le_refl _⟩
theorem Zf4 {α:Type} (p:α→Bool):∀ l:List α,(tr p l).length≤l.length
 | []=>by simp [tr]
 | x::l=>by
  have:=Zf4 p l
  simp only [tr]
  split
  ·split <;> simp
  rename_i y ys he
  rw [he] at this
  simp at this ⊢
  omega
theorem Zf5 {α:Type} {p:α→Bool} {x:α}:∀ {l:List α},x∈tr p l→x∈l
 | [],h=>by simp [tr] at h
 | y::l,h=>by
  simp only [tr] at h
  split at h
  ·split at h
   ·simp at h
   simp at h;simp [h]
  rename_i z zs he
  rw [← he] at h
  rcases List.mem_cons.1 h with h | h
  ·simp [h]
  exact List.mem_cons_of_mem _ (Zf5 h)
theorem Zw4 {α:Type} {p:α→Bool}:∀ l:List α,tr p (tr p l)=tr p l
 | []=>rfl
 | x::l=>by
  have ih:=Zw4 (p:=p) l
  simp only [tr]
  cases h:tr p l with
  | nil =>
   simp only
   cases hx:p x <;> simp [tr,hx]
  | cons y ys =>
   rw [h] at ih
   simp only [tr] at ih ⊢
   rw [ih]
theorem Zuu {α β:Type} {p:α→Bool} {q:β→Bool} {f:α→β} (h:∀ x,q (f x)=p x):∀ l:List α,tr q (l.map f)=(tr p l).map f
 | []=>rfl
 | x::l=>by
  simp only [List.map_cons,tr,Zuu h l]
  cases tr p l with
  | nil=>simp only [List.map_nil,h];split <;> rfl
  | cons y ys=>rfl
theorem Zt8 {α:Type} (l:List α) (p:α→Bool) (step:Int→Option (Int ⊕ Int)) (hl:(l.length:Int)≤140737488355328)
  (h0:step 0=some (.inr 0)) (h1:∀ (n:Nat) (x:α),l[n]? = some x→n < l.length→step ((n+1:Nat):Int)=some (if p x=true then .inl (n:Int) else .inr ((n+1:Nat):Int))):Zw step (l.length:Int)=some (trN p l l.length:Int):=by
 have key:∀ n:Nat,n≤l.length→Zw step (n:Int)=some (trN p l n:Int):=fun n=>by
  induction n with
  | zero=>intro _;exact Z6 h0
  | succ n ih =>
   intro hn
   have hx:l[n]? = some l[n]:=List.getElem?_eq_getElem (by omega)
   have h:=h1 n _ hx (by omega)
   unfold trN
   rw [hx]
   simp only
   split
   ·rename_i hp
    rw [if_pos hp] at h
    rw [Yn h]
    exact ih (by omega)
   rename_i hp
   rw [if_neg hp] at h
   exact Z6 h
 exact key l.length (Nat.le_refl _)
theorem Zmv {α:Type} {l:List α} {n:Nat} (h:n≤l.length):Zbq l 0 (n:Int)=some (l.take n):=by
 rw [Zki (by omega) (by omega) (by omega)]
 simp
theorem Z39 {n:Nat}:decide (0 < ((n+1:Nat):Int))=true:=by rw [decide_eq_true_eq];omega
theorem Zhw {l:List Int} (hl:(l.length:Int)≤140737488355328):Ju l=some (tr (fun x=>x == 0) l):=by
 have hloop:=Zt8 l (fun x=>x == 0) (K8 l) hl (by unfold K8;rfl) (fun n x hx hn=>by
  unfold K8
  rw [Z39,cond_true,Jq (by omega) (by omega)]
  have e:((n+1:Nat):Int) - 1=(n:Int):=by omega
  rw [e,Ya hx]
  simp only [Option.bind_some,cond_true]
  cases x == 0 <;> rfl)
 obtain ⟨h1,h2⟩:=Zry (p:=fun x=>x == 0) (l:=l) l.length (Nat.le_refl _)
 unfold Ju
 rw [hloop,Option.bind_some,Zmv h2,Option.bind_some,h1,List.take_length]
theorem Zj6 {l:List Tr} (hl:(l.length:Int)≤140737488355328):K3 l=some (tr (fun x=>x.Kind == 0) l):=by
 have hloop:=Zt8 l (fun x=>x.Kind == 0) (Vx l) hl (by unfold Vx;rfl) (fun n x hx hn=>by
  unfold Vx
  rw [Z39,cond_true,Jq (by omega) (by omega)]
  have e:((n+1:Nat):Int) - 1=(n:Int):=by omega
  rw [e,Ya hx]
  simp only [Option.bind_some,cond_true]
  cases x.Kind == 0 <;> rfl)
 obtain ⟨h1,h2⟩:=Zry (p:=fun x=>x.Kind == 0) (l:=l) l.length (Nat.le_refl _)
 unfold K3
 rw [hloop,Option.bind_some,Zmv h2,Option.bind_some,h1,List.take_length]
theorem Z1u {l:List Int} (hl:l.length * 8≤140737488355328):Uh l=some (tr (fun x=>x == 0) l):=by
 have hloop:=Zt8 l (fun x=>x == 0) (Kb l) (by omega) (by unfold Kb;rfl) (fun n x hx hn=>by
  unfold Kb
  rw [Z39,cond_true,Jq (by omega) (by omega)]
  have e:((n+1:Nat):Int) - 1=(n:Int):=by omega
  rw [e,Ya hx]
  simp only [Option.bind_some,cond_true]
  cases x == 0 <;> rfl)
 obtain ⟨h1,h2⟩:=Zry (p:=fun x=>x == 0) (l:=l) l.length (Nat.le_refl _)
 have h3:=Zf4 (fun x=>x == 0) l
 unfold Uh
 rw [hloop,Option.bind_some,Zmv h2,Option.bind_some,h1,List.take_length,Vf (by rw [List.length_nil];omega) (by rw [List.length_nil];omega)]
 rfl
inductive Bd:Tr→Prop
 | mk (t:Tr) (h1:t.Words.length * 8≤140737488355328) (h2:t.Kids.length * 56≤140737488355328) (h3:∀ w∈t.Words,0≤w∧w < 18446744073709551616) (h4:∀ k∈t.Kids,Bd k):Bd t
theorem Bd.w {t:Tr} (h:Bd t):t.Words.length * 8≤140737488355328:=by cases h;assumption
theorem Bd.k {t:Tr} (h:Bd t):t.Kids.length * 56≤140737488355328:=by cases h;assumption
theorem Bd.u {t:Tr} (h:Bd t):∀ w∈t.Words,0≤w∧w < 18446744073709551616:=by cases h;assumption
theorem Bd.all {t:Tr} (h:Bd t):∀ k∈t.Kids,Bd k:=by cases h;assumption
def nrm (t:Tr):Tr :=
 if t.Kind=0 then ⟨0,[],[]⟩
 else if t.Kind=1 then ⟨1,tr (fun x=>x == 0) t.Words,tr (fun x=>x.Kind == 0) (t.Kids.attach.map fun k=>nrm k.1)⟩
 else ⟨t.Kind,t.Words,t.Kids.attach.map fun k=>nrm k.1⟩
termination_by SizeOf.sizeOf t
decreasing_by all_goals exact Uz k.2
theorem Zcm (t:Tr):nrm t=if t.Kind=0 then ⟨0,[],[]⟩ else if t.Kind=1 then ⟨1,tr (fun x=>x == 0) t.Words,tr (fun x=>x.Kind == 0) (t.Kids.map nrm)⟩ else ⟨t.Kind,t.Words,t.Kids.map nrm⟩:=by
 rw [nrm]
 simp only [List.attach_map_val]
theorem Uk (t:Tr):(nrm t).Kind=t.Kind:=by
 rw [Zcm]
 split
 ·rename_i h;exact h.symm
 split
 ·rename_i h;exact h.symm
 rfl
theorem Z14 {α β:Type} {xs:List α} {f:α→β} {z:β} {i m:Nat} {x:α} (hi:i+(m+1)=xs.length) (hx:xs[i]? = some x) :
  ((xs.take i).map f++List.replicate (m+1) z).set i (f x)=(xs.take (i+1)).map f++List.replicate m z:=by
 have hl:((xs.take i).map f).length=i:=by rw [List.length_map,List.length_take];omega
 rw [List.set_append,if_neg (by omega),hl,Nat.sub_self,List.replicate_succ,List.set_cons_zero,List.take_add_one,hx]
 simp
theorem Z1c {α β:Type} (xs:List α) (f:α→β) (z:β) (step:Int×List β→Option ((Int×List β) ⊕ List β)) (hl:(xs.length:Int)≤140737488355328)
  (h1:∀ (i:Nat) (x:α) (out:List β) (y:β),i < xs.length→xs[i]? = some x→x∈xs→out[i]? = some y→step ((i:Int),out)=some (.inl (IntKind.i64.wrap ((i:Int)+1),Zbj out (i:Int) (f x))))
  (h2:∀ out,step ((xs.length:Int),out)=some (.inr out)):Zw step (0,List.replicate xs.length z)=some (xs.map f):=by
 have key:∀ m i,i+m=xs.length→Zw step ((i:Int),(xs.take i).map f++List.replicate m z)=some (xs.map f):=fun m=>by
  induction m with
  | zero =>
   intro i hi
   have hi':i=xs.length:=by omega
   subst hi'
   rw [List.take_length,List.replicate_zero,List.append_nil]
   exact Z6 (h2 _)
  | succ m ih =>
   intro i hi
   have hx:xs[i]? = some xs[i]:=List.getElem?_eq_getElem (by omega)
   have hl':((xs.take i).map f).length=i:=by rw [List.length_map,List.length_take];omega
   have hy:((xs.take i).map f++List.replicate (m+1) z)[i]? = some z:=by
    rw [List.getElem?_append_right (by omega),hl',Nat.sub_self,List.replicate_succ];rfl
   have h:=h1 i _ _ z (by omega) hx (List.mem_of_getElem? hx) hy
   rw [Jq (by omega) (by omega)] at h
   rw [Yn h]
   unfold Zbj
   rw [Int.toNat_natCast,Z14 (by omega) hx]
   exact ih (i+1) (by omega)
 have:=key xs.length 0 (by omega)
 simpa using this
theorem Zy1:∀ (k:Nat) (t:Tr),Bd t→SizeOf.sizeOf t < k→Vi k t=some (nrm t)
 | 0,t,_,h=>by omega
 | k+1,t,hb,hk=>by
  have ih:∀ x∈t.Kids,Vi k x=some (nrm x):=fun x hx=>Zy1 k x (hb.all x hx) (by have:=Uz hx;omega)
  have hw:=hb.w
  have hkd:=hb.k
  show Zcw (Vi k) t=_
  unfold Zcw
  rw [Zcm]
  by_cases h0:t.Kind=0
  ·rw [if_pos h0,h0];rfl
  have e0:(t.Kind == 0)=false:=by rw [beq_eq_false_iff_ne];exact h0
  rw [if_neg h0,e0,cond_false]
  have main:∀ (w:List Int) (ks:List Tr),(ks.length:Int)≤140737488355328→(56:Int) * ks.length≤140737488355328→(∀ x∈ks,Vi k x=some (nrm x)) →
    ((cond (decide (0 < ((w,ks).2.length:Int))) ((Ziw 56 ((w,ks).2.length:Int) (⟨(0:Int),([]:(List Int)),([]:(List S_api_Tree))⟩:S_api_Tree)).bind fun l6=>some l6) (some ([]:List S_api_Tree))).bind fun (z5:(List S_api_Tree))=>(Zw (Ux (Vi k) (w,ks)) (0,z5)).bind fun (z14:(List S_api_Tree))=>some (⟨t.Kind,(w,ks).1,z14⟩:S_api_Tree))=some ⟨t.Kind,w,ks.map nrm⟩:=fun w ks h1 h2 hks=>by
   have hz:(cond (decide (0 < ((w,ks).2.length:Int))) ((Ziw 56 ((w,ks).2.length:Int) (⟨(0:Int),([]:(List Int)),([]:(List S_api_Tree))⟩:S_api_Tree)).bind fun l6=>some l6) (some ([]:List S_api_Tree)))=some (List.replicate ks.length (⟨0,[],[]⟩:Tr)):=by
    cases ks with
    | nil=>rfl
    | cons y ys =>
     have:decide (0 < (((w,y::ys).2.length:Nat):Int))=true:=by rw [decide_eq_true_eq];simp
     rw [this,cond_true,Z1e (Int.natCast_nonneg _) h2 h1,Option.bind_some,Int.toNat_natCast]
   rw [hz,Option.bind_some]
   rw [Z1c ks nrm _ (Ux (Vi k) (w,ks)) h1 (fun i x out z hi hx hm hz=>by
     unfold Ux
     simp only
     rw [Vh hi,cond_true,Ya hx,Option.bind_some,hks x hm,Option.bind_some,Ya hz,Option.bind_some]) (fun out=>by
     unfold Ux
     simp only
     rw [Zck,cond_false]),Option.bind_some]
  by_cases h1:t.Kind=1
  ·have e1:(t.Kind == 1)=true:=by rw [beq_iff_eq];exact h1
   have l1:=Zf4 (fun x:Tr=>x.Kind == 0) t.Kids
   rw [if_pos h1,e1,cond_true,Zhw (by omega),Option.bind_some,Zj6 (by omega),Option.bind_some,Option.bind_some]
   rw [main _ _ (by omega) (by omega) (fun x hx=>ih x (Zf5 hx)),Zuu (fun x=>by rw [Uk]),h1]
  have e1:(t.Kind == 1)=false:=by rw [beq_eq_false_iff_ne];exact h1
  rw [if_neg h1,e1,cond_false,Option.bind_some]
  exact main _ _ (by omega) (by omega) ih
theorem Z25 {t:Tr} (h:Bd t):Ziv t=some (nrm t):=Zcj (SizeOf.sizeOf t+1) fun k hk=>Zy1 k t h (by omega)
theorem Zdf {α:Type} {p:α→Bool} {x:α} {l:List α} (h:tr p l=[]):tr p (x::l)=if p x=true then [] else [x]:=by simp only [tr,h]
theorem Zhv {α:Type} {p:α→Bool} {x:α} {l:List α} (h:tr p l≠[]):tr p (x::l)=x::tr p l:=by
 simp only [tr]
 split
 ·rename_i h';exact absurd h' h
 rename_i h';rw [h']
theorem Zyw:∀ (l:List Tr) (n:Nat) (acc:Int),(l.zipIdx n).foldl (fun a p=>if p.1.Kind=0 then a else ((p.2+1:Nat):Int)) acc=if (tr (fun x=>x.Kind == 0) l).length=0 then acc else ((n+(tr (fun x=>x.Kind == 0) l).length:Nat):Int)
 | [],n,acc=>by simp [tr]
 | x::l,n,acc=>by
  rw [List.zipIdx_cons,List.foldl_cons,Zyw l (n+1)]
  by_cases h:tr (fun x=>x.Kind == 0) l=[]
  ·rw [Zdf h,h]
   by_cases hx:x.Kind=0
   ·simp [hx]
   simp [hx]
  have h':(tr (fun x=>x.Kind == 0) l).length≠0:=by simpa using h
  rw [Zhv h,if_neg h',List.length_cons,if_neg (by omega)]
  congr 1
  omega
theorem Z3l {α:Type} (p:α→Bool) (l:List α):l.take (tr p l).length=tr p l:=by
 obtain ⟨h1,h2⟩:=Zry (p:=p) (l:=l) l.length (Nat.le_refl _)
 rw [List.take_length] at h1
 rw [← h1,List.length_take]
 congr 1
 omega
theorem Z1z {k:Nat} {t:Tr} (hl:t.Kids.length * 56≤140737488355328) (ih:∀ x∈t.Kids,Xd k x=some (nrm x)) :
  Zw (X2 (Xd k) t) (0,0,[])=some (if (tr (fun x=>x.Kind == 0) (t.Kids.map nrm)).length=0 then 0 else ((tr (fun x=>x.Kind == 0) (t.Kids.map nrm)).length:Int),t.Kids.map nrm):=by
 have key:∀ (l pre:List Tr) (a:Int),t.Kids=pre++l→Zw (X2 (Xd k) t) (a,((pre.length:Nat):Int),pre.map nrm)=some (((l.map nrm).zipIdx pre.length).foldl (fun a p=>if p.1.Kind=0 then a else ((p.2+1:Nat):Int)) a,t.Kids.map nrm):=fun l=>by
  induction l with
  | nil =>
   intro pre a hp
   rw [List.append_nil] at hp
   refine Z6 ?_
   unfold X2
   simp only
   rw [hp,Zck,cond_false]
   rfl
  | cons x l ihl =>
   intro pre a hp
   have hx:t.Kids[pre.length]? = some x:=by rw [hp,List.getElem?_append_right (Nat.le_refl _),Nat.sub_self];rfl
   have hi:pre.length < t.Kids.length:=by rw [hp];simp
   have hm:x∈t.Kids:=List.mem_of_getElem? hx
   have hs:X2 (Xd k) t (a,((pre.length:Nat):Int),pre.map nrm)=some (.inl (if x.Kind=0 then a else ((pre.length+1:Nat):Int),(((pre++[x]).length:Nat):Int),(pre++[x]).map nrm)):=by
    unfold X2
    simp only
    rw [Vh hi,cond_true,Ya hx,Option.bind_some,ih x hm,Option.bind_some,Vf (by simp;omega) (by simp;omega),Option.bind_some,Jq (by omega) (by omega),Uk]
    have e:((pre.length:Nat):Int)+1=((pre.length+1:Nat):Int):=by omega
    rw [e]
    by_cases h0:x.Kind=0
    ·simp [h0]
    have:(x.Kind != 0)=true:=by simp [h0]
    rw [this,cond_true]
    simp [h0]
   rw [Yn hs,ihl (pre++[x]) _ (by rw [hp];simp)]
   simp only [List.map_cons,List.zipIdx_cons,List.foldl_cons,List.length_append,List.length_singleton,Uk]
 have:=key t.Kids [] 0 rfl
 rw [Zyw] at this
 simpa using this
theorem Zv1:∀ (k:Nat) (t:Tr),Bd t→SizeOf.sizeOf t < k→Xd k t=some (nrm t)
 | 0,t,_,h=>by omega
 | k+1,t,hb,hk=>by
  have ih:∀ x∈t.Kids,Xd k x=some (nrm x):=fun x hx=>Zv1 k x (hb.all x hx) (by have:=Uz hx;omega)
  have hw:=hb.w
  have hkd:=hb.k
  show V8 (Xd k) t=_
  unfold V8
  rw [Zcm]
  by_cases h0:t.Kind=0
  ·rw [if_pos h0,h0];rfl
  have e0:(t.Kind == 0)=false:=by rw [beq_eq_false_iff_ne];exact h0
  rw [if_neg h0,e0,cond_false,Z1z hkd ih,Option.bind_some]
  by_cases h1:t.Kind=1
  ·have e1:(t.Kind == 1)=true:=by rw [beq_iff_eq];exact h1
   rw [if_pos h1,e1,cond_true,Z1u hw,Option.bind_some]
   have l1:=Zf4 (fun x:Tr=>x.Kind == 0) (t.Kids.map nrm)
   have l2:(if (tr (fun x=>x.Kind == 0) (t.Kids.map nrm)).length=0 then (0:Int) else ((tr (fun x=>x.Kind == 0) (t.Kids.map nrm)).length:Int))=((tr (fun x=>x.Kind == 0) (t.Kids.map nrm)).length:Int):=by
    split
    ·rename_i h;rw [h];rfl
    rfl
   simp only [l2]
   rw [Zmv l1,Option.bind_some,Z3l]
  have e1:(t.Kind == 1)=false:=by rw [beq_eq_false_iff_ne];exact h1
  rw [if_neg h1,e1,cond_false,Vf (by rw [List.length_nil];omega) (by rw [List.length_nil];omega)]
  rfl
theorem Zqu {t:Tr} (h:Bd t):Kw t=some (nrm t):=Zcj (SizeOf.sizeOf t+1) fun k hk=>Zv1 k t h (by omega)
theorem Z1j:∀ (n:Nat) (t:Tr),SizeOf.sizeOf t < n→Bd t→Bd (nrm t)
 | 0,t,h,_=>by omega
 | n+1,t,hn,hb=>by
  have ih:∀ x∈t.Kids,Bd (nrm x):=fun x hx=>Z1j n x (by have:=Uz hx;omega) (hb.all x hx)
  have hw:=hb.w
  have hk:=hb.k
  rw [Zcm]
  split
  ·exact .mk _ (by simp) (by simp) (fun w h=>by simp at h) (fun w h=>by simp at h)
  split
  ·have l1:=Zf4 (fun x:Int=>x == 0) t.Words
   have l2:=Zf4 (fun x:Tr=>x.Kind == 0) (t.Kids.map nrm)
   rw [List.length_map] at l2
   refine .mk _ (by simp only;omega) (Nat.le_trans (Nat.mul_le_mul_right 56 l2) hk) (fun w h=>hb.u w (Zf5 h)) (fun x h => ?_)
   obtain ⟨y,hy,rfl⟩:=List.mem_map.1 (Zf5 h)
   exact ih y hy
  refine .mk _ hw (by simp only [List.length_map];exact hk) hb.u (fun x h => ?_)
  obtain ⟨y,hy,rfl⟩:=List.mem_map.1 h
  exact ih y hy
theorem Bd.nrm {t:Tr} (h:Bd t):Bd (nrm t):=Z1j _ t (Nat.lt_succ_self _) h
theorem Zs4:∀ (n:Nat) (t:Tr),SizeOf.sizeOf t < n→nrm (nrm t)=nrm t
 | 0,t,h=>by omega
 | n+1,t,hn=>by
  have ih:∀ x∈t.Kids,nrm (nrm x)=nrm x:=fun x hx=>Zs4 n x (by have:=Uz hx;omega)
  have em:∀ l:List Tr,(∀ x∈l,x∈t.Kids)→(l.map nrm).map nrm=l.map nrm:=fun l hl=>by
   rw [List.map_map]
   exact List.map_congr_left fun x hx=>ih x (hl x hx)
  rw [Zcm t]
  by_cases h0:t.Kind=0
  ·rw [if_pos h0,Zcm];simp
  rw [if_neg h0]
  by_cases h1:t.Kind=1
  ·rw [if_pos h1,Zcm]
   simp only [if_neg (show ¬ (1:Int)=0 by decide),if_true]
   have q1:∀ l:List Tr,tr (fun x:Tr=>x.Kind == 0) (l.map nrm)=(tr (fun x:Tr=>x.Kind == 0) l).map nrm:=Zuu (fun x=>by rw [Uk])
   rw [Zw4,q1,Zw4,q1,em _ (fun x hx=>Zf5 hx)]
  rw [if_neg h1,Zcm]
  simp only
  rw [if_neg h0,if_neg h1,em _ (fun x hx=>hx)]
theorem Zpa (t:Tr):nrm (nrm t)=nrm t:=Zs4 _ t (Nat.lt_succ_self _)
def eqT (a b:Tr):Bool:=a.Kind == b.Kind && (a.Words == b.Words && (a.Kids.length == b.Kids.length && (a.Kids.attach.zip b.Kids).all fun p=>eqT p.1.1 p.2))
termination_by SizeOf.sizeOf a
decreasing_by exact Uz p.1.2
def eqL:List Tr→List Tr→Bool
 | [],[]=>true
 | x::xs,y::ys=>eqT x y && eqL xs ys
 | _,_=>false
theorem Zzo:∀ (l m:List Tr) (P:Tr→Prop) (l':List {x // P x}),l'.map (·.1)=l→(l.length == m.length && (l'.zip m).all fun p=>eqT p.1.1 p.2)=eqL l m
 | [],[],P,l',h=>by cases l' <;> simp_all [eqL]
 | [],y::m,P,l',h=>by cases l' <;> simp_all [eqL]
 | x::l,[],P,l',h=>by cases l' <;> simp_all [eqL]
 | x::l,y::m,P,l',h=>by
  cases l' with
  | nil=>simp at h
  | cons z l' =>
   simp only [List.map_cons,List.cons.injEq] at h
   have ih:=Zzo l m P l' h.2
   simp only [List.length_cons,List.zip_cons_cons,List.all_cons,eqL,h.1]
   rw [← ih]
   have:(l.length+1 == m.length+1)=(l.length == m.length):=by simp
   rw [this]
   cases l.length == m.length <;> cases eqT x y <;> rfl
theorem Zxl (a b:Tr):eqT a b=(a.Kind == b.Kind && (a.Words == b.Words && eqL a.Kids b.Kids)):=by
 rw [eqT,Zzo a.Kids b.Kids (·∈a.Kids) a.Kids.attach (by simp)]
theorem Zpw (x y:Tr) (xs ys:List Tr):eqL (x::xs) (y::ys)=(eqT x y && eqL xs ys):=rfl
theorem Zst:∀ (n:Nat) (a b:Tr),SizeOf.sizeOf a < n→(eqT a b=true↔a=b)
 | 0,a,b,h=>by omega
 | n+1,a,b,hn=>by
  have ih:∀ x∈a.Kids,∀ y,eqT x y=true↔x=y:=fun x hx y=>Zst n x y (by have:=Uz hx;omega)
  have hl:∀ (l m:List Tr),(∀ x∈l,x∈a.Kids)→(eqL l m=true↔l=m):=fun l=>by
   induction l with
   | nil=>intro m _;cases m <;> simp [eqL]
   | cons x l ihl =>
    intro m hm
    cases m with
    | nil=>simp [eqL]
    | cons y m=>rw [Zpw,Bool.and_eq_true,ih x (hm x (.head _)) y,ihl m (fun z hz=>hm z (.tail _ hz)),List.cons.injEq]
  rw [Zxl,Bool.and_eq_true,Bool.and_eq_true,hl a.Kids b.Kids (fun x hx=>hx),beq_iff_eq,beq_iff_eq]
  obtain ⟨k,w,ks⟩:=a
  obtain ⟨k',w',ks'⟩:=b
  simp
theorem eqT_iff {a b:Tr}:eqT a b=true↔a=b:=Zst _ a b (Nat.lt_succ_self _)
theorem Z0g:∀ (a b:List Int),a.length=b.length→(a.zip b).any (fun p=>p.1 != p.2) = !(a == b)
 | [],[],_=>rfl
 | [],_::_,h=>by simp at h
 | _::_,[],h=>by simp at h
 | x::a,y::b,h=>by
  have ih:=Z0g a b (by simpa using h)
  rw [List.zip_cons_cons,List.any_cons,ih]
  by_cases hxy:x=y
  ·subst hxy;simp
  simp [bne,hxy]
theorem Zvi {R:Type} (a b:List Int) (step:Int→Option (Int ⊕ R)) (e o:R) (hab:a.length=b.length) (hl:(a.length:Int)≤140737488355328)
  (h1:∀ (i:Nat) (x y:Int),i < a.length→a[i]? = some x→b[i]? = some y→step i=some (if (x != y)=true then .inr e else .inl (IntKind.i64.wrap ((i:Int)+1)))) (h2:step a.length=some (.inr o)) :
  Zw step 0=some (if (a == b)=true then o else e):=by
 have hz:(a.zip b).length=a.length:=by rw [List.length_zip];omega
 have:=Zqh (a.zip b) step (fun p=>p.1 != p.2) e o (by rw [hz];exact hl) (fun i p hi hp hm=>by
  rw [hz] at hi
  have ha:a[i]? = some a[i]:=List.getElem?_eq_getElem hi
  have hb:b[i]? = some b[i]:=List.getElem?_eq_getElem (by omega)
  have:p=(a[i],b[i]):=by
   rw [List.getElem?_eq_getElem (by rw [hz];exact hi)] at hp
   injection hp with hp
   rw [← hp,List.getElem_zip]
  subst this
  exact h1 i _ _ hi ha hb) (by rw [hz];exact h2)
 rw [this,Z0g a b hab]
 cases a == b <;> rfl
theorem Zt6 {a b:Nat}:((a:Int) != (b:Int)) = !(a == b):=by
 rw [Bool.eq_iff_iff];simp;omega
theorem Zyl {a b:List Int} (h:¬ a.length=b.length):(a == b)=false:=by
 rw [beq_eq_false_iff_ne];intro e;exact h (by rw [e])
theorem Z12 {a b:List Int} (h:(a.length:Int)≤140737488355328):Ug a b=some (a == b):=by
 unfold Ug
 rw [Zt6]
 by_cases hab:a.length=b.length
 ·have:(!(a.length == b.length))=false:=by simp [hab]
  rw [this,cond_false,Zvi a b (Ka a b) (.inl ()) (.inr ()) hab h (fun i x y hi hx hy=>by
   unfold Ka
   rw [Vh hi,cond_true,Ya hx,Option.bind_some,Ya hy,Option.bind_some]
   cases x != y <;> rfl) (by unfold Ka;rw [Zck];rfl)]
  cases a == b <;> rfl
 have:(!(a.length == b.length))=true:=by simp [hab]
 rw [this,cond_true,Zyl hab]
theorem Zsu {a b:List Int} (h:(a.length:Int)≤140737488355328):Y9 a b=some (a == b):=by
 unfold Y9
 rw [Zt6]
 by_cases hab:a.length=b.length
 ·have:(!(a.length == b.length))=false:=by simp [hab]
  rw [this,cond_false,Zvi a b (Xe a b) (.inl ()) (.inr ()) hab h (fun i x y hi hx hy=>by
   unfold Xe
   rw [Vh hi,cond_true,Ya hx,Option.bind_some,Ya hy,Option.bind_some]
   cases x != y <;> rfl) (by unfold Xe;rw [Zck];rfl)]
  cases a == b <;> rfl
 have:(!(a.length == b.length))=true:=by simp [hab]
 rw [this,cond_true,Zyl hab]
theorem Z3q (q:Tr→Tr→Bool):∀ (a b:List Tr),(a.zip b).any (fun p => !q p.1 p.2) = !((a.zip b).all fun p=>q p.1 p.2)
 | [],b=>by simp
 | x::a,[]=>by simp
 | x::a,y::b=>by rw [List.zip_cons_cons,List.any_cons,Z3q q a b,List.all_cons];cases q x y <;> rfl
theorem Zs2 {R:Type} (a b:List Tr) (q:Tr→Tr→Bool) (step:Int→Option (Int ⊕ R)) (e o:R) (hab:a.length=b.length) (hl:(a.length:Int)≤140737488355328)
  (h1:∀ (i:Nat) (x y:Tr),i < a.length→a[i]? = some x→b[i]? = some y→x∈a→y∈b→step i=some (if (!q x y)=true then .inr e else .inl (IntKind.i64.wrap ((i:Int)+1)))) (h2:step a.length=some (.inr o)) :
  Zw step 0=some (if ((a.zip b).all fun p=>q p.1 p.2)=true then o else e):=by
 have hz:(a.zip b).length=a.length:=by rw [List.length_zip];omega
 have:=Zqh (a.zip b) step (fun p => !q p.1 p.2) e o (by rw [hz];exact hl) (fun i p hi hp hm=>by
  rw [hz] at hi
  have ha:a[i]? = some a[i]:=List.getElem?_eq_getElem hi
  have hb:b[i]? = some b[i]:=List.getElem?_eq_getElem (by omega)
  have:p=(a[i],b[i]):=by
   rw [List.getElem?_eq_getElem (by rw [hz];exact hi)] at hp
   injection hp with hp
   rw [← hp,List.getElem_zip]
  subst this
  exact h1 i _ _ hi ha hb (List.getElem_mem _) (List.getElem_mem _)) (by rw [hz];exact h2)
 rw [this,Z3q q a b]
 cases (a.zip b).all fun p=>q p.1 p.2 <;> rfl
theorem Zyh (f:Tr→Tr):∀ (a b:List Tr),a.length=b.length→((a.zip b).all fun p=>eqT (f p.1) (f p.2))=eqL (a.map f) (b.map f)
 | [],[],_=>rfl
 | [],_::_,h=>by simp at h
 | _::_,[],h=>by simp at h
 | x::a,y::b,h=>by
  have ih:=Zyh f a b (by simpa using h)
  rw [List.zip_cons_cons,List.all_cons,ih];rfl
theorem Zux:∀ (a b:List Tr),a.length=b.length→((a.zip b).all fun p=>eqT p.1 p.2)=eqL a b
 | [],[],_=>rfl
 | [],_::_,h=>by simp at h
 | _::_,[],h=>by simp at h
 | x::a,y::b,h=>by
  have ih:=Zux a b (by simpa using h)
  rw [List.zip_cons_cons,List.all_cons,ih];rfl
theorem Ztn:∀ (a b:List Tr),a.length≠b.length→eqL a b=false
 | [],[],h=>by simp at h
 | [],_::_,_=>rfl
 | _::_,[],_=>rfl
 | x::a,y::b,h=>by rw [Zpw,Ztn a b (by simpa using h),Bool.and_false]
theorem Zzf:∀ (k:Nat) (a b:Tr),Bd a→Bd b→SizeOf.sizeOf a < k→Qt k a b=some (eqT a b)
 | 0,a,b,_,_,h=>by omega
 | k+1,a,b,ha,hb,hk=>by
  have ih:∀ x∈a.Kids,∀ y∈b.Kids,Qt k x y=some (eqT x y):=fun x hx y hy=>Zzf k x y (ha.all x hx) (hb.all y hy) (by have:=Uz hx;omega)
  have hw:=ha.w
  have hkd:=ha.k
  show V9 (Qt k) a b=_
  unfold V9
  rw [Zxl,Z12 (by omega),Option.bind_some,Zt6]
  by_cases h0:a.Kind=b.Kind
  ·have e0:(a.Kind != b.Kind)=false:=by simp [h0]
   have e1:(a.Kind == b.Kind)=true:=by simp [h0]
   rw [e0,e1,cond_false,cond_false,Option.bind_some,Bool.true_and]
   cases hw':a.Words == b.Words with
   | false=>rfl
   | true =>
    rw [Bool.not_true,cond_false,Bool.true_and]
    by_cases hab:a.Kids.length=b.Kids.length
    ·have:(!(a.Kids.length == b.Kids.length))=false:=by simp [hab]
     rw [this,cond_false,Zs2 a.Kids b.Kids eqT (J5 (Qt k) a b) (.inl ()) (.inr ()) hab (by omega) (fun i x y hi hx hy hmx hmy=>by
      unfold J5
      rw [Vh hi,cond_true,Ya hx,Option.bind_some,Ya hy,Option.bind_some,ih x hmx y hmy,Option.bind_some]
      cases eqT x y <;> rfl) (by unfold J5;rw [Zck];rfl)]
     rw [Zux a.Kids b.Kids hab]
     cases eqL a.Kids b.Kids <;> rfl
    have:(!(a.Kids.length == b.Kids.length))=true:=by simp [hab]
    rw [this,cond_true,Ztn _ _ hab]
  have e0:(a.Kind != b.Kind)=true:=by simp [h0]
  have e1:(a.Kind == b.Kind)=false:=by simp [h0]
  rw [e0,e1];rfl
theorem Zup {a b:Tr} (ha:Bd a) (hb:Bd b):G0 a b=some (eqT a b):=Zcj (SizeOf.sizeOf a+1) fun k hk=>Zzf k a b ha hb (by omega)
theorem Zta {a b:Tr} (ha:Bd a) (hb:Bd b):Qu a b=some (eqT (nrm a) (nrm b)):=by
 unfold Qu
 rw [Zqu ha,Option.bind_some,Zqu hb,Option.bind_some,Zup ha.nrm hb.nrm,Option.bind_some]
theorem Ziy {t:Tr} (h:t.Kind=0):nrm t=⟨0,[],[]⟩:=by rw [Zcm,if_pos h]
theorem Jv {t:Tr} (h:t.Kind=1):nrm t=⟨1,tr (fun x=>x == 0) t.Words,tr (fun x=>x.Kind == 0) (t.Kids.map nrm)⟩:=by rw [Zcm,if_neg (by rw [h];decide),if_pos h]
theorem Zb2 {t:Tr} (h0:¬ t.Kind=0) (h1:¬ t.Kind=1):nrm t=⟨t.Kind,t.Words,t.Kids.map nrm⟩:=by rw [Zcm,if_neg h0,if_neg h1]
theorem Z15 (t:Tr):0 < SizeOf.sizeOf t:=by
 obtain ⟨k,w,ks⟩:=t
 simp only [S_api_Tree.mk.sizeOf_spec]
 omega
theorem Zpx:∀ (k:Nat),(∀ a b:Tr,Bd a→Bd b→2 * SizeOf.sizeOf a < k→(Y7 k).1 a b=some (eqT (nrm a) (nrm b))) ∧
  (∀ (l m:List Tr),(∀ x∈l,Bd x∧2 * SizeOf.sizeOf x+1 < k)→(∀ x∈m,Bd x)→(l.length:Int)≤140737488355328→1≤k→(Y7 k).2 l m=some (eqL (l.map nrm) (m.map nrm)))
 | 0=>⟨fun a b _ _ h=>by omega,fun l m hl hm hn h=>by omega⟩
 | k+1=>by
  obtain ⟨i1,i2⟩:=Zpx k
  refine ⟨fun a b ha hb hk => ?_,fun l m hl hm hn h => ?_⟩
  ·have hp:=Z15 a
   have hw:=ha.w
   have hkd:=ha.k
   have hw':=hb.w
   have hkd':=hb.k
   show Zbt (Y7 k).1 (Y7 k).2 a b=_
   unfold Zbt
   rw [Zxl,Uk,Uk]
   by_cases h0:a.Kind=b.Kind
   ·have e0:(a.Kind != b.Kind)=false:=by simp [h0]
    have e1:(a.Kind == b.Kind)=true:=by simp [h0]
    rw [e0,e1,cond_false,Bool.true_and]
    by_cases hz:a.Kind=0
    ·have e2:(a.Kind == 0)=true:=by simp [hz]
     rw [e2,cond_true,Zcm a,Zcm b,if_pos hz,if_pos (h0 ▸ hz)]
     rfl
    have e2:(a.Kind == 0)=false:=by simp [hz]
    rw [e2,cond_false]
    have rec_:∀ l m:List Tr,(∀ x∈l,x∈a.Kids)→(∀ x∈m,x∈b.Kids)→l.length≤a.Kids.length→(Y7 k).2 l m=some (eqL (l.map nrm) (m.map nrm)):=fun l m h1 h2 h3 =>
     i2 l m (fun x hx=>⟨ha.all x (h1 x hx),by have:=Uz (h1 x hx);omega⟩) (fun x hx=>hb.all x (h2 x hx)) (by omega) (by omega)
    by_cases h1:a.Kind=1
    ·have e3:(a.Kind == 1)=true:=by simp [h1]
     have l1:=Zf4 (fun x:Int=>x == 0) a.Words
     have l2:=Zf4 (fun x:Tr=>x.Kind == 0) a.Kids
     have q1:∀ l:List Tr,tr (fun x:Tr=>x.Kind == 0) (l.map nrm)=(tr (fun x:Tr=>x.Kind == 0) l).map nrm:=Zuu (fun x=>by rw [Uk])
     rw [e3,cond_true,Zhw (by omega),Option.bind_some,Zhw (by omega),Option.bind_some,Zsu (by omega),Option.bind_some,Zj6 (by omega),Option.bind_some,Zj6 (by omega),Option.bind_some,
      rec_ _ _ (fun x hx=>Zf5 hx) (fun x hx=>Zf5 hx) l2,Option.bind_some,Jv h1,Jv (h0 ▸ h1)]
     simp only [q1]
     cases tr (fun x=>x == 0) a.Words == tr (fun x=>x == 0) b.Words <;> rfl
    have e3:(a.Kind == 1)=false:=by simp [h1]
    rw [e3,cond_false,Zsu (by omega),Option.bind_some,rec_ _ _ (fun x hx=>hx) (fun x hx=>hx) (Nat.le_refl _),Option.bind_some,Zb2 hz h1,Zb2 (fun q=>hz (h0.trans q)) (fun q=>h1 (h0.trans q))]
    simp only
    cases a.Words == b.Words <;> rfl
   have e0:(a.Kind != b.Kind)=true:=by simp [h0]
   have e1:(a.Kind == b.Kind)=false:=by simp [h0]
   rw [e0,e1];rfl
  show Z8 (Y7 k).1 (Y7 k).2 l m=_
  unfold Z8
  rw [Zt6]
  by_cases hlm:l.length=m.length
  ·have:(!(l.length == m.length))=false:=by simp [hlm]
   rw [this,cond_false,Zs2 l m (fun x y=>eqT (nrm x) (nrm y)) (Z7 (Y7 k).1 l m) (.inl ()) (.inr ()) hlm hn (fun i x y hi hx hy hmx hmy=>by
    unfold Z7
    rw [Vh hi,cond_true,Ya hx,Option.bind_some,Ya hy,Option.bind_some,i1 x y (hl x hmx).1 (hm y hmy) (by have:=(hl x hmx).2;omega),Option.bind_some]
    cases eqT (nrm x) (nrm y) <;> rfl) (by unfold Z7;rw [Zck];rfl)]
   rw [Zyh nrm l m hlm]
   cases eqL (l.map nrm) (m.map nrm) <;> rfl
  have:(!(l.length == m.length))=true:=by simp [hlm]
  rw [this,cond_true,Ztn _ _ (by simpa using hlm)]
theorem Z0t {a b:Tr} (ha:Bd a) (hb:Bd b):Zhl a b=some (eqT (nrm a) (nrm b)):=Zcj (2 * SizeOf.sizeOf a+1) fun k hk=>(Zpx k).1 a b ha hb (by omega)
def pt (t:Tr):Nat:=1+t.Words.length+(t.Kids.attach.map fun k=>pt k.1).sum
termination_by SizeOf.sizeOf t
decreasing_by exact Uz k.2
theorem Zh2 (t:Tr):pt t=1+t.Words.length+(t.Kids.map pt).sum:=by
 rw [pt]
 simp only [List.attach_map_val]
theorem Zld:∀ (k:Nat) (t:Tr) (d left:Int),Bd t→SizeOf.sizeOf t < k→0≤d→d≤100→0≤left→left≤1000000→∃ r,Yo k t d left=some r∧-1≤r∧r≤1000000∧(0≤r→r+pt t≤left)
 | 0,t,_,_,_,h,_,_,_,_=>by omega
 | k+1,t,d,left,hb,hk,hd0,hd1,hl0,hl1=>by
  have ih:∀ x∈t.Kids,∀ d left:Int,0≤d→d≤100→0≤left→left≤1000000→∃ r,Yo k x d left=some r∧-1≤r∧r≤1000000∧(0≤r→r+pt x≤left):=fun x hx d left=>Zld k x d left (hb.all x hx) (by have:=Uz hx;omega)
  have hw:=hb.w
  have hkd:=hb.k
  show ∃ r,Xo (Yo k) t d left=some r∧_
  unfold Xo
  rw [Jq (x:=left - 1) (by omega) (by omega),Jq (by omega) (by omega),Zh2]
  cases hc:cond (d == 0) true (decide (left - 1 - (t.Words.length:Int) < 0)) with
  | true=>exact ⟨-1,rfl,by omega,by omega,fun h=>by omega⟩
  | false =>
   rw [cond_false]
   have hd:¬ d=0∧0≤left - 1 - (t.Words.length:Int):=by
    by_cases h:d=0
    ·simp [h] at hc
    have e:(d == 0)=false:=by simp [h]
    rw [e,cond_false,decide_eq_false_iff_not] at hc
    exact ⟨h,by omega⟩
   obtain ⟨r,h1,h2⟩:=Zb9 (step:=Xi (Yo k) t d)
    (fun s=>∃ j:Nat,s.2=j∧j≤t.Kids.length∧-1≤s.1∧s.1≤1000000∧(0≤s.1→s.1+(((t.Kids.take j).map pt).sum:Nat)≤left - 1 - (t.Words.length:Int)))
    (fun s=>t.Kids.length - s.2.toNat) (fun r=>-1≤r∧r≤1000000∧(0≤r→r+((t.Kids.map pt).sum:Nat)≤left - 1 - (t.Words.length:Int))) (fun s hI=>by
     obtain ⟨l,i⟩:=s
     obtain ⟨j,rfl,hj,g1,g2,g3⟩:=hI
     simp only at g1 g2 g3 ⊢
     unfold Xi
     simp only
     by_cases hji:j < t.Kids.length
     ·rw [Vh hji,cond_true]
      by_cases hl:0≤l
      ·have e:decide (0≤l)=true:=by simp [hl]
       have hx:t.Kids[j]? = some t.Kids[j]:=List.getElem?_eq_getElem hji
       obtain ⟨r,q1,q2,q3,q4⟩:=ih t.Kids[j] (List.getElem_mem hji) (d - 1) l (by omega) (by omega) hl g2
       rw [e,cond_true,Ya hx,Option.bind_some,Jq (by omega) (by omega),q1,Option.bind_some,Jq (by omega) (by omega)]
       refine .inl ⟨_,rfl,⟨j+1,by simp only;omega,by omega,q2,q3,fun hr => ?_⟩,by simp only;omega⟩
       have:=q4 hr
       have:=g3 hl
       rw [List.take_add_one,hx]
       simp only [Option.toList_some,List.map_append,List.map_cons,List.map_nil,List.sum_append,List.sum_cons,List.sum_nil]
       simp only at hr
       omega
      have e:decide (0≤l)=false:=by simp [hl]
      rw [e,cond_false]
      exact .inr ⟨l,rfl,g1,g2,fun h=>absurd h hl⟩
     have hj':j=t.Kids.length:=by omega
     subst hj'
     rw [Zck,cond_false]
     rw [List.take_length] at g3
     exact .inr ⟨l,rfl,g1,g2,g3⟩) (left - 1 - (t.Words.length:Int),0) ⟨0,rfl,Nat.zero_le _,by simp only;omega,by simp only;omega,fun _=>by simp⟩
   rw [h1]
   refine ⟨r,rfl,h2.1,h2.2.1,fun hr => ?_⟩
   have:=h2.2.2 hr
   omega
theorem Zgf {α:Type} {xs:List α} {i:Int} {x:α} (h:Xc xs i=some x):x∈xs:=List.mem_of_getElem? (Zlt h)
theorem Zhs:∀ (k k':Nat) (t:Tr) (d left:Int),SizeOf.sizeOf t < k→SizeOf.sizeOf t < k'→Yo k t d left=Yo k' t d left
 | 0,_,t,_,_,h,_=>by omega
 | k+1,0,t,_,_,_,h=>by omega
 | k+1,k'+1,t,d,left,h,h'=>by
  show Xo (Yo k) t d left=Xo (Yo k') t d left
  have e:Xi (Yo k) t d=Xi (Yo k') t d:=funext fun s=>by
   unfold Xi
   cases hx:Xc t.Kids s.2 with
   | none=>rfl
   | some x=>simp only [Option.bind_some,Zhs k k' x (IntKind.i64.wrap (d - 1)) s.1 (by have:=Uz (Zgf hx);omega) (by have:=Uz (Zgf hx);omega)]
  unfold Xo
  rw [e]
theorem Z36 {t:Tr} (h:Bd t):∃ b,U1 t=some b∧(b=true→pt t≤3000):=by
 obtain ⟨r,h1,h2,h3,h4⟩:=Zld (SizeOf.sizeOf t+1) t 80 3000 h (by omega) (by omega) (by omega) (by omega) (by omega)
 have hr:Xq t 80 3000=some r:=Zcj (SizeOf.sizeOf t+1) fun k hk=>by rw [Zhs k (SizeOf.sizeOf t+1) t 80 3000 (by omega) (by omega)];exact h1
 unfold U1
 rw [hr,Option.bind_some]
 refine ⟨_,rfl,fun hb => ?_⟩
 have:=h4 (by simpa using hb)
 have:0≤r:=by simpa using hb
 omega
def wt (t:Tr):Nat :=
 if t.Kind=0 then 0 else if t.Kind=10 then 1
 else (if t.Kind=1 then 1+(t.Words.length+t.Kids.length) else if t.Kind=8 then 1+t.Kids.length else 1)+(t.Kids.attach.map fun k=>wt k.1).sum
termination_by SizeOf.sizeOf t
decreasing_by all_goals exact Uz k.2
theorem Zyu {α:Type} {f:α→Nat} {x:α}:∀ {l:List α},x∈l→f x≤(l.map f).sum
 | y::l,h=>by
  simp only [List.map_cons,List.sum_cons]
  rcases List.mem_cons.1 h with rfl | h
  ·omega
  have:=Zyu (f:=f) h
  omega
theorem Zqb {t x:Tr} (h:x∈t.Kids):pt x≤pt t:=by
 rw [Zh2 t]
 have:=Zyu (f:=pt) h
 omega
theorem Zuq {t:Tr} (h:Bd t) {left:Int} (h0:0≤left) (h1:left≤1000000):∃ r,Xq t 80 left=some r∧-1≤r∧r≤1000000∧(0≤r→r+pt t≤left):=by
 obtain ⟨r,h2,h3⟩:=Zld (SizeOf.sizeOf t+1) t 80 left h (by omega) (by omega) (by omega) h0 h1
 exact ⟨r,Zcj (SizeOf.sizeOf t+1) fun k hk=>by rw [Zhs k (SizeOf.sizeOf t+1) t 80 left (by omega) (by omega)];exact h2,h3⟩
def wid (c:Int):Nat:=if c=0 then 0 else if c=1 then 1 else if c=2 then 8 else if c=3 then 16 else if c=4 then 32 else 64
def Zyp (c w:Int):Bool:=decide (w < 2 ^ wid c)
theorem Zxk {c:Int} (h0:0≤c) (h1:c≤5):c=0∨c=1∨c=2∨c=3∨c=4∨c=5:=by omega
theorem Zx7 (n:Nat) (hn:n≤64) (w:Int) (h0:0≤w) (h1:w < 18446744073709551616):Zw (Xp (n:Int)) (w,0)=some (w / 2 ^ n):=by
 have key:∀ m i:Nat,i+m=n→Zw (Xp (n:Int)) (w / 2 ^ i,(i:Int))=some (w / 2 ^ n):=fun m=>by
  induction m with
  | zero =>
   intro i hi
   have:i=n:=by omega
   subst this
   refine Z6 ?_
   unfold Xp
   simp only
   rw [Zck,cond_false]
  | succ m ih =>
   intro i hi
   have hp:(0:Int) < 2 ^ i:=Int.pow_pos (by decide)
   have q0:0≤w / 2 ^ i:=Int.ediv_nonneg h0 (Int.le_of_lt hp)
   have q1:w / 2 ^ i≤w:=Int.ediv_le_self _ h0
   have hs:Xp (n:Int) (w / 2 ^ i,(i:Int))=some (.inl (w / 2 ^ (i+1),((i+1:Nat):Int))):=by
    unfold Xp
    simp only
    rw [Vh (by omega),cond_true,Jq (by omega) (by omega),Int.tdiv_eq_ediv_of_nonneg q0]
    have e:w / 2 ^ i / 2=w / 2 ^ (i+1):=by rw [Int.ediv_ediv_of_nonneg (Int.le_of_lt hp),Int.pow_succ]
    have q2:0≤w / 2 ^ i / 2:=Int.ediv_nonneg q0 (by decide)
    have q3:w / 2 ^ i / 2≤w / 2 ^ i:=Int.ediv_le_self _ q0
    have e3:IntKind.u64.wrap (w / 2 ^ i / 2)=w / 2 ^ i / 2:=by
     exact Z2k ⟨q2,by omega⟩
    rw [e3,e]
    rfl
   rw [Yn hs]
   exact ih (i+1) (by omega)
 have:=key n 0 (by omega)
 simpa using this
theorem Z1y {c w:Int} (h0:0≤c) (h1:c≤5) (hw:0≤w) (hw':w < 18446744073709551616):Kv c w=some (Zyp c w):=by
 have e:∀ n:Nat,n≤64→(cond (decide ((n:Int) < 0)) (some false) ((Zw (Xp (n:Int)) (w,0)).bind fun (z4:Int)=>some (z4 == 0)))=some (decide (w < 2 ^ n)):=fun n hn=>by
  have:decide ((n:Int) < 0)=false:=by rw [decide_eq_false_iff_not];omega
  have hp:(0:Int) < 2 ^ n:=Int.pow_pos (by decide)
  rw [this,cond_false,Zx7 n hn w hw hw',Option.bind_some]
  congr 1
  rw [Bool.eq_iff_iff,beq_iff_eq,decide_eq_true_eq]
  constructor
  ·intro h
   rcases Int.lt_or_le w (2 ^ n) with h2 | h2
   ·exact h2
   have:=Int.ediv_le_ediv hp h2
   rw [Int.ediv_self (Int.ne_of_gt hp)] at this
   omega
  intro h;exact Int.ediv_eq_zero_of_lt hw h
 unfold Kv Zyp
 rcases Zxk h0 h1 with rfl | rfl | rfl | rfl | rfl | rfl
 ·exact e 0 (by decide)
 ·exact e 1 (by decide)
 ·exact e 8 (by decide)
 ·exact e 16 (by decide)
 ·exact e 32 (by decide)
 exact e 64 (by decide)
def okk (kind:Int) (k:Tr):Bool:=if 2≤kind∧kind≤7 then k.Kind == 10 && Zyp (kind - 2) (k.Words.headD 0) else k.Kind != 10 && (kind != 9 || k.Kind == 1)
def rt (t:Tr) (d:Nat):Bool :=
 if t.Kind=0 then t.Words.length == 0 && t.Kids.length == 0
 else if t.Kind=10 then t.Words.length == 1 && t.Kids.length == 0
 else if t.Kind < 0∨10 < t.Kind∨d=0∨65536≤t.Words.length∨(t.Kind=1∧65536≤t.Kids.length)∨1048576≤t.Kids.length∨(1 < t.Kind∧0 < t.Words.length) then false
 else (t.Kids.attach.map fun k=>rt k.1 (d - 1) && okk t.Kind k.1).all id
termination_by SizeOf.sizeOf t
decreasing_by exact Uz k.2
theorem Zze (t:Tr) (d:Nat):rt t d=if t.Kind=0 then t.Words.length == 0 && t.Kids.length == 0
 else if t.Kind=10 then t.Words.length == 1 && t.Kids.length == 0
 else if t.Kind < 0∨10 < t.Kind∨d=0∨65536≤t.Words.length∨(t.Kind=1∧65536≤t.Kids.length)∨1048576≤t.Kids.length∨(1 < t.Kind∧0 < t.Words.length) then false
 else t.Kids.all fun k=>rt k (d - 1) && okk t.Kind k:=by
 rw [rt]
 have:(t.Kids.attach.map fun k=>rt k.1 (d - 1) && okk t.Kind k.1)=t.Kids.map fun k=>rt k (d - 1) && okk t.Kind k:=List.attach_map_val (f:=fun k=>rt k (d - 1) && okk t.Kind k)
 rw [this,List.all_map]
 rfl
theorem Z0a {t:Tr} (h:t.Kind=10) {d:Nat} (hr:rt t d=true):∃ w,t.Words=[w]:=by
 rw [Zze,if_neg (by omega),if_pos h,Bool.and_eq_true,beq_iff_eq] at hr
 obtain ⟨k,w,ks⟩:=t
 obtain ⟨h1,_⟩:=hr
 simp only at h1 ⊢
 exact List.length_eq_one_iff.1 h1
theorem Z2z {n:Nat}:((n:Int) == 0)=(n == 0):=by rw [Bool.eq_iff_iff,beq_iff_eq,beq_iff_eq];omega
theorem Z52 {n:Nat}:((n:Int) == 1)=(n == 1):=by rw [Bool.eq_iff_iff,beq_iff_eq,beq_iff_eq];omega
theorem Zcx (a b:Bool):cond a b false=(a && b):=by cases a <;> rfl
theorem Zyg {α:Type} (p:α→Bool):∀ l:List α,l.any (fun x => !p x) = !(l.all p)
 | []=>rfl
 | x::l=>by rw [List.any_cons,List.all_cons,Zyg p l];cases p x <;> rfl
theorem Ziu {α R:Type} (xs:List α) (step:Int→Option (Int ⊕ R)) (p:α→Bool) (e o:R) (hl:(xs.length:Int)≤140737488355328)
  (h1:∀ (i:Nat) (x:α),i < xs.length→xs[i]? = some x→x∈xs→step i=some (if p x=true then .inl (IntKind.i64.wrap ((i:Int)+1)) else .inr e)) (h2:step xs.length=some (.inr o)):Zw step 0=some (if xs.all p=true then o else e):=by
 rw [Zqh xs step (fun x => !p x) e o hl (fun i x hi hx hm=>by rw [h1 i x hi hx hm];cases p x <;> rfl) h2,Zyg]
 cases xs.all p <;> rfl
theorem Ztb:∀ (k:Nat) (t:Tr) (d:Nat),Bd t→SizeOf.sizeOf t < k→d≤64→Qd k t (d:Int)=some (rt t d)
 | 0,t,d,_,h,_=>by omega
 | k+1,t,d,hb,hk,hd=>by
  have hkd:=hb.k
  show Vn (Qd k) t (d:Int)=_
  unfold Vn
  rw [Zze,Z2z,Z52]
  by_cases h0:t.Kind=0
  ·rw [if_pos h0,h0]
   simp only [Z2z,Zcx]
   rfl
  have e0:(t.Kind == 0)=false:=by simp [h0]
  rw [if_neg h0,e0,cond_false]
  by_cases h10:t.Kind=10
  ·rw [if_pos h10,h10]
   simp only [Z2z,Zcx]
   rfl
  have e10:(t.Kind == 10)=false:=by simp [h10]
  rw [if_neg h10,e10,cond_false]
  by_cases hbad:t.Kind < 0∨10 < t.Kind∨d=0∨65536≤t.Words.length∨(t.Kind=1∧65536≤t.Kids.length)∨1048576≤t.Kids.length∨(1 < t.Kind∧0 < t.Words.length)
  ·rw [if_pos hbad]
   have hc:∀ c1 c2 c3 c4 c5 c6 c7 c8:Bool,(c1=true∨c2=true∨c3=true∨c4=true∨(c5=true∧c6=true)∨c7=true∨c8=true)→∀ X:Option Bool,
     cond (cond (cond (cond (cond (cond c1 true c2) true c3) true c4) true (cond c5 c6 false)) true c7) (some false) (cond c8 (some false) X)=some false:=by
    intro c1 c2 c3 c4 c5 c6 c7 c8 h X
    cases c1 <;> cases c2 <;> cases c3 <;> cases c4 <;> cases c5 <;> cases c6 <;> cases c7 <;> cases c8 <;> first | rfl | (simp at h;done)
   refine hc _ _ _ _ _ _ _ _ ?_ _
   simp only [decide_eq_true_eq,beq_iff_eq,Zcx,Bool.and_eq_true]
   omega
  rw [if_neg hbad]
  have hg:¬ t.Kind < 0∧¬ 10 < t.Kind∧¬ d=0∧¬ 65536≤t.Words.length∧¬ (t.Kind=1∧65536≤t.Kids.length)∧¬ 1048576≤t.Kids.length∧¬ (1 < t.Kind∧0 < t.Words.length):=by omega
  have hc:∀ c1 c2 c3 c4 c5 c7 c8:Bool,c1=false→c2=false→c3=false→c4=false→c5=false→c7=false→c8=false→∀ X:Option Bool,
    cond (cond (cond (cond (cond (cond c1 true c2) true c3) true c4) true c5) true c7) (some false) (cond c8 (some false) X)=X:=by
   intro c1 c2 c3 c4 c5 c7 c8 h1 h2 h3 h4 h5 h7 h8 X
   subst h1 h2 h3 h4 h5 h7 h8
   rfl
  rw [hc _ _ _ _ _ _ _ (decide_eq_false hg.1) (decide_eq_false hg.2.1) (by rw [beq_eq_false_iff_ne];omega) (by rw [decide_eq_false_iff_not];omega) (by rw [Zcx,Bool.and_eq_false_iff,beq_eq_false_iff_ne,decide_eq_false_iff_not];omega) (by rw [decide_eq_false_iff_not];omega) (by rw [Zcx,Bool.and_eq_false_iff,decide_eq_false_iff_not,decide_eq_false_iff_not];omega)]
  obtain ⟨d',rfl⟩:∃ d',d=d'+1:=⟨d - 1,by omega⟩
  have ih:∀ x∈t.Kids,Qd k x (d':Int)=some (rt x d'):=fun x hx=>Ztb k x d' (hb.all x hx) (by have:=Uz hx;omega) (by omega)
  rw [Ziu t.Kids (Jc (Qd k) t ((d'+1:Nat):Int)) (fun x=>rt x d' && okk t.Kind x) (.inl ()) (.inr ()) (by omega) (fun i x hi hx hm=>by
   unfold Jc
   have ed:((d'+1:Nat):Int) - 1=(d':Int):=by omega
   rw [Vh hi,cond_true,Ya hx,Option.bind_some,Jq (x:=((d'+1:Nat):Int) - 1) (by omega) (by omega),ed,ih x hm,Option.bind_some]
   cases hr:rt x d' with
   | false=>rfl
   | true =>
    rw [Bool.not_true,cond_false,Bool.true_and]
    unfold okk
    by_cases hdt:2≤t.Kind∧t.Kind≤7
    ·have e2:decide (2≤t.Kind)=true:=decide_eq_true hdt.1
     have e7:decide (t.Kind≤7)=true:=decide_eq_true hdt.2
     have e9:(t.Kind == 9)=false:=by rw [beq_eq_false_iff_ne];omega
     rw [e2,e7,e9,if_pos hdt]
     simp only [cond_true,cond_false]
     by_cases hx10:x.Kind=10
     ·obtain ⟨w,hw⟩:=Z0a hx10 hr
      have hu:=(hb.all x hm).u w (by rw [hw];exact .head _)
      have ex:(x.Kind == 10)=true:=by simp [hx10]
      have ex2:((true:Bool) != true)=false:=rfl
      have hg0:Xc [w] (0:Int)=some w:=rfl
      rw [ex,ex2,cond_false,hw,hg0,Option.bind_some,Jq (by omega) (by omega),Z1y (by omega) (by omega) hu.1 hu.2,Option.bind_some]
      simp only [cond_false,List.headD_cons,Bool.true_and]
      cases Zyp (t.Kind - 2) w <;> rfl
     have ex:(x.Kind == 10)=false:=by simp [hx10]
     rw [ex]
     rfl
    have ed2:cond (decide (2≤t.Kind)) (decide (t.Kind≤7)) false=false:=by
     rw [Zcx,Bool.and_eq_false_iff,decide_eq_false_iff_not,decide_eq_false_iff_not];omega
    rw [ed2,if_neg hdt]
    have hin:∀ (X:Option Bool) (b:Bool),(cond (decide (2≤t.Kind)) (cond (decide (t.Kind≤7)) X (some b)) (some b))=some b:=fun X b=>by
     by_cases h2:2≤t.Kind
     ·have h7:decide (t.Kind≤7)=false:=by rw [decide_eq_false_iff_not];omega
      rw [decide_eq_true h2,h7];rfl
     rw [decide_eq_false h2];rfl
    by_cases hx10:x.Kind=10
    ·have ex:(x.Kind == 10)=true:=by simp [hx10]
     have ex2:(x.Kind != 10)=false:=by simp [hx10]
     rw [ex,ex2]
     rfl
    have ex:(x.Kind == 10)=false:=by simp [hx10]
    have ex2:(x.Kind != 10)=true:=by simp [hx10]
    have ex3:((false:Bool) != false)=false:=rfl
    rw [ex,ex2,ex3,cond_false]
    simp only [cond_false]
    rw [hin]
    by_cases h9:t.Kind=9
    ·have e9:(t.Kind == 9)=true:=by simp [h9]
     have e9':(t.Kind != 9)=false:=by simp [h9]
     rw [e9,e9',cond_true]
     by_cases hx1:x.Kind=1
     ·have q1:(x.Kind != 1)=false:=by simp [hx1]
      have q2:(x.Kind == 1)=true:=by simp [hx1]
      rw [q1,q2,cond_false]
      rfl
     have q1:(x.Kind != 1)=true:=by simp [hx1]
     have q2:(x.Kind == 1)=false:=by simp [hx1]
     rw [q1,q2,cond_true]
     rfl
    have e9:(t.Kind == 9)=false:=by simp [h9]
    have e9':(t.Kind != 9)=true:=by simp [h9]
    rw [e9,e9']
    rfl) (by unfold Jc;rw [Zck];rfl),Option.bind_some,Nat.add_sub_cancel]
  cases t.Kids.all fun x=>rt x d' && okk t.Kind x <;> rfl
theorem Zkh {t:Tr} (h:Bd t) {d:Nat} (hd:d≤64):Jt t (d:Int)=some (rt t d):=Zcj (SizeOf.sizeOf t+1) fun k hk=>Ztb k t d h (by omega) hd
theorem Z21 (n:Int):Zc6 n=some (decide (2≤n) && decide (n≤9)):=by unfold Zc6;rw [Zcx]
theorem Zoc (k:Nat):256 ^ k=2 ^ (8 * k):=by rw [Nat.pow_mul]
def Vj (m:Nat):Nat→Nat
 | 0=>0
 | k+1=>Vj m k+(if m / 2 ^ k % 2=1 then 255 * 256 ^ k else 0)
theorem Zw8 (m:Nat):∀ k,Vj m k < 256 ^ k
 | 0=>by simp [Vj]
 | k+1=>by
  have:=Zw8 m k
  have h:256 ^ (k+1)=256 * 256 ^ k:=by rw [Nat.pow_succ,Nat.mul_comm]
  simp only [Vj]
  split <;> omega
theorem Zz5 {k:Nat} (hk:k < 8):256 ^ (k+1)≤2 ^ 64:=by
 rw [Zoc];exact Nat.pow_le_pow_right (by decide) (by omega)
def Zhc (m i:Nat):Bool:=decide (m / 2 ^ i % 2=1)
theorem Z32 {m i:Nat} (h:Zhc m i=true):m / 2 ^ i % 2=1:=of_decide_eq_true h
theorem Z31 {m i:Nat} (h:Zhc m i=false):¬ m / 2 ^ i % 2=1:=of_decide_eq_false h
theorem Z0m (q:Nat):((q:Int) % 2 == 1)=decide (q % 2=1):=by rw [Bool.eq_iff_iff];simp;omega
def Zhx (f:Nat→Nat):Nat→Nat
 | 0=>0
 | k+1=>2 ^ (8 * k) * f k+Zhx f k
theorem Zlk (f:Nat→Nat) (hf:∀ k,f k < 256):∀ k,Zhx f k < 2 ^ (8 * k)
 | 0=>by simp [Zhx]
 | k+1=>by
  have h1:=Zlk f hf k
  have h2:=hf k
  have h3:2 ^ (8 * (k+1))=2 ^ (8 * k) * 256:=by rw [Nat.mul_add,Nat.pow_add]
  have h4:2 ^ (8 * k) * f k≤2 ^ (8 * k) * 255:=Nat.mul_le_mul_left _ (by omega)
  simp only [Zhx]
  omega
theorem Zka (f:Nat→Nat) (hf:∀ k,f k < 256) (i:Nat):∀ k,Nat.testBit (Zhx f k) i=(decide (i < 8 * k) && Nat.testBit (f (i / 8)) (i % 8))
 | 0=>by simp [Zhx]
 | k+1=>by
  have h:=Zka f hf i k
  simp only [Zhx]
  rw [Nat.testBit_two_pow_mul_add _ (Zlk f hf k)]
  by_cases h1:i < 8 * k
  ·rw [if_pos h1,h]
   simp [h1,show i < 8 * (k+1) by omega]
  rw [if_neg h1]
  by_cases h2:i < 8 * (k+1)
  ·have h3:i / 8=k:=by omega
   have h4:i - 8 * k=i % 8:=by omega
   rw [h3,h4]
   simp [h2]
  have h5:f k < 2 ^ (i - 8 * k):=Nat.lt_of_lt_of_le (hf k) (Nat.pow_le_pow_right (n:=2) (by decide) (show 8≤i - 8 * k by omega))
  rw [Nat.testBit_lt_two_pow h5]
  simp [h2]
def Uc (n k:Nat):Nat:=n / 256 ^ k % 256
theorem Z0o (n k:Nat):Uc n k < 256:=Nat.mod_lt _ (by decide)
theorem Znz (n k j:Nat) (hj:j < 8):Nat.testBit (Uc n k) j=Nat.testBit n (8 * k+j):=by
 unfold Uc
 rw [Zoc,show (256:Nat)=2 ^ 8 from rfl,Nat.testBit_mod_two_pow,Nat.testBit_div_two_pow]
 simp [hj,Nat.add_comm]
def Zfx (a b m k:Nat):Nat:=if Zhc m k then Uc b k else Uc a k
theorem Zo7 (a b m k:Nat):Zfx a b m k < 256:=by unfold Zfx;split <;> exact Z0o _ _
def Zfc (a b m:Nat):Nat:=Zhx (Zfx a b m) 8
def Zw6 (m k:Nat):Nat:=if Zhc m k then 255 else 0
theorem Zw7 (m k:Nat):Zw6 m k < 256:=by unfold Zw6;split <;> decide
theorem Zoj (m:Nat):∀ k,Vj m k=Zhx (Zw6 m) k
 | 0=>rfl
 | k+1=>by
  simp only [Vj,Zhx,Zoj m k,Zw6,Zhc,decide_eq_true_eq]
  rw [Zoc]
  split <;> omega
theorem Z30 (j:Nat) (hj:j < 8):Nat.testBit 255 j=true:=by
 rw [show (255:Nat)=2 ^ 8 - 1 from rfl,Nat.testBit_two_pow_sub_one];simp [hj]
theorem Zoi (m i:Nat) (hi:i < 64):Nat.testBit (Vj m 8) i=Zhc m (i / 8):=by
 rw [Zoj,Zka _ (Zw7 m)]
 unfold Zw6
 have:=Z30 (i % 8) (Nat.mod_lt _ (by decide))
 cases Zhc m (i / 8) <;> simp [hi,this]
theorem Ze7 (m:Nat):Vj m 8 < 2 ^ 64:=by rw [Zoj];exact Zlk _ (Zw7 m) 8
theorem Z1g (a b m:Nat) (ha:a < 2 ^ 64) (hb:b < 2 ^ 64):(a &&& (18446744073709551615 - Vj m 8)) ||| (b &&& Vj m 8)=Zfc a b m:=by
 refine Nat.eq_of_testBit_eq fun i => ?_
 unfold Zfc
 rw [Zka _ (Zo7 a b m),Nat.testBit_or,Nat.testBit_and,Nat.testBit_and,show (18446744073709551615 - Vj m 8)=2 ^ 64 - (Vj m 8+1) by have:=Ze7 m;omega,Nat.testBit_two_pow_sub_succ (Ze7 m)]
 by_cases hi:i < 64
 ·have h:=Zoi m i hi
  have hs:8 * (i / 8)+i % 8=i:=by omega
  have hj:i % 8 < 8:=Nat.mod_lt _ (by decide)
  rw [h]
  unfold Zfx
  cases Zhc m (i / 8) <;> simp [hi,Znz _ _ _ hj,hs]
 have h1:∀ n,n < 2 ^ 64→Nat.testBit n i=false:=fun n hn=>Nat.testBit_lt_two_pow (Nat.lt_of_lt_of_le hn (Nat.pow_le_pow_right (by decide) (by omega)))
 simp [h1 a ha,h1 b hb,hi]
theorem Z3i (q:Nat):Int.tdiv (q:Int) 256=((q / 256:Nat):Int):=by rw [Int.tdiv_eq_ediv_of_nonneg (Int.natCast_nonneg _)];omega
theorem Z5b (q:Nat):Int.tdiv (q:Int) 2=((q / 2:Nat):Int):=by rw [Int.tdiv_eq_ediv_of_nonneg (Int.natCast_nonneg _)];omega
theorem Z3k (q:Nat):IntKind.u8.wrap (Int.tmod (q:Int) 256)=((q % 256:Nat):Int):=by rw [Int.tmod_eq_emod_of_nonneg (Int.natCast_nonneg _),IntKind.wrap_u8'];omega
theorem Zw5 (q:Nat) (h:q < 18446744073709551616):IntKind.u64.wrap (q:Int)=(q:Int):=Z2k (by omega)
theorem u8n (q:Nat) (h:q < 256):IntKind.u8.wrap (q:Int)=(q:Int):=by rw [IntKind.wrap_u8'];omega
theorem lt8 {k:Nat} (h:k < 8):k=0∨k=1∨k=2∨k=3∨k=4∨k=5∨k=6∨k=7:=by omega
theorem Z0n (m k:Nat) (hm:m < 256) (hk:k < 8):(IntKind.u8.wrap (Zfl .u8 (Int.fdiv (m:Int) (2 ^ min (Int.toNat (k:Int)) 8)) 1) == 1)=Zhc m k:=by
 have e1:Int.fdiv (m:Int) (2 ^ min (Int.toNat (k:Int)) 8)=((m / 2 ^ k:Nat):Int):=by
  rw [Int.toNat_natCast,Nat.min_eq_left (by omega),Int.fdiv_eq_ediv_of_nonneg _ (Int.le_of_lt (Int.pow_pos (by decide)))]
  simp only [Int.natCast_ediv,Int.natCast_pow]
  rfl
 have hq:m / 2 ^ k < 256:=Nat.lt_of_le_of_lt (Nat.div_le_self _ _) hm
 have e2:=Z06 .u8 (m / 2 ^ k) 1 (by simpa [IntKind.bits] using hq) (by simp [IntKind.bits])
 have e3:(m / 2 ^ k) &&& 1=m / 2 ^ k % 2:=Nat.and_one_is_mod _
 have e4:((1:Nat):Int)=1:=rfl
 rw [e4] at e2
 rw [e1,e2,e3,IntKind.wrap_u8']
 unfold Zhc
 rw [Bool.eq_iff_iff,beq_iff_eq,decide_eq_true_eq]
 omega
theorem Z4h {a b i:Nat} (ha:a < 2 ^ i) (hb:b % 2 ^ i=0):a ||| b=a+b:=by
 obtain ⟨q,rfl⟩:∃ q,b=2 ^ i * q:=⟨b / 2 ^ i,by have:=Nat.div_add_mod b (2 ^ i);omega⟩
 rw [Nat.or_comm,Nat.add_comm,Nat.two_pow_add_eq_or_of_lt ha]
theorem Z3p (m k:Nat) (hk:k < 8):IntKind.u64.wrap (Zqi .u64 (Vj m k:Nat) (IntKind.u64.wrap (255 * 2 ^ min (Int.toNat (IntKind.i64.wrap (8 * (k:Int)))) 64)))=((Vj m k+255 * 256 ^ k:Nat):Int):=by
 have h1:=Zw8 m k
 have h2:=Zz5 hk
 have h3:256 ^ (k+1)=256 * 256 ^ k:=by rw [Nat.pow_succ,Nat.mul_comm]
 have e0:(IntKind.i64.wrap (8 * (k:Int))).toNat=8 * k:=by rw [Zt3 (by omega)];omega
 have e:(255 * 2 ^ (8 * k):Int)=((255 * 256 ^ k:Nat):Int):=by rw [Zoc];simp only [Int.natCast_mul,Int.natCast_pow];rfl
 have e2:Vj m k ||| 255 * 256 ^ k=Vj m k+255 * 256 ^ k:=Z4h (i:=8 * k) (by rw [← Zoc];exact h1) (by rw [← Zoc];exact Nat.mul_mod_left _ _)
 rw [e0,Nat.min_eq_left (by omega),e,Zw5 (255 * 256 ^ k) (by omega),Z4x _ _ (by omega) (by omega),e2,Zw5 _ (by omega)]
theorem Ztf (m:Nat) (hm:m < 256):∀ j i:Nat,i+j=8→Zw (Zaj (m:Int)) (((Vj m i:Nat):Int),(i:Int))=some ((Vj m 8:Nat):Int)
 | 0,i,h=>by
  obtain rfl:i=8:=by omega
  exact Z6 rfl
 | j+1,i,h=>by
  have hs:Zaj (m:Int) (((Vj m i:Nat):Int),(i:Int))=some (.inl (((Vj m (i+1):Nat):Int),((i+1:Nat):Int))):=by
   unfold Zaj
   have e:decide ((i:Int) < 8)=true:=by rw [decide_eq_true_eq];omega
   simp only
   rw [e,cond_true,Zsz (by omega),Option.bind_some,Z0n m i hm (by omega),Zt3 (x:=(i:Int)+1) (by omega)]
   have hw:Vj m (i+1)=Vj m i+(if m / 2 ^ i % 2=1 then 255 * 256 ^ i else 0):=rfl
   cases hb:Zhc m i with
   | true =>
    rw [cond_true,Zsz (by rw [Zt3 (by omega)];omega),Option.bind_some,Z3p m i (by omega),hw,if_pos (Z32 hb)]
    rfl
   | false =>
    rw [cond_false,hw,if_neg (Z31 hb)]
    rfl
  rw [Yn hs]
  exact Ztf m hm j (i+1) (by omega)
theorem Zzl (m:Nat) (hm:m < 256):Zai (m:Int)=some ((Vj m 8:Nat):Int):=by
 unfold Zai
 have:=Ztf m hm 8 0 rfl
 rw [show ((Vj m 0:Nat):Int)=0 from rfl,show ((0:Nat):Int)=0 from rfl] at this
 rw [this]
 rfl
def ofF (f:Nat→Nat):Arr Int 8:=⟨[(f 0:Nat),(f 1:Nat),(f 2:Nat),(f 3:Nat),(f 4:Nat),(f 5:Nat),(f 6:Nat),(f 7:Nat)],rfl⟩
theorem Zpb (f:Nat→Nat) (k:Nat) (hk:k < 8):Xc (ofF f).1 (k:Int)=some ((f k:Nat):Int):=by
 rcases lt8 hk with rfl | rfl | rfl | rfl | rfl | rfl | rfl | rfl <;> rfl
theorem Zy3 (f:Nat→Nat) (k v:Nat) (hk:k < 8):Arr.put (ofF f) (k:Int) (v:Int)=ofF (fun i=>if i=k then v else f i):=by
 rcases lt8 hk with rfl | rfl | rfl | rfl | rfl | rfl | rfl | rfl <;> rfl
theorem Zs5 {f g:Nat→Nat} (h:∀ k,k < 8→f k=g k):ofF f=ofF g:=by
 unfold ofF
 simp only [h 0 (by decide),h 1 (by decide),h 2 (by decide),h 3 (by decide),h 4 (by decide),h 5 (by decide),h 6 (by decide),h 7 (by decide)]
theorem Zpu (n:Nat) (hn:n < 18446744073709551616):∀ j i:Nat,i+j=8→Zw Jf (((n / 256 ^ i:Nat):Int),(i:Int),ofF (fun q=>if q < i then Uc n q else 0))=some (ofF (Uc n))
 | 0,i,h=>by
  obtain rfl:i=8:=by omega
  refine (Z6 (r:=ofF (fun q=>if q < 8 then Uc n q else 0)) rfl).trans ?_
  rw [Zs5 (g:=Uc n) fun k hk=>if_pos hk]
 | j+1,i,h=>by
  have hs:Jf (((n / 256 ^ i:Nat):Int),(i:Int),ofF (fun q=>if q < i then Uc n q else 0))=some (.inl (((n / 256 ^ (i+1):Nat):Int),((i+1:Nat):Int),ofF (fun q=>if q < i+1 then Uc n q else 0))):=by
   unfold Jf
   have e:decide ((i:Int) < 8)=true:=by rw [decide_eq_true_eq];omega
   simp only
   have q1:n / 256 ^ i≤n:=Nat.div_le_self _ _
   have q2:n / 256 ^ i / 256=n / 256 ^ (i+1):=by rw [Nat.div_div_eq_div_mul,Nat.pow_succ]
   have q3:Int.tdiv ((n / 256 ^ i:Nat):Int) 256=((n / 256 ^ (i+1):Nat):Int):=by rw [← q2,Z3i]
   have q4:IntKind.u8.wrap (Int.tmod ((n / 256 ^ i:Nat):Int) 256)=((Uc n i:Nat):Int):=by
    rw [Z3k]
    rfl
   have q5:n / 256 ^ (i+1)≤n:=Nat.div_le_self _ _
   rw [e,cond_true,Zpb _ _ (by omega),Option.bind_some,q3,q4,Zw5 _ (Nat.lt_of_le_of_lt q5 hn),Zt3 (x:=(i:Int)+1) (by omega),Zy3 _ _ _ (by omega)]
   have e5:(fun q=>if q=i then Uc n i else if q < i then Uc n q else 0)=fun q=>if q < i+1 then Uc n q else 0:=by
    funext q
    by_cases h1:q=i
    ·rw [if_pos h1,if_pos (by omega),h1]
    rw [if_neg h1]
    by_cases h2:q < i
    ·rw [if_pos h2,if_pos (by omega)]
    rw [if_neg h2,if_neg (by omega)]
   rw [e5]
   rfl
  rw [Yn hs]
  exact Zpu n hn j (i+1) (by omega)
theorem Zu0 (n:Nat) (hn:n < 18446744073709551616):Js (n:Int)=some (ofF (Uc n)):=by
 unfold Js
 have h:=Zpu n hn 8 0 rfl
 have e:ofF (fun q=>if q < 0 then Uc n q else 0)=⟨[0,0,0,0,0,0,0,0],rfl⟩:=rfl
 rw [e,Nat.pow_zero,Nat.div_one,show ((0:Nat):Int)=0 from rfl] at h
 rw [Option.bind_some,Option.bind_some,h]
 rfl
theorem Zqj (m n:Nat) (hm:m < 256) (hn:n≤8):∀ j i:Nat,i+j=n→Zw (Qo (n:Int)) (((m / 2 ^ i:Nat):Int),(i:Int))=some ((m / 2 ^ n:Nat):Int)
 | 0,i,h=>by
  obtain rfl:i=n:=by omega
  refine Z6 ?_
  unfold Qo
  have e:decide ((i:Int) < (i:Int))=false:=by rw [decide_eq_false_iff_not];omega
  simp only
  rw [e,cond_false]
 | j+1,i,h=>by
  have hs:Qo (n:Int) (((m / 2 ^ i:Nat):Int),(i:Int))=some (.inl (((m / 2 ^ (i+1):Nat):Int),((i+1:Nat):Int))):=by
   unfold Qo
   have e:decide ((i:Int) < (n:Int))=true:=by rw [decide_eq_true_eq];omega
   have q1:m / 2 ^ i≤m:=Nat.div_le_self _ _
   have q2:m / 2 ^ i / 2=m / 2 ^ (i+1):=by rw [Nat.div_div_eq_div_mul,Nat.pow_succ]
   have q5:m / 2 ^ (i+1)≤m:=Nat.div_le_self _ _
   have q3:Int.tdiv ((m / 2 ^ i:Nat):Int) 2=((m / 2 ^ (i+1):Nat):Int):=by rw [← q2,Z5b]
   have q4:IntKind.u8.wrap ((m / 2 ^ (i+1):Nat):Int)=((m / 2 ^ (i+1):Nat):Int):=u8n _ (Nat.lt_of_le_of_lt q5 hm)
   simp only
   rw [e,cond_true,q3,q4,Zt3 (x:=(i:Int)+1) (by omega)]
   rfl
  rw [Yn hs]
  exact Zqj m n hm hn j (i+1) (by omega)
theorem Z1i (m n:Nat) (hm:m < 256) (hn:n≤8):Vv (m:Int) (n:Int)=some (Zhc m n):=by
 unfold Vv
 have h:=Zqj m n hm hn n 0 (by omega)
 rw [Nat.pow_zero,Nat.div_one,show ((0:Nat):Int)=0 from rfl] at h
 rw [h,Option.bind_some,Int.tmod_eq_emod_of_nonneg (Int.natCast_nonneg _),Z0m]
 rfl
theorem Zvk (a b m:Nat) (hm:m < 256):∀ j i:Nat,i+j=8→Zw (K7 (m:Int) (ofF (Uc b))) ((i:Int),ofF (fun q=>if q < i then Zfx a b m q else Uc a q))=some (ofF (Zfx a b m))
 | 0,i,h=>by
  obtain rfl:i=8:=by omega
  refine (Z6 (r:=ofF (fun q=>if q < 8 then Zfx a b m q else Uc a q)) rfl).trans ?_
  rw [Zs5 (g:=Zfx a b m) fun k hk=>if_pos hk]
 | j+1,i,h=>by
  have hs:K7 (m:Int) (ofF (Uc b)) ((i:Int),ofF (fun q=>if q < i then Zfx a b m q else Uc a q))=some (.inl (((i+1:Nat):Int),ofF (fun q=>if q < i+1 then Zfx a b m q else Uc a q))):=by
   unfold K7
   have e:decide ((i:Int) < 8)=true:=by rw [decide_eq_true_eq];omega
   simp only
   rw [e,cond_true,Z1i m i hm (by omega),Option.bind_some,Zt3 (x:=(i:Int)+1) (by omega)]
   have hne:∀ v,v=Zfx a b m i→(fun q=>if q=i then v else if q < i then Zfx a b m q else Uc a q)=fun q=>if q < i+1 then Zfx a b m q else Uc a q:=fun v hv=>by
    funext q
    by_cases h1:q=i
    ·rw [if_pos h1,if_pos (by omega),h1,hv]
    rw [if_neg h1]
    by_cases h2:q < i
    ·rw [if_pos h2,if_pos (by omega)]
    rw [if_neg h2,if_neg (by omega)]
   cases hb:Zhc m i with
   | true =>
    rw [cond_true,Zpb _ _ (by omega),Option.bind_some,Zpb _ _ (by omega),Option.bind_some,Option.bind_some,Zy3 _ _ _ (by omega),hne _ (by unfold Zfx;rw [hb,if_pos rfl])]
    rfl
   | false =>
    have e6:(fun q=>if q < i then Zfx a b m q else Uc a q)=fun q=>if q < i+1 then Zfx a b m q else Uc a q:=by
     funext q
     by_cases h1:q=i
     ·rw [if_neg (by omega),if_pos (by omega),h1]
      unfold Zfx
      rw [hb]
      rfl
     by_cases h2:q < i
     ·rw [if_pos h2,if_pos (by omega)]
     rw [if_neg h2,if_neg (by omega)]
    rw [cond_false,Option.bind_some,e6]
    rfl
  rw [Yn hs]
  exact Zvk a b m hm j (i+1) (by omega)
def hiN (f:Nat→Nat):Nat→Nat→Nat
 | _,0=>0
 | i,n+1=>hiN f (i+1) n * 256+f i
theorem Z03 (f:Nat→Nat) (hf:∀ k,f k < 256):∀ n i,hiN f i n < 256 ^ n
 | 0,_=>by simp [hiN]
 | n+1,i=>by
  have h1:=Z03 f hf n (i+1)
  have h2:=hf i
  have h3:256 ^ (n+1)=256 * 256 ^ n:=by rw [Nat.pow_succ,Nat.mul_comm]
  simp only [hiN]
  omega
theorem Z2y (f:Nat→Nat):hiN f 0 8=Zhx f 8:=by simp only [hiN,Zhx,Nat.reduceMul,Nat.reducePow,Nat.reduceAdd];omega
theorem Zy4 (f:Nat→Nat) (hf:∀ k,f k < 256):∀ i n:Nat,i+n=8→Zw (Vw (ofF f).1 0) (((hiN f i n:Nat):Int),(i:Int) - 1)=some ((hiN f 0 8:Nat):Int)
 | 0,n,h=>by
  obtain rfl:n=8:=by omega
  exact Z6 rfl
 | i+1,n,h=>by
  have hs:Vw (ofF f).1 0 (((hiN f (i+1) n:Nat):Int),((i+1:Nat):Int) - 1)=some (.inl (((hiN f i (n+1):Nat):Int),(i:Int) - 1)):=by
   unfold Vw
   have e0:((i+1:Nat):Int) - 1=(i:Int):=by omega
   have e:decide (0≤(i:Int))=true:=by rw [decide_eq_true_eq];omega
   have h1:=Z03 f hf n (i+1)
   have h2:=hf i
   have h3:256 ^ n≤256 ^ 7:=Nat.pow_le_pow_right (by decide) (by omega)
   have h4:(256:Nat) ^ 7=72057594037927936:=by decide
   simp only
   rw [e0,e,cond_true,Int.zero_add,Zt3 (x:=(i:Int)) (by omega),Zpb _ _ (by omega),Option.bind_some,Z2k (x:=((hiN f (i+1) n:Nat):Int) * 256) (by omega),Z2k (x:=((f i:Nat):Int)) (by omega),Z2k (by omega),Zt3 (by omega)]
   have e7:((hiN f (i+1) n:Nat):Int) * 256+((f i:Nat):Int)=((hiN f i (n+1):Nat):Int):=by simp only [hiN];omega
   rw [e7]
  rw [Yn hs]
  exact Zy4 f hf i (n+1) (by omega)
theorem Zxx (a b m:Nat) (ha:a < 18446744073709551616) (hb:b < 18446744073709551616) (hm:m < 256):Qa (a:Int) (b:Int) (m:Int)=some ((Zfc a b m:Nat):Int):=by
 unfold Qa
 have h:=Zvk a b m hm 8 0 rfl
 have e:ofF (fun q=>if q < 0 then Zfx a b m q else Uc a q)=ofF (Uc a):=rfl
 rw [e,show ((0:Nat):Int)=0 from rfl] at h
 have h2:=Zy4 (Zfx a b m) (Zo7 a b m) 8 0 rfl
 rw [Z2y,show ((8:Nat):Int) - 1=7 from rfl,show ((hiN (Zfx a b m) 8 0:Nat):Int)=0 from rfl] at h2
 rw [Zu0 a ha,Option.bind_some,Zu0 b hb,Option.bind_some,Option.bind_some,h,Option.bind_some]
 unfold Za8
 rw [h2]
 rfl
def wi (x m:Int):Bool:=Zfc x.toNat 0 m.toNat == 0
theorem Ztg {x m:Int} (h0:0≤x) (h1:x < 18446744073709551616) (m0:0≤m) (m1:m < 256):Q8 x m=some (wi x m):=by
 obtain ⟨a,rfl⟩:=Int.eq_ofNat_of_zero_le h0
 obtain ⟨k,rfl⟩:=Int.eq_ofNat_of_zero_le m0
 unfold Q8 wi
 rw [show (0:Int)=((0:Nat):Int) from rfl,Zxx a 0 k (by omega) (by decide) (by omega),Option.bind_some]
 congr 1
 rw [Bool.eq_iff_iff,beq_iff_eq,beq_iff_eq]
 simp only [Int.toNat_natCast]
 omega
abbrev Ed:=S_api_Edit
theorem Vy {e:Ed} {k:S_api_KidEdit} (h:k∈e.Kids):SizeOf.sizeOf k.E < SizeOf.sizeOf e:=by
 obtain ⟨a,b,c,d,ks,f,g⟩:=e
 obtain ⟨i,x⟩:=k
 have h1:=List.sizeOf_lt_of_mem h
 simp only [S_api_Edit.mk.sizeOf_spec,S_api_KidEdit.mk.sizeOf_spec] at h1 ⊢
 omega
theorem Gz {e:Ed} {o:S_api_Op} (h:o∈e.Ops):SizeOf.sizeOf o.E < SizeOf.sizeOf e:=by
 obtain ⟨a,b,c,d,ks,f,os⟩:=e
 obtain ⟨i,n,l,x⟩:=o
 have h1:=List.sizeOf_lt_of_mem h
 simp only [S_api_Edit.mk.sizeOf_spec,S_api_Op.mk.sizeOf_spec] at h1 ⊢
 omega
theorem Zin (e:Ed):0 < SizeOf.sizeOf e:=by
 obtain ⟨a,b,c,d,ks,f,g⟩:=e
 simp only [S_api_Edit.mk.sizeOf_spec]
 omega
inductive BE:Ed→Prop
 | mk (e:Ed) (h1:Bd e.Old) (h2:Bd e.New) (h3:(e.Words.length:Int)≤140737488355328) (h4:∀ w∈e.Words,(0≤w.Mask∧w.Mask < 256)∧(0≤w.Old∧w.Old < 18446744073709551616)∧(0≤w.New∧w.New < 18446744073709551616))
   (h5:(e.Kids.length:Int)≤140737488355328) (h6:∀ k∈e.Kids,BE k.E) (h7:(e.Ops.length:Int)≤140737488355328) (h8:∀ o∈e.Ops,o.L.length * 56≤140737488355328∧∀ t∈o.L,Bd t) (h9:∀ o∈e.Ops,BE o.E):BE e
theorem BE.old {e:Ed} (h:BE e):Bd e.Old:=by cases h;assumption
theorem BE.new {e:Ed} (h:BE e):Bd e.New:=by cases h;assumption
theorem BE.w {e:Ed} (h:BE e):(e.Words.length:Int)≤140737488355328:=by cases h;assumption
theorem BE.ws {e:Ed} (h:BE e):∀ w∈e.Words,(0≤w.Mask∧w.Mask < 256)∧(0≤w.Old∧w.Old < 18446744073709551616)∧(0≤w.New∧w.New < 18446744073709551616):=by cases h;assumption
theorem BE.k {e:Ed} (h:BE e):(e.Kids.length:Int)≤140737488355328:=by cases h;assumption
theorem BE.ks {e:Ed} (h:BE e):∀ k∈e.Kids,BE k.E:=by cases h;assumption
theorem BE.o {e:Ed} (h:BE e):(e.Ops.length:Int)≤140737488355328:=by cases h;assumption
theorem BE.l {e:Ed} (h:BE e):∀ o∈e.Ops,o.L.length * 56≤140737488355328∧∀ t∈o.L,Bd t:=by cases h;assumption
theorem BE.os {e:Ed} (h:BE e):∀ o∈e.Ops,BE o.E:=by cases h;assumption
theorem Z0r {α:Type} (a b:Int) (x y:α):cond (a == b) x y=if a=b then x else y:=by
 by_cases h:a=b
 ·rw [beq_iff_eq.2 h,if_pos h];rfl
 rw [beq_eq_false_iff_ne.2 h,if_neg h];rfl
theorem Zu1 {α:Type} (a b:Int) (x y:α):cond (a != b) x y=if a=b then y else x:=by
 by_cases h:a=b
 ·have:(a != b)=false:=by simp [h]
  rw [this,if_pos h];rfl
 have:(a != b)=true:=by simp [h]
 rw [this,if_neg h];rfl
def chk {α:Type} (pl:α→Int) (ok:Int→α→Bool):Int→List α→Bool
 | _,[]=>true
 | p,x::xs=>ok p x && chk pl ok (pl x) xs
theorem Zvh {α R:Type} (xs:List α) (pl:α→Int) (ok:Int→α→Bool) (step:Int×Int→Option ((Int×Int) ⊕ R)) (e o:R) (hl:(xs.length:Int)≤140737488355328)
  (h1:∀ (p:Int) (i:Nat) (x:α),i < xs.length→xs[i]? = some x→x∈xs→step (p,(i:Int))=some (if ok p x=true then .inl (pl x,IntKind.i64.wrap ((i:Int)+1)) else .inr e)) (h2:∀ p,step (p,(xs.length:Int))=some (.inr o)) (p:Int):Zw step (p,0)=some (if chk pl ok p xs=true then o else e):=by
 have key:∀ (ys:List α) (i:Nat) (p:Int),xs.drop i=ys→i≤xs.length→Zw step (p,(i:Int))=some (if chk pl ok p ys=true then o else e):=fun ys=>by
  induction ys with
  | nil =>
   intro i p h hi
   have:i=xs.length:=by
    have:=congrArg List.length h
    rw [List.length_drop,List.length_nil] at this
    omega
   subst this
   exact Z6 (h2 p)
  | cons x ys ih =>
   intro i p h hi
   have hx:xs[i]? = some x:=by
    have:=congrArg (fun l=>l[0]?) h
    simpa using this
   have hi':i < xs.length:=by
    rcases Nat.lt_or_ge i xs.length with h' | h'
    ·exact h'
    rw [List.getElem?_eq_none h'] at hx;cases hx
   have hs:=h1 p i x hi' hx (List.mem_of_getElem? hx)
   have hd:xs.drop (i+1)=ys:=by
    have:=congrArg List.tail h
    rwa [List.tail_drop,List.tail_cons] at this
   cases hk:ok p x with
   | false =>
    rw [hk] at hs
    rw [Z6 (by simpa using hs)]
    simp [chk,hk]
   | true =>
    rw [hk,if_pos rfl,Jq (by omega) (by omega)] at hs
    have e1:(i:Int)+1=((i+1:Nat):Int):=by omega
    rw [e1] at hs
    rw [Yn hs,ih (i+1) (pl x) hd (by omega)]
    simp [chk,hk]
 exact key xs 0 p rfl (Nat.zero_le _)
def Zay (t:Tr):Bool:=t.Kind == 0 && (t.Words.length == 0 && t.Kids.length == 0)
theorem Zo9 {t:Tr} (h:Bd t):Qi t=some (Zay t):=by
 have:=h.w
 have:=h.k
 unfold Qi Zay
 rw [Jq (by omega) (by omega),Zcx]
 congr 2
 rw [Bool.eq_iff_iff,Bool.and_eq_true,beq_iff_eq,beq_iff_eq,beq_iff_eq]
 omega
def Zhm (e:Ed):Bool:=e.Words.length == 0 && e.Kids.length == 0
def Zgn (e:Ed):Bool:=e.List_ == 0 && e.Ops.length == 0
theorem Z4l {e:Ed} (h:BE e):decide (0 < IntKind.i64.wrap ((e.Words.length:Int)+(e.Kids.length:Int))) = !Zhm e:=by
 have:=h.w
 have:=h.k
 unfold Zhm
 rw [Jq (by omega) (by omega),Bool.eq_iff_iff,Bool.not_eq_true',decide_eq_true_eq,Bool.and_eq_false_iff,beq_eq_false_iff_ne,beq_eq_false_iff_ne]
 omega
theorem Z4d (e:Ed):cond (e.List_ != 0) true (decide (0 < (e.Ops.length:Int))) = !Zgn e:=by
 unfold Zgn
 cases h0:e.List_ == 0 with
 | false=>simp only [bne,h0];rfl
 | true =>
  simp only [bne,h0,Bool.not_true,cond_false,Bool.true_and]
  rw [Bool.eq_iff_iff,Bool.not_eq_true',decide_eq_true_eq,beq_eq_false_iff_ne]
  omega
def Zl3 (e:Ed):Bool:=Zay e.Old && Zay e.New
def Zfq (e:Ed):Bool:=e.Kind == 0 && (Zl3 e && (Zhm e && Zgn e))
theorem Z13 {e:Ed} (h:BE e):Kx e=some (Zfq e):=by
 have:=h.w
 have:=h.k
 have:=h.o
 unfold Kx Zfq
 rw [Zo9 h.old,Zo9 h.new]
 simp only [Option.bind_some]
 have e1:(IntKind.i64.wrap (IntKind.i64.wrap ((e.Words.length:Int)+(e.Kids.length:Int))+(e.Ops.length:Int)) == 0)=(Zhm e && e.Ops.length == 0):=by
  unfold Zhm
  rw [Jq (x:=(e.Words.length:Int)+(e.Kids.length:Int)) (by omega) (by omega),Jq (by omega) (by omega),Bool.eq_iff_iff,Bool.and_eq_true,Bool.and_eq_true,beq_iff_eq,beq_iff_eq,beq_iff_eq,beq_iff_eq]
  omega
 rw [e1]
 unfold Zl3 Zgn
 generalize Zay e.Old=p
 generalize Zay e.New=q
 generalize Zhm e=r
 generalize (e.List_ == 0)=s
 generalize (e.Ops.length == 0)=u
 generalize (e.Kind == 0)=v
 revert p q r s u v
 decide
def okW (p:Int) (w:Zn):Bool := !(((((decide (w.At≤p) || decide (65534 < w.At)) || w.Mask == 0) || !(wi w.Old w.Mask)) || !(wi w.New w.Mask)))
theorem Zz8 {e:Ed} (h:BE e):Zw (Qm e) (-1,0)=some (if chk (·.At) okW (-1) e.Words=true then Sum.inr () else Sum.inl ()) :=
 Zvh e.Words (·.At) okW (Qm e) (.inl ()) (.inr ()) h.w (fun p i x hi hx hm=>by
  obtain ⟨h1,h2,h3⟩:=h.ws x hm
  unfold Qm
  simp only
  rw [Vh hi,cond_true,Ya hx,Option.bind_some,Ztg h2.1 h2.2 h1.1 h1.2,Ztg h3.1 h3.2 h1.1 h1.2]
  simp only [Option.bind_some]
  unfold okW
  generalize decide (x.At≤p)=q1
  generalize decide (65534 < x.At)=q2
  generalize (x.Mask == 0)=q3
  generalize wi x.Old x.Mask=q4
  generalize wi x.New x.Mask=q5
  cases q1 <;> cases q2 <;> cases q3 <;> cases q4 <;> cases q5 <;> rfl) (fun p=>by unfold Qm;simp only;rw [Zck];rfl) (-1)
theorem Zz2 {α S R σ:Type} (xs:List α) (mk:S→Int→σ) (f:S→α→S) (out:S→R) (I:S→Prop) (step:σ→Option (σ ⊕ R)) (hl:(xs.length:Int)≤140737488355328)
  (h1:∀ (s:S) (i:Nat) (x:α),I s→i < xs.length→xs[i]? = some x→x∈xs→I (f s x)∧step (mk s (i:Int))=some (.inl (mk (f s x) (IntKind.i64.wrap ((i:Int)+1))))) (h2:∀ s,I s→step (mk s (xs.length:Int))=some (.inr (out s))) (s:S) (hs:I s):Zw step (mk s 0)=some (out (xs.foldl f s))∧I (xs.foldl f s):=by
 have key:∀ (ys:List α) (i:Nat) (s:S),I s→xs.drop i=ys→i≤xs.length→Zw step (mk s (i:Int))=some (out (ys.foldl f s))∧I (ys.foldl f s):=fun ys=>by
  induction ys with
  | nil =>
   intro i s hI h hi
   have:i=xs.length:=by
    have:=congrArg List.length h
    rw [List.length_drop,List.length_nil] at this
    omega
   subst this
   exact ⟨Z6 (h2 s hI),hI⟩
  | cons x ys ih =>
   intro i s hI h hi
   have hx:xs[i]? = some x:=by
    have:=congrArg (fun l=>l[0]?) h
    simpa using this
   have hi':i < xs.length:=by
    rcases Nat.lt_or_ge i xs.length with h' | h'
    ·exact h'
    rw [List.getElem?_eq_none h'] at hx;cases hx
   obtain ⟨hI',hs⟩:=h1 s i x hI hi' hx (List.mem_of_getElem? hx)
   have hd:xs.drop (i+1)=ys:=by
    have:=congrArg List.tail h
    rwa [List.tail_drop,List.tail_cons] at this
   have e1:(i:Int)+1=((i+1:Nat):Int):=by omega
   rw [Jq (by omega) (by omega),e1] at hs
   rw [Yn hs]
   exact ih (i+1) (f s x) hI' hd (by omega)
 exact key xs 0 s hs rfl (Nat.zero_le _)
def thr (o:S_api_Op):Int:=if o.Kind=0 then (if 1048576 < (if o.N < 0 then 0 else o.N) then 1048576 else (if o.N < 0 then 0 else o.N)) else if o.Kind=1∨o.Kind=2 then (o.L.length:Int) else if o.Kind=3 then 1 else 0
theorem Zyb {o:S_api_Op} (h:o.L.length * 56≤140737488355328):0≤thr o∧thr o≤140737488355328:=by
 unfold thr
 repeat' split
 all_goals omega
def Zn0 (x:Int):Int:=if 1048576 < x then 1048576 else x
def stI (s:Int×Int) (o:S_api_Op):Int×Int:=(if o.Kind=2 then s.1 else Zn0 (s.1+thr o),if o.Kind=1 then s.2 else Zn0 (s.2+thr o))
def Sm (s:Int×Int):Prop:=(0≤s.1∧s.1≤1048576)∧(0≤s.2∧s.2≤1048576)
theorem Zx8 {s:Int×Int} {o:S_api_Op} (hs:Sm s) (h:o.L.length * 56≤140737488355328):Sm (stI s o):=by
 have:=Zyb h
 unfold Sm at hs ⊢
 unfold stI Zn0
 refine ⟨?_,?_⟩
 ·simp only
  split
  ·omega
  split <;> omega
 simp only
 split
 ·omega
 split <;> omega
def Zse (o:S_api_Op):Int:=if o.Kind=3 then 1 else IntKind.i64.wrap (o.N+(o.L.length:Int))
def stR (s:Int×Int) (o:S_api_Op):Int×Int:=(Zn0 (if o.Kind=2 then s.1 else IntKind.i64.wrap (s.1+Zse o)),Zn0 (if o.Kind=1 then s.2 else IntKind.i64.wrap (s.2+Zse o)))
theorem Zyx {e:Ed} (h:BE e):Qv e=some (e.Ops.foldl stR (0,0)):=by
 obtain ⟨h1,_⟩:=Zz2 e.Ops (fun (s:Int×Int) i=>(s.1,s.2,i)) stR (fun s=>(s.1,s.2)) (fun _=>True) (Qw e) h.o (fun s i x hs hi hx hm=>by
  refine ⟨trivial,?_⟩
  have hc:∀ a b:Int,((cond (decide (1048576 < a)) (some 1048576) (some a)).bind fun (z10:Int)=>cond (decide (1048576 < b)) (some (z10,1048576)) (some (z10,b)))=some (Zn0 a,Zn0 b):=fun a b=>by
   unfold Zn0
   by_cases q1:1048576 < a <;> by_cases q2:1048576 < b <;> simp [q1,q2]
  unfold Qw
  simp only
  rw [Vh hi,cond_true,Ya hx,Option.bind_some]
  have e1:cond (x.Kind == 3) (some 1) (some (IntKind.i64.wrap (x.N+(x.L.length:Int))))=some (Zse x):=by
   unfold Zse
   rw [Z0r]
   split <;> rfl
  rw [e1,Option.bind_some]
  have e2:cond (x.Kind != 2) (some (IntKind.i64.wrap (s.1+Zse x))) (some s.1)=some (if x.Kind=2 then s.1 else IntKind.i64.wrap (s.1+Zse x)):=by
   rw [Zu1];split <;> rfl
  have e3:cond (x.Kind != 1) (some (IntKind.i64.wrap (s.2+Zse x))) (some s.2)=some (if x.Kind=1 then s.2 else IntKind.i64.wrap (s.2+Zse x)):=by
   rw [Zu1];split <;> rfl
  rw [e2,Option.bind_some,e3,Option.bind_some,hc]
  rfl) (fun s _=>by unfold Qw;simp only;rw [Zck];rfl) (0,0) trivial
 unfold Qv
 rw [h1]
 rfl
def Z3s (l:Int) (e:Ed):Bool:=if l=8 then e.Kind != 0 else if l=9 then e.Kind == 2 || (e.Kind == 1 && (e.Old.Kind == 1 && e.New.Kind == 1)) else false
def okO (l:Int) (o:S_api_Op) (r:Bool):Bool :=
 if o.Kind=0 then (decide (1≤o.N) && decide (o.N≤1048576)) && (o.L.length == 0 && Zfq o.E)
 else if o.Kind=1∨o.Kind=2 then o.N == 0 && (decide (0 < o.L.length) && ((o.L.all fun t=>rt t 63 && okk l t) && Zfq o.E))
 else if o.Kind=3 then o.N == 0 && (o.L.length == 0 && (o.E.Kind != 0 && (Z3s l o.E && r)))
 else false
def Zs1 (s:Int×Int):Bool:=decide (s.1 < 1048576) && decide (s.2 < 1048576)
theorem Z4f {l:Int} {o:S_api_Op} {r:Bool} (h:okO l o r=true):o.N+(o.L.length:Int)=(if o.Kind=3 then 0 else thr o)∧0≤thr o:=by
 unfold okO at h
 unfold thr
 by_cases h0:o.Kind=0
 ·rw [if_pos h0] at h
  simp only [Bool.and_eq_true,decide_eq_true_eq,beq_iff_eq] at h
  simp only [h0,if_pos]
  refine ⟨?_,?_⟩
  ·rw [if_neg (by decide)]
   repeat' split
   all_goals omega
  repeat' split
  all_goals omega
 rw [if_neg h0] at h
 by_cases h12:o.Kind=1∨o.Kind=2
 ·rw [if_pos h12] at h
  simp only [Bool.and_eq_true,beq_iff_eq] at h
  rw [if_neg h0,if_pos h12,if_neg (by omega)]
  omega
 rw [if_neg h12] at h
 by_cases h3:o.Kind=3
 ·rw [if_pos h3] at h
  simp only [Bool.and_eq_true,beq_iff_eq] at h
  rw [if_neg h0,if_neg h12,if_pos h3,if_pos h3]
  omega
 rw [if_neg h3] at h
 cases h
theorem Z3e {l:Int} {o:S_api_Op} {r:Bool} {s:Int×Int} (h:okO l o r=true) (hs:Sm s) (hl:o.L.length * 56≤140737488355328):stR s o=stI s o:=by
 have ht:=Zyb hl
 have hk:=Z4f h
 have hi:Zse o=thr o:=by
  unfold Zse
  by_cases h3:o.Kind=3
  ·rw [if_pos h3]
   unfold thr
   rw [if_neg (by omega),if_neg (by omega),if_pos h3]
  rw [if_neg h3] at hk ⊢
  rw [Jq (by omega) (by omega)]
  exact hk.1
 unfold Sm at hs
 unfold stR stI
 rw [hi,Jq (by omega) (by omega),Jq (by omega) (by omega)]
 have hc:∀ x:Int,x≤1048576→Zn0 x=x:=fun x hx=>by unfold Zn0;rw [if_neg (by omega)]
 refine Prod.ext ?_ ?_
 ·simp only
  split
  ·exact hc _ hs.1.2
  rfl
 simp only
 split
 ·exact hc _ hs.2.2
 rfl
theorem Zsx {l:Int} (r:S_api_Op→Bool):∀ (os:List S_api_Op) (s:Int×Int),Sm s→(∀ o∈os,okO l o (r o)=true)→(∀ o∈os,o.L.length * 56≤140737488355328)→os.foldl stR s=os.foldl stI s∧Sm (os.foldl stI s)
 | [],s,hs,_,_=>⟨rfl,hs⟩
 | o::os,s,hs,h,hl=>by
  have h1:=Z3e (h o (.head _)) hs (hl o (.head _))
  have:=Zsx r os (stI s o) (Zx8 hs (hl o (.head _))) (fun x hx=>h x (.tail _ hx)) (fun x hx=>hl x (.tail _ hx))
  rw [List.foldl_cons,List.foldl_cons,h1]
  exact this
theorem Zyq:∀ (os:List S_api_Op) (s:Int×Int),Sm s→(∀ o∈os,o.L.length * 56≤140737488355328)→(s.1=1048576→(os.foldl stI s).1=1048576)∧(s.2=1048576→(os.foldl stI s).2=1048576)
 | [],s,_,_=>⟨id,id⟩
 | o::os,s,hs,hl=>by
  have ht:=Zyb (hl o (.head _))
  have:=Zyq os (stI s o) (Zx8 hs (hl o (.head _))) (fun x hx=>hl x (.tail _ hx))
  rw [List.foldl_cons]
  refine ⟨fun h=>this.1 ?_,fun h=>this.2 ?_⟩
  ·unfold stI Zn0
   simp only
   repeat' split
   all_goals omega
  unfold stI Zn0
  simp only
  repeat' split
  all_goals omega
def okP (p:Int) (x:Int×Bool):Bool := !(decide (x.1≤p) || decide (65534 < x.1)) && x.2
theorem Zym {α:Type} (g:α→Int×Bool):∀ (xs:List α) (p:Int),chk (·.1) okP p (xs.map g)=chk (fun x=>(g x).1) (fun p x=>okP p (g x)) p xs
 | [],_=>rfl
 | x::xs,p=>by rw [List.map_cons,chk,chk,Zym g xs]
def rE (e:Ed) (d:Nat):Bool :=
 if d=0 then false
 else if e.Kind=0 then Zfq e
 else if e.Kind=1 then (Zhm e && Zgn e) && ((rt e.Old 64 && e.Old.Kind != 10) && (rt e.New 64 && e.New.Kind != 10))
 else if e.Kind=2 then (Zl3 e && Zgn e) && (chk (·.At) okW (-1) e.Words && chk (·.1) okP (-1) (e.Kids.attach.map fun k=>(k.1.At,k.1.E.Kind != 0 && rE k.1.E (d - 1))))
 else if e.Kind=3 then (Zl3 e && Zhm e) && ((decide (2≤e.List_) && decide (e.List_≤9)) && ((e.Ops.attach.map fun o=>okO e.List_ o.1 (rE o.1.E (d - 1))).all id && Zs1 (e.Ops.foldl stR (0,0))))
 else false
termination_by SizeOf.sizeOf e
decreasing_by
 ·exact Vy k.2
 exact Gz o.2
def okK (d:Nat) (p:Int) (k:S_api_KidEdit):Bool:=okP p (k.At,k.E.Kind != 0 && rE k.E d)
theorem Zs7 (e:Ed) (d:Nat):rE e d=if d=0 then false
 else if e.Kind=0 then Zfq e
 else if e.Kind=1 then (Zhm e && Zgn e) && ((rt e.Old 64 && e.Old.Kind != 10) && (rt e.New 64 && e.New.Kind != 10))
 else if e.Kind=2 then (Zl3 e && Zgn e) && (chk (·.At) okW (-1) e.Words && chk (·.At) (okK (d - 1)) (-1) e.Kids)
 else if e.Kind=3 then (Zl3 e && Zhm e) && ((decide (2≤e.List_) && decide (e.List_≤9)) && ((e.Ops.all fun o=>okO e.List_ o (rE o.E (d - 1))) && Zs1 (e.Ops.foldl stR (0,0))))
 else false:=by
 rw [rE]
 have h1:(e.Kids.attach.map fun k=>(k.1.At,k.1.E.Kind != 0 && rE k.1.E (d - 1)))=e.Kids.map fun k=>(k.At,k.E.Kind != 0 && rE k.E (d - 1)):=List.attach_map_val (f:=fun k:S_api_KidEdit=>(k.At,k.E.Kind != 0 && rE k.E (d - 1)))
 have h2:(e.Ops.attach.map fun o=>okO e.List_ o.1 (rE o.1.E (d - 1)))=e.Ops.map fun o=>okO e.List_ o (rE o.E (d - 1)):=List.attach_map_val (f:=fun o:S_api_Op=>okO e.List_ o (rE o.E (d - 1)))
 rw [h1,h2,Zym,List.all_map]
 rfl
theorem Z20 {n:Nat}:decide (0 < (n:Int)) = !(n == 0):=by rw [Bool.eq_iff_iff,Bool.not_eq_true',decide_eq_true_eq,beq_eq_false_iff_ne];omega
theorem Z07 {n:Nat}:decide (0 < n) = !(n == 0):=by rw [Bool.eq_iff_iff,Bool.not_eq_true',decide_eq_true_eq,beq_eq_false_iff_ne];omega
theorem Z49 {l:Int} {L:List Tr} (h2:2≤l) (h9:l≤9):rt ⟨l,[],L⟩ 64=(decide (L.length < 1048576) && L.all fun t=>rt t 63 && okk l t):=by
 rw [Zze]
 simp only
 rw [if_neg (by omega),if_neg (by omega)]
 by_cases h:L.length < 1048576
 ·rw [if_neg (by simp only [List.length_nil];omega),decide_eq_true h,Bool.true_and]
 rw [if_pos (by omega),decide_eq_false h,Bool.false_and]
def BO (o:S_api_Op):Prop:=(o.L.length * 56≤140737488355328∧∀ t∈o.L,Bd t)∧BE o.E
theorem Z4s {l:Int} {L:List Tr} (h:L.length * 56≤140737488355328∧∀ t∈L,Bd t):Bd ⟨l,[],L⟩ := .mk _ (by simp) (by simp only;omega) (fun w hw=>by simp at hw) h.2
theorem Z3f {α:Type} {l:List α} {i:Nat} {x:α} (hx:l[i]? = some x) (hl:(l.length:Int)≤140737488355328):Zbq l (i:Int) (IntKind.i64.wrap ((i:Int)+1))=some [x]:=by
 have hi:i < l.length:=by
  rcases Nat.lt_or_ge i l.length with h' | h'
  ·exact h'
  rw [List.getElem?_eq_none h'] at hx;cases hx
 rw [Jq (by omega) (by omega)]
 unfold Zbq
 rw [if_pos (by omega)]
 have e1:((i:Int)+1 - (i:Int)).toNat=1:=by omega
 rw [e1,Int.toNat_natCast,List.drop_eq_getElem_cons hi,List.take_succ_cons,List.take_zero]
 rw [List.getElem?_eq_getElem hi] at hx
 rw [Option.some.inj hx]
theorem Zyo:∀ (k:Nat),(∀ (e:Ed) (d:Nat),BE e→2 * SizeOf.sizeOf e < k→d≤64→(Yd k).1 e (d:Int)=some (rE e d)) ∧
  (∀ (l:Int) (o:S_api_Op) (d:Nat),2≤l→l≤9→BO o→2 * SizeOf.sizeOf o.E+1 < k→d≤64→(Yd k).2 l o (d:Int)=some (okO l o (rE o.E d)))
 | 0=>⟨fun e d _ h=>by omega,fun l o d _ _ _ h=>by omega⟩
 | k+1=>by
  obtain ⟨i1,i2⟩:=Zyo k
  refine ⟨fun e d hb hk hd => ?_,fun l o d h2 h9 hb hk hd => ?_⟩
  ·show Vp (Yd k).1 (Yd k).2 e (d:Int)=_
   unfold Vp
   rw [Zs7,Zo9 hb.old,Zo9 hb.new,Z4l hb,Z4d,Zz8 hb,Zyx hb]
   by_cases hd0:d=0
   ·subst hd0
    rw [if_pos rfl]
    rfl
   have ed:((d:Int) == 0)=false:=by rw [beq_eq_false_iff_ne];omega
   rw [if_neg hd0,ed,cond_false]
   obtain ⟨d',rfl⟩:∃ d',d=d'+1:=⟨d - 1,by omega⟩
   have ed':IntKind.i64.wrap (((d'+1:Nat):Int) - 1)=(d':Int):=by rw [Jq (by omega) (by omega)];omega
   by_cases hbad:e.Kind < 0∨3 < e.Kind
   ·have q:cond (decide (e.Kind < 0)) true (decide (3 < e.Kind))=true:=by
     rcases hbad with h | h
     ·rw [decide_eq_true h];rfl
     rw [decide_eq_true h];cases decide (e.Kind < 0) <;> rfl
    rw [q,cond_true,if_neg (by omega),if_neg (by omega),if_neg (by omega),if_neg (by omega)]
   have q:cond (decide (e.Kind < 0)) true (decide (3 < e.Kind))=false:=by
    rw [decide_eq_false (by omega),decide_eq_false (by omega)]
    rfl
   rw [q,cond_false]
   simp only [Option.bind_some]
   have hkids:Zw (Qn (Yd k).1 e ((d'+1:Nat):Int)) (-1,0)=some (if chk (·.At) (okK d') (-1) e.Kids=true then Sum.inr () else Sum.inl ()) :=
    Zvh e.Kids (·.At) (okK d') (Qn (Yd k).1 e ((d'+1:Nat):Int)) (.inl ()) (.inr ()) hb.k (fun p i x hi hx hm=>by
     unfold Qn
     simp only
     rw [Vh hi,cond_true,Ya hx,Option.bind_some,ed',i1 x.E d' (hb.ks x hm) (by have:=Vy hm;omega) (by omega)]
     simp only [Option.bind_some]
     unfold okK okP bne
     simp only
     generalize decide (x.At≤p)=q1
     generalize decide (65534 < x.At)=q2
     generalize (x.E.Kind == 0)=q3
     generalize rE x.E d'=q4
     cases q1 <;> cases q2 <;> cases q3 <;> cases q4 <;> rfl) (fun p=>by unfold Qn;simp only;rw [Zck];rfl) (-1)
   have hnil:e.Ops=[]→Zw (Xw (Yd k).2 e ((d'+1:Nat):Int)) 0=some (Sum.inr ()):=fun h=>Z6 (by
    unfold Xw
    rw [h]
    rfl)
   have wk_nil:Zhm e=true→e.Words=[]∧e.Kids=[]:=fun h=>by
    unfold Zhm at h
    rw [Bool.and_eq_true,beq_iff_eq,beq_iff_eq] at h
    exact ⟨List.eq_nil_of_length_eq_zero h.1,List.eq_nil_of_length_eq_zero h.2⟩
   have lo_nil:Zgn e=true→e.List_=0∧e.Ops=[]:=fun h=>by
    unfold Zgn at h
    rw [Bool.and_eq_true,beq_iff_eq,beq_iff_eq] at h
    exact ⟨h.1,List.eq_nil_of_length_eq_zero h.2⟩
   rw [Nat.add_sub_cancel]
   by_cases h0:e.Kind=0
   ·rw [if_pos h0]
    unfold Zfq Zl3
    rw [h0]
    cases hwk:Zhm e with
    | false=>cases Zay e.Old <;> cases Zay e.New <;> cases Zgn e <;> rfl
    | true =>
     cases hlo:Zgn e with
     | false=>cases Zay e.Old <;> cases Zay e.New <;> rfl
     | true =>
      obtain ⟨w0,k0⟩:=wk_nil hwk
      obtain ⟨l0,o0⟩:=lo_nil hlo
      rw [hkids,hnil o0,w0,k0,o0]
      cases Zay e.Old <;> cases Zay e.New <;> rfl
   rw [if_neg h0]
   by_cases h1:e.Kind=1
   ·have r1:=Zkh hb.old (d:=64) (by decide)
    have r2:=Zkh hb.new (d:=64) (by decide)
    rw [show ((64:Nat):Int)=64 from rfl] at r1 r2
    rw [if_pos h1,h1,r1,r2]
    simp only [Option.bind_some]
    generalize Zhm e=q1
    generalize Zgn e=q2
    generalize rt e.Old 64=q3
    generalize rt e.New 64=q4
    generalize (e.Old.Kind != 10)=q5
    generalize (e.New.Kind != 10)=q6
    cases q1 <;> cases q2 <;> cases q3 <;> cases q4 <;> cases q5 <;> cases q6 <;> rfl
   rw [if_neg h1]
   by_cases h2:e.Kind=2
   ·rw [if_pos h2,h2]
    unfold Zl3
    cases hlo:Zgn e with
    | false=>cases Zay e.Old <;> cases Zay e.New <;> rfl
    | true =>
     obtain ⟨l0,o0⟩:=lo_nil hlo
     rw [hkids,hnil o0,o0]
     generalize chk (·.At) okW (-1) e.Words=q1
     generalize chk (·.At) (okK d') (-1) e.Kids=q2
     cases Zay e.Old <;> cases Zay e.New <;> cases q1 <;> cases q2 <;> rfl
   have h3:e.Kind=3:=by omega
   rw [if_neg h2,if_pos h3,h3]
   unfold Zl3
   cases hwk:Zhm e with
   | false=>cases Zay e.Old <;> cases Zay e.New <;> rfl
   | true =>
    obtain ⟨w0,k0⟩:=wk_nil hwk
    rw [hkids,w0,k0]
    by_cases hl:2≤e.List_∧e.List_≤9
    ·have hops:Zw (Xw (Yd k).2 e ((d'+1:Nat):Int)) 0=some (if (e.Ops.all fun o=>okO e.List_ o (rE o.E d'))=true then Sum.inr () else Sum.inl ()) :=
      Ziu e.Ops _ (fun o=>okO e.List_ o (rE o.E d')) (Sum.inl ():Unit ⊕ Unit) (Sum.inr ()) hb.o (fun i x hi hx hm=>by
       unfold Xw
       rw [Vh hi,cond_true,Ya hx,Option.bind_some,ed',i2 e.List_ x d' hl.1 hl.2 ⟨hb.l x hm,hb.os x hm⟩ (by have:=Gz hm;omega) (by omega),Option.bind_some]
       cases okO e.List_ x (rE x.E d') <;> rfl) (by unfold Xw;rw [Zck];rfl)
     rw [hops,decide_eq_true hl.1,decide_eq_true hl.2,decide_eq_false (p:=e.List_ < 2) (by omega),decide_eq_false (p:=9 < e.List_) (by omega)]
     unfold Zs1
     generalize (e.Ops.all fun o=>okO e.List_ o (rE o.E d'))=q1
     generalize decide ((e.Ops.foldl stR (0,0)).1 < 1048576)=q2
     generalize decide ((e.Ops.foldl stR (0,0)).2 < 1048576)=q3
     cases Zay e.Old <;> cases Zay e.New <;> cases q1 <;> cases q2 <;> cases q3 <;> rfl
    have q:cond (decide (e.List_ < 2)) true (decide (9 < e.List_))=true:=by
     by_cases h:e.List_ < 2
     ·rw [decide_eq_true h];rfl
     rw [decide_eq_true (p:=9 < e.List_) (by omega)];cases decide (e.List_ < 2) <;> rfl
    have q':(decide (2≤e.List_) && decide (e.List_≤9))=false:=by rw [Bool.and_eq_false_iff,decide_eq_false_iff_not,decide_eq_false_iff_not];omega
    rw [q,q']
    cases Zay e.Old <;> cases Zay e.New <;> rfl
  show Gk (Yd k).1 (Yd k).2 l o (d:Int)=_
  have hlen:(o.L.length:Int)≤140737488355328:=by have:=hb.1.1;omega
  have hloop:Zw (Vq l o) 0=some (if (o.L.all fun t=>rt t 63 && okk l t)=true then Sum.inr () else Sum.inl ()) :=
   Ziu o.L _ (fun t=>rt t 63 && okk l t) (Sum.inl ():Unit ⊕ Unit) (Sum.inr ()) hlen (fun i x hi hx hm=>by
    unfold Vq
    have hbx:Bd ⟨l,[],[x]⟩:=Z4s ⟨by simp,fun t ht=>by rw [List.mem_singleton.1 ht];exact hb.1.2 x hm⟩
    have r1:=Zkh hbx (d:=64) (by decide)
    rw [show ((64:Nat):Int)=64 from rfl,Z49 h2 h9] at r1
    rw [Vh hi,cond_true,Z3f hx hlen,Option.bind_some,r1,Option.bind_some]
    simp only [List.all_cons,List.all_nil,Bool.and_true,List.length_singleton]
    cases rt x 63 && okk l x <;> rfl) (by unfold Vq;rw [Zck];rfl)
  unfold Gk okO
  rw [Z13 hb.2,i1 o.E d hb.2 (by omega) hd,hloop,Z2z,Z20,Z07]
  simp only [Option.bind_some]
  by_cases h0:o.Kind=0
  ·rw [if_pos h0,h0]
   generalize decide (1≤o.N)=q1
   generalize decide (o.N≤1048576)=q2
   generalize (o.L.length == 0)=q3
   generalize Zfq o.E=q4
   cases q1 <;> cases q2 <;> cases q3 <;> cases q4 <;> rfl
  rw [if_neg h0,beq_eq_false_iff_ne.2 h0,cond_false]
  by_cases h12:o.Kind=1∨o.Kind=2
  ·rw [if_pos h12,decide_eq_false (p:=o.Kind < 0) (by omega),decide_eq_false (p:=3 < o.Kind) (by omega),decide_eq_true (p:=o.Kind < 3) (by omega)]
   unfold bne
   generalize (o.N == 0)=q1
   generalize (o.L.length == 0)=q2
   generalize (o.L.all fun t=>rt t 63 && okk l t)=q3
   generalize Zfq o.E=q4
   cases q1 <;> cases q2 <;> cases q3 <;> cases q4 <;> rfl
  rw [if_neg h12]
  by_cases h3:o.Kind=3
  ·rw [if_pos h3,h3]
   unfold bne Z3s
   by_cases k0:o.E.Kind=0
   ·rw [k0]
    generalize (o.N == 0)=q1
    generalize (o.L.length == 0)=q2
    cases q1 <;> cases q2 <;> rfl
   rw [beq_eq_false_iff_ne.2 k0]
   by_cases l8:l=8
   ·rw [if_pos l8,l8]
    unfold bne
    rw [beq_eq_false_iff_ne.2 k0]
    generalize (o.N == 0)=q1
    generalize (o.L.length == 0)=q2
    generalize rE o.E d=q3
    cases q1 <;> cases q2 <;> cases q3 <;> rfl
   rw [if_neg l8]
   by_cases l9:l=9
   ·rw [if_pos l9,l9]
    generalize (o.N == 0)=q1
    generalize (o.L.length == 0)=q2
    generalize rE o.E d=q3
    generalize (o.E.Kind == 2)=q4
    generalize (o.E.Kind == 1)=q5
    generalize (o.E.Old.Kind == 1)=q6
    generalize (o.E.New.Kind == 1)=q7
    cases q1 <;> cases q2 <;> cases q3 <;> cases q4 <;> cases q5 <;> cases q6 <;> cases q7 <;> rfl
   rw [if_neg l9,decide_eq_true (p:=l≤7) (by omega)]
   generalize (o.N == 0)=q1
   generalize (o.L.length == 0)=q2
   cases q1 <;> cases q2 <;> rfl
  rw [if_neg h3]
  have q:cond (cond (o.N != 0) true (decide (o.Kind < 0))) true (decide (3 < o.Kind))=true:=by
   by_cases h:o.Kind < 0
   ·rw [decide_eq_true h];cases o.N != 0 <;> rfl
   rw [decide_eq_true (p:=3 < o.Kind) (by omega)];cases cond (o.N != 0) true (decide (o.Kind < 0)) <;> rfl
  rw [q]
  rfl
theorem Z2u {e:Ed} (h:BE e) {d:Nat} (hd:d≤64):Zbe e (d:Int)=some (rE e d):=Zcj (2 * SizeOf.sizeOf e+1) fun k hk=>(Zyo k).1 e d h (by omega) hd
def ce (e:Ed):Nat:=1+e.Words.length+e.Ops.length+(e.Kids.attach.map fun k=>ce k.1.E).sum+(e.Ops.attach.map fun o=>ce o.1.E).sum
termination_by SizeOf.sizeOf e
decreasing_by
 ·exact Vy k.2
 exact Gz o.2
theorem Z0p (e:Ed):ce e=1+e.Words.length+e.Ops.length+(e.Kids.map fun k=>ce k.E).sum+(e.Ops.map fun o=>ce o.E).sum:=by
 rw [ce]
 have h1:(e.Kids.attach.map fun k=>ce k.1.E)=e.Kids.map fun k=>ce k.E:=List.attach_map_val (f:=fun k:S_api_KidEdit=>ce k.E)
 have h2:(e.Ops.attach.map fun o=>ce o.1.E)=e.Ops.map fun o=>ce o.E:=List.attach_map_val (f:=fun o:S_api_Op=>ce o.E)
 rw [h1,h2]
theorem Zt5:∀ (k:Nat) (e:Ed) (d left:Int),BE e→SizeOf.sizeOf e < k→0≤d→d≤100→0≤left→left≤1000000→∃ r,Yh k e d left=some r∧-1≤r∧r≤1000000∧(0≤r→r+(ce e:Nat)≤left)
 | 0,e,_,_,_,h,_,_,_,_=>by omega
 | k+1,e,d,left,hb,hk,hd0,hd1,hl0,hl1=>by
  have hw:=hb.w
  have ho:=hb.o
  show ∃ r,Qh (Yh k) e d left=some r∧_
  unfold Qh
  rw [Jq (x:=left - 1) (by omega) (by omega),Jq (x:=left - 1 - (e.Words.length:Int)) (by omega) (by omega),Jq (by omega) (by omega),Z0p]
  cases hc:cond (d == 0) true (decide (left - 1 - (e.Words.length:Int) - (e.Ops.length:Int) < 0)) with
  | true=>exact ⟨-1,rfl,by omega,by omega,fun h=>by omega⟩
  | false =>
   rw [cond_false]
   have hd:¬ d=0∧0≤left - 1 - (e.Words.length:Int) - (e.Ops.length:Int):=by
    by_cases h:d=0
    ·simp [h] at hc
    have e:(d == 0)=false:=by simp [h]
    rw [e,cond_false,decide_eq_false_iff_not] at hc
    exact ⟨h,by omega⟩
   obtain ⟨r1,g1,g2,g3,g4⟩:=Zuq hb.old hd.2 (by omega)
   have hz:∃ z,cond (decide (0≤r1)) ((Xq e.New 80 r1).bind fun y4=>some y4) (some r1)=some z∧-1≤z∧z≤1000000∧(0≤z→z≤left - 1 - (e.Words.length:Int) - (e.Ops.length:Int)):=by
    by_cases h:0≤r1
    ·obtain ⟨r2,f1,f2,f3,f4⟩:=Zuq hb.new h g3
     refine ⟨r2,by rw [decide_eq_true h,f1];rfl,f2,f3,fun h2 => ?_⟩
     have:=f4 h2
     have:=g4 h
     omega
    exact ⟨r1,by rw [decide_eq_false h];rfl,g2,g3,fun h2=>absurd h2 h⟩
   obtain ⟨z,z1,z2,z3,z4⟩:=hz
   rw [g1,Option.bind_some,z1,Option.bind_some]
   obtain ⟨r,h1,h2⟩:=Zb9 (step:=X3 (Yh k) e d)
    (fun s=>∃ j:Nat,s.2=j∧j≤e.Kids.length∧-1≤s.1∧s.1≤1000000∧(0≤s.1→s.1+((((e.Kids.take j).map fun k=>ce k.E)).sum:Nat)≤left - 1 - (e.Words.length:Int) - (e.Ops.length:Int)))
    (fun s=>e.Kids.length - s.2.toNat) (fun r=>-1≤r∧r≤1000000∧(0≤r→r+((e.Kids.map fun k=>ce k.E).sum:Nat)≤left - 1 - (e.Words.length:Int) - (e.Ops.length:Int))) (fun s hI=>by
     obtain ⟨l,i⟩:=s
     obtain ⟨j,rfl,hj,g1,g2,g3⟩:=hI
     have hkl:=hb.k
     simp only at g1 g2 g3 ⊢
     unfold X3
     simp only
     by_cases hji:j < e.Kids.length
     ·rw [Vh hji,cond_true]
      by_cases hl:0≤l
      ·have e1:decide (0≤l)=true:=by simp [hl]
       have hx:e.Kids[j]? = some e.Kids[j]:=List.getElem?_eq_getElem hji
       have hm:e.Kids[j]∈e.Kids:=List.getElem_mem hji
       obtain ⟨r,q1,q2,q3,q4⟩:=Zt5 k e.Kids[j].E (d - 1) l (hb.ks _ hm) (by have:=Vy hm;omega) (by omega) (by omega) hl g2
       rw [e1,cond_true,Ya hx,Option.bind_some,Jq (x:=d - 1) (by omega) (by omega),q1,Option.bind_some,Jq (by omega) (by omega)]
       refine .inl ⟨_,rfl,⟨j+1,by simp only;omega,by omega,q2,q3,fun hr => ?_⟩,by simp only;omega⟩
       have:=q4 hr
       have:=g3 hl
       rw [List.take_add_one,hx]
       simp only [Option.toList_some,List.map_append,List.map_cons,List.map_nil,List.sum_append,List.sum_cons,List.sum_nil]
       simp only at hr
       omega
      have e1:decide (0≤l)=false:=by simp [hl]
      rw [e1,cond_false]
      exact .inr ⟨l,rfl,g1,g2,fun h=>absurd h hl⟩
     have hj':j=e.Kids.length:=by omega
     subst hj'
     rw [Zck,cond_false]
     rw [List.take_length] at g3
     exact .inr ⟨l,rfl,g1,g2,g3⟩) (z,0) ⟨0,rfl,Nat.zero_le _,z2,z3,fun h=>by simpa using z4 h⟩
   rw [h1,Option.bind_some]
   have inner:∀ (j:Nat) (hj:j < e.Ops.length) (l:Int),0≤l→l≤1000000→∃ r,Zw (J6 e (l,(j:Int))) (l,0)=some r∧-1≤r∧r≤1000000∧r≤l:=fun j hj l hl hl'=>by
    have hx:e.Ops[j]? = some e.Ops[j]:=List.getElem?_eq_getElem hj
    have hm:e.Ops[j]∈e.Ops:=List.getElem_mem hj
    have hL:=(hb.l _ hm).1
    obtain ⟨r,h1,h2⟩:=Zb9 (step:=J6 e (l,(j:Int)))
     (fun s=>∃ i:Nat,s.2=i∧i≤e.Ops[j].L.length∧-1≤s.1∧s.1≤1000000∧s.1≤l)
     (fun s=>e.Ops[j].L.length - s.2.toNat) (fun r=>-1≤r∧r≤1000000∧r≤l) (fun s hI=>by
      obtain ⟨l',i'⟩:=s
      obtain ⟨i,rfl,hi,g1,g2,g3⟩:=hI
      simp only at g1 g2 g3 ⊢
      unfold J6
      simp only
      rw [Ya hx,Option.bind_some,Option.bind_some]
      by_cases hii:i < e.Ops[j].L.length
      ·rw [Vh hii,cond_true]
       by_cases hl2:0≤l'
       ·have e1:decide (0≤l')=true:=by simp [hl2]
        have hx2:e.Ops[j].L[i]? = some e.Ops[j].L[i]:=List.getElem?_eq_getElem hii
        have hm2:e.Ops[j].L[i]∈e.Ops[j].L:=List.getElem_mem hii
        obtain ⟨r,q1,q2,q3,q4⟩:=Zuq ((hb.l _ hm).2 _ hm2) hl2 g2
        rw [e1,cond_true,Ya hx2,Option.bind_some,q1,Option.bind_some,Jq (by omega) (by omega)]
        refine .inl ⟨_,rfl,⟨i+1,by simp only;omega,by omega,q2,q3,?_⟩,by simp only;omega⟩
        simp only
        by_cases hr:0≤r
        ·have:=q4 hr;omega
        omega
       have e1:decide (0≤l')=false:=by simp [hl2]
       rw [e1,cond_false]
       exact .inr ⟨l',rfl,g1,g2,g3⟩
      have hi':i=e.Ops[j].L.length:=by omega
      subst hi'
      rw [Zck,cond_false]
      exact .inr ⟨l',rfl,g1,g2,g3⟩) (l,0) ⟨0,rfl,Nat.zero_le _,by simp only;omega,by simp only;omega,by simp only;omega⟩
    exact ⟨r,h1,h2⟩
   obtain ⟨r',h1',h2'⟩:=Zb9 (step:=X4 (Yh k) e d)
    (fun s=>∃ j:Nat,s.2=j∧j≤e.Ops.length∧-1≤s.1∧s.1≤1000000∧(0≤s.1→0≤r∧s.1+((((e.Ops.take j).map fun o=>ce o.E)).sum:Nat)≤r))
    (fun s=>e.Ops.length - s.2.toNat) (fun q=>-1≤q∧q≤1000000∧(0≤q→0≤r∧q+((e.Ops.map fun o=>ce o.E).sum:Nat)≤r)) (fun s hI=>by
     obtain ⟨l,i⟩:=s
     obtain ⟨j,rfl,hj,g1,g2,g3⟩:=hI
     simp only at g1 g2 g3 ⊢
     unfold X4
     simp only
     by_cases hji:j < e.Ops.length
     ·rw [Vh hji,cond_true]
      by_cases hl:0≤l
      ·have e1:decide (0≤l)=true:=by simp [hl]
       have hx:e.Ops[j]? = some e.Ops[j]:=List.getElem?_eq_getElem hji
       have hm:e.Ops[j]∈e.Ops:=List.getElem_mem hji
       obtain ⟨t,t1,t2,t3,t4⟩:=inner j hji l hl g2
       rw [e1,cond_true,t1,Option.bind_some,Jq (x:=(j:Int)+1) (by omega) (by omega)]
       by_cases ht:0≤t
       ·obtain ⟨r,q1,q2,q3,q4⟩:=Zt5 k e.Ops[j].E (d - 1) t (hb.os _ hm) (by have:=Gz hm;omega) (by omega) (by omega) ht t3
        rw [decide_eq_true ht,cond_true,Ya hx,Option.bind_some,Jq (x:=d - 1) (by omega) (by omega),q1]
        refine .inl ⟨_,rfl,⟨j+1,by simp only;omega,by omega,q2,q3,fun hr => ?_⟩,by simp only;omega⟩
        have:=q4 hr
        have:=g3 hl
        rw [List.take_add_one,hx]
        simp only [Option.toList_some,List.map_append,List.map_cons,List.map_nil,List.sum_append,List.sum_cons,List.sum_nil]
        simp only at hr
        omega
       rw [decide_eq_false ht]
       exact .inl ⟨_,rfl,⟨j+1,by simp only;omega,by omega,t2,t3,fun hr=>absurd hr ht⟩,by simp only;omega⟩
      have e1:decide (0≤l)=false:=by simp [hl]
      rw [e1,cond_false]
      exact .inr ⟨l,rfl,g1,g2,fun h=>absurd h hl⟩
     have hj':j=e.Ops.length:=by omega
     subst hj'
     rw [Zck,cond_false]
     rw [List.take_length] at g3
     exact .inr ⟨l,rfl,g1,g2,g3⟩) (r,0) ⟨0,rfl,Nat.zero_le _,h2.1,h2.2.1,fun h=>⟨h,by simp⟩⟩
   rw [h1']
   refine ⟨r',rfl,h2'.1,h2'.2.1,fun hr => ?_⟩
   have p1:=h2'.2.2 hr
   have p2:=h2.2.2 p1.1
   omega
theorem Zn7:∀ (k k':Nat) (e:Ed) (d left:Int),SizeOf.sizeOf e < k→SizeOf.sizeOf e < k'→Yh k e d left=Yh k' e d left
 | 0,_,e,_,_,h,_=>by omega
 | k+1,0,e,_,_,_,h=>by omega
 | k+1,k'+1,e,d,left,h,h'=>by
  show Qh (Yh k) e d left=Qh (Yh k') e d left
  have e1:X3 (Yh k) e d=X3 (Yh k') e d:=funext fun s=>by
   unfold X3
   cases hx:Xc e.Kids s.2 with
   | none=>rfl
   | some x=>simp only [Option.bind_some,Zn7 k k' x.E (IntKind.i64.wrap (d - 1)) s.1 (by have:=Vy (Zgf hx);omega) (by have:=Vy (Zgf hx);omega)]
  have e2:X4 (Yh k) e d=X4 (Yh k') e d:=funext fun s=>by
   unfold X4
   cases hx:Xc e.Ops s.2 with
   | none=>rfl
   | some x=>
    have:∀ z,Yh k x.E (IntKind.i64.wrap (d - 1)) z=Yh k' x.E (IntKind.i64.wrap (d - 1)) z:=fun z=>Zn7 k k' x.E _ z (by have:=Gz (Zgf hx);omega) (by have:=Gz (Zgf hx);omega)
    simp only [Option.bind_some,this]
  unfold Qh
  rw [e1,e2]
theorem Z4v {e:Ed} (h:BE e):∃ b,U2 e=some b∧(b=true→ce e≤3000):=by
 obtain ⟨r,h1,h2,h3,h4⟩:=Zt5 (SizeOf.sizeOf e+1) e 80 3000 h (by omega) (by omega) (by omega) (by omega) (by omega)
 have hr:Zb0 e 80 3000=some r:=Zcj (SizeOf.sizeOf e+1) fun k hk=>by rw [Zn7 k (SizeOf.sizeOf e+1) e 80 3000 (by omega) (by omega)];exact h1
 unfold U2
 rw [hr,Option.bind_some]
 refine ⟨_,rfl,fun hb => ?_⟩
 have:=h4 (by simpa using hb)
 have:0≤r:=by simpa using hb
 omega
theorem Z26 {e:Ed} (hb:BE e) {d:Nat} (h:rE e d=true):e.Ops.foldl stR (0,0)=e.Ops.foldl stI (0,0):=by
 have h0:Sm (0,0):=by unfold Sm;simp
 have hnil:Zgn e=true→e.Ops.foldl stR (0,0)=e.Ops.foldl stI (0,0):=fun h=>by
  unfold Zgn at h
  rw [Bool.and_eq_true,beq_iff_eq,beq_iff_eq] at h
  rw [List.eq_nil_of_length_eq_zero h.2]
  rfl
 rw [Zs7] at h
 split at h
 ·cases h
 split at h
 ·unfold Zfq at h
  simp only [Bool.and_eq_true] at h
  exact hnil h.2.2.2
 split at h
 ·simp only [Bool.and_eq_true] at h
  exact hnil h.1.2
 split at h
 ·simp only [Bool.and_eq_true] at h
  exact hnil h.1.2
 split at h
 ·simp only [Bool.and_eq_true] at h
  exact (Zsx (fun o=>rE o.E (d - 1)) e.Ops (0,0) h0 (List.all_eq_true.1 h.2.2.1) (fun o ho=>(hb.l o ho).1)).1
 cases h
theorem Zll {α:Type} {pl:α→Int} {ok:Int→α→Bool} {Q:α→Prop} (h:∀ p x,ok p x=true→Q x):∀ (xs:List α) (p:Int),chk pl ok p xs=true→∀ x∈xs,Q x
 | [],_,_=>fun x hx=>by cases hx
 | y::xs,p,hc=>fun x hx=>by
  rw [chk,Bool.and_eq_true] at hc
  rcases List.mem_cons.1 hx with rfl | hx
  ·exact h p _ hc.1
  exact Zll h xs (pl y) hc.2 x hx
abbrev EO:=S_api_Op
def Qr:Tr:=⟨0,[],[]⟩
structure NW where
 out:List EO
 gone:List Tr
 come:List Tr
def eS0:Ed:=⟨0,⟨0,[],[]⟩,⟨0,[],[]⟩,[],[],0,[]⟩
def Zqa (l:Int) (e:Ed):Bool:=e.Kind == 0 || (l == 9 && (e.Kind == 2 && (e.Words.length == 0 && e.Kids.length == 0)))
def Zkj (g:List Tr):List EO:=if g=[] then [] else [⟨1,0,g,eS0⟩]
def Zis (g:List Tr):List EO:=if g=[] then [] else [⟨2,0,g,eS0⟩]
def NW.flush (s:NW):List EO:=s.out++(Zkj s.gone++Zis s.come)
def Zb5 (out:List EO) (n:Int):List EO:=match out.getLast? with
 | some o=>if o.Kind=0 then out.dropLast++[⟨0,o.N+n,o.L,o.E⟩] else out++[⟨0,n,[],eS0⟩]
 | none=>[⟨0,n,[],eS0⟩]
def stN (l:Int) (s:NW) (p:EO×Ed):NW :=
 if p.1.Kind=1 then ⟨s.out,s.gone++p.1.L.map nrm,s.come⟩
 else if p.1.Kind=2 then ⟨s.out,s.gone,s.come++p.1.L.map nrm⟩
 else if p.1.Kind=0 then ⟨Zb5 s.flush p.1.N,[],[]⟩
 else if Zqa l p.2=true then ⟨Zb5 s.flush 1,[],[]⟩ else ⟨s.flush++[⟨3,0,[],p.2⟩],[],[]⟩
def s0N:NW:=⟨[],[],[]⟩
def Zoz (l:Int) (ps:List (EO×Ed)):List EO:=(ps.foldl (stN l) s0N).flush
def nE (e:Ed):Ed :=
 if e.Kind=1 then ⟨1,nrm e.Old,nrm e.New,[],[],0,[]⟩
 else if e.Kind=2 then ⟨2,Qr,Qr,e.Words,e.Kids.attach.map fun k=>⟨k.1.At,nE k.1.E⟩,0,[]⟩
 else if e.Kind=3 then ⟨3,Qr,Qr,[],[],e.List_,Zoz e.List_ (e.Ops.attach.map fun o=>(o.1,nE o.1.E))⟩
 else eS0
termination_by SizeOf.sizeOf e
decreasing_by
 ·exact Vy k.2
 exact Gz o.2
def Ut (l:List EO):List (EO×Ed):=l.map fun o=>(o,nE o.E)
theorem Zoq (e:Ed):nE e=if e.Kind=1 then ⟨1,nrm e.Old,nrm e.New,[],[],0,[]⟩
 else if e.Kind=2 then ⟨2,Qr,Qr,e.Words,e.Kids.map fun k=>⟨k.At,nE k.E⟩,0,[]⟩
 else if e.Kind=3 then ⟨3,Qr,Qr,[],[],e.List_,Zoz e.List_ (Ut e.Ops)⟩
 else eS0:=by
 have h1:(e.Kids.attach.map fun k=>(⟨k.1.At,nE k.1.E⟩:S_api_KidEdit))=e.Kids.map fun k=>⟨k.At,nE k.E⟩:=List.attach_map_val (f:=fun k:S_api_KidEdit=>(⟨k.At,nE k.E⟩:S_api_KidEdit))
 have h2:(e.Ops.attach.map fun o=>((o.1,nE o.1.E):EO×Ed))=Ut e.Ops:=List.attach_map_val (f:=fun o:EO=>((o,nE o.E):EO×Ed))
 rw [nE,h1,h2]
theorem Zbi (o':List EO) (k n:Int) (L:List Tr) (E:Ed):Zb5 (o'++[⟨0,k,L,E⟩]) n=o'++[⟨0,k+n,L,E⟩]:=by
 unfold Zb5
 simp
theorem Zev {out:List EO} {n:Int} (h:∀ o,out.getLast? = some o→o.Kind≠0):Zb5 out n=out++[⟨0,n,[],eS0⟩]:=by
 unfold Zb5
 cases hl:out.getLast? with
 | none=>rw [List.getLast?_eq_none_iff.1 hl];rfl
 | some o=>simp only [if_neg (h o hl)]
theorem Z05:Zis []=[]:=rfl
theorem Zkb {g:List Tr} (h:g≠[]):Zkj g=[⟨1,0,g,eS0⟩]:=if_neg h
theorem Zkd {g:List Tr} (h:g≠[]):Zis g=[⟨2,0,g,eS0⟩]:=if_neg h
theorem Z0x {a b:List Tr} {o:EO} (h:(Zkj a++Zis b).getLast? = some o):o.Kind=1∨o.Kind=2:=by
 by_cases hb:b=[]
 ·subst hb
  by_cases ha:a=[]
  ·subst ha;simp [Zkj,Zis] at h
  rw [Zkb ha,Z05] at h;simp at h;subst h;exact .inl rfl
 rw [Zkd hb] at h
 simp at h
 subst h
 exact .inr rfl
theorem Z2v {a b:List Tr} (h:Zkj a++Zis b=[]):a=[]∧b=[]:=by
 rw [List.append_eq_nil_iff] at h
 refine ⟨?_,?_⟩
 ·by_cases ha:a=[]
  ·exact ha
  rw [Zkb ha] at h;simp at h
 by_cases hb:b=[]
 ·exact hb
 rw [Zkd hb] at h;simp at h
theorem Zp0 {s:NW} {o:EO} (h:s.flush.getLast? = some o):(o.Kind=1∨o.Kind=2)∨(s.gone=[]∧s.come=[]∧s.out.getLast? = some o):=by
 unfold NW.flush at h
 by_cases hD:Zkj s.gone++Zis s.come=[]
 ·obtain ⟨h1,h2⟩:=Z2v hD
  rw [hD,List.append_nil] at h
  exact .inr ⟨h1,h2,h⟩
 rw [List.getLast?_append] at h
 cases hq:(Zkj s.gone++Zis s.come).getLast? with
 | none=>exact absurd (List.getLast?_eq_none_iff.1 hq) hD
 | some x =>
  rw [hq] at h
  injection h with h
  subst h
  exact .inl (Z0x hq)
structure NInv (l:Int) (s:NW):Prop where
 again:(Ut s.out).foldl (stN l) s0N=⟨s.out,[],[]⟩
 last:∀ o' o,s.out=o'++[o]→o.Kind=0→o.L=[]∧o.E=eS0∧(∀ x,o'.getLast? = some x→x.Kind≠0)∧((Ut o').foldl (stN l) s0N).flush=o'
 gone:s.gone.map nrm=s.gone
 come:s.come.map nrm=s.come
theorem Gx (a b:List EO):Ut (a++b)=Ut a++Ut b:=by simp [Ut]
theorem Zmu {l:Int} {s:NW} {n:Int} {L:List Tr} {E r:Ed}:stN l s (⟨0,n,L,E⟩,r)=⟨Zb5 s.flush n,[],[]⟩:=by
 unfold stN
 simp
theorem Zkc {l:Int} {s:NW} (h:NInv l s):(Ut s.flush).foldl (stN l) s0N=s:=by
 unfold NW.flush
 rw [Gx,List.foldl_append,h.again,Gx,List.foldl_append]
 have e1:(Ut (Zkj s.gone)).foldl (stN l) ⟨s.out,[],[]⟩=⟨s.out,s.gone,[]⟩:=by
  by_cases hg:s.gone=[]
  ·rw [hg];rfl
  rw [Zkb hg];simp [Ut,stN,h.gone]
 have e2:(Ut (Zis s.come)).foldl (stN l) ⟨s.out,s.gone,[]⟩=⟨s.out,s.gone,s.come⟩:=by
  by_cases hg:s.come=[]
  ·rw [hg];rfl
  rw [Zkd hg];simp [Ut,stN,h.come]
 rw [e1,e2]
theorem Zq0 {α:Type} {a b:List α} {x y:α} (h:a++[x]=b++[y]):a=b∧x=y:=by
 have:=List.append_inj' h rfl
 exact ⟨this.1,by simpa using this.2⟩
theorem NInv.keep {l:Int} {s:NW} (h:NInv l s) (n:Int):NInv l ⟨Zb5 s.flush n,[],[]⟩:=by
 by_cases hk:∃ o,s.flush.getLast? = some o∧o.Kind=0
 ·obtain ⟨o,ho,hk0⟩:=hk
  rcases Zp0 ho with h12 | ⟨g1,g2,g3⟩
  ·omega
  have hfl:s.flush=s.out:=by unfold NW.flush;rw [g1,g2];simp [Zkj,Zis]
  obtain ⟨o',ho'⟩:=List.getLast?_eq_some_iff.1 g3
  obtain ⟨a1,a2,a3,a4⟩:=h.last o' o ho' hk0
  obtain ⟨k,N,L,E⟩:=o
  simp only at hk0 a1 a2
  subst hk0 a1 a2
  rw [hfl,ho',Zbi]
  have key:∀ N':Int,(Ut (o'++[⟨0,N',[],eS0⟩])).foldl (stN l) s0N=⟨o'++[⟨0,N',[],eS0⟩],[],[]⟩:=fun N'=>by
   rw [Gx,List.foldl_append]
   show stN l _ (⟨0,N',[],eS0⟩,nE eS0)=_
   rw [Zmu,a4,Zev a3]
  refine ⟨key _,fun o1 o2 he hk2 => ?_,rfl,rfl⟩
  obtain ⟨e1,e2⟩:=Zq0 he
  subst e1 e2
  exact ⟨rfl,rfl,a3,a4⟩
 have hk':∀ o,s.flush.getLast? = some o→o.Kind≠0:=fun o ho h0=>hk ⟨o,ho,h0⟩
 rw [Zev hk']
 refine ⟨?_,fun o1 o2 he hk2 => ?_,rfl,rfl⟩
 ·rw [Gx,List.foldl_append,Zkc h]
  show stN l _ (⟨0,n,[],eS0⟩,nE eS0)=_
  rw [Zmu,Zev hk']
 simp only at he
 obtain ⟨e1,e2⟩:=Zq0 he
 subst e1 e2
 exact ⟨rfl,rfl,hk',by rw [Zkc h]⟩
theorem NInv.step {l:Int} {s:NW} (h:NInv l s) {p:EO×Ed} (hp:nE p.2=p.2):NInv l (stN l s p):=by
 unfold stN
 split
 ·exact ⟨h.again,h.last,by simp only [List.map_append,h.gone,List.map_map];congr 1;exact List.map_congr_left fun x _=>Zpa x,h.come⟩
 split
 ·exact ⟨h.again,h.last,h.gone,by simp only [List.map_append,h.come,List.map_map];congr 1;exact List.map_congr_left fun x _=>Zpa x⟩
 split
 ·exact h.keep _
 split
 ·exact h.keep _
 rename_i h1 h2 h0 hi
 refine ⟨?_,fun o1 o2 he hk2 => ?_,rfl,rfl⟩
 ·simp only
  rw [Gx,List.foldl_append,Zkc h]
  show stN l s (⟨3,0,[],p.2⟩,nE p.2)=_
  rw [hp]
  unfold stN
  simp only [show ¬ (3:Int)=1 from by decide,show ¬ (3:Int)=2 from by decide,show ¬ (3:Int)=0 from by decide,if_false]
  rw [if_neg hi]
 simp only at he
 obtain ⟨_,e2⟩:=Zq0 he
 subst e2
 simp at hk2
theorem Zs3 {l:Int}:∀ (ps:List (EO×Ed)) (s:NW),NInv l s→(∀ p∈ps,nE p.2=p.2)→NInv l (ps.foldl (stN l) s)
 | [],_,h,_=>h
 | p::ps,s,h,hp=>Zs3 ps _ (h.step (hp p (by simp))) fun q hq=>hp q (by simp [hq])
theorem Zxy {l:Int} {ps:List (EO×Ed)} (hp:∀ p∈ps,nE p.2=p.2):Zoz l (Ut (Zoz l ps))=Zoz l ps:=by
 have h:=Zs3 ps s0N (l:=l) ⟨rfl,fun o' o he=>by simp [s0N] at he,rfl,rfl⟩ hp
 unfold Zoz
 rw [Zkc h]
theorem Zua:∀ (n:Nat) (e:Ed),SizeOf.sizeOf e < n→nE (nE e)=nE e
 | 0,_,h=>by omega
 | n+1,e,h=>by
  rw [Zoq e]
  by_cases h1:e.Kind=1
  ·rw [if_pos h1,Zoq]
   simp [Zpa]
  rw [if_neg h1]
  by_cases h2:e.Kind=2
  ·rw [if_pos h2,Zoq]
   simp only [show ¬ (2:Int)=1 from by decide,if_false,if_true,List.map_map]
   congr 1
   refine List.map_congr_left fun k hk => ?_
   simp only [Function.comp]
   rw [Zua n k.E (by have:=Vy hk;omega)]
  rw [if_neg h2]
  by_cases h3:e.Kind=3
  ·rw [if_pos h3,Zoq]
   simp only [show ¬ (3:Int)=1 from by decide,show ¬ (3:Int)=2 from by decide,if_false,if_true]
   rw [Zxy fun p hp => ?_]
   obtain ⟨o,ho,rfl⟩:=List.mem_map.1 hp
   exact Zua n o.E (by have:=Gz ho;omega)
  rw [if_neg h3,Zoq]
  simp [eS0]
theorem Z4z (e:Ed):nE (nE e)=nE e:=Zua _ e (Nat.lt_succ_self _)
def thN (o:EO):Nat:=if o.Kind=0 then o.N.toNat else if o.Kind=3 then 1 else o.L.length
def opk (o:EO):Prop:=(o.Kind=0∧1≤o.N)∨(o.Kind=1∧o.L≠[])∨(o.Kind=2∧o.L≠[])∨o.Kind=3
def K4 (l:List EO):Nat:=(l.map thN).sum
theorem Zz6 (out:List EO) (n:Int):(Zb5 out n).length≤out.length+1:=by
 unfold Zb5
 split
 ·split <;> simp
 simp
inductive GN:Ed→Prop
 | mk (e:Ed) (hw:e.Words.length≤1048576) (hk:e.Kids.length≤1048576) (ho:e.Ops.length≤1048576) (hs:K4 e.Ops≤1073741824) (hp:∀ o∈e.Ops,opk o) (ik:∀ k∈e.Kids,GN k.E) (io:∀ o∈e.Ops,GN o.E):GN e
theorem GN.w {e:Ed} (h:GN e):e.Words.length≤1048576:=by cases h;assumption
theorem GN.k {e:Ed} (h:GN e):e.Kids.length≤1048576:=by cases h;assumption
theorem GN.o {e:Ed} (h:GN e):e.Ops.length≤1048576:=by cases h;assumption
theorem GN.s {e:Ed} (h:GN e):K4 e.Ops≤1073741824:=by cases h;assumption
theorem GN.p {e:Ed} (h:GN e):∀ o∈e.Ops,opk o:=by cases h;assumption
theorem GN.ks {e:Ed} (h:GN e):∀ k∈e.Kids,GN k.E:=by cases h;assumption
theorem GN.os {e:Ed} (h:GN e):∀ o∈e.Ops,GN o.E:=by cases h;assumption
theorem Z2x {e:Ed} (h:Zfq e=true):GN e:=by
 unfold Zfq Zhm Zgn at h
 simp only [Bool.and_eq_true,beq_iff_eq] at h
 obtain ⟨_,_,⟨h1,h2⟩,_,h3⟩:=h
 have w:=List.eq_nil_of_length_eq_zero h1
 have k:=List.eq_nil_of_length_eq_zero h2
 have o:=List.eq_nil_of_length_eq_zero h3
 exact .mk _ (by rw [w];simp) (by rw [k];simp) (by rw [o];simp) (by rw [o];simp [K4]) (by rw [o];simp) (by rw [k];simp) (by rw [o];simp)
theorem Zys:GN eS0 := .mk _ (by simp [eS0]) (by simp [eS0]) (by simp [eS0]) (by simp [eS0,K4]) (by simp [eS0]) (by simp [eS0]) (by simp [eS0])
theorem Zff:Bd Qr := .mk _ (by simp [Qr]) (by simp [Qr]) (by simp [Qr]) (by simp [Qr])
theorem Zyk:BE eS0 := .mk _ Zff Zff (by simp [eS0]) (by simp [eS0]) (by simp [eS0]) (by simp [eS0]) (by simp [eS0]) (by simp [eS0]) (by simp [eS0])
theorem Z3j {l:Int} {o:EO} {r:Bool} (h:okO l o r=true):((thN o:Nat):Int)=thr o:=by
 unfold okO at h
 unfold thN thr
 by_cases h0:o.Kind=0
 ·rw [if_pos h0] at h
  simp only [Bool.and_eq_true,decide_eq_true_eq] at h
  rw [if_pos h0,if_pos h0]
  split <;> split at * <;> omega
 rw [if_neg h0] at h ⊢
 rw [if_neg h0]
 by_cases h12:o.Kind=1∨o.Kind=2
 ·rw [if_pos h12,if_neg (by omega)]
 rw [if_neg h12] at h ⊢
 by_cases h3:o.Kind=3
 ·rw [if_pos h3,if_pos h3];rfl
 rw [if_neg h3] at h;cases h
theorem Zy5 {l:Int} {o:EO} {r:Bool} (h:okO l o r=true):opk o:=by
 unfold okO at h
 unfold opk
 by_cases h0:o.Kind=0
 ·rw [if_pos h0] at h
  simp only [Bool.and_eq_true,decide_eq_true_eq] at h
  exact .inl ⟨h0,h.1.1⟩
 rw [if_neg h0] at h
 by_cases h12:o.Kind=1∨o.Kind=2
 ·rw [if_pos h12] at h
  simp only [Bool.and_eq_true,decide_eq_true_eq] at h
  have hne:o.L≠[]:=by
   intro he
   rw [he] at h
   simp at h
  rcases h12 with h1 | h2
  ·exact .inr (.inl ⟨h1,hne⟩)
  exact .inr (.inr (.inl ⟨h2,hne⟩))
 rw [if_neg h12] at h
 by_cases h3:o.Kind=3
 ·exact .inr (.inr (.inr h3))
 rw [if_neg h3] at h;cases h
theorem Zv5 {l:Int} (r:EO→Bool):∀ (os:List EO) (s:Int×Int),Sm s→(∀ o∈os,okO l o (r o)=true)→(∀ o∈os,o.L.length * 56≤140737488355328)→Zs1 (os.foldl stI s)=true→s.1+s.2+((K4 os:Nat):Int)≤(os.foldl stI s).1+(os.foldl stI s).2
 | [],s,_,_,_,_=>by simp [K4]
 | o::os,s,hs,h,hl,hb=>by
  have hsm:=Zx8 hs (hl o (.head _))
  have hup:=Zyq os (stI s o) hsm (fun x hx=>hl x (.tail _ hx))
  have ih:=Zv5 r os (stI s o) hsm (fun x hx=>h x (.tail _ hx)) (fun x hx=>hl x (.tail _ hx)) hb
  have hso:K4 (o::os)=thN o+K4 os:=by unfold K4;simp
  have ht:=Z3j (h o (.head _))
  rw [List.foldl_cons] at hb ⊢
  unfold Zs1 at hb
  rw [Bool.and_eq_true,decide_eq_true_eq,decide_eq_true_eq] at hb
  have n1:(stI s o).1≠1048576:=fun he=>by have:=hup.1 he;omega
  have n2:(stI s o).2≠1048576:=fun he=>by have:=hup.2 he;omega
  have key:s.1+s.2+thr o≤(stI s o).1+(stI s o).2:=by
   have hth:0≤thr o:=by omega
   unfold stI Zn0 at n1 n2 ⊢
   simp only at n1 n2 ⊢
   by_cases k2:o.Kind=2
   ·rw [if_neg (by omega:¬ o.Kind=1)] at n2 ⊢
    rw [if_pos k2]
    split at n2
    ·omega
    rename_i h5;rw [if_neg h5];omega
   rw [if_neg k2] at n1 ⊢
   split at n1
   ·omega
   rename_i h5
   rw [if_neg h5]
   by_cases k1:o.Kind=1
   ·rw [if_pos k1];omega
   rw [if_neg k1] at n2 ⊢
   split at n2
   ·omega
   rename_i h6;rw [if_neg h6];omega
  rw [hso]
  omega
theorem Zit {α:Type} {f:α→Nat} {x:α}:∀ {l:List α},x∈l→f x≤(l.map f).sum
 | y::l,h=>by
  rw [List.map_cons,List.sum_cons]
  rcases List.mem_cons.1 h with rfl | h
  ·omega
  have:=Zit (f:=f) h;omega
theorem Zgk {α:Type} {f:α→Nat}:∀ {l:List α},(∀ x∈l,1≤f x)→l.length≤(l.map f).sum
 | [],_=>Nat.le_refl _
 | y::l,h=>by
  rw [List.map_cons,List.sum_cons,List.length_cons]
  have:=Zgk (f:=f) (l:=l) fun x hx=>h x (by simp [hx])
  have:=h y (by simp)
  omega
theorem Z34 (e:Ed):1≤ce e:=by rw [Z0p];omega
theorem Z0y:∀ (n:Nat) (e:Ed) (d:Nat),SizeOf.sizeOf e < n→BE e→ce e≤1000000→rE e d=true→GN e
 | 0,_,_,h,_,_,_=>by omega
 | n+1,e,d,hn,hb,hc,h=>by
  have hc':=hc
  rw [Z0p] at hc'
  have hk1:e.Kids.length≤(e.Kids.map fun k=>ce k.E).sum:=Zgk fun x _=>Z34 _
  have hlens:=Z26 hb h
  have hparts:(∀ k∈e.Kids,∃ d',rE k.E d'=true)∧(∀ o∈e.Ops,opk o∧(Zfq o.E=true∨∃ d',rE o.E d'=true))∧K4 e.Ops≤2097152:=by
   rw [Zs7] at h
   by_cases hd:d=0
   ·rw [if_pos hd] at h;cases h
   rw [if_neg hd] at h
   by_cases h0:e.Kind=0
   ·rw [if_pos h0] at h
    unfold Zfq Zhm Zgn at h
    simp only [Bool.and_eq_true,beq_iff_eq] at h
    obtain ⟨_,_,⟨h1,h2⟩,_,h3⟩:=h
    rw [List.eq_nil_of_length_eq_zero h2,List.eq_nil_of_length_eq_zero h3]
    simp [K4]
   rw [if_neg h0] at h
   by_cases h1:e.Kind=1
   ·rw [if_pos h1] at h
    unfold Zhm Zgn at h
    simp only [Bool.and_eq_true,beq_iff_eq] at h
    rw [List.eq_nil_of_length_eq_zero h.1.1.2,List.eq_nil_of_length_eq_zero h.1.2.2]
    simp [K4]
   rw [if_neg h1] at h
   by_cases h2:e.Kind=2
   ·rw [if_pos h2] at h
    unfold Zgn at h
    simp only [Bool.and_eq_true,beq_iff_eq] at h
    rw [List.eq_nil_of_length_eq_zero h.1.2.2]
    refine ⟨fun k hk=>⟨d - 1,?_⟩,by simp,by simp [K4]⟩
    exact Zll (Q:=fun k:S_api_KidEdit=>rE k.E (d - 1)=true) (fun p x hx=>by
     unfold okK okP at hx
     simp only [Bool.and_eq_true] at hx
     exact hx.2.2) e.Kids (-1) h.2.2 k hk
   rw [if_neg h2] at h
   by_cases h3:e.Kind=3
   ·rw [if_pos h3] at h
    unfold Zhm at h
    rw [Bool.and_eq_true,Bool.and_eq_true,Bool.and_eq_true,Bool.and_eq_true,Bool.and_eq_true,Bool.and_eq_true,beq_iff_eq,beq_iff_eq,List.all_eq_true] at h
    obtain ⟨⟨_,_,hk⟩,_,hall,hB⟩:=h
    rw [List.eq_nil_of_length_eq_zero hk]
    refine ⟨by simp,fun o ho=>⟨Zy5 (hall o ho),?_⟩,?_⟩
    ·have:=hall o ho
     unfold okO at this
     by_cases k0:o.Kind=0
     ·rw [if_pos k0] at this
      simp only [Bool.and_eq_true] at this
      exact .inl this.2.2
     rw [if_neg k0] at this
     by_cases k12:o.Kind=1∨o.Kind=2
     ·rw [if_pos k12] at this
      simp only [Bool.and_eq_true] at this
      exact .inl this.2.2.2
     rw [if_neg k12] at this
     by_cases k3:o.Kind=3
     ·rw [if_pos k3] at this
      simp only [Bool.and_eq_true] at this
      exact .inr ⟨d - 1,this.2.2.2.2⟩
     rw [if_neg k3] at this;cases this
    rw [hlens] at hB
    have:=Zv5 (l:=e.List_) (fun o=>rE o.E (d - 1)) e.Ops (0,0) ⟨⟨by decide,by decide⟩,by decide,by decide⟩ hall (fun o ho=>(hb.l o ho).1) hB
    unfold Zs1 at hB
    rw [Bool.and_eq_true,decide_eq_true_eq,decide_eq_true_eq] at hB
    simp only at this
    omega
   rw [if_neg h3] at h;cases h
  refine .mk _ (by omega) (by omega) (by omega) (by omega) (fun o ho=>(hparts.2.1 o ho).1) (fun k hk => ?_) (fun o ho => ?_)
  ·obtain ⟨d',hd'⟩:=hparts.1 k hk
   have:=Zit (f:=fun k:S_api_KidEdit=>ce k.E) hk
   exact Z0y n k.E d' (by have:=Vy hk;omega) (hb.ks k hk) (by omega) hd'
  rcases (hparts.2.1 o ho).2 with hs | ⟨d',hd'⟩
  ·exact Z2x hs
  have:=Zit (f:=fun o:S_api_Op=>ce o.E) ho
  exact Z0y n o.E d' (by have:=Gz ho;omega) (hb.os o ho) (by omega) hd'
def OQ (S:Nat) (o:EO):Prop:=opk o∧o.L.length≤S∧(∀ t∈o.L,Bd t)∧BE o.E∧GN o.E
structure OB (s:NW) (i S:Nat):Prop where
 out:∀ o∈s.out,OQ S o
 gone:∀ t∈s.gone,Bd t
 come:∀ t∈s.come,Bd t
 cnt:s.flush.length≤i
 sum:K4 s.flush≤S
theorem OQ.mono {S S':Nat} {o:EO} (h:OQ S o) (hS:S≤S'):OQ S' o:=⟨h.1,Nat.le_trans h.2.1 hS,h.2.2⟩
theorem Zg2 (a b:List EO):K4 (a++b)=K4 a+K4 b:=by unfold K4;rw [List.map_append,List.sum_append]
theorem Z18 (g:List Tr):K4 (Zkj g)=g.length:=by
 by_cases h:g=[]
 ·subst h;rfl
 rw [Zkb h];simp [K4,thN]
theorem Z19 (g:List Tr):K4 (Zis g)=g.length:=by
 by_cases h:g=[]
 ·subst h;rfl
 rw [Zkd h];simp [K4,thN]
theorem Zle (s:NW):K4 s.flush=K4 s.out+(s.gone.length+s.come.length):=by
 unfold NW.flush
 rw [Zg2,Zg2,Z18,Z19]
theorem OB.fl {s:NW} {i S:Nat} (h:OB s i S):∀ o∈s.flush,OQ S o:=fun o ho=>by
 have hs:=h.sum
 rw [Zle] at hs
 unfold NW.flush at ho
 rw [List.mem_append,List.mem_append] at ho
 rcases ho with ho | ho | ho
 ·exact h.out o ho
 ·by_cases hg:s.gone=[]
  ·rw [hg] at ho;simp [Zkj] at ho
  rw [Zkb hg,List.mem_singleton] at ho
  subst ho
  exact ⟨.inr (.inl ⟨rfl,hg⟩),by simp only;omega,h.gone,Zyk,Zys⟩
 by_cases hg:s.come=[]
 ·rw [hg] at ho;simp [Zis] at ho
 rw [Zkd hg,List.mem_singleton] at ho
 subst ho
 exact ⟨.inr (.inr (.inl ⟨rfl,hg⟩)),by simp only;omega,h.come,Zyk,Zys⟩
theorem Z1q {F:List EO} {S:Nat} {n:Int} (hn:1≤n) (hF:∀ o∈F,OQ S o):(∀ o∈Zb5 F n,OQ S o)∧K4 (Zb5 F n)=K4 F+n.toNat:=by
 have hq:OQ S (⟨0,n,[],eS0⟩:EO):=⟨.inl ⟨rfl,hn⟩,Nat.zero_le _,by simp,Zyk,Zys⟩
 by_cases hk:∃ o,F.getLast? = some o∧o.Kind=0
 ·obtain ⟨o,ho,hk0⟩:=hk
  obtain ⟨o',ho'⟩:=List.getLast?_eq_some_iff.1 ho
  subst ho'
  have hoq:=hF o (by simp)
  obtain ⟨k,N,L,E⟩:=o
  simp only at hk0
  subst hk0
  have hN:1≤N:=by
   rcases hoq.1 with ⟨_,h⟩ | ⟨h,_⟩ | ⟨h,_⟩ | h
   ·exact h
   ·simp at h
   ·simp at h
   simp at h
  rw [Zbi]
  refine ⟨fun x hx => ?_,?_⟩
  ·rcases List.mem_append.1 hx with hx | hx
   ·exact hF x (by simp [hx])
   rw [List.mem_singleton.1 hx]
   exact ⟨.inl ⟨rfl,by simp only;omega⟩,hoq.2⟩
  rw [Zg2,Zg2]
  simp only [K4,List.map_cons,List.map_nil,List.sum_cons,List.sum_nil,thN,if_true]
  omega
 rw [Zev fun o ho h0=>hk ⟨o,ho,h0⟩]
 refine ⟨fun x hx => ?_,?_⟩
 ·rcases List.mem_append.1 hx with hx | hx
  ·exact hF x hx
  rw [List.mem_singleton.1 hx];exact hq
 rw [Zg2]
 simp [K4,thN]
theorem Zc0 (out:List EO):(⟨out,[],[]⟩:NW).flush=out:=by unfold NW.flush;simp [Zkj,Zis]
theorem Z0s (g:List Tr):(Zkj g).length≤1:=by unfold Zkj;split <;> simp
theorem Z04 (g:List Tr):(Zis g).length≤1:=by unfold Zis;split <;> simp
theorem OB.step {s:NW} {i S:Nat} (h:OB s i S) {l:Int} {p:EO×Ed} (hp:opk p.1) (hL:∀ t∈p.1.L,Bd t) (hb:BE p.2) (hg:GN p.2):OB (stN l s p) (i+1) (S+thN p.1):=by
 have hfs:=h.sum
 have hfc:=h.cnt
 have hpush:∀ n:Int,1≤n→n.toNat≤thN p.1→OB ⟨Zb5 s.flush n,[],[]⟩ (i+1) (S+thN p.1):=fun n hn hnt=>by
  obtain ⟨q1,q2⟩:=Z1q hn h.fl
  have ql:=Zz6 s.flush n
  refine ⟨fun o ho=>(q1 o ho).mono (by omega),by simp,by simp,?_,?_⟩
  ·rw [Zc0];omega
  rw [Zc0,q2];omega
 unfold stN
 by_cases k1:p.1.Kind=1
 ·have ht:thN p.1=p.1.L.length:=by unfold thN;rw [if_neg (by omega),if_neg (by omega)]
  rw [if_pos k1,ht]
  refine ⟨fun o ho=>(h.out o ho).mono (by omega),fun t ht => ?_,h.come,?_,?_⟩
  ·rcases List.mem_append.1 ht with ht | ht
   ·exact h.gone t ht
   obtain ⟨x,hx,rfl⟩:=List.mem_map.1 ht
   exact (hL x hx).nrm
  ·unfold NW.flush at hfc ⊢
   have:=Z0s (s.gone++p.1.L.map nrm)
   simp only [List.length_append] at hfc ⊢
   omega
  rw [Zle] at hfs ⊢
  simp only [List.length_append,List.length_map]
  omega
 rw [if_neg k1]
 by_cases k2:p.1.Kind=2
 ·have ht:thN p.1=p.1.L.length:=by unfold thN;rw [if_neg (by omega),if_neg (by omega)]
  rw [if_pos k2,ht]
  refine ⟨fun o ho=>(h.out o ho).mono (by omega),h.gone,fun t ht => ?_,?_,?_⟩
  ·rcases List.mem_append.1 ht with ht | ht
   ·exact h.come t ht
   obtain ⟨x,hx,rfl⟩:=List.mem_map.1 ht
   exact (hL x hx).nrm
  ·unfold NW.flush at hfc ⊢
   have:=Z04 (s.come++p.1.L.map nrm)
   simp only [List.length_append] at hfc ⊢
   omega
  rw [Zle] at hfs ⊢
  simp only [List.length_append,List.length_map]
  omega
 rw [if_neg k2]
 by_cases k0:p.1.Kind=0
 ·rw [if_pos k0]
  have hN:1≤p.1.N:=by
   rcases hp with ⟨_,h⟩ | ⟨h,_⟩ | ⟨h,_⟩ | h
   ·exact h
   ·omega
   ·omega
   omega
  exact hpush _ hN (by unfold thN;rw [if_pos k0];exact Nat.le_refl _)
 rw [if_neg k0]
 have k3:p.1.Kind=3:=by
  rcases hp with ⟨h,_⟩ | ⟨h,_⟩ | ⟨h,_⟩ | h
  ·omega
  ·omega
  ·omega
  exact h
 have ht:thN p.1=1:=by unfold thN;rw [if_neg k0,if_pos k3]
 split
 ·exact hpush 1 (by omega) (by omega)
 refine ⟨fun o ho => ?_,by simp,by simp,?_,?_⟩
 ·rcases List.mem_append.1 ho with ho | ho
  ·exact (h.fl o ho).mono (by omega)
  rw [List.mem_singleton.1 ho]
  exact ⟨.inr (.inr (.inr rfl)),Nat.zero_le _,by simp,hb,hg⟩
 ·rw [Zc0,List.length_append];simp;omega
 rw [Zc0,Zg2,ht]
 have:K4 [(⟨3,0,[],p.2⟩:EO)]=1:=by simp [K4,thN]
 omega
theorem Zy2 {l:Int}:∀ (os:List EO) (s:NW) (i S:Nat),OB s i S→(∀ o∈os,opk o∧(∀ t∈o.L,Bd t)∧BE (nE o.E)∧GN (nE o.E))→OB ((Ut os).foldl (stN l) s) (i+os.length) (S+K4 os)
 | [],s,i,S,h,_=>by simpa [Ut,K4] using h
 | o::os,s,i,S,h,hq=>by
  obtain ⟨q1,q2,q3,q4⟩:=hq o (by simp)
  have:=Zy2 (l:=l) os _ _ _ (h.step (l:=l) (p:=(o,nE o.E)) q1 q2 q3 q4) fun x hx=>hq x (by simp [hx])
  have e1:i+1+os.length=i+(o::os).length:=by simp;omega
  have e2:S+thN o+K4 os=S+K4 (o::os):=by unfold K4;simp;omega
  rw [e1,e2] at this
  exact this
theorem Zo8:∀ (n:Nat) (e:Ed),SizeOf.sizeOf e < n→BE e→GN e→BE (nE e)∧GN (nE e)
 | 0,_,h,_,_=>by omega
 | n+1,e,hn,hb,hg=>by
  have ik:∀ k∈e.Kids,BE (nE k.E)∧GN (nE k.E):=fun k hk=>Zo8 n k.E (by have:=Vy hk;omega) (hb.ks k hk) (hg.ks k hk)
  have io:∀ o∈e.Ops,BE (nE o.E)∧GN (nE o.E):=fun o ho=>Zo8 n o.E (by have:=Gz ho;omega) (hb.os o ho) (hg.os o ho)
  have hw:=hg.w
  have hk:=hg.k
  rw [Zoq]
  by_cases h1:e.Kind=1
  ·rw [if_pos h1]
   exact ⟨.mk _ hb.old.nrm hb.new.nrm (by simp) (by simp) (by simp) (by simp) (by simp) (by simp) (by simp),.mk _ (by simp) (by simp) (by simp) (by simp [K4]) (by simp) (by simp) (by simp)⟩
  rw [if_neg h1]
  by_cases h2:e.Kind=2
  ·rw [if_pos h2]
   refine ⟨.mk _ Zff Zff hb.w hb.ws (by simp only [List.length_map];omega) (fun k hk => ?_) (by simp) (by simp) (by simp),.mk _ hg.w (by simp only [List.length_map];omega) (by simp) (by simp [K4]) (by simp) (fun k hk => ?_) (by simp)⟩
   ·obtain ⟨x,hx,rfl⟩:=List.mem_map.1 hk
    exact (ik x hx).1
   obtain ⟨x,hx,rfl⟩:=List.mem_map.1 hk
   exact (ik x hx).2
  rw [if_neg h2]
  by_cases h3:e.Kind=3
  ·rw [if_pos h3]
   have hob:=Zy2 (l:=e.List_) e.Ops s0N 0 0 ⟨by simp [s0N],by simp [s0N],by simp [s0N],Nat.le_refl _,Nat.le_refl _⟩ fun o ho=>⟨hg.p o ho,(hb.l o ho).2,(io o ho).1,(io o ho).2⟩
   have h5:=hob.cnt
   have h6:=hob.sum
   have h7:=hg.o
   have h8:=hg.s
   have hall:=hob.fl
   refine ⟨.mk _ Zff Zff (by simp) (by simp) (by simp) (by simp) ?_ (fun o ho => ?_) (fun o ho=>(hall o ho).2.2.2.1),.mk _ (by simp) (by simp) ?_ ?_ (fun o ho=>(hall o ho).1) (by simp) (fun o ho=>(hall o ho).2.2.2.2)⟩
   ·show ((Zoz e.List_ (Ut e.Ops)).length:Int)≤_
    unfold Zoz
    omega
   ·have:=(hall o ho).2.1
    exact ⟨by omega,(hall o ho).2.2.1⟩
   ·show (Zoz e.List_ (Ut e.Ops)).length≤_
    unfold Zoz
    omega
   show K4 (Zoz e.List_ (Ut e.Ops))≤_
   unfold Zoz
   omega
  rw [if_neg h3]
  exact ⟨Zyk,Zys⟩
theorem BE.nE {e:Ed} (hb:BE e) (hg:GN e):BE (nE e):=(Zo8 _ e (Nat.lt_succ_self _) hb hg).1
theorem GN.nE {e:Ed} (hb:BE e) (hg:GN e):GN (nE e):=(Zo8 _ e (Nat.lt_succ_self _) hb hg).2
def lgt (e:Ed):Bool:=(!(decide (2000 < (e.Ops.foldl stR (0,0)).1) || decide (2000 < (e.Ops.foldl stR (0,0)).2))) && ((e.Kids.attach.map fun k=>lgt k.1.E).all id && (e.Ops.attach.map fun o=>lgt o.1.E).all id)
termination_by SizeOf.sizeOf e
decreasing_by
 ·exact Vy k.2
 exact Gz o.2
theorem Z4c (e:Ed):lgt e=((!(decide (2000 < (e.Ops.foldl stR (0,0)).1) || decide (2000 < (e.Ops.foldl stR (0,0)).2))) && ((e.Kids.all fun k=>lgt k.E) && (e.Ops.all fun o=>lgt o.E))):=by
 have h1:(e.Kids.attach.map fun k=>lgt k.1.E)=e.Kids.map fun k=>lgt k.E:=List.attach_map_val (f:=fun k:S_api_KidEdit=>lgt k.E)
 have h2:(e.Ops.attach.map fun o=>lgt o.1.E)=e.Ops.map fun o=>lgt o.E:=List.attach_map_val (f:=fun o:EO=>lgt o.E)
 rw [lgt,h1,h2,List.all_map,List.all_map]
 rfl
theorem Zqd:∀ (k:Nat) (e:Ed),BE e→SizeOf.sizeOf e < k→Qe k e=some (lgt e)
 | 0,_,_,h=>by omega
 | k+1,e,hb,hk=>by
  show Vo (Qe k) e=_
  unfold Vo
  have l0:Zw (Jd (Qe k) e) 0=some (if (e.Kids.all fun x=>lgt x.E)=true then Sum.inr () else Sum.inl ()) :=
   Ziu e.Kids _ (fun x=>lgt x.E) (Sum.inl ():Unit ⊕ Unit) (Sum.inr ()) hb.k (fun i x hi hx hm=>by
    unfold Jd
    rw [Vh hi,cond_true,Ya hx,Option.bind_some,Zqd k x.E (hb.ks x hm) (by have:=Vy hm;omega),Option.bind_some]
    cases lgt x.E <;> rfl) (by unfold Jd;rw [Zck];rfl)
  have l1:Zw (Je (Qe k) e) 0=some (if (e.Ops.all fun x=>lgt x.E)=true then Sum.inr () else Sum.inl ()) :=
   Ziu e.Ops _ (fun x=>lgt x.E) (Sum.inl ():Unit ⊕ Unit) (Sum.inr ()) hb.o (fun i x hi hx hm=>by
    unfold Je
    rw [Vh hi,cond_true,Ya hx,Option.bind_some,Zqd k x.E (hb.os x hm) (by have:=Gz hm;omega),Option.bind_some]
    cases lgt x.E <;> rfl) (by unfold Je;rw [Zck];rfl)
  rw [Z4c,Zyx hb,Option.bind_some,l0,l1]
  generalize decide (2000 < (e.Ops.foldl stR (0,0)).1)=q1
  generalize decide (2000 < (e.Ops.foldl stR (0,0)).2)=q2
  generalize (e.Kids.all fun x=>lgt x.E)=q3
  generalize (e.Ops.all fun x=>lgt x.E)=q4
  cases q1 <;> cases q2 <;> cases q3 <;> cases q4 <;> rfl
theorem Z1a {e:Ed} (hb:BE e):Zbd e=some (lgt e):=Zcj (SizeOf.sizeOf e+1) fun k hk=>Zqd k e hb (by omega)
theorem Z38 {e:Ed} (hb:BE e):∃ b,Ui e=some b∧(b=true→rE e 64=true∧ce e≤3000):=by
 obtain ⟨b,h1,h2⟩:=Z4v hb
 have h3:=Z2u hb (d:=64) (by decide)
 rw [show ((64:Nat):Int)=64 from rfl] at h3
 unfold Ui
 rw [h1,Option.bind_some,h3,Z1a hb]
 refine ⟨b && (rE e 64 && lgt e),?_,fun h => ?_⟩
 ·cases b <;> cases rE e 64 <;> cases lgt e <;> rfl
 simp only [Bool.and_eq_true] at h
 exact ⟨h.2.1,h2 h.1⟩
def swW (w:Zn):Zn:=⟨w.At,w.Mask,w.New,w.Old⟩
def tE (e:Ed):Ed :=
 ⟨e.Kind,e.New,e.Old,e.Words.map swW,e.Kids.attach.map (fun k=>⟨k.1.At,tE k.1.E⟩),e.List_,e.Ops.attach.map (fun o=>if o.1.Kind=1 then ⟨2,o.1.N,o.1.L,o.1.E⟩ else if o.1.Kind=2 then ⟨1,o.1.N,o.1.L,o.1.E⟩ else if o.1.Kind=3 then ⟨o.1.Kind,o.1.N,o.1.L,tE o.1.E⟩ else o.1)⟩
termination_by SizeOf.sizeOf e
decreasing_by
 ·exact Vy k.2
 exact Gz o.2
def tO (o:EO):EO:=if o.Kind=1 then ⟨2,o.N,o.L,o.E⟩ else if o.Kind=2 then ⟨1,o.N,o.L,o.E⟩ else if o.Kind=3 then ⟨o.Kind,o.N,o.L,tE o.E⟩ else o
theorem Z3x (e:Ed):tE e=⟨e.Kind,e.New,e.Old,e.Words.map swW,e.Kids.map (fun k=>⟨k.At,tE k.E⟩),e.List_,e.Ops.map tO⟩:=by
 have h1:(e.Kids.attach.map fun k=>(⟨k.1.At,tE k.1.E⟩:S_api_KidEdit))=e.Kids.map fun k=>⟨k.At,tE k.E⟩:=List.attach_map_val (f:=fun k:S_api_KidEdit=>(⟨k.At,tE k.E⟩:S_api_KidEdit))
 have h2:(e.Ops.attach.map fun o=>if o.1.Kind=1 then (⟨2,o.1.N,o.1.L,o.1.E⟩:EO) else if o.1.Kind=2 then ⟨1,o.1.N,o.1.L,o.1.E⟩ else if o.1.Kind=3 then ⟨o.1.Kind,o.1.N,o.1.L,tE o.1.E⟩ else o.1)=e.Ops.map tO:=List.attach_map_val (f:=tO)
 rw [tE,h1,h2]
theorem Z3g {o:EO} (h:o.Kind=1):tO o=⟨2,o.N,o.L,o.E⟩:=by unfold tO;rw [if_pos h]
theorem Z3h {o:EO} (h:o.Kind=2):tO o=⟨1,o.N,o.L,o.E⟩:=by unfold tO;rw [if_neg (by omega),if_pos h]
theorem Z2b {o:EO} (h:o.Kind=3):tO o=⟨3,o.N,o.L,tE o.E⟩:=by unfold tO;rw [if_neg (by omega),if_neg (by omega),if_pos h,h]
theorem Z2a {o:EO} (h:¬ o.Kind=1) (h2:¬ o.Kind=2) (h3:¬ o.Kind=3):tO o=o:=by unfold tO;rw [if_neg h,if_neg h2,if_neg h3]
theorem Z4k (o:EO):thN (tO o)=thN o:=by
 by_cases h1:o.Kind=1
 ·rw [Z3g h1];simp [thN,h1]
 by_cases h2:o.Kind=2
 ·rw [Z3h h2];simp [thN,h2]
 by_cases h3:o.Kind=3
 ·rw [Z2b h3];simp [thN,h3]
 rw [Z2a h1 h2 h3]
theorem Z4g {o:EO} (h:opk o):opk (tO o):=by
 rcases h with ⟨k,h⟩ | ⟨k,h⟩ | ⟨k,h⟩ | k
 ·rw [Z2a (by omega) (by omega) (by omega)];exact .inl ⟨k,h⟩
 ·rw [Z3g k];exact .inr (.inr (.inl ⟨rfl,h⟩))
 ·rw [Z3h k];exact .inr (.inl ⟨rfl,h⟩)
 rw [Z2b k];exact .inr (.inr (.inr rfl))
theorem Z57 (o:EO):(tO o).L=o.L:=by
 by_cases h1:o.Kind=1
 ·exact (congrArg S_api_Op.L (Z3g h1) :)
 by_cases h2:o.Kind=2
 ·exact (congrArg S_api_Op.L (Z3h h2) :)
 by_cases h3:o.Kind=3
 ·exact (congrArg S_api_Op.L (Z2b h3) :)
 exact (congrArg S_api_Op.L (Z2a h1 h2 h3) :)
theorem Zpk:∀ (n:Nat) (e:Ed),SizeOf.sizeOf e < n→BE e→GN e→BE (tE e)∧GN (tE e)
 | 0,_,h,_,_=>by omega
 | n+1,e,hn,hb,hg=>by
  have ik:∀ k∈e.Kids,BE (tE k.E)∧GN (tE k.E):=fun k hk=>Zpk n k.E (by have:=Vy hk;omega) (hb.ks k hk) (hg.ks k hk)
  have io:∀ o∈e.Ops,BE (tO o).E∧GN (tO o).E:=fun o ho=>by
   have hn':SizeOf.sizeOf o.E < n:=by have:=Gz ho;omega
   unfold tO
   split
   ·exact ⟨hb.os o ho,hg.os o ho⟩
   split
   ·exact ⟨hb.os o ho,hg.os o ho⟩
   split
   ·exact Zpk n o.E hn' (hb.os o ho) (hg.os o ho)
   exact ⟨hb.os o ho,hg.os o ho⟩
  rw [Z3x]
  refine ⟨.mk _ hb.new hb.old (by simp only [List.length_map];exact hb.w) (fun w hw => ?_) (by simp only [List.length_map];exact hb.k) (fun k hk => ?_) (by simp only [List.length_map];exact hb.o) (fun o ho => ?_) (fun o ho => ?_),
   .mk _ (by simp only [List.length_map];exact hg.w) (by simp only [List.length_map];exact hg.k) (by simp only [List.length_map];exact hg.o) ?_ (fun o ho => ?_) (fun k hk => ?_) (fun o ho => ?_)⟩
  ·obtain ⟨x,hx,rfl⟩:=List.mem_map.1 hw
   have:=hb.ws x hx
   exact ⟨this.1,this.2.2,this.2.1⟩
  ·obtain ⟨x,hx,rfl⟩:=List.mem_map.1 hk
   exact (ik x hx).1
  ·obtain ⟨x,hx,rfl⟩:=List.mem_map.1 ho
   rw [Z57];exact hb.l x hx
  ·obtain ⟨x,hx,rfl⟩:=List.mem_map.1 ho
   exact (io x hx).1
  ·have:K4 (e.Ops.map tO)=K4 e.Ops:=by
    unfold K4
    rw [List.map_map]
    congr 1
    exact List.map_congr_left fun x _=>Z4k x
   rw [this];exact hg.s
  ·obtain ⟨x,hx,rfl⟩:=List.mem_map.1 ho
   exact Z4g (hg.p x hx)
  ·obtain ⟨x,hx,rfl⟩:=List.mem_map.1 hk
   exact (ik x hx).2
  obtain ⟨x,hx,rfl⟩:=List.mem_map.1 ho
  exact (io x hx).2
theorem BE.tE {e:Ed} (hb:BE e) (hg:GN e):BE (tE e):=(Zpk _ e (Nat.lt_succ_self _) hb hg).1
theorem GN.tE {e:Ed} (hb:BE e) (hg:GN e):GN (tE e):=(Zpk _ e (Nat.lt_succ_self _) hb hg).2
theorem Zvu (F:List EO) (a b:Int):Zb5 (Zb5 F a) b=Zb5 F (a+b):=by
 by_cases hk:∃ o,F.getLast? = some o∧o.Kind=0
 ·obtain ⟨o,ho,hk0⟩:=hk
  obtain ⟨o',ho'⟩:=List.getLast?_eq_some_iff.1 ho
  obtain ⟨k,N,L,E⟩:=o
  simp only at hk0
  subst hk0 ho'
  rw [Zbi,Zbi,Zbi,Int.add_assoc]
 have hn:∀ o,F.getLast? = some o→o.Kind≠0:=fun o ho h0=>hk ⟨o,ho,h0⟩
 rw [Zev hn,Zbi,Zev hn]
theorem Zyt (l:Int) (e:Ed):Zqa l (nE (tE e))=Zqa l (nE e):=by
 rw [Zoq,Zoq,Z3x]
 simp only
 by_cases h1:e.Kind=1
 ·rw [if_pos h1,if_pos h1];simp [Zqa]
 rw [if_neg h1,if_neg h1]
 by_cases h2:e.Kind=2
 ·rw [if_pos h2,if_pos h2];simp [Zqa]
 rw [if_neg h2,if_neg h2]
 by_cases h3:e.Kind=3
 ·rw [if_pos h3,if_pos h3];simp [Zqa]
 rw [if_neg h3,if_neg h3]
def Zk3 (l:List EO):List EO:=l.map tO
theorem Zix (a b:List EO):Zk3 (a++b)=Zk3 a++Zk3 b:=by simp [Zk3]
structure TR (l:Int) (s s':NW):Prop where
 out:(Ut (Zk3 s.out)).foldl (stN l) s0N=⟨s'.out,[],[]⟩
 gone:s'.gone=s.come
 come:s'.come=s.gone
theorem TR.flush {l:Int} {s s':NW} (h:TR l s s') (hn:NInv l s):(Ut (Zk3 s.flush)).foldl (stN l) s0N=s':=by
 unfold NW.flush
 rw [Zix,Gx,List.foldl_append,h.out,Zix,Gx,List.foldl_append]
 have e1:(Ut (Zk3 (Zkj s.gone))).foldl (stN l) ⟨s'.out,[],[]⟩=⟨s'.out,[],s.gone⟩:=by
  by_cases hg:s.gone=[]
  ·rw [hg];rfl
  rw [Zkb hg];simp [Zk3,tO,Ut,stN,hn.gone]
 have e2:(Ut (Zk3 (Zis s.come))).foldl (stN l) ⟨s'.out,[],s.gone⟩=⟨s'.out,s.come,s.gone⟩:=by
  by_cases hg:s.come=[]
  ·rw [hg];rfl
  rw [Zkd hg];simp [Zk3,tO,Ut,stN,hn.come]
 rw [e1,e2,← h.gone,← h.come]
theorem Zzi (N:Int) (L:List Tr) (E:Ed):tO ⟨0,N,L,E⟩=⟨0,N,L,E⟩:=Z2a (by simp) (by simp) (by simp)
theorem TR.keep {l:Int} {s s':NW} (h:TR l s s') (hn:NInv l s) (n:Int):TR l ⟨Zb5 s.flush n,[],[]⟩ ⟨Zb5 s'.flush n,[],[]⟩:=by
 refine ⟨?_,rfl,rfl⟩
 have hfl:=h.flush hn
 by_cases hk:∃ o,s.flush.getLast? = some o∧o.Kind=0
 ·obtain ⟨o,ho,hk0⟩:=hk
  rcases Zp0 ho with h12 | ⟨g1,g2,g3⟩
  ·omega
  have hf:s.flush=s.out:=by unfold NW.flush;rw [g1,g2];simp [Zkj,Zis]
  obtain ⟨o',ho'⟩:=List.getLast?_eq_some_iff.1 g3
  obtain ⟨a1,a2,a3,_⟩:=hn.last o' o ho' hk0
  obtain ⟨k,N,L,E⟩:=o
  simp only at hk0 a1 a2
  subst hk0 a1 a2
  rw [hf,ho'] at hfl ⊢
  rw [Zbi]
  simp only
  rw [Zix,Gx,List.foldl_append] at hfl ⊢
  generalize (Ut (Zk3 o')).foldl (stN l) s0N=r at *
  have e:∀ M:Int,(Ut (Zk3 [(⟨0,M,[],eS0⟩:EO)])).foldl (stN l) r=⟨Zb5 r.flush M,[],[]⟩:=fun M=>by
   unfold Zk3
   rw [List.map_cons,List.map_nil,Zzi]
   exact Zmu (l:=l)
  rw [e] at hfl ⊢
  rw [← hfl,Zc0,Zvu]
 have hk':∀ o,s.flush.getLast? = some o→o.Kind≠0:=fun o ho h0=>hk ⟨o,ho,h0⟩
 rw [Zev hk']
 simp only
 rw [Zix,Gx,List.foldl_append,hfl]
 unfold Zk3
 rw [List.map_cons,List.map_nil,Zzi]
 exact Zmu (l:=l)
theorem TR.step {l:Int} {s s':NW} (h:TR l s s') (hn:NInv l s) {o:EO} (ho:opk o) (hE:o.Kind=3→nE (tE (nE o.E))=nE (tE o.E)):TR l (stN l s (o,nE o.E)) (stN l s' (tO o,nE (tO o).E)):=by
 rcases ho with ⟨k,_⟩ | ⟨k,_⟩ | ⟨k,_⟩ | k
 ·rw [Z2a (by omega) (by omega) (by omega)]
  have:=h.keep hn o.N
  unfold stN
  simp only [k,show ¬ (0:Int)=1 from by decide,show ¬ (0:Int)=2 from by decide,if_false,if_true]
  exact this
 ·rw [Z3g k]
  unfold stN
  simp only [k,show ¬ (2:Int)=1 from by decide,if_false,if_true]
  exact ⟨h.out,h.gone,by rw [h.come]⟩
 ·rw [Z3h k]
  unfold stN
  simp only [k,show ¬ (2:Int)=1 from by decide,if_false,if_true]
  exact ⟨h.out,by rw [h.gone],h.come⟩
 rw [Z2b k]
 have hi:=Zyt l o.E
 have hfl:=h.flush hn
 have hk:=h.keep hn 1
 unfold stN
 simp only [k,show ¬ (3:Int)=1 from by decide,show ¬ (3:Int)=2 from by decide,show ¬ (3:Int)=0 from by decide,if_false,hi]
 cases hid:Zqa l (nE o.E) with
 | true=>simp only [if_true];exact hk
 | false =>
  simp only [Bool.false_eq_true,if_false]
  refine ⟨?_,rfl,rfl⟩
  simp only
  rw [Zix,Gx,List.foldl_append,hfl]
  unfold Zk3
  rw [List.map_cons,List.map_nil,Z2b rfl]
  show stN l s' (⟨3,0,[],tE (nE o.E)⟩,nE (tE (nE o.E)))=_
  have hi2:=Zyt l (nE o.E)
  rw [Z4z,hid] at hi2
  unfold stN
  simp only [show ¬ (3:Int)=1 from by decide,show ¬ (3:Int)=2 from by decide,show ¬ (3:Int)=0 from by decide,if_false,hi2,Bool.false_eq_true]
  rw [hE k]
end Go.Proofs.Ytmpkfolcikhofaa
