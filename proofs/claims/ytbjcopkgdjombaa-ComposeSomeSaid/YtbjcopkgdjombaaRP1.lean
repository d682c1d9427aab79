/- Plain facts on this seat's mirrors (part RP1); each theorem bears its own conditions. -/
import Derived.Test.YtbjcopkgdjombaaRD
import Derived.IntWalk
namespace Go.Proofs.Ytbjcopkgdjombaa
open Go.RowKit
set_option linter.unusedVariables false
set_option linter.unusedSimpArgs false
abbrev Tr:=Zb
theorem Ul {x:Int} (h1:-9223372036854775808≤x) (h2:x≤9223372036854775807):IntKind.i64.wrap x=x:=Z2m ⟨h1,h2⟩
theorem Zcw {t x:Tr} (h:x∈t.Kids):SizeOf.sizeOf x < SizeOf.sizeOf t:=by
 obtain ⟨k,w,ks⟩:=t
 have:=List.sizeOf_lt_of_mem h
 simp only [Zb.mk.sizeOf_spec]
 simp only at this
 omega
theorem Zxy {α R:Type} (xs:List α) (step:Int→Option (Int ⊕ R)) (p:α→Bool) (e o:R) (hl:(xs.length:Int)≤140737488355328)
  (h1:∀ (i:Nat) (x:α),i < xs.length→xs[i]? = some x→x∈xs→step i=some (if p x=true then .inr e else .inl (IntKind.i64.wrap ((i:Int)+1)))) (h2:step xs.length=some (.inr o)):Zw step 0=some (if xs.any p=true then e else o):=by
 have hloop:=Ybp xs (fun i (_:Unit)=>i) step (fun _ x=>some (if p x=true then .inr e else .inl ())) (fun _=>o) (fun i s x hi hx=>by
  rw [h1 i x hi hx (List.mem_of_getElem? hx),Ul (by omega) (by omega)]
  cases p x <;> rfl) (fun _=>h2) ()
 refine hloop.trans ?_
 rw [Zxa p (fun s _=>s) e (fun _ _=>True) xs.length xs () 0 (by omega) trivial (fun s k x _ _ _=>⟨by cases p x <;> rfl,fun _=>trivial⟩)]
theorem Zbe {i n:Nat} (h:i < n):decide ((i:Int) < (n:Int))=true:=by rw [decide_eq_true_eq];omega
theorem Zd1 {n:Nat}:decide ((n:Int) < (n:Int))=false:=by rw [decide_eq_false_iff_not];omega
def tr {α:Type} (p:α→Bool):List α→List α
 | []=>[]
 | x::xs=>match tr p xs with
  | []=>if p x=true then [] else [x]
  | y::ys=>x::y::ys
def trN {α:Type} (p:α→Bool) (l:List α):Nat→Nat
 | 0=>0
 | n+1=>match l[n]? with
  | some x=>if p x=true then trN p l n else n+1
  | none=>0
theorem Zvi {α:Type} {p:α→Bool} {x:α} (h:p x=true):∀ l:List α,tr p (l++[x])=tr p l
 | []=>by simp [tr,h]
 | y::l=>by simp only [List.cons_append,tr,Zvi h l]
theorem Zvh {α:Type} {p:α→Bool} {x:α} (h:p x=false):∀ l:List α,tr p (l++[x])=l++[x]
 | []=>by simp [tr,h]
 | y::l=>by
  simp only [List.cons_append,tr,Zvh h l]
  cases hl:l++[x] with
  | nil=>simp at hl
  | cons a b=>rfl
theorem Z87 {α:Type} {p:α→Bool} {l:List α}:∀ n,n≤l.length→l.take (trN p l n)=tr p (l.take n)∧trN p l n≤n
 | 0,_=>by simp [trN,tr]
 | n+1,h=>by
  have hn:l[n]? = some l[n]:=List.getElem?_eq_getElem (by omega)
  have e:l.take (n+1)=l.take n++[l[n]]:=by rw [List.take_add_one,hn];rfl
  obtain ⟨h1,h2⟩:=Z87 (p:=p) (l:=l) n (by omega)
  unfold trN
  rw [hn]
  simp only
  split
  ·rename_i hp
   rw [e,Zvi hp]
   exact ⟨h1,by omega⟩
  rename_i hp
  rw [e,Zvh (by simpa using hp),← e]
  exact ⟨rfl,Nat.le_refl _⟩
theorem Zpb {α:Type} (p:α→Bool):∀ l:List α,(tr p l).length≤l.length
 | []=>by simp [tr]
 | x::l=>by
  have:=Zpb p l
  simp only [tr]
  split
  ·split <;> simp
  rename_i y ys he
  rw [he] at this
  simp at this ⊢
  omega
theorem Zhe {α:Type} {p:α→Bool} {x:α}:∀ {l:List α},x∈tr p l→x∈l
 | [],h=>by simp [tr] at h
 | y::l,h=>by
  simp only [tr] at h
  split at h
  ·split at h
   ·simp at h
   simp at h;simp [h]
  rename_i z zs he
  rw [← he] at h
  rcases List.mem_cons.1 h with h | h
  ·simp [h]
  exact List.mem_cons_of_mem _ (Zhe h)
theorem Z6t {α:Type} {p:α→Bool}:∀ l:List α,tr p (tr p l)=tr p l
 | []=>rfl
 | x::l=>by
  have ih:=Z6t (p:=p) l
  simp only [tr]
  cases h:tr p l with
  | nil =>
   simp only
   cases hx:p x <;> simp [tr,hx]
  | cons y ys =>
   rw [h] at ih
   simp only [tr] at ih ⊢
   rw [ih]
theorem Z4x {α β:Type} {p:α→Bool} {q:β→Bool} {f:α→β} (h:∀ x,q (f x)=p x):∀ l:List α,tr q (l.map f)=(tr p l).map f
 | []=>rfl
 | x::l=>by
  simp only [List.map_cons,tr,Z4x h l]
  cases tr p l with
  | nil=>simp only [List.map_nil,h];split <;> rfl
  | cons y ys=>rfl
theorem Yaa {α:Type} (l:List α) (p:α→Bool) (step:Int→Option (Int ⊕ Int)) (hl:(l.length:Int)≤140737488355328)
  (h0:step 0=some (.inr 0)) (h1:∀ (n:Nat) (x:α),l[n]? = some x→n < l.length→step ((n+1:Nat):Int)=some (if p x=true then .inl (n:Int) else .inr ((n+1:Nat):Int))):Zw step (l.length:Int)=some (trN p l l.length:Int):=by
 have key:∀ n:Nat,n≤l.length→Zw step (n:Int)=some (trN p l n:Int):=fun n=>by
  induction n with
  | zero=>intro _;exact Z8 h0
  | succ n ih =>
   intro hn
   have hx:l[n]? = some l[n]:=List.getElem?_eq_getElem (by omega)
   have h:=h1 n _ hx (by omega)
   unfold trN
   rw [hx]
   simp only
   split
   ·rename_i hp
    rw [if_pos hp] at h
    rw [Yr h]
    exact ih (by omega)
   rename_i hp
   rw [if_neg hp] at h
   exact Z8 h
 exact key l.length (Nat.le_refl _)
theorem Z6k {α:Type} {l:List α} {n:Nat} (h:n≤l.length):Zcl l 0 (n:Int)=some (l.take n):=by
 rw [Zjd (by omega) (by omega) (by omega)]
 simp
theorem Yjj {n:Nat}:decide (0 < ((n+1:Nat):Int))=true:=by rw [decide_eq_true_eq];omega
theorem Znm {l:List Int} (hl:(l.length:Int)≤140737488355328):U2 l=some (tr (fun x=>x == 0) l):=by
 have hloop:=Yaa l (fun x=>x == 0) (G8 l) hl (by unfold G8;rfl) (fun n x hx hn=>by
  unfold G8
  rw [Yjj,cond_true,Ul (by omega) (by omega)]
  have e:((n+1:Nat):Int) - 1=(n:Int):=by omega
  rw [e,Yw hx]
  simp only [Option.bind_some,cond_true]
  cases x == 0 <;> rfl)
 obtain ⟨h1,h2⟩:=Z87 (p:=fun x=>x == 0) (l:=l) l.length (Nat.le_refl _)
 unfold U2
 rw [hloop,Option.bind_some,Z6k h2,Option.bind_some,h1,List.take_length]
theorem Zpc {l:List Tr} (hl:(l.length:Int)≤140737488355328):Gz l=some (tr (fun x=>x.Kind == 0) l):=by
 have hloop:=Yaa l (fun x=>x.Kind == 0) (Za2 l) hl (by unfold Za2;rfl) (fun n x hx hn=>by
  unfold Za2
  rw [Yjj,cond_true,Ul (by omega) (by omega)]
  have e:((n+1:Nat):Int) - 1=(n:Int):=by omega
  rw [e,Yw hx]
  simp only [Option.bind_some,cond_true]
  cases x.Kind == 0 <;> rfl)
 obtain ⟨h1,h2⟩:=Z87 (p:=fun x=>x.Kind == 0) (l:=l) l.length (Nat.le_refl _)
 unfold Gz
 rw [hloop,Option.bind_some,Z6k h2,Option.bind_some,h1,List.take_length]
inductive Bd:Tr→Prop
 | mk (t:Tr) (h1:t.Words.length * 8≤140737488355328) (h2:t.Kids.length * 56≤140737488355328) (h3:∀ w∈t.Words,0≤w∧w < 18446744073709551616) (h4:∀ k∈t.Kids,Bd k):Bd t
theorem Bd.w {t:Tr} (h:Bd t):t.Words.length * 8≤140737488355328:=by cases h;assumption
theorem Bd.k {t:Tr} (h:Bd t):t.Kids.length * 56≤140737488355328:=by cases h;assumption
theorem Bd.u {t:Tr} (h:Bd t):∀ w∈t.Words,0≤w∧w < 18446744073709551616:=by cases h;assumption
theorem Bd.all {t:Tr} (h:Bd t):∀ k∈t.Kids,Bd k:=by cases h;assumption
def nrm (t:Tr):Tr :=
 if t.Kind=0 then ⟨0,[],[]⟩
 else if t.Kind=1 then ⟨1,tr (fun x=>x == 0) t.Words,tr (fun x=>x.Kind == 0) (t.Kids.attach.map fun k=>nrm k.1)⟩
 else ⟨t.Kind,t.Words,t.Kids.attach.map fun k=>nrm k.1⟩
termination_by SizeOf.sizeOf t
decreasing_by all_goals exact Zcw k.2
theorem Zh6 (t:Tr):nrm t=if t.Kind=0 then ⟨0,[],[]⟩ else if t.Kind=1 then ⟨1,tr (fun x=>x == 0) t.Words,tr (fun x=>x.Kind == 0) (t.Kids.map nrm)⟩ else ⟨t.Kind,t.Words,t.Kids.map nrm⟩:=by
 rw [nrm]
 simp only [List.attach_map_val]
theorem Za3 (t:Tr):(nrm t).Kind=t.Kind:=by
 rw [Zh6]
 split
 ·rename_i h;exact h.symm
 split
 ·rename_i h;exact h.symm
 rfl
theorem Yec {α β:Type} {xs:List α} {f:α→β} {z:β} {i m:Nat} {x:α} (hi:i+(m+1)=xs.length) (hx:xs[i]? = some x) :
  ((xs.take i).map f++List.replicate (m+1) z).set i (f x)=(xs.take (i+1)).map f++List.replicate m z:=by
 have hl:((xs.take i).map f).length=i:=by rw [List.length_map,List.length_take];omega
 rw [List.set_append,if_neg (by omega),hl,Nat.sub_self,List.replicate_succ,List.set_cons_zero,List.take_add_one,hx]
 simp
theorem Yde {α β:Type} (xs:List α) (f:α→β) (z:β) (step:Int×List β→Option ((Int×List β) ⊕ List β)) (hl:(xs.length:Int)≤140737488355328)
  (h1:∀ (i:Nat) (x:α) (out:List β) (y:β),i < xs.length→xs[i]? = some x→x∈xs→out[i]? = some y→step ((i:Int),out)=some (.inl (IntKind.i64.wrap ((i:Int)+1),Zi5 out (i:Int) (f x))))
  (h2:∀ out,step ((xs.length:Int),out)=some (.inr out)):Zw step (0,List.replicate xs.length z)=some (xs.map f):=by
 have key:∀ m i,i+m=xs.length→Zw step ((i:Int),(xs.take i).map f++List.replicate m z)=some (xs.map f):=fun m=>by
  induction m with
  | zero =>
   intro i hi
   have hi':i=xs.length:=by omega
   subst hi'
   rw [List.take_length,List.replicate_zero,List.append_nil]
   exact Z8 (h2 _)
  | succ m ih =>
   intro i hi
   have hx:xs[i]? = some xs[i]:=List.getElem?_eq_getElem (by omega)
   have hl':((xs.take i).map f).length=i:=by rw [List.length_map,List.length_take];omega
   have hy:((xs.take i).map f++List.replicate (m+1) z)[i]? = some z:=by
    rw [List.getElem?_append_right (by omega),hl',Nat.sub_self,List.replicate_succ];rfl
   have h:=h1 i _ _ z (by omega) hx (List.mem_of_getElem? hx) hy
   rw [Ul (by omega) (by omega)] at h
   rw [Yr h]
   unfold Zi5
   rw [Int.toNat_natCast,Yec (by omega) hx]
   exact ih (i+1) (by omega)
 have:=key xs.length 0 (by omega)
 simpa using this
theorem Yai:∀ (k:Nat) (t:Tr),Bd t→SizeOf.sizeOf t < k→Zad k t=some (nrm t)
 | 0,t,_,h=>by omega
 | k+1,t,hb,hk=>by
  have ih:∀ x∈t.Kids,Zad k x=some (nrm x):=fun x hx=>Yai k x (hb.all x hx) (by have:=Zcw hx;omega)
  have hw:=hb.w
  have hkd:=hb.k
  show Zjf (Zad k) t=_
  unfold Zjf
  rw [Zh6]
  by_cases h0:t.Kind=0
  ·rw [if_pos h0,h0];rfl
  have e0:(t.Kind == 0)=false:=by rw [beq_eq_false_iff_ne];exact h0
  rw [if_neg h0,e0,cond_false]
  have main:∀ (w:List Int) (ks:List Tr),(ks.length:Int)≤140737488355328→(56:Int) * ks.length≤140737488355328→(∀ x∈ks,Zad k x=some (nrm x)) →
    ((cond (decide (0 < ((w,ks).2.length:Int))) ((Zom 56 ((w,ks).2.length:Int) (⟨(0:Int),([]:(List Int)),([]:(List Zb))⟩:Zb)).bind fun l6=>some l6) (some ([]:List Zb))).bind fun (z5:(List Zb))=>(Zw (Zca (Zad k) (w,ks)) (0,z5)).bind fun (z14:(List Zb))=>some (⟨t.Kind,(w,ks).1,z14⟩:Zb))=some ⟨t.Kind,w,ks.map nrm⟩:=fun w ks h1 h2 hks=>by
   have hz:(cond (decide (0 < ((w,ks).2.length:Int))) ((Zom 56 ((w,ks).2.length:Int) (⟨(0:Int),([]:(List Int)),([]:(List Zb))⟩:Zb)).bind fun l6=>some l6) (some ([]:List Zb)))=some (List.replicate ks.length (⟨0,[],[]⟩:Tr)):=by
    cases ks with
    | nil=>rfl
    | cons y ys =>
     have:decide (0 < (((w,y::ys).2.length:Nat):Int))=true:=by rw [decide_eq_true_eq];simp
     rw [this,cond_true,Ydj (Int.natCast_nonneg _) h2 h1,Option.bind_some,Int.toNat_natCast]
   rw [hz,Option.bind_some]
   rw [Yde ks nrm _ (Zca (Zad k) (w,ks)) h1 (fun i x out z hi hx hm hz=>by
     unfold Zca
     simp only
     rw [Zbe hi,cond_true,Yw hx,Option.bind_some,hks x hm,Option.bind_some,Yw hz,Option.bind_some]) (fun out=>by
     unfold Zca
     simp only
     rw [Zd1,cond_false]),Option.bind_some]
  by_cases h1:t.Kind=1
  ·have e1:(t.Kind == 1)=true:=by rw [beq_iff_eq];exact h1
   have l1:=Zpb (fun x:Tr=>x.Kind == 0) t.Kids
   rw [if_pos h1,e1,cond_true,Znm (by omega),Option.bind_some,Zpc (by omega),Option.bind_some,Option.bind_some]
   rw [main _ _ (by omega) (by omega) (fun x hx=>ih x (Zhe hx)),Z4x (fun x=>by rw [Za3]),h1]
  have e1:(t.Kind == 1)=false:=by rw [beq_eq_false_iff_ne];exact h1
  rw [if_neg h1,e1,cond_false,Option.bind_some]
  exact main _ _ (by omega) (by omega) ih
theorem Zv4 {t:Tr} (h:Bd t):Zcn t=some (nrm t):=Zgc (SizeOf.sizeOf t+1) fun k hk=>Yai k t h (by omega)
theorem Zly {α:Type} {p:α→Bool} {x:α} {l:List α} (h:tr p l=[]):tr p (x::l)=if p x=true then [] else [x]:=by simp only [tr,h]
theorem Zrt {α:Type} {p:α→Bool} {x:α} {l:List α} (h:tr p l≠[]):tr p (x::l)=x::tr p l:=by
 simp only [tr]
 split
 ·rename_i h';exact absurd h' h
 rename_i h';rw [h']
theorem Ydp:∀ (n:Nat) (t:Tr),SizeOf.sizeOf t < n→Bd t→Bd (nrm t)
 | 0,t,h,_=>by omega
 | n+1,t,hn,hb=>by
  have ih:∀ x∈t.Kids,Bd (nrm x):=fun x hx=>Ydp n x (by have:=Zcw hx;omega) (hb.all x hx)
  have hw:=hb.w
  have hk:=hb.k
  rw [Zh6]
  split
  ·exact .mk _ (by simp) (by simp) (fun w h=>by simp at h) (fun w h=>by simp at h)
  split
  ·have l1:=Zpb (fun x:Int=>x == 0) t.Words
   have l2:=Zpb (fun x:Tr=>x.Kind == 0) (t.Kids.map nrm)
   rw [List.length_map] at l2
   refine .mk _ (by simp only;omega) (Nat.le_trans (Nat.mul_le_mul_right 56 l2) hk) (fun w h=>hb.u w (Zhe h)) (fun x h => ?_)
   obtain ⟨y,hy,rfl⟩:=List.mem_map.1 (Zhe h)
   exact ih y hy
  refine .mk _ hw (by simp only [List.length_map];exact hk) hb.u (fun x h => ?_)
  obtain ⟨y,hy,rfl⟩:=List.mem_map.1 h
  exact ih y hy
theorem Bd.nrm {t:Tr} (h:Bd t):Bd (nrm t):=Ydp _ t (Nat.lt_succ_self _) h
theorem Z09:∀ (n:Nat) (t:Tr),SizeOf.sizeOf t < n→nrm (nrm t)=nrm t
 | 0,t,h=>by omega
 | n+1,t,hn=>by
  have ih:∀ x∈t.Kids,nrm (nrm x)=nrm x:=fun x hx=>Z09 n x (by have:=Zcw hx;omega)
  have em:∀ l:List Tr,(∀ x∈l,x∈t.Kids)→(l.map nrm).map nrm=l.map nrm:=fun l hl=>by
   rw [List.map_map]
   exact List.map_congr_left fun x hx=>ih x (hl x hx)
  rw [Zh6 t]
  by_cases h0:t.Kind=0
  ·rw [if_pos h0,Zh6];simp
  rw [if_neg h0]
  by_cases h1:t.Kind=1
  ·rw [if_pos h1,Zh6]
   simp only [if_neg (show ¬ (1:Int)=0 by decide),if_true]
   have q1:∀ l:List Tr,tr (fun x:Tr=>x.Kind == 0) (l.map nrm)=(tr (fun x:Tr=>x.Kind == 0) l).map nrm:=Z4x (fun x=>by rw [Za3])
   rw [Z6t,q1,Z6t,q1,em _ (fun x hx=>Zhe hx)]
  rw [if_neg h1,Zh6]
  simp only
  rw [if_neg h0,if_neg h1,em _ (fun x hx=>hx)]
theorem Zpo (t:Tr):nrm (nrm t)=nrm t:=Z09 _ t (Nat.lt_succ_self _)
def eqT (a b:Tr):Bool:=a.Kind == b.Kind && (a.Words == b.Words && (a.Kids.length == b.Kids.length && (a.Kids.attach.zip b.Kids).all fun p=>eqT p.1.1 p.2))
termination_by SizeOf.sizeOf a
decreasing_by exact Zcw p.1.2
def eqL:List Tr→List Tr→Bool
 | [],[]=>true
 | x::xs,y::ys=>eqT x y && eqL xs ys
 | _,_=>false
theorem Ya4:∀ (l m:List Tr) (P:Tr→Prop) (l':List {x // P x}),l'.map (·.1)=l→(l.length == m.length && (l'.zip m).all fun p=>eqT p.1.1 p.2)=eqL l m
 | [],[],P,l',h=>by cases l' <;> simp_all [eqL]
 | [],y::m,P,l',h=>by cases l' <;> simp_all [eqL]
 | x::l,[],P,l',h=>by cases l' <;> simp_all [eqL]
 | x::l,y::m,P,l',h=>by
  cases l' with
  | nil=>simp at h
  | cons z l' =>
   simp only [List.map_cons,List.cons.injEq] at h
   have ih:=Ya4 l m P l' h.2
   simp only [List.length_cons,List.zip_cons_cons,List.all_cons,eqL,h.1]
   rw [← ih]
   have:(l.length+1 == m.length+1)=(l.length == m.length):=by simp
   rw [this]
   cases l.length == m.length <;> cases eqT x y <;> rfl
theorem Ycr (a b:Tr):eqT a b=(a.Kind == b.Kind && (a.Words == b.Words && eqL a.Kids b.Kids)):=by
 rw [eqT,Ya4 a.Kids b.Kids (·∈a.Kids) a.Kids.attach (by simp)]
theorem Zw6 (x y:Tr) (xs ys:List Tr):eqL (x::xs) (y::ys)=(eqT x y && eqL xs ys):=rfl
theorem Z0t:∀ (n:Nat) (a b:Tr),SizeOf.sizeOf a < n→(eqT a b=true↔a=b)
 | 0,a,b,h=>by omega
 | n+1,a,b,hn=>by
  have ih:∀ x∈a.Kids,∀ y,eqT x y=true↔x=y:=fun x hx y=>Z0t n x y (by have:=Zcw hx;omega)
  have hl:∀ (l m:List Tr),(∀ x∈l,x∈a.Kids)→(eqL l m=true↔l=m):=fun l=>by
   induction l with
   | nil=>intro m _;cases m <;> simp [eqL]
   | cons x l ihl =>
    intro m hm
    cases m with
    | nil=>simp [eqL]
    | cons y m=>rw [Zw6,Bool.and_eq_true,ih x (hm x (.head _)) y,ihl m (fun z hz=>hm z (.tail _ hz)),List.cons.injEq]
  rw [Ycr,Bool.and_eq_true,Bool.and_eq_true,hl a.Kids b.Kids (fun x hx=>hx),beq_iff_eq,beq_iff_eq]
  obtain ⟨k,w,ks⟩:=a
  obtain ⟨k',w',ks'⟩:=b
  simp
theorem eqT_iff {a b:Tr}:eqT a b=true↔a=b:=Z0t _ a b (Nat.lt_succ_self _)
theorem Ycf:∀ (a b:List Int),a.length=b.length→(a.zip b).any (fun p=>p.1 != p.2) = !(a == b)
 | [],[],_=>rfl
 | [],_::_,h=>by simp at h
 | _::_,[],h=>by simp at h
 | x::a,y::b,h=>by
  have ih:=Ycf a b (by simpa using h)
  rw [List.zip_cons_cons,List.any_cons,ih]
  by_cases hxy:x=y
  ·subst hxy;simp
  simp [bne,hxy]
theorem Ydf {R:Type} (a b:List Int) (step:Int→Option (Int ⊕ R)) (e o:R) (hab:a.length=b.length) (hl:(a.length:Int)≤140737488355328)
  (h1:∀ (i:Nat) (x y:Int),i < a.length→a[i]? = some x→b[i]? = some y→step i=some (if (x != y)=true then .inr e else .inl (IntKind.i64.wrap ((i:Int)+1)))) (h2:step a.length=some (.inr o)) :
  Zw step 0=some (if (a == b)=true then o else e):=by
 have hz:(a.zip b).length=a.length:=by rw [List.length_zip];omega
 have:=Zxy (a.zip b) step (fun p=>p.1 != p.2) e o (by rw [hz];exact hl) (fun i p hi hp hm=>by
  rw [hz] at hi
  have ha:a[i]? = some a[i]:=List.getElem?_eq_getElem hi
  have hb:b[i]? = some b[i]:=List.getElem?_eq_getElem (by omega)
  have:p=(a[i],b[i]):=by
   rw [List.getElem?_eq_getElem (by rw [hz];exact hi)] at hp
   injection hp with hp
   rw [← hp,List.getElem_zip]
  subst this
  exact h1 i _ _ hi ha hb) (by rw [hz];exact h2)
 rw [this,Ycf a b hab]
 cases a == b <;> rfl
theorem Yc8 {a b:Nat}:((a:Int) != (b:Int)) = !(a == b):=by
 rw [Bool.eq_iff_iff];simp;omega
theorem Yf2 {a b:List Int} (h:¬ a.length=b.length):(a == b)=false:=by
 rw [beq_eq_false_iff_ne];intro e;exact h (by rw [e])
theorem Z0u {a b:List Int} (h:(a.length:Int)≤140737488355328):Qu a b=some (a == b):=by
 unfold Qu
 rw [Yc8]
 by_cases hab:a.length=b.length
 ·have:(!(a.length == b.length))=false:=by simp [hab]
  rw [this,cond_false,Ydf a b (Q3 a b) (.inl ()) (.inr ()) hab h (fun i x y hi hx hy=>by
   unfold Q3
   rw [Zbe hi,cond_true,Yw hx,Option.bind_some,Yw hy,Option.bind_some]
   cases x != y <;> rfl) (by unfold Q3;rw [Zd1];rfl)]
  cases a == b <;> rfl
 have:(!(a.length == b.length))=true:=by simp [hab]
 rw [this,cond_true,Yf2 hab]
theorem Yhh (q:Tr→Tr→Bool):∀ (a b:List Tr),(a.zip b).any (fun p => !q p.1 p.2) = !((a.zip b).all fun p=>q p.1 p.2)
 | [],b=>by simp
 | x::a,[]=>by simp
 | x::a,y::b=>by rw [List.zip_cons_cons,List.any_cons,Yhh q a b,List.all_cons];cases q x y <;> rfl
theorem Ybq {R:Type} (a b:List Tr) (q:Tr→Tr→Bool) (step:Int→Option (Int ⊕ R)) (e o:R) (hab:a.length=b.length) (hl:(a.length:Int)≤140737488355328)
  (h1:∀ (i:Nat) (x y:Tr),i < a.length→a[i]? = some x→b[i]? = some y→x∈a→y∈b→step i=some (if (!q x y)=true then .inr e else .inl (IntKind.i64.wrap ((i:Int)+1)))) (h2:step a.length=some (.inr o)) :
  Zw step 0=some (if ((a.zip b).all fun p=>q p.1 p.2)=true then o else e):=by
 have hz:(a.zip b).length=a.length:=by rw [List.length_zip];omega
 have:=Zxy (a.zip b) step (fun p => !q p.1 p.2) e o (by rw [hz];exact hl) (fun i p hi hp hm=>by
  rw [hz] at hi
  have ha:a[i]? = some a[i]:=List.getElem?_eq_getElem hi
  have hb:b[i]? = some b[i]:=List.getElem?_eq_getElem (by omega)
  have:p=(a[i],b[i]):=by
   rw [List.getElem?_eq_getElem (by rw [hz];exact hi)] at hp
   injection hp with hp
   rw [← hp,List.getElem_zip]
  subst this
  exact h1 i _ _ hi ha hb (List.getElem_mem _) (List.getElem_mem _)) (by rw [hz];exact h2)
 rw [this,Yhh q a b]
 cases (a.zip b).all fun p=>q p.1 p.2 <;> rfl
theorem Z9l (f:Tr→Tr):∀ (a b:List Tr),a.length=b.length→((a.zip b).all fun p=>eqT (f p.1) (f p.2))=eqL (a.map f) (b.map f)
 | [],[],_=>rfl
 | [],_::_,h=>by simp at h
 | _::_,[],h=>by simp at h
 | x::a,y::b,h=>by
  have ih:=Z9l f a b (by simpa using h)
  rw [List.zip_cons_cons,List.all_cons,ih];rfl
theorem Z9r:∀ (a b:List Tr),a.length≠b.length→eqL a b=false
 | [],[],h=>by simp at h
 | [],_::_,_=>rfl
 | _::_,[],_=>rfl
 | x::a,y::b,h=>by rw [Zw6,Z9r a b (by simpa using h),Bool.and_false]
theorem Zmi {t:Tr} (h:t.Kind=0):nrm t=⟨0,[],[]⟩:=by rw [Zh6,if_pos h]
theorem Za4 {t:Tr} (h:t.Kind=1):nrm t=⟨1,tr (fun x=>x == 0) t.Words,tr (fun x=>x.Kind == 0) (t.Kids.map nrm)⟩:=by rw [Zh6,if_neg (by rw [h];decide),if_pos h]
theorem Ze4 {t:Tr} (h0:¬ t.Kind=0) (h1:¬ t.Kind=1):nrm t=⟨t.Kind,t.Words,t.Kids.map nrm⟩:=by rw [Zh6,if_neg h0,if_neg h1]
theorem Zyx (t:Tr):0 < SizeOf.sizeOf t:=by
 obtain ⟨k,w,ks⟩:=t
 simp only [Zb.mk.sizeOf_spec]
 omega
theorem Zw7:∀ (k:Nat),(∀ a b:Tr,Bd a→Bd b→2 * SizeOf.sizeOf a < k→(Qq k).1 a b=some (eqT (nrm a) (nrm b))) ∧
  (∀ (l m:List Tr),(∀ x∈l,Bd x∧2 * SizeOf.sizeOf x+1 < k)→(∀ x∈m,Bd x)→(l.length:Int)≤140737488355328→1≤k→(Qq k).2 l m=some (eqL (l.map nrm) (m.map nrm)))
 | 0=>⟨fun a b _ _ h=>by omega,fun l m hl hm hn h=>by omega⟩
 | k+1=>by
  obtain ⟨i1,i2⟩:=Zw7 k
  refine ⟨fun a b ha hb hk => ?_,fun l m hl hm hn h => ?_⟩
  ·have hp:=Zyx a
   have hw:=ha.w
   have hkd:=ha.k
   have hw':=hb.w
   have hkd':=hb.k
   show Zhq (Qq k).1 (Qq k).2 a b=_
   unfold Zhq
   rw [Ycr,Za3,Za3]
   by_cases h0:a.Kind=b.Kind
   ·have e0:(a.Kind != b.Kind)=false:=by simp [h0]
    have e1:(a.Kind == b.Kind)=true:=by simp [h0]
    rw [e0,e1,cond_false,Bool.true_and]
    by_cases hz:a.Kind=0
    ·have e2:(a.Kind == 0)=true:=by simp [hz]
     rw [e2,cond_true,Zh6 a,Zh6 b,if_pos hz,if_pos (h0 ▸ hz)]
     rfl
    have e2:(a.Kind == 0)=false:=by simp [hz]
    rw [e2,cond_false]
    have rec_:∀ l m:List Tr,(∀ x∈l,x∈a.Kids)→(∀ x∈m,x∈b.Kids)→l.length≤a.Kids.length→(Qq k).2 l m=some (eqL (l.map nrm) (m.map nrm)):=fun l m h1 h2 h3 =>
     i2 l m (fun x hx=>⟨ha.all x (h1 x hx),by have:=Zcw (h1 x hx);omega⟩) (fun x hx=>hb.all x (h2 x hx)) (by omega) (by omega)
    by_cases h1:a.Kind=1
    ·have e3:(a.Kind == 1)=true:=by simp [h1]
     have l1:=Zpb (fun x:Int=>x == 0) a.Words
     have l2:=Zpb (fun x:Tr=>x.Kind == 0) a.Kids
     have q1:∀ l:List Tr,tr (fun x:Tr=>x.Kind == 0) (l.map nrm)=(tr (fun x:Tr=>x.Kind == 0) l).map nrm:=Z4x (fun x=>by rw [Za3])
     rw [e3,cond_true,Znm (by omega),Option.bind_some,Znm (by omega),Option.bind_some,Z0u (by omega),Option.bind_some,Zpc (by omega),Option.bind_some,Zpc (by omega),Option.bind_some,
      rec_ _ _ (fun x hx=>Zhe hx) (fun x hx=>Zhe hx) l2,Option.bind_some,Za4 h1,Za4 (h0 ▸ h1)]
     simp only [q1]
     cases tr (fun x=>x == 0) a.Words == tr (fun x=>x == 0) b.Words <;> rfl
    have e3:(a.Kind == 1)=false:=by simp [h1]
    rw [e3,cond_false,Z0u (by omega),Option.bind_some,rec_ _ _ (fun x hx=>hx) (fun x hx=>hx) (Nat.le_refl _),Option.bind_some,Ze4 hz h1,Ze4 (fun q=>hz (h0.trans q)) (fun q=>h1 (h0.trans q))]
    simp only
    cases a.Words == b.Words <;> rfl
   have e0:(a.Kind != b.Kind)=true:=by simp [h0]
   have e1:(a.Kind == b.Kind)=false:=by simp [h0]
   rw [e0,e1];rfl
  show Ys (Qq k).1 (Qq k).2 l m=_
  unfold Ys
  rw [Yc8]
  by_cases hlm:l.length=m.length
  ·have:(!(l.length == m.length))=false:=by simp [hlm]
   rw [this,cond_false,Ybq l m (fun x y=>eqT (nrm x) (nrm y)) (Yl (Qq k).1 l m) (.inl ()) (.inr ()) hlm hn (fun i x y hi hx hy hmx hmy=>by
    unfold Yl
    rw [Zbe hi,cond_true,Yw hx,Option.bind_some,Yw hy,Option.bind_some,i1 x y (hl x hmx).1 (hm y hmy) (by have:=(hl x hmx).2;omega),Option.bind_some]
    cases eqT (nrm x) (nrm y) <;> rfl) (by unfold Yl;rw [Zd1];rfl)]
   rw [Z9l nrm l m hlm]
   cases eqL (l.map nrm) (m.map nrm) <;> rfl
  have:(!(l.length == m.length))=true:=by simp [hlm]
  rw [this,cond_true,Z9r _ _ (by simpa using hlm)]
theorem Ycs {a b:Tr} (ha:Bd a) (hb:Bd b):Zm6 a b=some (eqT (nrm a) (nrm b)):=Zgc (2 * SizeOf.sizeOf a+1) fun k hk=>(Zw7 k).1 a b ha hb (by omega)
def pt (t:Tr):Nat:=1+t.Words.length+(t.Kids.attach.map fun k=>pt k.1).sum
termination_by SizeOf.sizeOf t
decreasing_by exact Zcw k.2
theorem Zym (t:Tr):pt t=1+t.Words.length+(t.Kids.map pt).sum:=by
 rw [pt]
 simp only [List.attach_map_val]
theorem Zro:∀ (k:Nat) (t:Tr) (d left:Int),Bd t→SizeOf.sizeOf t < k→0≤d→d≤100→0≤left→left≤1000000→∃ r,Xm k t d left=some r∧-1≤r∧r≤1000000∧(0≤r→r+pt t≤left)
 | 0,t,_,_,_,h,_,_,_,_=>by omega
 | k+1,t,d,left,hb,hk,hd0,hd1,hl0,hl1=>by
  have ih:∀ x∈t.Kids,∀ d left:Int,0≤d→d≤100→0≤left→left≤1000000→∃ r,Xm k x d left=some r∧-1≤r∧r≤1000000∧(0≤r→r+pt x≤left):=fun x hx d left=>Zro k x d left (hb.all x hx) (by have:=Zcw hx;omega)
  have hw:=hb.w
  have hkd:=hb.k
  show ∃ r,Jj (Xm k) t d left=some r∧_
  unfold Jj
  rw [Ul (x:=left - 1) (by omega) (by omega),Ul (by omega) (by omega),Zym]
  cases hc:cond (d == 0) true (decide (left - 1 - (t.Words.length:Int) < 0)) with
  | true=>exact ⟨-1,rfl,by omega,by omega,fun h=>by omega⟩
  | false =>
   rw [cond_false]
   have hd:¬ d=0∧0≤left - 1 - (t.Words.length:Int):=by
    by_cases h:d=0
    ·simp [h] at hc
    have e:(d == 0)=false:=by simp [h]
    rw [e,cond_false,decide_eq_false_iff_not] at hc
    exact ⟨h,by omega⟩
   obtain ⟨r,h1,h2⟩:=Zbx (step:=Q8 (Xm k) t d)
    (fun s=>∃ j:Nat,s.2=j∧j≤t.Kids.length∧-1≤s.1∧s.1≤1000000∧(0≤s.1→s.1+(((t.Kids.take j).map pt).sum:Nat)≤left - 1 - (t.Words.length:Int)))
    (fun s=>t.Kids.length - s.2.toNat) (fun r=>-1≤r∧r≤1000000∧(0≤r→r+((t.Kids.map pt).sum:Nat)≤left - 1 - (t.Words.length:Int))) (fun s hI=>by
     obtain ⟨l,i⟩:=s
     obtain ⟨j,rfl,hj,g1,g2,g3⟩:=hI
     simp only at g1 g2 g3 ⊢
     unfold Q8
     simp only
     by_cases hji:j < t.Kids.length
     ·rw [Zbe hji,cond_true]
      by_cases hl:0≤l
      ·have e:decide (0≤l)=true:=by simp [hl]
       have hx:t.Kids[j]? = some t.Kids[j]:=List.getElem?_eq_getElem hji
       obtain ⟨r,q1,q2,q3,q4⟩:=ih t.Kids[j] (List.getElem_mem hji) (d - 1) l (by omega) (by omega) hl g2
       rw [e,cond_true,Yw hx,Option.bind_some,Ul (by omega) (by omega),q1,Option.bind_some,Ul (by omega) (by omega)]
       refine .inl ⟨_,rfl,⟨j+1,by simp only;omega,by omega,q2,q3,fun hr => ?_⟩,by simp only;omega⟩
       have:=q4 hr
       have:=g3 hl
       rw [List.take_add_one,hx]
       simp only [Option.toList_some,List.map_append,List.map_cons,List.map_nil,List.sum_append,List.sum_cons,List.sum_nil]
       simp only at hr
       omega
      have e:decide (0≤l)=false:=by simp [hl]
      rw [e,cond_false]
      exact .inr ⟨l,rfl,g1,g2,fun h=>absurd h hl⟩
     have hj':j=t.Kids.length:=by omega
     subst hj'
     rw [Zd1,cond_false]
     rw [List.take_length] at g3
     exact .inr ⟨l,rfl,g1,g2,g3⟩) (left - 1 - (t.Words.length:Int),0) ⟨0,rfl,Nat.zero_le _,by simp only;omega,by simp only;omega,fun _=>by simp⟩
   rw [h1]
   refine ⟨r,rfl,h2.1,h2.2.1,fun hr => ?_⟩
   have:=h2.2.2 hr
   omega
theorem Zmf {α:Type} {xs:List α} {i:Int} {x:α} (h:Xr xs i=some x):x∈xs:=List.mem_of_getElem? (Zsj h)
theorem Znh:∀ (k k':Nat) (t:Tr) (d left:Int),SizeOf.sizeOf t < k→SizeOf.sizeOf t < k'→Xm k t d left=Xm k' t d left
 | 0,_,t,_,_,h,_=>by omega
 | k+1,0,t,_,_,_,h=>by omega
 | k+1,k'+1,t,d,left,h,h'=>by
  show Jj (Xm k) t d left=Jj (Xm k') t d left
  have e:Q8 (Xm k) t d=Q8 (Xm k') t d:=funext fun s=>by
   unfold Q8
   cases hx:Xr t.Kids s.2 with
   | none=>rfl
   | some x=>simp only [Option.bind_some,Znh k k' x (IntKind.i64.wrap (d - 1)) s.1 (by have:=Zcw (Zmf hx);omega) (by have:=Zcw (Zmf hx);omega)]
  unfold Jj
  rw [e]
theorem Yij {t:Tr} (h:Bd t):∃ b,Zcc t=some b∧(b=true→pt t≤3000):=by
 obtain ⟨r,h1,h2,h3,h4⟩:=Zro (SizeOf.sizeOf t+1) t 80 3000 h (by omega) (by omega) (by omega) (by omega) (by omega)
 have hr:Q0 t 80 3000=some r:=Zgc (SizeOf.sizeOf t+1) fun k hk=>by rw [Znh k (SizeOf.sizeOf t+1) t 80 3000 (by omega) (by omega)];exact h1
 unfold Zcc
 rw [hr,Option.bind_some]
 refine ⟨_,rfl,fun hb => ?_⟩
 have:=h4 (by simpa using hb)
 have:0≤r:=by simpa using hb
 omega
theorem Z95 {α:Type} {f:α→Nat} {x:α}:∀ {l:List α},x∈l→f x≤(l.map f).sum
 | y::l,h=>by
  simp only [List.map_cons,List.sum_cons]
  rcases List.mem_cons.1 h with rfl | h
  ·omega
  have:=Z95 (f:=f) h
  omega
theorem Z7r {t x:Tr} (h:x∈t.Kids):pt x≤pt t:=by
 rw [Zym t]
 have:=Z95 (f:=pt) h
 omega
theorem Zpy {t:Tr} (h:Bd t) {left:Int} (h0:0≤left) (h1:left≤1000000):∃ r,Q0 t 80 left=some r∧-1≤r∧r≤1000000∧(0≤r→r+pt t≤left):=by
 obtain ⟨r,h2,h3⟩:=Zro (SizeOf.sizeOf t+1) t 80 left h (by omega) (by omega) (by omega) h0 h1
 exact ⟨r,Zgc (SizeOf.sizeOf t+1) fun k hk=>by rw [Znh k (SizeOf.sizeOf t+1) t 80 left (by omega) (by omega)];exact h2,h3⟩
def wid (c:Int):Nat:=if c=0 then 0 else if c=1 then 1 else if c=2 then 8 else if c=3 then 16 else if c=4 then 32 else 64
def Zu9 (c w:Int):Bool:=decide (w < 2 ^ wid c)
theorem Zw2 {c:Int} (h0:0≤c) (h1:c≤5):c=0∨c=1∨c=2∨c=3∨c=4∨c=5:=by omega
theorem Yfh {c w:Int} (h0:0≤c) (h1:c≤5) (hw:0≤w):Zjq c w=some (Zu9 c w):=by
 have key:∀ n:Nat,n≤64→(Int.fdiv w (2 ^ min (Int.toNat (n:Int)) 64) == 0)=decide (w < 2 ^ n):=fun n hn=>by
  rw [Int.toNat_natCast,Nat.min_eq_left hn,Int.fdiv_eq_ediv_of_nonneg _ (Int.le_of_lt (Int.pow_pos (by decide)))]
  have hp:(0:Int) < 2 ^ n:=Int.pow_pos (by decide)
  rw [Bool.eq_iff_iff,beq_iff_eq,decide_eq_true_eq]
  constructor
  ·intro h
   rcases Int.lt_or_le w (2 ^ n) with h2 | h2
   ·exact h2
   have:=Int.ediv_le_ediv hp h2
   rw [Int.ediv_self (Int.ne_of_gt hp)] at this
   omega
  intro h;exact Int.ediv_eq_zero_of_lt hw h
 have e:∀ n:Nat,n≤64→(some (((n:Int),true):Int×Bool)).bind (fun y2=>(cond y2.2 ((Zmy (0≤y2.1)).bind fun u5=>some (cond y2.2 ((Int.fdiv w (2 ^ min (Int.toNat y2.1) 64)) == 0) false)) (some false)).bind fun (z4:Bool)=>some z4)=some (decide (w < 2 ^ n)):=fun n hn=>by
  rw [Option.bind_some]
  simp only [cond_true]
  rw [Ztz (by omega),Option.bind_some,Option.bind_some,key n hn]
 unfold Zjq Zu9
 rcases Zw2 h0 h1 with rfl | rfl | rfl | rfl | rfl | rfl
 ·exact e 0 (by decide)
 ·exact e 1 (by decide)
 ·exact e 8 (by decide)
 ·exact e 16 (by decide)
 ·exact e 32 (by decide)
 exact e 64 (by decide)
theorem Z75 (n:Nat) (hn:n≤64) (w:Int) (h0:0≤w) (h1:w < 18446744073709551616):Zw (Jl (n:Int)) (w,0)=some (w / 2 ^ n):=by
 have key:∀ m i:Nat,i+m=n→Zw (Jl (n:Int)) (w / 2 ^ i,(i:Int))=some (w / 2 ^ n):=fun m=>by
  induction m with
  | zero =>
   intro i hi
   have:i=n:=by omega
   subst this
   refine Z8 ?_
   unfold Jl
   simp only
   rw [Zd1,cond_false]
  | succ m ih =>
   intro i hi
   have hp:(0:Int) < 2 ^ i:=Int.pow_pos (by decide)
   have q0:0≤w / 2 ^ i:=Int.ediv_nonneg h0 (Int.le_of_lt hp)
   have q1:w / 2 ^ i≤w:=Int.ediv_le_self _ h0
   have hs:Jl (n:Int) (w / 2 ^ i,(i:Int))=some (.inl (w / 2 ^ (i+1),((i+1:Nat):Int))):=by
    unfold Jl
    simp only
    rw [Zbe (by omega),cond_true,Ul (by omega) (by omega),Int.tdiv_eq_ediv_of_nonneg q0]
    have e:w / 2 ^ i / 2=w / 2 ^ (i+1):=by rw [Int.ediv_ediv_of_nonneg (Int.le_of_lt hp),Int.pow_succ]
    have q2:0≤w / 2 ^ i / 2:=Int.ediv_nonneg q0 (by decide)
    have q3:w / 2 ^ i / 2≤w / 2 ^ i:=Int.ediv_le_self _ q0
    have e3:IntKind.u64.wrap (w / 2 ^ i / 2)=w / 2 ^ i / 2:=by
     exact Yfb ⟨q2,by omega⟩
    rw [e3,e]
    rfl
   rw [Yr hs]
   exact ih (i+1) (by omega)
 have:=key n 0 (by omega)
 simpa using this
theorem Yd6 {c w:Int} (h0:0≤c) (h1:c≤5) (hw:0≤w) (hw':w < 18446744073709551616):Gm c w=some (Zu9 c w):=by
 have e:∀ n:Nat,n≤64→(cond (decide ((n:Int) < 0)) (some false) ((Zw (Jl (n:Int)) (w,0)).bind fun (z4:Int)=>some (z4 == 0)))=some (decide (w < 2 ^ n)):=fun n hn=>by
  have:decide ((n:Int) < 0)=false:=by rw [decide_eq_false_iff_not];omega
  have hp:(0:Int) < 2 ^ n:=Int.pow_pos (by decide)
  rw [this,cond_false,Z75 n hn w hw hw',Option.bind_some]
  congr 1
  rw [Bool.eq_iff_iff,beq_iff_eq,decide_eq_true_eq]
  constructor
  ·intro h
   rcases Int.lt_or_le w (2 ^ n) with h2 | h2
   ·exact h2
   have:=Int.ediv_le_ediv hp h2
   rw [Int.ediv_self (Int.ne_of_gt hp)] at this
   omega
  intro h;exact Int.ediv_eq_zero_of_lt hw h
 unfold Gm Zu9
 rcases Zw2 h0 h1 with rfl | rfl | rfl | rfl | rfl | rfl
 ·exact e 0 (by decide)
 ·exact e 1 (by decide)
 ·exact e 8 (by decide)
 ·exact e 16 (by decide)
 ·exact e 32 (by decide)
 exact e 64 (by decide)
def okk (kind:Int) (k:Tr):Bool:=if 2≤kind∧kind≤7 then k.Kind == 10 && Zu9 (kind - 2) (k.Words.headD 0) else k.Kind != 10 && (kind != 9 || k.Kind == 1)
def rt (t:Tr) (d:Nat):Bool :=
 if t.Kind=0 then t.Words.length == 0 && t.Kids.length == 0
 else if t.Kind=10 then t.Words.length == 1 && t.Kids.length == 0
 else if t.Kind < 0∨10 < t.Kind∨d=0∨65536≤t.Words.length∨(t.Kind=1∧65536≤t.Kids.length)∨1048576≤t.Kids.length∨(1 < t.Kind∧0 < t.Words.length) then false
 else (t.Kids.attach.map fun k=>rt k.1 (d - 1) && okk t.Kind k.1).all id
termination_by SizeOf.sizeOf t
decreasing_by exact Zcw k.2
theorem Zmo (t:Tr) (d:Nat):rt t d=if t.Kind=0 then t.Words.length == 0 && t.Kids.length == 0
 else if t.Kind=10 then t.Words.length == 1 && t.Kids.length == 0
 else if t.Kind < 0∨10 < t.Kind∨d=0∨65536≤t.Words.length∨(t.Kind=1∧65536≤t.Kids.length)∨1048576≤t.Kids.length∨(1 < t.Kind∧0 < t.Words.length) then false
 else t.Kids.all fun k=>rt k (d - 1) && okk t.Kind k:=by
 rw [rt]
 have:(t.Kids.attach.map fun k=>rt k.1 (d - 1) && okk t.Kind k.1)=t.Kids.map fun k=>rt k (d - 1) && okk t.Kind k:=List.attach_map_val (f:=fun k=>rt k (d - 1) && okk t.Kind k)
 rw [this,List.all_map]
 rfl
theorem Yg3 {t:Tr} (h:t.Kind=10) (d d':Nat):rt t d=rt t d':=by
 have h0:¬ t.Kind=0:=by rw [h];decide
 rw [Zmo t d,Zmo t d']
 simp only [if_neg h0,if_pos h]
theorem Z1g {t:Tr} (h:t.Kind=10) {d:Nat} (hr:rt t d=true):∃ w,t.Words=[w]:=by
 rw [Zmo,if_neg (by omega),if_pos h,Bool.and_eq_true,beq_iff_eq] at hr
 obtain ⟨k,w,ks⟩:=t
 obtain ⟨h1,_⟩:=hr
 simp only at h1 ⊢
 exact List.length_eq_one_iff.1 h1
theorem Z7s {n:Nat}:((n:Int) == 0)=(n == 0):=by rw [Bool.eq_iff_iff,beq_iff_eq,beq_iff_eq];omega
theorem Yjm {n:Nat}:((n:Int) == 1)=(n == 1):=by rw [Bool.eq_iff_iff,beq_iff_eq,beq_iff_eq];omega
theorem Zeq (a b:Bool):cond a b false=(a && b):=by cases a <;> rfl
theorem Z9k {α:Type} (p:α→Bool):∀ l:List α,l.any (fun x => !p x) = !(l.all p)
 | []=>rfl
 | x::l=>by rw [List.any_cons,List.all_cons,Z9k p l];cases p x <;> rfl
theorem Zh1 {α R:Type} (xs:List α) (step:Int→Option (Int ⊕ R)) (p:α→Bool) (e o:R) (hl:(xs.length:Int)≤140737488355328)
  (h1:∀ (i:Nat) (x:α),i < xs.length→xs[i]? = some x→x∈xs→step i=some (if p x=true then .inl (IntKind.i64.wrap ((i:Int)+1)) else .inr e)) (h2:step xs.length=some (.inr o)):Zw step 0=some (if xs.all p=true then o else e):=by
 rw [Zxy xs step (fun x => !p x) e o hl (fun i x hi hx hm=>by rw [h1 i x hi hx hm];cases p x <;> rfl) h2,Z9k]
 cases xs.all p <;> rfl
theorem Z1f:∀ (k:Nat) (t:Tr) (d:Nat),Bd t→SizeOf.sizeOf t < k→d≤64→Ks k t (d:Int)=some (rt t d)
 | 0,t,d,_,h,_=>by omega
 | k+1,t,d,hb,hk,hd=>by
  have hkd:=hb.k
  show Zai (Ks k) t (d:Int)=_
  unfold Zai
  rw [Zmo,Z7s,Yjm]
  by_cases h0:t.Kind=0
  ·rw [if_pos h0,h0]
   simp only [Z7s,Zeq]
   rfl
  have e0:(t.Kind == 0)=false:=by simp [h0]
  rw [if_neg h0,e0,cond_false]
  by_cases h10:t.Kind=10
  ·rw [if_pos h10,h10]
   simp only [Z7s,Zeq]
   rfl
  have e10:(t.Kind == 10)=false:=by simp [h10]
  rw [if_neg h10,e10,cond_false]
  by_cases hbad:t.Kind < 0∨10 < t.Kind∨d=0∨65536≤t.Words.length∨(t.Kind=1∧65536≤t.Kids.length)∨1048576≤t.Kids.length∨(1 < t.Kind∧0 < t.Words.length)
  ·rw [if_pos hbad]
   have hc:∀ c1 c2 c3 c4 c5 c6 c7 c8:Bool,(c1=true∨c2=true∨c3=true∨c4=true∨(c5=true∧c6=true)∨c7=true∨c8=true)→∀ X:Option Bool,
     cond (cond (cond (cond (cond (cond c1 true c2) true c3) true c4) true (cond c5 c6 false)) true c7) (some false) (cond c8 (some false) X)=some false:=by
    intro c1 c2 c3 c4 c5 c6 c7 c8 h X
    cases c1 <;> cases c2 <;> cases c3 <;> cases c4 <;> cases c5 <;> cases c6 <;> cases c7 <;> cases c8 <;> first | rfl | (simp at h;done)
   refine hc _ _ _ _ _ _ _ _ ?_ _
   simp only [decide_eq_true_eq,beq_iff_eq,Zeq,Bool.and_eq_true]
   omega
  rw [if_neg hbad]
  have hg:¬ t.Kind < 0∧¬ 10 < t.Kind∧¬ d=0∧¬ 65536≤t.Words.length∧¬ (t.Kind=1∧65536≤t.Kids.length)∧¬ 1048576≤t.Kids.length∧¬ (1 < t.Kind∧0 < t.Words.length):=by omega
  have hc:∀ c1 c2 c3 c4 c5 c7 c8:Bool,c1=false→c2=false→c3=false→c4=false→c5=false→c7=false→c8=false→∀ X:Option Bool,
    cond (cond (cond (cond (cond (cond c1 true c2) true c3) true c4) true c5) true c7) (some false) (cond c8 (some false) X)=X:=by
   intro c1 c2 c3 c4 c5 c7 c8 h1 h2 h3 h4 h5 h7 h8 X
   subst h1 h2 h3 h4 h5 h7 h8
   rfl
  rw [hc _ _ _ _ _ _ _ (decide_eq_false hg.1) (decide_eq_false hg.2.1) (by rw [beq_eq_false_iff_ne];omega) (by rw [decide_eq_false_iff_not];omega) (by rw [Zeq,Bool.and_eq_false_iff,beq_eq_false_iff_ne,decide_eq_false_iff_not];omega) (by rw [decide_eq_false_iff_not];omega) (by rw [Zeq,Bool.and_eq_false_iff,decide_eq_false_iff_not,decide_eq_false_iff_not];omega)]
  obtain ⟨d',rfl⟩:∃ d',d=d'+1:=⟨d - 1,by omega⟩
  have ih:∀ x∈t.Kids,Ks k x (d':Int)=some (rt x d'):=fun x hx=>Z1f k x d' (hb.all x hx) (by have:=Zcw hx;omega) (by omega)
  rw [Zh1 t.Kids (Uo (Ks k) t ((d'+1:Nat):Int)) (fun x=>rt x d' && okk t.Kind x) (.inl ()) (.inr ()) (by omega) (fun i x hi hx hm=>by
   unfold Uo
   have ed:((d'+1:Nat):Int) - 1=(d':Int):=by omega
   rw [Zbe hi,cond_true,Yw hx,Option.bind_some,Ul (x:=((d'+1:Nat):Int) - 1) (by omega) (by omega),ed,ih x hm,Option.bind_some]
   cases hr:rt x d' with
   | false=>rfl
   | true =>
    rw [Bool.not_true,cond_false,Bool.true_and]
    unfold okk
    by_cases hdt:2≤t.Kind∧t.Kind≤7
    ·have e2:decide (2≤t.Kind)=true:=decide_eq_true hdt.1
     have e7:decide (t.Kind≤7)=true:=decide_eq_true hdt.2
     have e9:(t.Kind == 9)=false:=by rw [beq_eq_false_iff_ne];omega
     rw [e2,e7,e9,if_pos hdt]
     simp only [cond_true,cond_false]
     by_cases hx10:x.Kind=10
     ·obtain ⟨w,hw⟩:=Z1g hx10 hr
      have hu:=(hb.all x hm).u w (by rw [hw];exact .head _)
      have ex:(x.Kind == 10)=true:=by simp [hx10]
      have ex2:((true:Bool) != true)=false:=rfl
      have hg0:Xr [w] (0:Int)=some w:=rfl
      rw [ex,ex2,cond_false,hw,hg0,Option.bind_some,Ul (by omega) (by omega),Yd6 (by omega) (by omega) hu.1 hu.2,Option.bind_some]
      simp only [cond_false,List.headD_cons,Bool.true_and]
      cases Zu9 (t.Kind - 2) w <;> rfl
     have ex:(x.Kind == 10)=false:=by simp [hx10]
     rw [ex]
     rfl
    have ed2:cond (decide (2≤t.Kind)) (decide (t.Kind≤7)) false=false:=by
     rw [Zeq,Bool.and_eq_false_iff,decide_eq_false_iff_not,decide_eq_false_iff_not];omega
    rw [ed2,if_neg hdt]
    have hin:∀ (X:Option Bool) (b:Bool),(cond (decide (2≤t.Kind)) (cond (decide (t.Kind≤7)) X (some b)) (some b))=some b:=fun X b=>by
     by_cases h2:2≤t.Kind
     ·have h7:decide (t.Kind≤7)=false:=by rw [decide_eq_false_iff_not];omega
      rw [decide_eq_true h2,h7];rfl
     rw [decide_eq_false h2];rfl
    by_cases hx10:x.Kind=10
    ·have ex:(x.Kind == 10)=true:=by simp [hx10]
     have ex2:(x.Kind != 10)=false:=by simp [hx10]
     rw [ex,ex2]
     rfl
    have ex:(x.Kind == 10)=false:=by simp [hx10]
    have ex2:(x.Kind != 10)=true:=by simp [hx10]
    have ex3:((false:Bool) != false)=false:=rfl
    rw [ex,ex2,ex3,cond_false]
    simp only [cond_false]
    rw [hin]
    by_cases h9:t.Kind=9
    ·have e9:(t.Kind == 9)=true:=by simp [h9]
     have e9':(t.Kind != 9)=false:=by simp [h9]
     rw [e9,e9',cond_true]
     by_cases hx1:x.Kind=1
     ·have q1:(x.Kind != 1)=false:=by simp [hx1]
      have q2:(x.Kind == 1)=true:=by simp [hx1]
      rw [q1,q2,cond_false]
      rfl
     have q1:(x.Kind != 1)=true:=by simp [hx1]
     have q2:(x.Kind == 1)=false:=by simp [hx1]
     rw [q1,q2,cond_true]
     rfl
    have e9:(t.Kind == 9)=false:=by simp [h9]
    have e9':(t.Kind != 9)=true:=by simp [h9]
    rw [e9,e9']
    rfl) (by unfold Uo;rw [Zd1];rfl),Option.bind_some,Nat.add_sub_cancel]
  cases t.Kids.all fun x=>rt x d' && okk t.Kind x <;> rfl
theorem Zpx {t:Tr} (h:Bd t) {d:Nat} (hd:d≤64):U0 t (d:Int)=some (rt t d):=Zgc (SizeOf.sizeOf t+1) fun k hk=>Z1f k t d h (by omega) hd
theorem Z2s (n:Int):Ze1 n=some (decide (2≤n) && decide (n≤9)):=by unfold Ze1;rw [Zeq]
theorem Z79 {l:List Tr} (hl:(l.length:Int)≤140737488355328):Zbt l=some (l.all fun x=>x.Kind == 1):=by
 unfold Zbt
 rw [Zh1 l (Gh l) (fun x=>x.Kind == 1) (.inl ()) (.inr ()) hl (fun i x hi hx hm=>by
  unfold Gh
  rw [Zbe hi,cond_true,Yw hx,Option.bind_some]
  simp only [bne]
  cases x.Kind == 1 <;> rfl) (by unfold Gh;rw [Zd1];rfl),Option.bind_some]
 cases l.all fun x=>x.Kind == 1 <;> rfl
theorem Zvw {α:Type} (p q:α→Bool):∀ l:List α,(l.all fun x=>p x && q x)=(l.all p && l.all q)
 | []=>rfl
 | x::l=>by rw [List.all_cons,List.all_cons,List.all_cons,Zvw p q l];cases p x <;> cases q x <;> cases l.all p <;> cases l.all q <;> rfl
theorem Z0q {α:Type} {p q:α→Bool}:∀ {l:List α},(∀ x∈l,p x=q x)→l.all p=l.all q
 | [],_=>rfl
 | x::l,h=>by rw [List.all_cons,List.all_cons,h x (.head _),Z0q fun y hy=>h y (.tail _ hy)]
def rq (t:Tr) (d:Nat):Bool:=rt t d && t.Kind != 10
def ra (c:Int) (x:Tr):Bool:=x.Kind == 10 && (rt x 64 && Zu9 c (x.Words.headD 0))
theorem Z6c:∀ (k:Nat),(∀ t:Tr,Bd t→(2 * SizeOf.sizeOf t+1 < k∨(t.Kind=10∧0 < k))→(Z4 k).1 t=some (rt t 64)) ∧
  (∀ (t:Tr) (d:Nat),Bd t→2 * SizeOf.sizeOf t < k→d≤64→(Z4 k).2.1 t (d:Int)=some (rq t d)) ∧
  (∀ (l:List Tr) (d:Nat),(∀ x∈l,Bd x∧2 * SizeOf.sizeOf x+1 < k)→(l.length:Int)≤140737488355328→d≤64→1≤k→(Z4 k).2.2.1 l (d:Int)=some (l.all fun x=>rq x d)) ∧
  (∀ (l:List Tr) (c:Int),(∀ x∈l,Bd x)→(l.length:Int)≤140737488355328→0≤c→c≤5→2≤k→(Z4 k).2.2.2 l c=some (l.all (ra c)))
 | 0=>⟨fun t _ h=>by omega,fun t d _ h=>by omega,fun l d _ _ _ h=>by omega,fun l c _ _ _ _ h=>by omega⟩
 | k+1=>by
  obtain ⟨i1,i2,i3,i4⟩:=Z6c k
  refine ⟨fun t hb hk => ?_,fun t d hb hk hd => ?_,fun l d hl hn hd hk => ?_,fun l c hl hn h0 h5 hk => ?_⟩
  ·show Zhr (Z4 k).1 (Z4 k).2.1 (Z4 k).2.2.1 (Z4 k).2.2.2 t=_
   unfold Zhr
   rw [Z7s,Yjm]
   by_cases h10:t.Kind=10
   ·have e:(t.Kind == 10)=true:=by simp [h10]
    rw [e,cond_true,Zeq,Zmo,if_neg (by rw [h10];decide),if_pos h10]
   have e:(t.Kind == 10)=false:=by simp [h10]
   have e2:(t.Kind != 10)=true:=by simp [h10]
   have:=i2 t 64 hb (by rcases hk with hk | hk;omega;exact absurd hk.1 h10) (by decide)
   rw [e,cond_false,show (64:Int)=((64:Nat):Int) from rfl,this,Option.bind_some]
   unfold rq
   rw [e2,Bool.and_true]
  ·have hkd:=hb.k
   have hw:=hb.w
   show Zhs (Z4 k).1 (Z4 k).2.1 (Z4 k).2.2.1 (Z4 k).2.2.2 t (d:Int)=_
   unfold Zhs rq
   rw [Z7s,Z7s,Zmo]
   by_cases h0:t.Kind=0
   ·have e:(t.Kind == 0)=true:=by simp [h0]
    have e2:(t.Kind != 10)=true:=by rw [h0];rfl
    rw [e,e2,cond_true,Zeq,if_pos h0,Bool.and_true]
   have e0:(t.Kind == 0)=false:=by simp [h0]
   rw [e0,cond_false,if_neg h0]
   by_cases hd0:d=0
   ·subst hd0
    have e:(((0:Nat):Int) == 0)=true:=rfl
    rw [e,cond_true]
    by_cases h10:t.Kind=10
    ·simp [h10]
    rw [if_neg h10,if_pos (by omega),Bool.false_and]
   have ed:((d:Int) == 0)=false:=by rw [beq_eq_false_iff_ne];omega
   rw [ed,cond_false]
   obtain ⟨d',rfl⟩:∃ d',d=d'+1:=⟨d - 1,by omega⟩
   have e3:((d'+1:Nat):Int) - 1=(d':Int):=by omega
   have ih3:=i3 t.Kids d' (fun x hx=>⟨hb.all x hx,by have:=Zcw hx;omega⟩) (by omega) (by omega) (by have:=Zyx t;omega)
   rw [Ul (x:=((d'+1:Nat):Int) - 1) (by omega) (by omega),e3,ih3,Nat.add_sub_cancel]
   by_cases h1:t.Kind=1
   ·have e:(t.Kind == 1)=true:=by simp [h1]
    have e2:(t.Kind != 10)=true:=by rw [h1];rfl
    have e10:¬ t.Kind=10:=by omega
    have ho:∀ x:Tr,okk t.Kind x=(x.Kind != 10):=fun x=>by unfold okk;rw [h1,if_neg (by decide)];simp
    rw [e,e2,cond_true,if_neg e10,Bool.and_true]
    simp only [ho]
    by_cases hw':t.Words.length < 65536
    ·have q1:decide ((t.Words.length:Int) < 65536)=true:=by rw [decide_eq_true_eq];omega
     by_cases hk':t.Kids.length < 65536
     ·have q2:decide ((t.Kids.length:Int) < 65536)=true:=by rw [decide_eq_true_eq];omega
      rw [q1,q2,if_neg (by omega)]
      rfl
     have q2:decide ((t.Kids.length:Int) < 65536)=false:=by rw [decide_eq_false_iff_not];omega
     rw [q1,q2,if_pos (by omega)]
     rfl
    have q1:decide ((t.Words.length:Int) < 65536)=false:=by rw [decide_eq_false_iff_not];omega
    rw [q1,if_pos (by omega)]
    rfl
   have e1:(t.Kind == 1)=false:=by simp [h1]
   rw [e1,cond_false,Z2s,Option.bind_some]
   by_cases hbad:¬ (2≤t.Kind∧t.Kind≤9)∨0 < t.Words.length∨1048576≤t.Kids.length
   ·have q:cond (cond (!(decide (2≤t.Kind) && decide (t.Kind≤9))) true (decide (0 < (t.Words.length:Int)))) true (decide (1048576≤(t.Kids.length:Int)))=true:=by
     cases hq:cond (cond (!(decide (2≤t.Kind) && decide (t.Kind≤9))) true (decide (0 < (t.Words.length:Int)))) true (decide (1048576≤(t.Kids.length:Int))) with
     | true=>rfl
     | false =>
      have hc:∀ a b c:Bool,cond (cond (!a) true b) true c=false→a=true∧b=false∧c=false:=by decide
      obtain ⟨z1,z2,z3⟩:=hc _ _ _ hq
      rw [Bool.and_eq_true,decide_eq_true_eq,decide_eq_true_eq] at z1
      rw [decide_eq_false_iff_not] at z2 z3
      omega
    rw [q,cond_true]
    by_cases h10:t.Kind=10
    ·have e2:(t.Kind != 10)=false:=by simp [h10]
     rw [e2,Bool.and_false]
    rw [if_neg h10,if_pos (by omega),Bool.false_and]
   have hg:2≤t.Kind∧t.Kind≤9∧¬ 0 < t.Words.length∧¬ 1048576≤t.Kids.length:=by omega
   have q2:decide (0 < (t.Words.length:Int))=false:=by rw [decide_eq_false_iff_not];omega
   have q3:decide (1048576≤(t.Kids.length:Int))=false:=by rw [decide_eq_false_iff_not];omega
   have e10:¬ t.Kind=10:=by omega
   have e2:(t.Kind != 10)=true:=by simp [e10]
   rw [decide_eq_true hg.1,decide_eq_true hg.2.1,q2,q3,e2,if_neg e10,if_neg (by omega),Bool.and_true]
   simp only [Bool.and_true,Bool.not_true,cond_false]
   by_cases h8:t.Kind=8
   ·have e:(t.Kind == 8)=true:=by simp [h8]
    have ho:∀ x:Tr,okk t.Kind x=(x.Kind != 10):=fun x=>by unfold okk;rw [h8,if_neg (by decide)];simp
    rw [e,cond_true,Option.bind_some]
    simp only [ho]
    rfl
   have e8:(t.Kind == 8)=false:=by simp [h8]
   rw [e8,cond_false]
   by_cases h9:t.Kind=9
   ·have e:(t.Kind == 9)=true:=by simp [h9]
    have ho:∀ x:Tr,(rt x d' && okk t.Kind x)=(rq x d' && x.Kind == 1):=fun x=>by
     unfold okk rq
     rw [h9,if_neg (by decide)]
     have:((9:Int) != 9)=false:=rfl
     rw [this,Bool.false_or,Bool.and_assoc]
    rw [e,cond_true,Z79 (by omega),Option.bind_some]
    simp only [ho]
    rw [Zvw]
    cases t.Kids.all fun x=>x.Kind == 1 with
    | false=>rw [Bool.and_false];rfl
    | true=>rw [Bool.and_true];rfl
   have e:(t.Kind == 9)=false:=by simp [h9]
   have hd7:2≤t.Kind∧t.Kind≤7:=by omega
   rw [e,cond_false,Ul (by omega) (by omega),i4 t.Kids (t.Kind - 2) hb.all (by omega) (by omega) (by omega) (by have:=Zyx t;omega),Option.bind_some]
   congr 1
   refine Z0q fun x hx => ?_
   unfold okk ra
   rw [if_pos hd7]
   by_cases hx10:x.Kind=10
   ·rw [Yg3 hx10 d' 64]
    have:(x.Kind == 10)=true:=by simp [hx10]
    rw [this,Bool.true_and,Bool.true_and]
   have:(x.Kind == 10)=false:=by simp [hx10]
   rw [this,Bool.false_and,Bool.false_and,Bool.and_false]
  ·show Zdc (Z4 k).1 (Z4 k).2.1 (Z4 k).2.2.1 (Z4 k).2.2.2 l (d:Int)=_
   unfold Zdc
   rw [Zh1 l (Zas (Z4 k).2.1 l (d:Int)) (fun x=>rq x d) (.inl ()) (.inr ()) hn (fun i x hi hx hm=>by
    unfold Zas
    rw [Zbe hi,cond_true,Yw hx,Option.bind_some,i2 x d (hl x hm).1 (by have:=(hl x hm).2;omega) hd,Option.bind_some]
    cases rq x d <;> rfl) (by unfold Zas;rw [Zd1];rfl),Option.bind_some]
   cases l.all fun x=>rq x d <;> rfl
  show Zdb (Z4 k).1 (Z4 k).2.1 (Z4 k).2.2.1 (Z4 k).2.2.2 l c=_
  unfold Zdb
  rw [Zh1 l (Zar (Z4 k).1 l c) (ra c) (.inl ()) (.inr ()) hn (fun i x hi hx hm=>by
   unfold Zar ra
   rw [Zbe hi,cond_true,Yw hx,Option.bind_some]
   by_cases hx10:x.Kind=10
   ·have e:(x.Kind == 10)=true:=by simp [hx10]
    have e2:(x.Kind != 10)=false:=by simp [hx10]
    rw [e,e2,cond_false,i1 x (hl x hm) (.inr ⟨hx10,by omega⟩),Option.bind_some,Bool.true_and]
    cases hr:rt x 64 with
    | false=>rfl
    | true =>
     obtain ⟨w,hw⟩:=Z1g hx10 hr
     have hu:=(hl x hm).u w (by rw [hw];exact .head _)
     have hg0:Xr [w] (0:Int)=some w:=rfl
     rw [cond_true,hw,hg0,Option.bind_some,Yfh h0 h5 hu.1,Option.bind_some]
     simp only [cond_false,List.headD_cons,Bool.true_and,Bool.not_true]
     cases Zu9 c w <;> rfl
   have e:(x.Kind == 10)=false:=by simp [hx10]
   have e2:(x.Kind != 10)=true:=by simp [hx10]
   rw [e,e2]
   rfl) (by unfold Zar;rw [Zd1];rfl),Option.bind_some]
  cases l.all (ra c) <;> rfl
theorem Z6d {t:Tr} (h:Bd t):Zke t=some (rt t 64):=Zgc (2 * SizeOf.sizeOf t+2) fun k hk=>(Z6c k).1 t h (.inl (by omega))
theorem Zug (k:Nat):256 ^ k=2 ^ (8 * k):=by rw [Nat.pow_mul]
def V0 (m:Nat):Nat→Nat
 | 0=>0
 | k+1=>V0 m k+(if m / 2 ^ k % 2=1 then 255 * 256 ^ k else 0)
theorem Z6y (m:Nat):∀ k,V0 m k < 256 ^ k
 | 0=>by simp [V0]
 | k+1=>by
  have:=Z6y m k
  have h:256 ^ (k+1)=256 * 256 ^ k:=by rw [Nat.pow_succ,Nat.mul_comm]
  simp only [V0]
  split <;> omega
theorem Ybx {k:Nat} (hk:k < 8):256 ^ (k+1)≤2 ^ 64:=by
 rw [Zug];exact Nat.pow_le_pow_right (by decide) (by omega)
def Zn4 (m i:Nat):Bool:=decide (m / 2 ^ i % 2=1)
theorem Yig {m i:Nat} (h:Zn4 m i=true):m / 2 ^ i % 2=1:=of_decide_eq_true h
theorem Yif {m i:Nat} (h:Zn4 m i=false):¬ m / 2 ^ i % 2=1:=of_decide_eq_false h
theorem Ycj (q:Nat):((q:Int) % 2 == 1)=decide (q % 2=1):=by rw [Bool.eq_iff_iff];simp;omega
def Znn (f:Nat→Nat):Nat→Nat
 | 0=>0
 | k+1=>2 ^ (8 * k) * f k+Znn f k
theorem Zr8 (f:Nat→Nat) (hf:∀ k,f k < 256):∀ k,Znn f k < 2 ^ (8 * k)
 | 0=>by simp [Znn]
 | k+1=>by
  have h1:=Zr8 f hf k
  have h2:=hf k
  have h3:2 ^ (8 * (k+1))=2 ^ (8 * k) * 256:=by rw [Nat.mul_add,Nat.pow_add]
  have h4:2 ^ (8 * k) * f k≤2 ^ (8 * k) * 255:=Nat.mul_le_mul_left _ (by omega)
  simp only [Znn]
  omega
theorem Zpg (f:Nat→Nat) (hf:∀ k,f k < 256) (i:Nat):∀ k,Nat.testBit (Znn f k) i=(decide (i < 8 * k) && Nat.testBit (f (i / 8)) (i % 8))
 | 0=>by simp [Znn]
 | k+1=>by
  have h:=Zpg f hf i k
  simp only [Znn]
  rw [Nat.testBit_two_pow_mul_add _ (Zr8 f hf k)]
  by_cases h1:i < 8 * k
  ·rw [if_pos h1,h]
   simp [h1,show i < 8 * (k+1) by omega]
  rw [if_neg h1]
  by_cases h2:i < 8 * (k+1)
  ·have h3:i / 8=k:=by omega
   have h4:i - 8 * k=i % 8:=by omega
   rw [h3,h4]
   simp [h2]
  have h5:f k < 2 ^ (i - 8 * k):=Nat.lt_of_lt_of_le (hf k) (Nat.pow_le_pow_right (n:=2) (by decide) (show 8≤i - 8 * k by omega))
  rw [Nat.testBit_lt_two_pow h5]
  simp [h2]
def Zbn (n k:Nat):Nat:=n / 256 ^ k % 256
theorem Ycn (n k:Nat):Zbn n k < 256:=Nat.mod_lt _ (by decide)
theorem Ztr (n k j:Nat) (hj:j < 8):Nat.testBit (Zbn n k) j=Nat.testBit n (8 * k+j):=by
 unfold Zbn
 rw [Zug,show (256:Nat)=2 ^ 8 from rfl,Nat.testBit_mod_two_pow,Nat.testBit_div_two_pow]
 simp [hj,Nat.add_comm]
def Zl1 (a b m k:Nat):Nat:=if Zn4 m k then Zbn b k else Zbn a k
theorem Zv1 (a b m k:Nat):Zl1 a b m k < 256:=by unfold Zl1;split <;> exact Ycn _ _
def Zlm (a b m:Nat):Nat:=Znn (Zl1 a b m) 8
def Z6w (m k:Nat):Nat:=if Zn4 m k then 255 else 0
theorem Z6x (m k:Nat):Z6w m k < 256:=by unfold Z6w;split <;> decide
theorem Zu4 (m:Nat):∀ k,V0 m k=Znn (Z6w m) k
 | 0=>rfl
 | k+1=>by
  simp only [V0,Znn,Zu4 m k,Z6w,Zn4,decide_eq_true_eq]
  rw [Zug]
  split <;> omega
theorem Yie (j:Nat) (hj:j < 8):Nat.testBit 255 j=true:=by
 rw [show (255:Nat)=2 ^ 8 - 1 from rfl,Nat.testBit_two_pow_sub_one];simp [hj]
theorem Zu3 (m i:Nat) (hi:i < 64):Nat.testBit (V0 m 8) i=Zn4 m (i / 8):=by
 rw [Zu4,Zpg _ (Z6x m)]
 unfold Z6w
 have:=Yie (i % 8) (Nat.mod_lt _ (by decide))
 cases Zn4 m (i / 8) <;> simp [hi,this]
theorem Zi8 (m:Nat):V0 m 8 < 2 ^ 64:=by rw [Zu4];exact Zr8 _ (Z6x m) 8
theorem Z5y (a b m:Nat) (ha:a < 2 ^ 64) (hb:b < 2 ^ 64):(a &&& (18446744073709551615 - V0 m 8)) ||| (b &&& V0 m 8)=Zlm a b m:=by
 refine Nat.eq_of_testBit_eq fun i => ?_
 unfold Zlm
 rw [Zpg _ (Zv1 a b m),Nat.testBit_or,Nat.testBit_and,Nat.testBit_and,show (18446744073709551615 - V0 m 8)=2 ^ 64 - (V0 m 8+1) by have:=Zi8 m;omega,Nat.testBit_two_pow_sub_succ (Zi8 m)]
 by_cases hi:i < 64
 ·have h:=Zu3 m i hi
  have hs:8 * (i / 8)+i % 8=i:=by omega
  have hj:i % 8 < 8:=Nat.mod_lt _ (by decide)
  rw [h]
  unfold Zl1
  cases Zn4 m (i / 8) <;> simp [hi,Ztr _ _ _ hj,hs]
 have h1:∀ n,n < 2 ^ 64→Nat.testBit n i=false:=fun n hn=>Nat.testBit_lt_two_pow (Nat.lt_of_lt_of_le hn (Nat.pow_le_pow_right (by decide) (by omega)))
 simp [h1 a ha,h1 b hb,hi]
theorem Yha (q:Nat):Int.tdiv (q:Int) 256=((q / 256:Nat):Int):=by rw [Int.tdiv_eq_ediv_of_nonneg (Int.natCast_nonneg _)];omega
theorem Yj1 (q:Nat):Int.tdiv (q:Int) 2=((q / 2:Nat):Int):=by rw [Int.tdiv_eq_ediv_of_nonneg (Int.natCast_nonneg _)];omega
theorem Yhc (q:Nat):IntKind.u8.wrap (Int.tmod (q:Int) 256)=((q % 256:Nat):Int):=by rw [Int.tmod_eq_emod_of_nonneg (Int.natCast_nonneg _),IntKind.wrap_u8'];omega
theorem Z0l (q:Nat) (h:q < 18446744073709551616):IntKind.u64.wrap (q:Int)=(q:Int):=Yfb (by omega)
theorem u8n (q:Nat) (h:q < 256):IntKind.u8.wrap (q:Int)=(q:Int):=by rw [IntKind.wrap_u8'];omega
theorem lt8 {k:Nat} (h:k < 8):k=0∨k=1∨k=2∨k=3∨k=4∨k=5∨k=6∨k=7:=by omega
theorem Yck (m k:Nat) (hm:m < 256) (hk:k < 8):(IntKind.u8.wrap (Zdg .u8 (Int.fdiv (m:Int) (2 ^ min (Int.toNat (k:Int)) 8)) 1) == 1)=Zn4 m k:=by
 have e1:Int.fdiv (m:Int) (2 ^ min (Int.toNat (k:Int)) 8)=((m / 2 ^ k:Nat):Int):=by
  rw [Int.toNat_natCast,Nat.min_eq_left (by omega),Int.fdiv_eq_ediv_of_nonneg _ (Int.le_of_lt (Int.pow_pos (by decide)))]
  simp only [Int.natCast_ediv,Int.natCast_pow]
  rfl
 have hq:m / 2 ^ k < 256:=Nat.lt_of_le_of_lt (Nat.div_le_self _ _) hm
 have e2:=Z5t .u8 (m / 2 ^ k) 1 (by simpa [IntKind.bits] using hq) (by simp [IntKind.bits])
 have e3:(m / 2 ^ k) &&& 1=m / 2 ^ k % 2:=Nat.and_one_is_mod _
 have e4:((1:Nat):Int)=1:=rfl
 rw [e4] at e2
 rw [e1,e2,e3,IntKind.wrap_u8']
 unfold Zn4
 rw [Bool.eq_iff_iff,beq_iff_eq,decide_eq_true_eq]
 omega
theorem Yix {a b i:Nat} (ha:a < 2 ^ i) (hb:b % 2 ^ i=0):a ||| b=a+b:=by
 obtain ⟨q,rfl⟩:∃ q,b=2 ^ i * q:=⟨b / 2 ^ i,by have:=Nat.div_add_mod b (2 ^ i);omega⟩
 rw [Nat.or_comm,Nat.add_comm,Nat.two_pow_add_eq_or_of_lt ha]
theorem Yhe (m k:Nat) (hk:k < 8):IntKind.u64.wrap (Zq3 .u64 (V0 m k:Nat) (IntKind.u64.wrap (255 * 2 ^ min (Int.toNat (IntKind.i64.wrap (8 * (k:Int)))) 64)))=((V0 m k+255 * 256 ^ k:Nat):Int):=by
 have h1:=Z6y m k
 have h2:=Ybx hk
 have h3:256 ^ (k+1)=256 * 256 ^ k:=by rw [Nat.pow_succ,Nat.mul_comm]
 have e0:(IntKind.i64.wrap (8 * (k:Int))).toNat=8 * k:=by rw [Z2m (by omega)];omega
 have e:(255 * 2 ^ (8 * k):Int)=((255 * 256 ^ k:Nat):Int):=by rw [Zug];simp only [Int.natCast_mul,Int.natCast_pow];rfl
 have e2:V0 m k ||| 255 * 256 ^ k=V0 m k+255 * 256 ^ k:=Yix (i:=8 * k) (by rw [← Zug];exact h1) (by rw [← Zug];exact Nat.mul_mod_left _ _)
 rw [e0,Nat.min_eq_left (by omega),e,Z0l (255 * 256 ^ k) (by omega),Yjo _ _ (by omega) (by omega),e2,Z0l _ (by omega)]
theorem Z1k (m:Nat) (hm:m < 256):∀ j i:Nat,i+j=8→Zw (Ze3 (m:Int)) (((V0 m i:Nat):Int),(i:Int))=some ((V0 m 8:Nat):Int)
 | 0,i,h=>by
  obtain rfl:i=8:=by omega
  exact Z8 rfl
 | j+1,i,h=>by
  have hs:Ze3 (m:Int) (((V0 m i:Nat):Int),(i:Int))=some (.inl (((V0 m (i+1):Nat):Int),((i+1:Nat):Int))):=by
   unfold Ze3
   have e:decide ((i:Int) < 8)=true:=by rw [decide_eq_true_eq];omega
   simp only
   rw [e,cond_true,Ztz (by omega),Option.bind_some,Yck m i hm (by omega),Z2m (x:=(i:Int)+1) (by omega)]
   have hw:V0 m (i+1)=V0 m i+(if m / 2 ^ i % 2=1 then 255 * 256 ^ i else 0):=rfl
   cases hb:Zn4 m i with
   | true =>
    rw [cond_true,Ztz (by rw [Z2m (by omega)];omega),Option.bind_some,Yhe m i (by omega),hw,if_pos (Yig hb)]
    rfl
   | false =>
    rw [cond_false,hw,if_neg (Yif hb)]
    rfl
  rw [Yr hs]
  exact Z1k m hm j (i+1) (by omega)
theorem Zwf (m:Nat) (hm:m < 256):Zaf (m:Int)=some ((V0 m 8:Nat):Int):=by
 unfold Zaf
 have:=Z1k m hm 8 0 rfl
 rw [show ((V0 m 0:Nat):Int)=0 from rfl,show ((0:Nat):Int)=0 from rfl] at this
 rw [this]
 rfl
def ofF (f:Nat→Nat):Arr Int 8:=⟨[(f 0:Nat),(f 1:Nat),(f 2:Nat),(f 3:Nat),(f 4:Nat),(f 5:Nat),(f 6:Nat),(f 7:Nat)],rfl⟩
theorem Zv5 (f:Nat→Nat) (k:Nat) (hk:k < 8):Xr (ofF f).1 (k:Int)=some ((f k:Nat):Int):=by
 rcases lt8 hk with rfl | rfl | rfl | rfl | rfl | rfl | rfl | rfl <;> rfl
theorem Yal (f:Nat→Nat) (k v:Nat) (hk:k < 8):Arr.put (ofF f) (k:Int) (v:Int)=ofF (fun i=>if i=k then v else f i):=by
 rcases lt8 hk with rfl | rfl | rfl | rfl | rfl | rfl | rfl | rfl <;> rfl
theorem Z1a {f g:Nat→Nat} (h:∀ k,k < 8→f k=g k):ofF f=ofF g:=by
 unfold ofF
 simp only [h 0 (by decide),h 1 (by decide),h 2 (by decide),h 3 (by decide),h 4 (by decide),h 5 (by decide),h 6 (by decide),h 7 (by decide)]
theorem Zw1 (n:Nat) (hn:n < 18446744073709551616):∀ j i:Nat,i+j=8→Zw Us (((n / 256 ^ i:Nat):Int),(i:Int),ofF (fun q=>if q < i then Zbn n q else 0))=some (ofF (Zbn n))
 | 0,i,h=>by
  obtain rfl:i=8:=by omega
  refine (Z8 (r:=ofF (fun q=>if q < 8 then Zbn n q else 0)) rfl).trans ?_
  rw [Z1a (g:=Zbn n) fun k hk=>if_pos hk]
 | j+1,i,h=>by
  have hs:Us (((n / 256 ^ i:Nat):Int),(i:Int),ofF (fun q=>if q < i then Zbn n q else 0))=some (.inl (((n / 256 ^ (i+1):Nat):Int),((i+1:Nat):Int),ofF (fun q=>if q < i+1 then Zbn n q else 0))):=by
   unfold Us
   have e:decide ((i:Int) < 8)=true:=by rw [decide_eq_true_eq];omega
   simp only
   have q1:n / 256 ^ i≤n:=Nat.div_le_self _ _
   have q2:n / 256 ^ i / 256=n / 256 ^ (i+1):=by rw [Nat.div_div_eq_div_mul,Nat.pow_succ]
   have q3:Int.tdiv ((n / 256 ^ i:Nat):Int) 256=((n / 256 ^ (i+1):Nat):Int):=by rw [← q2,Yha]
   have q4:IntKind.u8.wrap (Int.tmod ((n / 256 ^ i:Nat):Int) 256)=((Zbn n i:Nat):Int):=by
    rw [Yhc]
    rfl
   have q5:n / 256 ^ (i+1)≤n:=Nat.div_le_self _ _
   rw [e,cond_true,Zv5 _ _ (by omega),Option.bind_some,q3,q4,Z0l _ (Nat.lt_of_le_of_lt q5 hn),Z2m (x:=(i:Int)+1) (by omega),Yal _ _ _ (by omega)]
   have e5:(fun q=>if q=i then Zbn n i else if q < i then Zbn n q else 0)=fun q=>if q < i+1 then Zbn n q else 0:=by
    funext q
    by_cases h1:q=i
    ·rw [if_pos h1,if_pos (by omega),h1]
    rw [if_neg h1]
    by_cases h2:q < i
    ·rw [if_pos h2,if_pos (by omega)]
    rw [if_neg h2,if_neg (by omega)]
   rw [e5]
   rfl
  rw [Yr hs]
  exact Zw1 n hn j (i+1) (by omega)
theorem Z5a (n:Nat) (hn:n < 18446744073709551616):Uz (n:Int)=some (ofF (Zbn n)):=by
 unfold Uz
 have h:=Zw1 n hn 8 0 rfl
 have e:ofF (fun q=>if q < 0 then Zbn n q else 0)=⟨[0,0,0,0,0,0,0,0],rfl⟩:=rfl
 rw [e,Nat.pow_zero,Nat.div_one,show ((0:Nat):Int)=0 from rfl] at h
 rw [Option.bind_some,Option.bind_some,h]
 rfl
theorem Zx1 (m n:Nat) (hm:m < 256) (hn:n≤8):∀ j i:Nat,i+j=n→Zw (K4 (n:Int)) (((m / 2 ^ i:Nat):Int),(i:Int))=some ((m / 2 ^ n:Nat):Int)
 | 0,i,h=>by
  obtain rfl:i=n:=by omega
  refine Z8 ?_
  unfold K4
  have e:decide ((i:Int) < (i:Int))=false:=by rw [decide_eq_false_iff_not];omega
  simp only
  rw [e,cond_false]
 | j+1,i,h=>by
  have hs:K4 (n:Int) (((m / 2 ^ i:Nat):Int),(i:Int))=some (.inl (((m / 2 ^ (i+1):Nat):Int),((i+1:Nat):Int))):=by
   unfold K4
   have e:decide ((i:Int) < (n:Int))=true:=by rw [decide_eq_true_eq];omega
   have q1:m / 2 ^ i≤m:=Nat.div_le_self _ _
   have q2:m / 2 ^ i / 2=m / 2 ^ (i+1):=by rw [Nat.div_div_eq_div_mul,Nat.pow_succ]
   have q5:m / 2 ^ (i+1)≤m:=Nat.div_le_self _ _
   have q3:Int.tdiv ((m / 2 ^ i:Nat):Int) 2=((m / 2 ^ (i+1):Nat):Int):=by rw [← q2,Yj1]
   have q4:IntKind.u8.wrap ((m / 2 ^ (i+1):Nat):Int)=((m / 2 ^ (i+1):Nat):Int):=u8n _ (Nat.lt_of_le_of_lt q5 hm)
   simp only
   rw [e,cond_true,q3,q4,Z2m (x:=(i:Int)+1) (by omega)]
   rfl
  rw [Yr hs]
  exact Zx1 m n hm hn j (i+1) (by omega)
theorem Ydo (m n:Nat) (hm:m < 256) (hn:n≤8):Za0 (m:Int) (n:Int)=some (Zn4 m n):=by
 unfold Za0
 have h:=Zx1 m n hm hn n 0 (by omega)
 rw [Nat.pow_zero,Nat.div_one,show ((0:Nat):Int)=0 from rfl] at h
 rw [h,Option.bind_some,Int.tmod_eq_emod_of_nonneg (Int.natCast_nonneg _),Ycj]
 rfl
theorem Z5z (a b m:Nat) (hm:m < 256):∀ j i:Nat,i+j=8→Zw (G7 (m:Int) (ofF (Zbn b))) ((i:Int),ofF (fun q=>if q < i then Zl1 a b m q else Zbn a q))=some (ofF (Zl1 a b m))
 | 0,i,h=>by
  obtain rfl:i=8:=by omega
  refine (Z8 (r:=ofF (fun q=>if q < 8 then Zl1 a b m q else Zbn a q)) rfl).trans ?_
  rw [Z1a (g:=Zl1 a b m) fun k hk=>if_pos hk]
 | j+1,i,h=>by
  have hs:G7 (m:Int) (ofF (Zbn b)) ((i:Int),ofF (fun q=>if q < i then Zl1 a b m q else Zbn a q))=some (.inl (((i+1:Nat):Int),ofF (fun q=>if q < i+1 then Zl1 a b m q else Zbn a q))):=by
   unfold G7
   have e:decide ((i:Int) < 8)=true:=by rw [decide_eq_true_eq];omega
   simp only
   rw [e,cond_true,Ydo m i hm (by omega),Option.bind_some,Z2m (x:=(i:Int)+1) (by omega)]
   have hne:∀ v,v=Zl1 a b m i→(fun q=>if q=i then v else if q < i then Zl1 a b m q else Zbn a q)=fun q=>if q < i+1 then Zl1 a b m q else Zbn a q:=fun v hv=>by
    funext q
    by_cases h1:q=i
    ·rw [if_pos h1,if_pos (by omega),h1,hv]
    rw [if_neg h1]
    by_cases h2:q < i
    ·rw [if_pos h2,if_pos (by omega)]
    rw [if_neg h2,if_neg (by omega)]
   cases hb:Zn4 m i with
   | true =>
    rw [cond_true,Zv5 _ _ (by omega),Option.bind_some,Zv5 _ _ (by omega),Option.bind_some,Option.bind_some,Yal _ _ _ (by omega),hne _ (by unfold Zl1;rw [hb,if_pos rfl])]
    rfl
   | false =>
    have e6:(fun q=>if q < i then Zl1 a b m q else Zbn a q)=fun q=>if q < i+1 then Zl1 a b m q else Zbn a q:=by
     funext q
     by_cases h1:q=i
     ·rw [if_neg (by omega),if_pos (by omega),h1]
      unfold Zl1
      rw [hb]
      rfl
     by_cases h2:q < i
     ·rw [if_pos h2,if_pos (by omega)]
     rw [if_neg h2,if_neg (by omega)]
    rw [cond_false,Option.bind_some,e6]
    rfl
  rw [Yr hs]
  exact Z5z a b m hm j (i+1) (by omega)
def hiN (f:Nat→Nat):Nat→Nat→Nat
 | _,0=>0
 | i,n+1=>hiN f (i+1) n * 256+f i
theorem Yc4 (f:Nat→Nat) (hf:∀ k,f k < 256):∀ n i,hiN f i n < 256 ^ n
 | 0,_=>by simp [hiN]
 | n+1,i=>by
  have h1:=Yc4 f hf n (i+1)
  have h2:=hf i
  have h3:256 ^ (n+1)=256 * 256 ^ n:=by rw [Nat.pow_succ,Nat.mul_comm]
  simp only [hiN]
  omega
theorem Ygc (f:Nat→Nat):hiN f 0 8=Znn f 8:=by simp only [hiN,Znn,Nat.reduceMul,Nat.reducePow,Nat.reduceAdd];omega
theorem Yam (f:Nat→Nat) (hf:∀ k,f k < 256):∀ i n:Nat,i+n=8→Zw (Za1 (ofF f).1 0) (((hiN f i n:Nat):Int),(i:Int) - 1)=some ((hiN f 0 8:Nat):Int)
 | 0,n,h=>by
  obtain rfl:n=8:=by omega
  exact Z8 rfl
 | i+1,n,h=>by
  have hs:Za1 (ofF f).1 0 (((hiN f (i+1) n:Nat):Int),((i+1:Nat):Int) - 1)=some (.inl (((hiN f i (n+1):Nat):Int),(i:Int) - 1)):=by
   unfold Za1
   have e0:((i+1:Nat):Int) - 1=(i:Int):=by omega
   have e:decide (0≤(i:Int))=true:=by rw [decide_eq_true_eq];omega
   have h1:=Yc4 f hf n (i+1)
   have h2:=hf i
   have h3:256 ^ n≤256 ^ 7:=Nat.pow_le_pow_right (by decide) (by omega)
   have h4:(256:Nat) ^ 7=72057594037927936:=by decide
   simp only
   rw [e0,e,cond_true,Int.zero_add,Z2m (x:=(i:Int)) (by omega),Zv5 _ _ (by omega),Option.bind_some,Yfb (x:=((hiN f (i+1) n:Nat):Int) * 256) (by omega),Yfb (x:=((f i:Nat):Int)) (by omega),Yfb (by omega),Z2m (by omega)]
   have e7:((hiN f (i+1) n:Nat):Int) * 256+((f i:Nat):Int)=((hiN f i (n+1):Nat):Int):=by simp only [hiN];omega
   rw [e7]
  rw [Yr hs]
  exact Yam f hf i (n+1) (by omega)
theorem Yiv (a b m:Nat) (ha:a < 18446744073709551616) (hb:b < 18446744073709551616) (hm:m < 256):Zcb (a:Int) (b:Int) (m:Int)=some ((Zlm a b m:Nat):Int):=by
 unfold Zcb
 have h:=Z5z a b m hm 8 0 rfl
 have e:ofF (fun q=>if q < 0 then Zl1 a b m q else Zbn a q)=ofF (Zbn a):=rfl
 rw [e,show ((0:Nat):Int)=0 from rfl] at h
 have h2:=Yam (Zl1 a b m) (Zv1 a b m) 8 0 rfl
 rw [Ygc,show ((8:Nat):Int) - 1=7 from rfl,show ((hiN (Zl1 a b m) 8 0:Nat):Int)=0 from rfl] at h2
 rw [Z5a a ha,Option.bind_some,Z5a b hb,Option.bind_some,Option.bind_some,h,Option.bind_some]
 unfold Zgy
 rw [h2]
 rfl
def wi (x m:Int):Bool:=Zlm x.toNat 0 m.toNat == 0
theorem Z1l {x m:Int} (h0:0≤x) (h1:x < 18446744073709551616) (m0:0≤m) (m1:m < 256):Ue x m=some (wi x m):=by
 obtain ⟨a,rfl⟩:=Int.eq_ofNat_of_zero_le h0
 obtain ⟨k,rfl⟩:=Int.eq_ofNat_of_zero_le m0
 unfold Ue wi
 rw [show (0:Int)=((0:Nat):Int) from rfl,Yiv a 0 k (by omega) (by decide) (by omega),Option.bind_some]
 congr 1
 rw [Bool.eq_iff_iff,beq_iff_eq,beq_iff_eq]
 simp only [Int.toNat_natCast]
 omega
theorem Zye {x m:Int} (h0:0≤x) (h1:x < 18446744073709551616) (m0:0≤m) (m1:m < 256):(IntKind.u64.wrap (Zdg .u64 x (IntKind.u64.wrap (Zh2 .u64 (if IntKind.signed .u64=true then -1 else IntKind.max .u64) ((V0 m.toNat 8:Nat):Int)))) != 0) = !(wi x m):=by
 obtain ⟨a,rfl⟩:=Int.eq_ofNat_of_zero_le h0
 obtain ⟨k,rfl⟩:=Int.eq_ofNat_of_zero_le m0
 have hw:=Zi8 k
 have e0:(if IntKind.signed .u64=true then -1 else IntKind.max .u64)=((18446744073709551615:Nat):Int):=by decide
 have e1:18446744073709551615 ^^^ V0 k 8=18446744073709551615 - V0 k 8:=by
  refine Nat.eq_of_testBit_eq fun i => ?_
  rw [Nat.testBit_xor,show (18446744073709551615 - V0 k 8)=2 ^ 64 - (V0 k 8+1) by omega,Nat.testBit_two_pow_sub_succ hw,show (18446744073709551615:Nat)=2 ^ 64 - 1 from rfl,Nat.testBit_two_pow_sub_one]
  by_cases hi:i < 64
  ·simp [hi]
  rw [Nat.testBit_lt_two_pow (Nat.lt_of_lt_of_le hw (Nat.pow_le_pow_right (by decide) (by omega)))]
  simp [hi]
 have e2:=Z5y a 0 k (by omega) (by decide)
 rw [Nat.zero_and,Nat.or_zero] at e2
 have e3:a &&& (18446744073709551615 - V0 k 8)≤a:=Nat.and_le_left
 unfold wi
 simp only [Int.toNat_natCast]
 rw [e0,Yiq _ _ (by decide) (by omega),e1,Z0l (18446744073709551615 - V0 k 8) (by omega),Yim _ _ (by omega) (by omega),Z0l _ (by omega),e2,bne]
 congr 1
 rw [Bool.eq_iff_iff,beq_iff_eq,beq_iff_eq]
 omega
abbrev Ed:=Zc
theorem Je {e:Ed} {k:Zd} (h:k∈e.Kids):SizeOf.sizeOf k.E < SizeOf.sizeOf e:=by
 obtain ⟨a,b,c,d,ks,f,g⟩:=e
 obtain ⟨i,x⟩:=k
 have h1:=List.sizeOf_lt_of_mem h
 simp only [Zc.mk.sizeOf_spec,Zd.mk.sizeOf_spec] at h1 ⊢
 omega
theorem Kw {e:Ed} {o:Zh} (h:o∈e.Ops):SizeOf.sizeOf o.E < SizeOf.sizeOf e:=by
 obtain ⟨a,b,c,d,ks,f,os⟩:=e
 obtain ⟨i,n,l,x⟩:=o
 have h1:=List.sizeOf_lt_of_mem h
 simp only [Zc.mk.sizeOf_spec,Zh.mk.sizeOf_spec] at h1 ⊢
 omega
theorem Zjg (e:Ed):0 < SizeOf.sizeOf e:=by
 obtain ⟨a,b,c,d,ks,f,g⟩:=e
 simp only [Zc.mk.sizeOf_spec]
 omega
inductive BE:Ed→Prop
 | mk (e:Ed) (h1:Bd e.Old) (h2:Bd e.New) (h3:(e.Words.length:Int)≤140737488355328) (h4:∀ w∈e.Words,(0≤w.Mask∧w.Mask < 256)∧(0≤w.Old∧w.Old < 18446744073709551616)∧(0≤w.New∧w.New < 18446744073709551616))
   (h5:(e.Kids.length:Int)≤140737488355328) (h6:∀ k∈e.Kids,BE k.E) (h7:(e.Ops.length:Int)≤140737488355328) (h8:∀ o∈e.Ops,o.L.length * 56≤140737488355328∧∀ t∈o.L,Bd t) (h9:∀ o∈e.Ops,BE o.E):BE e
theorem BE.old {e:Ed} (h:BE e):Bd e.Old:=by cases h;assumption
theorem BE.new {e:Ed} (h:BE e):Bd e.New:=by cases h;assumption
theorem BE.w {e:Ed} (h:BE e):(e.Words.length:Int)≤140737488355328:=by cases h;assumption
theorem BE.ws {e:Ed} (h:BE e):∀ w∈e.Words,(0≤w.Mask∧w.Mask < 256)∧(0≤w.Old∧w.Old < 18446744073709551616)∧(0≤w.New∧w.New < 18446744073709551616):=by cases h;assumption
theorem BE.k {e:Ed} (h:BE e):(e.Kids.length:Int)≤140737488355328:=by cases h;assumption
theorem BE.ks {e:Ed} (h:BE e):∀ k∈e.Kids,BE k.E:=by cases h;assumption
theorem BE.o {e:Ed} (h:BE e):(e.Ops.length:Int)≤140737488355328:=by cases h;assumption
theorem BE.l {e:Ed} (h:BE e):∀ o∈e.Ops,o.L.length * 56≤140737488355328∧∀ t∈o.L,Bd t:=by cases h;assumption
theorem BE.os {e:Ed} (h:BE e):∀ o∈e.Ops,BE o.E:=by cases h;assumption
theorem Zdd {α:Type} (a b:Int) (x y:α):cond (a == b) x y=if a=b then x else y:=by
 by_cases h:a=b
 ·rw [beq_iff_eq.2 h,if_pos h];rfl
 rw [beq_eq_false_iff_ne.2 h,if_neg h];rfl
theorem Zsa {α:Type} (a b:Int) (x y:α):cond (a != b) x y=if a=b then y else x:=by
 by_cases h:a=b
 ·have:(a != b)=false:=by simp [h]
  rw [this,if_pos h];rfl
 have:(a != b)=true:=by simp [h]
 rw [this,if_neg h];rfl
def chk {α:Type} (pl:α→Int) (ok:Int→α→Bool):Int→List α→Bool
 | _,[]=>true
 | p,x::xs=>ok p x && chk pl ok (pl x) xs
theorem Zsl {α R:Type} (xs:List α) (pl:α→Int) (ok:Int→α→Bool) (step:Int×Int→Option ((Int×Int) ⊕ R)) (e o:R) (hl:(xs.length:Int)≤140737488355328)
  (h1:∀ (p:Int) (i:Nat) (x:α),i < xs.length→xs[i]? = some x→x∈xs→step (p,(i:Int))=some (if ok p x=true then .inl (pl x,IntKind.i64.wrap ((i:Int)+1)) else .inr e)) (h2:∀ p,step (p,(xs.length:Int))=some (.inr o)) (p:Int):Zw step (p,0)=some (if chk pl ok p xs=true then o else e):=by
 have key:∀ (ys:List α) (i:Nat) (p:Int),xs.drop i=ys→i≤xs.length→Zw step (p,(i:Int))=some (if chk pl ok p ys=true then o else e):=fun ys=>by
  induction ys with
  | nil =>
   intro i p h hi
   have:i=xs.length:=by
    have:=congrArg List.length h
    rw [List.length_drop,List.length_nil] at this
    omega
   subst this
   exact Z8 (h2 p)
  | cons x ys ih =>
   intro i p h hi
   have hx:xs[i]? = some x:=by
    have:=congrArg (fun l=>l[0]?) h
    simpa using this
   have hi':i < xs.length:=by
    rcases Nat.lt_or_ge i xs.length with h' | h'
    ·exact h'
    rw [List.getElem?_eq_none h'] at hx;cases hx
   have hs:=h1 p i x hi' hx (List.mem_of_getElem? hx)
   have hd:xs.drop (i+1)=ys:=by
    have:=congrArg List.tail h
    rwa [List.tail_drop,List.tail_cons] at this
   cases hk:ok p x with
   | false =>
    rw [hk] at hs
    rw [Z8 (by simpa using hs)]
    simp [chk,hk]
   | true =>
    rw [hk,if_pos rfl,Ul (by omega) (by omega)] at hs
    have e1:(i:Int)+1=((i+1:Nat):Int):=by omega
    rw [e1] at hs
    rw [Yr hs,ih (i+1) (pl x) hd (by omega)]
    simp [chk,hk]
 exact key xs 0 p rfl (Nat.zero_le _)
def Zb2 (t:Tr):Bool:=t.Kind == 0 && (t.Words.length == 0 && t.Kids.length == 0)
theorem Zv3 {t:Tr} (h:Bd t):Ky t=some (Zb2 t):=by
 have:=h.w
 have:=h.k
 unfold Ky Zb2
 rw [Ul (by omega) (by omega),Zeq]
 congr 2
 rw [Bool.eq_iff_iff,Bool.and_eq_true,beq_iff_eq,beq_iff_eq,beq_iff_eq]
 omega
theorem Zs7 {t:Tr} (h:Bd t):Zah t=some (!Zb2 t):=by
 have:=h.w
 have:=h.k
 unfold Zah Zb2
 rw [Ul (by omega) (by omega)]
 congr 1
 cases h0:t.Kind == 0 with
 | false=>simp only [bne,h0];rfl
 | true =>
  simp only [bne,h0,Bool.not_true,cond_false,Bool.true_and]
  rw [Bool.eq_iff_iff,Bool.not_eq_true',decide_eq_true_eq,Bool.and_eq_false_iff,beq_eq_false_iff_ne,beq_eq_false_iff_ne]
  omega
def Zix (e:Ed):Bool:=e.Words.length == 0 && e.Kids.length == 0
def Zij (e:Ed):Bool:=e.List_ == 0 && e.Ops.length == 0
theorem Yfl {e:Ed} (h:BE e):decide (0 < IntKind.i64.wrap ((e.Words.length:Int)+(e.Kids.length:Int))) = !Zix e:=by
 have:=h.w
 have:=h.k
 unfold Zix
 rw [Ul (by omega) (by omega),Bool.eq_iff_iff,Bool.not_eq_true',decide_eq_true_eq,Bool.and_eq_false_iff,beq_eq_false_iff_ne,beq_eq_false_iff_ne]
 omega
theorem Ydc (e:Ed):cond (e.List_ != 0) true (decide (0 < (e.Ops.length:Int))) = !Zij e:=by
 unfold Zij
 cases h0:e.List_ == 0 with
 | false=>simp only [bne,h0];rfl
 | true =>
  simp only [bne,h0,Bool.not_true,cond_false,Bool.true_and]
  rw [Bool.eq_iff_iff,Bool.not_eq_true',decide_eq_true_eq,beq_eq_false_iff_ne]
  omega
def Zky (e:Ed):Bool:=Zb2 e.Old && Zb2 e.New
def Zcq (e:Ed):Bool:=e.Kind == 0 && (Zky e && (Zix e && Zij e))
theorem Zpu {e:Ed} (h:BE e) (a b c:Bool):Gg a b c e=some ((!a || Zky e) && ((!b || Zix e) && (!c || Zij e))):=by
 unfold Gg
 rw [Zs7 h.old,Zs7 h.new,Yfl h,Ydc]
 unfold Zky
 simp only [Option.bind_some]
 generalize Zb2 e.Old=p
 generalize Zb2 e.New=q
 generalize Zix e=r
 generalize Zij e=s
 revert a b c p q r s
 decide
theorem Yeb {e:Ed} (h:BE e):Gp e=some (Zcq e):=by
 have:=h.w
 have:=h.k
 have:=h.o
 unfold Gp Zcq
 rw [Zv3 h.old,Zv3 h.new]
 simp only [Option.bind_some]
 have e1:(IntKind.i64.wrap (IntKind.i64.wrap ((e.Words.length:Int)+(e.Kids.length:Int))+(e.Ops.length:Int)) == 0)=(Zix e && e.Ops.length == 0):=by
  unfold Zix
  rw [Ul (x:=(e.Words.length:Int)+(e.Kids.length:Int)) (by omega) (by omega),Ul (by omega) (by omega),Bool.eq_iff_iff,Bool.and_eq_true,Bool.and_eq_true,beq_iff_eq,beq_iff_eq,beq_iff_eq,beq_iff_eq]
  omega
 rw [e1]
 unfold Zky Zij
 generalize Zb2 e.Old=p
 generalize Zb2 e.New=q
 generalize Zix e=r
 generalize (e.List_ == 0)=s
 generalize (e.Ops.length == 0)=u
 generalize (e.Kind == 0)=v
 revert p q r s u v
 decide
def okW (p:Int) (w:Zj):Bool := !(((((decide (w.At≤p) || decide (65534 < w.At)) || w.Mask == 0) || !(wi w.Old w.Mask)) || !(wi w.New w.Mask)))
theorem Z0k {l:List Zj} (hl:(l.length:Int)≤140737488355328) (h:∀ w∈l,(0≤w.Mask∧w.Mask < 256)∧(0≤w.Old∧w.Old < 18446744073709551616)∧(0≤w.New∧w.New < 18446744073709551616)):Zbs l=some (chk (·.At) okW (-1) l):=by
 unfold Zbs
 rw [Zsl l (·.At) okW (Gf l) (.inl ()) (.inr ()) hl (fun p i x hi hx hm=>by
  obtain ⟨h1,h2,h3⟩:=h x hm
  have ew:Zaf x.Mask=some ((V0 x.Mask.toNat 8:Nat):Int):=by
   have:=Zwf x.Mask.toNat (by omega)
   rwa [Int.toNat_of_nonneg h1.1] at this
  unfold Gf
  simp only
  rw [Zbe hi,cond_true,Yw hx,Option.bind_some,ew,Option.bind_some,Zye h2.1 h2.2 h1.1 h1.2,Zye h3.1 h3.2 h1.1 h1.2]
  unfold okW
  generalize decide (x.At≤p)=q1
  generalize decide (65534 < x.At)=q2
  generalize (x.Mask == 0)=q3
  generalize wi x.Old x.Mask=q4
  generalize wi x.New x.Mask=q5
  cases q1 <;> cases q2 <;> cases q3 <;> cases q4 <;> cases q5 <;> rfl) (fun p=>by unfold Gf;simp only;rw [Zd1];rfl) (-1),Option.bind_some]
 cases chk (·.At) okW (-1) l <;> rfl
theorem Yb0 {e:Ed} (h:BE e):Zw (K2 e) (-1,0)=some (if chk (·.At) okW (-1) e.Words=true then Sum.inr () else Sum.inl ()) :=
 Zsl e.Words (·.At) okW (K2 e) (.inl ()) (.inr ()) h.w (fun p i x hi hx hm=>by
  obtain ⟨h1,h2,h3⟩:=h.ws x hm
  unfold K2
  simp only
  rw [Zbe hi,cond_true,Yw hx,Option.bind_some,Z1l h2.1 h2.2 h1.1 h1.2,Z1l h3.1 h3.2 h1.1 h1.2]
  simp only [Option.bind_some]
  unfold okW
  generalize decide (x.At≤p)=q1
  generalize decide (65534 < x.At)=q2
  generalize (x.Mask == 0)=q3
  generalize wi x.Old x.Mask=q4
  generalize wi x.New x.Mask=q5
  cases q1 <;> cases q2 <;> cases q3 <;> cases q4 <;> cases q5 <;> rfl) (fun p=>by unfold K2;simp only;rw [Zd1];rfl) (-1)
theorem Z06 {α S R σ:Type} (xs:List α) (mk:S→Int→σ) (f:S→α→S) (out:S→R) (I:S→Prop) (step:σ→Option (σ ⊕ R)) (hl:(xs.length:Int)≤140737488355328)
  (h1:∀ (s:S) (i:Nat) (x:α),I s→i < xs.length→xs[i]? = some x→x∈xs→I (f s x)∧step (mk s (i:Int))=some (.inl (mk (f s x) (IntKind.i64.wrap ((i:Int)+1))))) (h2:∀ s,I s→step (mk s (xs.length:Int))=some (.inr (out s))) (s:S) (hs:I s):Zw step (mk s 0)=some (out (xs.foldl f s))∧I (xs.foldl f s):=by
 have key:∀ (ys:List α) (i:Nat) (s:S),I s→xs.drop i=ys→i≤xs.length→Zw step (mk s (i:Int))=some (out (ys.foldl f s))∧I (ys.foldl f s):=fun ys=>by
  induction ys with
  | nil =>
   intro i s hI h hi
   have:i=xs.length:=by
    have:=congrArg List.length h
    rw [List.length_drop,List.length_nil] at this
    omega
   subst this
   exact ⟨Z8 (h2 s hI),hI⟩
  | cons x ys ih =>
   intro i s hI h hi
   have hx:xs[i]? = some x:=by
    have:=congrArg (fun l=>l[0]?) h
    simpa using this
   have hi':i < xs.length:=by
    rcases Nat.lt_or_ge i xs.length with h' | h'
    ·exact h'
    rw [List.getElem?_eq_none h'] at hx;cases hx
   obtain ⟨hI',hs⟩:=h1 s i x hI hi' hx (List.mem_of_getElem? hx)
   have hd:xs.drop (i+1)=ys:=by
    have:=congrArg List.tail h
    rwa [List.tail_drop,List.tail_cons] at this
   have e1:(i:Int)+1=((i+1:Nat):Int):=by omega
   rw [Ul (by omega) (by omega),e1] at hs
   rw [Yr hs]
   exact ih (i+1) (f s x) hI' hd (by omega)
 exact key xs 0 s hs rfl (Nat.zero_le _)
def thr (o:Zh):Int:=if o.Kind=0 then (if 1048576 < (if o.N < 0 then 0 else o.N) then 1048576 else (if o.N < 0 then 0 else o.N)) else if o.Kind=1∨o.Kind=2 then (o.L.length:Int) else if o.Kind=3 then 1 else 0
theorem Yi8 (o:Zh):Zcd o=some (thr o):=by
 unfold Zcd thr
 by_cases h0:o.Kind=0
 ·simp [h0]
 by_cases h1:o.Kind=1
 ·simp [h1]
 by_cases h2:o.Kind=2
 ·simp [h2]
 by_cases h3:o.Kind=3
 ·simp [h3]
 have e0:(o.Kind == 0)=false:=by simp [h0]
 have e1:(o.Kind == 1)=false:=by simp [h1]
 have e2:(o.Kind == 2)=false:=by simp [h2]
 have e3:(o.Kind == 3)=false:=by simp [h3]
 have h12:¬ (o.Kind=1∨o.Kind=2):=by omega
 rw [e0,e1,e2,e3,if_neg h0,if_neg h12,if_neg h3]
 rfl
theorem Zy8 {o:Zh} (h:o.L.length * 56≤140737488355328):0≤thr o∧thr o≤140737488355328:=by
 unfold thr
 repeat' split
 all_goals omega
def Zpz (x:Int):Int:=if 1048576 < x then 1048576 else x
def stI (s:Int×Int) (o:Zh):Int×Int:=(if o.Kind=2 then s.1 else Zpz (s.1+thr o),if o.Kind=1 then s.2 else Zpz (s.2+thr o))
def Sm (s:Int×Int):Prop:=(0≤s.1∧s.1≤1048576)∧(0≤s.2∧s.2≤1048576)
theorem Zur {s:Int×Int} {o:Zh} (hs:Sm s) (h:o.L.length * 56≤140737488355328):Sm (stI s o):=by
 have:=Zy8 h
 unfold Sm at hs ⊢
 unfold stI Zpz
 refine ⟨?_,?_⟩
 ·simp only
  split
  ·omega
  split <;> omega
 simp only
 split
 ·omega
 split <;> omega
theorem Ygi {e:Ed} (h:BE e):Ze0 e=some (e.Ops.foldl stI (0,0))∧Sm (e.Ops.foldl stI (0,0)):=by
 obtain ⟨h1,h2⟩:=Z06 e.Ops (fun (s:Int×Int) i=>(s.1,s.2,i)) stI (fun s=>(s.1,s.2)) Sm (Zbr e) h.o (fun s i x hs hi hx hm=>by
  have hb:=(h.l x hm).1
  have ht:=Zy8 hb
  refine ⟨Zur hs hb,?_⟩
  unfold Sm at hs
  unfold Zbr
  simp only
  rw [Zbe hi,cond_true,Yw hx,Option.bind_some,Yi8]
  simp only [Option.bind_some]
  rw [Ul (x:=s.1+thr x) (by omega) (by omega),Ul (x:=s.2+thr x) (by omega) (by omega)]
  unfold stI Zpz
  rw [Zsa]
  by_cases k2:x.Kind=2
  ·simp [k2]
  by_cases k1:x.Kind=1
  ·simp [k1]
  simp [k1,k2,Zsa]) (fun s _=>by unfold Zbr;simp only;rw [Zd1];rfl) (0,0) (by unfold Sm;simp)
 refine ⟨?_,h2⟩
 unfold Ze0
 rw [h1]
 rfl
def Z0a (o:Zh):Int:=if o.Kind=3 then 1 else IntKind.i64.wrap (o.N+(o.L.length:Int))
def stR (s:Int×Int) (o:Zh):Int×Int:=(Zpz (if o.Kind=2 then s.1 else IntKind.i64.wrap (s.1+Z0a o)),Zpz (if o.Kind=1 then s.2 else IntKind.i64.wrap (s.2+Z0a o)))
theorem Z98 {e:Ed} (h:BE e):Vo e=some (e.Ops.foldl stR (0,0)):=by
 obtain ⟨h1,_⟩:=Z06 e.Ops (fun (s:Int×Int) i=>(s.1,s.2,i)) stR (fun s=>(s.1,s.2)) (fun _=>True) (Vp e) h.o (fun s i x hs hi hx hm=>by
  refine ⟨trivial,?_⟩
  have hc:∀ a b:Int,((cond (decide (1048576 < a)) (some 1048576) (some a)).bind fun (z10:Int)=>cond (decide (1048576 < b)) (some (z10,1048576)) (some (z10,b)))=some (Zpz a,Zpz b):=fun a b=>by
   unfold Zpz
   by_cases q1:1048576 < a <;> by_cases q2:1048576 < b <;> simp [q1,q2]
  unfold Vp
  simp only
  rw [Zbe hi,cond_true,Yw hx,Option.bind_some]
  have e1:cond (x.Kind == 3) (some 1) (some (IntKind.i64.wrap (x.N+(x.L.length:Int))))=some (Z0a x):=by
   unfold Z0a
   rw [Zdd]
   split <;> rfl
  rw [e1,Option.bind_some]
  have e2:cond (x.Kind != 2) (some (IntKind.i64.wrap (s.1+Z0a x))) (some s.1)=some (if x.Kind=2 then s.1 else IntKind.i64.wrap (s.1+Z0a x)):=by
   rw [Zsa];split <;> rfl
  have e3:cond (x.Kind != 1) (some (IntKind.i64.wrap (s.2+Z0a x))) (some s.2)=some (if x.Kind=1 then s.2 else IntKind.i64.wrap (s.2+Z0a x)):=by
   rw [Zsa];split <;> rfl
  rw [e2,Option.bind_some,e3,Option.bind_some,hc]
  rfl) (fun s _=>by unfold Vp;simp only;rw [Zd1];rfl) (0,0) trivial
 unfold Vo
 rw [h1]
 rfl
def Zno (l:Int) (e:Ed):Bool:=if l=8 then e.Kind != 0 else if l=9 then e.Kind == 2 || (e.Kind == 1 && (e.Old.Kind == 1 && e.New.Kind == 1)) else false
theorem Yf5 (l:Int) (e:Ed):Zdj l e=some (Zno l e):=by
 unfold Zdj Zno
 by_cases h8:l=8
 ·simp [h8]
 by_cases h9:l=9
 ·subst h9
  generalize (e.Kind == 2)=a
  generalize (e.Kind == 1)=b
  generalize (e.Old.Kind == 1)=c
  generalize (e.New.Kind == 1)=d
  have k8:((9:Int) == 8)=false:=rfl
  have k9:((9:Int) == 9)=true:=rfl
  rw [k8,k9,if_neg (by decide),if_pos rfl]
  cases a <;> cases b <;> cases c <;> cases d <;> rfl
 have k8:(l == 8)=false:=by simp [h8]
 have k9:(l == 9)=false:=by simp [h9]
 rw [k8,k9,if_neg h8,if_neg h9]
 rfl
def okO (l:Int) (o:Zh) (r:Bool):Bool :=
 if o.Kind=0 then (decide (1≤o.N) && decide (o.N≤1048576)) && (o.L.length == 0 && Zcq o.E)
 else if o.Kind=1∨o.Kind=2 then o.N == 0 && (decide (0 < o.L.length) && ((o.L.all fun t=>rt t 63 && okk l t) && Zcq o.E))
 else if o.Kind=3 then o.N == 0 && (o.L.length == 0 && (o.E.Kind != 0 && (Zno l o.E && r)))
 else false
def Zjm (s:Int×Int):Bool:=decide (s.1 < 1048576) && decide (s.2 < 1048576)
theorem Ydq {l:Int} {o:Zh} {r:Bool} (h:okO l o r=true):o.N+(o.L.length:Int)=(if o.Kind=3 then 0 else thr o)∧0≤thr o:=by
 unfold okO at h
 unfold thr
 by_cases h0:o.Kind=0
 ·rw [if_pos h0] at h
  simp only [Bool.and_eq_true,decide_eq_true_eq,beq_iff_eq] at h
  simp only [h0,if_pos]
  refine ⟨?_,?_⟩
  ·rw [if_neg (by decide)]
   repeat' split
   all_goals omega
  repeat' split
  all_goals omega
 rw [if_neg h0] at h
 by_cases h12:o.Kind=1∨o.Kind=2
 ·rw [if_pos h12] at h
  simp only [Bool.and_eq_true,beq_iff_eq] at h
  rw [if_neg h0,if_pos h12,if_neg (by omega)]
  omega
 rw [if_neg h12] at h
 by_cases h3:o.Kind=3
 ·rw [if_pos h3] at h
  simp only [Bool.and_eq_true,beq_iff_eq] at h
  rw [if_neg h0,if_neg h12,if_pos h3,if_pos h3]
  omega
 rw [if_neg h3] at h
 cases h
theorem Yg6 {l:Int} {o:Zh} {r:Bool} {s:Int×Int} (h:okO l o r=true) (hs:Sm s) (hl:o.L.length * 56≤140737488355328):stR s o=stI s o:=by
 have ht:=Zy8 hl
 have hk:=Ydq h
 have hi:Z0a o=thr o:=by
  unfold Z0a
  by_cases h3:o.Kind=3
  ·rw [if_pos h3]
   unfold thr
   rw [if_neg (by omega),if_neg (by omega),if_pos h3]
  rw [if_neg h3] at hk ⊢
  rw [Ul (by omega) (by omega)]
  exact hk.1
 unfold Sm at hs
 unfold stR stI
 rw [hi,Ul (by omega) (by omega),Ul (by omega) (by omega)]
 have hc:∀ x:Int,x≤1048576→Zpz x=x:=fun x hx=>by unfold Zpz;rw [if_neg (by omega)]
 refine Prod.ext ?_ ?_
 ·simp only
  split
  ·exact hc _ hs.1.2
  rfl
 simp only
 split
 ·exact hc _ hs.2.2
 rfl
theorem Ztv {l:Int} (r:Zh→Bool):∀ (os:List Zh) (s:Int×Int),Sm s→(∀ o∈os,okO l o (r o)=true)→(∀ o∈os,o.L.length * 56≤140737488355328)→os.foldl stR s=os.foldl stI s∧Sm (os.foldl stI s)
 | [],s,hs,_,_=>⟨rfl,hs⟩
 | o::os,s,hs,h,hl=>by
  have h1:=Yg6 (h o (.head _)) hs (hl o (.head _))
  have:=Ztv r os (stI s o) (Zur hs (hl o (.head _))) (fun x hx=>h x (.tail _ hx)) (fun x hx=>hl x (.tail _ hx))
  rw [List.foldl_cons,List.foldl_cons,h1]
  exact this
theorem Zvz:∀ (os:List Zh) (s:Int×Int),Sm s→(∀ o∈os,o.L.length * 56≤140737488355328)→(s.1=1048576→(os.foldl stI s).1=1048576)∧(s.2=1048576→(os.foldl stI s).2=1048576)
 | [],s,_,_=>⟨id,id⟩
 | o::os,s,hs,hl=>by
  have ht:=Zy8 (hl o (.head _))
  have:=Zvz os (stI s o) (Zur hs (hl o (.head _))) (fun x hx=>hl x (.tail _ hx))
  rw [List.foldl_cons]
  refine ⟨fun h=>this.1 ?_,fun h=>this.2 ?_⟩
  ·unfold stI Zpz
   simp only
   repeat' split
   all_goals omega
  unfold stI Zpz
  simp only
  repeat' split
  all_goals omega
theorem Z5j {l:Int} (r:Zh→Bool):∀ (os:List Zh) (s:Int×Int),Sm s→(∀ o∈os,okO l o (r o)=true)→(∀ o∈os,o.L.length * 56≤140737488355328)→Zjm (os.foldl stI s)=true→∀ o∈os,o.L.length < 1048576
 | [],s,hs,_,_,_=>fun o h=>by simp at h
 | o::os,s,hs,h,hl,hb=>by
  have hsm:=Zur hs (hl o (.head _))
  have hup:=Zvz os (stI s o) hsm (fun x hx=>hl x (.tail _ hx))
  rw [List.foldl_cons] at hb
  intro x hx
  rcases List.mem_cons.1 hx with rfl | hx
  ·have hb':=hb
   unfold Zjm at hb'
   rw [Bool.and_eq_true,decide_eq_true_eq,decide_eq_true_eq] at hb'
   have n1:(stI s x).1≠1048576:=fun q=>by have:=hup.1 q;omega
   have n2:(stI s x).2≠1048576:=fun q=>by have:=hup.2 q;omega
   have hk:=Ydq (h x (.head _))
   have ht:=Zy8 (hl x (.head _))
   have ho:=h x (.head _)
   unfold Sm at hs
   unfold okO at ho
   unfold stI Zpz at n1 n2
   simp only at n1 n2
   by_cases h0:x.Kind=0
   ·rw [if_pos h0] at ho
    simp only [Bool.and_eq_true,decide_eq_true_eq,beq_iff_eq] at ho
    omega
   rw [if_neg h0] at ho
   by_cases h1:x.Kind=1
   ·rw [if_pos (.inl h1)] at ho
    rw [if_neg (by omega)] at hk n1
    simp only [Bool.and_eq_true,beq_iff_eq] at ho
    split at n1 <;> omega
   by_cases h2:x.Kind=2
   ·rw [if_pos (.inr h2)] at ho
    rw [if_neg (by omega)] at hk n2
    simp only [Bool.and_eq_true,beq_iff_eq] at ho
    split at n2 <;> omega
   rw [if_neg (by omega)] at ho
   by_cases h3:x.Kind=3
   ·rw [if_pos h3] at ho
    simp only [Bool.and_eq_true,beq_iff_eq] at ho
    omega
   rw [if_neg h3] at ho
   cases ho
  exact Z5j r os (stI s o) hsm (fun x hx=>h x (.tail _ hx)) (fun x hx=>hl x (.tail _ hx)) hb x hx
theorem Ydv {l:Int} (r:Zh→Bool) (os:List Zh) (hl:∀ o∈os,o.L.length * 56≤140737488355328) :
  ((os.all fun o=>okO l o (r o) && decide (o.L.length < 1048576)) && Zjm (os.foldl stI (0,0)))=((os.all fun o=>okO l o (r o)) && Zjm (os.foldl stR (0,0))):=by
 have h0:Sm (0,0):=by unfold Sm;simp
 cases ha:os.all fun o=>okO l o (r o) with
 | false =>
  rw [Zvw,ha,Bool.false_and,Bool.false_and,Bool.false_and]
 | true =>
  have hall:∀ o∈os,okO l o (r o)=true:=List.all_eq_true.1 ha
  have h1:=Ztv r os (0,0) h0 hall hl
  rw [Zvw,ha,h1.1,Bool.true_and,Bool.true_and]
  cases hb:Zjm (os.foldl stI (0,0)) with
  | false=>rw [Bool.and_false]
  | true =>
   have:=Z5j r os (0,0) h0 hall hl hb
   rw [Bool.and_true]
   exact List.all_eq_true.2 fun o ho=>decide_eq_true (this o ho)
def okP (p:Int) (x:Int×Bool):Bool := !(decide (x.1≤p) || decide (65534 < x.1)) && x.2
theorem Z9p {α:Type} (g:α→Int×Bool):∀ (xs:List α) (p:Int),chk (·.1) okP p (xs.map g)=chk (fun x=>(g x).1) (fun p x=>okP p (g x)) p xs
 | [],_=>rfl
 | x::xs,p=>by rw [List.map_cons,chk,chk,Z9p g xs]
def rE (e:Ed) (d:Nat):Bool :=
 if d=0 then false
 else if e.Kind=0 then Zcq e
 else if e.Kind=1 then (Zix e && Zij e) && ((rt e.Old 64 && e.Old.Kind != 10) && (rt e.New 64 && e.New.Kind != 10))
 else if e.Kind=2 then (Zky e && Zij e) && (chk (·.At) okW (-1) e.Words && chk (·.1) okP (-1) (e.Kids.attach.map fun k=>(k.1.At,k.1.E.Kind != 0 && rE k.1.E (d - 1))))
 else if e.Kind=3 then (Zky e && Zix e) && ((decide (2≤e.List_) && decide (e.List_≤9)) && ((e.Ops.attach.map fun o=>okO e.List_ o.1 (rE o.1.E (d - 1))).all id && Zjm (e.Ops.foldl stR (0,0))))
 else false
termination_by SizeOf.sizeOf e
decreasing_by
 ·exact Je k.2
 exact Kw o.2
def okK (d:Nat) (p:Int) (k:Zd):Bool:=okP p (k.At,k.E.Kind != 0 && rE k.E d)
theorem Zqf (e:Ed) (d:Nat):rE e d=if d=0 then false
 else if e.Kind=0 then Zcq e
 else if e.Kind=1 then (Zix e && Zij e) && ((rt e.Old 64 && e.Old.Kind != 10) && (rt e.New 64 && e.New.Kind != 10))
 else if e.Kind=2 then (Zky e && Zij e) && (chk (·.At) okW (-1) e.Words && chk (·.At) (okK (d - 1)) (-1) e.Kids)
 else if e.Kind=3 then (Zky e && Zix e) && ((decide (2≤e.List_) && decide (e.List_≤9)) && ((e.Ops.all fun o=>okO e.List_ o (rE o.E (d - 1))) && Zjm (e.Ops.foldl stR (0,0))))
 else false:=by
 rw [rE]
 have h1:(e.Kids.attach.map fun k=>(k.1.At,k.1.E.Kind != 0 && rE k.1.E (d - 1)))=e.Kids.map fun k=>(k.At,k.E.Kind != 0 && rE k.E (d - 1)):=List.attach_map_val (f:=fun k:Zd=>(k.At,k.E.Kind != 0 && rE k.E (d - 1)))
 have h2:(e.Ops.attach.map fun o=>okO e.List_ o.1 (rE o.1.E (d - 1)))=e.Ops.map fun o=>okO e.List_ o (rE o.E (d - 1)):=List.attach_map_val (f:=fun o:Zh=>okO e.List_ o (rE o.E (d - 1)))
 rw [h1,h2,Z9p,List.all_map]
 rfl
theorem Ygz {e:Ed} (h:e.Kind=0) {d:Nat} (hd:0 < d):rE e d=Zcq e:=by rw [Zqf,if_neg (by omega),if_pos h]
theorem Yb1 {e:Ed} (h:¬ e.Kind=0):Zcq e=false:=by unfold Zcq;rw [beq_eq_false_iff_ne.2 h];rfl
theorem Z2p {n:Nat}:decide (0 < (n:Int)) = !(n == 0):=by rw [Bool.eq_iff_iff,Bool.not_eq_true',decide_eq_true_eq,beq_eq_false_iff_ne];omega
theorem Z5u {n:Nat}:decide (0 < n) = !(n == 0):=by rw [Bool.eq_iff_iff,Bool.not_eq_true',decide_eq_true_eq,beq_eq_false_iff_ne];omega
theorem Yhu {l:Int} {L:List Tr} (h2:2≤l) (h9:l≤9):rt ⟨l,[],L⟩ 64=(decide (L.length < 1048576) && L.all fun t=>rt t 63 && okk l t):=by
 rw [Zmo]
 simp only
 rw [if_neg (by omega),if_neg (by omega)]
 by_cases h:L.length < 1048576
 ·rw [if_neg (by simp only [List.length_nil];omega),decide_eq_true h,Bool.true_and]
 rw [if_pos (by omega),decide_eq_false h,Bool.false_and]
def BO (o:Zh):Prop:=(o.L.length * 56≤140737488355328∧∀ t∈o.L,Bd t)∧BE o.E
theorem Yhk {l:Int} {L:List Tr} (h:L.length * 56≤140737488355328∧∀ t∈L,Bd t):Bd ⟨l,[],L⟩ := .mk _ (by simp) (by simp only;omega) (fun w hw=>by simp at hw) h.2
theorem Z0v:∀ (k:Nat),(∀ e:Ed,BE e→(4 * SizeOf.sizeOf e+1 < k∨(e.Kind=0∧2≤k))→(Zp k).1 e=some (rE e 64)) ∧
  (∀ (e:Ed) (d:Nat),BE e→(4 * SizeOf.sizeOf e < k∨(e.Kind=0∧1≤k))→d≤64→(Zp k).2.1 e (d:Int)=some (rE e d)) ∧
  (∀ (l:List Zd) (d:Nat),(l.length:Int)≤140737488355328→(∀ x∈l,BE x.E∧4 * SizeOf.sizeOf x.E+1 < k)→1≤k→d≤64→(Zp k).2.2.1 l (d:Int)=some (chk (·.At) (okK d) (-1) l)) ∧
  (∀ (e:Ed) (d:Nat),BE e→(∀ o∈e.Ops,4 * SizeOf.sizeOf o.E+2 < k)→1≤k→d≤64→(Zp k).2.2.2.1 e (d:Int)=some ((decide (2≤e.List_) && decide (e.List_≤9)) && ((e.Ops.all fun o=>okO e.List_ o (rE o.E d)) && Zjm (e.Ops.foldl stR (0,0))))) ∧
  (∀ (l:Int) (o:Zh) (d:Nat),2≤l→l≤9→BO o→4 * SizeOf.sizeOf o.E+1 < k→d≤64→(Zp k).2.2.2.2.1 l o (d:Int)=some (okO l o (rE o.E d) && decide (o.L.length < 1048576))) ∧
  (∀ (a b c:Bool) (o:Zh),BE o.E→3≤k→(Zp k).2.2.2.2.2 a b c o=some ((!a || o.N == 0) && ((!b || o.L.length == 0) && (!c || Zcq o.E))))
 | 0=>⟨fun e _ h=>by omega,fun e d _ h=>by omega,fun l d _ _ h=>by omega,fun e d _ _ h=>by omega,fun l o d _ _ _ h=>by omega,fun a b c o _ h=>by omega⟩
 | k+1=>by
  obtain ⟨i1,i2,i3,i4,i5,i6⟩:=Z0v k
  refine ⟨fun e hb hk => ?_,fun e d hb hk hd => ?_,fun l d hn hl hk hd => ?_,fun e d hb ho hk hd => ?_,fun l o d h2 h9 hb hk hd => ?_,fun a b c o hb hk => ?_⟩
  ·show Zho (Zp k).1 (Zp k).2.1 (Zp k).2.2.1 (Zp k).2.2.2.1 (Zp k).2.2.2.2.1 (Zp k).2.2.2.2.2 e=_
   unfold Zho
   have:=i2 e 64 hb (by rcases hk with hk | hk;exact .inl (by omega);exact .inr ⟨hk.1,by omega⟩) (by decide)
   rw [show (64:Int)=((64:Nat):Int) from rfl,this]
   rfl
  ·show Zhp (Zp k).1 (Zp k).2.1 (Zp k).2.2.1 (Zp k).2.2.2.1 (Zp k).2.2.2.2.1 (Zp k).2.2.2.2.2 e (d:Int)=_
   unfold Zhp
   rw [Zqf]
   by_cases hd0:d=0
   ·subst hd0
    rw [if_pos rfl]
    rfl
   have ed:((d:Int) == 0)=false:=by rw [beq_eq_false_iff_ne];omega
   rw [if_neg hd0,ed,cond_false,Zdd,Zdd,Zdd,Zdd]
   by_cases h0:e.Kind=0
   ·rw [if_pos h0,if_pos h0,Zpu hb,Option.bind_some]
    unfold Zcq
    rw [beq_iff_eq.2 h0]
    rfl
   rw [if_neg h0,if_neg h0]
   have hk':4 * SizeOf.sizeOf e < k+1:=by rcases hk with hk | hk;exact hk;exact absurd hk.1 h0
   have hw:∀ t:Tr,Bd t→Zf8 t=some (rt t 64 && t.Kind != 10):=fun t ht=>by
    unfold Zf8
    rw [Z6d ht]
    cases t.Kind != 10 <;> cases rt t 64 <;> rfl
   by_cases h1:e.Kind=1
   ·rw [if_pos h1,if_pos h1,Zpu hb,hw _ hb.old,hw _ hb.new]
    simp only [Option.bind_some]
    generalize Zky e=q0
    generalize Zix e=q1
    generalize Zij e=q2
    generalize (rt e.Old 64 && e.Old.Kind != 10)=q3
    generalize (rt e.New 64 && e.New.Kind != 10)=q4
    revert q0 q1 q2 q3 q4
    decide
   rw [if_neg h1,if_neg h1]
   obtain ⟨d',rfl⟩:∃ d',d=d'+1:=⟨d - 1,by omega⟩
   have ed':IntKind.i64.wrap (((d'+1:Nat):Int) - 1)=(d':Int):=by rw [Ul (by omega) (by omega)];omega
   rw [ed',Nat.add_sub_cancel]
   by_cases h2:e.Kind=2
   ·rw [if_pos h2,if_pos h2,Zpu hb,Z0k hb.w hb.ws,i3 e.Kids d' hb.k (fun x hx=>⟨hb.ks x hx,by have:=Je hx;omega⟩) (by have:=Zjg e;omega) (by omega)]
    simp only [Option.bind_some]
    generalize Zky e=q0
    generalize Zix e=q1
    generalize Zij e=q2
    generalize chk (·.At) okW (-1) e.Words=q3
    generalize chk (·.At) (okK d') (-1) e.Kids=q4
    revert q0 q1 q2 q3 q4
    decide
   rw [if_neg h2,if_neg h2]
   by_cases h3:e.Kind=3
   ·rw [if_pos h3,if_pos h3,Zpu hb,i4 e d' hb (fun o ho=>by have:=Kw ho;omega) (by have:=Zjg e;omega) (by omega)]
    simp only [Option.bind_some]
    generalize Zky e=q0
    generalize Zix e=q1
    generalize Zij e=q2
    generalize ((decide (2≤e.List_) && decide (e.List_≤9)) && ((e.Ops.all fun o=>okO e.List_ o (rE o.E d')) && Zjm (e.Ops.foldl stR (0,0))))=q3
    revert q0 q1 q2 q3
    decide
   rw [if_neg h3,if_neg h3]
  ·show Zb7 (Zp k).1 (Zp k).2.1 (Zp k).2.2.1 (Zp k).2.2.2.1 (Zp k).2.2.2.2.1 (Zp k).2.2.2.2.2 l (d:Int)=_
   unfold Zb7
   rw [Zsl l (·.At) (okK d) (G5 (Zp k).2.1 l (d:Int)) (.inl ()) (.inr ()) hn (fun p i x hi hx hm=>by
    unfold G5
    simp only
    rw [Zbe hi,cond_true,Yw hx,Option.bind_some,i2 x.E d (hl x hm).1 (.inl (by have:=(hl x hm).2;omega)) hd]
    simp only [Option.bind_some]
    unfold okK okP bne
    simp only
    generalize decide (x.At≤p)=q1
    generalize decide (65534 < x.At)=q2
    generalize (x.E.Kind == 0)=q3
    generalize rE x.E d=q4
    cases q1 <;> cases q2 <;> cases q3 <;> cases q4 <;> rfl) (fun p=>by unfold G5;simp only;rw [Zd1];rfl) (-1),Option.bind_some]
   cases chk (·.At) (okK d) (-1) l <;> rfl
  ·show Zc9 (Zp k).1 (Zp k).2.1 (Zp k).2.2.1 (Zp k).2.2.2.1 (Zp k).2.2.2.2.1 (Zp k).2.2.2.2.2 e (d:Int)=_
   unfold Zc9
   rw [Z2s,Option.bind_some]
   by_cases hl:2≤e.List_∧e.List_≤9
   ·rw [decide_eq_true hl.1,decide_eq_true hl.2,(Ygi hb).1]
    rw [Zh1 e.Ops (Zan (Zp k).2.2.2.2.1 e (d:Int)) (fun o=>okO e.List_ o (rE o.E d) && decide (o.L.length < 1048576)) (.inl ()) (.inr ()) hb.o (fun i x hi hx hm=>by
     unfold Zan
     rw [Zbe hi,cond_true,Yw hx,Option.bind_some,i5 e.List_ x d hl.1 hl.2 ⟨hb.l x hm,hb.os x hm⟩ (by have:=ho x hm;omega) hd,Option.bind_some]
     cases okO e.List_ x (rE x.E d) && decide (x.L.length < 1048576) <;> rfl) (by unfold Zan;rw [Zd1];rfl)]
    have hob:=Ydv (l:=e.List_) (fun o=>rE o.E d) e.Ops (fun o ho=>(hb.l o ho).1)
    rw [← hob]
    unfold Zjm
    cases e.Ops.all fun o=>okO e.List_ o (rE o.E d) && decide (o.L.length < 1048576) with
    | false=>rfl
    | true =>
     simp only [Option.bind_some,Bool.and_true,Bool.not_true,cond_false,Bool.true_and,if_true]
     rw [Zeq]
   have:(decide (2≤e.List_) && decide (e.List_≤9))=false:=by rw [Bool.and_eq_false_iff,decide_eq_false_iff_not,decide_eq_false_iff_not];omega
   rw [this]
   rfl
  ·show Zep (Zp k).1 (Zp k).2.1 (Zp k).2.2.1 (Zp k).2.2.2.1 (Zp k).2.2.2.2.1 (Zp k).2.2.2.2.2 l o (d:Int)=_
   have hp:=Zjg o.E
   have j6:∀ a b c,(Zp k).2.2.2.2.2 a b c o=some ((!a || o.N == 0) && ((!b || o.L.length == 0) && (!c || Zcq o.E))):=fun a b c=>i6 a b c o hb.2 (by omega)
   unfold Zep okO
   rw [j6,j6,j6,Zdd,Zdd,Zdd,Zdd]
   by_cases h0:o.Kind=0
   ·rw [if_pos h0,if_pos h0]
    simp only [Option.bind_some,Bool.not_false,Bool.not_true,Bool.true_or,Bool.false_or,Bool.true_and]
    congr 1
    cases hL:o.L.length == 0 with
    | false=>simp
    | true =>
     have:o.L.length=0:=beq_iff_eq.1 hL
     rw [this]
     cases decide (1≤o.N) <;> cases decide (o.N≤1048576) <;> cases Zcq o.E <;> rfl
   rw [if_neg h0,if_neg h0]
   by_cases h12:o.Kind=1∨o.Kind=2
   ·have e12:(if o.Kind=1 then some (Sum.inl ()) else if o.Kind=2 then some (Sum.inl ()) else if o.Kind=3 then some (Sum.inr (Sum.inr (Sum.inl ()))) else some (Sum.inr (Sum.inr (Sum.inr ()))))=(some (Sum.inl ()):Option (Unit ⊕ (Bool ⊕ (Unit ⊕ Unit)))):=by
     rcases h12 with h | h
     ·rw [if_pos h]
     rw [if_neg (by omega),if_pos h]
    rw [e12,if_pos h12,Z6d (Yhk hb.1),Yhu h2 h9,Z2p,Z5u]
    simp only [Option.bind_some]
    generalize (o.N == 0)=q1
    generalize (o.L.length == 0)=q2
    generalize Zcq o.E=q3
    generalize decide (o.L.length < 1048576)=q4
    generalize (o.L.all fun t=>rt t 63 && okk l t)=q5
    revert q1 q2 q3 q4 q5
    decide
   rw [if_neg h12,if_neg (by omega),if_neg (by omega)]
   by_cases h3:o.Kind=3
   ·rw [if_pos h3,if_pos h3,Yf5,i2 o.E d hb.2 (.inl (by omega)) hd]
    simp only [Option.bind_some]
    have hdk:Zno l o.E=true→(o.E.Kind != 0)=true:=fun h=>by
     unfold Zno at h
     by_cases k0:o.E.Kind=0
     ·rw [k0] at h
      repeat' split at h
      all_goals simp_all
     simp [k0]
    cases hL:o.L.length == 0 with
    | false =>
     cases (o.N == 0) <;> rfl
    | true =>
     have:o.L.length=0:=beq_iff_eq.1 hL
     rw [this]
     cases hdp:Zno l o.E with
     | false=>cases (o.N == 0) <;> cases (o.E.Kind != 0) <;> rfl
     | true =>
      rw [hdk hdp]
      cases (o.N == 0) <;> cases rE o.E d <;> rfl
   rw [if_neg h3,if_neg h3]
   rfl
  show Zb8 (Zp k).1 (Zp k).2.1 (Zp k).2.2.1 (Zp k).2.2.2.1 (Zp k).2.2.2.2.1 (Zp k).2.2.2.2.2 a b c o=_
  unfold Zb8 bne
  rw [Z2p]
  by_cases hK:o.E.Kind=0
  ·rw [i1 o.E hb (.inr ⟨hK,by omega⟩),Ygz hK (by decide),beq_iff_eq.2 hK]
   simp only [Option.bind_some]
   generalize (o.N == 0)=q1
   generalize (o.L.length == 0)=q2
   generalize Zcq o.E=q3
   revert a b c q1 q2 q3
   decide
  rw [Yb1 hK,beq_eq_false_iff_ne.2 hK]
  generalize (o.N == 0)=q1
  generalize (o.L.length == 0)=q2
  cases a <;> cases b <;> cases c <;> cases q1 <;> cases q2 <;> rfl
theorem Ybf {e:Ed} (h:BE e):Zm5 e=some (rE e 64):=Zgc (4 * SizeOf.sizeOf e+2) fun k hk=>(Z0v k).1 e h (.inl (by omega))
theorem Yg8 {α:Type} {l:List α} {i:Nat} {x:α} (hx:l[i]? = some x) (hl:(l.length:Int)≤140737488355328):Zcl l (i:Int) (IntKind.i64.wrap ((i:Int)+1))=some [x]:=by
 have hi:i < l.length:=by
  rcases Nat.lt_or_ge i l.length with h' | h'
  ·exact h'
  rw [List.getElem?_eq_none h'] at hx;cases hx
 rw [Ul (by omega) (by omega)]
 unfold Zcl
 rw [if_pos (by omega)]
 have e1:((i:Int)+1 - (i:Int)).toNat=1:=by omega
 rw [e1,Int.toNat_natCast,List.drop_eq_getElem_cons hi,List.take_succ_cons,List.take_zero]
 rw [List.getElem?_eq_getElem hi] at hx
 rw [Option.some.inj hx]
theorem Z9s:∀ (k:Nat),(∀ (e:Ed) (d:Nat),BE e→2 * SizeOf.sizeOf e < k→d≤64→(Y4 k).1 e (d:Int)=some (rE e d)) ∧
  (∀ (l:Int) (o:Zh) (d:Nat),2≤l→l≤9→BO o→2 * SizeOf.sizeOf o.E+1 < k→d≤64→(Y4 k).2 l o (d:Int)=some (okO l o (rE o.E d)))
 | 0=>⟨fun e d _ h=>by omega,fun l o d _ _ _ h=>by omega⟩
 | k+1=>by
  obtain ⟨i1,i2⟩:=Z9s k
  refine ⟨fun e d hb hk hd => ?_,fun l o d h2 h9 hb hk hd => ?_⟩
  ·show Zak (Y4 k).1 (Y4 k).2 e (d:Int)=_
   unfold Zak
   rw [Zqf,Zv3 hb.old,Zv3 hb.new,Yfl hb,Ydc,Yb0 hb,Z98 hb]
   by_cases hd0:d=0
   ·subst hd0
    rw [if_pos rfl]
    rfl
   have ed:((d:Int) == 0)=false:=by rw [beq_eq_false_iff_ne];omega
   rw [if_neg hd0,ed,cond_false]
   obtain ⟨d',rfl⟩:∃ d',d=d'+1:=⟨d - 1,by omega⟩
   have ed':IntKind.i64.wrap (((d'+1:Nat):Int) - 1)=(d':Int):=by rw [Ul (by omega) (by omega)];omega
   by_cases hbad:e.Kind < 0∨3 < e.Kind
   ·have q:cond (decide (e.Kind < 0)) true (decide (3 < e.Kind))=true:=by
     rcases hbad with h | h
     ·rw [decide_eq_true h];rfl
     rw [decide_eq_true h];cases decide (e.Kind < 0) <;> rfl
    rw [q,cond_true,if_neg (by omega),if_neg (by omega),if_neg (by omega),if_neg (by omega)]
   have q:cond (decide (e.Kind < 0)) true (decide (3 < e.Kind))=false:=by
    rw [decide_eq_false (by omega),decide_eq_false (by omega)]
    rfl
   rw [q,cond_false]
   simp only [Option.bind_some]
   have hkids:Zw (K3 (Y4 k).1 e ((d'+1:Nat):Int)) (-1,0)=some (if chk (·.At) (okK d') (-1) e.Kids=true then Sum.inr () else Sum.inl ()) :=
    Zsl e.Kids (·.At) (okK d') (K3 (Y4 k).1 e ((d'+1:Nat):Int)) (.inl ()) (.inr ()) hb.k (fun p i x hi hx hm=>by
     unfold K3
     simp only
     rw [Zbe hi,cond_true,Yw hx,Option.bind_some,ed',i1 x.E d' (hb.ks x hm) (by have:=Je hm;omega) (by omega)]
     simp only [Option.bind_some]
     unfold okK okP bne
     simp only
     generalize decide (x.At≤p)=q1
     generalize decide (65534 < x.At)=q2
     generalize (x.E.Kind == 0)=q3
     generalize rE x.E d'=q4
     cases q1 <;> cases q2 <;> cases q3 <;> cases q4 <;> rfl) (fun p=>by unfold K3;simp only;rw [Zd1];rfl) (-1)
   have hnil:e.Ops=[]→Zw (J3 (Y4 k).2 e ((d'+1:Nat):Int)) 0=some (Sum.inr ()):=fun h=>Z8 (by
    unfold J3
    rw [h]
    rfl)
   have wk_nil:Zix e=true→e.Words=[]∧e.Kids=[]:=fun h=>by
    unfold Zix at h
    rw [Bool.and_eq_true,beq_iff_eq,beq_iff_eq] at h
    exact ⟨List.eq_nil_of_length_eq_zero h.1,List.eq_nil_of_length_eq_zero h.2⟩
   have lo_nil:Zij e=true→e.List_=0∧e.Ops=[]:=fun h=>by
    unfold Zij at h
    rw [Bool.and_eq_true,beq_iff_eq,beq_iff_eq] at h
    exact ⟨h.1,List.eq_nil_of_length_eq_zero h.2⟩
   rw [Nat.add_sub_cancel]
   by_cases h0:e.Kind=0
   ·rw [if_pos h0]
    unfold Zcq Zky
    rw [h0]
    cases hwk:Zix e with
    | false=>cases Zb2 e.Old <;> cases Zb2 e.New <;> cases Zij e <;> rfl
    | true =>
     cases hlo:Zij e with
     | false=>cases Zb2 e.Old <;> cases Zb2 e.New <;> rfl
     | true =>
      obtain ⟨w0,k0⟩:=wk_nil hwk
      obtain ⟨l0,o0⟩:=lo_nil hlo
      rw [hkids,hnil o0,w0,k0,o0]
      cases Zb2 e.Old <;> cases Zb2 e.New <;> rfl
   rw [if_neg h0]
   by_cases h1:e.Kind=1
   ·have r1:=Zpx hb.old (d:=64) (by decide)
    have r2:=Zpx hb.new (d:=64) (by decide)
    rw [show ((64:Nat):Int)=64 from rfl] at r1 r2
    rw [if_pos h1,h1,r1,r2]
    simp only [Option.bind_some]
    generalize Zix e=q1
    generalize Zij e=q2
    generalize rt e.Old 64=q3
    generalize rt e.New 64=q4
    generalize (e.Old.Kind != 10)=q5
    generalize (e.New.Kind != 10)=q6
    cases q1 <;> cases q2 <;> cases q3 <;> cases q4 <;> cases q5 <;> cases q6 <;> rfl
   rw [if_neg h1]
   by_cases h2:e.Kind=2
   ·rw [if_pos h2,h2]
    unfold Zky
    cases hlo:Zij e with
    | false=>cases Zb2 e.Old <;> cases Zb2 e.New <;> rfl
    | true =>
     obtain ⟨l0,o0⟩:=lo_nil hlo
     rw [hkids,hnil o0,o0]
     generalize chk (·.At) okW (-1) e.Words=q1
     generalize chk (·.At) (okK d') (-1) e.Kids=q2
     cases Zb2 e.Old <;> cases Zb2 e.New <;> cases q1 <;> cases q2 <;> rfl
   have h3:e.Kind=3:=by omega
   rw [if_neg h2,if_pos h3,h3]
   unfold Zky
   cases hwk:Zix e with
   | false=>cases Zb2 e.Old <;> cases Zb2 e.New <;> rfl
   | true =>
    obtain ⟨w0,k0⟩:=wk_nil hwk
    rw [hkids,w0,k0]
    by_cases hl:2≤e.List_∧e.List_≤9
    ·have hops:Zw (J3 (Y4 k).2 e ((d'+1:Nat):Int)) 0=some (if (e.Ops.all fun o=>okO e.List_ o (rE o.E d'))=true then Sum.inr () else Sum.inl ()) :=
      Zh1 e.Ops _ (fun o=>okO e.List_ o (rE o.E d')) (Sum.inl ():Unit ⊕ Unit) (Sum.inr ()) hb.o (fun i x hi hx hm=>by
       unfold J3
       rw [Zbe hi,cond_true,Yw hx,Option.bind_some,ed',i2 e.List_ x d' hl.1 hl.2 ⟨hb.l x hm,hb.os x hm⟩ (by have:=Kw hm;omega) (by omega),Option.bind_some]
       cases okO e.List_ x (rE x.E d') <;> rfl) (by unfold J3;rw [Zd1];rfl)
     rw [hops,decide_eq_true hl.1,decide_eq_true hl.2,decide_eq_false (p:=e.List_ < 2) (by omega),decide_eq_false (p:=9 < e.List_) (by omega)]
     unfold Zjm
     generalize (e.Ops.all fun o=>okO e.List_ o (rE o.E d'))=q1
     generalize decide ((e.Ops.foldl stR (0,0)).1 < 1048576)=q2
     generalize decide ((e.Ops.foldl stR (0,0)).2 < 1048576)=q3
     cases Zb2 e.Old <;> cases Zb2 e.New <;> cases q1 <;> cases q2 <;> cases q3 <;> rfl
    have q:cond (decide (e.List_ < 2)) true (decide (9 < e.List_))=true:=by
     by_cases h:e.List_ < 2
     ·rw [decide_eq_true h];rfl
     rw [decide_eq_true (p:=9 < e.List_) (by omega)];cases decide (e.List_ < 2) <;> rfl
    have q':(decide (2≤e.List_) && decide (e.List_≤9))=false:=by rw [Bool.and_eq_false_iff,decide_eq_false_iff_not,decide_eq_false_iff_not];omega
    rw [q,q']
    cases Zb2 e.Old <;> cases Zb2 e.New <;> rfl
  show Zc6 (Y4 k).1 (Y4 k).2 l o (d:Int)=_
  have hlen:(o.L.length:Int)≤140737488355328:=by have:=hb.1.1;omega
  have hloop:Zw (Zal l o) 0=some (if (o.L.all fun t=>rt t 63 && okk l t)=true then Sum.inr () else Sum.inl ()) :=
   Zh1 o.L _ (fun t=>rt t 63 && okk l t) (Sum.inl ():Unit ⊕ Unit) (Sum.inr ()) hlen (fun i x hi hx hm=>by
    unfold Zal
    have hbx:Bd ⟨l,[],[x]⟩:=Yhk ⟨by simp,fun t ht=>by rw [List.mem_singleton.1 ht];exact hb.1.2 x hm⟩
    have r1:=Zpx hbx (d:=64) (by decide)
    rw [show ((64:Nat):Int)=64 from rfl,Yhu h2 h9] at r1
    rw [Zbe hi,cond_true,Yg8 hx hlen,Option.bind_some,r1,Option.bind_some]
    simp only [List.all_cons,List.all_nil,Bool.and_true,List.length_singleton]
    cases rt x 63 && okk l x <;> rfl) (by unfold Zal;rw [Zd1];rfl)
  unfold Zc6 okO
  rw [Yeb hb.2,i1 o.E d hb.2 (by omega) hd,hloop,Z7s,Z2p,Z5u]
  simp only [Option.bind_some]
  by_cases h0:o.Kind=0
  ·rw [if_pos h0,h0]
   generalize decide (1≤o.N)=q1
   generalize decide (o.N≤1048576)=q2
   generalize (o.L.length == 0)=q3
   generalize Zcq o.E=q4
   cases q1 <;> cases q2 <;> cases q3 <;> cases q4 <;> rfl
  rw [if_neg h0,beq_eq_false_iff_ne.2 h0,cond_false]
  by_cases h12:o.Kind=1∨o.Kind=2
  ·rw [if_pos h12,decide_eq_false (p:=o.Kind < 0) (by omega),decide_eq_false (p:=3 < o.Kind) (by omega),decide_eq_true (p:=o.Kind < 3) (by omega)]
   unfold bne
   generalize (o.N == 0)=q1
   generalize (o.L.length == 0)=q2
   generalize (o.L.all fun t=>rt t 63 && okk l t)=q3
   generalize Zcq o.E=q4
   cases q1 <;> cases q2 <;> cases q3 <;> cases q4 <;> rfl
  rw [if_neg h12]
  by_cases h3:o.Kind=3
  ·rw [if_pos h3,h3]
   unfold bne Zno
   by_cases k0:o.E.Kind=0
   ·rw [k0]
    generalize (o.N == 0)=q1
    generalize (o.L.length == 0)=q2
    cases q1 <;> cases q2 <;> rfl
   rw [beq_eq_false_iff_ne.2 k0]
   by_cases l8:l=8
   ·rw [if_pos l8,l8]
    unfold bne
    rw [beq_eq_false_iff_ne.2 k0]
    generalize (o.N == 0)=q1
    generalize (o.L.length == 0)=q2
    generalize rE o.E d=q3
    cases q1 <;> cases q2 <;> cases q3 <;> rfl
   rw [if_neg l8]
   by_cases l9:l=9
   ·rw [if_pos l9,l9]
    generalize (o.N == 0)=q1
    generalize (o.L.length == 0)=q2
    generalize rE o.E d=q3
    generalize (o.E.Kind == 2)=q4
    generalize (o.E.Kind == 1)=q5
    generalize (o.E.Old.Kind == 1)=q6
    generalize (o.E.New.Kind == 1)=q7
    cases q1 <;> cases q2 <;> cases q3 <;> cases q4 <;> cases q5 <;> cases q6 <;> cases q7 <;> rfl
   rw [if_neg l9,decide_eq_true (p:=l≤7) (by omega)]
   generalize (o.N == 0)=q1
   generalize (o.L.length == 0)=q2
   cases q1 <;> cases q2 <;> rfl
  rw [if_neg h3]
  have q:cond (cond (o.N != 0) true (decide (o.Kind < 0))) true (decide (3 < o.Kind))=true:=by
   by_cases h:o.Kind < 0
   ·rw [decide_eq_true h];cases o.N != 0 <;> rfl
   rw [decide_eq_true (p:=3 < o.Kind) (by omega)];cases cond (o.N != 0) true (decide (o.Kind < 0)) <;> rfl
  rw [q]
  rfl
theorem Yf7 {e:Ed} (h:BE e) {d:Nat} (hd:d≤64):Zg8 e (d:Int)=some (rE e d):=Zgc (2 * SizeOf.sizeOf e+1) fun k hk=>(Z9s k).1 e d h (by omega) hd
def ce (e:Ed):Nat:=1+e.Words.length+e.Ops.length+(e.Kids.attach.map fun k=>ce k.1.E).sum+(e.Ops.attach.map fun o=>ce o.1.E).sum
termination_by SizeOf.sizeOf e
decreasing_by
 ·exact Je k.2
 exact Kw o.2
theorem Z5b (e:Ed):ce e=1+e.Words.length+e.Ops.length+(e.Kids.map fun k=>ce k.E).sum+(e.Ops.map fun o=>ce o.E).sum:=by
 rw [ce]
 have h1:(e.Kids.attach.map fun k=>ce k.1.E)=e.Kids.map fun k=>ce k.E:=List.attach_map_val (f:=fun k:Zd=>ce k.E)
 have h2:(e.Ops.attach.map fun o=>ce o.1.E)=e.Ops.map fun o=>ce o.E:=List.attach_map_val (f:=fun o:Zh=>ce o.E)
 rw [h1,h2]
theorem Z2o:∀ (k:Nat) (e:Ed) (d left:Int),BE e→SizeOf.sizeOf e < k→0≤d→d≤100→0≤left→left≤1000000→∃ r,Ym k e d left=some r∧-1≤r∧r≤1000000∧(0≤r→r+(ce e:Nat)≤left)
 | 0,e,_,_,_,h,_,_,_,_=>by omega
 | k+1,e,d,left,hb,hk,hd0,hd1,hl0,hl1=>by
  have hw:=hb.w
  have ho:=hb.o
  show ∃ r,Jd (Ym k) e d left=some r∧_
  unfold Jd
  rw [Ul (x:=left - 1) (by omega) (by omega),Ul (x:=left - 1 - (e.Words.length:Int)) (by omega) (by omega),Ul (by omega) (by omega),Z5b]
  cases hc:cond (d == 0) true (decide (left - 1 - (e.Words.length:Int) - (e.Ops.length:Int) < 0)) with
  | true=>exact ⟨-1,rfl,by omega,by omega,fun h=>by omega⟩
  | false =>
   rw [cond_false]
   have hd:¬ d=0∧0≤left - 1 - (e.Words.length:Int) - (e.Ops.length:Int):=by
    by_cases h:d=0
    ·simp [h] at hc
    have e:(d == 0)=false:=by simp [h]
    rw [e,cond_false,decide_eq_false_iff_not] at hc
    exact ⟨h,by omega⟩
   obtain ⟨r1,g1,g2,g3,g4⟩:=Zpy hb.old hd.2 (by omega)
   have hz:∃ z,cond (decide (0≤r1)) ((Q0 e.New 80 r1).bind fun y4=>some y4) (some r1)=some z∧-1≤z∧z≤1000000∧(0≤z→z≤left - 1 - (e.Words.length:Int) - (e.Ops.length:Int)):=by
    by_cases h:0≤r1
    ·obtain ⟨r2,f1,f2,f3,f4⟩:=Zpy hb.new h g3
     refine ⟨r2,by rw [decide_eq_true h,f1];rfl,f2,f3,fun h2 => ?_⟩
     have:=f4 h2
     have:=g4 h
     omega
    exact ⟨r1,by rw [decide_eq_false h];rfl,g2,g3,fun h2=>absurd h2 h⟩
   obtain ⟨z,z1,z2,z3,z4⟩:=hz
   rw [g1,Option.bind_some,z1,Option.bind_some]
   obtain ⟨r,h1,h2⟩:=Zbx (step:=Qx (Ym k) e d)
    (fun s=>∃ j:Nat,s.2=j∧j≤e.Kids.length∧-1≤s.1∧s.1≤1000000∧(0≤s.1→s.1+((((e.Kids.take j).map fun k=>ce k.E)).sum:Nat)≤left - 1 - (e.Words.length:Int) - (e.Ops.length:Int)))
    (fun s=>e.Kids.length - s.2.toNat) (fun r=>-1≤r∧r≤1000000∧(0≤r→r+((e.Kids.map fun k=>ce k.E).sum:Nat)≤left - 1 - (e.Words.length:Int) - (e.Ops.length:Int))) (fun s hI=>by
     obtain ⟨l,i⟩:=s
     obtain ⟨j,rfl,hj,g1,g2,g3⟩:=hI
     have hkl:=hb.k
     simp only at g1 g2 g3 ⊢
     unfold Qx
     simp only
     by_cases hji:j < e.Kids.length
     ·rw [Zbe hji,cond_true]
      by_cases hl:0≤l
      ·have e1:decide (0≤l)=true:=by simp [hl]
       have hx:e.Kids[j]? = some e.Kids[j]:=List.getElem?_eq_getElem hji
       have hm:e.Kids[j]∈e.Kids:=List.getElem_mem hji
       obtain ⟨r,q1,q2,q3,q4⟩:=Z2o k e.Kids[j].E (d - 1) l (hb.ks _ hm) (by have:=Je hm;omega) (by omega) (by omega) hl g2
       rw [e1,cond_true,Yw hx,Option.bind_some,Ul (x:=d - 1) (by omega) (by omega),q1,Option.bind_some,Ul (by omega) (by omega)]
       refine .inl ⟨_,rfl,⟨j+1,by simp only;omega,by omega,q2,q3,fun hr => ?_⟩,by simp only;omega⟩
       have:=q4 hr
       have:=g3 hl
       rw [List.take_add_one,hx]
       simp only [Option.toList_some,List.map_append,List.map_cons,List.map_nil,List.sum_append,List.sum_cons,List.sum_nil]
       simp only at hr
       omega
      have e1:decide (0≤l)=false:=by simp [hl]
      rw [e1,cond_false]
      exact .inr ⟨l,rfl,g1,g2,fun h=>absurd h hl⟩
     have hj':j=e.Kids.length:=by omega
     subst hj'
     rw [Zd1,cond_false]
     rw [List.take_length] at g3
     exact .inr ⟨l,rfl,g1,g2,g3⟩) (z,0) ⟨0,rfl,Nat.zero_le _,z2,z3,fun h=>by simpa using z4 h⟩
   rw [h1,Option.bind_some]
   have inner:∀ (j:Nat) (hj:j < e.Ops.length) (l:Int),0≤l→l≤1000000→∃ r,Zw (Jk e (l,(j:Int))) (l,0)=some r∧-1≤r∧r≤1000000∧r≤l:=fun j hj l hl hl'=>by
    have hx:e.Ops[j]? = some e.Ops[j]:=List.getElem?_eq_getElem hj
    have hm:e.Ops[j]∈e.Ops:=List.getElem_mem hj
    have hL:=(hb.l _ hm).1
    obtain ⟨r,h1,h2⟩:=Zbx (step:=Jk e (l,(j:Int)))
     (fun s=>∃ i:Nat,s.2=i∧i≤e.Ops[j].L.length∧-1≤s.1∧s.1≤1000000∧s.1≤l)
     (fun s=>e.Ops[j].L.length - s.2.toNat) (fun r=>-1≤r∧r≤1000000∧r≤l) (fun s hI=>by
      obtain ⟨l',i'⟩:=s
      obtain ⟨i,rfl,hi,g1,g2,g3⟩:=hI
      simp only at g1 g2 g3 ⊢
      unfold Jk
      simp only
      rw [Yw hx,Option.bind_some,Option.bind_some]
      by_cases hii:i < e.Ops[j].L.length
      ·rw [Zbe hii,cond_true]
       by_cases hl2:0≤l'
       ·have e1:decide (0≤l')=true:=by simp [hl2]
        have hx2:e.Ops[j].L[i]? = some e.Ops[j].L[i]:=List.getElem?_eq_getElem hii
        have hm2:e.Ops[j].L[i]∈e.Ops[j].L:=List.getElem_mem hii
        obtain ⟨r,q1,q2,q3,q4⟩:=Zpy ((hb.l _ hm).2 _ hm2) hl2 g2
        rw [e1,cond_true,Yw hx2,Option.bind_some,q1,Option.bind_some,Ul (by omega) (by omega)]
        refine .inl ⟨_,rfl,⟨i+1,by simp only;omega,by omega,q2,q3,?_⟩,by simp only;omega⟩
        simp only
        by_cases hr:0≤r
        ·have:=q4 hr;omega
        omega
       have e1:decide (0≤l')=false:=by simp [hl2]
       rw [e1,cond_false]
       exact .inr ⟨l',rfl,g1,g2,g3⟩
      have hi':i=e.Ops[j].L.length:=by omega
      subst hi'
      rw [Zd1,cond_false]
      exact .inr ⟨l',rfl,g1,g2,g3⟩) (l,0) ⟨0,rfl,Nat.zero_le _,by simp only;omega,by simp only;omega,by simp only;omega⟩
    exact ⟨r,h1,h2⟩
   obtain ⟨r',h1',h2'⟩:=Zbx (step:=Qy (Ym k) e d)
    (fun s=>∃ j:Nat,s.2=j∧j≤e.Ops.length∧-1≤s.1∧s.1≤1000000∧(0≤s.1→0≤r∧s.1+((((e.Ops.take j).map fun o=>ce o.E)).sum:Nat)≤r))
    (fun s=>e.Ops.length - s.2.toNat) (fun q=>-1≤q∧q≤1000000∧(0≤q→0≤r∧q+((e.Ops.map fun o=>ce o.E).sum:Nat)≤r)) (fun s hI=>by
     obtain ⟨l,i⟩:=s
     obtain ⟨j,rfl,hj,g1,g2,g3⟩:=hI
     simp only at g1 g2 g3 ⊢
     unfold Qy
     simp only
     by_cases hji:j < e.Ops.length
     ·rw [Zbe hji,cond_true]
      by_cases hl:0≤l
      ·have e1:decide (0≤l)=true:=by simp [hl]
       have hx:e.Ops[j]? = some e.Ops[j]:=List.getElem?_eq_getElem hji
       have hm:e.Ops[j]∈e.Ops:=List.getElem_mem hji
       obtain ⟨t,t1,t2,t3,t4⟩:=inner j hji l hl g2
       rw [e1,cond_true,t1,Option.bind_some,Ul (x:=(j:Int)+1) (by omega) (by omega)]
       by_cases ht:0≤t
       ·obtain ⟨r,q1,q2,q3,q4⟩:=Z2o k e.Ops[j].E (d - 1) t (hb.os _ hm) (by have:=Kw hm;omega) (by omega) (by omega) ht t3
        rw [decide_eq_true ht,cond_true,Yw hx,Option.bind_some,Ul (x:=d - 1) (by omega) (by omega),q1]
        refine .inl ⟨_,rfl,⟨j+1,by simp only;omega,by omega,q2,q3,fun hr => ?_⟩,by simp only;omega⟩
        have:=q4 hr
        have:=g3 hl
        rw [List.take_add_one,hx]
        simp only [Option.toList_some,List.map_append,List.map_cons,List.map_nil,List.sum_append,List.sum_cons,List.sum_nil]
        simp only at hr
        omega
       rw [decide_eq_false ht]
       exact .inl ⟨_,rfl,⟨j+1,by simp only;omega,by omega,t2,t3,fun hr=>absurd hr ht⟩,by simp only;omega⟩
      have e1:decide (0≤l)=false:=by simp [hl]
      rw [e1,cond_false]
      exact .inr ⟨l,rfl,g1,g2,fun h=>absurd h hl⟩
     have hj':j=e.Ops.length:=by omega
     subst hj'
     rw [Zd1,cond_false]
     rw [List.take_length] at g3
     exact .inr ⟨l,rfl,g1,g2,g3⟩) (r,0) ⟨0,rfl,Nat.zero_le _,h2.1,h2.2.1,fun h=>⟨h,by simp⟩⟩
   rw [h1']
   refine ⟨r',rfl,h2'.1,h2'.2.1,fun hr => ?_⟩
   have p1:=h2'.2.2 hr
   have p2:=h2.2.2 p1.1
   omega
theorem Zpm:∀ (k k':Nat) (e:Ed) (d left:Int),SizeOf.sizeOf e < k→SizeOf.sizeOf e < k'→Ym k e d left=Ym k' e d left
 | 0,_,e,_,_,h,_=>by omega
 | k+1,0,e,_,_,_,h=>by omega
 | k+1,k'+1,e,d,left,h,h'=>by
  show Jd (Ym k) e d left=Jd (Ym k') e d left
  have e1:Qx (Ym k) e d=Qx (Ym k') e d:=funext fun s=>by
   unfold Qx
   cases hx:Xr e.Kids s.2 with
   | none=>rfl
   | some x=>simp only [Option.bind_some,Zpm k k' x.E (IntKind.i64.wrap (d - 1)) s.1 (by have:=Je (Zmf hx);omega) (by have:=Je (Zmf hx);omega)]
  have e2:Qy (Ym k) e d=Qy (Ym k') e d:=funext fun s=>by
   unfold Qy
   cases hx:Xr e.Ops s.2 with
   | none=>rfl
   | some x=>
    have:∀ z,Ym k x.E (IntKind.i64.wrap (d - 1)) z=Ym k' x.E (IntKind.i64.wrap (d - 1)) z:=fun z=>Zpm k k' x.E _ z (by have:=Kw (Zmf hx);omega) (by have:=Kw (Zmf hx);omega)
    simp only [Option.bind_some,this]
  unfold Jd
  rw [e1,e2]
theorem Yjh {e:Ed} (h:BE e):∃ b,U1 e=some b∧(b=true→ce e≤3000):=by
 obtain ⟨r,h1,h2,h3,h4⟩:=Z2o (SizeOf.sizeOf e+1) e 80 3000 h (by omega) (by omega) (by omega) (by omega) (by omega)
 have hr:Zej e 80 3000=some r:=Zgc (SizeOf.sizeOf e+1) fun k hk=>by rw [Zpm k (SizeOf.sizeOf e+1) e 80 3000 (by omega) (by omega)];exact h1
 unfold U1
 rw [hr,Option.bind_some]
 refine ⟨_,rfl,fun hb => ?_⟩
 have:=h4 (by simpa using hb)
 have:0≤r:=by simpa using hb
 omega
theorem Z3t {e:Ed} (hb:BE e) {d:Nat} (h:rE e d=true):e.Ops.foldl stR (0,0)=e.Ops.foldl stI (0,0):=by
 have h0:Sm (0,0):=by unfold Sm;simp
 have hnil:Zij e=true→e.Ops.foldl stR (0,0)=e.Ops.foldl stI (0,0):=fun h=>by
  unfold Zij at h
  rw [Bool.and_eq_true,beq_iff_eq,beq_iff_eq] at h
  rw [List.eq_nil_of_length_eq_zero h.2]
  rfl
 rw [Zqf] at h
 split at h
 ·cases h
 split at h
 ·unfold Zcq at h
  simp only [Bool.and_eq_true] at h
  exact hnil h.2.2.2
 split at h
 ·simp only [Bool.and_eq_true] at h
  exact hnil h.1.2
 split at h
 ·simp only [Bool.and_eq_true] at h
  exact hnil h.1.2
 split at h
 ·simp only [Bool.and_eq_true] at h
  exact (Ztv (fun o=>rE o.E (d - 1)) e.Ops (0,0) h0 (List.all_eq_true.1 h.2.2.1) (fun o ho=>(hb.l o ho).1)).1
 cases h
theorem Zph {α:Type} {pl:α→Int} {ok:Int→α→Bool} {Q:α→Prop} (h:∀ p x,ok p x=true→Q x):∀ (xs:List α) (p:Int),chk pl ok p xs=true→∀ x∈xs,Q x
 | [],_,_=>fun x hx=>by cases hx
 | y::xs,p,hc=>fun x hx=>by
  rw [chk,Bool.and_eq_true] at hc
  rcases List.mem_cons.1 hx with rfl | hx
  ·exact h p _ hc.1
  exact Zph h xs (pl y) hc.2 x hx
abbrev EO:=Zh
def Ja:Tr:=⟨0,[],[]⟩
structure NW where
 out:List EO
 gone:List Tr
 come:List Tr
def eS0:Ed:=⟨0,⟨0,[],[]⟩,⟨0,[],[]⟩,[],[],0,[]⟩
def Zka (l:Int) (e:Ed):Bool:=e.Kind == 0 || (l == 9 && (e.Kind == 2 && (e.Words.length == 0 && e.Kids.length == 0)))
def Zde (g:List Tr):List EO:=if g=[] then [] else [⟨1,0,g,eS0⟩]
def Zet (g:List Tr):List EO:=if g=[] then [] else [⟨2,0,g,eS0⟩]
def NW.flush (s:NW):List EO:=s.out++(Zde s.gone++Zet s.come)
def Uc (out:List EO) (n:Int):List EO:=match out.getLast? with
 | some o=>if o.Kind=0 then out.dropLast++[⟨0,o.N+n,o.L,o.E⟩] else out++[⟨0,n,[],eS0⟩]
 | none=>[⟨0,n,[],eS0⟩]
def stN (l:Int) (s:NW) (p:EO×Ed):NW :=
 if p.1.Kind=1 then ⟨s.out,s.gone++p.1.L.map nrm,s.come⟩
 else if p.1.Kind=2 then ⟨s.out,s.gone,s.come++p.1.L.map nrm⟩
 else if p.1.Kind=0 then ⟨Uc s.flush p.1.N,[],[]⟩
 else if Zka l p.2=true then ⟨Uc s.flush 1,[],[]⟩ else ⟨s.flush++[⟨3,0,[],p.2⟩],[],[]⟩
def s0N:NW:=⟨[],[],[]⟩
def Zp1 (l:Int) (ps:List (EO×Ed)):List EO:=(ps.foldl (stN l) s0N).flush
def nE (e:Ed):Ed :=
 if e.Kind=1 then ⟨1,nrm e.Old,nrm e.New,[],[],0,[]⟩
 else if e.Kind=2 then ⟨2,Ja,Ja,e.Words,e.Kids.attach.map fun k=>⟨k.1.At,nE k.1.E⟩,0,[]⟩
 else if e.Kind=3 then ⟨3,Ja,Ja,[],[],e.List_,Zp1 e.List_ (e.Ops.attach.map fun o=>(o.1,nE o.1.E))⟩
 else eS0
termination_by SizeOf.sizeOf e
decreasing_by
 ·exact Je k.2
 exact Kw o.2
def Uu (l:List EO):List (EO×Ed):=l.map fun o=>(o,nE o.E)
theorem Zgs (e:Ed):nE e=if e.Kind=1 then ⟨1,nrm e.Old,nrm e.New,[],[],0,[]⟩
 else if e.Kind=2 then ⟨2,Ja,Ja,e.Words,e.Kids.map fun k=>⟨k.At,nE k.E⟩,0,[]⟩
 else if e.Kind=3 then ⟨3,Ja,Ja,[],[],e.List_,Zp1 e.List_ (Uu e.Ops)⟩
 else eS0:=by
 have h1:(e.Kids.attach.map fun k=>(⟨k.1.At,nE k.1.E⟩:Zd))=e.Kids.map fun k=>⟨k.At,nE k.E⟩:=List.attach_map_val (f:=fun k:Zd=>(⟨k.At,nE k.E⟩:Zd))
 have h2:(e.Ops.attach.map fun o=>((o.1,nE o.1.E):EO×Ed))=Uu e.Ops:=List.attach_map_val (f:=fun o:EO=>((o,nE o.E):EO×Ed))
 rw [nE,h1,h2]
theorem Za7 (o':List EO) (k n:Int) (L:List Tr) (E:Ed):Uc (o'++[⟨0,k,L,E⟩]) n=o'++[⟨0,k+n,L,E⟩]:=by
 unfold Uc
 simp
theorem Zfe {out:List EO} {n:Int} (h:∀ o,out.getLast? = some o→o.Kind≠0):Uc out n=out++[⟨0,n,[],eS0⟩]:=by
 unfold Uc
 cases hl:out.getLast? with
 | none=>rw [List.getLast?_eq_none_iff.1 hl];rfl
 | some o=>simp only [if_neg (h o hl)]
theorem Z5c:Zde []=[]:=rfl
theorem Zxl:Zet []=[]:=rfl
theorem Zgw {g:List Tr} (h:g≠[]):Zde g=[⟨1,0,g,eS0⟩]:=if_neg h
theorem Zgx {g:List Tr} (h:g≠[]):Zet g=[⟨2,0,g,eS0⟩]:=if_neg h
theorem Yc1 {a b:List Tr} {o:EO} (h:(Zde a++Zet b).getLast? = some o):o.Kind=1∨o.Kind=2:=by
 by_cases hb:b=[]
 ·subst hb
  by_cases ha:a=[]
  ·subst ha;simp [Zde,Zet] at h
  rw [Zgw ha,Zxl] at h;simp at h;subst h;exact .inl rfl
 rw [Zgx hb] at h
 simp at h
 subst h
 exact .inr rfl
theorem Yf9 {a b:List Tr} (h:Zde a++Zet b=[]):a=[]∧b=[]:=by
 rw [List.append_eq_nil_iff] at h
 refine ⟨?_,?_⟩
 ·by_cases ha:a=[]
  ·exact ha
  rw [Zgw ha] at h;simp at h
 by_cases hb:b=[]
 ·exact hb
 rw [Zgx hb] at h;simp at h
theorem Zqo {s:NW} {o:EO} (h:s.flush.getLast? = some o):(o.Kind=1∨o.Kind=2)∨(s.gone=[]∧s.come=[]∧s.out.getLast? = some o):=by
 unfold NW.flush at h
 by_cases hD:Zde s.gone++Zet s.come=[]
 ·obtain ⟨h1,h2⟩:=Yf9 hD
  rw [hD,List.append_nil] at h
  exact .inr ⟨h1,h2,h⟩
 rw [List.getLast?_append] at h
 cases hq:(Zde s.gone++Zet s.come).getLast? with
 | none=>exact absurd (List.getLast?_eq_none_iff.1 hq) hD
 | some x =>
  rw [hq] at h
  injection h with h
  subst h
  exact .inl (Yc1 hq)
structure NInv (l:Int) (s:NW):Prop where
 again:(Uu s.out).foldl (stN l) s0N=⟨s.out,[],[]⟩
 last:∀ o' o,s.out=o'++[o]→o.Kind=0→o.L=[]∧o.E=eS0∧(∀ x,o'.getLast? = some x→x.Kind≠0)∧((Uu o').foldl (stN l) s0N).flush=o'
 gone:s.gone.map nrm=s.gone
 come:s.come.map nrm=s.come
theorem Zdz (a b:List EO):Uu (a++b)=Uu a++Uu b:=by simp [Uu]
theorem Zs8 {l:Int} {s:NW} {n:Int} {L:List Tr} {E r:Ed}:stN l s (⟨0,n,L,E⟩,r)=⟨Uc s.flush n,[],[]⟩:=by
 unfold stN
 simp
theorem Zpi {l:Int} {s:NW} (h:NInv l s):(Uu s.flush).foldl (stN l) s0N=s:=by
 unfold NW.flush
 rw [Zdz,List.foldl_append,h.again,Zdz,List.foldl_append]
 have e1:(Uu (Zde s.gone)).foldl (stN l) ⟨s.out,[],[]⟩=⟨s.out,s.gone,[]⟩:=by
  by_cases hg:s.gone=[]
  ·rw [hg];rfl
  rw [Zgw hg];simp [Uu,stN,h.gone]
 have e2:(Uu (Zet s.come)).foldl (stN l) ⟨s.out,s.gone,[]⟩=⟨s.out,s.gone,s.come⟩:=by
  by_cases hg:s.come=[]
  ·rw [hg];rfl
  rw [Zgx hg];simp [Uu,stN,h.come]
 rw [e1,e2]
theorem Zyy {α:Type} {a b:List α} {x y:α} (h:a++[x]=b++[y]):a=b∧x=y:=by
 have:=List.append_inj' h rfl
 exact ⟨this.1,by simpa using this.2⟩
theorem NInv.keep {l:Int} {s:NW} (h:NInv l s) (n:Int):NInv l ⟨Uc s.flush n,[],[]⟩:=by
 by_cases hk:∃ o,s.flush.getLast? = some o∧o.Kind=0
 ·obtain ⟨o,ho,hk0⟩:=hk
  rcases Zqo ho with h12 | ⟨g1,g2,g3⟩
  ·omega
  have hfl:s.flush=s.out:=by unfold NW.flush;rw [g1,g2];simp [Zde,Zet]
  obtain ⟨o',ho'⟩:=List.getLast?_eq_some_iff.1 g3
  obtain ⟨a1,a2,a3,a4⟩:=h.last o' o ho' hk0
  obtain ⟨k,N,L,E⟩:=o
  simp only at hk0 a1 a2
  subst hk0 a1 a2
  rw [hfl,ho',Za7]
  have key:∀ N':Int,(Uu (o'++[⟨0,N',[],eS0⟩])).foldl (stN l) s0N=⟨o'++[⟨0,N',[],eS0⟩],[],[]⟩:=fun N'=>by
   rw [Zdz,List.foldl_append]
   show stN l _ (⟨0,N',[],eS0⟩,nE eS0)=_
   rw [Zs8,a4,Zfe a3]
  refine ⟨key _,fun o1 o2 he hk2 => ?_,rfl,rfl⟩
  obtain ⟨e1,e2⟩:=Zyy he
  subst e1 e2
  exact ⟨rfl,rfl,a3,a4⟩
 have hk':∀ o,s.flush.getLast? = some o→o.Kind≠0:=fun o ho h0=>hk ⟨o,ho,h0⟩
 rw [Zfe hk']
 refine ⟨?_,fun o1 o2 he hk2 => ?_,rfl,rfl⟩
 ·rw [Zdz,List.foldl_append,Zpi h]
  show stN l _ (⟨0,n,[],eS0⟩,nE eS0)=_
  rw [Zs8,Zfe hk']
 simp only at he
 obtain ⟨e1,e2⟩:=Zyy he
 subst e1 e2
 exact ⟨rfl,rfl,hk',by rw [Zpi h]⟩
theorem NInv.step {l:Int} {s:NW} (h:NInv l s) {p:EO×Ed} (hp:nE p.2=p.2):NInv l (stN l s p):=by
 unfold stN
 split
 ·exact ⟨h.again,h.last,by simp only [List.map_append,h.gone,List.map_map];congr 1;exact List.map_congr_left fun x _=>Zpo x,h.come⟩
 split
 ·exact ⟨h.again,h.last,h.gone,by simp only [List.map_append,h.come,List.map_map];congr 1;exact List.map_congr_left fun x _=>Zpo x⟩
 split
 ·exact h.keep _
 split
 ·exact h.keep _
 rename_i h1 h2 h0 hi
 refine ⟨?_,fun o1 o2 he hk2 => ?_,rfl,rfl⟩
 ·simp only
  rw [Zdz,List.foldl_append,Zpi h]
  show stN l s (⟨3,0,[],p.2⟩,nE p.2)=_
  rw [hp]
  unfold stN
  simp only [show ¬ (3:Int)=1 from by decide,show ¬ (3:Int)=2 from by decide,show ¬ (3:Int)=0 from by decide,if_false]
  rw [if_neg hi]
 simp only at he
 obtain ⟨_,e2⟩:=Zyy he
 subst e2
 simp at hk2
theorem Z07 {l:Int}:∀ (ps:List (EO×Ed)) (s:NW),NInv l s→(∀ p∈ps,nE p.2=p.2)→NInv l (ps.foldl (stN l) s)
 | [],_,h,_=>h
 | p::ps,s,h,hp=>Z07 ps _ (h.step (hp p (by simp))) fun q hq=>hp q (by simp [hq])
theorem Z7u {l:Int} {ps:List (EO×Ed)} (hp:∀ p∈ps,nE p.2=p.2):Zp1 l (Uu (Zp1 l ps))=Zp1 l ps:=by
 have h:=Z07 ps s0N (l:=l) ⟨rfl,fun o' o he=>by simp [s0N] at he,rfl,rfl⟩ hp
 unfold Zp1
 rw [Zpi h]
theorem Z23:∀ (n:Nat) (e:Ed),SizeOf.sizeOf e < n→nE (nE e)=nE e
 | 0,_,h=>by omega
 | n+1,e,h=>by
  rw [Zgs e]
  by_cases h1:e.Kind=1
  ·rw [if_pos h1,Zgs]
   simp [Zpo]
  rw [if_neg h1]
  by_cases h2:e.Kind=2
  ·rw [if_pos h2,Zgs]
   simp only [show ¬ (2:Int)=1 from by decide,if_false,if_true,List.map_map]
   congr 1
   refine List.map_congr_left fun k hk => ?_
   simp only [Function.comp]
   rw [Z23 n k.E (by have:=Je hk;omega)]
  rw [if_neg h2]
  by_cases h3:e.Kind=3
  ·rw [if_pos h3,Zgs]
   simp only [show ¬ (3:Int)=1 from by decide,show ¬ (3:Int)=2 from by decide,if_false,if_true]
   rw [Z7u fun p hp => ?_]
   obtain ⟨o,ho,rfl⟩:=List.mem_map.1 hp
   exact Z23 n o.E (by have:=Kw ho;omega)
  rw [if_neg h3,Zgs]
  simp [eS0]
end Go.Proofs.Ytbjcopkgdjombaa
