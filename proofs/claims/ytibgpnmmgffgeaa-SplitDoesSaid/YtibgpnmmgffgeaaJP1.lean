/- Plain facts on this seat's mirrors (part JP1); each theorem bears its own conditions. -/
import Derived.Test.YtibgpnmmgffgeaaJD
namespace Go.Proofs.Ytibgpnmmgffgeaa
open Go.RowKit
set_option linter.unusedVariables false
set_option linter.unusedSimpArgs false
abbrev Tr:=Zb
theorem Uh {x:Int} (h1:-9223372036854775808≤x) (h2:x≤9223372036854775807):IntKind.i64.wrap x=x:=Zza ⟨h1,h2⟩
theorem Zap {t x:Tr} (h:x∈t.Kids):SizeOf.sizeOf x < SizeOf.sizeOf t:=by
 obtain ⟨k,w,ks⟩:=t
 have:=List.sizeOf_lt_of_mem h
 simp only [Zb.mk.sizeOf_spec]
 simp only at this
 omega
theorem Zvb {α R:Type} (xs:List α) (step:Int→Option (Int ⊕ R)) (p:α→Bool) (e o:R) (hl:(xs.length:Int)≤140737488355328)
  (h1:∀ (i:Nat) (x:α),i < xs.length→xs[i]? = some x→x∈xs→step i=some (if p x=true then .inr e else .inl (IntKind.i64.wrap ((i:Int)+1)))) (h2:step xs.length=some (.inr o)):Zw step 0=some (if xs.any p=true then e else o):=by
 have hloop:=Z8p xs (fun i (_:Unit)=>i) step (fun _ x=>some (if p x=true then .inr e else .inl ())) (fun _=>o) (fun i s x hi hx=>by
  rw [h1 i x hi hx (List.mem_of_getElem? hx),Uh (by omega) (by omega)]
  cases p x <;> rfl) (fun _=>h2) ()
 refine hloop.trans ?_
 rw [Zuo p (fun s _=>s) e (fun _ _=>True) xs.length xs () 0 (by omega) trivial (fun s k x _ _ _=>⟨by cases p x <;> rfl,fun _=>trivial⟩)]
theorem Gu {i n:Nat} (h:i < n):decide ((i:Int) < (n:Int))=true:=by rw [decide_eq_true_eq];omega
theorem Zcn {n:Nat}:decide ((n:Int) < (n:Int))=false:=by rw [decide_eq_false_iff_not];omega
def tr {α:Type} (p:α→Bool):List α→List α
 | []=>[]
 | x::xs=>match tr p xs with
  | []=>if p x=true then [] else [x]
  | y::ys=>x::y::ys
def trN {α:Type} (p:α→Bool) (l:List α):Nat→Nat
 | 0=>0
 | n+1=>match l[n]? with
  | some x=>if p x=true then trN p l n else n+1
  | none=>0
theorem Zs0 {α:Type} {p:α→Bool} {x:α} (h:p x=true):∀ l:List α,tr p (l++[x])=tr p l
 | []=>by simp [tr,h]
 | y::l=>by simp only [List.cons_append,tr,Zs0 h l]
theorem Zsz {α:Type} {p:α→Bool} {x:α} (h:p x=false):∀ l:List α,tr p (l++[x])=l++[x]
 | []=>by simp [tr,h]
 | y::l=>by
  simp only [List.cons_append,tr,Zsz h l]
  cases hl:l++[x] with
  | nil=>simp at hl
  | cons a b=>rfl
theorem Zwv {α:Type} {p:α→Bool} {l:List α}:∀ n,n≤l.length→l.take (trN p l n)=tr p (l.take n)∧trN p l n≤n
 | 0,_=>by simp [trN,tr]
 | n+1,h=>by
  have hn:l[n]? = some l[n]:=List.getElem?_eq_getElem (by omega)
  have e:l.take (n+1)=l.take n++[l[n]]:=by rw [List.take_add_one,hn];rfl
  obtain ⟨h1,h2⟩:=Zwv (p:=p) (l:=l) n (by omega)
  unfold trN
  rw [hn]
  simp only
  split
  ·rename_i hp
   rw [e,Zs0 hp]
   exact ⟨h1,by omega⟩
  rename_i hp
  rw [e,Zsz (by simpa using hp),← e]
  exact ⟨rfl,Nat.le_refl _⟩
theorem Zjw {α:Type} (p:α→Bool):∀ l:List α,(tr p l).length≤l.length
 | []=>by simp [tr]
 | x::l=>by
  have:=Zjw p l
  simp only [tr]
  split
  ·split <;> simp
  rename_i y ys he
  rw [he] at this
  simp at this ⊢
  omega
theorem Zhw {α:Type} {p:α→Bool} {x:α}:∀ {l:List α},x∈tr p l→x∈l
 | [],h=>by simp [tr] at h
 | y::l,h=>by
  simp only [tr] at h
  split at h
  ·split at h
   ·simp at h
   simp at h;simp [h]
  rename_i z zs he
  rw [← he] at h
  rcases List.mem_cons.1 h with h | h
  ·simp [h]
  exact List.mem_cons_of_mem _ (Zhw h)
theorem Z3w {α:Type} {p:α→Bool}:∀ l:List α,tr p (tr p l)=tr p l
 | []=>rfl
 | x::l=>by
  have ih:=Z3w (p:=p) l
  simp only [tr]
  cases h:tr p l with
  | nil =>
   simp only
   cases hx:p x <;> simp [tr,hx]
  | cons y ys =>
   rw [h] at ih
   simp only [tr] at ih ⊢
   rw [ih]
theorem Z1y {α β:Type} {p:α→Bool} {q:β→Bool} {f:α→β} (h:∀ x,q (f x)=p x):∀ l:List α,tr q (l.map f)=(tr p l).map f
 | []=>rfl
 | x::l=>by
  simp only [List.map_cons,tr,Z1y h l]
  cases tr p l with
  | nil=>simp only [List.map_nil,h];split <;> rfl
  | cons y ys=>rfl
theorem Zzs {α:Type} (l:List α) (p:α→Bool) (step:Int→Option (Int ⊕ Int)) (hl:(l.length:Int)≤140737488355328)
  (h0:step 0=some (.inr 0)) (h1:∀ (n:Nat) (x:α),l[n]? = some x→n < l.length→step ((n+1:Nat):Int)=some (if p x=true then .inl (n:Int) else .inr ((n+1:Nat):Int))):Zw step (l.length:Int)=some (trN p l l.length:Int):=by
 have key:∀ n:Nat,n≤l.length→Zw step (n:Int)=some (trN p l n:Int):=fun n=>by
  induction n with
  | zero=>intro _;exact Yg h0
  | succ n ih =>
   intro hn
   have hx:l[n]? = some l[n]:=List.getElem?_eq_getElem (by omega)
   have h:=h1 n _ hx (by omega)
   unfold trN
   rw [hx]
   simp only
   split
   ·rename_i hp
    rw [if_pos hp] at h
    rw [Yw h]
    exact ih (by omega)
   rename_i hp
   rw [if_neg hp] at h
   exact Yg h
 exact key l.length (Nat.le_refl _)
theorem Zp7 {α:Type} {l:List α} {n:Nat} (h:n≤l.length):Zen l 0 (n:Int)=some (l.take n):=by
 rw [Zm8 (by omega) (by omega) (by omega)]
 simp
theorem Yf7 {n:Nat}:decide (0 < ((n+1:Nat):Int))=true:=by rw [decide_eq_true_eq];omega
theorem Zk5 {l:List Int} (hl:(l.length:Int)≤140737488355328):Vc l=some (tr (fun x=>x == 0) l):=by
 have hloop:=Zzs l (fun x=>x == 0) (Ud l) hl (by unfold Ud;rfl) (fun n x hx hn=>by
  unfold Ud
  rw [Yf7,cond_true,Uh (by omega) (by omega)]
  have e:((n+1:Nat):Int) - 1=(n:Int):=by omega
  rw [e,Yt hx]
  simp only [Option.bind_some,cond_true]
  cases x == 0 <;> rfl)
 obtain ⟨h1,h2⟩:=Zwv (p:=fun x=>x == 0) (l:=l) l.length (Nat.le_refl _)
 unfold Vc
 rw [hloop,Option.bind_some,Zp7 h2,Option.bind_some,h1,List.take_length]
theorem Zmn {l:List Tr} (hl:(l.length:Int)≤140737488355328):V7 l=some (tr (fun x=>x.Kind == 0) l):=by
 have hloop:=Zzs l (fun x=>x.Kind == 0) (U6 l) hl (by unfold U6;rfl) (fun n x hx hn=>by
  unfold U6
  rw [Yf7,cond_true,Uh (by omega) (by omega)]
  have e:((n+1:Nat):Int) - 1=(n:Int):=by omega
  rw [e,Yt hx]
  simp only [Option.bind_some,cond_true]
  cases x.Kind == 0 <;> rfl)
 obtain ⟨h1,h2⟩:=Zwv (p:=fun x=>x.Kind == 0) (l:=l) l.length (Nat.le_refl _)
 unfold V7
 rw [hloop,Option.bind_some,Zp7 h2,Option.bind_some,h1,List.take_length]
theorem Ybb {l:List Int} (hl:l.length * 8≤140737488355328):Gx l=some (tr (fun x=>x == 0) l):=by
 have hloop:=Zzs l (fun x=>x == 0) (Vm l) (by omega) (by unfold Vm;rfl) (fun n x hx hn=>by
  unfold Vm
  rw [Yf7,cond_true,Uh (by omega) (by omega)]
  have e:((n+1:Nat):Int) - 1=(n:Int):=by omega
  rw [e,Yt hx]
  simp only [Option.bind_some,cond_true]
  cases x == 0 <;> rfl)
 obtain ⟨h1,h2⟩:=Zwv (p:=fun x=>x == 0) (l:=l) l.length (Nat.le_refl _)
 have h3:=Zjw (fun x=>x == 0) l
 unfold Gx
 rw [hloop,Option.bind_some,Zp7 h2,Option.bind_some,h1,List.take_length,Ga (by rw [List.length_nil];omega) (by rw [List.length_nil];omega)]
 rfl
inductive Bd:Tr→Prop
 | mk (t:Tr) (h1:t.Words.length * 8≤140737488355328) (h2:t.Kids.length * 56≤140737488355328) (h3:∀ w∈t.Words,0≤w∧w < 18446744073709551616) (h4:∀ k∈t.Kids,Bd k):Bd t
theorem Bd.w {t:Tr} (h:Bd t):t.Words.length * 8≤140737488355328:=by cases h;assumption
theorem Bd.k {t:Tr} (h:Bd t):t.Kids.length * 56≤140737488355328:=by cases h;assumption
theorem Bd.u {t:Tr} (h:Bd t):∀ w∈t.Words,0≤w∧w < 18446744073709551616:=by cases h;assumption
theorem Bd.all {t:Tr} (h:Bd t):∀ k∈t.Kids,Bd k:=by cases h;assumption
def nrm (t:Tr):Tr :=
 if t.Kind=0 then ⟨0,[],[]⟩
 else if t.Kind=1 then ⟨1,tr (fun x=>x == 0) t.Words,tr (fun x=>x.Kind == 0) (t.Kids.attach.map fun k=>nrm k.1)⟩
 else ⟨t.Kind,t.Words,t.Kids.attach.map fun k=>nrm k.1⟩
termination_by SizeOf.sizeOf t
decreasing_by all_goals exact Zap k.2
theorem Zgh (t:Tr):nrm t=if t.Kind=0 then ⟨0,[],[]⟩ else if t.Kind=1 then ⟨1,tr (fun x=>x == 0) t.Words,tr (fun x=>x.Kind == 0) (t.Kids.map nrm)⟩ else ⟨t.Kind,t.Words,t.Kids.map nrm⟩:=by
 rw [nrm]
 simp only [List.attach_map_val]
theorem Ue (t:Tr):(nrm t).Kind=t.Kind:=by
 rw [Zgh]
 split
 ·rename_i h;exact h.symm
 split
 ·rename_i h;exact h.symm
 rfl
theorem Ybk {α β:Type} {xs:List α} {f:α→β} {z:β} {i m:Nat} {x:α} (hi:i+(m+1)=xs.length) (hx:xs[i]? = some x) :
  ((xs.take i).map f++List.replicate (m+1) z).set i (f x)=(xs.take (i+1)).map f++List.replicate m z:=by
 have hl:((xs.take i).map f).length=i:=by rw [List.length_map,List.length_take];omega
 rw [List.set_append,if_neg (by omega),hl,Nat.sub_self,List.replicate_succ,List.set_cons_zero,List.take_add_one,hx]
 simp
theorem Yai {α β:Type} (xs:List α) (f:α→β) (z:β) (step:Int×List β→Option ((Int×List β) ⊕ List β)) (hl:(xs.length:Int)≤140737488355328)
  (h1:∀ (i:Nat) (x:α) (out:List β) (y:β),i < xs.length→xs[i]? = some x→x∈xs→out[i]? = some y→step ((i:Int),out)=some (.inl (IntKind.i64.wrap ((i:Int)+1),Zgr out (i:Int) (f x))))
  (h2:∀ out,step ((xs.length:Int),out)=some (.inr out)):Zw step (0,List.replicate xs.length z)=some (xs.map f):=by
 have key:∀ m i,i+m=xs.length→Zw step ((i:Int),(xs.take i).map f++List.replicate m z)=some (xs.map f):=fun m=>by
  induction m with
  | zero =>
   intro i hi
   have hi':i=xs.length:=by omega
   subst hi'
   rw [List.take_length,List.replicate_zero,List.append_nil]
   exact Yg (h2 _)
  | succ m ih =>
   intro i hi
   have hx:xs[i]? = some xs[i]:=List.getElem?_eq_getElem (by omega)
   have hl':((xs.take i).map f).length=i:=by rw [List.length_map,List.length_take];omega
   have hy:((xs.take i).map f++List.replicate (m+1) z)[i]? = some z:=by
    rw [List.getElem?_append_right (by omega),hl',Nat.sub_self,List.replicate_succ];rfl
   have h:=h1 i _ _ z (by omega) hx (List.mem_of_getElem? hx) hy
   rw [Uh (by omega) (by omega)] at h
   rw [Yw h]
   unfold Zgr
   rw [Int.toNat_natCast,Ybk (by omega) hx]
   exact ih (i+1) (by omega)
 have:=key xs.length 0 (by omega)
 simpa using this
theorem Z69:∀ (k:Nat) (t:Tr),Bd t→SizeOf.sizeOf t < k→Ui k t=some (nrm t)
 | 0,t,_,h=>by omega
 | k+1,t,hb,hk=>by
  have ih:∀ x∈t.Kids,Ui k x=some (nrm x):=fun x hx=>Z69 k x (hb.all x hx) (by have:=Zap hx;omega)
  have hw:=hb.w
  have hkd:=hb.k
  show Zg3 (Ui k) t=_
  unfold Zg3
  rw [Zgh]
  by_cases h0:t.Kind=0
  ·rw [if_pos h0,h0];rfl
  have e0:(t.Kind == 0)=false:=by rw [beq_eq_false_iff_ne];exact h0
  rw [if_neg h0,e0,cond_false]
  have main:∀ (w:List Int) (ks:List Tr),(ks.length:Int)≤140737488355328→(56:Int) * ks.length≤140737488355328→(∀ x∈ks,Ui k x=some (nrm x)) →
    ((cond (decide (0 < ((w,ks).2.length:Int))) ((Zl5 56 ((w,ks).2.length:Int) (⟨(0:Int),([]:(List Int)),([]:(List Zb))⟩:Zb)).bind fun l6=>some l6) (some ([]:List Zb))).bind fun (z5:(List Zb))=>(Zw (Zak (Ui k) (w,ks)) (0,z5)).bind fun (z14:(List Zb))=>some (⟨t.Kind,(w,ks).1,z14⟩:Zb))=some ⟨t.Kind,w,ks.map nrm⟩:=fun w ks h1 h2 hks=>by
   have hz:(cond (decide (0 < ((w,ks).2.length:Int))) ((Zl5 56 ((w,ks).2.length:Int) (⟨(0:Int),([]:(List Int)),([]:(List Zb))⟩:Zb)).bind fun l6=>some l6) (some ([]:List Zb)))=some (List.replicate ks.length (⟨0,[],[]⟩:Tr)):=by
    cases ks with
    | nil=>rfl
    | cons y ys =>
     have:decide (0 < (((w,y::ys).2.length:Nat):Int))=true:=by rw [decide_eq_true_eq];simp
     rw [this,cond_true,Yak (Int.natCast_nonneg _) h2 h1,Option.bind_some,Int.toNat_natCast]
   rw [hz,Option.bind_some]
   rw [Yai ks nrm _ (Zak (Ui k) (w,ks)) h1 (fun i x out z hi hx hm hz=>by
     unfold Zak
     simp only
     rw [Gu hi,cond_true,Yt hx,Option.bind_some,hks x hm,Option.bind_some,Yt hz,Option.bind_some]) (fun out=>by
     unfold Zak
     simp only
     rw [Zcn,cond_false]),Option.bind_some]
  by_cases h1:t.Kind=1
  ·have e1:(t.Kind == 1)=true:=by rw [beq_iff_eq];exact h1
   have l1:=Zjw (fun x:Tr=>x.Kind == 0) t.Kids
   rw [if_pos h1,e1,cond_true,Zk5 (by omega),Option.bind_some,Zmn (by omega),Option.bind_some,Option.bind_some]
   rw [main _ _ (by omega) (by omega) (fun x hx=>ih x (Zhw hx)),Z1y (fun x=>by rw [Ue]),h1]
  have e1:(t.Kind == 1)=false:=by rw [beq_eq_false_iff_ne];exact h1
  rw [if_neg h1,e1,cond_false,Option.bind_some]
  exact main _ _ (by omega) (by omega) ih
theorem Ztl {t:Tr} (h:Bd t):Zaz t=some (nrm t):=Zd2 (SizeOf.sizeOf t+1) fun k hk=>Z69 k t h (by omega)
theorem Zho {α:Type} {p:α→Bool} {x:α} {l:List α} (h:tr p l=[]):tr p (x::l)=if p x=true then [] else [x]:=by simp only [tr,h]
theorem Zk4 {α:Type} {p:α→Bool} {x:α} {l:List α} (h:tr p l≠[]):tr p (x::l)=x::tr p l:=by
 simp only [tr]
 split
 ·rename_i h';exact absurd h' h
 rename_i h';rw [h']
theorem Z63:∀ (l:List Tr) (n:Nat) (acc:Int),(l.zipIdx n).foldl (fun a p=>if p.1.Kind=0 then a else ((p.2+1:Nat):Int)) acc=if (tr (fun x=>x.Kind == 0) l).length=0 then acc else ((n+(tr (fun x=>x.Kind == 0) l).length:Nat):Int)
 | [],n,acc=>by simp [tr]
 | x::l,n,acc=>by
  rw [List.zipIdx_cons,List.foldl_cons,Z63 l (n+1)]
  by_cases h:tr (fun x=>x.Kind == 0) l=[]
  ·rw [Zho h,h]
   by_cases hx:x.Kind=0
   ·simp [hx]
   simp [hx]
  have h':(tr (fun x=>x.Kind == 0) l).length≠0:=by simpa using h
  rw [Zk4 h,if_neg h',List.length_cons,if_neg (by omega)]
  congr 1
  omega
theorem Yet {α:Type} (p:α→Bool) (l:List α):l.take (tr p l).length=tr p l:=by
 obtain ⟨h1,h2⟩:=Zwv (p:=p) (l:=l) l.length (Nat.le_refl _)
 rw [List.take_length] at h1
 rw [← h1,List.length_take]
 congr 1
 omega
theorem Ybd {k:Nat} {t:Tr} (hl:t.Kids.length * 56≤140737488355328) (ih:∀ x∈t.Kids,Xy k x=some (nrm x)) :
  Zw (Qv (Xy k) t) (0,0,[])=some (if (tr (fun x=>x.Kind == 0) (t.Kids.map nrm)).length=0 then 0 else ((tr (fun x=>x.Kind == 0) (t.Kids.map nrm)).length:Int),t.Kids.map nrm):=by
 have key:∀ (l pre:List Tr) (a:Int),t.Kids=pre++l→Zw (Qv (Xy k) t) (a,((pre.length:Nat):Int),pre.map nrm)=some (((l.map nrm).zipIdx pre.length).foldl (fun a p=>if p.1.Kind=0 then a else ((p.2+1:Nat):Int)) a,t.Kids.map nrm):=fun l=>by
  induction l with
  | nil =>
   intro pre a hp
   rw [List.append_nil] at hp
   refine Yg ?_
   unfold Qv
   simp only
   rw [hp,Zcn,cond_false]
   rfl
  | cons x l ihl =>
   intro pre a hp
   have hx:t.Kids[pre.length]? = some x:=by rw [hp,List.getElem?_append_right (Nat.le_refl _),Nat.sub_self];rfl
   have hi:pre.length < t.Kids.length:=by rw [hp];simp
   have hm:x∈t.Kids:=List.mem_of_getElem? hx
   have hs:Qv (Xy k) t (a,((pre.length:Nat):Int),pre.map nrm)=some (.inl (if x.Kind=0 then a else ((pre.length+1:Nat):Int),(((pre++[x]).length:Nat):Int),(pre++[x]).map nrm)):=by
    unfold Qv
    simp only
    rw [Gu hi,cond_true,Yt hx,Option.bind_some,ih x hm,Option.bind_some,Ga (by simp;omega) (by simp;omega),Option.bind_some,Uh (by omega) (by omega),Ue]
    have e:((pre.length:Nat):Int)+1=((pre.length+1:Nat):Int):=by omega
    rw [e]
    by_cases h0:x.Kind=0
    ·simp [h0]
    have:(x.Kind != 0)=true:=by simp [h0]
    rw [this,cond_true]
    simp [h0]
   rw [Yw hs,ihl (pre++[x]) _ (by rw [hp];simp)]
   simp only [List.map_cons,List.zipIdx_cons,List.foldl_cons,List.length_append,List.length_singleton,Ue]
 have:=key t.Kids [] 0 rfl
 rw [Z63] at this
 simpa using this
theorem Z3h:∀ (k:Nat) (t:Tr),Bd t→SizeOf.sizeOf t < k→Xy k t=some (nrm t)
 | 0,t,_,h=>by omega
 | k+1,t,hb,hk=>by
  have ih:∀ x∈t.Kids,Xy k x=some (nrm x):=fun x hx=>Z3h k x (hb.all x hx) (by have:=Zap hx;omega)
  have hw:=hb.w
  have hkd:=hb.k
  show Gp (Xy k) t=_
  unfold Gp
  rw [Zgh]
  by_cases h0:t.Kind=0
  ·rw [if_pos h0,h0];rfl
  have e0:(t.Kind == 0)=false:=by rw [beq_eq_false_iff_ne];exact h0
  rw [if_neg h0,e0,cond_false,Ybd hkd ih,Option.bind_some]
  by_cases h1:t.Kind=1
  ·have e1:(t.Kind == 1)=true:=by rw [beq_iff_eq];exact h1
   rw [if_pos h1,e1,cond_true,Ybb hw,Option.bind_some]
   have l1:=Zjw (fun x:Tr=>x.Kind == 0) (t.Kids.map nrm)
   have l2:(if (tr (fun x=>x.Kind == 0) (t.Kids.map nrm)).length=0 then (0:Int) else ((tr (fun x=>x.Kind == 0) (t.Kids.map nrm)).length:Int))=((tr (fun x=>x.Kind == 0) (t.Kids.map nrm)).length:Int):=by
    split
    ·rename_i h;rw [h];rfl
    rfl
   simp only [l2]
   rw [Zp7 l1,Option.bind_some,Yet]
  have e1:(t.Kind == 1)=false:=by rw [beq_eq_false_iff_ne];exact h1
  rw [if_neg h1,e1,cond_false,Ga (by rw [List.length_nil];omega) (by rw [List.length_nil];omega)]
  rfl
theorem Ybe {t:Tr} (h:Bd t):Zfh t=some (nrm t):=Zd2 (SizeOf.sizeOf t+1) fun k hk=>Z3h k t h (by omega)
theorem Yaq:∀ (n:Nat) (t:Tr),SizeOf.sizeOf t < n→Bd t→Bd (nrm t)
 | 0,t,h,_=>by omega
 | n+1,t,hn,hb=>by
  have ih:∀ x∈t.Kids,Bd (nrm x):=fun x hx=>Yaq n x (by have:=Zap hx;omega) (hb.all x hx)
  have hw:=hb.w
  have hk:=hb.k
  rw [Zgh]
  split
  ·exact .mk _ (by simp) (by simp) (fun w h=>by simp at h) (fun w h=>by simp at h)
  split
  ·have l1:=Zjw (fun x:Int=>x == 0) t.Words
   have l2:=Zjw (fun x:Tr=>x.Kind == 0) (t.Kids.map nrm)
   rw [List.length_map] at l2
   refine .mk _ (by simp only;omega) (Nat.le_trans (Nat.mul_le_mul_right 56 l2) hk) (fun w h=>hb.u w (Zhw h)) (fun x h => ?_)
   obtain ⟨y,hy,rfl⟩:=List.mem_map.1 (Zhw h)
   exact ih y hy
  refine .mk _ hw (by simp only [List.length_map];exact hk) hb.u (fun x h => ?_)
  obtain ⟨y,hy,rfl⟩:=List.mem_map.1 h
  exact ih y hy
theorem Bd.nrm {t:Tr} (h:Bd t):Bd (nrm t):=Yaq _ t (Nat.lt_succ_self _) h
theorem Zx0:∀ (n:Nat) (t:Tr),SizeOf.sizeOf t < n→nrm (nrm t)=nrm t
 | 0,t,h=>by omega
 | n+1,t,hn=>by
  have ih:∀ x∈t.Kids,nrm (nrm x)=nrm x:=fun x hx=>Zx0 n x (by have:=Zap hx;omega)
  have em:∀ l:List Tr,(∀ x∈l,x∈t.Kids)→(l.map nrm).map nrm=l.map nrm:=fun l hl=>by
   rw [List.map_map]
   exact List.map_congr_left fun x hx=>ih x (hl x hx)
  rw [Zgh t]
  by_cases h0:t.Kind=0
  ·rw [if_pos h0,Zgh];simp
  rw [if_neg h0]
  by_cases h1:t.Kind=1
  ·rw [if_pos h1,Zgh]
   simp only [if_neg (show ¬ (1:Int)=0 by decide),if_true]
   have q1:∀ l:List Tr,tr (fun x:Tr=>x.Kind == 0) (l.map nrm)=(tr (fun x:Tr=>x.Kind == 0) l).map nrm:=Z1y (fun x=>by rw [Ue])
   rw [Z3w,q1,Z3w,q1,em _ (fun x hx=>Zhw hx)]
  rw [if_neg h1,Zgh]
  simp only
  rw [if_neg h0,if_neg h1,em _ (fun x hx=>hx)]
theorem Zkv (t:Tr):nrm (nrm t)=nrm t:=Zx0 _ t (Nat.lt_succ_self _)
def eqT (a b:Tr):Bool:=a.Kind == b.Kind && (a.Words == b.Words && (a.Kids.length == b.Kids.length && (a.Kids.attach.zip b.Kids).all fun p=>eqT p.1.1 p.2))
termination_by SizeOf.sizeOf a
decreasing_by exact Zap p.1.2
def eqL:List Tr→List Tr→Bool
 | [],[]=>true
 | x::xs,y::ys=>eqT x y && eqL xs ys
 | _,_=>false
theorem Z77:∀ (l m:List Tr) (P:Tr→Prop) (l':List {x // P x}),l'.map (·.1)=l→(l.length == m.length && (l'.zip m).all fun p=>eqT p.1.1 p.2)=eqL l m
 | [],[],P,l',h=>by cases l' <;> simp_all [eqL]
 | [],y::m,P,l',h=>by cases l' <;> simp_all [eqL]
 | x::l,[],P,l',h=>by cases l' <;> simp_all [eqL]
 | x::l,y::m,P,l',h=>by
  cases l' with
  | nil=>simp at h
  | cons z l' =>
   simp only [List.map_cons,List.cons.injEq] at h
   have ih:=Z77 l m P l' h.2
   simp only [List.length_cons,List.zip_cons_cons,List.all_cons,eqL,h.1]
   rw [← ih]
   have:(l.length+1 == m.length+1)=(l.length == m.length):=by simp
   rw [this]
   cases l.length == m.length <;> cases eqT x y <;> rfl
theorem Z4d (a b:Tr):eqT a b=(a.Kind == b.Kind && (a.Words == b.Words && eqL a.Kids b.Kids)):=by
 rw [eqT,Z77 a.Kids b.Kids (·∈a.Kids) a.Kids.attach (by simp)]
theorem Zul (x y:Tr) (xs ys:List Tr):eqL (x::xs) (y::ys)=(eqT x y && eqL xs ys):=rfl
theorem Zxk:∀ (n:Nat) (a b:Tr),SizeOf.sizeOf a < n→(eqT a b=true↔a=b)
 | 0,a,b,h=>by omega
 | n+1,a,b,hn=>by
  have ih:∀ x∈a.Kids,∀ y,eqT x y=true↔x=y:=fun x hx y=>Zxk n x y (by have:=Zap hx;omega)
  have hl:∀ (l m:List Tr),(∀ x∈l,x∈a.Kids)→(eqL l m=true↔l=m):=fun l=>by
   induction l with
   | nil=>intro m _;cases m <;> simp [eqL]
   | cons x l ihl =>
    intro m hm
    cases m with
    | nil=>simp [eqL]
    | cons y m=>rw [Zul,Bool.and_eq_true,ih x (hm x (.head _)) y,ihl m (fun z hz=>hm z (.tail _ hz)),List.cons.injEq]
  rw [Z4d,Bool.and_eq_true,Bool.and_eq_true,hl a.Kids b.Kids (fun x hx=>hx),beq_iff_eq,beq_iff_eq]
  obtain ⟨k,w,ks⟩:=a
  obtain ⟨k',w',ks'⟩:=b
  simp
theorem eqT_iff {a b:Tr}:eqT a b=true↔a=b:=Zxk _ a b (Nat.lt_succ_self _)
theorem Z9v (a:Tr):eqT a a=true:=eqT_iff.2 rfl
theorem Z9e:∀ (a b:List Int),a.length=b.length→(a.zip b).any (fun p=>p.1 != p.2) = !(a == b)
 | [],[],_=>rfl
 | [],_::_,h=>by simp at h
 | _::_,[],h=>by simp at h
 | x::a,y::b,h=>by
  have ih:=Z9e a b (by simpa using h)
  rw [List.zip_cons_cons,List.any_cons,ih]
  by_cases hxy:x=y
  ·subst hxy;simp
  simp [bne,hxy]
theorem Z2u {R:Type} (a b:List Int) (step:Int→Option (Int ⊕ R)) (e o:R) (hab:a.length=b.length) (hl:(a.length:Int)≤140737488355328)
  (h1:∀ (i:Nat) (x y:Int),i < a.length→a[i]? = some x→b[i]? = some y→step i=some (if (x != y)=true then .inr e else .inl (IntKind.i64.wrap ((i:Int)+1)))) (h2:step a.length=some (.inr o)) :
  Zw step 0=some (if (a == b)=true then o else e):=by
 have hz:(a.zip b).length=a.length:=by rw [List.length_zip];omega
 have:=Zvb (a.zip b) step (fun p=>p.1 != p.2) e o (by rw [hz];exact hl) (fun i p hi hp hm=>by
  rw [hz] at hi
  have ha:a[i]? = some a[i]:=List.getElem?_eq_getElem hi
  have hb:b[i]? = some b[i]:=List.getElem?_eq_getElem (by omega)
  have:p=(a[i],b[i]):=by
   rw [List.getElem?_eq_getElem (by rw [hz];exact hi)] at hp
   injection hp with hp
   rw [← hp,List.getElem_zip]
  subst this
  exact h1 i _ _ hi ha hb) (by rw [hz];exact h2)
 rw [this,Z9e a b hab]
 cases a == b <;> rfl
theorem Zzg {a b:Nat}:((a:Int) != (b:Int)) = !(a == b):=by
 rw [Bool.eq_iff_iff];simp;omega
theorem Z6g {a b:List Int} (h:¬ a.length=b.length):(a == b)=false:=by
 rw [beq_eq_false_iff_ne];intro e;exact h (by rw [e])
theorem Ybi {a b:List Int} (h:(a.length:Int)≤140737488355328):Gw a b=some (a == b):=by
 unfold Gw
 rw [Zzg]
 by_cases hab:a.length=b.length
 ·have:(!(a.length == b.length))=false:=by simp [hab]
  rw [this,cond_false,Z2u a b (Vl a b) (.inl ()) (.inr ()) hab h (fun i x y hi hx hy=>by
   unfold Vl
   rw [Gu hi,cond_true,Yt hx,Option.bind_some,Yt hy,Option.bind_some]
   cases x != y <;> rfl) (by unfold Vl;rw [Zcn];rfl)]
  cases a == b <;> rfl
 have:(!(a.length == b.length))=true:=by simp [hab]
 rw [this,cond_true,Z6g hab]
theorem Zxl {a b:List Int} (h:(a.length:Int)≤140737488355328):Xs a b=some (a == b):=by
 unfold Xs
 rw [Zzg]
 by_cases hab:a.length=b.length
 ·have:(!(a.length == b.length))=false:=by simp [hab]
  rw [this,cond_false,Z2u a b (X2 a b) (.inl ()) (.inr ()) hab h (fun i x y hi hx hy=>by
   unfold X2
   rw [Gu hi,cond_true,Yt hx,Option.bind_some,Yt hy,Option.bind_some]
   cases x != y <;> rfl) (by unfold X2;rw [Zcn];rfl)]
  cases a == b <;> rfl
 have:(!(a.length == b.length))=true:=by simp [hab]
 rw [this,cond_true,Z6g hab]
theorem Ye1 (q:Tr→Tr→Bool):∀ (a b:List Tr),(a.zip b).any (fun p => !q p.1 p.2) = !((a.zip b).all fun p=>q p.1 p.2)
 | [],b=>by simp
 | x::a,[]=>by simp
 | x::a,y::b=>by rw [List.zip_cons_cons,List.any_cons,Ye1 q a b,List.all_cons];cases q x y <;> rfl
theorem Zxy {R:Type} (a b:List Tr) (q:Tr→Tr→Bool) (step:Int→Option (Int ⊕ R)) (e o:R) (hab:a.length=b.length) (hl:(a.length:Int)≤140737488355328)
  (h1:∀ (i:Nat) (x y:Tr),i < a.length→a[i]? = some x→b[i]? = some y→x∈a→y∈b→step i=some (if (!q x y)=true then .inr e else .inl (IntKind.i64.wrap ((i:Int)+1)))) (h2:step a.length=some (.inr o)) :
  Zw step 0=some (if ((a.zip b).all fun p=>q p.1 p.2)=true then o else e):=by
 have hz:(a.zip b).length=a.length:=by rw [List.length_zip];omega
 have:=Zvb (a.zip b) step (fun p => !q p.1 p.2) e o (by rw [hz];exact hl) (fun i p hi hp hm=>by
  rw [hz] at hi
  have ha:a[i]? = some a[i]:=List.getElem?_eq_getElem hi
  have hb:b[i]? = some b[i]:=List.getElem?_eq_getElem (by omega)
  have:p=(a[i],b[i]):=by
   rw [List.getElem?_eq_getElem (by rw [hz];exact hi)] at hp
   injection hp with hp
   rw [← hp,List.getElem_zip]
  subst this
  exact h1 i _ _ hi ha hb (List.getElem_mem _) (List.getElem_mem _)) (by rw [hz];exact h2)
 rw [this,Ye1 q a b]
 cases (a.zip b).all fun p=>q p.1 p.2 <;> rfl
theorem Z6c (f:Tr→Tr):∀ (a b:List Tr),a.length=b.length→((a.zip b).all fun p=>eqT (f p.1) (f p.2))=eqL (a.map f) (b.map f)
 | [],[],_=>rfl
 | [],_::_,h=>by simp at h
 | _::_,[],h=>by simp at h
 | x::a,y::b,h=>by
  have ih:=Z6c f a b (by simpa using h)
  rw [List.zip_cons_cons,List.all_cons,ih];rfl
theorem Z15:∀ (a b:List Tr),a.length=b.length→((a.zip b).all fun p=>eqT p.1 p.2)=eqL a b
 | [],[],_=>rfl
 | [],_::_,h=>by simp at h
 | _::_,[],h=>by simp at h
 | x::a,y::b,h=>by
  have ih:=Z15 a b (by simpa using h)
  rw [List.zip_cons_cons,List.all_cons,ih];rfl
theorem Zyh:∀ (a b:List Tr),a.length≠b.length→eqL a b=false
 | [],[],h=>by simp at h
 | [],_::_,_=>rfl
 | _::_,[],_=>rfl
 | x::a,y::b,h=>by rw [Zul,Zyh a b (by simpa using h),Bool.and_false]
theorem Z7m:∀ (k:Nat) (a b:Tr),Bd a→Bd b→SizeOf.sizeOf a < k→J0 k a b=some (eqT a b)
 | 0,a,b,_,_,h=>by omega
 | k+1,a,b,ha,hb,hk=>by
  have ih:∀ x∈a.Kids,∀ y∈b.Kids,J0 k x y=some (eqT x y):=fun x hx y hy=>Z7m k x y (ha.all x hx) (hb.all y hy) (by have:=Zap hx;omega)
  have hw:=ha.w
  have hkd:=ha.k
  show Gq (J0 k) a b=_
  unfold Gq
  rw [Z4d,Ybi (by omega),Option.bind_some,Zzg]
  by_cases h0:a.Kind=b.Kind
  ·have e0:(a.Kind != b.Kind)=false:=by simp [h0]
   have e1:(a.Kind == b.Kind)=true:=by simp [h0]
   rw [e0,e1,cond_false,cond_false,Option.bind_some,Bool.true_and]
   cases hw':a.Words == b.Words with
   | false=>rfl
   | true =>
    rw [Bool.not_true,cond_false,Bool.true_and]
    by_cases hab:a.Kids.length=b.Kids.length
    ·have:(!(a.Kids.length == b.Kids.length))=false:=by simp [hab]
     rw [this,cond_false,Zxy a.Kids b.Kids eqT (Vh (J0 k) a b) (.inl ()) (.inr ()) hab (by omega) (fun i x y hi hx hy hmx hmy=>by
      unfold Vh
      rw [Gu hi,cond_true,Yt hx,Option.bind_some,Yt hy,Option.bind_some,ih x hmx y hmy,Option.bind_some]
      cases eqT x y <;> rfl) (by unfold Vh;rw [Zcn];rfl)]
     rw [Z15 a.Kids b.Kids hab]
     cases eqL a.Kids b.Kids <;> rfl
    have:(!(a.Kids.length == b.Kids.length))=true:=by simp [hab]
    rw [this,cond_true,Zyh _ _ hab]
  have e0:(a.Kind != b.Kind)=true:=by simp [h0]
  have e1:(a.Kind == b.Kind)=false:=by simp [h0]
  rw [e0,e1];rfl
theorem Yeb {a b:Tr} (ha:Bd a) (hb:Bd b):Zfi a b=some (eqT a b):=Zd2 (SizeOf.sizeOf a+1) fun k hk=>Z7m k a b ha hb (by omega)
theorem Zj9 {t:Tr} (h:t.Kind=0):nrm t=⟨0,[],[]⟩:=by rw [Zgh,if_pos h]
theorem Zab {t:Tr} (h:t.Kind=1):nrm t=⟨1,tr (fun x=>x == 0) t.Words,tr (fun x=>x.Kind == 0) (t.Kids.map nrm)⟩:=by rw [Zgh,if_neg (by rw [h];decide),if_pos h]
theorem Zcs {t:Tr} (h0:¬ t.Kind=0) (h1:¬ t.Kind=1):nrm t=⟨t.Kind,t.Words,t.Kids.map nrm⟩:=by rw [Zgh,if_neg h0,if_neg h1]
theorem Ybl (t:Tr):0 < SizeOf.sizeOf t:=by
 obtain ⟨k,w,ks⟩:=t
 simp only [Zb.mk.sizeOf_spec]
 omega
theorem Zum:∀ (k:Nat),(∀ a b:Tr,Bd a→Bd b→2 * SizeOf.sizeOf a < k→(Xq k).1 a b=some (eqT (nrm a) (nrm b))) ∧
  (∀ (l m:List Tr),(∀ x∈l,Bd x∧2 * SizeOf.sizeOf x+1 < k)→(∀ x∈m,Bd x)→(l.length:Int)≤140737488355328→1≤k→(Xq k).2 l m=some (eqL (l.map nrm) (m.map nrm)))
 | 0=>⟨fun a b _ _ h=>by omega,fun l m hl hm hn h=>by omega⟩
 | k+1=>by
  obtain ⟨i1,i2⟩:=Zum k
  refine ⟨fun a b ha hb hk => ?_,fun l m hl hm hn h => ?_⟩
  ·have hp:=Ybl a
   have hw:=ha.w
   have hkd:=ha.k
   have hw':=hb.w
   have hkd':=hb.k
   show Ze8 (Xq k).1 (Xq k).2 a b=_
   unfold Ze8
   rw [Z4d,Ue,Ue]
   by_cases h0:a.Kind=b.Kind
   ·have e0:(a.Kind != b.Kind)=false:=by simp [h0]
    have e1:(a.Kind == b.Kind)=true:=by simp [h0]
    rw [e0,e1,cond_false,Bool.true_and]
    by_cases hz:a.Kind=0
    ·have e2:(a.Kind == 0)=true:=by simp [hz]
     rw [e2,cond_true,Zgh a,Zgh b,if_pos hz,if_pos (h0 ▸ hz)]
     rfl
    have e2:(a.Kind == 0)=false:=by simp [hz]
    rw [e2,cond_false]
    have rec_:∀ l m:List Tr,(∀ x∈l,x∈a.Kids)→(∀ x∈m,x∈b.Kids)→l.length≤a.Kids.length→(Xq k).2 l m=some (eqL (l.map nrm) (m.map nrm)):=fun l m h1 h2 h3 =>
     i2 l m (fun x hx=>⟨ha.all x (h1 x hx),by have:=Zap (h1 x hx);omega⟩) (fun x hx=>hb.all x (h2 x hx)) (by omega) (by omega)
    by_cases h1:a.Kind=1
    ·have e3:(a.Kind == 1)=true:=by simp [h1]
     have l1:=Zjw (fun x:Int=>x == 0) a.Words
     have l2:=Zjw (fun x:Tr=>x.Kind == 0) a.Kids
     have q1:∀ l:List Tr,tr (fun x:Tr=>x.Kind == 0) (l.map nrm)=(tr (fun x:Tr=>x.Kind == 0) l).map nrm:=Z1y (fun x=>by rw [Ue])
     rw [e3,cond_true,Zk5 (by omega),Option.bind_some,Zk5 (by omega),Option.bind_some,Zxl (by omega),Option.bind_some,Zmn (by omega),Option.bind_some,Zmn (by omega),Option.bind_some,
      rec_ _ _ (fun x hx=>Zhw hx) (fun x hx=>Zhw hx) l2,Option.bind_some,Zab h1,Zab (h0 ▸ h1)]
     simp only [q1]
     cases tr (fun x=>x == 0) a.Words == tr (fun x=>x == 0) b.Words <;> rfl
    have e3:(a.Kind == 1)=false:=by simp [h1]
    rw [e3,cond_false,Zxl (by omega),Option.bind_some,rec_ _ _ (fun x hx=>hx) (fun x hx=>hx) (Nat.le_refl _),Option.bind_some,Zcs hz h1,Zcs (fun q=>hz (h0.trans q)) (fun q=>h1 (h0.trans q))]
    simp only
    cases a.Words == b.Words <;> rfl
   have e0:(a.Kind != b.Kind)=true:=by simp [h0]
   have e1:(a.Kind == b.Kind)=false:=by simp [h0]
   rw [e0,e1];rfl
  show Yb (Xq k).1 (Xq k).2 l m=_
  unfold Yb
  rw [Zzg]
  by_cases hlm:l.length=m.length
  ·have:(!(l.length == m.length))=false:=by simp [hlm]
   rw [this,cond_false,Zxy l m (fun x y=>eqT (nrm x) (nrm y)) (Z7 (Xq k).1 l m) (.inl ()) (.inr ()) hlm hn (fun i x y hi hx hy hmx hmy=>by
    unfold Z7
    rw [Gu hi,cond_true,Yt hx,Option.bind_some,Yt hy,Option.bind_some,i1 x y (hl x hmx).1 (hm y hmy) (by have:=(hl x hmx).2;omega),Option.bind_some]
    cases eqT (nrm x) (nrm y) <;> rfl) (by unfold Z7;rw [Zcn];rfl)]
   rw [Z6c nrm l m hlm]
   cases eqL (l.map nrm) (m.map nrm) <;> rfl
  have:(!(l.length == m.length))=true:=by simp [hlm]
  rw [this,cond_true,Zyh _ _ (by simpa using hlm)]
theorem Z9w {a b:Tr} (ha:Bd a) (hb:Bd b):Zku a b=some (eqT (nrm a) (nrm b)):=Zd2 (2 * SizeOf.sizeOf a+1) fun k hk=>(Zum k).1 a b ha hb (by omega)
def pt (t:Tr):Nat:=1+t.Words.length+(t.Kids.attach.map fun k=>pt k.1).sum
termination_by SizeOf.sizeOf t
decreasing_by exact Zap k.2
theorem Zvu (t:Tr):pt t=1+t.Words.length+(t.Kids.map pt).sum:=by
 rw [pt]
 simp only [List.attach_map_val]
theorem Zox:∀ (k:Nat) (t:Tr) (d left:Int),Bd t→SizeOf.sizeOf t < k→0≤d→d≤100→0≤left→left≤1000000→∃ r,Yx k t d left=some r∧-1≤r∧r≤1000000∧(0≤r→r+pt t≤left)
 | 0,t,_,_,_,h,_,_,_,_=>by omega
 | k+1,t,d,left,hb,hk,hd0,hd1,hl0,hl1=>by
  have ih:∀ x∈t.Kids,∀ d left:Int,0≤d→d≤100→0≤left→left≤1000000→∃ r,Yx k x d left=some r∧-1≤r∧r≤1000000∧(0≤r→r+pt x≤left):=fun x hx d left=>Zox k x d left (hb.all x hx) (by have:=Zap hx;omega)
  have hw:=hb.w
  have hkd:=hb.k
  show ∃ r,Qd (Yx k) t d left=some r∧_
  unfold Qd
  rw [Uh (x:=left - 1) (by omega) (by omega),Uh (by omega) (by omega),Zvu]
  cases hc:cond (d == 0) true (decide (left - 1 - (t.Words.length:Int) < 0)) with
  | true=>exact ⟨-1,rfl,by omega,by omega,fun h=>by omega⟩
  | false =>
   rw [cond_false]
   have hd:¬ d=0∧0≤left - 1 - (t.Words.length:Int):=by
    by_cases h:d=0
    ·simp [h] at hc
    have e:(d == 0)=false:=by simp [h]
    rw [e,cond_false,decide_eq_false_iff_not] at hc
    exact ⟨h,by omega⟩
   obtain ⟨r,h1,h2⟩:=Zfv (step:=X7 (Yx k) t d)
    (fun s=>∃ j:Nat,s.2=j∧j≤t.Kids.length∧-1≤s.1∧s.1≤1000000∧(0≤s.1→s.1+(((t.Kids.take j).map pt).sum:Nat)≤left - 1 - (t.Words.length:Int)))
    (fun s=>t.Kids.length - s.2.toNat) (fun r=>-1≤r∧r≤1000000∧(0≤r→r+((t.Kids.map pt).sum:Nat)≤left - 1 - (t.Words.length:Int))) (fun s hI=>by
     obtain ⟨l,i⟩:=s
     obtain ⟨j,rfl,hj,g1,g2,g3⟩:=hI
     simp only at g1 g2 g3 ⊢
     unfold X7
     simp only
     by_cases hji:j < t.Kids.length
     ·rw [Gu hji,cond_true]
      by_cases hl:0≤l
      ·have e:decide (0≤l)=true:=by simp [hl]
       have hx:t.Kids[j]? = some t.Kids[j]:=List.getElem?_eq_getElem hji
       obtain ⟨r,q1,q2,q3,q4⟩:=ih t.Kids[j] (List.getElem_mem hji) (d - 1) l (by omega) (by omega) hl g2
       rw [e,cond_true,Yt hx,Option.bind_some,Uh (by omega) (by omega),q1,Option.bind_some,Uh (by omega) (by omega)]
       refine .inl ⟨_,rfl,⟨j+1,by simp only;omega,by omega,q2,q3,fun hr => ?_⟩,by simp only;omega⟩
       have:=q4 hr
       have:=g3 hl
       rw [List.take_add_one,hx]
       simp only [Option.toList_some,List.map_append,List.map_cons,List.map_nil,List.sum_append,List.sum_cons,List.sum_nil]
       simp only at hr
       omega
      have e:decide (0≤l)=false:=by simp [hl]
      rw [e,cond_false]
      exact .inr ⟨l,rfl,g1,g2,fun h=>absurd h hl⟩
     have hj':j=t.Kids.length:=by omega
     subst hj'
     rw [Zcn,cond_false]
     rw [List.take_length] at g3
     exact .inr ⟨l,rfl,g1,g2,g3⟩) (left - 1 - (t.Words.length:Int),0) ⟨0,rfl,Nat.zero_le _,by simp only;omega,by simp only;omega,fun _=>by simp⟩
   rw [h1]
   refine ⟨r,rfl,h2.1,h2.2.1,fun hr => ?_⟩
   have:=h2.2.2 hr
   omega
theorem Zj5 {α:Type} {xs:List α} {i:Int} {x:α} (h:Xj xs i=some x):x∈xs:=List.mem_of_getElem? (Zpi h)
theorem Zk2:∀ (k k':Nat) (t:Tr) (d left:Int),SizeOf.sizeOf t < k→SizeOf.sizeOf t < k'→Yx k t d left=Yx k' t d left
 | 0,_,t,_,_,h,_=>by omega
 | k+1,0,t,_,_,_,h=>by omega
 | k+1,k'+1,t,d,left,h,h'=>by
  show Qd (Yx k) t d left=Qd (Yx k') t d left
  have e:X7 (Yx k) t d=X7 (Yx k') t d:=funext fun s=>by
   unfold X7
   cases hx:Xj t.Kids s.2 with
   | none=>rfl
   | some x=>simp only [Option.bind_some,Zk2 k k' x (IntKind.i64.wrap (d - 1)) s.1 (by have:=Zap (Zj5 hx);omega) (by have:=Zap (Zj5 hx);omega)]
  unfold Qd
  rw [e]
theorem Yf4 {t:Tr} (h:Bd t):∃ b,Zar t=some b∧(b=true→pt t≤3000):=by
 obtain ⟨r,h1,h2,h3,h4⟩:=Zox (SizeOf.sizeOf t+1) t 80 3000 h (by omega) (by omega) (by omega) (by omega) (by omega)
 have hr:Qf t 80 3000=some r:=Zd2 (SizeOf.sizeOf t+1) fun k hk=>by rw [Zk2 k (SizeOf.sizeOf t+1) t 80 3000 (by omega) (by omega)];exact h1
 unfold Zar
 rw [hr,Option.bind_some]
 refine ⟨_,rfl,fun hb => ?_⟩
 have:=h4 (by simpa using hb)
 have:0≤r:=by simpa using hb
 omega
theorem Z61 {α:Type} {f:α→Nat} {x:α}:∀ {l:List α},x∈l→f x≤(l.map f).sum
 | y::l,h=>by
  simp only [List.map_cons,List.sum_cons]
  rcases List.mem_cons.1 h with rfl | h
  ·omega
  have:=Z61 (f:=f) h
  omega
theorem Z4r {t x:Tr} (h:x∈t.Kids):pt x≤pt t:=by
 rw [Zvu t]
 have:=Z61 (f:=pt) h
 omega
theorem Z0t {t:Tr} (h:Bd t) {left:Int} (h0:0≤left) (h1:left≤1000000):∃ r,Qf t 80 left=some r∧-1≤r∧r≤1000000∧(0≤r→r+pt t≤left):=by
 obtain ⟨r,h2,h3⟩:=Zox (SizeOf.sizeOf t+1) t 80 left h (by omega) (by omega) (by omega) h0 h1
 exact ⟨r,Zd2 (SizeOf.sizeOf t+1) fun k hk=>by rw [Zk2 k (SizeOf.sizeOf t+1) t 80 left (by omega) (by omega)];exact h2,h3⟩
def wid (c:Int):Nat:=if c=0 then 0 else if c=1 then 1 else if c=2 then 8 else if c=3 then 16 else if c=4 then 32 else 64
def Z6p (c w:Int):Bool:=decide (w < 2 ^ wid c)
theorem Z4a {c:Int} (h0:0≤c) (h1:c≤5):c=0∨c=1∨c=2∨c=3∨c=4∨c=5:=by omega
theorem Z5d (n:Nat) (hn:n≤64) (w:Int) (h0:0≤w) (h1:w < 18446744073709551616):Zw (Qe (n:Int)) (w,0)=some (w / 2 ^ n):=by
 have key:∀ m i:Nat,i+m=n→Zw (Qe (n:Int)) (w / 2 ^ i,(i:Int))=some (w / 2 ^ n):=fun m=>by
  induction m with
  | zero =>
   intro i hi
   have:i=n:=by omega
   subst this
   refine Yg ?_
   unfold Qe
   simp only
   rw [Zcn,cond_false]
  | succ m ih =>
   intro i hi
   have hp:(0:Int) < 2 ^ i:=Int.pow_pos (by decide)
   have q0:0≤w / 2 ^ i:=Int.ediv_nonneg h0 (Int.le_of_lt hp)
   have q1:w / 2 ^ i≤w:=Int.ediv_le_self _ h0
   have hs:Qe (n:Int) (w / 2 ^ i,(i:Int))=some (.inl (w / 2 ^ (i+1),((i+1:Nat):Int))):=by
    unfold Qe
    simp only
    rw [Gu (by omega),cond_true,Uh (by omega) (by omega),Int.tdiv_eq_ediv_of_nonneg q0]
    have e:w / 2 ^ i / 2=w / 2 ^ (i+1):=by rw [Int.ediv_ediv_of_nonneg (Int.le_of_lt hp),Int.pow_succ]
    have q2:0≤w / 2 ^ i / 2:=Int.ediv_nonneg q0 (by decide)
    have q3:w / 2 ^ i / 2≤w / 2 ^ i:=Int.ediv_le_self _ q0
    have e3:IntKind.u64.wrap (w / 2 ^ i / 2)=w / 2 ^ i / 2:=by
     exact Ycp ⟨q2,by omega⟩
    rw [e3,e]
    rfl
   rw [Yw hs]
   exact ih (i+1) (by omega)
 have:=key n 0 (by omega)
 simpa using this
theorem Ybc {c w:Int} (h0:0≤c) (h1:c≤5) (hw:0≤w) (hw':w < 18446744073709551616):Vw c w=some (Z6p c w):=by
 have e:∀ n:Nat,n≤64→(cond (decide ((n:Int) < 0)) (some false) ((Zw (Qe (n:Int)) (w,0)).bind fun (z4:Int)=>some (z4 == 0)))=some (decide (w < 2 ^ n)):=fun n hn=>by
  have:decide ((n:Int) < 0)=false:=by rw [decide_eq_false_iff_not];omega
  have hp:(0:Int) < 2 ^ n:=Int.pow_pos (by decide)
  rw [this,cond_false,Z5d n hn w hw hw',Option.bind_some]
  congr 1
  rw [Bool.eq_iff_iff,beq_iff_eq,decide_eq_true_eq]
  constructor
  ·intro h
   rcases Int.lt_or_le w (2 ^ n) with h2 | h2
   ·exact h2
   have:=Int.ediv_le_ediv hp h2
   rw [Int.ediv_self (Int.ne_of_gt hp)] at this
   omega
  intro h;exact Int.ediv_eq_zero_of_lt hw h
 unfold Vw Z6p
 rcases Z4a h0 h1 with rfl | rfl | rfl | rfl | rfl | rfl
 ·exact e 0 (by decide)
 ·exact e 1 (by decide)
 ·exact e 8 (by decide)
 ·exact e 16 (by decide)
 ·exact e 32 (by decide)
 exact e 64 (by decide)
def okk (kind:Int) (k:Tr):Bool:=if 2≤kind∧kind≤7 then k.Kind == 10 && Z6p (kind - 2) (k.Words.headD 0) else k.Kind != 10 && (kind != 9 || k.Kind == 1)
def rt (t:Tr) (d:Nat):Bool :=
 if t.Kind=0 then t.Words.length == 0 && t.Kids.length == 0
 else if t.Kind=10 then t.Words.length == 1 && t.Kids.length == 0
 else if t.Kind < 0∨10 < t.Kind∨d=0∨65536≤t.Words.length∨(t.Kind=1∧65536≤t.Kids.length)∨1048576≤t.Kids.length∨(1 < t.Kind∧0 < t.Words.length) then false
 else (t.Kids.attach.map fun k=>rt k.1 (d - 1) && okk t.Kind k.1).all id
termination_by SizeOf.sizeOf t
decreasing_by exact Zap k.2
theorem Zp4 (t:Tr) (d:Nat):rt t d=if t.Kind=0 then t.Words.length == 0 && t.Kids.length == 0
 else if t.Kind=10 then t.Words.length == 1 && t.Kids.length == 0
 else if t.Kind < 0∨10 < t.Kind∨d=0∨65536≤t.Words.length∨(t.Kind=1∧65536≤t.Kids.length)∨1048576≤t.Kids.length∨(1 < t.Kind∧0 < t.Words.length) then false
 else t.Kids.all fun k=>rt k (d - 1) && okk t.Kind k:=by
 rw [rt]
 have:(t.Kids.attach.map fun k=>rt k.1 (d - 1) && okk t.Kind k.1)=t.Kids.map fun k=>rt k (d - 1) && okk t.Kind k:=List.attach_map_val (f:=fun k=>rt k (d - 1) && okk t.Kind k)
 rw [this,List.all_map]
 rfl
theorem Z82 {t:Tr} (h:t.Kind=10) {d:Nat} (hr:rt t d=true):∃ w,t.Words=[w]:=by
 rw [Zp4,if_neg (by omega),if_pos h,Bool.and_eq_true,beq_iff_eq] at hr
 obtain ⟨k,w,ks⟩:=t
 obtain ⟨h1,_⟩:=hr
 simp only at h1 ⊢
 exact List.length_eq_one_iff.1 h1
theorem Ydn {n:Nat}:((n:Int) == 0)=(n == 0):=by rw [Bool.eq_iff_iff,beq_iff_eq,beq_iff_eq];omega
theorem Yjn {n:Nat}:((n:Int) == 1)=(n == 1):=by rw [Bool.eq_iff_iff,beq_iff_eq,beq_iff_eq];omega
theorem Zg5 (a b:Bool):cond a b false=(a && b):=by cases a <;> rfl
theorem Z6b {α:Type} (p:α→Bool):∀ l:List α,l.any (fun x => !p x) = !(l.all p)
 | []=>rfl
 | x::l=>by rw [List.any_cons,List.all_cons,Z6b p l];cases p x <;> rfl
theorem Zl4 {α R:Type} (xs:List α) (step:Int→Option (Int ⊕ R)) (p:α→Bool) (e o:R) (hl:(xs.length:Int)≤140737488355328)
  (h1:∀ (i:Nat) (x:α),i < xs.length→xs[i]? = some x→x∈xs→step i=some (if p x=true then .inl (IntKind.i64.wrap ((i:Int)+1)) else .inr e)) (h2:step xs.length=some (.inr o)):Zw step 0=some (if xs.all p=true then o else e):=by
 rw [Zvb xs step (fun x => !p x) e o hl (fun i x hi hx hm=>by rw [h1 i x hi hx hm];cases p x <;> rfl) h2,Z6b]
 cases xs.all p <;> rfl
theorem Zx6:∀ (k:Nat) (t:Tr) (d:Nat),Bd t→SizeOf.sizeOf t < k→d≤64→Jc k t (d:Int)=some (rt t d)
 | 0,t,d,_,h,_=>by omega
 | k+1,t,d,hb,hk,hd=>by
  have hkd:=hb.k
  show Ut (Jc k) t (d:Int)=_
  unfold Ut
  rw [Zp4,Ydn,Yjn]
  by_cases h0:t.Kind=0
  ·rw [if_pos h0,h0]
   simp only [Ydn,Zg5]
   rfl
  have e0:(t.Kind == 0)=false:=by simp [h0]
  rw [if_neg h0,e0,cond_false]
  by_cases h10:t.Kind=10
  ·rw [if_pos h10,h10]
   simp only [Ydn,Zg5]
   rfl
  have e10:(t.Kind == 10)=false:=by simp [h10]
  rw [if_neg h10,e10,cond_false]
  by_cases hbad:t.Kind < 0∨10 < t.Kind∨d=0∨65536≤t.Words.length∨(t.Kind=1∧65536≤t.Kids.length)∨1048576≤t.Kids.length∨(1 < t.Kind∧0 < t.Words.length)
  ·rw [if_pos hbad]
   have hc:∀ c1 c2 c3 c4 c5 c6 c7 c8:Bool,(c1=true∨c2=true∨c3=true∨c4=true∨(c5=true∧c6=true)∨c7=true∨c8=true)→∀ X:Option Bool,
     cond (cond (cond (cond (cond (cond c1 true c2) true c3) true c4) true (cond c5 c6 false)) true c7) (some false) (cond c8 (some false) X)=some false:=by
    intro c1 c2 c3 c4 c5 c6 c7 c8 h X
    cases c1 <;> cases c2 <;> cases c3 <;> cases c4 <;> cases c5 <;> cases c6 <;> cases c7 <;> cases c8 <;> first | rfl | (simp at h;done)
   refine hc _ _ _ _ _ _ _ _ ?_ _
   simp only [decide_eq_true_eq,beq_iff_eq,Zg5,Bool.and_eq_true]
   omega
  rw [if_neg hbad]
  have hg:¬ t.Kind < 0∧¬ 10 < t.Kind∧¬ d=0∧¬ 65536≤t.Words.length∧¬ (t.Kind=1∧65536≤t.Kids.length)∧¬ 1048576≤t.Kids.length∧¬ (1 < t.Kind∧0 < t.Words.length):=by omega
  have hc:∀ c1 c2 c3 c4 c5 c7 c8:Bool,c1=false→c2=false→c3=false→c4=false→c5=false→c7=false→c8=false→∀ X:Option Bool,
    cond (cond (cond (cond (cond (cond c1 true c2) true c3) true c4) true c5) true c7) (some false) (cond c8 (some false) X)=X:=by
   intro c1 c2 c3 c4 c5 c7 c8 h1 h2 h3 h4 h5 h7 h8 X
   subst h1 h2 h3 h4 h5 h7 h8
   rfl
  rw [hc _ _ _ _ _ _ _ (decide_eq_false hg.1) (decide_eq_false hg.2.1) (by rw [beq_eq_false_iff_ne];omega) (by rw [decide_eq_false_iff_not];omega) (by rw [Zg5,Bool.and_eq_false_iff,beq_eq_false_iff_ne,decide_eq_false_iff_not];omega) (by rw [decide_eq_false_iff_not];omega) (by rw [Zg5,Bool.and_eq_false_iff,decide_eq_false_iff_not,decide_eq_false_iff_not];omega)]
  obtain ⟨d',rfl⟩:∃ d',d=d'+1:=⟨d - 1,by omega⟩
  have ih:∀ x∈t.Kids,Jc k x (d':Int)=some (rt x d'):=fun x hx=>Zx6 k x d' (hb.all x hx) (by have:=Zap hx;omega) (by omega)
  rw [Zl4 t.Kids (Kz (Jc k) t ((d'+1:Nat):Int)) (fun x=>rt x d' && okk t.Kind x) (.inl ()) (.inr ()) (by omega) (fun i x hi hx hm=>by
   unfold Kz
   have ed:((d'+1:Nat):Int) - 1=(d':Int):=by omega
   rw [Gu hi,cond_true,Yt hx,Option.bind_some,Uh (x:=((d'+1:Nat):Int) - 1) (by omega) (by omega),ed,ih x hm,Option.bind_some]
   cases hr:rt x d' with
   | false=>rfl
   | true =>
    rw [Bool.not_true,cond_false,Bool.true_and]
    unfold okk
    by_cases hdt:2≤t.Kind∧t.Kind≤7
    ·have e2:decide (2≤t.Kind)=true:=decide_eq_true hdt.1
     have e7:decide (t.Kind≤7)=true:=decide_eq_true hdt.2
     have e9:(t.Kind == 9)=false:=by rw [beq_eq_false_iff_ne];omega
     rw [e2,e7,e9,if_pos hdt]
     simp only [cond_true,cond_false]
     by_cases hx10:x.Kind=10
     ·obtain ⟨w,hw⟩:=Z82 hx10 hr
      have hu:=(hb.all x hm).u w (by rw [hw];exact .head _)
      have ex:(x.Kind == 10)=true:=by simp [hx10]
      have ex2:((true:Bool) != true)=false:=rfl
      have hg0:Xj [w] (0:Int)=some w:=rfl
      rw [ex,ex2,cond_false,hw,hg0,Option.bind_some,Uh (by omega) (by omega),Ybc (by omega) (by omega) hu.1 hu.2,Option.bind_some]
      simp only [cond_false,List.headD_cons,Bool.true_and]
      cases Z6p (t.Kind - 2) w <;> rfl
     have ex:(x.Kind == 10)=false:=by simp [hx10]
     rw [ex]
     rfl
    have ed2:cond (decide (2≤t.Kind)) (decide (t.Kind≤7)) false=false:=by
     rw [Zg5,Bool.and_eq_false_iff,decide_eq_false_iff_not,decide_eq_false_iff_not];omega
    rw [ed2,if_neg hdt]
    have hin:∀ (X:Option Bool) (b:Bool),(cond (decide (2≤t.Kind)) (cond (decide (t.Kind≤7)) X (some b)) (some b))=some b:=fun X b=>by
     by_cases h2:2≤t.Kind
     ·have h7:decide (t.Kind≤7)=false:=by rw [decide_eq_false_iff_not];omega
      rw [decide_eq_true h2,h7];rfl
     rw [decide_eq_false h2];rfl
    by_cases hx10:x.Kind=10
    ·have ex:(x.Kind == 10)=true:=by simp [hx10]
     have ex2:(x.Kind != 10)=false:=by simp [hx10]
     rw [ex,ex2]
     rfl
    have ex:(x.Kind == 10)=false:=by simp [hx10]
    have ex2:(x.Kind != 10)=true:=by simp [hx10]
    have ex3:((false:Bool) != false)=false:=rfl
    rw [ex,ex2,ex3,cond_false]
    simp only [cond_false]
    rw [hin]
    by_cases h9:t.Kind=9
    ·have e9:(t.Kind == 9)=true:=by simp [h9]
     have e9':(t.Kind != 9)=false:=by simp [h9]
     rw [e9,e9',cond_true]
     by_cases hx1:x.Kind=1
     ·have q1:(x.Kind != 1)=false:=by simp [hx1]
      have q2:(x.Kind == 1)=true:=by simp [hx1]
      rw [q1,q2,cond_false]
      rfl
     have q1:(x.Kind != 1)=true:=by simp [hx1]
     have q2:(x.Kind == 1)=false:=by simp [hx1]
     rw [q1,q2,cond_true]
     rfl
    have e9:(t.Kind == 9)=false:=by simp [h9]
    have e9':(t.Kind != 9)=true:=by simp [h9]
    rw [e9,e9']
    rfl) (by unfold Kz;rw [Zcn];rfl),Option.bind_some,Nat.add_sub_cancel]
  cases t.Kids.all fun x=>rt x d' && okk t.Kind x <;> rfl
theorem Zm7 {t:Tr} (h:Bd t) {d:Nat} (hd:d≤64):K9 t (d:Int)=some (rt t d):=Zd2 (SizeOf.sizeOf t+1) fun k hk=>Zx6 k t d h (by omega) hd
theorem Ydq (n:Int):Zhe n=some (decide (2≤n) && decide (n≤9)):=by unfold Zhe;rw [Zg5]
theorem Zr2 (k:Nat):256 ^ k=2 ^ (8 * k):=by rw [Nat.pow_mul]
def Ur (m:Nat):Nat→Nat
 | 0=>0
 | k+1=>Ur m k+(if m / 2 ^ k % 2=1 then 255 * 256 ^ k else 0)
theorem Z32 (m:Nat):∀ k,Ur m k < 256 ^ k
 | 0=>by simp [Ur]
 | k+1=>by
  have:=Z32 m k
  have h:256 ^ (k+1)=256 * 256 ^ k:=by rw [Nat.pow_succ,Nat.mul_comm]
  simp only [Ur]
  split <;> omega
theorem Z8v {k:Nat} (hk:k < 8):256 ^ (k+1)≤2 ^ 64:=by
 rw [Zr2];exact Nat.pow_le_pow_right (by decide) (by omega)
def Znu (m i:Nat):Bool:=decide (m / 2 ^ i % 2=1)
theorem Yfx {m i:Nat} (h:Znu m i=true):m / 2 ^ i % 2=1:=of_decide_eq_true h
theorem Yfw {m i:Nat} (h:Znu m i=false):¬ m / 2 ^ i % 2=1:=of_decide_eq_false h
theorem Z9m (q:Nat):((q:Int) % 2 == 1)=decide (q % 2=1):=by rw [Bool.eq_iff_iff];simp;omega
def Zk8 (f:Nat→Nat):Nat→Nat
 | 0=>0
 | k+1=>2 ^ (8 * k) * f k+Zk8 f k
theorem Zo9 (f:Nat→Nat) (hf:∀ k,f k < 256):∀ k,Zk8 f k < 2 ^ (8 * k)
 | 0=>by simp [Zk8]
 | k+1=>by
  have h1:=Zo9 f hf k
  have h2:=hf k
  have h3:2 ^ (8 * (k+1))=2 ^ (8 * k) * 256:=by rw [Nat.mul_add,Nat.pow_add]
  have h4:2 ^ (8 * k) * f k≤2 ^ (8 * k) * 255:=Nat.mul_le_mul_left _ (by omega)
  simp only [Zk8]
  omega
theorem Zmt (f:Nat→Nat) (hf:∀ k,f k < 256) (i:Nat):∀ k,Nat.testBit (Zk8 f k) i=(decide (i < 8 * k) && Nat.testBit (f (i / 8)) (i % 8))
 | 0=>by simp [Zk8]
 | k+1=>by
  have h:=Zmt f hf i k
  simp only [Zk8]
  rw [Nat.testBit_two_pow_mul_add _ (Zo9 f hf k)]
  by_cases h1:i < 8 * k
  ·rw [if_pos h1,h]
   simp [h1,show i < 8 * (k+1) by omega]
  rw [if_neg h1]
  by_cases h2:i < 8 * (k+1)
  ·have h3:i / 8=k:=by omega
   have h4:i - 8 * k=i % 8:=by omega
   rw [h3,h4]
   simp [h2]
  have h5:f k < 2 ^ (i - 8 * k):=Nat.lt_of_lt_of_le (hf k) (Nat.pow_le_pow_right (n:=2) (by decide) (show 8≤i - 8 * k by omega))
  rw [Nat.testBit_lt_two_pow h5]
  simp [h2]
def Gr (n k:Nat):Nat:=n / 256 ^ k % 256
theorem Z9o (n k:Nat):Gr n k < 256:=Nat.mod_lt _ (by decide)
theorem Zrd (n k j:Nat) (hj:j < 8):Nat.testBit (Gr n k) j=Nat.testBit n (8 * k+j):=by
 unfold Gr
 rw [Zr2,show (256:Nat)=2 ^ 8 from rfl,Nat.testBit_mod_two_pow,Nat.testBit_div_two_pow]
 simp [hj,Nat.add_comm]
def Zjp (a b m k:Nat):Nat:=if Znu m k then Gr b k else Gr a k
theorem Zti (a b m k:Nat):Zjp a b m k < 256:=by unfold Zjp;split <;> exact Z9o _ _
def Zrs (a b m:Nat):Nat:=Zk8 (Zjp a b m) 8
def Z30 (m k:Nat):Nat:=if Znu m k then 255 else 0
theorem Z31 (m k:Nat):Z30 m k < 256:=by unfold Z30;split <;> decide
theorem Zsn (m:Nat):∀ k,Ur m k=Zk8 (Z30 m) k
 | 0=>rfl
 | k+1=>by
  simp only [Ur,Zk8,Zsn m k,Z30,Znu,decide_eq_true_eq]
  rw [Zr2]
  split <;> omega
theorem Yfv (j:Nat) (hj:j < 8):Nat.testBit 255 j=true:=by
 rw [show (255:Nat)=2 ^ 8 - 1 from rfl,Nat.testBit_two_pow_sub_one];simp [hj]
theorem Zsm (m i:Nat) (hi:i < 64):Nat.testBit (Ur m 8) i=Znu m (i / 8):=by
 rw [Zsn,Zmt _ (Z31 m)]
 unfold Z30
 have:=Yfv (i % 8) (Nat.mod_lt _ (by decide))
 cases Znu m (i / 8) <;> simp [hi,this]
theorem Zi1 (m:Nat):Ur m 8 < 2 ^ 64:=by rw [Zsn];exact Zo9 _ (Z31 m) 8
theorem Yam (a b m:Nat) (ha:a < 2 ^ 64) (hb:b < 2 ^ 64):(a &&& (18446744073709551615 - Ur m 8)) ||| (b &&& Ur m 8)=Zrs a b m:=by
 refine Nat.eq_of_testBit_eq fun i => ?_
 unfold Zrs
 rw [Zmt _ (Zti a b m),Nat.testBit_or,Nat.testBit_and,Nat.testBit_and,show (18446744073709551615 - Ur m 8)=2 ^ 64 - (Ur m 8+1) by have:=Zi1 m;omega,Nat.testBit_two_pow_sub_succ (Zi1 m)]
 by_cases hi:i < 64
 ·have h:=Zsm m i hi
  have hs:8 * (i / 8)+i % 8=i:=by omega
  have hj:i % 8 < 8:=Nat.mod_lt _ (by decide)
  rw [h]
  unfold Zjp
  cases Znu m (i / 8) <;> simp [hi,Zrd _ _ _ hj,hs]
 have h1:∀ n,n < 2 ^ 64→Nat.testBit n i=false:=fun n hn=>Nat.testBit_lt_two_pow (Nat.lt_of_lt_of_le hn (Nat.pow_le_pow_right (by decide) (by omega)))
 simp [h1 a ha,h1 b hb,hi]
theorem Yeq (q:Nat):Int.tdiv (q:Int) 256=((q / 256:Nat):Int):=by rw [Int.tdiv_eq_ediv_of_nonneg (Int.natCast_nonneg _)];omega
theorem Yix (q:Nat):Int.tdiv (q:Int) 2=((q / 2:Nat):Int):=by rw [Int.tdiv_eq_ediv_of_nonneg (Int.natCast_nonneg _)];omega
theorem Yes (q:Nat):IntKind.u8.wrap (Int.tmod (q:Int) 256)=((q % 256:Nat):Int):=by rw [Int.tmod_eq_emod_of_nonneg (Int.natCast_nonneg _),IntKind.wrap_u8'];omega
theorem Z3x (q:Nat) (h:q < 18446744073709551616):IntKind.u64.wrap (q:Int)=(q:Int):=Ycp (by omega)
theorem u8n (q:Nat) (h:q < 256):IntKind.u8.wrap (q:Int)=(q:Int):=by rw [IntKind.wrap_u8'];omega
theorem lt8 {k:Nat} (h:k < 8):k=0∨k=1∨k=2∨k=3∨k=4∨k=5∨k=6∨k=7:=by omega
theorem Z9n (m k:Nat) (hm:m < 256) (hk:k < 8):(IntKind.u8.wrap (Zjf .u8 (Int.fdiv (m:Int) (2 ^ min (Int.toNat (k:Int)) 8)) 1) == 1)=Znu m k:=by
 have e1:Int.fdiv (m:Int) (2 ^ min (Int.toNat (k:Int)) 8)=((m / 2 ^ k:Nat):Int):=by
  rw [Int.toNat_natCast,Nat.min_eq_left (by omega),Int.fdiv_eq_ediv_of_nonneg _ (Int.le_of_lt (Int.pow_pos (by decide)))]
  simp only [Int.natCast_ediv,Int.natCast_pow]
  rfl
 have hq:m / 2 ^ k < 256:=Nat.lt_of_le_of_lt (Nat.div_le_self _ _) hm
 have e2:=Yac .u8 (m / 2 ^ k) 1 (by simpa [IntKind.bits] using hq) (by simp [IntKind.bits])
 have e3:(m / 2 ^ k) &&& 1=m / 2 ^ k % 2:=Nat.and_one_is_mod _
 have e4:((1:Nat):Int)=1:=rfl
 rw [e4] at e2
 rw [e1,e2,e3,IntKind.wrap_u8']
 unfold Znu
 rw [Bool.eq_iff_iff,beq_iff_eq,decide_eq_true_eq]
 omega
theorem Ygj {a b i:Nat} (ha:a < 2 ^ i) (hb:b % 2 ^ i=0):a ||| b=a+b:=by
 obtain ⟨q,rfl⟩:∃ q,b=2 ^ i * q:=⟨b / 2 ^ i,by have:=Nat.div_add_mod b (2 ^ i);omega⟩
 rw [Nat.or_comm,Nat.add_comm,Nat.two_pow_add_eq_or_of_lt ha]
theorem Yez (m k:Nat) (hk:k < 8):IntKind.u64.wrap (Zvc .u64 (Ur m k:Nat) (IntKind.u64.wrap (255 * 2 ^ min (Int.toNat (IntKind.i64.wrap (8 * (k:Int)))) 64)))=((Ur m k+255 * 256 ^ k:Nat):Int):=by
 have h1:=Z32 m k
 have h2:=Z8v hk
 have h3:256 ^ (k+1)=256 * 256 ^ k:=by rw [Nat.pow_succ,Nat.mul_comm]
 have e0:(IntKind.i64.wrap (8 * (k:Int))).toNat=8 * k:=by rw [Zza (by omega)];omega
 have e:(255 * 2 ^ (8 * k):Int)=((255 * 256 ^ k:Nat):Int):=by rw [Zr2];simp only [Int.natCast_mul,Int.natCast_pow];rfl
 have e2:Ur m k ||| 255 * 256 ^ k=Ur m k+255 * 256 ^ k:=Ygj (i:=8 * k) (by rw [← Zr2];exact h1) (by rw [← Zr2];exact Nat.mul_mod_left _ _)
 rw [e0,Nat.min_eq_left (by omega),e,Z3x (255 * 256 ^ k) (by omega),Yhh _ _ (by omega) (by omega),e2,Z3x _ (by omega)]
theorem Zya (m:Nat) (hm:m < 256):∀ j i:Nat,i+j=8→Zw (Zcr (m:Int)) (((Ur m i:Nat):Int),(i:Int))=some ((Ur m 8:Nat):Int)
 | 0,i,h=>by
  obtain rfl:i=8:=by omega
  exact Yg rfl
 | j+1,i,h=>by
  have hs:Zcr (m:Int) (((Ur m i:Nat):Int),(i:Int))=some (.inl (((Ur m (i+1):Nat):Int),((i+1:Nat):Int))):=by
   unfold Zcr
   have e:decide ((i:Int) < 8)=true:=by rw [decide_eq_true_eq];omega
   simp only
   rw [e,cond_true,Zxs (by omega),Option.bind_some,Z9n m i hm (by omega),Zza (x:=(i:Int)+1) (by omega)]
   have hw:Ur m (i+1)=Ur m i+(if m / 2 ^ i % 2=1 then 255 * 256 ^ i else 0):=rfl
   cases hb:Znu m i with
   | true =>
    rw [cond_true,Zxs (by rw [Zza (by omega)];omega),Option.bind_some,Yez m i (by omega),hw,if_pos (Yfx hb)]
    rfl
   | false =>
    rw [cond_false,hw,if_neg (Yfw hb)]
    rfl
  rw [Yw hs]
  exact Zya m hm j (i+1) (by omega)
theorem Z70 (m:Nat) (hm:m < 256):Zcq (m:Int)=some ((Ur m 8:Nat):Int):=by
 unfold Zcq
 have:=Zya m hm 8 0 rfl
 rw [show ((Ur m 0:Nat):Int)=0 from rfl,show ((0:Nat):Int)=0 from rfl] at this
 rw [this]
 rfl
def ofF (f:Nat→Nat):Arr Int 8:=⟨[(f 0:Nat),(f 1:Nat),(f 2:Nat),(f 3:Nat),(f 4:Nat),(f 5:Nat),(f 6:Nat),(f 7:Nat)],rfl⟩
theorem Ztm (f:Nat→Nat) (k:Nat) (hk:k < 8):Xj (ofF f).1 (k:Int)=some ((f k:Nat):Int):=by
 rcases lt8 hk with rfl | rfl | rfl | rfl | rfl | rfl | rfl | rfl <;> rfl
theorem Z7a (f:Nat→Nat) (k v:Nat) (hk:k < 8):Arr.put (ofF f) (k:Int) (v:Int)=ofF (fun i=>if i=k then v else f i):=by
 rcases lt8 hk with rfl | rfl | rfl | rfl | rfl | rfl | rfl | rfl <;> rfl
theorem Zx1 {f g:Nat→Nat} (h:∀ k,k < 8→f k=g k):ofF f=ofF g:=by
 unfold ofF
 simp only [h 0 (by decide),h 1 (by decide),h 2 (by decide),h 3 (by decide),h 4 (by decide),h 5 (by decide),h 6 (by decide),h 7 (by decide)]
theorem Zuj (n:Nat) (hn:n < 18446744073709551616):∀ j i:Nat,i+j=8→Zw K4 (((n / 256 ^ i:Nat):Int),(i:Int),ofF (fun q=>if q < i then Gr n q else 0))=some (ofF (Gr n))
 | 0,i,h=>by
  obtain rfl:i=8:=by omega
  refine (Yg (r:=ofF (fun q=>if q < 8 then Gr n q else 0)) rfl).trans ?_
  rw [Zx1 (g:=Gr n) fun k hk=>if_pos hk]
 | j+1,i,h=>by
  have hs:K4 (((n / 256 ^ i:Nat):Int),(i:Int),ofF (fun q=>if q < i then Gr n q else 0))=some (.inl (((n / 256 ^ (i+1):Nat):Int),((i+1:Nat):Int),ofF (fun q=>if q < i+1 then Gr n q else 0))):=by
   unfold K4
   have e:decide ((i:Int) < 8)=true:=by rw [decide_eq_true_eq];omega
   simp only
   have q1:n / 256 ^ i≤n:=Nat.div_le_self _ _
   have q2:n / 256 ^ i / 256=n / 256 ^ (i+1):=by rw [Nat.div_div_eq_div_mul,Nat.pow_succ]
   have q3:Int.tdiv ((n / 256 ^ i:Nat):Int) 256=((n / 256 ^ (i+1):Nat):Int):=by rw [← q2,Yeq]
   have q4:IntKind.u8.wrap (Int.tmod ((n / 256 ^ i:Nat):Int) 256)=((Gr n i:Nat):Int):=by
    rw [Yes]
    rfl
   have q5:n / 256 ^ (i+1)≤n:=Nat.div_le_self _ _
   rw [e,cond_true,Ztm _ _ (by omega),Option.bind_some,q3,q4,Z3x _ (Nat.lt_of_le_of_lt q5 hn),Zza (x:=(i:Int)+1) (by omega),Z7a _ _ _ (by omega)]
   have e5:(fun q=>if q=i then Gr n i else if q < i then Gr n q else 0)=fun q=>if q < i+1 then Gr n q else 0:=by
    funext q
    by_cases h1:q=i
    ·rw [if_pos h1,if_pos (by omega),h1]
    rw [if_neg h1]
    by_cases h2:q < i
    ·rw [if_pos h2,if_pos (by omega)]
    rw [if_neg h2,if_neg (by omega)]
   rw [e5]
   rfl
  rw [Yw hs]
  exact Zuj n hn j (i+1) (by omega)
theorem Z19 (n:Nat) (hn:n < 18446744073709551616):K8 (n:Int)=some (ofF (Gr n)):=by
 unfold K8
 have h:=Zuj n hn 8 0 rfl
 have e:ofF (fun q=>if q < 0 then Gr n q else 0)=⟨[0,0,0,0,0,0,0,0],rfl⟩:=rfl
 rw [e,Nat.pow_zero,Nat.div_one,show ((0:Nat):Int)=0 from rfl] at h
 rw [Option.bind_some,Option.bind_some,h]
 rfl
theorem Zvd (m n:Nat) (hm:m < 256) (hn:n≤8):∀ j i:Nat,i+j=n→Zw (Jo (n:Int)) (((m / 2 ^ i:Nat):Int),(i:Int))=some ((m / 2 ^ n:Nat):Int)
 | 0,i,h=>by
  obtain rfl:i=n:=by omega
  refine Yg ?_
  unfold Jo
  have e:decide ((i:Int) < (i:Int))=false:=by rw [decide_eq_false_iff_not];omega
  simp only
  rw [e,cond_false]
 | j+1,i,h=>by
  have hs:Jo (n:Int) (((m / 2 ^ i:Nat):Int),(i:Int))=some (.inl (((m / 2 ^ (i+1):Nat):Int),((i+1:Nat):Int))):=by
   unfold Jo
   have e:decide ((i:Int) < (n:Int))=true:=by rw [decide_eq_true_eq];omega
   have q1:m / 2 ^ i≤m:=Nat.div_le_self _ _
   have q2:m / 2 ^ i / 2=m / 2 ^ (i+1):=by rw [Nat.div_div_eq_div_mul,Nat.pow_succ]
   have q5:m / 2 ^ (i+1)≤m:=Nat.div_le_self _ _
   have q3:Int.tdiv ((m / 2 ^ i:Nat):Int) 2=((m / 2 ^ (i+1):Nat):Int):=by rw [← q2,Yix]
   have q4:IntKind.u8.wrap ((m / 2 ^ (i+1):Nat):Int)=((m / 2 ^ (i+1):Nat):Int):=u8n _ (Nat.lt_of_le_of_lt q5 hm)
   simp only
   rw [e,cond_true,q3,q4,Zza (x:=(i:Int)+1) (by omega)]
   rfl
  rw [Yw hs]
  exact Zvd m n hm hn j (i+1) (by omega)
theorem Yap (m n:Nat) (hm:m < 256) (hn:n≤8):U3 (m:Int) (n:Int)=some (Znu m n):=by
 unfold U3
 have h:=Zvd m n hm hn n 0 (by omega)
 rw [Nat.pow_zero,Nat.div_one,show ((0:Nat):Int)=0 from rfl] at h
 rw [h,Option.bind_some,Int.tmod_eq_emod_of_nonneg (Int.natCast_nonneg _),Z9m]
 rfl
theorem Z2y (a b m:Nat) (hm:m < 256):∀ j i:Nat,i+j=8→Zw (Uc (m:Int) (ofF (Gr b))) ((i:Int),ofF (fun q=>if q < i then Zjp a b m q else Gr a q))=some (ofF (Zjp a b m))
 | 0,i,h=>by
  obtain rfl:i=8:=by omega
  refine (Yg (r:=ofF (fun q=>if q < 8 then Zjp a b m q else Gr a q)) rfl).trans ?_
  rw [Zx1 (g:=Zjp a b m) fun k hk=>if_pos hk]
 | j+1,i,h=>by
  have hs:Uc (m:Int) (ofF (Gr b)) ((i:Int),ofF (fun q=>if q < i then Zjp a b m q else Gr a q))=some (.inl (((i+1:Nat):Int),ofF (fun q=>if q < i+1 then Zjp a b m q else Gr a q))):=by
   unfold Uc
   have e:decide ((i:Int) < 8)=true:=by rw [decide_eq_true_eq];omega
   simp only
   rw [e,cond_true,Yap m i hm (by omega),Option.bind_some,Zza (x:=(i:Int)+1) (by omega)]
   have hne:∀ v,v=Zjp a b m i→(fun q=>if q=i then v else if q < i then Zjp a b m q else Gr a q)=fun q=>if q < i+1 then Zjp a b m q else Gr a q:=fun v hv=>by
    funext q
    by_cases h1:q=i
    ·rw [if_pos h1,if_pos (by omega),h1,hv]
    rw [if_neg h1]
    by_cases h2:q < i
    ·rw [if_pos h2,if_pos (by omega)]
    rw [if_neg h2,if_neg (by omega)]
   cases hb:Znu m i with
   | true =>
    rw [cond_true,Ztm _ _ (by omega),Option.bind_some,Ztm _ _ (by omega),Option.bind_some,Option.bind_some,Z7a _ _ _ (by omega),hne _ (by unfold Zjp;rw [hb,if_pos rfl])]
    rfl
   | false =>
    have e6:(fun q=>if q < i then Zjp a b m q else Gr a q)=fun q=>if q < i+1 then Zjp a b m q else Gr a q:=by
     funext q
     by_cases h1:q=i
     ·rw [if_neg (by omega),if_pos (by omega),h1]
      unfold Zjp
      rw [hb]
      rfl
     by_cases h2:q < i
     ·rw [if_pos h2,if_pos (by omega)]
     rw [if_neg h2,if_neg (by omega)]
    rw [cond_false,Option.bind_some,e6]
    rfl
  rw [Yw hs]
  exact Z2y a b m hm j (i+1) (by omega)
def hiN (f:Nat→Nat):Nat→Nat→Nat
 | _,0=>0
 | i,n+1=>hiN f (i+1) n * 256+f i
theorem Z94 (f:Nat→Nat) (hf:∀ k,f k < 256):∀ n i,hiN f i n < 256 ^ n
 | 0,_=>by simp [hiN]
 | n+1,i=>by
  have h1:=Z94 f hf n (i+1)
  have h2:=hf i
  have h3:256 ^ (n+1)=256 * 256 ^ n:=by rw [Nat.pow_succ,Nat.mul_comm]
  simp only [hiN]
  omega
theorem Ydk (f:Nat→Nat):hiN f 0 8=Zk8 f 8:=by simp only [hiN,Zk8,Nat.reduceMul,Nat.reducePow,Nat.reduceAdd];omega
theorem Z7b (f:Nat→Nat) (hf:∀ k,f k < 256):∀ i n:Nat,i+n=8→Zw (U4 (ofF f).1 0) (((hiN f i n:Nat):Int),(i:Int) - 1)=some ((hiN f 0 8:Nat):Int)
 | 0,n,h=>by
  obtain rfl:n=8:=by omega
  exact Yg rfl
 | i+1,n,h=>by
  have hs:U4 (ofF f).1 0 (((hiN f (i+1) n:Nat):Int),((i+1:Nat):Int) - 1)=some (.inl (((hiN f i (n+1):Nat):Int),(i:Int) - 1)):=by
   unfold U4
   have e0:((i+1:Nat):Int) - 1=(i:Int):=by omega
   have e:decide (0≤(i:Int))=true:=by rw [decide_eq_true_eq];omega
   have h1:=Z94 f hf n (i+1)
   have h2:=hf i
   have h3:256 ^ n≤256 ^ 7:=Nat.pow_le_pow_right (by decide) (by omega)
   have h4:(256:Nat) ^ 7=72057594037927936:=by decide
   simp only
   rw [e0,e,cond_true,Int.zero_add,Zza (x:=(i:Int)) (by omega),Ztm _ _ (by omega),Option.bind_some,Ycp (x:=((hiN f (i+1) n:Nat):Int) * 256) (by omega),Ycp (x:=((f i:Nat):Int)) (by omega),Ycp (by omega),Zza (by omega)]
   have e7:((hiN f (i+1) n:Nat):Int) * 256+((f i:Nat):Int)=((hiN f i (n+1):Nat):Int):=by simp only [hiN];omega
   rw [e7]
  rw [Yw hs]
  exact Z7b f hf i (n+1) (by omega)
theorem Yge (a b m:Nat) (ha:a < 18446744073709551616) (hb:b < 18446744073709551616) (hm:m < 256):Zaq (a:Int) (b:Int) (m:Int)=some ((Zrs a b m:Nat):Int):=by
 unfold Zaq
 have h:=Z2y a b m hm 8 0 rfl
 have e:ofF (fun q=>if q < 0 then Zjp a b m q else Gr a q)=ofF (Gr a):=rfl
 rw [e,show ((0:Nat):Int)=0 from rfl] at h
 have h2:=Z7b (Zjp a b m) (Zti a b m) 8 0 rfl
 rw [Ydk,show ((8:Nat):Int) - 1=7 from rfl,show ((hiN (Zjp a b m) 8 0:Nat):Int)=0 from rfl] at h2
 rw [Z19 a ha,Option.bind_some,Z19 b hb,Option.bind_some,Option.bind_some,h,Option.bind_some]
 unfold Zep
 rw [h2]
 rfl
def wi (x m:Int):Bool:=Zrs x.toNat 0 m.toNat == 0
theorem Zyb {x m:Int} (h0:0≤x) (h1:x < 18446744073709551616) (m0:0≤m) (m1:m < 256):Ks x m=some (wi x m):=by
 obtain ⟨a,rfl⟩:=Int.eq_ofNat_of_zero_le h0
 obtain ⟨k,rfl⟩:=Int.eq_ofNat_of_zero_le m0
 unfold Ks wi
 rw [show (0:Int)=((0:Nat):Int) from rfl,Yge a 0 k (by omega) (by decide) (by omega),Option.bind_some]
 congr 1
 rw [Bool.eq_iff_iff,beq_iff_eq,beq_iff_eq]
 simp only [Int.toNat_natCast]
 omega
abbrev Ed:=Zc
theorem Qq {e:Ed} {k:Zm} (h:k∈e.Kids):SizeOf.sizeOf k.E < SizeOf.sizeOf e:=by
 obtain ⟨a,b,c,d,ks,f,g⟩:=e
 obtain ⟨i,x⟩:=k
 have h1:=List.sizeOf_lt_of_mem h
 simp only [Zc.mk.sizeOf_spec,Zm.mk.sizeOf_spec] at h1 ⊢
 omega
theorem Kl {e:Ed} {o:Zl} (h:o∈e.Ops):SizeOf.sizeOf o.E < SizeOf.sizeOf e:=by
 obtain ⟨a,b,c,d,ks,f,os⟩:=e
 obtain ⟨i,n,l,x⟩:=o
 have h1:=List.sizeOf_lt_of_mem h
 simp only [Zc.mk.sizeOf_spec,Zl.mk.sizeOf_spec] at h1 ⊢
 omega
theorem Zlt (e:Ed):0 < SizeOf.sizeOf e:=by
 obtain ⟨a,b,c,d,ks,f,g⟩:=e
 simp only [Zc.mk.sizeOf_spec]
 omega
inductive BE:Ed→Prop
 | mk (e:Ed) (h1:Bd e.Old) (h2:Bd e.New) (h3:(e.Words.length:Int)≤140737488355328) (h4:∀ w∈e.Words,(0≤w.Mask∧w.Mask < 256)∧(0≤w.Old∧w.Old < 18446744073709551616)∧(0≤w.New∧w.New < 18446744073709551616))
   (h5:(e.Kids.length:Int)≤140737488355328) (h6:∀ k∈e.Kids,BE k.E) (h7:(e.Ops.length:Int)≤140737488355328) (h8:∀ o∈e.Ops,o.L.length * 56≤140737488355328∧∀ t∈o.L,Bd t) (h9:∀ o∈e.Ops,BE o.E):BE e
theorem BE.old {e:Ed} (h:BE e):Bd e.Old:=by cases h;assumption
theorem BE.new {e:Ed} (h:BE e):Bd e.New:=by cases h;assumption
theorem BE.w {e:Ed} (h:BE e):(e.Words.length:Int)≤140737488355328:=by cases h;assumption
theorem BE.ws {e:Ed} (h:BE e):∀ w∈e.Words,(0≤w.Mask∧w.Mask < 256)∧(0≤w.Old∧w.Old < 18446744073709551616)∧(0≤w.New∧w.New < 18446744073709551616):=by cases h;assumption
theorem BE.k {e:Ed} (h:BE e):(e.Kids.length:Int)≤140737488355328:=by cases h;assumption
theorem BE.ks {e:Ed} (h:BE e):∀ k∈e.Kids,BE k.E:=by cases h;assumption
theorem BE.o {e:Ed} (h:BE e):(e.Ops.length:Int)≤140737488355328:=by cases h;assumption
theorem BE.l {e:Ed} (h:BE e):∀ o∈e.Ops,o.L.length * 56≤140737488355328∧∀ t∈o.L,Bd t:=by cases h;assumption
theorem BE.os {e:Ed} (h:BE e):∀ o∈e.Ops,BE o.E:=by cases h;assumption
theorem Z2c {α:Type} (a b:Int) (x y:α):cond (a == b) x y=if a=b then x else y:=by
 by_cases h:a=b
 ·rw [beq_iff_eq.2 h,if_pos h];rfl
 rw [beq_eq_false_iff_ne.2 h,if_neg h];rfl
theorem Zpa {α:Type} (a b:Int) (x y:α):cond (a != b) x y=if a=b then y else x:=by
 by_cases h:a=b
 ·have:(a != b)=false:=by simp [h]
  rw [this,if_pos h];rfl
 have:(a != b)=true:=by simp [h]
 rw [this,if_neg h];rfl
def chk {α:Type} (pl:α→Int) (ok:Int→α→Bool):Int→List α→Bool
 | _,[]=>true
 | p,x::xs=>ok p x && chk pl ok (pl x) xs
theorem Z2t {α R:Type} (xs:List α) (pl:α→Int) (ok:Int→α→Bool) (step:Int×Int→Option ((Int×Int) ⊕ R)) (e o:R) (hl:(xs.length:Int)≤140737488355328)
  (h1:∀ (p:Int) (i:Nat) (x:α),i < xs.length→xs[i]? = some x→x∈xs→step (p,(i:Int))=some (if ok p x=true then .inl (pl x,IntKind.i64.wrap ((i:Int)+1)) else .inr e)) (h2:∀ p,step (p,(xs.length:Int))=some (.inr o)) (p:Int):Zw step (p,0)=some (if chk pl ok p xs=true then o else e):=by
 have key:∀ (ys:List α) (i:Nat) (p:Int),xs.drop i=ys→i≤xs.length→Zw step (p,(i:Int))=some (if chk pl ok p ys=true then o else e):=fun ys=>by
  induction ys with
  | nil =>
   intro i p h hi
   have:i=xs.length:=by
    have:=congrArg List.length h
    rw [List.length_drop,List.length_nil] at this
    omega
   subst this
   exact Yg (h2 p)
  | cons x ys ih =>
   intro i p h hi
   have hx:xs[i]? = some x:=by
    have:=congrArg (fun l=>l[0]?) h
    simpa using this
   have hi':i < xs.length:=by
    rcases Nat.lt_or_ge i xs.length with h' | h'
    ·exact h'
    rw [List.getElem?_eq_none h'] at hx;cases hx
   have hs:=h1 p i x hi' hx (List.mem_of_getElem? hx)
   have hd:xs.drop (i+1)=ys:=by
    have:=congrArg List.tail h
    rwa [List.tail_drop,List.tail_cons] at this
   cases hk:ok p x with
   | false =>
    rw [hk] at hs
    rw [Yg (by simpa using hs)]
    simp [chk,hk]
   | true =>
    rw [hk,if_pos rfl,Uh (by omega) (by omega)] at hs
    have e1:(i:Int)+1=((i+1:Nat):Int):=by omega
    rw [e1] at hs
    rw [Yw hs,ih (i+1) (pl x) hd (by omega)]
    simp [chk,hk]
 exact key xs 0 p rfl (Nat.zero_le _)
def Zce (t:Tr):Bool:=t.Kind == 0 && (t.Words.length == 0 && t.Kids.length == 0)
theorem Ztk {t:Tr} (h:Bd t):Jh t=some (Zce t):=by
 have:=h.w
 have:=h.k
 unfold Jh Zce
 rw [Uh (by omega) (by omega),Zg5]
 congr 2
 rw [Bool.eq_iff_iff,Bool.and_eq_true,beq_iff_eq,beq_iff_eq,beq_iff_eq]
 omega
def Zj8 (e:Ed):Bool:=e.Words.length == 0 && e.Kids.length == 0
def Zjq (e:Ed):Bool:=e.List_ == 0 && e.Ops.length == 0
theorem Ygx {e:Ed} (h:BE e):decide (0 < IntKind.i64.wrap ((e.Words.length:Int)+(e.Kids.length:Int))) = !Zj8 e:=by
 have:=h.w
 have:=h.k
 unfold Zj8
 rw [Uh (by omega) (by omega),Bool.eq_iff_iff,Bool.not_eq_true',decide_eq_true_eq,Bool.and_eq_false_iff,beq_eq_false_iff_ne,beq_eq_false_iff_ne]
 omega
theorem Ygd (e:Ed):cond (e.List_ != 0) true (decide (0 < (e.Ops.length:Int))) = !Zjq e:=by
 unfold Zjq
 cases h0:e.List_ == 0 with
 | false=>simp only [bne,h0];rfl
 | true =>
  simp only [bne,h0,Bool.not_true,cond_false,Bool.true_and]
  rw [Bool.eq_iff_iff,Bool.not_eq_true',decide_eq_true_eq,beq_eq_false_iff_ne]
  omega
def Znq (e:Ed):Bool:=Zce e.Old && Zce e.New
def Zf9 (e:Ed):Bool:=e.Kind == 0 && (Znq e && (Zj8 e && Zjq e))
theorem Ybj {e:Ed} (h:BE e):Vx e=some (Zf9 e):=by
 have:=h.w
 have:=h.k
 have:=h.o
 unfold Vx Zf9
 rw [Ztk h.old,Ztk h.new]
 simp only [Option.bind_some]
 have e1:(IntKind.i64.wrap (IntKind.i64.wrap ((e.Words.length:Int)+(e.Kids.length:Int))+(e.Ops.length:Int)) == 0)=(Zj8 e && e.Ops.length == 0):=by
  unfold Zj8
  rw [Uh (x:=(e.Words.length:Int)+(e.Kids.length:Int)) (by omega) (by omega),Uh (by omega) (by omega),Bool.eq_iff_iff,Bool.and_eq_true,Bool.and_eq_true,beq_iff_eq,beq_iff_eq,beq_iff_eq,beq_iff_eq]
  omega
 rw [e1]
 unfold Znq Zjq
 generalize Zce e.Old=p
 generalize Zce e.New=q
 generalize Zj8 e=r
 generalize (e.List_ == 0)=s
 generalize (e.Ops.length == 0)=u
 generalize (e.Kind == 0)=v
 revert p q r s u v
 decide
def okW (p:Int) (w:Zr):Bool := !(((((decide (w.At≤p) || decide (65534 < w.At)) || w.Mask == 0) || !(wi w.Old w.Mask)) || !(wi w.New w.Mask)))
theorem Z8y {e:Ed} (h:BE e):Zw (Jm e) (-1,0)=some (if chk (·.At) okW (-1) e.Words=true then Sum.inr () else Sum.inl ()) :=
 Z2t e.Words (·.At) okW (Jm e) (.inl ()) (.inr ()) h.w (fun p i x hi hx hm=>by
  obtain ⟨h1,h2,h3⟩:=h.ws x hm
  unfold Jm
  simp only
  rw [Gu hi,cond_true,Yt hx,Option.bind_some,Zyb h2.1 h2.2 h1.1 h1.2,Zyb h3.1 h3.2 h1.1 h1.2]
  simp only [Option.bind_some]
  unfold okW
  generalize decide (x.At≤p)=q1
  generalize decide (65534 < x.At)=q2
  generalize (x.Mask == 0)=q3
  generalize wi x.Old x.Mask=q4
  generalize wi x.New x.Mask=q5
  cases q1 <;> cases q2 <;> cases q3 <;> cases q4 <;> cases q5 <;> rfl) (fun p=>by unfold Jm;simp only;rw [Zcn];rfl) (-1)
theorem Zmz {α S R σ:Type} (xs:List α) (mk:S→Int→σ) (f:S→α→S) (out:S→R) (I:S→Prop) (step:σ→Option (σ ⊕ R)) (hl:(xs.length:Int)≤140737488355328)
  (h1:∀ (s:S) (i:Nat) (x:α),I s→i < xs.length→xs[i]? = some x→x∈xs→I (f s x)∧step (mk s (i:Int))=some (.inl (mk (f s x) (IntKind.i64.wrap ((i:Int)+1))))) (h2:∀ s,I s→step (mk s (xs.length:Int))=some (.inr (out s))) (s:S) (hs:I s):Zw step (mk s 0)=some (out (xs.foldl f s))∧I (xs.foldl f s):=by
 have key:∀ (ys:List α) (i:Nat) (s:S),I s→xs.drop i=ys→i≤xs.length→Zw step (mk s (i:Int))=some (out (ys.foldl f s))∧I (ys.foldl f s):=fun ys=>by
  induction ys with
  | nil =>
   intro i s hI h hi
   have:i=xs.length:=by
    have:=congrArg List.length h
    rw [List.length_drop,List.length_nil] at this
    omega
   subst this
   exact ⟨Yg (h2 s hI),hI⟩
  | cons x ys ih =>
   intro i s hI h hi
   have hx:xs[i]? = some x:=by
    have:=congrArg (fun l=>l[0]?) h
    simpa using this
   have hi':i < xs.length:=by
    rcases Nat.lt_or_ge i xs.length with h' | h'
    ·exact h'
    rw [List.getElem?_eq_none h'] at hx;cases hx
   obtain ⟨hI',hs⟩:=h1 s i x hI hi' hx (List.mem_of_getElem? hx)
   have hd:xs.drop (i+1)=ys:=by
    have:=congrArg List.tail h
    rwa [List.tail_drop,List.tail_cons] at this
   have e1:(i:Int)+1=((i+1:Nat):Int):=by omega
   rw [Uh (by omega) (by omega),e1] at hs
   rw [Yw hs]
   exact ih (i+1) (f s x) hI' hd (by omega)
 exact key xs 0 s hs rfl (Nat.zero_le _)
def thr (o:Zl):Int:=if o.Kind=0 then (if 1048576 < (if o.N < 0 then 0 else o.N) then 1048576 else (if o.N < 0 then 0 else o.N)) else if o.Kind=1∨o.Kind=2 then (o.L.length:Int) else if o.Kind=3 then 1 else 0
theorem Ygv (o:Zl):Zau o=some (thr o):=by
 unfold Zau thr
 by_cases h0:o.Kind=0
 ·simp [h0]
 by_cases h1:o.Kind=1
 ·simp [h1]
 by_cases h2:o.Kind=2
 ·simp [h2]
 by_cases h3:o.Kind=3
 ·simp [h3]
 have e0:(o.Kind == 0)=false:=by simp [h0]
 have e1:(o.Kind == 1)=false:=by simp [h1]
 have e2:(o.Kind == 2)=false:=by simp [h2]
 have e3:(o.Kind == 3)=false:=by simp [h3]
 have h12:¬ (o.Kind=1∨o.Kind=2):=by omega
 rw [e0,e1,e2,e3,if_neg h0,if_neg h12,if_neg h3]
 rfl
theorem Z0z {o:Zl} (h:o.L.length * 56≤140737488355328):0≤thr o∧thr o≤140737488355328:=by
 unfold thr
 repeat' split
 all_goals omega
def Zej (x:Int):Int:=if 1048576 < x then 1048576 else x
def stI (s:Int×Int) (o:Zl):Int×Int:=(if o.Kind=2 then s.1 else Zej (s.1+thr o),if o.Kind=1 then s.2 else Zej (s.2+thr o))
def Sm (s:Int×Int):Prop:=(0≤s.1∧s.1≤1048576)∧(0≤s.2∧s.2≤1048576)
theorem Zv9 {s:Int×Int} {o:Zl} (hs:Sm s) (h:o.L.length * 56≤140737488355328):Sm (stI s o):=by
 have:=Z0z h
 unfold Sm at hs ⊢
 unfold stI Zej
 refine ⟨?_,?_⟩
 ·simp only
  split
  ·omega
  split <;> omega
 simp only
 split
 ·omega
 split <;> omega
theorem Ydo {e:Ed} (h:BE e):Vn e=some (e.Ops.foldl stI (0,0))∧Sm (e.Ops.foldl stI (0,0)):=by
 obtain ⟨h1,h2⟩:=Zmz e.Ops (fun (s:Int×Int) i=>(s.1,s.2,i)) stI (fun s=>(s.1,s.2)) Sm (Gz e) h.o (fun s i x hs hi hx hm=>by
  have hb:=(h.l x hm).1
  have ht:=Z0z hb
  refine ⟨Zv9 hs hb,?_⟩
  unfold Sm at hs
  unfold Gz
  simp only
  rw [Gu hi,cond_true,Yt hx,Option.bind_some,Ygv]
  simp only [Option.bind_some]
  rw [Uh (x:=s.1+thr x) (by omega) (by omega),Uh (x:=s.2+thr x) (by omega) (by omega)]
  unfold stI Zej
  rw [Zpa]
  by_cases k2:x.Kind=2
  ·simp [k2]
  by_cases k1:x.Kind=1
  ·simp [k1]
  simp [k1,k2,Zpa]) (fun s _=>by unfold Gz;simp only;rw [Zcn];rfl) (0,0) (by unfold Sm;simp)
 refine ⟨?_,h2⟩
 unfold Vn
 rw [h1]
 rfl
def Zw7 (o:Zl):Int:=if o.Kind=3 then 1 else IntKind.i64.wrap (o.N+(o.L.length:Int))
def stR (s:Int×Int) (o:Zl):Int×Int:=(Zej (if o.Kind=2 then s.1 else IntKind.i64.wrap (s.1+Zw7 o)),Zej (if o.Kind=1 then s.2 else IntKind.i64.wrap (s.2+Zw7 o)))
theorem Z64 {e:Ed} (h:BE e):J5 e=some (e.Ops.foldl stR (0,0)):=by
 obtain ⟨h1,_⟩:=Zmz e.Ops (fun (s:Int×Int) i=>(s.1,s.2,i)) stR (fun s=>(s.1,s.2)) (fun _=>True) (J6 e) h.o (fun s i x hs hi hx hm=>by
  refine ⟨trivial,?_⟩
  have hc:∀ a b:Int,((cond (decide (1048576 < a)) (some 1048576) (some a)).bind fun (z10:Int)=>cond (decide (1048576 < b)) (some (z10,1048576)) (some (z10,b)))=some (Zej a,Zej b):=fun a b=>by
   unfold Zej
   by_cases q1:1048576 < a <;> by_cases q2:1048576 < b <;> simp [q1,q2]
  unfold J6
  simp only
  rw [Gu hi,cond_true,Yt hx,Option.bind_some]
  have e1:cond (x.Kind == 3) (some 1) (some (IntKind.i64.wrap (x.N+(x.L.length:Int))))=some (Zw7 x):=by
   unfold Zw7
   rw [Z2c]
   split <;> rfl
  rw [e1,Option.bind_some]
  have e2:cond (x.Kind != 2) (some (IntKind.i64.wrap (s.1+Zw7 x))) (some s.1)=some (if x.Kind=2 then s.1 else IntKind.i64.wrap (s.1+Zw7 x)):=by
   rw [Zpa];split <;> rfl
  have e3:cond (x.Kind != 1) (some (IntKind.i64.wrap (s.2+Zw7 x))) (some s.2)=some (if x.Kind=1 then s.2 else IntKind.i64.wrap (s.2+Zw7 x)):=by
   rw [Zpa];split <;> rfl
  rw [e2,Option.bind_some,e3,Option.bind_some,hc]
  rfl) (fun s _=>by unfold J6;simp only;rw [Zcn];rfl) (0,0) trivial
 unfold J5
 rw [h1]
 rfl
def Zpb (l:Int) (e:Ed):Bool:=if l=8 then e.Kind != 0 else if l=9 then e.Kind == 2 || (e.Kind == 1 && (e.Old.Kind == 1 && e.New.Kind == 1)) else false
def okO (l:Int) (o:Zl) (r:Bool):Bool :=
 if o.Kind=0 then (decide (1≤o.N) && decide (o.N≤1048576)) && (o.L.length == 0 && Zf9 o.E)
 else if o.Kind=1∨o.Kind=2 then o.N == 0 && (decide (0 < o.L.length) && ((o.L.all fun t=>rt t 63 && okk l t) && Zf9 o.E))
 else if o.Kind=3 then o.N == 0 && (o.L.length == 0 && (o.E.Kind != 0 && (Zpb l o.E && r)))
 else false
def Zpl (s:Int×Int):Bool:=decide (s.1 < 1048576) && decide (s.2 < 1048576)
theorem Ygi {l:Int} {o:Zl} {r:Bool} (h:okO l o r=true):o.N+(o.L.length:Int)=(if o.Kind=3 then 0 else thr o)∧0≤thr o:=by
 unfold okO at h
 unfold thr
 by_cases h0:o.Kind=0
 ·rw [if_pos h0] at h
  simp only [Bool.and_eq_true,decide_eq_true_eq,beq_iff_eq] at h
  simp only [h0,if_pos]
  refine ⟨?_,?_⟩
  ·rw [if_neg (by decide)]
   repeat' split
   all_goals omega
  repeat' split
  all_goals omega
 rw [if_neg h0] at h
 by_cases h12:o.Kind=1∨o.Kind=2
 ·rw [if_pos h12] at h
  simp only [Bool.and_eq_true,beq_iff_eq] at h
  rw [if_neg h0,if_pos h12,if_neg (by omega)]
  omega
 rw [if_neg h12] at h
 by_cases h3:o.Kind=3
 ·rw [if_pos h3] at h
  simp only [Bool.and_eq_true,beq_iff_eq] at h
  rw [if_neg h0,if_neg h12,if_pos h3,if_pos h3]
  omega
 rw [if_neg h3] at h
 cases h
theorem Yee {l:Int} {o:Zl} {r:Bool} {s:Int×Int} (h:okO l o r=true) (hs:Sm s) (hl:o.L.length * 56≤140737488355328):stR s o=stI s o:=by
 have ht:=Z0z hl
 have hk:=Ygi h
 have hi:Zw7 o=thr o:=by
  unfold Zw7
  by_cases h3:o.Kind=3
  ·rw [if_pos h3]
   unfold thr
   rw [if_neg (by omega),if_neg (by omega),if_pos h3]
  rw [if_neg h3] at hk ⊢
  rw [Uh (by omega) (by omega)]
  exact hk.1
 unfold Sm at hs
 unfold stR stI
 rw [hi,Uh (by omega) (by omega),Uh (by omega) (by omega)]
 have hc:∀ x:Int,x≤1048576→Zej x=x:=fun x hx=>by unfold Zej;rw [if_neg (by omega)]
 refine Prod.ext ?_ ?_
 ·simp only
  split
  ·exact hc _ hs.1.2
  rfl
 simp only
 split
 ·exact hc _ hs.2.2
 rfl
theorem Zmu {l:Int} (r:Zl→Bool):∀ (os:List Zl) (s:Int×Int),Sm s→(∀ o∈os,okO l o (r o)=true)→(∀ o∈os,o.L.length * 56≤140737488355328)→os.foldl stR s=os.foldl stI s∧Sm (os.foldl stI s)
 | [],s,hs,_,_=>⟨rfl,hs⟩
 | o::os,s,hs,h,hl=>by
  have h1:=Yee (h o (.head _)) hs (hl o (.head _))
  have:=Zmu r os (stI s o) (Zv9 hs (hl o (.head _))) (fun x hx=>h x (.tail _ hx)) (fun x hx=>hl x (.tail _ hx))
  rw [List.foldl_cons,List.foldl_cons,h1]
  exact this
theorem Z6t:∀ (os:List Zl) (s:Int×Int),Sm s→(∀ o∈os,o.L.length * 56≤140737488355328)→(s.1=1048576→(os.foldl stI s).1=1048576)∧(s.2=1048576→(os.foldl stI s).2=1048576)
 | [],s,_,_=>⟨id,id⟩
 | o::os,s,hs,hl=>by
  have ht:=Z0z (hl o (.head _))
  have:=Z6t os (stI s o) (Zv9 hs (hl o (.head _))) (fun x hx=>hl x (.tail _ hx))
  rw [List.foldl_cons]
  refine ⟨fun h=>this.1 ?_,fun h=>this.2 ?_⟩
  ·unfold stI Zej
   simp only
   repeat' split
   all_goals omega
  unfold stI Zej
  simp only
  repeat' split
  all_goals omega
def okP (p:Int) (x:Int×Bool):Bool := !(decide (x.1≤p) || decide (65534 < x.1)) && x.2
theorem Z6m {α:Type} (g:α→Int×Bool):∀ (xs:List α) (p:Int),chk (·.1) okP p (xs.map g)=chk (fun x=>(g x).1) (fun p x=>okP p (g x)) p xs
 | [],_=>rfl
 | x::xs,p=>by rw [List.map_cons,chk,chk,Z6m g xs]
def rE (e:Ed) (d:Nat):Bool :=
 if d=0 then false
 else if e.Kind=0 then Zf9 e
 else if e.Kind=1 then (Zj8 e && Zjq e) && ((rt e.Old 64 && e.Old.Kind != 10) && (rt e.New 64 && e.New.Kind != 10))
 else if e.Kind=2 then (Znq e && Zjq e) && (chk (·.At) okW (-1) e.Words && chk (·.1) okP (-1) (e.Kids.attach.map fun k=>(k.1.At,k.1.E.Kind != 0 && rE k.1.E (d - 1))))
 else if e.Kind=3 then (Znq e && Zj8 e) && ((decide (2≤e.List_) && decide (e.List_≤9)) && ((e.Ops.attach.map fun o=>okO e.List_ o.1 (rE o.1.E (d - 1))).all id && Zpl (e.Ops.foldl stR (0,0))))
 else false
termination_by SizeOf.sizeOf e
decreasing_by
 ·exact Qq k.2
 exact Kl o.2
def okK (d:Nat) (p:Int) (k:Zm):Bool:=okP p (k.At,k.E.Kind != 0 && rE k.E d)
theorem Ze4 (e:Ed) (d:Nat):rE e d=if d=0 then false
 else if e.Kind=0 then Zf9 e
 else if e.Kind=1 then (Zj8 e && Zjq e) && ((rt e.Old 64 && e.Old.Kind != 10) && (rt e.New 64 && e.New.Kind != 10))
 else if e.Kind=2 then (Znq e && Zjq e) && (chk (·.At) okW (-1) e.Words && chk (·.At) (okK (d - 1)) (-1) e.Kids)
 else if e.Kind=3 then (Znq e && Zj8 e) && ((decide (2≤e.List_) && decide (e.List_≤9)) && ((e.Ops.all fun o=>okO e.List_ o (rE o.E (d - 1))) && Zpl (e.Ops.foldl stR (0,0))))
 else false:=by
 rw [rE]
 have h1:(e.Kids.attach.map fun k=>(k.1.At,k.1.E.Kind != 0 && rE k.1.E (d - 1)))=e.Kids.map fun k=>(k.At,k.E.Kind != 0 && rE k.E (d - 1)):=List.attach_map_val (f:=fun k:Zm=>(k.At,k.E.Kind != 0 && rE k.E (d - 1)))
 have h2:(e.Ops.attach.map fun o=>okO e.List_ o.1 (rE o.1.E (d - 1)))=e.Ops.map fun o=>okO e.List_ o (rE o.E (d - 1)):=List.attach_map_val (f:=fun o:Zl=>okO e.List_ o (rE o.E (d - 1)))
 rw [h1,h2,Z6m,List.all_map]
 rfl
theorem Yd8 {e:Ed} (h:e.Kind=0) {d:Nat} (hd:0 < d):rE e d=Zf9 e:=by rw [Ze4,if_neg (by omega),if_pos h]
theorem Ydp {n:Nat}:decide (0 < (n:Int)) = !(n == 0):=by rw [Bool.eq_iff_iff,Bool.not_eq_true',decide_eq_true_eq,beq_eq_false_iff_ne];omega
theorem Yad {n:Nat}:decide (0 < n) = !(n == 0):=by rw [Bool.eq_iff_iff,Bool.not_eq_true',decide_eq_true_eq,beq_eq_false_iff_ne];omega
theorem Yia {l:Int} {L:List Tr} (h2:2≤l) (h9:l≤9):rt ⟨l,[],L⟩ 64=(decide (L.length < 1048576) && L.all fun t=>rt t 63 && okk l t):=by
 rw [Zp4]
 simp only
 rw [if_neg (by omega),if_neg (by omega)]
 by_cases h:L.length < 1048576
 ·rw [if_neg (by simp only [List.length_nil];omega),decide_eq_true h,Bool.true_and]
 rw [if_pos (by omega),decide_eq_false h,Bool.false_and]
def BO (o:Zl):Prop:=(o.L.length * 56≤140737488355328∧∀ t∈o.L,Bd t)∧BE o.E
theorem Yg8 {l:Int} {L:List Tr} (h:L.length * 56≤140737488355328∧∀ t∈L,Bd t):Bd ⟨l,[],L⟩ := .mk _ (by simp) (by simp only;omega) (fun w hw=>by simp at hw) h.2
theorem Yeg {α:Type} {l:List α} {i:Nat} {x:α} (hx:l[i]? = some x) (hl:(l.length:Int)≤140737488355328):Zen l (i:Int) (IntKind.i64.wrap ((i:Int)+1))=some [x]:=by
 have hi:i < l.length:=by
  rcases Nat.lt_or_ge i l.length with h' | h'
  ·exact h'
  rw [List.getElem?_eq_none h'] at hx;cases hx
 rw [Uh (by omega) (by omega)]
 unfold Zen
 rw [if_pos (by omega)]
 have e1:((i:Int)+1 - (i:Int)).toNat=1:=by omega
 rw [e1,Int.toNat_natCast,List.drop_eq_getElem_cons hi,List.take_succ_cons,List.take_zero]
 rw [List.getElem?_eq_getElem hi] at hx
 rw [Option.some.inj hx]
theorem Z6o:∀ (k:Nat),(∀ (e:Ed) (d:Nat),BE e→2 * SizeOf.sizeOf e < k→d≤64→(Yk k).1 e (d:Int)=some (rE e d)) ∧
  (∀ (l:Int) (o:Zl) (d:Nat),2≤l→l≤9→BO o→2 * SizeOf.sizeOf o.E+1 < k→d≤64→(Yk k).2 l o (d:Int)=some (okO l o (rE o.E d)))
 | 0=>⟨fun e d _ h=>by omega,fun l o d _ _ _ h=>by omega⟩
 | k+1=>by
  obtain ⟨i1,i2⟩:=Z6o k
  refine ⟨fun e d hb hk hd => ?_,fun l o d h2 h9 hb hk hd => ?_⟩
  ·show Uw (Yk k).1 (Yk k).2 e (d:Int)=_
   unfold Uw
   rw [Ze4,Ztk hb.old,Ztk hb.new,Ygx hb,Ygd,Z8y hb,Z64 hb]
   by_cases hd0:d=0
   ·subst hd0
    rw [if_pos rfl]
    rfl
   have ed:((d:Int) == 0)=false:=by rw [beq_eq_false_iff_ne];omega
   rw [if_neg hd0,ed,cond_false]
   obtain ⟨d',rfl⟩:∃ d',d=d'+1:=⟨d - 1,by omega⟩
   have ed':IntKind.i64.wrap (((d'+1:Nat):Int) - 1)=(d':Int):=by rw [Uh (by omega) (by omega)];omega
   by_cases hbad:e.Kind < 0∨3 < e.Kind
   ·have q:cond (decide (e.Kind < 0)) true (decide (3 < e.Kind))=true:=by
     rcases hbad with h | h
     ·rw [decide_eq_true h];rfl
     rw [decide_eq_true h];cases decide (e.Kind < 0) <;> rfl
    rw [q,cond_true,if_neg (by omega),if_neg (by omega),if_neg (by omega),if_neg (by omega)]
   have q:cond (decide (e.Kind < 0)) true (decide (3 < e.Kind))=false:=by
    rw [decide_eq_false (by omega),decide_eq_false (by omega)]
    rfl
   rw [q,cond_false]
   simp only [Option.bind_some]
   have hkids:Zw (Jn (Yk k).1 e ((d'+1:Nat):Int)) (-1,0)=some (if chk (·.At) (okK d') (-1) e.Kids=true then Sum.inr () else Sum.inl ()) :=
    Z2t e.Kids (·.At) (okK d') (Jn (Yk k).1 e ((d'+1:Nat):Int)) (.inl ()) (.inr ()) hb.k (fun p i x hi hx hm=>by
     unfold Jn
     simp only
     rw [Gu hi,cond_true,Yt hx,Option.bind_some,ed',i1 x.E d' (hb.ks x hm) (by have:=Qq hm;omega) (by omega)]
     simp only [Option.bind_some]
     unfold okK okP bne
     simp only
     generalize decide (x.At≤p)=q1
     generalize decide (65534 < x.At)=q2
     generalize (x.E.Kind == 0)=q3
     generalize rE x.E d'=q4
     cases q1 <;> cases q2 <;> cases q3 <;> cases q4 <;> rfl) (fun p=>by unfold Jn;simp only;rw [Zcn];rfl) (-1)
   have hnil:e.Ops=[]→Zw (Qm (Yk k).2 e ((d'+1:Nat):Int)) 0=some (Sum.inr ()):=fun h=>Yg (by
    unfold Qm
    rw [h]
    rfl)
   have wk_nil:Zj8 e=true→e.Words=[]∧e.Kids=[]:=fun h=>by
    unfold Zj8 at h
    rw [Bool.and_eq_true,beq_iff_eq,beq_iff_eq] at h
    exact ⟨List.eq_nil_of_length_eq_zero h.1,List.eq_nil_of_length_eq_zero h.2⟩
   have lo_nil:Zjq e=true→e.List_=0∧e.Ops=[]:=fun h=>by
    unfold Zjq at h
    rw [Bool.and_eq_true,beq_iff_eq,beq_iff_eq] at h
    exact ⟨h.1,List.eq_nil_of_length_eq_zero h.2⟩
   rw [Nat.add_sub_cancel]
   by_cases h0:e.Kind=0
   ·rw [if_pos h0]
    unfold Zf9 Znq
    rw [h0]
    cases hwk:Zj8 e with
    | false=>cases Zce e.Old <;> cases Zce e.New <;> cases Zjq e <;> rfl
    | true =>
     cases hlo:Zjq e with
     | false=>cases Zce e.Old <;> cases Zce e.New <;> rfl
     | true =>
      obtain ⟨w0,k0⟩:=wk_nil hwk
      obtain ⟨l0,o0⟩:=lo_nil hlo
      rw [hkids,hnil o0,w0,k0,o0]
      cases Zce e.Old <;> cases Zce e.New <;> rfl
   rw [if_neg h0]
   by_cases h1:e.Kind=1
   ·have r1:=Zm7 hb.old (d:=64) (by decide)
    have r2:=Zm7 hb.new (d:=64) (by decide)
    rw [show ((64:Nat):Int)=64 from rfl] at r1 r2
    rw [if_pos h1,h1,r1,r2]
    simp only [Option.bind_some]
    generalize Zj8 e=q1
    generalize Zjq e=q2
    generalize rt e.Old 64=q3
    generalize rt e.New 64=q4
    generalize (e.Old.Kind != 10)=q5
    generalize (e.New.Kind != 10)=q6
    cases q1 <;> cases q2 <;> cases q3 <;> cases q4 <;> cases q5 <;> cases q6 <;> rfl
   rw [if_neg h1]
   by_cases h2:e.Kind=2
   ·rw [if_pos h2,h2]
    unfold Znq
    cases hlo:Zjq e with
    | false=>cases Zce e.Old <;> cases Zce e.New <;> rfl
    | true =>
     obtain ⟨l0,o0⟩:=lo_nil hlo
     rw [hkids,hnil o0,o0]
     generalize chk (·.At) okW (-1) e.Words=q1
     generalize chk (·.At) (okK d') (-1) e.Kids=q2
     cases Zce e.Old <;> cases Zce e.New <;> cases q1 <;> cases q2 <;> rfl
   have h3:e.Kind=3:=by omega
   rw [if_neg h2,if_pos h3,h3]
   unfold Znq
   cases hwk:Zj8 e with
   | false=>cases Zce e.Old <;> cases Zce e.New <;> rfl
   | true =>
    obtain ⟨w0,k0⟩:=wk_nil hwk
    rw [hkids,w0,k0]
    by_cases hl:2≤e.List_∧e.List_≤9
    ·have hops:Zw (Qm (Yk k).2 e ((d'+1:Nat):Int)) 0=some (if (e.Ops.all fun o=>okO e.List_ o (rE o.E d'))=true then Sum.inr () else Sum.inl ()) :=
      Zl4 e.Ops _ (fun o=>okO e.List_ o (rE o.E d')) (Sum.inl ():Unit ⊕ Unit) (Sum.inr ()) hb.o (fun i x hi hx hm=>by
       unfold Qm
       rw [Gu hi,cond_true,Yt hx,Option.bind_some,ed',i2 e.List_ x d' hl.1 hl.2 ⟨hb.l x hm,hb.os x hm⟩ (by have:=Kl hm;omega) (by omega),Option.bind_some]
       cases okO e.List_ x (rE x.E d') <;> rfl) (by unfold Qm;rw [Zcn];rfl)
     rw [hops,decide_eq_true hl.1,decide_eq_true hl.2,decide_eq_false (p:=e.List_ < 2) (by omega),decide_eq_false (p:=9 < e.List_) (by omega)]
     unfold Zpl
     generalize (e.Ops.all fun o=>okO e.List_ o (rE o.E d'))=q1
     generalize decide ((e.Ops.foldl stR (0,0)).1 < 1048576)=q2
     generalize decide ((e.Ops.foldl stR (0,0)).2 < 1048576)=q3
     cases Zce e.Old <;> cases Zce e.New <;> cases q1 <;> cases q2 <;> cases q3 <;> rfl
    have q:cond (decide (e.List_ < 2)) true (decide (9 < e.List_))=true:=by
     by_cases h:e.List_ < 2
     ·rw [decide_eq_true h];rfl
     rw [decide_eq_true (p:=9 < e.List_) (by omega)];cases decide (e.List_ < 2) <;> rfl
    have q':(decide (2≤e.List_) && decide (e.List_≤9))=false:=by rw [Bool.and_eq_false_iff,decide_eq_false_iff_not,decide_eq_false_iff_not];omega
    rw [q,q']
    cases Zce e.Old <;> cases Zce e.New <;> rfl
  show Zbf (Yk k).1 (Yk k).2 l o (d:Int)=_
  have hlen:(o.L.length:Int)≤140737488355328:=by have:=hb.1.1;omega
  have hloop:Zw (Ux l o) 0=some (if (o.L.all fun t=>rt t 63 && okk l t)=true then Sum.inr () else Sum.inl ()) :=
   Zl4 o.L _ (fun t=>rt t 63 && okk l t) (Sum.inl ():Unit ⊕ Unit) (Sum.inr ()) hlen (fun i x hi hx hm=>by
    unfold Ux
    have hbx:Bd ⟨l,[],[x]⟩:=Yg8 ⟨by simp,fun t ht=>by rw [List.mem_singleton.1 ht];exact hb.1.2 x hm⟩
    have r1:=Zm7 hbx (d:=64) (by decide)
    rw [show ((64:Nat):Int)=64 from rfl,Yia h2 h9] at r1
    rw [Gu hi,cond_true,Yeg hx hlen,Option.bind_some,r1,Option.bind_some]
    simp only [List.all_cons,List.all_nil,Bool.and_true,List.length_singleton]
    cases rt x 63 && okk l x <;> rfl) (by unfold Ux;rw [Zcn];rfl)
  unfold Zbf okO
  rw [Ybj hb.2,i1 o.E d hb.2 (by omega) hd,hloop,Ydn,Ydp,Yad]
  simp only [Option.bind_some]
  by_cases h0:o.Kind=0
  ·rw [if_pos h0,h0]
   generalize decide (1≤o.N)=q1
   generalize decide (o.N≤1048576)=q2
   generalize (o.L.length == 0)=q3
   generalize Zf9 o.E=q4
   cases q1 <;> cases q2 <;> cases q3 <;> cases q4 <;> rfl
  rw [if_neg h0,beq_eq_false_iff_ne.2 h0,cond_false]
  by_cases h12:o.Kind=1∨o.Kind=2
  ·rw [if_pos h12,decide_eq_false (p:=o.Kind < 0) (by omega),decide_eq_false (p:=3 < o.Kind) (by omega),decide_eq_true (p:=o.Kind < 3) (by omega)]
   unfold bne
   generalize (o.N == 0)=q1
   generalize (o.L.length == 0)=q2
   generalize (o.L.all fun t=>rt t 63 && okk l t)=q3
   generalize Zf9 o.E=q4
   cases q1 <;> cases q2 <;> cases q3 <;> cases q4 <;> rfl
  rw [if_neg h12]
  by_cases h3:o.Kind=3
  ·rw [if_pos h3,h3]
   unfold bne Zpb
   by_cases k0:o.E.Kind=0
   ·rw [k0]
    generalize (o.N == 0)=q1
    generalize (o.L.length == 0)=q2
    cases q1 <;> cases q2 <;> rfl
   rw [beq_eq_false_iff_ne.2 k0]
   by_cases l8:l=8
   ·rw [if_pos l8,l8]
    unfold bne
    rw [beq_eq_false_iff_ne.2 k0]
    generalize (o.N == 0)=q1
    generalize (o.L.length == 0)=q2
    generalize rE o.E d=q3
    cases q1 <;> cases q2 <;> cases q3 <;> rfl
   rw [if_neg l8]
   by_cases l9:l=9
   ·rw [if_pos l9,l9]
    generalize (o.N == 0)=q1
    generalize (o.L.length == 0)=q2
    generalize rE o.E d=q3
    generalize (o.E.Kind == 2)=q4
    generalize (o.E.Kind == 1)=q5
    generalize (o.E.Old.Kind == 1)=q6
    generalize (o.E.New.Kind == 1)=q7
    cases q1 <;> cases q2 <;> cases q3 <;> cases q4 <;> cases q5 <;> cases q6 <;> cases q7 <;> rfl
   rw [if_neg l9,decide_eq_true (p:=l≤7) (by omega)]
   generalize (o.N == 0)=q1
   generalize (o.L.length == 0)=q2
   cases q1 <;> cases q2 <;> rfl
  rw [if_neg h3]
  have q:cond (cond (o.N != 0) true (decide (o.Kind < 0))) true (decide (3 < o.Kind))=true:=by
   by_cases h:o.Kind < 0
   ·rw [decide_eq_true h];cases o.N != 0 <;> rfl
   rw [decide_eq_true (p:=3 < o.Kind) (by omega)];cases cond (o.N != 0) true (decide (o.Kind < 0)) <;> rfl
  rw [q]
  rfl
theorem Ydg {e:Ed} (h:BE e) {d:Nat} (hd:d≤64):Zex e (d:Int)=some (rE e d):=Zd2 (2 * SizeOf.sizeOf e+1) fun k hk=>(Z6o k).1 e d h (by omega) hd
def Zjy (a b:Int):Int:=IntKind.i64.wrap (a+b)
def cn (e:Ed):Int:=e.Ops.attach.foldl (fun s o=>if o.1.Kind=3 then Zjy s (cn o.1.E) else s) (e.Kids.attach.foldl (fun s k=>Zjy s (cn k.1.E)) (Zjy (Zjy 1 e.Words.length) e.Ops.length))
termination_by SizeOf.sizeOf e
decreasing_by
 ·exact Kl o.2
 exact Qq k.2
theorem Yhb (e:Ed):cn e=e.Ops.foldl (fun s o=>if o.Kind=3 then Zjy s (cn o.E) else s) (e.Kids.foldl (fun s k=>Zjy s (cn k.E)) (Zjy (Zjy 1 e.Words.length) e.Ops.length)):=by
 rw [cn]
 have h1:∀ z:Int,e.Kids.attach.foldl (fun s k=>Zjy s (cn k.1.E)) z=e.Kids.foldl (fun s k=>Zjy s (cn k.E)) z:=fun z=>List.foldl_attach (f:=fun s (k:Zm)=>Zjy s (cn k.E))
 have h2:∀ z:Int,e.Ops.attach.foldl (fun s o=>if o.1.Kind=3 then Zjy s (cn o.1.E) else s) z=e.Ops.foldl (fun s o=>if o.Kind=3 then Zjy s (cn o.E) else s) z:=fun z=>List.foldl_attach (f:=fun s (o:Zl)=>if o.Kind=3 then Zjy s (cn o.E) else s)
 rw [h1,h2]
theorem Zr8:∀ (k:Nat) (e:Ed),BE e→SizeOf.sizeOf e < k→Jd k e=some (cn e)
 | 0,e,_,h=>by omega
 | k+1,e,hb,hk=>by
  show Uu (Jd k) e=_
  unfold Uu
  have h1:=(Zmz e.Kids (fun (s:Int) i=>(s,i)) (fun s k=>Zjy s (cn k.E)) (fun s=>s) (fun _=>True) (K0 (Jd k) e) hb.k (fun s i x _ hi hx hm=>by
   refine ⟨trivial,?_⟩
   unfold K0
   simp only
   rw [Gu hi,cond_true,Yt hx,Option.bind_some,Zr8 k x.E (hb.ks x hm) (by have:=Qq hm;omega)]
   rfl) (fun s _=>by unfold K0;simp only;rw [Zcn];rfl) (Zjy (Zjy 1 e.Words.length) e.Ops.length) trivial).1
  have h2:=fun z=>(Zmz e.Ops (fun (s:Int) i=>(s,i)) (fun s o=>if o.Kind=3 then Zjy s (cn o.E) else s) (fun s=>s) (fun _=>True) (K1 (Jd k) e) hb.o (fun s i x _ hi hx hm=>by
   refine ⟨trivial,?_⟩
   unfold K1
   simp only
   rw [Gu hi,cond_true,Yt hx,Option.bind_some,Option.bind_some,Zr8 k x.E (hb.os x hm) (by have:=Kl hm;omega),Z2c]
   by_cases h3:x.Kind=3
   ·rw [if_pos h3,if_pos h3];rfl
   rw [if_neg h3,if_neg h3];rfl) (fun s _=>by unfold K1;simp only;rw [Zcn];rfl) z trivial).1
  unfold Zjy at h1
  rw [h1,Option.bind_some,Yhb]
  unfold Zjy at h2 ⊢
  rw [h2]
  rfl
theorem Z8z {e:Ed} (h:BE e):Zev e=some (cn e):=Zd2 (SizeOf.sizeOf e+1) fun k hk=>Zr8 k e h (by omega)
def ce (e:Ed):Nat:=1+e.Words.length+e.Ops.length+(e.Kids.attach.map fun k=>ce k.1.E).sum+(e.Ops.attach.map fun o=>ce o.1.E).sum
termination_by SizeOf.sizeOf e
decreasing_by
 ·exact Qq k.2
 exact Kl o.2
theorem Zi8 (e:Ed):ce e=1+e.Words.length+e.Ops.length+(e.Kids.map fun k=>ce k.E).sum+(e.Ops.map fun o=>ce o.E).sum:=by
 rw [ce]
 have h1:(e.Kids.attach.map fun k=>ce k.1.E)=e.Kids.map fun k=>ce k.E:=List.attach_map_val (f:=fun k:Zm=>ce k.E)
 have h2:(e.Ops.attach.map fun o=>ce o.1.E)=e.Ops.map fun o=>ce o.E:=List.attach_map_val (f:=fun o:Zl=>ce o.E)
 rw [h1,h2]
theorem Zzd:∀ (k:Nat) (e:Ed) (d left:Int),BE e→SizeOf.sizeOf e < k→0≤d→d≤100→0≤left→left≤1000000→∃ r,Ys k e d left=some r∧-1≤r∧r≤1000000∧(0≤r→r+(ce e:Nat)≤left)
 | 0,e,_,_,_,h,_,_,_,_=>by omega
 | k+1,e,d,left,hb,hk,hd0,hd1,hl0,hl1=>by
  have hw:=hb.w
  have ho:=hb.o
  show ∃ r,Jg (Ys k) e d left=some r∧_
  unfold Jg
  rw [Uh (x:=left - 1) (by omega) (by omega),Uh (x:=left - 1 - (e.Words.length:Int)) (by omega) (by omega),Uh (by omega) (by omega),Zi8]
  cases hc:cond (d == 0) true (decide (left - 1 - (e.Words.length:Int) - (e.Ops.length:Int) < 0)) with
  | true=>exact ⟨-1,rfl,by omega,by omega,fun h=>by omega⟩
  | false =>
   rw [cond_false]
   have hd:¬ d=0∧0≤left - 1 - (e.Words.length:Int) - (e.Ops.length:Int):=by
    by_cases h:d=0
    ·simp [h] at hc
    have e:(d == 0)=false:=by simp [h]
    rw [e,cond_false,decide_eq_false_iff_not] at hc
    exact ⟨h,by omega⟩
   obtain ⟨r1,g1,g2,g3,g4⟩:=Z0t hb.old hd.2 (by omega)
   have hz:∃ z,cond (decide (0≤r1)) ((Qf e.New 80 r1).bind fun y4=>some y4) (some r1)=some z∧-1≤z∧z≤1000000∧(0≤z→z≤left - 1 - (e.Words.length:Int) - (e.Ops.length:Int)):=by
    by_cases h:0≤r1
    ·obtain ⟨r2,f1,f2,f3,f4⟩:=Z0t hb.new h g3
     refine ⟨r2,by rw [decide_eq_true h,f1];rfl,f2,f3,fun h2 => ?_⟩
     have:=f4 h2
     have:=g4 h
     omega
    exact ⟨r1,by rw [decide_eq_false h];rfl,g2,g3,fun h2=>absurd h2 h⟩
   obtain ⟨z,z1,z2,z3,z4⟩:=hz
   rw [g1,Option.bind_some,z1,Option.bind_some]
   obtain ⟨r,h1,h2⟩:=Zfv (step:=Qw (Ys k) e d)
    (fun s=>∃ j:Nat,s.2=j∧j≤e.Kids.length∧-1≤s.1∧s.1≤1000000∧(0≤s.1→s.1+((((e.Kids.take j).map fun k=>ce k.E)).sum:Nat)≤left - 1 - (e.Words.length:Int) - (e.Ops.length:Int)))
    (fun s=>e.Kids.length - s.2.toNat) (fun r=>-1≤r∧r≤1000000∧(0≤r→r+((e.Kids.map fun k=>ce k.E).sum:Nat)≤left - 1 - (e.Words.length:Int) - (e.Ops.length:Int))) (fun s hI=>by
     obtain ⟨l,i⟩:=s
     obtain ⟨j,rfl,hj,g1,g2,g3⟩:=hI
     have hkl:=hb.k
     simp only at g1 g2 g3 ⊢
     unfold Qw
     simp only
     by_cases hji:j < e.Kids.length
     ·rw [Gu hji,cond_true]
      by_cases hl:0≤l
      ·have e1:decide (0≤l)=true:=by simp [hl]
       have hx:e.Kids[j]? = some e.Kids[j]:=List.getElem?_eq_getElem hji
       have hm:e.Kids[j]∈e.Kids:=List.getElem_mem hji
       obtain ⟨r,q1,q2,q3,q4⟩:=Zzd k e.Kids[j].E (d - 1) l (hb.ks _ hm) (by have:=Qq hm;omega) (by omega) (by omega) hl g2
       rw [e1,cond_true,Yt hx,Option.bind_some,Uh (x:=d - 1) (by omega) (by omega),q1,Option.bind_some,Uh (by omega) (by omega)]
       refine .inl ⟨_,rfl,⟨j+1,by simp only;omega,by omega,q2,q3,fun hr => ?_⟩,by simp only;omega⟩
       have:=q4 hr
       have:=g3 hl
       rw [List.take_add_one,hx]
       simp only [Option.toList_some,List.map_append,List.map_cons,List.map_nil,List.sum_append,List.sum_cons,List.sum_nil]
       simp only at hr
       omega
      have e1:decide (0≤l)=false:=by simp [hl]
      rw [e1,cond_false]
      exact .inr ⟨l,rfl,g1,g2,fun h=>absurd h hl⟩
     have hj':j=e.Kids.length:=by omega
     subst hj'
     rw [Zcn,cond_false]
     rw [List.take_length] at g3
     exact .inr ⟨l,rfl,g1,g2,g3⟩) (z,0) ⟨0,rfl,Nat.zero_le _,z2,z3,fun h=>by simpa using z4 h⟩
   rw [h1,Option.bind_some]
   have inner:∀ (j:Nat) (hj:j < e.Ops.length) (l:Int),0≤l→l≤1000000→∃ r,Zw (Vi e (l,(j:Int))) (l,0)=some r∧-1≤r∧r≤1000000∧r≤l:=fun j hj l hl hl'=>by
    have hx:e.Ops[j]? = some e.Ops[j]:=List.getElem?_eq_getElem hj
    have hm:e.Ops[j]∈e.Ops:=List.getElem_mem hj
    have hL:=(hb.l _ hm).1
    obtain ⟨r,h1,h2⟩:=Zfv (step:=Vi e (l,(j:Int)))
     (fun s=>∃ i:Nat,s.2=i∧i≤e.Ops[j].L.length∧-1≤s.1∧s.1≤1000000∧s.1≤l)
     (fun s=>e.Ops[j].L.length - s.2.toNat) (fun r=>-1≤r∧r≤1000000∧r≤l) (fun s hI=>by
      obtain ⟨l',i'⟩:=s
      obtain ⟨i,rfl,hi,g1,g2,g3⟩:=hI
      simp only at g1 g2 g3 ⊢
      unfold Vi
      simp only
      rw [Yt hx,Option.bind_some,Option.bind_some]
      by_cases hii:i < e.Ops[j].L.length
      ·rw [Gu hii,cond_true]
       by_cases hl2:0≤l'
       ·have e1:decide (0≤l')=true:=by simp [hl2]
        have hx2:e.Ops[j].L[i]? = some e.Ops[j].L[i]:=List.getElem?_eq_getElem hii
        have hm2:e.Ops[j].L[i]∈e.Ops[j].L:=List.getElem_mem hii
        obtain ⟨r,q1,q2,q3,q4⟩:=Z0t ((hb.l _ hm).2 _ hm2) hl2 g2
        rw [e1,cond_true,Yt hx2,Option.bind_some,q1,Option.bind_some,Uh (by omega) (by omega)]
        refine .inl ⟨_,rfl,⟨i+1,by simp only;omega,by omega,q2,q3,?_⟩,by simp only;omega⟩
        simp only
        by_cases hr:0≤r
        ·have:=q4 hr;omega
        omega
       have e1:decide (0≤l')=false:=by simp [hl2]
       rw [e1,cond_false]
       exact .inr ⟨l',rfl,g1,g2,g3⟩
      have hi':i=e.Ops[j].L.length:=by omega
      subst hi'
      rw [Zcn,cond_false]
      exact .inr ⟨l',rfl,g1,g2,g3⟩) (l,0) ⟨0,rfl,Nat.zero_le _,by simp only;omega,by simp only;omega,by simp only;omega⟩
    exact ⟨r,h1,h2⟩
   obtain ⟨r',h1',h2'⟩:=Zfv (step:=Qx (Ys k) e d)
    (fun s=>∃ j:Nat,s.2=j∧j≤e.Ops.length∧-1≤s.1∧s.1≤1000000∧(0≤s.1→0≤r∧s.1+((((e.Ops.take j).map fun o=>ce o.E)).sum:Nat)≤r))
    (fun s=>e.Ops.length - s.2.toNat) (fun q=>-1≤q∧q≤1000000∧(0≤q→0≤r∧q+((e.Ops.map fun o=>ce o.E).sum:Nat)≤r)) (fun s hI=>by
     obtain ⟨l,i⟩:=s
     obtain ⟨j,rfl,hj,g1,g2,g3⟩:=hI
     simp only at g1 g2 g3 ⊢
     unfold Qx
     simp only
     by_cases hji:j < e.Ops.length
     ·rw [Gu hji,cond_true]
      by_cases hl:0≤l
      ·have e1:decide (0≤l)=true:=by simp [hl]
       have hx:e.Ops[j]? = some e.Ops[j]:=List.getElem?_eq_getElem hji
       have hm:e.Ops[j]∈e.Ops:=List.getElem_mem hji
       obtain ⟨t,t1,t2,t3,t4⟩:=inner j hji l hl g2
       rw [e1,cond_true,t1,Option.bind_some,Uh (x:=(j:Int)+1) (by omega) (by omega)]
       by_cases ht:0≤t
       ·obtain ⟨r,q1,q2,q3,q4⟩:=Zzd k e.Ops[j].E (d - 1) t (hb.os _ hm) (by have:=Kl hm;omega) (by omega) (by omega) ht t3
        rw [decide_eq_true ht,cond_true,Yt hx,Option.bind_some,Uh (x:=d - 1) (by omega) (by omega),q1]
        refine .inl ⟨_,rfl,⟨j+1,by simp only;omega,by omega,q2,q3,fun hr => ?_⟩,by simp only;omega⟩
        have:=q4 hr
        have:=g3 hl
        rw [List.take_add_one,hx]
        simp only [Option.toList_some,List.map_append,List.map_cons,List.map_nil,List.sum_append,List.sum_cons,List.sum_nil]
        simp only at hr
        omega
       rw [decide_eq_false ht]
       exact .inl ⟨_,rfl,⟨j+1,by simp only;omega,by omega,t2,t3,fun hr=>absurd hr ht⟩,by simp only;omega⟩
      have e1:decide (0≤l)=false:=by simp [hl]
      rw [e1,cond_false]
      exact .inr ⟨l,rfl,g1,g2,fun h=>absurd h hl⟩
     have hj':j=e.Ops.length:=by omega
     subst hj'
     rw [Zcn,cond_false]
     rw [List.take_length] at g3
     exact .inr ⟨l,rfl,g1,g2,g3⟩) (r,0) ⟨0,rfl,Nat.zero_le _,h2.1,h2.2.1,fun h=>⟨h,by simp⟩⟩
   rw [h1']
   refine ⟨r',rfl,h2'.1,h2'.2.1,fun hr => ?_⟩
   have p1:=h2'.2.2 hr
   have p2:=h2.2.2 p1.1
   omega
theorem Zrn:∀ (k k':Nat) (e:Ed) (d left:Int),SizeOf.sizeOf e < k→SizeOf.sizeOf e < k'→Ys k e d left=Ys k' e d left
 | 0,_,e,_,_,h,_=>by omega
 | k+1,0,e,_,_,_,h=>by omega
 | k+1,k'+1,e,d,left,h,h'=>by
  show Jg (Ys k) e d left=Jg (Ys k') e d left
  have e1:Qw (Ys k) e d=Qw (Ys k') e d:=funext fun s=>by
   unfold Qw
   cases hx:Xj e.Kids s.2 with
   | none=>rfl
   | some x=>simp only [Option.bind_some,Zrn k k' x.E (IntKind.i64.wrap (d - 1)) s.1 (by have:=Qq (Zj5 hx);omega) (by have:=Qq (Zj5 hx);omega)]
  have e2:Qx (Ys k) e d=Qx (Ys k') e d:=funext fun s=>by
   unfold Qx
   cases hx:Xj e.Ops s.2 with
   | none=>rfl
   | some x=>
    have:∀ z,Ys k x.E (IntKind.i64.wrap (d - 1)) z=Ys k' x.E (IntKind.i64.wrap (d - 1)) z:=fun z=>Zrn k k' x.E _ z (by have:=Kl (Zj5 hx);omega) (by have:=Kl (Zj5 hx);omega)
    simp only [Option.bind_some,this]
  unfold Jg
  rw [e1,e2]
theorem Yhc {e:Ed} (h:BE e):∃ b,Zas e=some b∧(b=true→ce e≤3000):=by
 obtain ⟨r,h1,h2,h3,h4⟩:=Zzd (SizeOf.sizeOf e+1) e 80 3000 h (by omega) (by omega) (by omega) (by omega) (by omega)
 have hr:Zfj e 80 3000=some r:=Zd2 (SizeOf.sizeOf e+1) fun k hk=>by rw [Zrn k (SizeOf.sizeOf e+1) e 80 3000 (by omega) (by omega)];exact h1
 unfold Zas
 rw [hr,Option.bind_some]
 refine ⟨_,rfl,fun hb => ?_⟩
 have:=h4 (by simpa using hb)
 have:0≤r:=by simpa using hb
 omega
theorem Yd7 {e:Ed} (hb:BE e) {d:Nat} (h:rE e d=true):e.Ops.foldl stR (0,0)=e.Ops.foldl stI (0,0):=by
 have h0:Sm (0,0):=by unfold Sm;simp
 have hnil:Zjq e=true→e.Ops.foldl stR (0,0)=e.Ops.foldl stI (0,0):=fun h=>by
  unfold Zjq at h
  rw [Bool.and_eq_true,beq_iff_eq,beq_iff_eq] at h
  rw [List.eq_nil_of_length_eq_zero h.2]
  rfl
 rw [Ze4] at h
 split at h
 ·cases h
 split at h
 ·unfold Zf9 at h
  simp only [Bool.and_eq_true] at h
  exact hnil h.2.2.2
 split at h
 ·simp only [Bool.and_eq_true] at h
  exact hnil h.1.2
 split at h
 ·simp only [Bool.and_eq_true] at h
  exact hnil h.1.2
 split at h
 ·simp only [Bool.and_eq_true] at h
  exact (Zmu (fun o=>rE o.E (d - 1)) e.Ops (0,0) h0 (List.all_eq_true.1 h.2.2.1) (fun o ho=>(hb.l o ho).1)).1
 cases h
theorem Ztf {α:Type} {pl:α→Int} {ok:Int→α→Bool} {Q:α→Prop} (h:∀ p x,ok p x=true→Q x):∀ (xs:List α) (p:Int),chk pl ok p xs=true→∀ x∈xs,Q x
 | [],_,_=>fun x hx=>by cases hx
 | y::xs,p,hc=>fun x hx=>by
  rw [chk,Bool.and_eq_true] at hc
  rcases List.mem_cons.1 hx with rfl | hx
  ·exact h p _ hc.1
  exact Ztf h xs (pl y) hc.2 x hx
abbrev EO:=Zl
def Qt:Tr:=⟨0,[],[]⟩
structure NW where
 out:List EO
 gone:List Tr
 come:List Tr
def eS0:Ed:=⟨0,⟨0,[],[]⟩,⟨0,[],[]⟩,[],[],0,[]⟩
def Zao (l:Int) (e:Ed):Bool:=e.Kind == 0 || (l == 9 && (e.Kind == 2 && (e.Words.length == 0 && e.Kids.length == 0)))
def Gf (g:List Tr):List EO:=if g=[] then [] else [⟨1,0,g,eS0⟩]
def Zad (g:List Tr):List EO:=if g=[] then [] else [⟨2,0,g,eS0⟩]
def NW.flush (s:NW):List EO:=s.out++(Gf s.gone++Zad s.come)
def Q5 (out:List EO) (n:Int):List EO:=match out.getLast? with
 | some o=>if o.Kind=0 then out.dropLast++[⟨0,o.N+n,o.L,o.E⟩] else out++[⟨0,n,[],eS0⟩]
 | none=>[⟨0,n,[],eS0⟩]
def Vq (l:Int) (s:NW) (p:EO×Ed):NW :=
 if p.1.Kind=1 then ⟨s.out,s.gone++p.1.L.map nrm,s.come⟩
 else if p.1.Kind=2 then ⟨s.out,s.gone,s.come++p.1.L.map nrm⟩
 else if p.1.Kind=0 then ⟨Q5 s.flush p.1.N,[],[]⟩
 else if Zao l p.2=true then ⟨Q5 s.flush 1,[],[]⟩ else ⟨s.flush++[⟨3,0,[],p.2⟩],[],[]⟩
def s0N:NW:=⟨[],[],[]⟩
def Zbi (l:Int) (ps:List (EO×Ed)):List EO:=(ps.foldl (Vq l) s0N).flush
def nE (e:Ed):Ed :=
 if e.Kind=1 then ⟨1,nrm e.Old,nrm e.New,[],[],0,[]⟩
 else if e.Kind=2 then ⟨2,Qt,Qt,e.Words,e.Kids.attach.map fun k=>⟨k.1.At,nE k.1.E⟩,0,[]⟩
 else if e.Kind=3 then ⟨3,Qt,Qt,[],[],e.List_,Zbi e.List_ (e.Ops.attach.map fun o=>(o.1,nE o.1.E))⟩
 else eS0
termination_by SizeOf.sizeOf e
decreasing_by
 ·exact Qq k.2
 exact Kl o.2
def Xm (l:List EO):List (EO×Ed):=l.map fun o=>(o,nE o.E)
theorem Up (e:Ed):nE e=if e.Kind=1 then ⟨1,nrm e.Old,nrm e.New,[],[],0,[]⟩
 else if e.Kind=2 then ⟨2,Qt,Qt,e.Words,e.Kids.map fun k=>⟨k.At,nE k.E⟩,0,[]⟩
 else if e.Kind=3 then ⟨3,Qt,Qt,[],[],e.List_,Zbi e.List_ (Xm e.Ops)⟩
 else eS0:=by
 have h1:(e.Kids.attach.map fun k=>(⟨k.1.At,nE k.1.E⟩:Zm))=e.Kids.map fun k=>⟨k.At,nE k.E⟩:=List.attach_map_val (f:=fun k:Zm=>(⟨k.At,nE k.E⟩:Zm))
 have h2:(e.Ops.attach.map fun o=>((o.1,nE o.1.E):EO×Ed))=Xm e.Ops:=List.attach_map_val (f:=fun o:EO=>((o,nE o.E):EO×Ed))
 rw [nE,h1,h2]
theorem Ko (o':List EO) (k n:Int) (L:List Tr) (E:Ed):Q5 (o'++[⟨0,k,L,E⟩]) n=o'++[⟨0,k+n,L,E⟩]:=by
 unfold Q5
 simp
theorem G4 {out:List EO} {n:Int} (h:∀ o,out.getLast? = some o→o.Kind≠0):Q5 out n=out++[⟨0,n,[],eS0⟩]:=by
 unfold Q5
 cases hl:out.getLast? with
 | none=>rw [List.getLast?_eq_none_iff.1 hl];rfl
 | some o=>simp only [if_neg (h o hl)]
theorem Z2d:Gf []=[]:=rfl
theorem Zuz:Zad []=[]:=rfl
theorem Ze9 {g:List Tr} (h:g≠[]):Gf g=[⟨1,0,g,eS0⟩]:=if_neg h
theorem Zfd {g:List Tr} (h:g≠[]):Zad g=[⟨2,0,g,eS0⟩]:=if_neg h
theorem Z90 {a b:List Tr} {o:EO} (h:(Gf a++Zad b).getLast? = some o):o.Kind=1∨o.Kind=2:=by
 by_cases hb:b=[]
 ·subst hb
  by_cases ha:a=[]
  ·subst ha;simp [Gf,Zad] at h
  rw [Ze9 ha,Zuz] at h;simp at h;subst h;exact .inl rfl
 rw [Zfd hb] at h
 simp at h
 subst h
 exact .inr rfl
theorem Ydh {a b:List Tr} (h:Gf a++Zad b=[]):a=[]∧b=[]:=by
 rw [List.append_eq_nil_iff] at h
 refine ⟨?_,?_⟩
 ·by_cases ha:a=[]
  ·exact ha
  rw [Ze9 ha] at h;simp at h
 by_cases hb:b=[]
 ·exact hb
 rw [Zfd hb] at h;simp at h
theorem Zn2 {s:NW} {o:EO} (h:s.flush.getLast? = some o):(o.Kind=1∨o.Kind=2)∨(s.gone=[]∧s.come=[]∧s.out.getLast? = some o):=by
 unfold NW.flush at h
 by_cases hD:Gf s.gone++Zad s.come=[]
 ·obtain ⟨h1,h2⟩:=Ydh hD
  rw [hD,List.append_nil] at h
  exact .inr ⟨h1,h2,h⟩
 rw [List.getLast?_append] at h
 cases hq:(Gf s.gone++Zad s.come).getLast? with
 | none=>exact absurd (List.getLast?_eq_none_iff.1 hq) hD
 | some x =>
  rw [hq] at h
  injection h with h
  subst h
  exact .inl (Z90 hq)
structure NInv (l:Int) (s:NW):Prop where
 again:(Xm s.out).foldl (Vq l) s0N=⟨s.out,[],[]⟩
 last:∀ o' o,s.out=o'++[o]→o.Kind=0→o.L=[]∧o.E=eS0∧(∀ x,o'.getLast? = some x→x.Kind≠0)∧((Xm o').foldl (Vq l) s0N).flush=o'
 gone:s.gone.map nrm=s.gone
 come:s.come.map nrm=s.come
theorem Zbt (a b:List EO):Xm (a++b)=Xm a++Xm b:=by simp [Xm]
theorem Zp6 {l:Int} {s:NW} {n:Int} {L:List Tr} {E r:Ed}:Vq l s (⟨0,n,L,E⟩,r)=⟨Q5 s.flush n,[],[]⟩:=by
 unfold Vq
 simp
theorem Zmv {l:Int} {s:NW} (h:NInv l s):(Xm s.flush).foldl (Vq l) s0N=s:=by
 unfold NW.flush
 rw [Zbt,List.foldl_append,h.again,Zbt,List.foldl_append]
 have e1:(Xm (Gf s.gone)).foldl (Vq l) ⟨s.out,[],[]⟩=⟨s.out,s.gone,[]⟩:=by
  by_cases hg:s.gone=[]
  ·rw [hg];rfl
  rw [Ze9 hg];simp [Xm,Vq,h.gone]
 have e2:(Xm (Zad s.come)).foldl (Vq l) ⟨s.out,s.gone,[]⟩=⟨s.out,s.gone,s.come⟩:=by
  by_cases hg:s.come=[]
  ·rw [hg];rfl
  rw [Zfd hg];simp [Xm,Vq,h.come]
 rw [e1,e2]
theorem Zv8 {α:Type} {a b:List α} {x y:α} (h:a++[x]=b++[y]):a=b∧x=y:=by
 have:=List.append_inj' h rfl
 exact ⟨this.1,by simpa using this.2⟩
theorem NInv.keep {l:Int} {s:NW} (h:NInv l s) (n:Int):NInv l ⟨Q5 s.flush n,[],[]⟩:=by
 by_cases hk:∃ o,s.flush.getLast? = some o∧o.Kind=0
 ·obtain ⟨o,ho,hk0⟩:=hk
  rcases Zn2 ho with h12 | ⟨g1,g2,g3⟩
  ·omega
  have hfl:s.flush=s.out:=by unfold NW.flush;rw [g1,g2];simp [Gf,Zad]
  obtain ⟨o',ho'⟩:=List.getLast?_eq_some_iff.1 g3
  obtain ⟨a1,a2,a3,a4⟩:=h.last o' o ho' hk0
  obtain ⟨k,N,L,E⟩:=o
  simp only at hk0 a1 a2
  subst hk0 a1 a2
  rw [hfl,ho',Ko]
  have key:∀ N':Int,(Xm (o'++[⟨0,N',[],eS0⟩])).foldl (Vq l) s0N=⟨o'++[⟨0,N',[],eS0⟩],[],[]⟩:=fun N'=>by
   rw [Zbt,List.foldl_append]
   show Vq l _ (⟨0,N',[],eS0⟩,nE eS0)=_
   rw [Zp6,a4,G4 a3]
  refine ⟨key _,fun o1 o2 he hk2 => ?_,rfl,rfl⟩
  obtain ⟨e1,e2⟩:=Zv8 he
  subst e1 e2
  exact ⟨rfl,rfl,a3,a4⟩
 have hk':∀ o,s.flush.getLast? = some o→o.Kind≠0:=fun o ho h0=>hk ⟨o,ho,h0⟩
 rw [G4 hk']
 refine ⟨?_,fun o1 o2 he hk2 => ?_,rfl,rfl⟩
 ·rw [Zbt,List.foldl_append,Zmv h]
  show Vq l _ (⟨0,n,[],eS0⟩,nE eS0)=_
  rw [Zp6,G4 hk']
 simp only at he
 obtain ⟨e1,e2⟩:=Zv8 he
 subst e1 e2
 exact ⟨rfl,rfl,hk',by rw [Zmv h]⟩
theorem NInv.step {l:Int} {s:NW} (h:NInv l s) {p:EO×Ed} (hp:nE p.2=p.2):NInv l (Vq l s p):=by
 unfold Vq
 split
 ·exact ⟨h.again,h.last,by simp only [List.map_append,h.gone,List.map_map];congr 1;exact List.map_congr_left fun x _=>Zkv x,h.come⟩
 split
 ·exact ⟨h.again,h.last,h.gone,by simp only [List.map_append,h.come,List.map_map];congr 1;exact List.map_congr_left fun x _=>Zkv x⟩
 split
 ·exact h.keep _
 split
 ·exact h.keep _
 rename_i h1 h2 h0 hi
 refine ⟨?_,fun o1 o2 he hk2 => ?_,rfl,rfl⟩
 ·simp only
  rw [Zbt,List.foldl_append,Zmv h]
  show Vq l s (⟨3,0,[],p.2⟩,nE p.2)=_
  rw [hp]
  unfold Vq
  simp only [show ¬ (3:Int)=1 from by decide,show ¬ (3:Int)=2 from by decide,show ¬ (3:Int)=0 from by decide,if_false]
  rw [if_neg hi]
 simp only at he
 obtain ⟨_,e2⟩:=Zv8 he
 subst e2
 simp at hk2
theorem Zxz {l:Int}:∀ (ps:List (EO×Ed)) (s:NW),NInv l s→(∀ p∈ps,nE p.2=p.2)→NInv l (ps.foldl (Vq l) s)
 | [],_,h,_=>h
 | p::ps,s,h,hp=>Zxz ps _ (h.step (hp p (by simp))) fun q hq=>hp q (by simp [hq])
theorem Z40 {l:Int} {ps:List (EO×Ed)} (hp:∀ p∈ps,nE p.2=p.2):Zbi l (Xm (Zbi l ps))=Zbi l ps:=by
 have h:=Zxz ps s0N (l:=l) ⟨rfl,fun o' o he=>by simp [s0N] at he,rfl,rfl⟩ hp
 unfold Zbi
 rw [Zmv h]
theorem Zzw:∀ (n:Nat) (e:Ed),SizeOf.sizeOf e < n→nE (nE e)=nE e
 | 0,_,h=>by omega
 | n+1,e,h=>by
  rw [Up e]
  by_cases h1:e.Kind=1
  ·rw [if_pos h1,Up]
   simp [Zkv]
  rw [if_neg h1]
  by_cases h2:e.Kind=2
  ·rw [if_pos h2,Up]
   simp only [show ¬ (2:Int)=1 from by decide,if_false,if_true,List.map_map]
   congr 1
   refine List.map_congr_left fun k hk => ?_
   simp only [Function.comp]
   rw [Zzw n k.E (by have:=Qq hk;omega)]
  rw [if_neg h2]
  by_cases h3:e.Kind=3
  ·rw [if_pos h3,Up]
   simp only [show ¬ (3:Int)=1 from by decide,show ¬ (3:Int)=2 from by decide,if_false,if_true]
   rw [Z40 fun p hp => ?_]
   obtain ⟨o,ho,rfl⟩:=List.mem_map.1 hp
   exact Zzw n o.E (by have:=Kl ho;omega)
  rw [if_neg h3,Up]
  simp [eS0]
theorem Yan (e:Ed):nE (nE e)=nE e:=Zzw _ e (Nat.lt_succ_self _)
theorem Zpm {α β:Type} (xs:List α) (f:α→β) (step:Int×List β→Option ((Int×List β) ⊕ List β)) (acc:List β) (hl:(xs.length:Int)≤140737488355328)
  (h1:∀ (i:Nat) (x:α) (out:List β),i < xs.length→xs[i]? = some x→x∈xs→out.length=acc.length+i→step ((i:Int),out)=some (.inl (IntKind.i64.wrap ((i:Int)+1),out++[f x])))
  (h2:∀ out,step ((xs.length:Int),out)=some (.inr out)):Zw step (0,acc)=some (acc++xs.map f):=by
 have key:∀ m i,i+m=xs.length→Zw step ((i:Int),acc++(xs.take i).map f)=some (acc++xs.map f):=fun m=>by
  induction m with
  | zero =>
   intro i hi
   have hi':i=xs.length:=by omega
   subst hi'
   rw [List.take_length]
   exact Yg (h2 _)
  | succ m ih =>
   intro i hi
   have hx:xs[i]? = some xs[i]:=List.getElem?_eq_getElem (by omega)
   have h:=h1 i _ (acc++(xs.take i).map f) (by omega) hx (List.mem_of_getElem? hx) (by rw [List.length_append,List.length_map,List.length_take];omega)
   rw [Uh (by omega) (by omega)] at h
   rw [Yw h]
   have e:acc++(xs.take i).map f++[f xs[i]]=acc++(xs.take (i+1)).map f:=by
    rw [List.take_add_one,hx,List.map_append,List.append_assoc]
    rfl
   rw [e]
   exact ih (i+1) (by omega)
 have:=key xs.length 0 (by omega)
 simpa using this
theorem Zj4 {α:Type} (xs:List α) (x:α):Xj (xs++[x]) (xs.length:Int)=some x:=Yt (by simp)
def Zpj (k:Int):List EO:=if 0 < k then [⟨0,k,[],eS0⟩] else []
abbrev Wr:=Zv
theorem Ygc {w:Wr} (ho:w.out.length≤500000000):Xr w=some ⟨w.out++Zpj w.kept++Gf w.gone++Zad w.come,0,[],[]⟩:=by
 unfold Xr
 have h1:(cond (decide (0 < w.kept)) ((Gc 240 w.out ([⟨0,0,[],eS0⟩]:List EO)).bind fun l2=>(Xj l2 (w.out.length:Int)).bind fun x3=>some (w.out++[(⟨0,w.kept,[],eS0⟩:EO)])) (some w.out))=some (w.out++Zpj w.kept):=by
  unfold Zpj
  by_cases h:0 < w.kept
  ·rw [decide_eq_true h,cond_true,Ga (by simp only [List.length_singleton];omega) (by simp only [List.length_singleton];omega),Option.bind_some,Zj4,Option.bind_some,if_pos h]
  rw [decide_eq_false h,cond_false,if_neg h,List.append_nil]
 have h2:∀ z1:List EO,z1.length≤w.out.length+1→(cond (decide (0 < (w.gone.length:Int))) ((Gc 240 z1 ([⟨0,0,[],eS0⟩]:List EO)).bind fun l9=>(Xj l9 (z1.length:Int)).bind fun x10=>some ((z1++[(⟨1,0,w.gone,eS0⟩:EO)]),w.gone)) (some (z1,w.gone)))=some (z1++Gf w.gone,w.gone):=fun z1 hz=>by
  by_cases h:w.gone=[]
  ·rw [h];simp [Gf]
  have:decide (0 < (w.gone.length:Int))=true:=by rw [decide_eq_true_eq];have:=List.length_pos_iff.2 h;omega
  rw [this,cond_true,Ga (by simp only [List.length_singleton];omega) (by simp only [List.length_singleton];omega),Option.bind_some,Zj4,Option.bind_some,Ze9 h]
 have h3:∀ z1:List EO,z1.length≤w.out.length+2→(cond (decide (0 < (w.come.length:Int))) ((Gc 240 z1 ([⟨0,0,[],eS0⟩]:List EO)).bind fun l16=>(Xj l16 (z1.length:Int)).bind fun x17=>some ((z1++[(⟨2,0,w.come,eS0⟩:EO)]),w.come)) (some (z1,w.come)))=some (z1++Zad w.come,w.come):=fun z1 hz=>by
  by_cases h:w.come=[]
  ·rw [h];simp [Zad]
  have:decide (0 < (w.come.length:Int))=true:=by rw [decide_eq_true_eq];have:=List.length_pos_iff.2 h;omega
  rw [this,cond_true,Ga (by simp only [List.length_singleton];omega) (by simp only [List.length_singleton];omega),Option.bind_some,Zj4,Option.bind_some,Zfd h]
 have l1:(w.out++Zpj w.kept).length≤w.out.length+1:=by
  unfold Zpj;split <;> simp
 have l2:(w.out++Zpj w.kept++Gf w.gone).length≤w.out.length+2:=by
  have:(Gf w.gone).length≤1:=by unfold Gf;split <;> simp
  rw [List.length_append];omega
 refine Option.bind_eq_some_iff.2 ⟨_,h1,?_⟩
 refine Option.bind_eq_some_iff.2 ⟨_,h2 _ l1,?_⟩
 refine Option.bind_eq_some_iff.2 ⟨_,h3 _ l2,rfl⟩
def G5 (o:EO):Nat:=if o.Kind=0 then o.N.toNat else if o.Kind=3 then 1 else o.L.length
def opk (o:EO):Prop:=(o.Kind=0∧1≤o.N)∨(o.Kind=1∧o.L≠[])∨(o.Kind=2∧o.L≠[])∨o.Kind=3
structure WS (w:Wr) (s:NW) (i S:Nat):Prop where
 nn:0≤w.kept
 zero:w.kept=0→s=⟨w.out,w.gone,w.come⟩
 pos:0 < w.kept→w.gone=[]∧w.come=[]∧s=⟨w.out++[⟨0,w.kept,[],eS0⟩],[],[]⟩
 last:(w.kept=0→w.gone=[]∧w.come=[])→∀ o,w.out.getLast? = some o→o.Kind≠0
 len:w.out.length≤3 * i
 sum:w.gone.length+w.come.length+w.kept.toNat≤S
theorem WS.flush {w:Wr} {s:NW} {i S:Nat} (h:WS w s i S):w.out++Zpj w.kept++Gf w.gone++Zad w.come=s.flush:=by
 by_cases hk:w.kept=0
 ·rw [h.zero hk]
  unfold NW.flush Zpj
  rw [if_neg (by omega),List.append_nil,List.append_assoc]
 have hp:0 < w.kept:=by have:=h.nn;omega
 obtain ⟨h1,h2,h3⟩:=h.pos hp
 rw [h3,h1,h2]
 unfold NW.flush Zpj
 rw [if_pos hp]
 simp [Gf,Zad]
theorem WS.nk {w:Wr} {s:NW} {i S:Nat} (h:WS w s i S) (hk:w.kept=0):∀ o,s.flush.getLast? = some o→o.Kind≠0:=fun o ho=>by
 rcases Zn2 ho with h12 | ⟨g1,g2,g3⟩
 ·omega
 have:=h.zero hk
 rw [this] at g1 g2 g3
 exact h.last (fun _=>⟨g1,g2⟩) o g3
theorem WS.lay {w:Wr} {s:NW} {i S:Nat} (h:WS w s i S) (hi:i≤1048576):Xr w=some ⟨s.flush,0,[],[]⟩:=by
 rw [Ygc (by have:=h.len;omega),h.flush]
theorem WS.flen {w:Wr} {s:NW} {i S:Nat} (h:WS w s i S):s.flush.length≤3 * i+2:=by
 by_cases hk:w.kept=0
 ·rw [h.zero hk]
  have:=h.len
  have d1:(Gf w.gone).length≤1:=by unfold Gf;split <;> simp
  have d2:(Zad w.come).length≤1:=by unfold Zad;split <;> simp
  unfold NW.flush
  simp only [List.length_append]
  omega
 have hp:0 < w.kept:=by have:=h.nn;omega
 obtain ⟨_,_,h3⟩:=h.pos hp
 rw [h3]
 have:=h.len
 unfold NW.flush
 simp [Gf,Zad]
 omega
theorem Zjx (w:Wr):(⟨w.out,w.kept,w.gone,w.come⟩:Wr)=w:=rfl
theorem Z60 {w:Wr} {s:NW} {i S:Nat} (h:WS w s i S) (hi:i≤1048576) (hS:S≤1073741824) {n:Int} (h1:1≤n) (hn:n≤1073741824):∃ w',J8 w n=some w'∧WS w' ⟨Q5 s.flush n,[],[]⟩ (i+1) (S+n.toNat):=by
 unfold J8
 by_cases hk:w.kept=0
 ·have e:(w.kept == 0)=true:=by rw [hk];rfl
  have hw:IntKind.i64.wrap (0+n)=n:=by rw [Uh (by omega) (by omega)];omega
  rw [e,cond_true,Zjx,h.lay hi]
  simp only [Option.bind_some,hw]
  refine ⟨_,rfl,by simp only;omega,fun h0=>by simp only at h0;omega,fun _=>⟨rfl,rfl,?_⟩,fun _=>h.nk hk,by simp only;have:=h.flen;omega,by simp⟩
  rw [G4 (h.nk hk)]
 have hp:0 < w.kept:=by have:=h.nn;omega
 have e:(w.kept == 0)=false:=by rw [beq_eq_false_iff_ne];exact hk
 obtain ⟨g1,g2,g3⟩:=h.pos hp
 have hs:=h.sum
 have hw:IntKind.i64.wrap (w.kept+n)=w.kept+n:=by rw [Uh (by omega) (by omega)]
 rw [e,cond_false]
 simp only [Option.bind_some,hw]
 refine ⟨_,rfl,by simp only;omega,fun h0=>by simp only at h0;omega,fun _=>⟨g1,g2,?_⟩,fun _=>h.last (fun h0=>by omega),by simp only;have:=h.len;omega,by simp only;omega⟩
 have hf:s.flush=w.out++[⟨0,w.kept,[],eS0⟩]:=by rw [g3];unfold NW.flush;simp [Gf,Zad]
 rw [hf,Ko]
theorem Ydm {l:Int} {e:Ed} (hb:BE e):Zel l e=some (Zao l e):=by
 unfold Zel Zao
 have hw:=hb.w
 have hk:=hb.k
 have e1:(IntKind.i64.wrap ((e.Words.length:Int)+(e.Kids.length:Int)) == 0)=(e.Words.length == 0 && e.Kids.length == 0):=by
  rw [Uh (by omega) (by omega),Bool.eq_iff_iff,Bool.and_eq_true,beq_iff_eq,beq_iff_eq,beq_iff_eq]
  omega
 rw [e1]
 cases e.Kind == 0 <;> cases l == 9 <;> cases e.Kind == 2 <;> cases (e.Words.length == 0 && e.Kids.length == 0) <;> rfl
theorem Z4b {w:Wr} {s:NW} {i S:Nat} (h:WS w s i S) (hi:i≤1048576) (hS:S≤1073741824) {l:Int} {e:Ed} (hb:BE e) :
  ∃ w',J7 w l e=some w'∧WS w' (if Zao l e=true then ⟨Q5 s.flush 1,[],[]⟩ else ⟨s.flush++[⟨3,0,[],e⟩],[],[]⟩) (i+1) (S+1):=by
 unfold J7
 rw [Ydm hb,Option.bind_some]
 cases hid:Zao l e with
 | true =>
  obtain ⟨w',h1,h2⟩:=Z60 h hi hS (n:=1) (by omega) (by omega)
  rw [cond_true,Zjx,h1]
  exact ⟨w',rfl,h2⟩
 | false =>
  have hf:=h.flen
  rw [cond_false,Zjx,h.lay hi,Option.bind_some,Ga (by simp only [List.length_singleton];omega) (by simp only [List.length_singleton];omega),Option.bind_some,Zj4,Option.bind_some]
  refine ⟨_,rfl,Int.le_refl _,fun _=>rfl,fun h0=>by simp at h0,fun _ o ho => ?_,by simp;omega,by simp⟩
  simp only [List.getLast?_concat,Option.some.injEq] at ho
  subst ho
  simp
theorem Zve (step:Int×List Tr→Option ((Int×List Tr) ⊕ List Tr)) (L acc:List Tr) (hL:∀ t∈L,Bd t) (hl:(acc.length+L.length) * 56≤140737488355328)
  (h1:∀ (i:Nat) (x:Tr) (out:List Tr),i < L.length→L[i]? = some x→step ((i:Int),out)=((Zaz x).bind fun y6=>(Gc 56 out ([(⟨0,[],[]⟩:Tr)])).bind fun l7=>(Xj l7 (out.length:Int)).bind fun x8=>some (.inl ((IntKind.i64.wrap ((i:Int)+1)),(out++[y6])))))
  (h2:∀ out,step ((L.length:Int),out)=some (.inr out)):Zw step (0,acc)=some (acc++L.map nrm) :=
 Zpm L nrm step acc (by omega) (fun i x out hi hx hm ho=>by
  rw [h1 i x out hi hx,Ztl (hL x hm),Option.bind_some,Ga (by simp only [List.length_singleton];omega) (by simp only [List.length_singleton];omega),Option.bind_some,Zj4,Option.bind_some]) h2
theorem Zzt {α β:Type} {f:α→β} {l:List α} (h:l≠[]):l.map f≠[]:=by simpa using h
theorem Ycr {w:Wr} {s:NW} {i S:Nat} (h:WS w s i S) (hi:i≤1048576) {L:List Tr} (hS:S+L.length≤1073741824) (hne:L≠[]) (hL:∀ t∈L,Bd t) :
  ∃ w',Js w L=some w'∧WS w' ⟨s.out,s.gone++L.map nrm,s.come⟩ (i+1) (S+L.length):=by
 have hs:=h.sum
 have hloop:∀ acc:List Tr,acc.length≤S→Zw (Qr L) (0,acc)=some (acc++L.map nrm):=fun acc ha =>
  Zve _ L acc hL (by omega) (fun i x out hi hx=>by unfold Qr;rw [Gu hi,cond_true,Yt hx,Option.bind_some]) (fun out=>by unfold Qr;rw [Zcn,cond_false])
 unfold Js
 by_cases hk:w.kept=0
 ·rw [decide_eq_false (by omega),cond_false,Option.bind_some]
  simp only
  rw [hloop w.gone (by omega),Option.bind_some]
  refine ⟨_,rfl,by simp only;omega,fun _ => ?_,fun h0=>by simp only at h0;omega,fun hg => ?_,by simp only;have:=h.len;omega,by simp only [List.length_append,List.length_map];omega⟩
  ·rw [h.zero hk]
  have:=(hg hk).1
  simp only at this
  exact absurd (List.append_eq_nil_iff.1 this).2 (Zzt hne)
 have hp:0 < w.kept:=by have:=h.nn;omega
 obtain ⟨g1,g2,g3⟩:=h.pos hp
 have hf:s.flush=s.out:=by rw [g3];unfold NW.flush;simp [Gf,Zad]
 rw [decide_eq_true hp,cond_true,Zjx,h.lay hi]
 simp only [Option.bind_some]
 rw [hloop [] (by simp),Option.bind_some]
 refine ⟨_,rfl,Int.le_refl _,fun _ => ?_,fun h0=>by simp at h0,fun hg => ?_,by simp only;have:=h.flen;omega,by simp⟩
 ·rw [hf,g3]
 have:=(hg rfl).1
 simp only at this
 exact absurd (List.append_eq_nil_iff.1 this).2 (Zzt hne)
theorem Ycs {w:Wr} {s:NW} {i S:Nat} (h:WS w s i S) (hi:i≤1048576) {L:List Tr} (hS:S+L.length≤1073741824) (hne:L≠[]) (hL:∀ t∈L,Bd t) :
  ∃ w',Jt w L=some w'∧WS w' ⟨s.out,s.gone,s.come++L.map nrm⟩ (i+1) (S+L.length):=by
 have hs:=h.sum
 have hloop:∀ acc:List Tr,acc.length≤S→Zw (Qs L) (0,acc)=some (acc++L.map nrm):=fun acc ha =>
  Zve _ L acc hL (by omega) (fun i x out hi hx=>by unfold Qs;rw [Gu hi,cond_true,Yt hx,Option.bind_some]) (fun out=>by unfold Qs;rw [Zcn,cond_false])
 unfold Jt
 by_cases hk:w.kept=0
 ·rw [decide_eq_false (by omega),cond_false,Option.bind_some]
  simp only
  rw [hloop w.come (by omega),Option.bind_some]
  refine ⟨_,rfl,by simp only;omega,fun _ => ?_,fun h0=>by simp only at h0;omega,fun hg => ?_,by simp only;have:=h.len;omega,by simp only [List.length_append,List.length_map];omega⟩
  ·rw [h.zero hk]
  have:=(hg hk).2
  simp only at this
  exact absurd (List.append_eq_nil_iff.1 this).2 (Zzt hne)
 have hp:0 < w.kept:=by have:=h.nn;omega
 obtain ⟨g1,g2,g3⟩:=h.pos hp
 have hf:s.flush=s.out:=by rw [g3];unfold NW.flush;simp [Gf,Zad]
 rw [decide_eq_true hp,cond_true,Zjx,h.lay hi]
 simp only [Option.bind_some]
 rw [hloop [] (by simp),Option.bind_some]
 refine ⟨_,rfl,Int.le_refl _,fun _ => ?_,fun h0=>by simp at h0,fun hg => ?_,by simp only;have:=h.flen;omega,by simp⟩
 ·rw [hf,g3]
 have:=(hg rfl).2
 simp only at this
 exact absurd (List.append_eq_nil_iff.1 this).2 (Zzt hne)
def J3 (l:List EO):Nat:=(l.map G5).sum
theorem Ya1 {rE':Ed→Option Ed} {l:Int} {os:List EO} (hlen:os.length≤1048576) (hsum:J3 os≤1073741824) (hok:∀ o∈os,opk o) (hL:∀ o∈os,∀ t∈o.L,Bd t)
  (hE:∀ o∈os,o.Kind=3→rE' o.E=some (nE o.E)∧BE (nE o.E)) :
  ∃ w',Zw (V3 rE' l os) (0,0,[],[],[])=some (w'.kept,w'.out,w'.gone,w'.come)∧WS w' ((Xm os).foldl (Vq l) s0N) os.length (J3 os):=by
 have key:∀ (ys:List EO) (i:Nat) (w:Wr) (s:NW) (S:Nat),os.drop i=ys→i≤os.length→S+J3 ys≤1073741824→WS w s i S →
   ∃ w',Zw (V3 rE' l os) ((i:Int),w.kept,w.out,w.gone,w.come)=some (w'.kept,w'.out,w'.gone,w'.come)∧WS w' ((Xm ys).foldl (Vq l) s) os.length (S+J3 ys):=fun ys=>by
  induction ys with
  | nil =>
   intro i w s S hd hi hS hw
   have hil:i=os.length:=by
    have:=List.drop_eq_nil_iff.1 hd
    omega
   subst hil
   exact ⟨w,Yg (by unfold V3;simp only;rw [Zcn,cond_false]),hw⟩
  | cons x ys ih =>
   intro i w s S hd hi hS hw
   have hil:i < os.length:=by
    rcases Nat.lt_or_ge i os.length with h | h
    ·exact h
    rw [List.drop_eq_nil_of_le h] at hd;cases hd
   have hx:os[i]? = some x:=by
    rw [List.drop_eq_getElem_cons hil] at hd
    injection hd with h1 _
    rw [List.getElem?_eq_getElem hil,h1]
   have hd':os.drop (i+1)=ys:=by
    rw [List.drop_eq_getElem_cons hil] at hd
    injection hd
   have hm:=List.mem_of_getElem? hx
   have hsx:J3 (x::ys)=G5 x+J3 ys:=by unfold J3;simp
   rw [hsx] at hS ⊢
   have main:∃ w',(V3 rE' l os) ((i:Int),w.kept,w.out,w.gone,w.come)=some (.inl (((i+1:Nat):Int),w'.kept,w'.out,w'.gone,w'.come))∧WS w' (Vq l s (x,nE x.E)) (i+1) (S+G5 x):=by
    unfold V3
    simp only
    rw [Gu hil,cond_true,Yt hx,Option.bind_some,Uh (by omega) (by omega)]
    rcases hok x hm with ⟨k,hn⟩ | ⟨k,hn⟩ | ⟨k,hn⟩ | k
    ·have e0:(x.Kind == 0)=true:=by rw [k];rfl
     have ht:G5 x=x.N.toNat:=by unfold G5;rw [if_pos k]
     have hst:Vq l s (x,nE x.E)=⟨Q5 s.flush x.N,[],[]⟩:=by
      unfold Vq
      simp only [k,show ¬ (0:Int)=1 from by decide,show ¬ (0:Int)=2 from by decide,if_false,if_true]
     rw [ht] at hS
     obtain ⟨w',h1,h2⟩:=Z60 hw (by omega) (by omega) hn (by omega)
     rw [e0,cond_true,Zjx,h1,ht,hst]
     exact ⟨w',rfl,h2⟩
    ·have e0:(x.Kind == 0)=false:=by rw [k];rfl
     have e1:(x.Kind == 1)=true:=by rw [k];rfl
     have ht:G5 x=x.L.length:=by unfold G5;rw [if_neg (by omega),if_neg (by omega)]
     have hst:Vq l s (x,nE x.E)=⟨s.out,s.gone++x.L.map nrm,s.come⟩:=by
      unfold Vq
      simp only [k,if_true]
     rw [ht] at hS
     obtain ⟨w',h1,h2⟩:=Ycr hw (by omega) (by omega) hn (hL x hm)
     rw [e0,e1,cond_false,cond_true,Zjx,h1,ht,hst]
     exact ⟨w',rfl,h2⟩
    ·have e0:(x.Kind == 0)=false:=by rw [k];rfl
     have e1:(x.Kind == 1)=false:=by rw [k];rfl
     have e2:(x.Kind == 2)=true:=by rw [k];rfl
     have ht:G5 x=x.L.length:=by unfold G5;rw [if_neg (by omega),if_neg (by omega)]
     have hst:Vq l s (x,nE x.E)=⟨s.out,s.gone,s.come++x.L.map nrm⟩:=by
      unfold Vq
      simp only [k,show ¬ (2:Int)=1 from by decide,if_false,if_true]
     rw [ht] at hS
     obtain ⟨w',h1,h2⟩:=Ycs hw (by omega) (by omega) hn (hL x hm)
     rw [e0,e1,e2,cond_false,cond_false,cond_true,Zjx,h1,ht,hst]
     exact ⟨w',rfl,h2⟩
    have e0:(x.Kind == 0)=false:=by rw [k];rfl
    have e1:(x.Kind == 1)=false:=by rw [k];rfl
    have e2:(x.Kind == 2)=false:=by rw [k];rfl
    have e3:(x.Kind == 3)=true:=by rw [k];rfl
    have ht:G5 x=1:=by unfold G5;rw [if_neg (by omega),if_pos k]
    have hst:Vq l s (x,nE x.E)=if Zao l (nE x.E)=true then ⟨Q5 s.flush 1,[],[]⟩ else ⟨s.flush++[⟨3,0,[],nE x.E⟩],[],[]⟩:=by
     unfold Vq
     simp only [k,show ¬ (3:Int)=1 from by decide,show ¬ (3:Int)=2 from by decide,show ¬ (3:Int)=0 from by decide,if_false]
    obtain ⟨r1,r2⟩:=hE x hm k
    rw [ht] at hS
    obtain ⟨w',h1,h2⟩:=Z4b hw (by omega) (by omega) (l:=l) r2
    rw [e0,e1,e2,e3,cond_false,cond_false,cond_false,cond_true,r1,Option.bind_some,Zjx,h1,ht,hst]
    exact ⟨w',rfl,h2⟩
   obtain ⟨w1,h1,h2⟩:=main
   rw [Yw h1]
   obtain ⟨w',h3,h4⟩:=ih (i+1) w1 _ (S+G5 x) hd' (by omega) (by omega) h2
   exact ⟨w',h3,by rw [← Nat.add_assoc];exact h4⟩
 have:=key os 0 ⟨[],0,[],[]⟩ s0N 0 (by simp) (by omega) (by omega) ⟨Int.le_refl _,fun _=>rfl,fun h=>by simp at h,fun _ o ho=>by simp at ho,by simp,by simp⟩
 simpa using this
theorem Ydx {rE':Ed→Option Ed} {rO':Int→List EO→Option (List EO)} {l:Int} {os:List EO} (hlen:os.length≤1048576) (hsum:J3 os≤1073741824) (hok:∀ o∈os,opk o) (hL:∀ o∈os,∀ t∈o.L,Bd t)
  (hE:∀ o∈os,o.Kind=3→rE' o.E=some (nE o.E)∧BE (nE o.E)):Zdp rE' rO' l os=some (Zbi l (Xm os)):=by
 obtain ⟨w',h1,h2⟩:=Ya1 (l:=l) hlen hsum hok hL hE
 unfold Zdp
 rw [h1,Option.bind_some]
 simp only
 rw [Zjx,h2.lay hlen]
 rfl
theorem Z4c (e:Ed):(⟨e.Kind,⟨e.Old.Kind,e.Old.Words,e.Old.Kids⟩,⟨e.New.Kind,e.New.Words,e.New.Kids⟩,e.Words,e.Kids,e.List_,e.Ops⟩:Ed)=e:=by
 obtain ⟨k,⟨a,b,c⟩,⟨d,f,g⟩,w,ks,li,os⟩:=e
 rfl
theorem Z8w (out:List EO) (n:Int):(Q5 out n).length≤out.length+1:=by
 unfold Q5
 split
 ·split <;> simp
 simp
inductive GN:Ed→Prop
 | mk (e:Ed) (hw:e.Words.length≤1048576) (hk:e.Kids.length≤1048576) (ho:e.Ops.length≤1048576) (hs:J3 e.Ops≤1073741824) (hp:∀ o∈e.Ops,opk o) (ik:∀ k∈e.Kids,GN k.E) (io:∀ o∈e.Ops,GN o.E):GN e
theorem GN.w {e:Ed} (h:GN e):e.Words.length≤1048576:=by cases h;assumption
theorem GN.k {e:Ed} (h:GN e):e.Kids.length≤1048576:=by cases h;assumption
end Go.Proofs.Ytibgpnmmgffgeaa
