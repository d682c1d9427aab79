/- Plain facts on this seat's mirrors (part JP5); each theorem bears its own conditions. -/
import Derived.Test.YtmlcnhambfkjaaaGreatJP3
namespace Go.Proofs.YtmlcnhambfkjaaaGreat
open Go.RowKit
set_option linter.unusedVariables false
set_option linter.unusedSimpArgs false
theorem Zqb {α β:Type} {pl:β→Nat} {f:β→Option α} {g:Nat→α} {Q:α→Prop} (hg:∀ j,Q (g j)):∀ (n i:Nat) (ws:List β) (out:List α),(∀ w∈ws,∀ u,f w=some u→Q u)→rfG pl f g n i ws=some out→out.length=n∧∀ x∈out,Q x
 | 0,i,ws,out,_,h=>by
  have:rfG pl f g 0 i ws=some []:=by cases ws <;> rfl
  rw [this] at h
  injection h with h
  subst h
  exact ⟨rfl,fun x hx=>by cases hx⟩
 | n+1,i,[],out,hf,h=>by
  rw [rfG] at h
  cases hr:rfG pl f g n (i+1) [] with
  | none=>rw [hr] at h;cases h
  | some l =>
   rw [hr] at h
   injection h with h
   subst h
   obtain ⟨h1,h2⟩:=Zqb hg n (i+1) [] l hf hr
   refine ⟨by rw [List.length_cons,h1],fun x hx => ?_⟩
   rcases List.mem_cons.1 hx with rfl | hx
   ·exact hg i
   exact h2 x hx
 | n+1,i,w::ws,out,hf,h=>by
  rw [rfG] at h
  by_cases hi:pl w=i
  ·rw [if_pos hi] at h
   cases hw:f w with
   | none=>rw [hw] at h;cases h
   | some u =>
    rw [hw,Option.bind_some] at h
    cases hr:rfG pl f g n (i+1) ws with
    | none=>rw [hr] at h;cases h
    | some l =>
     rw [hr] at h
     injection h with h
     subst h
     obtain ⟨h1,h2⟩:=Zqb hg n (i+1) ws l (fun x hx=>hf x (.tail _ hx)) hr
     refine ⟨by rw [List.length_cons,h1],fun x hx => ?_⟩
     rcases List.mem_cons.1 hx with rfl | hx
     ·exact hf w (.head _) _ hw
     exact h2 x hx
  rw [if_neg hi] at h
  cases hr:rfG pl f g n (i+1) (w::ws) with
  | none=>rw [hr] at h;cases h
  | some l =>
   rw [hr] at h
   injection h with h
   subst h
   obtain ⟨h1,h2⟩:=Zqb hg n (i+1) (w::ws) l hf hr
   refine ⟨by rw [List.length_cons,h1],fun x hx => ?_⟩
   rcases List.mem_cons.1 hx with rfl | hx
   ·exact hg i
   exact h2 x hx
theorem Yet {α:Type} (At:α→Int) (l:List α) (n:Nat) (h2:∀ x∈l,0≤At x∧At x≤65534) (hs:l.Pairwise fun a b=>(At a).toNat < (At b).toNat) (hl:l.length≤1048576) (hn:n≤5000000) :
  ∃ m:Nat,((cond (decide (0 < (l.length:Int))) ((Xj l (IntKind.i64.wrap ((l.length:Int) - 1))).bind fun x=>some (cond (decide (0 < (l.length:Int))) (decide ((n:Int)≤At x)) false)) (some false)).bind fun (z:Bool)=>cond z ((Xj l (IntKind.i64.wrap ((l.length:Int) - 1))).bind fun x=>some (IntKind.i64.wrap (At x+1))) (some (n:Int)))=some (m:Int)∧n≤m∧m≤5065536∧∀ x∈l,(At x).toNat < m:=by
 rcases List.eq_nil_or_concat l with rfl | ⟨l',x,rfl⟩
 ·exact ⟨n,rfl,Nat.le_refl _,by omega,fun x hx=>by cases hx⟩
 rw [List.concat_eq_append] at *
 rw [List.length_append,List.length_singleton] at hl ⊢
 have hx:x∈l'++[x]:=by simp
 have hg:Xj (l'++[x]) (IntKind.i64.wrap (((l'.length+1:Nat):Int) - 1))=some x:=by
  rw [Yz (by omega) (by omega),show (((l'.length+1:Nat):Int) - 1)=((l'.length:Nat):Int) by omega]
  exact Yk (by rw [List.getElem?_append_right (Nat.le_refl _),Nat.sub_self];rfl)
 have hd:decide (0 < ((l'.length+1:Nat):Int))=true:=by rw [decide_eq_true_eq];omega
 have hA:=h2 x hx
 have hm:∀ y∈l'++[x],(At y).toNat≤(At x).toNat:=fun y hy=>by
  rcases List.mem_append.1 hy with hy | hy
  ·exact Nat.le_of_lt ((List.pairwise_append.1 hs).2.2 y hy x (by simp))
  rw [List.mem_singleton] at hy;subst hy;exact Nat.le_refl _
 rw [hd,cond_true,hg,Option.bind_some,Option.bind_some,Option.bind_some,cond_true]
 by_cases hle:(n:Int)≤At x
 ·rw [show decide ((n:Int)≤At x)=true from decide_eq_true hle,cond_true,Yz (by omega) (by omega)]
  exact ⟨(At x).toNat+1,by congr 1;omega,by omega,by omega,fun y hy=>by have:=hm y hy;omega⟩
 rw [show decide ((n:Int)≤At x)=false from decide_eq_false hle,cond_false]
 exact ⟨n,rfl,Nat.le_refl _,by omega,fun y hy=>by have:=hm y hy;omega⟩
theorem Zqd {t:Tr} (i:Nat):Zat t i=some (Xk 0 t.Words i):=by
 unfold Zat Xk
 by_cases h:i < t.Words.length
 ·rw [Vz h,cond_true,Yk (List.getElem?_eq_getElem h),List.getElem?_eq_getElem h];rfl
 rw [show decide ((i:Int) < ((t.Words.length:Nat):Int))=false from by rw [decide_eq_false_iff_not];omega,cond_false,List.getElem?_eq_none (by omega)];rfl
theorem Zvk {t:Tr} (i:Nat):Zbk t i=some (Xk n0T t.Kids i):=by
 unfold Zbk Xk
 by_cases h:i < t.Kids.length
 ·rw [Vz h,cond_true,Yk (List.getElem?_eq_getElem h),List.getElem?_eq_getElem h];rfl
 rw [show decide ((i:Int) < ((t.Kids.length:Nat):Int))=false from by rw [decide_eq_false_iff_not];omega,cond_false,List.getElem?_eq_none (by omega)];rfl
theorem Zym {x:Int} (h:0≤x) (i:Nat):(x == (i:Int))=decide (x.toNat=i):=by
 by_cases hi:x.toNat=i
 ·rw [decide_eq_true hi,beq_iff_eq];omega
 rw [decide_eq_false hi,beq_eq_false_iff_ne];omega
theorem Zvg {e:Ed} {t:Tr} (hb:BE e) (hg:GN e) (hw2:∀ w∈e.Words,0≤w.At∧w.At≤65534) (hwi:∀ w∈e.Words,wi w.Old w.Mask=true) (ht:Bd t):∀ (m i:Nat) (ws:List Zy) (a n:Nat) (out:List Int),n=i+m→n≤5065536→e.Words.drop a=ws→a≤e.Words.length→out.length=i →
  Zv (Y8 e t (n:Int)) ((a:Int),(i:Int),out)=some (match rfG (fun w:Zy=>w.At.toNat) (fun w=>if cW (Xk 0 t.Words w.At.toNat) w=true then some (Zhn (Xk 0 t.Words w.At.toNat) w) else none) (Xk 0 t.Words) m i ws with | none => .inl () | some l => .inr (out++l))
 | 0,i,ws,a,n,out,hn,hn2,hd,ha,ho=>by
  refine Z4 ?_
  unfold Y8
  simp only
  rw [show decide ((i:Int) < (n:Int))=false from by rw [decide_eq_false_iff_not];omega,cond_false]
  cases ws <;> simp [rfG]
 | m+1,i,[],a,n,out,hn,hn2,hd,ha,ho=>by
  obtain rfl:=drop_nil hd ha
  have hstep:Y8 e t (n:Int) ((e.Words.length:Int),(i:Int),out)=some (.inl ((e.Words.length:Int),((i+1:Nat):Int),out++[Xk 0 t.Words i])):=by
   unfold Y8
   simp only
   rw [show decide ((i:Int) < (n:Int))=true from by rw [decide_eq_true_eq];omega,cond_true,Zqd,Option.bind_some,Zdd,cond_false,Option.bind_some,cond_false,Option.bind_some]
   simp only
   rw [J5 (by simp only [List.length_singleton];omega) (by simp only [List.length_singleton];omega),Option.bind_some,Yz (by omega) (by omega)]
   rfl
  rw [Yd hstep,Zvg hb hg hw2 hwi ht m (i+1) [] _ n _ (by omega) hn2 hd ha (by rw [List.length_append,ho];rfl)]
  rw [rfG]
  cases rfG (fun w:Zy=>w.At.toNat) (fun w=>if cW (Xk 0 t.Words w.At.toNat) w=true then some (Zhn (Xk 0 t.Words w.At.toNat) w) else none) (Xk 0 t.Words) m (i+1) [] with
  | none=>rfl
  | some l=>simp
 | m+1,i,w::ws,a,n,out,hn,hn2,hd,ha,ho=>by
  obtain ⟨hi',hx,hd'⟩:=Zeg hd
  have hm:=List.mem_of_getElem? hx
  have hA:=hw2 w hm
  obtain ⟨⟨m0,m1⟩,⟨o0,o1⟩,n0,n1⟩:=hb.ws w hm
  have hlen:=hg.w
  have hr:=Z58 ht.u i
  have hxn:((Xk 0 t.Words i).toNat:Int)=Xk 0 t.Words i:=by omega
  by_cases hi:w.At.toNat=i
  ·have hm1:Jx 0 (Xk 0 t.Words i) w.Mask=some ((Zjm 0 (Xk 0 t.Words i).toNat w.Mask.toNat:Nat):Int):=by
    have:=Z6w 0 (Xk 0 t.Words i).toNat w.Mask.toNat (by omega) (by omega) (by omega)
    rw [hxn,show ((w.Mask.toNat:Nat):Int)=w.Mask by omega] at this
    exact this
   have hm2:Jx (Xk 0 t.Words i) w.New w.Mask=some (Zhn (Xk 0 t.Words i) w):=by
    have:=Z6w (Xk 0 t.Words i).toNat w.New.toNat w.Mask.toNat (by omega) (by omega) (by omega)
    rw [hxn,show ((w.Mask.toNat:Nat):Int)=w.Mask by omega,show ((w.New.toNat:Nat):Int)=w.New by omega] at this
    exact this
   have hc:=Yje (x:=Xk 0 t.Words i) (w:=w) hr ⟨o0,o1⟩ (hwi w hm)
   cases hcw:cW (Xk 0 t.Words i) w with
   | false =>
    rw [hcw] at hc
    have hne:(((Zjm 0 (Xk 0 t.Words i).toNat w.Mask.toNat:Nat):Int) != w.Old)=true:=bne_iff_ne.2 fun q=>by rw [decide_eq_true q] at hc;cases hc
    rw [rfG,if_pos hi]
    simp only [hi]
    rw [if_neg (by rw [hcw];simp),Option.bind_none]
    refine Z4 ?_
    unfold Y8
    simp only
    rw [show decide ((i:Int) < (n:Int))=true from by rw [decide_eq_true_eq];omega,cond_true,Zqd,Option.bind_some,Vz hi',cond_true,Yk hx,Option.bind_some,cond_true,Zym hA.1,decide_eq_true hi,Option.bind_some,cond_true,Option.bind_some,hm1,Option.bind_some,hne,cond_true,Option.bind_some]
   | true =>
    rw [hcw] at hc
    have hne:(((Zjm 0 (Xk 0 t.Words i).toNat w.Mask.toNat:Nat):Int) != w.Old)=false:=bne_eq_false_iff_eq.2 (of_decide_eq_true hc.symm)
    have hstep:Y8 e t (n:Int) ((a:Int),(i:Int),out)=some (.inl (((a+1:Nat):Int),((i+1:Nat):Int),out++[Zhn (Xk 0 t.Words i) w])):=by
     unfold Y8
     simp only
     rw [show decide ((i:Int) < (n:Int))=true from by rw [decide_eq_true_eq];omega,cond_true,Zqd,Option.bind_some,Vz hi',cond_true,Yk hx,Option.bind_some,cond_true,Zym hA.1,decide_eq_true hi,Option.bind_some,cond_true,Option.bind_some,hm1,Option.bind_some,hne,cond_false,hm2,Option.bind_some,Option.bind_some]
     simp only
     rw [J5 (by simp only [List.length_singleton];omega) (by simp only [List.length_singleton];omega),Option.bind_some,Yz (by omega) (by omega),Yz (by omega) (by omega)]
     rfl
    rw [Yd hstep,Zvg hb hg hw2 hwi ht m (i+1) ws _ n _ (by omega) hn2 hd' (by omega) (by rw [List.length_append,ho];rfl)]
    rw [rfG,if_pos hi]
    simp only [hi]
    rw [if_pos hcw,Option.bind_some]
    cases rfG (fun w:Zy=>w.At.toNat) (fun w=>if cW (Xk 0 t.Words w.At.toNat) w=true then some (Zhn (Xk 0 t.Words w.At.toNat) w) else none) (Xk 0 t.Words) m (i+1) ws with
    | none=>rfl
    | some l=>simp
  have hstep:Y8 e t (n:Int) ((a:Int),(i:Int),out)=some (.inl ((a:Int),((i+1:Nat):Int),out++[Xk 0 t.Words i])):=by
   unfold Y8
   simp only
   rw [show decide ((i:Int) < (n:Int))=true from by rw [decide_eq_true_eq];omega,cond_true,Zqd,Option.bind_some,Vz hi',cond_true,Yk hx,Option.bind_some,cond_true,Zym hA.1,decide_eq_false hi,Option.bind_some,cond_false,Option.bind_some]
   simp only
   rw [J5 (by simp only [List.length_singleton];omega) (by simp only [List.length_singleton];omega),Option.bind_some,Yz (by omega) (by omega)]
   rfl
  rw [Yd hstep,Zvg hb hg hw2 hwi ht m (i+1) (w::ws) _ n _ (by omega) hn2 hd ha (by rw [List.length_append,ho];rfl)]
  rw [rfG,if_neg hi]
  cases rfG (fun w:Zy=>w.At.toNat) (fun w=>if cW (Xk 0 t.Words w.At.toNat) w=true then some (Zhn (Xk 0 t.Words w.At.toNat) w) else none) (Xk 0 t.Words) m (i+1) (w::ws) with
  | none=>rfl
  | some l=>simp
def opR:Option Tr→Tr×Bool
 | some u=>(u,true)
 | none=>(n0T,false)
theorem Zvf {f:Ed→Tr→Option (Tr×Bool)} {e:Ed} {t:Tr} (hg:GN e) (hk2:∀ k∈e.Kids,0≤k.At∧k.At≤65534) (hf:∀ k∈e.Kids,f k.E (Xk n0T t.Kids k.At.toNat)=some (opR (ap k.E (nrm (Xk n0T t.Kids k.At.toNat))))):∀ (m i:Nat) (ks:List Zt) (a n:Nat) (out:List Tr),n=i+m→n≤5065536→e.Kids.drop a=ks→a≤e.Kids.length→out.length=i →
  Zv (Y9 f e t (n:Int)) ((a:Int),(i:Int),out)=some (match rfG (fun k:Zt=>k.At.toNat) (fun k=>ap k.E (nrm (Xk n0T t.Kids k.At.toNat))) (Xk n0T t.Kids) m i ks with | none => .inl () | some l => .inr (out++l))
 | 0,i,ks,a,n,out,hn,hn2,hd,ha,ho=>by
  refine Z4 ?_
  unfold Y9
  simp only
  rw [show decide ((i:Int) < (n:Int))=false from by rw [decide_eq_false_iff_not];omega,cond_false]
  cases ks <;> simp [rfG]
 | m+1,i,[],a,n,out,hn,hn2,hd,ha,ho=>by
  obtain rfl:=drop_nil hd ha
  have hstep:Y9 f e t (n:Int) ((e.Kids.length:Int),(i:Int),out)=some (.inl ((e.Kids.length:Int),((i+1:Nat):Int),out++[Xk n0T t.Kids i])):=by
   unfold Y9
   simp only
   rw [show decide ((i:Int) < (n:Int))=true from by rw [decide_eq_true_eq];omega,cond_true,Zvk,Option.bind_some,Zdd,cond_false,Option.bind_some,cond_false,Option.bind_some]
   simp only [Z5q]
   rw [J5 (by simp only [List.length_singleton];omega) (by simp only [List.length_singleton];omega),Option.bind_some,Yz (by omega) (by omega)]
   rfl
  rw [Yd hstep,Zvf hg hk2 hf m (i+1) [] _ n _ (by omega) hn2 hd ha (by rw [List.length_append,ho];rfl)]
  rw [rfG]
  cases rfG (fun k:Zt=>k.At.toNat) (fun k=>ap k.E (nrm (Xk n0T t.Kids k.At.toNat))) (Xk n0T t.Kids) m (i+1) [] with
  | none=>rfl
  | some l=>simp
 | m+1,i,w::ks,a,n,out,hn,hn2,hd,ha,ho=>by
  obtain ⟨hi',hx,hd'⟩:=Zeg hd
  have hm:=List.mem_of_getElem? hx
  have hA:=hk2 w hm
  have hlen:=hg.k
  by_cases hi:w.At.toNat=i
  ·have hfw:=hf w hm
   rw [hi] at hfw
   rw [rfG,if_pos hi]
   simp only [hi]
   cases hap:ap w.E (nrm (Xk n0T t.Kids i)) with
   | none =>
    rw [hap] at hfw
    rw [Option.bind_none]
    refine Z4 ?_
    unfold Y9
    simp only
    rw [show decide ((i:Int) < (n:Int))=true from by rw [decide_eq_true_eq];omega,cond_true,Zvk,Option.bind_some,Vz hi',cond_true,Yk hx,Option.bind_some,cond_true,Zym hA.1,decide_eq_true hi,Option.bind_some,cond_true,Option.bind_some,hfw,Option.bind_some]
    rfl
   | some u =>
    rw [hap] at hfw
    have hstep:Y9 f e t (n:Int) ((a:Int),(i:Int),out)=some (.inl (((a+1:Nat):Int),((i+1:Nat):Int),out++[u])):=by
     unfold Y9
     simp only
     rw [show decide ((i:Int) < (n:Int))=true from by rw [decide_eq_true_eq];omega,cond_true,Zvk,Option.bind_some,Vz hi',cond_true,Yk hx,Option.bind_some,cond_true,Zym hA.1,decide_eq_true hi,Option.bind_some,cond_true,Option.bind_some,hfw,Option.bind_some]
     simp only [opR,Bool.not_true,cond_false,Option.bind_some,Z5q]
     rw [J5 (by simp only [List.length_singleton];omega) (by simp only [List.length_singleton];omega),Option.bind_some,Yz (by omega) (by omega),Yz (by omega) (by omega)]
     rfl
    rw [Yd hstep,Zvf hg hk2 hf m (i+1) ks _ n _ (by omega) hn2 hd' (by omega) (by rw [List.length_append,ho];rfl),Option.bind_some]
    cases rfG (fun k:Zt=>k.At.toNat) (fun k=>ap k.E (nrm (Xk n0T t.Kids k.At.toNat))) (Xk n0T t.Kids) m (i+1) ks with
    | none=>rfl
    | some l=>simp
  have hstep:Y9 f e t (n:Int) ((a:Int),(i:Int),out)=some (.inl ((a:Int),((i+1:Nat):Int),out++[Xk n0T t.Kids i])):=by
   unfold Y9
   simp only
   rw [show decide ((i:Int) < (n:Int))=true from by rw [decide_eq_true_eq];omega,cond_true,Zvk,Option.bind_some,Vz hi',cond_true,Yk hx,Option.bind_some,cond_true,Zym hA.1,decide_eq_false hi,Option.bind_some,cond_false,Option.bind_some]
   simp only [Z5q]
   rw [J5 (by simp only [List.length_singleton];omega) (by simp only [List.length_singleton];omega),Option.bind_some,Yz (by omega) (by omega)]
   rfl
  rw [Yd hstep,Zvf hg hk2 hf m (i+1) (w::ks) _ n _ (by omega) hn2 hd ha (by rw [List.length_append,ho];rfl)]
  rw [rfG,if_neg hi]
  cases rfG (fun k:Zt=>k.At.toNat) (fun k=>ap k.E (nrm (Xk n0T t.Kids k.At.toNat))) (Xk n0T t.Kids) m (i+1) (w::ks) with
  | none=>rfl
  | some l=>simp
theorem Z4m {n m:Nat} (h:n < m):decide ((m:Int)≤(n:Int))=false:=by rw [decide_eq_false_iff_not];omega
theorem Yc0 {n m:Nat} (h:m≤n):decide ((m:Int)≤(n:Int))=true:=by rw [decide_eq_true_eq];omega
theorem Z5b {t:Tr} {o:EO} (k0:o.Kind=0) (hN:0≤o.N∧o.N.toNat≤1073741824) (ht:t.Kids.length≤1000000):∀ (m n a:Nat) (out:List Tr),o.N.toNat=n+m→a≤t.Kids.length→out.length+m≤2000000000 →
  Zv (X4 t o) ((a:Int),(n:Int),out)=some (if m≤t.Kids.length - a then .inr (((a+m:Nat):Int),out++(t.Kids.drop a).take m) else .inl ())
 | 0,n,a,out,hn,ha,ho=>by
  refine Z4 ?_
  unfold X4
  simp only
  rw [show decide ((n:Int) < o.N)=false from by rw [decide_eq_false_iff_not];omega,cond_false,cond_false,if_pos (Nat.zero_le _)]
  simp
 | m+1,n,a,out,hn,ha,ho=>by
  by_cases hk:a < t.Kids.length
  ·have hx:t.Kids[a]? = some t.Kids[a]:=List.getElem?_eq_getElem hk
   have hstep:X4 t o ((a:Int),(n:Int),out)=some (.inl (((a+1:Nat):Int),((n+1:Nat):Int),out++[t.Kids[a]])):=by
    unfold X4
    simp only
    rw [show decide ((n:Int) < o.N)=true from by rw [decide_eq_true_eq];omega,show (o.Kind == 0)=true from by rw [k0];rfl,cond_true,cond_true,Z4m hk,cond_false,Yk hx,Option.bind_some,J5 (by simp only [List.length_singleton];omega) (by simp only [List.length_singleton];omega),Option.bind_some,Yz (by omega) (by omega),Yz (by omega) (by omega)]
    rfl
   rw [Yd hstep,Z5b k0 hN ht m (n+1) (a+1) _ (by omega) (by omega) (by rw [List.length_append,List.length_singleton];omega)]
   by_cases hm:m+1≤t.Kids.length - a
   ·rw [if_pos hm,if_pos (by omega),List.drop_eq_getElem_cons hk,List.take_succ_cons,List.append_assoc,show a+1+m=a+(m+1) by omega]
    rfl
   rw [if_neg hm,if_neg (by omega)]
  rw [if_neg (by omega)]
  refine Z4 ?_
  unfold X4
  simp only
  rw [show decide ((n:Int) < o.N)=true from by rw [decide_eq_true_eq];omega,show (o.Kind == 0)=true from by rw [k0];rfl,cond_true,cond_true,Yc0 (by omega),cond_true]
theorem Yj6 {t:Tr} {o:EO} (k0:¬ o.Kind=0) (a:Int) (out:List Tr):Zv (X4 t o) (a,0,out)=some (.inr (a,out)):=by
 refine Z4 ?_
 unfold X4
 simp only
 rw [show (o.Kind == 0)=false from by rw [beq_eq_false_iff_ne];exact k0]
 cases decide (0 < o.N) <;> rfl
theorem Z06 {t:Tr} {o:EO} (hl:o.L=[]) (a:Int) (out:List Tr):Zv (Xa t o) (a,0,out)=some (.inr (a,out)):=by
 refine Z4 ?_
 unfold Xa
 simp only
 rw [hl]
 rfl
theorem Z8s {t:Tr} {o:EO} (k2:o.Kind=2) (hL:o.L.length≤1073741824) (a:Int):∀ (l:List Tr) (j:Nat) (out:List Tr),o.L.drop j=l→j≤o.L.length→out.length+l.length≤2000000000 →
  Zv (Xa t o) (a,(j:Int),out)=some (.inr (a,out++l))
 | [],j,out,hd,hj,ho=>by
  obtain rfl:=drop_nil hd hj
  refine Z4 ?_
  unfold Xa
  simp only
  rw [Zdd,cond_false,List.append_nil]
 | x::l,j,out,hd,hj,ho=>by
  obtain ⟨hi',hx,hd'⟩:=Zeg hd
  rw [List.length_cons] at ho
  have hstep:Xa t o (a,(j:Int),out)=some (.inl (a,((j+1:Nat):Int),out++[x])):=by
   unfold Xa
   simp only
   rw [Vz hi',cond_true,show (o.Kind == 2)=true from by rw [k2];rfl,cond_true,Yk hx,Option.bind_some,J5 (by simp only [List.length_singleton];omega) (by simp only [List.length_singleton];omega),Option.bind_some,Option.bind_some]
   simp only
   rw [Yz (by omega) (by omega)]
   rfl
  rw [Yd hstep,Z8s k2 hL a l (j+1) _ hd' (by omega) (by rw [List.length_append,List.length_singleton];omega),List.append_assoc]
  rfl
theorem Z8r {t:Tr} {o:EO} (k1:o.Kind=1) (hL:o.L.length≤1073741824) (hb:∀ x∈o.L,Bd x) (ht:t.Kids.length≤1000000) (htb:∀ x∈t.Kids,Bd x) (out:List Tr):∀ (l:List Tr) (j a:Nat),o.L.drop j=l→j≤o.L.length→a≤t.Kids.length →
  Zv (Xa t o) ((a:Int),(j:Int),out)=some (if ((t.Kids.drop a).take l.length).map nrm=l.map nrm then .inr (((a+l.length:Nat):Int),out) else .inl ())
 | [],j,a,hd,hj,ha=>by
  obtain rfl:=drop_nil hd hj
  refine Z4 ?_
  unfold Xa
  simp only
  rw [Zdd,cond_false,if_pos (by simp)]
  rfl
 | x::l,j,a,hd,hj,ha=>by
  obtain ⟨hi',hx,hd'⟩:=Zeg hd
  have hxm:=List.mem_of_getElem? hx
  have k2:(o.Kind == 2)=false:=by rw [k1];rfl
  by_cases hk:a < t.Kids.length
  ·have hy:t.Kids[a]? = some t.Kids[a]:=List.getElem?_eq_getElem hk
   have hym:t.Kids[a]∈t.Kids:=List.getElem_mem hk
   have hq:Ks t.Kids[a] x=some (eqT (nrm t.Kids[a]) (nrm x)):=Zy8 (htb _ hym) (hb _ hxm)
   rw [List.drop_eq_getElem_cons hk,List.length_cons,List.take_succ_cons,List.map_cons,List.map_cons]
   by_cases he:nrm t.Kids[a]=nrm x
   ·have hstep:Xa t o ((a:Int),(j:Int),out)=some (.inl (((a+1:Nat):Int),((j+1:Nat):Int),out)):=by
     unfold Xa
     simp only
     rw [Vz hi',cond_true,k2,cond_false,Z4m hk,cond_false,Yk hy,Option.bind_some,Yk hx,Option.bind_some,hq,eqT_iff.2 he,Option.bind_some,Option.bind_some,cond_false,Bool.not_true,cond_false,Option.bind_some]
     simp only
     rw [Yz (by omega) (by omega),Yz (by omega) (by omega)]
     rfl
    rw [Yd hstep,Z8r k1 hL hb ht htb out l (j+1) (a+1) hd' (by omega) (by omega),he]
    by_cases hr:((t.Kids.drop (a+1)).take l.length).map nrm=l.map nrm
    ·rw [if_pos hr,if_pos (by rw [hr]),show a+1+l.length=a+(l.length+1) by omega]
    rw [if_neg hr,if_neg fun q=>hr (List.cons.inj q).2]
   rw [if_neg fun q=>he (List.cons.inj q).1]
   have hf:eqT (nrm t.Kids[a]) (nrm x)=false:=by
    cases h:eqT (nrm t.Kids[a]) (nrm x) with
    | false=>rfl
    | true=>exact absurd (eqT_iff.1 h) he
   refine Z4 ?_
   unfold Xa
   simp only
   rw [Vz hi',cond_true,k2,cond_false,Z4m hk,cond_false,Yk hy,Option.bind_some,Yk hx,Option.bind_some,hq,hf,Option.bind_some,Option.bind_some,cond_false,Bool.not_false,cond_true,Option.bind_some]
  rw [List.drop_eq_nil_of_le (by omega),List.take_nil,List.map_nil,List.map_cons,if_neg (by simp)]
  refine Z4 ?_
  unfold Xa
  simp only
  rw [Vz hi',cond_true,k2,cond_false,Yc0 (by omega),cond_true,Option.bind_some,cond_true,Option.bind_some]
theorem Yla {o:EO} (h:opk o) (k0:o.Kind=0):1≤o.N:=by
 rcases h with h | h | h | h <;> omega
theorem Z8t {f:Ed→Tr→Option (Tr×Bool)} {e:Ed} {t:Tr} (hg:GN e) (hb:BE e) (ht:t.Kids.length≤1000000) (htb:∀ x∈t.Kids,Bd x) (hop:∀ o∈e.Ops,opk o) (hN:∀ o∈e.Ops,o.Kind=0∨o.Kind=3→o.L=[])
  (hf:∀ o∈e.Ops,o.Kind=3→∀ x∈t.Kids,f o.E x=some (opR (ap o.E (nrm x)))∧∀ u,ap o.E (nrm x)=some u→Bd u):∀ (os:List EO) (i a:Nat) (out:List Tr),e.Ops.drop i=os→i≤e.Ops.length→a≤t.Kids.length→(∀ x∈out,Bd x)→out.length+Zfp os≤2000000000 →
  ∃ r,Zv (Yt f e t) ((a:Int),(i:Int),out)=some r∧(rnR (os.map fun o=>(o,fun x=>ap o.E (nrm x))) (t.Kids.drop a,out)=none→r = .inl ())∧∀ l o',rnR (os.map fun o=>(o,fun x=>ap o.E (nrm x))) (t.Kids.drop a,out)=some (l,o')→∃ a':Nat,r = .inr ((a':Int),o')∧a'≤t.Kids.length∧t.Kids.drop a'=l∧(∀ x∈o',Bd x)∧o'.length≤2000000000
 | [],i,a,out,hd,hi,ha,hbo,ho=>by
  obtain rfl:=drop_nil hd hi
  refine ⟨.inr ((a:Int),out),Z4 ?_,fun h=>(by cases h),fun l o' h => ?_⟩
  ·unfold Yt
   simp only
   rw [Zdd,cond_false]
  injection h with h
  injection h with e1 e2
  subst e2
  exact ⟨a,rfl,ha,e1,hbo,by omega⟩
 | o::os,i,a,out,hd,hi,ha,hbo,ho=>by
  obtain ⟨hi',hx,hd'⟩:=Zeg hd
  have hm:=List.mem_of_getElem? hx
  rw [Ybj] at ho
  have hgo:=hg.o
  have hpo:=hop o hm
  have hbl:=hb.l o hm
  have hth:thN o≤1073741824:=by
   have h1:thN o≤Zfp e.Ops:=Zpb (f:=thN) hm
   have h2:=hg.s
   omega
  rw [List.map_cons,rnR]
  -- what one round comes to
  have key:∀ (a':Nat) (o':List Tr),Yt f e t ((a:Int),(i:Int),out)=some (.inl ((a':Int),((i+1:Nat):Int),o'))→stF o (fun x=>ap o.E (nrm x)) (t.Kids.drop a,out)=some (t.Kids.drop a',o')→a'≤t.Kids.length→(∀ x∈o',Bd x)→o'.length+Zfp os≤2000000000 →
    ∃ r,Zv (Yt f e t) ((a:Int),(i:Int),out)=some r∧((stF o (fun x=>ap o.E (nrm x)) (t.Kids.drop a,out)).bind (rnR (os.map fun o=>(o,fun x=>ap o.E (nrm x))))=none→r = .inl ())∧∀ l o',(stF o (fun x=>ap o.E (nrm x)) (t.Kids.drop a,out)).bind (rnR (os.map fun o=>(o,fun x=>ap o.E (nrm x))))=some (l,o')→∃ a':Nat,r = .inr ((a':Int),o')∧a'≤t.Kids.length∧t.Kids.drop a'=l∧(∀ x∈o',Bd x)∧o'.length≤2000000000:=fun a' o' h1 h2 h3 h4 h5=>by
   rw [Yd h1,h2,Option.bind_some]
   exact Z8t hg hb ht htb hop hN hf os (i+1) a' o' hd' (by omega) h3 h4 h5
  have bad:Yt f e t ((a:Int),(i:Int),out)=some (.inr (.inl ()))→stF o (fun x=>ap o.E (nrm x)) (t.Kids.drop a,out)=none →
    ∃ r,Zv (Yt f e t) ((a:Int),(i:Int),out)=some r∧((stF o (fun x=>ap o.E (nrm x)) (t.Kids.drop a,out)).bind (rnR (os.map fun o=>(o,fun x=>ap o.E (nrm x))))=none→r = .inl ())∧∀ l o',(stF o (fun x=>ap o.E (nrm x)) (t.Kids.drop a,out)).bind (rnR (os.map fun o=>(o,fun x=>ap o.E (nrm x))))=some (l,o')→∃ a':Nat,r = .inr ((a':Int),o')∧a'≤t.Kids.length∧t.Kids.drop a'=l∧(∀ x∈o',Bd x)∧o'.length≤2000000000:=fun h1 h2=>by
   rw [h2]
   exact ⟨.inl (),Z4 h1,fun _=>rfl,fun l o' h=>by cases h⟩
  by_cases k0:o.Kind=0
  ·have hNn:=Yla hpo k0
   have hthN:thN o=o.N.toNat:=by unfold thN;rw [if_pos k0]
   have l1:=Z5b (t:=t) (o:=o) k0 ⟨by omega,by omega⟩ ht o.N.toNat 0 a out (by omega) ha (by omega)
   rw [show (((0:Nat):Int))=0 from rfl] at l1
   have hL:=hN o hm (.inl k0)
   have hst:stF o (fun x=>ap o.E (nrm x)) (t.Kids.drop a,out)=if o.N.toNat≤t.Kids.length - a then some (t.Kids.drop (a+o.N.toNat),out++(t.Kids.drop a).take o.N.toNat) else none:=by
    unfold stF
    rw [if_pos k0]
    simp only [List.length_drop,List.drop_drop]
    by_cases h:o.N.toNat≤t.Kids.length - a
    ·rw [if_pos h,if_pos ⟨by omega,h⟩]
    rw [if_neg h,if_neg fun q=>h q.2]
   by_cases h:o.N.toNat≤t.Kids.length - a
   ·rw [if_pos h] at l1 hst
    refine key (a+o.N.toNat) _ ?_ hst (by omega) (fun x hx => ?_) (by rw [List.length_append,List.length_take,List.length_drop];omega)
    ·unfold Yt
     simp only
     rw [Vz hi',cond_true,Yk hx,Option.bind_some,l1,Option.bind_some]
     simp only
     rw [Z06 hL,Option.bind_some]
     simp only
     rw [show (o.Kind == 3)=false from by rw [k0];rfl,cond_false,Option.bind_some]
     simp only
     rw [Yz (by omega) (by omega)]
     rfl
    rcases List.mem_append.1 hx with hx | hx
    ·exact hbo x hx
    exact htb x (List.mem_of_mem_drop (List.mem_of_mem_take hx))
   rw [if_neg h] at l1 hst
   refine bad ?_ hst
   unfold Yt
   simp only
   rw [Vz hi',cond_true,Yk hx,Option.bind_some,l1,Option.bind_some]
   simp only
   rw [Option.bind_some]
  have l1:=Yj6 (t:=t) (o:=o) k0 (a:Int) out
  by_cases k1:o.Kind=1
  ·have hthN:thN o=o.L.length:=by unfold thN;rw [if_neg k0,if_neg (by omega)]
   have l2:=Z8r (t:=t) (o:=o) k1 (by omega) hbl.2 ht htb out o.L 0 a rfl (Nat.zero_le _) ha
   rw [show (((0:Nat):Int))=0 from rfl] at l2
   have hst:stF o (fun x=>ap o.E (nrm x)) (t.Kids.drop a,out)=if ((t.Kids.drop a).take o.L.length).map nrm=o.L.map nrm then some (t.Kids.drop (a+o.L.length),out) else none:=by
    unfold stF
    rw [if_neg k0,if_pos k1]
    simp only [List.drop_drop]
   by_cases h:((t.Kids.drop a).take o.L.length).map nrm=o.L.map nrm
   ·rw [if_pos h] at l2 hst
    have hlen:=congrArg List.length h
    rw [List.length_map,List.length_map,List.length_take,List.length_drop] at hlen
    refine key (a+o.L.length) _ ?_ hst (by omega) hbo (by omega)
    unfold Yt
    simp only
    rw [Vz hi',cond_true,Yk hx,Option.bind_some,l1,Option.bind_some]
    simp only
    rw [l2,Option.bind_some]
    simp only
    rw [show (o.Kind == 3)=false from by rw [k1];rfl,cond_false,Option.bind_some]
    simp only
    rw [Yz (by omega) (by omega)]
    rfl
   rw [if_neg h] at l2 hst
   refine bad ?_ hst
   unfold Yt
   simp only
   rw [Vz hi',cond_true,Yk hx,Option.bind_some,l1,Option.bind_some]
   simp only
   rw [l2,Option.bind_some]
   simp only
   rw [Option.bind_some]
  by_cases k2:o.Kind=2
  ·have hthN:thN o=o.L.length:=by unfold thN;rw [if_neg k0,if_neg (by omega)]
   have l2:=Z8s (t:=t) (o:=o) k2 (by omega) (a:Int) o.L 0 out rfl (Nat.zero_le _) (by omega)
   rw [show (((0:Nat):Int))=0 from rfl] at l2
   have hst:stF o (fun x=>ap o.E (nrm x)) (t.Kids.drop a,out)=some (t.Kids.drop a,out++o.L):=by
    unfold stF
    rw [if_neg k0,if_neg k1,if_pos k2]
   refine key a _ ?_ hst ha (fun x hx => ?_) (by rw [List.length_append];omega)
   ·unfold Yt
    simp only
    rw [Vz hi',cond_true,Yk hx,Option.bind_some,l1,Option.bind_some]
    simp only
    rw [l2,Option.bind_some]
    simp only
    rw [show (o.Kind == 3)=false from by rw [k2];rfl,cond_false,Option.bind_some]
    simp only
    rw [Yz (by omega) (by omega)]
    rfl
   rcases List.mem_append.1 hx with hx | hx
   ·exact hbo x hx
   exact hbl.2 x hx
  have k3:o.Kind=3:=by rcases hpo with h | h | h | h <;> omega
  have hthN:thN o=1:=by unfold thN;rw [if_neg k0,if_pos k3]
  have hL:=hN o hm (.inr k3)
  by_cases hk:a < t.Kids.length
  ·have hy:t.Kids[a]? = some t.Kids[a]:=List.getElem?_eq_getElem hk
   obtain ⟨f1,f2⟩:=hf o hm k3 t.Kids[a] (List.getElem_mem hk)
   have hst:stF o (fun x=>ap o.E (nrm x)) (t.Kids.drop a,out)=(ap o.E (nrm t.Kids[a])).map fun u=>(t.Kids.drop (a+1),out++[u]):=by
    unfold stF
    rw [if_neg k0,if_neg k1,if_neg k2,if_pos k3,List.drop_eq_getElem_cons hk]
   cases hap:ap o.E (nrm t.Kids[a]) with
   | none =>
    rw [hap] at f1 hst
    refine bad ?_ hst
    unfold Yt
    simp only
    rw [Vz hi',cond_true,Yk hx,Option.bind_some,l1,Option.bind_some]
    simp only
    rw [Z06 hL,Option.bind_some]
    simp only
    rw [show (o.Kind == 3)=true from by rw [k3];rfl,cond_true,Z4m hk,cond_false,Yk hy,Option.bind_some,f1,Option.bind_some]
    rfl
   | some u =>
    have bu:=f2 u hap
    rw [hap] at f1 hst
    refine key (a+1) _ ?_ hst (by omega) (fun x hx => ?_) (by rw [List.length_append,List.length_singleton];omega)
    ·unfold Yt
     simp only
     rw [Vz hi',cond_true,Yk hx,Option.bind_some,l1,Option.bind_some]
     simp only
     rw [Z06 hL,Option.bind_some]
     simp only
     rw [show (o.Kind == 3)=true from by rw [k3];rfl,cond_true,Z4m hk,cond_false,Yk hy,Option.bind_some,f1,Option.bind_some]
     simp only [opR,Bool.not_true,cond_false]
     rw [J5 (by simp only [List.length_singleton];omega) (by simp only [List.length_singleton];omega),Option.bind_some,Option.bind_some,Yz (by omega) (by omega)]
     simp only
     rw [Yz (by omega) (by omega)]
     rfl
    rcases List.mem_append.1 hx with hx | hx
    ·exact hbo x hx
    rw [List.mem_singleton] at hx;subst hx;exact bu
  have hst:stF o (fun x=>ap o.E (nrm x)) (t.Kids.drop a,out)=none:=by
   unfold stF
   rw [if_neg k0,if_neg k1,if_neg k2,if_pos k3,List.drop_eq_nil_of_le (by omega)]
  refine bad ?_ hst
  unfold Yt
  simp only
  rw [Vz hi',cond_true,Yk hx,Option.bind_some,l1,Option.bind_some]
  simp only
  rw [Z06 hL,Option.bind_some]
  simp only
  rw [show (o.Kind == 3)=true from by rw [k3];rfl,cond_true,Yc0 (by omega),cond_true,Option.bind_some]
theorem Yj5 {e:Ed} {d:Nat} (h2:e.Kind=2) (h:rE e d=true):e.Words.Pairwise (fun a b=>a.At.toNat < b.At.toNat)∧(∀ w∈e.Words,wi w.Old w.Mask=true)∧e.Kids.Pairwise (fun a b=>a.At.toNat < b.At.toNat)∧∀ k∈e.Kids,rE k.E (d - 1)=true:=by
 rw [Zmk] at h
 by_cases hd:d=0
 ·rw [if_pos hd] at h;cases h
 rw [if_neg hd,if_neg (by omega),if_neg (by omega),if_pos h2] at h
 simp only [Bool.and_eq_true] at h
 obtain ⟨w1,w2⟩:=Zls Z42 e.Words (-1) h.2.1
 obtain ⟨k1,k2⟩:=Zls (Zxe (d - 1)) e.Kids (-1) h.2.2
 refine ⟨w2.imp_of_mem fun {a b} ha hb hab => ?_,fun w hw => ?_,k2.imp_of_mem fun {a b} ha hb hab => ?_,fun k hk => ?_⟩
 ·have:=w1 a ha
  have:=w1 b hb
  omega
 ·exact Zmt (Q:=fun w:Zy=>wi w.Old w.Mask=true) (fun p x hx=>by
   unfold okW at hx
   cases hq:wi x.Old x.Mask with
   | true=>rfl
   | false=>rw [hq] at hx;simp at hx) e.Words (-1) h.2.1 w hw
 ·have:=k1 a ha
  have:=k1 b hb
  omega
 exact Zmt (Q:=fun k:Zt=>rE k.E (d - 1)=true) (fun p x hx=>by
  unfold okK okP at hx
  simp only [Bool.and_eq_true] at hx
  exact hx.2.2) e.Kids (-1) h.2.2 k hk
theorem Yli {e:Ed} {d:Nat} (h3:e.Kind=3) (h:rE e d=true):∀ o∈e.Ops,o.Kind=3→rE o.E (d - 1)=true:=by
 rw [Zmk] at h
 by_cases hd:d=0
 ·rw [if_pos hd] at h;cases h
 rw [if_neg hd,if_neg (by omega),if_neg (by omega),if_neg (by omega),if_pos h3] at h
 simp only [Bool.and_eq_true,decide_eq_true_eq,List.all_eq_true] at h
 intro o hx k3
 have:=h.2.2.1 o hx
 unfold okO at this
 rw [if_neg (by omega),if_neg (by omega),if_pos k3] at this
 simp only [Bool.and_eq_true] at this
 exact this.2.2.2.2
structure CR (e:Ed) (t:Tr):Prop where
 c:CA e t
 r:∃ d,rE e d=true
theorem Yb4 {t:Tr} (h:Bd t) (i:Nat):Bd (Xk n0T t.Kids i):=by
 rcases Zou (z:=n0T) (l:=t.Kids) (i:=i) with q | q
 ·exact h.all _ q
 rw [q];exact Yb9
theorem Z66 {f1 f2 f3:Ed→Tr→Option (Tr×Bool)} {e:Ed} {t:Tr} (h:CR e t) (k2:e.Kind=2)
  (ih:∀ k∈e.Kids,∀ x,CR k.E x→f1 k.E x=some (opR (ap k.E (nrm x)))):∃ u b,Va f1 f2 f3 e t=some (u,b)∧b=(ap e (nrm t)).isSome∧∀ v,ap e (nrm t)=some v→nrm u=v∧Bd u:=by
 obtain ⟨d,hr⟩:=h.r
 obtain ⟨a1,a2,a3,a4⟩:=Yj5 k2 hr
 have hx:=h.c.x
 have hb:=h.c.b
 have hg:=h.c.g
 have ht:=h.c.t
 have hp:=h.c.p
 rw [Zcl] at hp
 have hkl:t.Kids.length≤(t.Kids.map pt).sum:=Zl4 fun x _=>by rw [Zcl];omega
 cases hx with
 | same _ q=>omega
 | repl _ q=>omega
 | li _ q=>omega
 | st _ q hw hw2 hkk hk2 hkx =>
  unfold Va
  by_cases t1:t.Kind=1
  ·have e1:(t.Kind != 1)=false:=by rw [t1];rfl
   obtain ⟨n,n1,n2,n3,n4⟩:=Yet (fun w:Zy=>w.At) e.Words t.Words.length hw2 a1 hg.w (by omega)
   obtain ⟨m,m1,m2,m3,m4⟩:=Yet (fun k:Zt=>k.At) e.Kids t.Kids.length hk2 a3 hg.k (by omega)
   rw [e1,cond_false,n1,Option.bind_some,m1,Option.bind_some]
   have hcr:∀ k∈e.Kids,∀ i,CR k.E (Xk n0T t.Kids i):=fun k hk i=>⟨⟨hkx k hk,hb.ks k hk,hg.ks k hk,by
    rcases Zou (z:=n0T) (l:=t.Kids) (i:=i) with q | q
    ·have:=Zz9 q;have:=h.c.p;omega
    rw [q,Ylg];omega,Yb4 ht i⟩,d - 1,a4 k hk⟩
   have hf:∀ k∈e.Kids,f1 k.E (Xk n0T t.Kids k.At.toNat)=some (opR (ap k.E (nrm (Xk n0T t.Kids k.At.toNat)))):=fun k hk=>ih k hk _ (hcr k hk _)
   have l0:=Zvg hb hg hw2 a2 ht n 0 e.Words 0 n [] (by omega) n3 rfl (Nat.zero_le _) rfl
   have l1:=Zvf (f:=f1) (t:=t) hg hk2 hf m 0 e.Kids 0 m [] (by omega) m3 rfl (Nat.zero_le _) rfl
   rw [show (((0:Nat):Int))=0 from rfl] at l0 l1
   have hs:=Ybe (e:=e) (t:=t) (n:=n) (m:=m) k2 t1 a1 a3 n4 m4 n2 m2 fun k hk u hu=>Yhg (hcr k hk _).c hu
   rw [l0,Option.bind_some]
   cases hA:rfG (fun w:Zy=>w.At.toNat) (fun w=>if cW (Xk 0 t.Words w.At.toNat) w=true then some (Zhn (Xk 0 t.Words w.At.toNat) w) else none) (Xk 0 t.Words) n 0 e.Words with
   | none =>
    rw [hA] at hs
    rw [← hs]
    exact ⟨_,_,rfl,rfl,fun v hv=>by cases hv⟩
   | some ws =>
    rw [hA,Option.bind_some] at hs
    simp only [List.nil_append]
    rw [l1,Option.bind_some]
    cases hC:rfG (fun k:Zt=>k.At.toNat) (fun k=>ap k.E (nrm (Xk n0T t.Kids k.At.toNat))) (Xk n0T t.Kids) m 0 e.Kids with
    | none =>
     rw [hC] at hs
     rw [← hs]
     exact ⟨_,_,rfl,rfl,fun v hv=>by cases hv⟩
    | some ks =>
     rw [hC] at hs
     rw [← hs]
     obtain ⟨q1,q2⟩:=Zqb (Q:=fun x:Int=>0≤x∧x < 18446744073709551616) (fun j=>Z58 ht.u j) n 0 e.Words ws (fun w hw u hu=>by
      split at hu
      ·injection hu with hu;subst hu;exact Z8b _ _
      cases hu) hA
     obtain ⟨q3,q4⟩:=Zqb (Q:=Bd) (fun j=>Yb4 ht j) m 0 e.Kids ks (fun k hk u hu=>Zwq (hcr k hk _).c hu) hC
     refine ⟨_,_,rfl,rfl,fun v hv => ?_⟩
     injection hv with hv
     subst hv
     exact ⟨rfl,.mk _ (by simp only;omega) (by simp only [List.nil_append];omega) q2 q4⟩
  rw [show (t.Kind != 1)=true from bne_iff_ne.2 t1,cond_true]
  have hn:ap e (nrm t)=none:=by
   rw [Zft,if_neg (by omega),if_neg (by omega),if_pos k2,U5,if_neg t1]
  rw [hn]
  exact ⟨_,_,rfl,rfl,fun v hv=>by cases hv⟩
theorem Yd3 {f1 f2 f3:Ed→Tr→Option (Tr×Bool)} {e:Ed} {t:Tr} (h:CR e t) (k3:e.Kind=3)
  (ih:∀ o∈e.Ops,o.Kind=3→∀ x,CR o.E x→f1 o.E x=some (opR (ap o.E (nrm x)))):∃ u b,Zam f1 f2 f3 e t=some (u,b)∧b=(ap e (nrm t)).isSome∧∀ v,ap e (nrm t)=some v→nrm u=v∧Bd u:=by
 obtain ⟨d,hr⟩:=h.r
 have hx:=h.c.x
 have hb:=h.c.b
 have hg:=h.c.g
 have ht:=h.c.t
 have hp:=h.c.p
 rw [Zcl] at hp
 have hkl:t.Kids.length≤(t.Kids.map pt).sum:=Zl4 fun x _=>by rw [Zcl];omega
 cases hx with
 | same _ q=>omega
 | repl _ q=>omega
 | st _ q=>omega
 | li _ q hl ho hN hox =>
  unfold Zam
  by_cases t1:t.Kind=e.List_
  ·have e1:(t.Kind != e.List_)=false:=by rw [t1];exact bne_self_eq_false _
   rw [e1,cond_false]
   have hcr:∀ o∈e.Ops,o.Kind=3→∀ x∈t.Kids,CR o.E x:=fun o hom k x hxm=>⟨⟨hox o hom k,hb.os o hom,hg.os o hom,by have:=Zz9 hxm;have:=h.c.p;omega,ht.all x hxm⟩,d - 1,Yli k3 hr o hom k⟩
   obtain ⟨r,r1,r2,r3⟩:=Z8t (f:=f1) (t:=t) hg hb (by omega) ht.all ho hN (fun o hom k x hxm=>⟨ih o hom k x (hcr o hom k x hxm),fun u hu=>Zwq (hcr o hom k x hxm).c hu⟩) e.Ops 0 0 [] rfl (Nat.zero_le _) (Nat.zero_le _) (fun x hx=>by cases hx) (by have:=hg.s;simp only [List.length_nil];omega)
   rw [show (((0:Nat):Int))=0 from rfl] at r1
   rw [r1,Option.bind_some]
   rw [List.drop_zero] at r2 r3
   have hs:=Ygf (e:=e) (t:=t) k3 (by omega) t1 fun o hom k x hxm u hu=>Yhg (hcr o hom k x hxm).c hu
   cases hR:rnR (e.Ops.map fun o=>(o,fun x=>ap o.E (nrm x))) (t.Kids,[]) with
   | none =>
    rw [hR] at hs
    rw [r2 hR,← hs]
    exact ⟨_,_,rfl,rfl,fun v hv=>by cases hv⟩
   | some p =>
    obtain ⟨l,o'⟩:=p
    rw [hR,Option.bind_some] at hs
    obtain ⟨a',q1,q2,q3,q4,q5⟩:=r3 l o' hR
    rw [q1]
    simp only at hs
    cases l with
    | nil =>
     rw [if_pos rfl] at hs
     have ha:a'=t.Kids.length:=by
      have:=congrArg List.length q3
      rw [List.length_drop,List.length_nil] at this
      omega
     rw [← hs]
     refine ⟨_,_,rfl,?_,fun v hv => ?_⟩
     ·subst ha
      show (((t.Kids.length:Nat):Int) == ((t.Kids.length:Nat):Int))=true
      exact beq_self_eq_true _
     injection hv with hv
     subst hv
     exact ⟨rfl,.mk _ (by simp) (by simp only;omega) (by simp) q4⟩
    | cons x l =>
     rw [if_neg (by simp)] at hs
     have ha:a'≠t.Kids.length:=fun q=>by
      subst q
      rw [List.drop_length] at q3
      cases q3
     rw [← hs]
     refine ⟨_,_,rfl,?_,fun v hv=>by cases hv⟩
     show (((a':Nat):Int) == ((t.Kids.length:Nat):Int))=false
     rw [beq_eq_false_iff_ne]
     omega
  rw [show (t.Kind != e.List_)=true from bne_iff_ne.2 t1,cond_true]
  have hn:ap e (nrm t)=none:=by
   rw [Zft,if_neg (by omega),if_neg (by omega),if_neg (by omega),if_pos k3,U5,if_neg t1]
  rw [hn]
  exact ⟨_,_,rfl,rfl,fun v hv=>by cases hv⟩
theorem Ygb {o:Option Tr} {u:Tr} {b:Bool} (h1:b=o.isSome) (h2:∀ v,o=some v→nrm u=v∧Bd u):cond (!b) (some (n0T,false)) ((Uo (⟨u.Kind,u.Words,u.Kids⟩:Tr)).bind fun y=>some (y,true))=some (opR o):=by
 subst h1
 cases o with
 | none=>rfl
 | some v =>
  obtain ⟨g1,g2⟩:=h2 v rfl
  simp only [Option.isSome_some,Bool.not_true,cond_false]
  rw [Z5q,Zxr g2,g1]
  rfl
theorem Z5a:∀ (k:Nat),(∀ e t,CR e t→2 * SizeOf.sizeOf e < k→(Yc k).1 e t=some (opR (ap e (nrm t)))) ∧
  (∀ e t,CR e t→e.Kind=2→2 * SizeOf.sizeOf e≤k→∃ u b,(Yc k).2.1 e t=some (u,b)∧b=(ap e (nrm t)).isSome∧∀ v,ap e (nrm t)=some v→nrm u=v∧Bd u) ∧
  (∀ e t,CR e t→e.Kind=3→2 * SizeOf.sizeOf e≤k→∃ u b,(Yc k).2.2 e t=some (u,b)∧b=(ap e (nrm t)).isSome∧∀ v,ap e (nrm t)=some v→nrm u=v∧Bd u)
 | 0=>⟨fun e t _ h=>by omega,fun e t _ _ h=>by have:=Zfv e;omega,fun e t _ _ h=>by have:=Zfv e;omega⟩
 | k+1=>by
  obtain ⟨i1,i2,i3⟩:=Z5a k
  refine ⟨fun e t h hk => ?_,fun e t h k2 hk => ?_,fun e t h k3 hk => ?_⟩
  ·show Zal (Yc k).1 (Yc k).2.1 (Yc k).2.2 e t=_
   unfold Zal
   rcases h.c.x.kind with k0 | k1 | k2 | k3
   ·rw [show (e.Kind == 0)=true from by rw [k0];rfl,cond_true,Option.bind_some]
    refine Ygb (u:=t) ?_ fun v hv => ?_
    ·rw [Zft,if_pos k0];rfl
    rw [Zft,if_pos k0] at hv
    injection hv with hv
    exact ⟨hv,h.c.t⟩
   ·rw [show (e.Kind == 0)=false from by rw [k1];rfl,show (e.Kind == 1)=true from by rw [k1];rfl,cond_false,cond_true,Zy8 h.c.b.old h.c.t,Option.bind_some,Option.bind_some]
    refine Ygb (u:=e.New) ?_ fun v hv => ?_
    ·rw [Zft,if_neg (by omega),if_pos k1]
     by_cases he:nrm t=nrm e.Old
     ·rw [if_pos he,eqT_iff.2 he.symm];rfl
     rw [if_neg he]
     cases hq:eqT (nrm e.Old) (nrm t) with
     | false=>rfl
     | true=>exact absurd (eqT_iff.1 hq).symm he
    rw [Zft,if_neg (by omega),if_pos k1] at hv
    split at hv
    ·injection hv with hv
     exact ⟨hv,h.c.b.new⟩
    cases hv
   ·obtain ⟨u,b,q1,q2,q3⟩:=i2 e t h k2 (by omega)
    rw [show (e.Kind == 0)=false from by rw [k2];rfl,show (e.Kind == 1)=false from by rw [k2];rfl,show (e.Kind == 2)=true from by rw [k2];rfl,cond_false,cond_false,cond_true,q1,Option.bind_some,Option.bind_some]
    exact Ygb (u:=u) q2 q3
   obtain ⟨u,b,q1,q2,q3⟩:=i3 e t h k3 (by omega)
   rw [show (e.Kind == 0)=false from by rw [k3];rfl,show (e.Kind == 1)=false from by rw [k3];rfl,show (e.Kind == 2)=false from by rw [k3];rfl,show (e.Kind == 3)=true from by rw [k3];rfl,cond_false,cond_false,cond_false,cond_true,q1,Option.bind_some,Option.bind_some]
   exact Ygb (u:=u) q2 q3
  ·exact Z66 (f2:=(Yc k).2.1) (f3:=(Yc k).2.2) h k2 fun c hc x hx=>i1 c.E x hx (by have:=Za9 hc;omega)
  exact Yd3 (f2:=(Yc k).2.1) (f3:=(Yc k).2.2) h k3 fun o ho _ x hx=>i1 o.E x hx (by have:=Zd8 ho;omega)
theorem Yd2 {e:Ed} {t:Tr} (h:CR e t):Zer e t=some (opR (ap e (nrm t))):=Zep (2 * SizeOf.sizeOf e+1) fun k hk=>(Z5a k).1 e t h (by omega)
def frS (s:Int×Int) (x:Tr):Int×Int:=(if s.1 < (x.Words.length:Int) then (x.Words.length:Int) else s.1,if s.2 < (x.Kids.length:Int) then (x.Kids.length:Int) else s.2)
def fr (l:List Tr):Int×Int:=l.foldl frS (0,0)
def h9 (l:List Tr):Int:=IntKind.i64.wrap (1+IntKind.i64.wrap ((l.length:Int) * IntKind.i64.wrap ((fr l).1+(fr l).2)))
theorem Yec {t:Tr} {d:Nat} (h:rt t d=true):0≤t.Kind∧t.Kind≤10∧t.Kids.length < 1048576∧(t.Kind=0∨t.Kind=10→t.Kids=[])∧∀ k∈t.Kids,rt k (d - 1)=true:=by
 rw [Zdw] at h
 by_cases h0:t.Kind=0
 ·rw [if_pos h0,Bool.and_eq_true,beq_iff_eq,beq_iff_eq] at h
  have:=List.length_eq_zero_iff.1 h.2
  rw [this]
  exact ⟨by omega,by omega,by simp,fun _=>rfl,fun k hk=>by cases hk⟩
 by_cases h1:t.Kind=10
 ·rw [if_neg h0,if_pos h1,Bool.and_eq_true,beq_iff_eq,beq_iff_eq] at h
  have:=List.length_eq_zero_iff.1 h.2
  rw [this]
  exact ⟨by omega,by omega,by simp,fun _=>rfl,fun k hk=>by cases hk⟩
 rw [if_neg h0,if_neg h1] at h
 by_cases hb:t.Kind < 0∨10 < t.Kind∨d=0∨65536≤t.Words.length∨(t.Kind=1∧65536≤t.Kids.length)∨1048576≤t.Kids.length∨(1 < t.Kind∧0 < t.Words.length)
 ·rw [if_pos hb] at h;cases h
 rw [if_neg hb,List.all_eq_true] at h
 refine ⟨by omega,by omega,by omega,fun q=>by omega,fun k hk => ?_⟩
 have:=h k hk
 rw [Bool.and_eq_true] at this
 exact this.1
theorem Z4w {α:Type} {f:α→Nat} {x:α}:∀ {l:List α},x∈l→f x≤(l.map f).sum
 | [],h=>by cases h
 | y::l,h=>by
  simp only [List.map_cons,List.sum_cons]
  rcases List.mem_cons.1 h with rfl | h
  ·omega
  have:=Z4w (f:=f) h;omega
theorem Z8i {α β:Type} {f:α→Nat} {g:β→Nat} (p:α→β):∀ {l:List α},(∀ x∈l,g (p x)≤f x)→((l.map p).map g).sum≤(l.map f).sum
 | [],_=>by simp
 | y::l,h=>by
  have:=Z8i p fun x hx=>h x (.tail _ hx)
  have:=h y (.head _)
  simp only [List.map_cons,List.sum_cons]
  omega
theorem Z98 {α:Type} {p:α→Bool} {f:α→Nat}:∀ l:List α,((tr p l).map f).sum≤(l.map f).sum
 | []=>by simp [tr]
 | x::l=>by
  have:=Z98 (p:=p) (f:=f) l
  by_cases h:tr p l=[]
  ·rw [Zeb h]
   split <;> simp
  rw [Zh7 h]
  simp only [List.map_cons,List.sum_cons]
  omega
theorem Yj4 (t:Tr):1≤pt t:=by rw [Zcl];omega
theorem Yj3 {t x:Tr} (h:x∈t.Kids):pt x+1≤pt t:=by
 have:=Z4w (f:=pt) h
 rw [Zcl t]
 omega
theorem Z8o:∀ (n:Nat) (t:Tr),SizeOf.sizeOf t < n→pt (nrm t)≤pt t
 | 0,_,h=>by omega
 | n+1,t,h=>by
  have ih:∀ x∈t.Kids,pt (nrm x)≤pt x:=fun x hx=>Z8o n x (by have:=Uu hx;omega)
  have e:=Z8i (f:=pt) (g:=pt) nrm ih
  by_cases h0:t.Kind=0
  ·rw [Zca h0,Zcl]
   exact Yj4 t
  by_cases h1:t.Kind=1
  ·rw [Qy h1,Zcl,Zcl t]
   simp only
   have a:=Zc6 (fun x:Int=>x == 0) t.Words
   have b:=Z98 (p:=fun x:Tr=>x.Kind == 0) (f:=pt) (t.Kids.map nrm)
   exact Nat.add_le_add (Nat.add_le_add_left a 1) (Nat.le_trans b e)
  rw [Ui h0 h1,Zcl,Zcl t]
  simp only
  omega
theorem Z1d {t:Tr} {d:Nat} (h:rt t d=true) (h0:¬ t.Kind=0) (h1:¬ t.Kind=10):t.Words.length < 65536∧(t.Kind=1→t.Kids.length < 65536)∧(1 < t.Kind→t.Words=[])∧∀ k∈t.Kids,rt k (d - 1)=true∧okk t.Kind k=true:=by
 rw [Zdw,if_neg h0,if_neg h1] at h
 by_cases hb:t.Kind < 0∨10 < t.Kind∨d=0∨65536≤t.Words.length∨(t.Kind=1∧65536≤t.Kids.length)∨1048576≤t.Kids.length∨(1 < t.Kind∧0 < t.Words.length)
 ·rw [if_pos hb] at h;cases h
 rw [if_neg hb,List.all_eq_true] at h
 refine ⟨by omega,fun h=>by omega,fun h=>List.length_eq_zero_iff.1 (by omega),fun k hk => ?_⟩
 have:=h k hk
 rwa [Bool.and_eq_true] at this
def zs (l:List Int) (N:Nat):List Int:=l++List.replicate (N - l.length) 0
def Ypc (t:Tr) (l:List Int) (a:Nat):Int:=if t.Words.length+t.Kids.length=0 then -1 else (l.length:Int) - a - 1
theorem Zpy {kind:Int} {k:Tr} (h:¬ (2≤kind∧kind≤7)) (hk:okk kind k=true):¬ k.Kind=10∧(kind=9→k.Kind=1):=by
 unfold okk at hk
 rw [if_neg h,Bool.and_eq_true,bne_iff_ne,Bool.or_eq_true,bne_iff_ne,beq_iff_eq] at hk
 exact ⟨hk.1,fun h9=>by rcases hk.2 with h | h;exact absurd h9 h;exact h⟩
structure Fine (t:Tr) (d:Nat):Prop where
 bd:Bd t
 rt:rt t d=true
 pt:pt t≤200000
theorem Fine.kid {t x:Tr} {d:Nat} (h:Fine t d) (hx:x∈t.Kids):Fine x (d - 1):=⟨h.bd.all x hx,(Yec h.rt).2.2.2.2 x hx,by have:=h.pt;have:=Yj3 hx;omega⟩
theorem Fine.nrm {t:Tr} {d:Nat} (h:Fine t d):Fine (nrm t) d:=⟨h.bd.nrm,rtN h.rt,Nat.le_trans (Z8o _ t (Nat.lt_succ_self _)) h.pt⟩
structure Nm (t:Tr) (d:Nat):Prop where
 f:Fine t d
 n:nrm t=t
 k:¬ t.Kind=10
theorem Nm.kid {t x:Tr} {d:Nat} (h:Nm t d) (h0:¬ t.Kind=0) (hx:x∈t.Kids) (h10:¬ x.Kind=10):Nm x (d - 1):=by
 refine ⟨h.f.kid hx,?_,h10⟩
 have hn:=h.n
 by_cases h1:t.Kind=1
 ·rw [Qy h1] at hn
  rw [← hn] at hx
  simp only at hx
  obtain ⟨y,_,rfl⟩:=List.mem_map.1 (Zfq hx)
  exact Z0l y
 rw [Ui h0 h1] at hn
 rw [← hn] at hx
 simp only at hx
 obtain ⟨y,_,rfl⟩:=List.mem_map.1 hx
 exact Z0l y
theorem Nm.words {t:Tr} {d:Nat} (h:Nm t d) (h1:t.Kind=1):tr (fun x=>x == 0) t.Words=t.Words:=by
 have hn:=h.n
 rw [Qy h1] at hn
 exact congrArg Za.Words hn
theorem Nm.kids {t:Tr} {d:Nat} (h:Nm t d) (h1:t.Kind=1):tr (fun x=>x.Kind == 0) t.Kids=t.Kids:=by
 have hn:=h.n
 rw [Qy h1] at hn
 have:=congrArg Za.Kids hn
 simp only at this
 rw [← this,Zzj]
theorem Nm.okids {t:Tr} {d:Nat} (h:Nm t d) (h18:t.Kind=1∨t.Kind=8):∀ x∈t.Kids,Nm x (d - 1):=fun x hx =>
 h.kid (by omega) hx (Zpy (by omega) ((Z1d h.f.rt (by omega) h.k).2.2.2 x hx).2).1
theorem Nm.null {t:Tr} {d:Nat} (h:Nm t d) (h0:t.Kind=0):t=⟨0,[],[]⟩:=by
 have:=h.n
 rwa [Zca h0,eq_comm] at this
def hdS (t:Tr) (l:List Int) (a:Nat):Int:=Ypc t l a % 1073741824 * 4+(t.Words.length:Int) * 4294967296+(t.Kids.length:Int) * 281474976710656
def hv (t:Tr) (l:List Int) (a:Nat) (c:Int):Int:=if t.Kind=0 then 0 else if t.Kind=1 then hdS t l a else ((l.length:Int) - a - 1) % 1073741824 * 4+1+(t.Kind - 2) * 4294967296+c * 34359738368
def StN (W K:Nat) (x:Tr):Prop:=x.Kind=1∧(∃ d,Nm x d)∧x.Words.length≤W∧x.Kids.length≤K
theorem StN.kids {W K:Nat} {x:Tr} (h:StN W K x):∀ y∈x.Kids,∃ d,Nm y d:=fun y hy=>by
 obtain ⟨k,⟨d,n⟩,_⟩:=h
 exact ⟨_,n.okids (.inl k) y hy⟩
section
variable {A:Zn}
theorem Zz1 {f:Zb→Int→Tr×Int×Int} {g:Int→Zb×Int}:∀ (m i:Nat) (left:Int) (acc:List Tr),(Yq f g m i left acc).2.2=0 →
  ∃ ts:List Tr,(Yq f g m i left acc).1=acc++ts∧ts.length=m∧∀ (j:Nat) (x:Tr),ts[j]? = some x→(g ((i+j:Nat):Int)).2=0∧∃ l',(f (g ((i+j:Nat):Int)).1 l').2.2=0∧x=(f (g ((i+j:Nat):Int)).1 l').1
 | 0,i,left,acc,_=>⟨[],by simp [Yq],rfl,fun j x h=>by simp at h⟩
 | m+1,i,left,acc,h=>by
  rw [Yq] at h ⊢
  by_cases h1:(g i).2≠0
  ·rw [if_pos h1] at h;exact absurd h h1
  rw [if_neg h1] at h ⊢
  by_cases h2:(f (g i).1 left).2.2≠0
  ·rw [if_pos h2] at h;exact absurd h h2
  rw [if_neg h2] at h ⊢
  obtain ⟨ts,c1,c2,c3⟩:=Zz1 m (i+1) _ _ h
  refine ⟨(f (g i).1 left).1::ts,by rw [c1,List.append_assoc];rfl,by rw [List.length_cons,c2],fun j x hx => ?_⟩
  cases j with
  | zero =>
   simp only [List.getElem?_cons_zero,Option.some.injEq] at hx
   exact ⟨by simpa using h1,left,by simpa using h2,by simpa using hx.symm⟩
  | succ j =>
   rw [List.getElem?_cons_succ] at hx
   have:=c3 j x hx
   rwa [show i+1+j=i+(j+1) by omega] at this
inductive MR (A:Zn):Zb→Tr→Prop
 | mk (r:Zb) (t:Tr) (ho:OKr A r) (hk:t.Kind=r.kind) (hw:t.Words=Y6 A r) (hl:(t.Kids.length:Int)=Ye r)
   (he:∀ (i:Nat) (x:Tr),t.Kids[i]? = some x→(Yo A r i).2=0) (hs:∀ (i:Nat) (x:Tr),t.Kids[i]? = some x→MR A (Yo A r i).1 x):MR A r t
theorem MR.o {r:Zb} {t:Tr} (h:MR A r t):OKr A r:=by cases h;assumption
theorem MR.kd {r:Zb} {t:Tr} (h:MR A r t):t.Kind=r.kind:=by cases h;assumption
theorem MR.ws {r:Zb} {t:Tr} (h:MR A r t):t.Words=Y6 A r:=by cases h;assumption
theorem MR.len {r:Zb} {t:Tr} (h:MR A r t):(t.Kids.length:Int)=Ye r:=by cases h;assumption
theorem MR.kid {r:Zb} {t:Tr} (h:MR A r t) {i:Nat} {x:Tr} (hx:t.Kids[i]? = some x):(Yo A r i).2=0∧MR A (Yo A r i).1 x:=by
 cases h with
 | mk _ _ _ _ _ _ he hs=>exact ⟨he i x hx,hs i x hx⟩
theorem Z74 {r:Zb} (h:OKr A r) (hk:r.kind=0∨r.kind=10):Ye r=0:=by
 cases h <;> simp_all [Ye,r0]
 omega
theorem Z8c {r:Zb} (h:OKr A r) (h0:Ye r=0):MR A r ⟨r.kind,Y6 A r,[]⟩ := .mk _ _ h rfl rfl (by simp [h0]) (fun i x hx=>by simp at hx) (fun i x hx=>by simp at hx)
theorem Z8d:∀ (d:Nat) (r:Zb) (left:Int),OKr A r→(U4 A d r left).2.2=0→MR A r (U4 A d r left).1:=fun d=>by
 induction d using Nat.strongRecOn with
 | _ d ih =>
  intro r left ho hq
  have iP:∀ (k:Nat) (r:Zb) (left:Int),0 < k→OKr A r→(Y5 A k d r left).2.2=0→MR A r (Y5 A k d r left).1:=fun k r left hk ho h=>by
   unfold Y5 at h ⊢
   by_cases q:k≤d
   ·rw [if_pos q] at h ⊢
    exact ih (d - k) (by omega) r left ho h
   rw [if_neg q] at h
   simp [bad] at h
  rw [Zfs] at hq ⊢
  unfold Ze7 at hq ⊢
  by_cases h0:r.kind=0
  ·rw [if_pos h0] at hq ⊢
   exact Z8c ho (Z74 ho (.inl h0))
  rw [if_neg h0] at hq ⊢
  by_cases h1:(d:Int) < lvR r∨left < wtR r
  ·rw [if_pos h1] at hq
   simp at hq
  rw [if_neg h1] at hq ⊢
  simp only at hq ⊢
  obtain ⟨ts,c1,c2,c3⟩:=Zz1 _ _ _ _ hq
  have hn:=Uy ho
  rw [c1,List.nil_append]
  have key:∀ (i:Nat) (x:Tr),ts[i]? = some x→(Yo A r i).2=0∧MR A (Yo A r i).1 x:=fun i x hx=>by
   have hi:i < ts.length:=(List.getElem?_eq_some_iff.1 hx).1
   obtain ⟨e1,l',e2,e3⟩:=c3 i x hx
   rw [Nat.zero_add] at e1 e2 e3
   refine ⟨e1,?_⟩
   have hi2:(0:Int)≤(i:Int)∧(i:Int) < Ye r:=by omega
   have hko:=Vd ho (i:Int)
   rw [e3]
   unfold Vc at e2 ⊢
   by_cases k9:r.kind=9
   ·rw [if_pos k9] at e2 ⊢
    have ks:=Zl3 (A:=A) k9 hi2
    generalize (Yo A r (i:Int)).1=k at *
    unfold stK at e2 ⊢
    simp only at e2 ⊢
    obtain ⟨ts',d1,d2,d3⟩:=Zz1 _ _ _ _ e2
    have hn':=Uy hko
    have hp:Ye k=k.ptrs:=by unfold Ye;rw [if_pos ks]
    rw [d1,List.nil_append]
    refine .mk _ _ hko ks.symm rfl (by simp only;omega) (fun j y hy => ?_) (fun j y hy => ?_)
    ·have:=(d3 j y hy).1
     rwa [Nat.zero_add] at this
    obtain ⟨f1,l'',f2,f3⟩:=d3 j y hy
    rw [Nat.zero_add] at f1 f2 f3
    rw [f3]
    exact iP 2 _ _ (by decide) (Vd hko _) f2
   rw [if_neg k9] at e2 ⊢
   by_cases k18:r.kind=1∨r.kind=8
   ·rw [if_pos k18] at e2 ⊢
    exact iP 1 _ _ (by decide) hko e2
   rw [if_neg k18] at e2 ⊢
   have kk:=Z75 ho
   have k10:¬ r.kind=10:=fun h=>by
    have:=Z74 ho (.inr h)
    omega
   exact Z8c hko (Zsn (A:=A) (by omega) hi2).2
  exact .mk _ _ ho rfl rfl (by simp only;omega) (fun i x hx=>(key i x hx).1) (fun i x hx=>(key i x hx).2)
theorem Yj8 {α:Type} (p:α→Bool) (l:List α):trN p l l.length=(tr p l).length:=by
 have:=Ztc (p:=p) (l:=l) l.length (Nat.le_refl _)
 rw [List.take_length] at this
 rw [← this.1,List.length_take]
 omega
theorem Yfs (hw:WS A.segments) {r:Zb} (h:OKr A r):Zf1 r=some (((tr (fun x=>x == 0) (Y6 A r)).length:Nat):Int):=by
 have hl:=Zia hw h
 have hn:(Y6 A r).length≤65536:=Zec h
 unfold Zf1
 rw [Zjx,Option.bind_some,← hl]
 rw [Zux (Y6 A r) (fun x=>x == 0) (Zcu r) (by omega) (by
  unfold Zcu
  rfl) (fun n x hx hn'=>by
  unfold Zcu
  have e:IntKind.i64.wrap (((n+1:Nat):Int) - 1)=(n:Int):=by rw [Yz (by omega) (by omega)];omega
  have ew:Zj2 A r (n:Int)=x:=by
   rw [← Zng hw h hn']
   rw [List.getElem?_eq_getElem hn'] at hx
   exact Option.some.inj hx
  rw [e,decide_eq_true (by omega),cond_true,Zsc hw h,Option.bind_some,ew,cond_true,Option.bind_some]
  cases hq:x == 0 with
  | true=>simp
  | false=>simp),Yj8]
 rfl
end
theorem Zyv {f:Zb→Int→Tr×Int×Int} {g:Int→Zb×Int} {w':Tr→Nat}:∀ (ts:List Tr) (i:Nat) (left:Int) (acc:List Tr),
  (∀ (j:Nat) (x:Tr),ts[j]? = some x→(g ((i+j:Nat):Int)).2=0∧∀ l':Int,((w' x:Nat):Int)≤l'→f (g ((i+j:Nat):Int)).1 l'=(x,l' - ((w' x:Nat):Int),0))→(((ts.map w').sum:Nat):Int)≤left →
  Yq f g ts.length i left acc=(acc++ts,left - (((ts.map w').sum:Nat):Int),0)
 | [],i,left,acc,_,_=>by simp [Yq]
 | x::ts,i,left,acc,h,hl=>by
  obtain ⟨e1,e2⟩:=h 0 x rfl
  rw [Nat.add_zero] at e1 e2
  have hs:(((x::ts).map w').sum:Nat)=w' x+(ts.map w').sum:=rfl
  rw [hs] at hl ⊢
  have e3:=e2 left (by omega)
  rw [List.length_cons,Yq,e1,if_neg (by simp),e3]
  simp only
  rw [if_neg (by simp),Zyv ts (i+1) _ _ (fun j y hy=>by
   have:=h (j+1) y (by rw [List.getElem?_cons_succ];exact hy)
   rwa [show i+(j+1)=i+1+j by omega] at this) (by omega),List.append_assoc]
  refine Prod.ext rfl (Prod.ext ?_ rfl)
  simp only
  omega
theorem Zs9 {α:Type} {f:α→Nat} {c:Nat}:∀ {l:List α},(∀ x∈l,f x=c)→(l.map f).sum=l.length * c
 | [],_=>by simp
 | x::l,h=>by
  have:=Zs9 (f:=f) (l:=l) fun y hy=>h y (.tail _ hy)
  simp only [List.map_cons,List.sum_cons,List.length_cons,this,h x (.head _),Nat.add_mul,Nat.one_mul]
  omega
theorem Z5m {α:Type} {f g:α→Nat} {c:Nat}:∀ {l:List α},(∀ x∈l,f x=c+g x)→(l.map f).sum=l.length * c+(l.map g).sum
 | [],_=>by simp
 | x::l,h=>by
  have:=Z5m (f:=f) (g:=g) (l:=l) fun y hy=>h y (.tail _ hy)
  simp only [List.map_cons,List.sum_cons,List.length_cons,this,h x (.head _),Nat.add_mul,Nat.one_mul]
  omega
theorem Zl6 {A:Zn} {r:Zb} {t:Tr} (h:MR A r t):(⟨r.kind,Y6 A r,t.Kids⟩:Tr)=t:=by
 obtain ⟨a,b,c⟩:=t
 have h1:=h.kd
 have h2:=h.ws
 simp only at h1 h2
 rw [h1,h2]
def wtK (t:Tr):Nat:=(t.Kids.map wt).sum
theorem Yef {t:Tr} {d:Nat} (h:rt t d=true) (h0:¬ t.Kind=0) (h1:¬ t.Kind=10):1≤d:=by
 rw [Zdw,if_neg h0,if_neg h1] at h
 by_cases hb:t.Kind < 0∨10 < t.Kind∨d=0∨65536≤t.Words.length∨(t.Kind=1∧65536≤t.Kids.length)∨1048576≤t.Kids.length∨(1 < t.Kind∧0 < t.Words.length)
 ·rw [if_pos hb] at h;cases h
 omega
theorem Yho {A:Zn}:∀ (d:Nat) (r:Zb) (u:Tr) (left:Int),MR A r u→rt u d=true→¬ u.Kind=10→((wt u:Nat):Int)≤left→U4 A d r left=(u,left - ((wt u:Nat):Int),0):=fun d=>by
 induction d using Nat.strongRecOn with
 | _ d ih =>
  intro r u left hm hr h10 hl
  have iP:∀ (k:Nat) (r:Zb) (u:Tr) (left:Int),0 < k→k≤d→MR A r u→rt u (d - k)=true→¬ u.Kind=10→((wt u:Nat):Int)≤left→Y5 A k d r left=(u,left - ((wt u:Nat):Int),0):=fun k r u left hk hkd hm hr h10 hl=>by
   unfold Y5
   rw [if_pos hkd]
   exact ih (d - k) (by omega) r u left hm hr h10 hl
  have hkd:=hm.kd
  have hlen:=hm.len
  have hln:(Ye r).toNat=u.Kids.length:=by omega
  have hwe:=Zx1 u
  rw [Zfs]
  unfold Ze7
  by_cases h0:r.kind=0
  ·rw [if_pos h0]
   have:=Z74 hm.o (.inl h0)
   have hk:u.Kids=[]:=List.length_eq_zero_iff.1 (by omega)
   have e:=Zl6 hm
   rw [hk] at e
   rw [if_pos (by omega)] at hwe
   rw [e,hwe]
   simp
  rw [if_neg h0]
  rw [if_neg (by omega),if_neg h10] at hwe
  have hd1:=Yef hr (by omega) h10
  have hri:=Z1d hr (by omega) h10
  -- a struct
  by_cases h1:r.kind=1
  ·have hw:=Ztj hm.o h1
   rw [← hm.ws] at hw
   have hk:Ye r=r.ptrs:=by unfold Ye;rw [if_pos h1]
   have ewt:wtR r=1+((u.Words.length:Int)+(u.Kids.length:Int)):=by unfold wtR;rw [if_neg h0,if_pos h1];omega
   have elv:lvR r=1:=by unfold lvR;rw [if_neg h0,if_neg (by omega)]
   rw [if_pos (by omega)] at hwe
   have ef:Vc A (Y5 A 1 d) (Y5 A 2 d) r=Y5 A 1 d:=by unfold Vc;rw [if_neg (by omega),if_pos (.inl h1)]
   have main:=Zyv (f:=Y5 A 1 d) (g:=Yo A r) (w':=wt) u.Kids 0 (left - wtR r) [] (fun j x hx=>by
    obtain ⟨e1,e2⟩:=hm.kid hx
    have hxm:=List.mem_of_getElem? hx
    rw [Nat.zero_add]
    exact ⟨e1,fun l' hl'=>iP 1 _ _ _ (by decide) hd1 e2 (hri.2.2.2 x hxm).1 (Zpy (by omega) (hri.2.2.2 x hxm).2).1 hl'⟩) (by omega)
   rw [if_neg (by omega),hln,ef]
   simp only
   rw [main]
   simp only [List.nil_append]
   rw [Zl6 hm]
   refine Prod.ext rfl (Prod.ext ?_ rfl)
   simp only
   omega
  have hk:Ye r=r.count:=by unfold Ye;rw [if_neg h1]
  rw [if_neg (by omega)] at hwe
  by_cases h9:r.kind=9
  ·rw [if_neg (by omega)] at hwe
   have st:∀ (j:Nat) (x:Tr),u.Kids[j]? = some x→MR A ⟨some A,1,r.segment,r.at_+1+(j:Int) * (r.words+r.ptrs),r.words,r.ptrs,0,0,0⟩ x∧(x.Words.length:Int)=r.words∧(x.Kids.length:Int)=r.ptrs∧x.Kind=1:=fun j x hx=>by
    obtain ⟨e1,e2⟩:=hm.kid hx
    have hj:j < u.Kids.length:=(List.getElem?_eq_some_iff.1 hx).1
    have hks:=Z6q (A:=A) h9 (i:=(j:Int)) (by omega)
    rw [hks] at e2
    have q1:=e2.kd
    have q2:=Ztj e2.o rfl
    rw [← e2.ws] at q2
    have q3:=e2.len
    exact ⟨e2,q2,q3,q1⟩
   by_cases hn:u.Kids.length=0
   ·have hz:u.Kids=[]:=List.length_eq_zero_iff.1 hn
    have ewt:wtR r=1:=by unfold wtR;rw [if_neg h0,if_neg h1,if_pos h9,← hk,← hlen,hn];simp
    have elv:lvR r=1:=by unfold lvR;rw [if_neg h0,if_neg (by omega)]
    rw [if_neg (by rw [hz] at hwe;simp at hwe;omega),hln,hn]
    simp only [Yq]
    have e:=Zl6 hm
    rw [hz] at e
    rw [e,hwe,hz,ewt]
    rfl
   obtain ⟨x0,hx0⟩:∃ x,u.Kids[0]? = some x:=⟨_,List.getElem?_eq_getElem (by omega)⟩
   obtain ⟨_,w0,p0,k0⟩:=st 0 x0 hx0
   have hd2:2≤d:=by
    have:=Yef (hri.2.2.2 x0 (List.mem_of_getElem? hx0)).1 (by omega) (by omega)
    omega
   have hsum:(u.Kids.map wt).sum=u.Kids.length * (1+(x0.Words.length+x0.Kids.length))+(u.Kids.map wtK).sum:=Z5m fun x hx=>by
    obtain ⟨j,hj⟩:=List.mem_iff_getElem?.1 hx
    obtain ⟨_,q1,q2,q3⟩:=st j x hj
    rw [Zx1,if_neg (by omega),if_neg (by omega),if_pos q3]
    unfold wtK
    omega
   have ewt:wtR r=1+((u.Kids.length * (1+(x0.Words.length+x0.Kids.length)):Nat):Int):=by
    unfold wtR
    rw [if_neg h0,if_neg h1,if_pos h9,← w0,← p0,← hk,← hlen,Int.natCast_mul,Int.natCast_add,Int.natCast_add,← Int.add_assoc]
    rfl
   have elv:lvR r=2:=by unfold lvR;rw [if_neg h0,if_pos ⟨h9,by omega⟩]
   have ef:Vc A (Y5 A 1 d) (Y5 A 2 d) r=stK A (Y5 A 2 d):=by unfold Vc;rw [if_pos h9]
   have main:=Zyv (f:=stK A (Y5 A 2 d)) (g:=Yo A r) (w':=wtK) u.Kids 0 (left - wtR r) [] (fun j x hx=>by
    obtain ⟨e2,q1,q2,q3⟩:=st j x hx
    have hj:j < u.Kids.length:=(List.getElem?_eq_some_iff.1 hx).1
    have hxr:=hri.2.2.2 x (List.mem_of_getElem? hx)
    have hxi:=Z1d hxr.1 (by omega) (by omega)
    have hks:=Z6q (A:=A) h9 (i:=(j:Int)) (by omega)
    rw [Nat.zero_add,hks]
    refine ⟨rfl,fun l' hl' => ?_⟩
    unfold stK
    have hp:(r.ptrs).toNat=x.Kids.length:=by omega
    have inner:=Zyv (f:=Y5 A 2 d) (g:=Yo A ⟨some A,1,r.segment,r.at_+1+(j:Int) * (r.words+r.ptrs),r.words,r.ptrs,0,0,0⟩) (w':=wt) x.Kids 0 l' [] (fun j' y hy=>by
     obtain ⟨f1,f2⟩:=e2.kid hy
     have hym:=List.mem_of_getElem? hy
     rw [Nat.zero_add]
     refine ⟨f1,fun l'' hl''=>iP 2 _ _ _ (by decide) hd2 f2 ?_ (Zpy (by omega) (hxi.2.2.2 y hym).2).1 hl''⟩
     rw [show d - 2=d - 1 - 1 by omega]
     exact (hxi.2.2.2 y hym).1) hl'
    simp only
    rw [hp,inner]
    simp only [List.nil_append]
    have e:=Zl6 e2
    simp only at e
    rw [e]
    rfl) (by omega)
   rw [if_neg (by omega),hln,ef]
   simp only
   rw [main]
   simp only [List.nil_append]
   rw [Zl6 hm]
   refine Prod.ext rfl (Prod.ext ?_ rfl)
   simp only
   omega
  have ewt:wtR r=1+(u.Kids.length:Int):=by unfold wtR;rw [if_neg h0,if_neg h1,if_neg h9];omega
  have elv:lvR r=1:=by unfold lvR;rw [if_neg h0,if_neg (by omega)]
  by_cases h8:r.kind=8
  ·rw [if_pos (by omega)] at hwe
   have ef:Vc A (Y5 A 1 d) (Y5 A 2 d) r=Y5 A 1 d:=by unfold Vc;rw [if_neg (by omega),if_pos (.inr h8)]
   have main:=Zyv (f:=Y5 A 1 d) (g:=Yo A r) (w':=wt) u.Kids 0 (left - wtR r) [] (fun j x hx=>by
    obtain ⟨e1,e2⟩:=hm.kid hx
    have hxm:=List.mem_of_getElem? hx
    rw [Nat.zero_add]
    exact ⟨e1,fun l' hl'=>iP 1 _ _ _ (by decide) hd1 e2 (hri.2.2.2 x hxm).1 (Zpy (by omega) (hri.2.2.2 x hxm).2).1 hl'⟩) (by omega)
   rw [if_neg (by omega),hln,ef]
   simp only
   rw [main]
   simp only [List.nil_append]
   rw [Zl6 hm]
   refine Prod.ext rfl (Prod.ext ?_ rfl)
   simp only
   omega
  rw [if_neg (by omega)] at hwe
  have kk:=Z75 hm.o
  have h27:2≤u.Kind∧u.Kind≤7:=by omega
  have hone:(u.Kids.map wt).sum=u.Kids.length * 1:=Zs9 fun x hx=>by
   have:=(hri.2.2.2 x hx).2
   unfold okk at this
   rw [if_pos h27,Bool.and_eq_true,beq_iff_eq] at this
   rw [Zx1,if_neg (by omega),if_pos this.1]
  have hz:(u.Kids.map fun _=>0).sum=u.Kids.length * 0:=Zs9 fun x hx=>rfl
  have ef:Vc A (Y5 A 1 d) (Y5 A 2 d) r=Zgj A:=by unfold Vc;rw [if_neg (by omega),if_neg (by omega)]
  have main:=Zyv (f:=Zgj A) (g:=Yo A r) (w':=fun _=>0) u.Kids 0 (left - wtR r) [] (fun j x hx=>by
   obtain ⟨e1,e2⟩:=hm.kid hx
   have hj:j < u.Kids.length:=(List.getElem?_eq_some_iff.1 hx).1
   have q:=Zsn (A:=A) (r:=r) (by omega) (i:=(j:Int)) (by omega)
   rw [Nat.zero_add]
   refine ⟨e1,fun l' hl' => ?_⟩
   have e:=Zl6 e2
   have hl2:=e2.len
   have hk0:x.Kids=[]:=List.length_eq_zero_iff.1 (by omega)
   rw [hk0] at e
   unfold Zgj
   rw [e]
   simp) (by rw [hz];omega)
  rw [if_neg (by omega),hln,ef]
  simp only
  rw [main,hz]
  simp only [List.nil_append]
  rw [Zl6 hm]
  refine Prod.ext rfl (Prod.ext ?_ rfl)
  simp only
  omega
theorem Yhr:∀ (n:Nat) (t:Tr) (d:Nat),SizeOf.sizeOf t < n→rt t d=true→(t.Kind=0→pt t=1)∧(¬ t.Kind=0→pt t+1≤3 * wt t)
 | 0,_,_,h,_=>by omega
 | n+1,t,d,h,hr=>by
  have g:=Yec hr
  have ih:∀ x∈t.Kids,(x.Kind=0→pt x=1)∧(¬ x.Kind=0→pt x+1≤3 * wt x):=fun x hx=>Yhr n x (d - 1) (by have:=Uu hx;omega) (g.2.2.2.2 x hx)
  have hp:=Zcl t
  have hwe:=Zx1 t
  refine ⟨fun h0 => ?_,fun h0 => ?_⟩
  ·have:=hr
   rw [Zdw,if_pos h0,Bool.and_eq_true,beq_iff_eq,beq_iff_eq] at this
   rw [hp,List.length_eq_zero_iff.1 this.2,this.1]
   rfl
  rw [if_neg h0] at hwe
  by_cases h10:t.Kind=10
  ·obtain ⟨w,hw⟩:=Zs7 h10 hr
   rw [if_pos h10] at hwe
   rw [hp,hwe,hw,g.2.2.2.1 (.inr h10)]
   simp
  rw [if_neg h10] at hwe
  have hri:=Z1d hr h0 h10
  have s1:(t.Kids.map pt).sum≤(t.Kids.map fun x=>3 * wt x+1).sum:=Z1k t.Kids fun x hx=>by
   have:=ih x hx
   by_cases q:x.Kind=0
   ·have:=this.1 q;omega
   have:=this.2 q;omega
  rw [Zxw (fun x=>3 * wt x),Z1l] at s1
  by_cases h1:t.Kind=1
  ·rw [if_pos h1] at hwe
   omega
  have hw0:=hri.2.2.1 (by omega)
  rw [hw0] at hp
  simp only [List.length_nil] at hp
  rw [if_neg h1] at hwe
  by_cases h8:t.Kind=8
  ·rw [if_pos h8] at hwe
   omega
  rw [if_neg h8] at hwe
  have s2:(t.Kids.map fun x=>pt x+1).sum≤(t.Kids.map fun x=>3 * wt x).sum:=Z1k t.Kids fun x hx=>by
   have:=(hri.2.2.2 x hx).2
   unfold okk at this
   refine (ih x hx).2 ?_
   by_cases q:2≤t.Kind∧t.Kind≤7
   ·rw [if_pos q,Bool.and_eq_true,beq_iff_eq] at this
    omega
   have:=(Zpy q (hri.2.2.2 x hx).2).2 (by omega)
   omega
  rw [Zxw,Z1l] at s2
  omega
section
variable {A:Zn}
theorem Z8a (hw:WS A.segments) {d:Nat} (hd:d≤64) {r:Zb} (ho:OKr A r) (h10:r.kind≠10) {left:Int} (h0:0≤left) (h1:left≤65536) (hq:(U4 A d r left).2.2=0) :
  ((wt (U4 A d r left).1:Nat):Int)≤left∧rt (U4 A d r left).1 d=true∧(U4 A d r left).1.Kind=r.kind:=by
 obtain ⟨a1,a2,a3,a4⟩:=Yfl hw d hd r left ho h10 h0 h1 hq
 have hm:=Z8d d r left ho hq
 have e:=Yho d r (U4 A d r left).1 (left+((wt (U4 A d r left).1:Nat):Int)) hm a4.2.2 (by rw [a3];exact h10) (by omega)
 have:=(Yfz (A:=A) d d (Nat.le_refl _) r left ((wt (U4 A d r left).1:Nat):Int) h0 (by omega) hq).2
 rw [e] at this
 simp only at this
 exact ⟨by omega,a4.2.2,a3⟩
theorem Ybl (hw:WS A.segments) (x:Yi) (h:(Zja A x).2.2=0):Fine (Zja A x).1 64∧¬ (Zja A x).1.Kind=10∧(atR A 0 0).2=0∧MR A (atR A 0 0).1 (Zja A x).1:=by
 have hl:=Z6v x
 have hb:=Yg5 (A:=A) hw x
 rcases Z3i (A:=A) x with ⟨h1,h2,h3⟩ | ⟨h1,h2,h3,h4,h5⟩
 ·exact absurd h h1
 rw [h5] at hb ⊢
 have hk:=Yb7 (A:=A) 0 0
 obtain ⟨m1,m2,m3⟩:=Z8a hw hl.1 (Zj6 (A:=A) 0 0) hk hl.2.1 hl.2.2 h4
 have r64:=Z8z _ _ (Nat.lt_succ_self _) _ 64 hl.1 m2
 have p:=Yhr _ _ _ (Nat.lt_succ_self _) m2
 refine ⟨⟨hb,r64,?_⟩,by rw [m3];exact hk,h3,Z8d _ _ _ (Zj6 0 0) h4⟩
 by_cases q:(U4 A (Zby x).Depth.toNat (atR A 0 0).1 (Zby x).Weight).1.Kind=0
 ·have:=p.1 q;omega
 have:=p.2 q;omega
end
def nd (t:Tr):Nat:=1+(t.Kids.attach.map fun k=>nd k.1).sum
termination_by SizeOf.sizeOf t
decreasing_by exact Uu k.2
theorem Ydh (t:Tr):nd t=1+(t.Kids.map nd).sum:=by
 rw [nd]
 simp
inductive Mn (A:Zn):Zb→Tr→Prop
 | mk {r:Zb} {t:Tr} (hr:OKr A r) (hk:t.Kind=r.kind) (hw:t.Words=Y6 A r) (hl:(t.Kids.length:Int)=Ye r) (he:∀ (i:Nat) (x:Tr),t.Kids[i]? = some x→(Yo A r i).2=0) (h:∀ (i:Nat) (x:Tr),t.Kids[i]? = some x→Mn A (Yo A r i).1 x):Mn A r t
section
variable {A B:Zn}
theorem Mn.ok {r:Zb} {t:Tr} (h:Mn A r t):OKr A r:=by cases h;assumption
theorem Mn.kd {r:Zb} {t:Tr} (h:Mn A r t):t.Kind=r.kind:=by cases h;assumption
theorem Mn.wd {r:Zb} {t:Tr} (h:Mn A r t):t.Words=Y6 A r:=by cases h;assumption
theorem Mn.ln {r:Zb} {t:Tr} (h:Mn A r t):(t.Kids.length:Int)=Ye r:=by cases h;assumption
theorem Mn.er {r:Zb} {t:Tr} (h:Mn A r t):∀ (i:Nat) (x:Tr),t.Kids[i]? = some x→(Yo A r i).2=0:=by cases h;assumption
theorem Mn.kid {r:Zb} {t:Tr} (h:Mn A r t):∀ (i:Nat) (x:Tr),t.Kids[i]? = some x→Mn A (Yo A r i).1 x:=by cases h;assumption
theorem Yg4 {p:Int→Bool} {l:List Int} {i:Nat} (hi:i < (tr p l).length):∃ h:i < l.length,(tr p l)[i]? = some (l[i]'h):=by
 have h:=Z99 p l
 have hl:=Zc6 p l
 refine ⟨by omega,?_⟩
 rw [← h,List.getElem?_take,if_pos hi,List.getElem?_eq_getElem (by omega)]
def eqv (t u:Tr):Bool:=eqT (nrm t) (nrm u)
theorem Yck {t u:Tr} (h:t.Kind≠u.Kind):eqv t u=false:=by
 unfold eqv
 rw [Z6e,U5,U5,beq_eq_false_iff_ne.2 h]
 rfl
theorem Mn.w0 {r:Zb} {t:Tr} (h:Mn A r t) (h1:t.Kind≠1) (h10:t.Kind≠10):t.Words=[]:=by
 rw [h.wd]
 unfold Y6
 rw [← h.kd,if_neg h10,if_neg h1]
theorem Mn.w1 {r:Zb} {t:Tr} (h:Mn A r t) (h10:t.Kind=10):∃ x,t.Words=[x]:=by
 rw [h.wd]
 unfold Y6
 rw [← h.kd,if_pos h10]
 exact ⟨_,rfl⟩
end
theorem Yjl:fol [[4294967296,7]] 0 0=(⟨⟨1,0,1,0,0,0,0,false⟩,0,1⟩,0):=rfl
theorem Yfx {A:Zn} {r:Zb} {ws:List Int} (hr:OKr A r) (h1:r.kind=1) (h2:Y6 A r=ws) (h3:r.ptrs=0):Mn A r ⟨1,ws,[]⟩ :=
 .mk hr h1.symm h2.symm (by unfold Ye;rw [if_pos h1,h3];rfl) (fun i x hx=>by simp at hx) (fun i x hx=>by simp at hx)
theorem Ykl:(atR ⟨[[4294967296,7]],0,0⟩ 0 0).1=⟨some ⟨[[4294967296,7]],0,0⟩,1,0,1,1,0,0,0,0⟩:=by
 unfold atR
 simp only
 rw [Yjl]
 rfl
theorem Yhn:Mn ⟨[[4294967296,7]],0,0⟩ (atR ⟨[[4294967296,7]],0,0⟩ 0 0).1 ⟨1,[7],[]⟩:=by
 refine Yfx (Zj6 0 0) ?_ ?_ ?_ <;> rw [Ykl] <;> rfl
theorem Z4q {R:Type} (n:Nat) (q:Nat→Bool) (e o:R) (step:Int→Option (Int ⊕ R)) (hn:(n:Int)≤140737488355328)
  (h1:∀ i:Nat,i < n→step (i:Int)=some (if q i=true then .inl (IntKind.i64.wrap ((i:Int)+1)) else .inr e)) (h2:step (n:Int)=some (.inr o)):Zv step 0=some (if (List.range n).all q=true then o else e) :=
 Zjl (List.range n) step q e o (by rw [List.length_range];exact hn) (fun i x hi hx _=>by
  rw [List.length_range] at hi
  rw [List.getElem?_range hi] at hx
  injection hx with hx
  subst hx
  exact h1 i hi) (by rw [List.length_range];exact h2)
theorem Zy5 {n:Nat} {q:Nat→Bool}:(List.range n).all q=true↔∀ i,i < n→q i=true:=by
 rw [List.all_eq_true]
 exact ⟨fun h i hi=>h i (List.mem_range.2 hi),fun h i hi=>h i (List.mem_range.1 hi)⟩
theorem U8 {α:Type} {z:α} {l:List α} {i:Nat} (h:l.length≤i):Xk z l i=z:=by unfold Xk;rw [List.getElem?_eq_none h];rfl
theorem U7 {α:Type} {z:α} {l:List α} {i:Nat} (h:i < l.length):Xk z l i=l[i]:=by unfold Xk;rw [List.getElem?_eq_getElem h];rfl
theorem Zfr (l:List Tr) (i:Nat):Xk n0T (l.map nrm) i=nrm (Xk n0T l i):=by
 by_cases h:i < l.length
 ·rw [U7 h,U7 (by rw [List.length_map];exact h),List.getElem_map]
 rw [U8 (l:=l.map nrm) (by rw [List.length_map];omega),U8 (l:=l) (by omega)];exact NT.z.symm
theorem Z7q {α:Type} {z:α} {l m:List α} (hl:l.length=m.length) (h:∀ i,Xk z l i=Xk z m i):l=m:=by
 refine List.ext_getElem hl fun i h1 h2 => ?_
 have:=h i
 rwa [U7 h1,U7 h2] at this
theorem eqv_iff {t u:Tr}:eqv t u=true↔nrm t=nrm u:=by unfold eqv;exact eqT_iff
theorem Zs0 (l:List Tr):∀ x∈l.map nrm,pT x=true→x=n0T:=fun x hx h=>by
 obtain ⟨y,_,rfl⟩:=List.mem_map.1 hx
 exact (NT.of y).null h
theorem Yfi {t u:Tr} (hk:t.Kind=u.Kind) (h0:t.Kind≠0) (hl:t.Kind≠1→t.Kids.length=u.Kids.length) (hw:t.Kind≠1→t.Words.length=u.Words.length) :
  eqv t u=true↔(∀ i,Xk 0 t.Words i=Xk 0 u.Words i)∧∀ i,eqv (Xk n0T t.Kids i) (Xk n0T u.Kids i)=true:=by
 rw [eqv_iff]
 by_cases h1:t.Kind=1
 ·rw [Qy h1,Qy (hk ▸ h1)]
  constructor
  ·intro h
   injection h with _ h2 h3
   refine ⟨fun i => ?_,fun i=>eqv_iff.2 ?_⟩
   ·have e1:=Zr9 (z:=(0:Int)) (p:=p0) t.Words (fun x _=>Zye) i
    have e2:=Zr9 (z:=(0:Int)) (p:=p0) u.Words (fun x _=>Zye) i
    rw [← e1,← e2]
    exact congrArg (fun l=>Xk 0 l i) h2
   have e1:=Zr9 (z:=n0T) (p:=pT) (t.Kids.map nrm) (Zs0 _) i
   have e2:=Zr9 (z:=n0T) (p:=pT) (u.Kids.map nrm) (Zs0 _) i
   rw [← Zfr,← Zfr,← e1,← e2]
   exact congrArg (fun l=>Xk n0T l i) h3
  intro ⟨h2,h3⟩
  have e1:tr p0 t.Words=tr p0 u.Words:=Ztd (z:=(0:Int)) rfl _ _ (fun x _=>Zye) (fun x _=>Zye) h2
  have e2:tr pT (t.Kids.map nrm)=tr pT (u.Kids.map nrm):=Ztd (z:=n0T) rfl _ _ (Zs0 _) (Zs0 _) fun i=>by rw [Zfr,Zfr];exact eqv_iff.1 (h3 i)
  have e1':tr (fun x:Int=>x == 0) t.Words=tr (fun x:Int=>x == 0) u.Words:=e1
  have e2':tr (fun x:Tr=>x.Kind == 0) (t.Kids.map nrm)=tr (fun x:Tr=>x.Kind == 0) (u.Kids.map nrm):=e2
  rw [e1',e2']
 have h0':¬ u.Kind=0:=fun q=>h0 (hk.trans q)
 have h1':¬ u.Kind=1:=fun q=>h1 (hk.trans q)
 rw [Ui h0 h1,Ui h0' h1',hk]
 constructor
 ·intro h
  injection h with _ h2 h3
  exact ⟨fun i=>by rw [h2],fun i=>eqv_iff.2 (by rw [← Zfr,← Zfr,h3])⟩
 intro ⟨h2,h3⟩
 rw [Z7q (hw h1) h2,Z7q (z:=n0T) (l:=t.Kids.map nrm) (m:=u.Kids.map nrm) (by rw [List.length_map,List.length_map];exact hl h1) fun i=>by rw [Zfr,Zfr];exact eqv_iff.1 (h3 i)]
theorem Yjx {t k:Tr} (h:k∈t.Kids):nd k < nd t:=by
 rw [Ydh t]
 have:∀ l:List Tr,k∈l→nd k≤(l.map nd).sum:=fun l=>by
  induction l with
  | nil=>intro h;cases h
  | cons x l ih =>
   intro h
   rw [List.map_cons,List.sum_cons]
   rcases List.mem_cons.1 h with rfl | h
   ·omega
   have:=ih h;omega
 have:=this _ h
 omega
theorem Yb5 {t:Tr} (i:Nat):nd (Xk n0T t.Kids i)≤nd t∧(i < t.Kids.length→nd (Xk n0T t.Kids i) < nd t):=by
 by_cases h:i < t.Kids.length
 ·rw [U7 h]
  have:=Yjx (List.getElem_mem h)
  exact ⟨by omega,fun _=>this⟩
 rw [U8 (by omega)]
 have e:nd n0T=1:=by rw [Ydh];rfl
 rw [e,Ydh t]
 exact ⟨by omega,fun q=>absurd q h⟩
theorem Z7c {u:Tr} {d:Nat} (h:rt u d=true):∀ k∈u.Kids,rt k (d - 1)=true:=fun k hk=>by
 rw [Zdw] at h
 by_cases h0:u.Kind=0
 ·rw [if_pos h0,Bool.and_eq_true,beq_iff_eq,beq_iff_eq] at h
  rw [List.eq_nil_of_length_eq_zero h.2] at hk;cases hk
 rw [if_neg h0] at h
 by_cases h1:u.Kind=10
 ·rw [if_pos h1,Bool.and_eq_true,beq_iff_eq,beq_iff_eq] at h
  rw [List.eq_nil_of_length_eq_zero h.2] at hk;cases hk
 rw [if_neg h1] at h
 split at h
 ·cases h
 rw [List.all_eq_true] at h
 have:=h k hk
 rw [Bool.and_eq_true] at this
 exact this.1
theorem Zj7:Bd n0T := .mk _ (by simp [n0T]) (by simp [n0T]) (by simp [n0T]) (by simp [n0T])
theorem Yed (d:Nat):rt n0T d=true:=by rw [Zdw];rfl
section
variable {A:Zn}
theorem Zti (hw:WS A.segments) {r:Zb} (h:OKr A r) (i:Nat):Zj2 A r (i:Int)=Xk 0 (Y6 A r) i:=by
 have hl:=Zia hw h
 by_cases hi:i < (Y6 A r).length
 ·rw [U7 hi,Zng hw h hi]
 rw [U8 (by omega)]
 unfold Zj2
 rw [if_pos (.inr (by omega))]
theorem Mn.z:Mn A r0 n0T := .mk .z rfl rfl rfl (fun i x hx=>by simp [n0T] at hx) (fun i x hx=>by simp [n0T] at hx)
theorem Mn.at {r:Zb} {t:Tr} (h:Mn A r t) (i:Nat):(Yo A r (i:Int)).2=0∧Mn A (Yo A r (i:Int)).1 (Xk n0T t.Kids i):=by
 by_cases hi:i < t.Kids.length
 ·rw [U7 hi]
  exact ⟨h.er i _ (List.getElem?_eq_getElem hi),h.kid i _ (List.getElem?_eq_getElem hi)⟩
 have hl:=h.ln
 rw [U8 (by omega)]
 unfold Yo
 rw [if_pos (.inr (by omega))]
 exact ⟨rfl,Mn.z⟩
theorem Z4t (hA:WS A.segments):∀ (K:Nat) (r:Zb) (t u:Tr) (d:Nat),Mn A r t→Bd u→rt u d=true→nd t+nd u < K→Ge K r u=some (eqv t u,0)
 | 0,_,_,_,_,_,_,_,h=>by omega
 | K+1,r,t,u,d,hm,hb,hr,hK=>by
  have hkn:=Uy hm.ok
  have hln:=hm.ln
  have hwl:=Zia hA hm.ok
  have hwe:=Zec hm.ok
  have hbw:=hb.w
  have hbk:=hb.k
  show Zb6 (Ge K) r u=_
  unfold Zb6
  rw [show Xf r=some r.kind from rfl,Option.bind_some,← hm.kd]
  by_cases hk:t.Kind=u.Kind
  ·rw [show (t.Kind != u.Kind)=false from bne_eq_false_iff_eq.2 hk,cond_false,Zjx,Option.bind_some,Zdv,Option.bind_some]
   by_cases h0:t.Kind=0
   ·rw [show (u.Kind == 0)=true from by rw [← hk,h0];rfl,cond_true]
    rw [eqv_iff.2 (by rw [Zca h0,Zca (hk ▸ h0)])]
   rw [show (u.Kind == 0)=false from by rw [beq_eq_false_iff_ne,← hk];exact h0,cond_false,← hwl,← hln]
   by_cases hc:t.Kind≠1∧t.Kids.length≠u.Kids.length
   ·rw [show (u.Kind != 1)=true from bne_iff_ne.2 (hk ▸ hc.1),cond_true,Option.bind_some,cond_true,Option.bind_some,show (((t.Kids.length:Nat):Int) != ((u.Kids.length:Nat):Int))=true from by rw [bne_iff_ne];omega,cond_true]
    have:eqv t u=false:=by
     rw [← Bool.not_eq_true,eqv_iff,Ui h0 hc.1,Ui (fun q=>h0 (hk.trans q)) (fun q=>hc.1 (hk.trans q))]
     intro q
     injection q with _ _ q
     have:=congrArg List.length q
     rw [List.length_map,List.length_map] at this
     exact hc.2 this
    rw [this]
   have hkl:t.Kind≠1→t.Kids.length=u.Kids.length:=fun q=>by
    rcases Nat.decEq t.Kids.length u.Kids.length with q2 | q2
    ·exact absurd ⟨q,q2⟩ hc
    exact q2
   have hww:t.Kind≠1→t.Words.length=u.Words.length:=fun q=>by
    by_cases h10:t.Kind=10
    ·obtain ⟨x,ex⟩:=hm.w1 h10
     obtain ⟨y,ey⟩:=Zs7 (hk ▸ h10) hr
     rw [ex,ey];rfl
    have hq:=(Yhs _ u d (Nat.lt_succ_self _) hr).w
    rw [hm.w0 q h10,hq ?_]
    rw [Zdw,if_neg (hk ▸ h0),if_neg (hk ▸ h10)] at hr
    split at hr
    ·cases hr
    omega
   have e1:(cond (u.Kind != 1) ((some ((t.Kids.length:Nat):Int)).bind fun y10=>some (cond (u.Kind != 1) (y10 != ((u.Kids.length:Nat):Int)) false)) (some false))=some false:=by
    by_cases q:t.Kind=1
    ·rw [show (u.Kind != 1)=false from by rw [← hk,q];rfl,cond_false]
    rw [show (u.Kind != 1)=true from bne_iff_ne.2 (hk ▸ q),cond_true,Option.bind_some,cond_true,hkl q]
    simp
   rw [e1,Option.bind_some,cond_false]
   have hI:=Yfi hk h0 hkl hww
   have hmax:∀ a b:Nat,(if ((a:Nat):Int) < ((b:Nat):Int) then ((b:Nat):Int) else ((a:Nat):Int))=((max a b:Nat):Int):=fun a b=>by split <;> omega
   have q0:=Z4q (max (Y6 A r).length u.Words.length) (fun i=>Zj2 A r (i:Int) == Xk 0 u.Words i) (Sum.inl ():Unit ⊕ Unit) (.inr ()) (Gn r u ((Y6 A r).length:Int)) (by omega) (fun i hi=>by
    unfold Gn
    rw [hmax,Vz hi,cond_true,Zsc hA hm.ok,Option.bind_some,Yer (by omega),Int.toNat_natCast,Option.bind_some]
    cases hq:Zj2 A r (i:Int) == Xk 0 u.Words i with
    | true=>rw [show (Zj2 A r (i:Int) != Xk 0 u.Words i)=false from by unfold bne;rw [hq];rfl,cond_false,if_pos rfl]
    | false=>rw [show (Zj2 A r (i:Int) != Xk 0 u.Words i)=true from by unfold bne;rw [hq];rfl,cond_true,if_neg (by decide)]) (by unfold Gn;rw [hmax,Zdd,cond_false])
   have q1:=Z4q (max t.Kids.length u.Kids.length) (fun i=>eqv (Xk n0T t.Kids i) (Xk n0T u.Kids i)) (Sum.inl 0:Int ⊕ Unit) (.inr ()) (Gp (Ge K) r u (t.Kids.length:Int)) (by omega) (fun i hi=>by
    obtain ⟨k1,k2⟩:=hm.at i
    have z1:=Yb5 (t:=t) i
    have z2:=Yb5 (t:=u) i
    have b1:Bd (Xk n0T u.Kids i):=by
     by_cases h:i < u.Kids.length
     ·rw [U7 h];exact hb.all _ (List.getElem_mem h)
     rw [U8 (by omega)];exact Zj7
    have r1:rt (Xk n0T u.Kids i) (d - 1)=true:=by
     by_cases h:i < u.Kids.length
     ·rw [U7 h];exact Z7c hr _ (List.getElem_mem h)
     rw [U8 (by omega)];exact Yed _
    have ih:=Z4t hA K _ _ _ (d - 1) k2 b1 r1 (by
     rcases Nat.lt_or_ge i t.Kids.length with h | h
     ·have:=z1.2 h;omega
     have:=z2.2 (by omega);omega)
    unfold Gp
    rw [hmax,Vz hi,cond_true,Zz8 hA hm.ok,Option.bind_some,k1,show ((0:Int) != 0)=false from rfl,cond_false,Ygt (by omega),Int.toNat_natCast,Option.bind_some,ih,Option.bind_some]
    simp only
    cases eqv (Xk n0T t.Kids i) (Xk n0T u.Kids i) <;> rfl) (by unfold Gp;rw [hmax,Zdd,cond_false])
   rw [q0,Option.bind_some]
   have hw0:(List.range (max (Y6 A r).length u.Words.length)).all (fun i=>Zj2 A r (i:Int) == Xk 0 u.Words i)=true↔∀ i,Xk 0 t.Words i=Xk 0 u.Words i:=by
    rw [Zy5]
    refine ⟨fun h i => ?_,fun h i _=>by rw [Zti hA hm.ok,← hm.wd,beq_iff_eq];exact h i⟩
    by_cases hi:i < max (Y6 A r).length u.Words.length
    ·have:=h i hi
     rwa [Zti hA hm.ok,← hm.wd,beq_iff_eq] at this
    rw [U8 (by rw [hm.wd];omega),U8 (by omega)]
   have hk0:(List.range (max t.Kids.length u.Kids.length)).all (fun i=>eqv (Xk n0T t.Kids i) (Xk n0T u.Kids i))=true↔∀ i,eqv (Xk n0T t.Kids i) (Xk n0T u.Kids i)=true:=by
    rw [Zy5]
    refine ⟨fun h i => ?_,fun h i _=>h i⟩
    by_cases hi:i < max t.Kids.length u.Kids.length
    ·exact h i hi
    rw [U8 (by omega),U8 (by omega)];exact eqv_iff.2 rfl
   cases hq:(List.range (max (Y6 A r).length u.Words.length)).all (fun i=>Zj2 A r (i:Int) == Xk 0 u.Words i) with
   | false =>
    have:eqv t u=false:=by
     rw [← Bool.not_eq_true]
     intro h
     rw [hw0.2 (hI.1 h).1] at hq
     cases hq
    rw [this,if_neg (by decide)]
   | true =>
    rw [if_pos rfl]
    simp only
    rw [q1,Option.bind_some]
    cases hq1:(List.range (max t.Kids.length u.Kids.length)).all (fun i=>eqv (Xk n0T t.Kids i) (Xk n0T u.Kids i)) with
    | false =>
     have:eqv t u=false:=by
      rw [← Bool.not_eq_true]
      intro h
      rw [hk0.2 (hI.1 h).2] at hq1
      cases hq1
     rw [this,if_neg (by decide)]
    | true=>rw [if_pos rfl,hI.2 ⟨hw0.1 hq,hk0.1 hq1⟩]
  rw [bne_iff_ne.2 hk,cond_true,Yck hk]
theorem Z4u (hA:WS A.segments) {r:Zb} {t u:Tr} {d:Nat} (hm:Mn A r t) (hb:Bd u) (hr:rt u d=true):Zdy r u=some (eqv t u,0) :=
 Zep (nd t+nd u+1) fun k hk=>Z4t hA k r t u d hm hb hr (by omega)
end
theorem Zy9 {o o':List Int} (h:∀ i,Xk 0 o i=Xk 0 o' i):∀ (ws:List Zy) (c:List Int),rnW o ws c=rnW o' ws c
 | [],_=>rfl
 | w::ws,c=>by rw [rnW,rnW,h,Zy9 h ws]
theorem Yph {x:Zy} {n:Nat} (hx:x.At=(n:Int)) (hn:n≤65534) {ws:List Int} {v:Int} (hl:ws.length≤10000000) :
  ((Zv (Q5 x v) ws).bind fun (z22:(List Int))=>cond (decide (x.At < (z22.length:Int))) ((Xj z22 x.At).bind fun x23=>some (.inl (Zic z22 x.At v))) (some (.inl z22)))=some (.inl (Zlq 0 p0 ws n v):List Int ⊕ Unit):=by
 have hloop:Zv (Q5 x v) ws=some (if ws.length≤n∧v≠0 then ws++List.replicate (n+1 - ws.length) 0 else ws):=by
  by_cases hg:ws.length≤n∧v≠0
  ·rw [if_pos hg]
   refine Zk0 (fun s=>∃ j,j≤n+1 - ws.length∧s=ws++List.replicate j 0) (fun s=>n+1 - s.length) ?_ _ ⟨0,Nat.zero_le _,by simp⟩
   rintro s ⟨j,hj,rfl⟩
   unfold Q5
   rw [show (v != 0)=true from bne_iff_ne.2 hg.2,hx]
   by_cases hl2:j < n+1 - ws.length
   ·left
    refine ⟨ws++List.replicate (j+1) 0,?_,⟨j+1,by omega,rfl⟩,by simp only [List.length_append,List.length_replicate];omega⟩
    rw [show decide (((ws++List.replicate j (0:Int)).length:Int)≤(n:Int))=true from by rw [decide_eq_true_eq];simp only [List.length_append,List.length_replicate];omega,cond_true,cond_true,J5 (by simp only [List.length_append,List.length_replicate,List.length_singleton];omega) (by simp only [List.length_append,List.length_replicate,List.length_singleton];omega),Option.bind_some,List.append_assoc,← List.replicate_succ']
   right
   rw [show decide (((ws++List.replicate j (0:Int)).length:Int)≤(n:Int))=false from by rw [decide_eq_false_iff_not];simp only [List.length_append,List.length_replicate];omega,cond_false,cond_false,show j=n+1 - ws.length by omega]
  rw [if_neg hg]
  refine Z4 ?_
  unfold Q5
  rw [hx]
  by_cases h1:ws.length≤n
  ·have hv:v=0:=Classical.byContradiction fun q=>hg ⟨h1,q⟩
   rw [hv]
   cases decide (((ws.length:Nat):Int)≤(n:Int)) <;> rfl
  rw [show decide (((ws.length:Nat):Int)≤(n:Int))=false from by rw [decide_eq_false_iff_not];omega]
  rfl
 rw [hloop,Option.bind_some,hx]
 unfold Zlq
 by_cases hn:n < ws.length
 ·rw [if_neg (by omega),if_pos hn,Vz hn,cond_true,Yk (List.getElem?_eq_getElem hn),Option.bind_some,Z81]
 rw [if_neg hn]
 by_cases hv:v=0
 ·rw [if_neg (fun q=>q.2 hv),show decide ((n:Int) < ((ws.length:Nat):Int))=false from by rw [decide_eq_false_iff_not];omega,cond_false,if_pos (by unfold p0;rw [hv];rfl)]
 have hlen:n < (ws++List.replicate (n+1 - ws.length) (0:Int)).length:=by simp only [List.length_append,List.length_replicate];omega
 rw [if_pos ⟨by omega,hv⟩,Vz hlen,cond_true,Yk (List.getElem?_eq_getElem hlen),Option.bind_some,Z81,if_neg (by unfold p0;rw [beq_iff_eq];exact hv),Yel _ _ _ _ (by omega)]
section
variable {A:Zn}
theorem Z7w (hA:WS A.segments) {r:Zb} {t:Tr} (hm:Mn A r t) (ht:Bd t) {l:List Zy} (hlen:(l.length:Int)≤140737488355328) (hb:∀ w∈l,(0≤w.Mask∧w.Mask < 256)∧(0≤w.Old∧w.Old < 18446744073709551616)∧(0≤w.New∧w.New < 18446744073709551616))
  (hw2:∀ w∈l,0≤w.At∧w.At≤65534):∀ (ws:List Zy) (i:Nat) (cur:List Int),l.drop i=ws→i≤l.length→cur.length≤5000000 →
  Zv (X8 l r) ((i:Int),cur)=some (match rnW t.Words ws cur with | none => .inl () | some c => .inr c)
 | [],i,cur,hd,hi,hc=>by
  obtain rfl:=drop_nil hd hi
  refine Z4 ?_
  unfold X8
  simp only
  rw [Zdd,cond_false]
  rfl
 | w::ws,i,cur,hd,hi,hc=>by
  obtain ⟨hi',hx,hd'⟩:=Zeg hd
  have hwm:=List.mem_of_getElem? hx
  have hAt:=hw2 w hwm
  obtain ⟨⟨m0,m1⟩,⟨o0,o1⟩,n0,n1⟩:=hb w hwm
  have hr:=Z58 ht.u w.At.toNat
  have hxn:((Xk 0 t.Words w.At.toNat).toNat:Int)=Xk 0 t.Words w.At.toNat:=by omega
  have hchk:(IntKind.u64.wrap (Uz .u64 (IntKind.u64.wrap (Zpl .u64 (Xk 0 t.Words w.At.toNat) w.Old)) ((Gd w.Mask.toNat 8:Nat):Int)) != 0) = !(cW (Xk 0 t.Words w.At.toNat) w):=by
   have:=Yg7 (a:=(Xk 0 t.Words w.At.toNat).toNat) (b:=w.Old.toNat) (m:=w.Mask.toNat) (by omega) (by omega)
   rw [hxn,show ((w.Old.toNat:Nat):Int)=w.Old by omega] at this
   exact this
  have hwide:Zcy w.Mask=some ((Gd w.Mask.toNat 8:Nat):Int):=by
   have:=Yaa w.Mask.toNat (by omega)
   rwa [show ((w.Mask.toNat:Nat):Int)=w.Mask by omega] at this
  have hmix:Zfi (Xk 0 t.Words w.At.toNat) w.New w.Mask=some (Zhn (Xk 0 t.Words w.At.toNat) w):=by
   have:=Yg8 (a:=(Xk 0 t.Words w.At.toNat).toNat) (b:=w.New.toNat) (m:=w.Mask.toNat) (by omega) (by omega) (by omega)
   rw [hxn,show ((w.New.toNat:Nat):Int)=w.New by omega,show ((w.Mask.toNat:Nat):Int)=w.Mask by omega] at this
   exact this
  have hword:Qn r w.At=some (Xk 0 t.Words w.At.toNat):=by
   rw [Zsc hA hm.ok]
   have:=Zti hA hm.ok w.At.toNat
   rw [show ((w.At.toNat:Nat):Int)=w.At by omega] at this
   rw [this,hm.wd]
  have hput:=Yph (x:=w) (n:=w.At.toNat) (by omega) (by omega) (ws:=cur) (v:=Zhn (Xk 0 t.Words w.At.toNat) w) (by omega)
  have hpl:=(Z04 (z:=(0:Int)) (p:=p0) (l:=cur) (i:=w.At.toNat) (v:=Zhn (Xk 0 t.Words w.At.toNat) w)).2
  have f1:decide (w.At < 0)=false:=by rw [decide_eq_false_iff_not];omega
  have f2:decide (65534 < w.At)=false:=by rw [decide_eq_false_iff_not];omega
  rw [rnW]
  cases hcw:cW (Xk 0 t.Words w.At.toNat) w with
  | false =>
   rw [if_neg (by simp)]
   refine Z4 ?_
   unfold X8
   simp only
   rw [Vz hi',cond_true,Yk hx,Option.bind_some,hword,Option.bind_some,f1,f2,cond_false,cond_false,cond_false,hwide,Option.bind_some,hchk,hcw]
   rfl
  | true =>
   rw [if_pos rfl]
   have hstep:X8 l r ((i:Int),cur)=some (.inl (((i+1:Nat):Int),Zlq 0 p0 cur w.At.toNat (Zhn (Xk 0 t.Words w.At.toNat) w))):=by
    unfold X8
    simp only
    rw [Vz hi',cond_true,Yk hx,Option.bind_some,hword,Option.bind_some,f1,f2,cond_false,cond_false,cond_false,hwide,Option.bind_some,hchk,hcw,Bool.not_true,cond_false,Option.bind_some,cond_false,hmix,Option.bind_some,hput,Option.bind_some,Yz (by omega) (by omega)]
    rfl
   rw [Yd hstep]
   exact Z7w hA hm ht hlen hb hw2 ws (i+1) _ hd' (by omega) (by omega)
theorem Ykp (hA:WS A.segments) {r:Zb} {t:Tr} (hm:Mn A r t) (ht:Bd t) {l:List Zy} (hlen:(l.length:Int)≤140737488355328) (hb:∀ w∈l,(0≤w.Mask∧w.Mask < 256)∧(0≤w.Old∧w.Old < 18446744073709551616)∧(0≤w.New∧w.New < 18446744073709551616))
  (hw2:∀ w∈l,0≤w.At∧w.At≤65534):Vw l r=some (match rnW (tr p0 t.Words) l (tr p0 t.Words) with | none=>([],13) | some c=>(c,0)):=by
 have hwe:=Zec hm.ok
 have htl:=Zc6 p0 t.Words
 rw [hm.wd] at htl
 have h0:=Yc5 (tr p0 (Y6 A r)) (fun x:Int=>x) (Ki r ((tr p0 (Y6 A r)).length:Int)) [] (by omega) (fun i x out hi hx _ ho=>by
  unfold Ki
  obtain ⟨h,e⟩:=Yg4 (p:=p0) (l:=Y6 A r) hi
  rw [e] at hx
  injection hx with hx
  simp only [List.length_nil,Nat.zero_add] at ho
  simp only
  rw [Vz hi,cond_true,Zsc hA hm.ok,Option.bind_some,← Zng hA hm.ok h,hx,J5 (by simp only [List.length_singleton];omega) (by simp only [List.length_singleton];omega),Option.bind_some]) (fun out=>by unfold Ki;simp only;rw [Zdd,cond_false])
 rw [List.nil_append,List.map_id' ] at h0
 have h1:=Z7w hA hm ht hlen hb hw2 l 0 (tr p0 t.Words) rfl (Nat.zero_le _) (by rw [hm.wd];omega)
 unfold Vw
 rw [Yfs hA hm.ok,Option.bind_some]
 have e0:tr (fun x:Int=>x == 0) (Y6 A r)=tr p0 (Y6 A r):=rfl
 rw [e0,h0,Option.bind_some,← hm.wd]
 rw [show ((0:Nat):Int)=0 from rfl] at h1
 rw [h1,Option.bind_some,Zy9 (o:=t.Words) (o':=tr p0 t.Words) (fun i=>(Zr9 (z:=(0:Int)) (p:=p0) t.Words (fun x _=>Zye) i).symm)]
 cases rnW (tr p0 t.Words) l (tr p0 t.Words) <;> rfl
end
section
variable {A:Zn}
theorem Z8f (hA:WS A.segments) {r:Zb} {t:Tr} (hm:Mn A r t) {g:Nat} {out:List Tr} (hg:g≤t.Kids.length):Kf ⟨r,(g:Int),out⟩ =
  if g=t.Kids.length then some (r0,13,⟨r,(g:Int),out⟩) else some ((Yo A r (g:Int)).1,0,⟨r,((g+1:Nat):Int),out⟩):=by
 have hkn:=Uy hm.ok
 have hln:=hm.ln
 unfold Kf
 simp only
 rw [Zdv,Option.bind_some,← hln]
 by_cases h:g=t.Kids.length
 ·rw [if_pos h,show (((g:Nat):Int) == ((t.Kids.length:Nat):Int))=true from by rw [h];exact beq_iff_eq.2 rfl,cond_true]
  rfl
 rw [if_neg h,show (((g:Nat):Int) == ((t.Kids.length:Nat):Int))=false from by rw [beq_eq_false_iff_ne];omega,cond_false,Yz (x:=(g:Int)+1) (by omega) (by omega),Yz (by omega) (by omega),show ((g:Int)+1 - 1)=(g:Int) by omega,Zz8 hA hm.ok,Option.bind_some,(hm.at g).1]
 rfl
def stL (r:Zb) (g:Nat) (out:List Tr):(List Tr)×(Option Zn)×Int×Int×Int×Int×Int×Int×Int×Int×Int:=(out,r.a,r.kind,r.segment,r.at_,r.words,r.ptrs,r.count,r.code,r.index,(g:Int))
theorem Z8v (hA:WS A.segments) {r:Zb} {t:Tr} (hm:Mn A r t) {L:List Tr} {d:Nat} (hlen:(L.length:Int)≤140737488355328) (hL:∀ x∈L,Bd x∧rt x d=true) (out:List Tr):∀ (xs:List Tr) (i g:Nat),L.drop i=xs→i≤L.length→g≤t.Kids.length →
  ∃ z,Zv (Xq L) ((i:Int),stL r g out)=some z∧if (t.Kids.drop g).map nrm=xs.map nrm++((t.Kids.drop g).drop xs.length).map nrm∧xs.length≤(t.Kids.drop g).length then z = .inr (stL r (g+xs.length) out) else ∃ g',z = .inl (13,stL r g' out)
 | [],i,g,hd,hi,hg=>by
  obtain rfl:=drop_nil hd hi
  refine ⟨.inr (stL r g out),Z4 ?_,?_⟩
  ·unfold Xq
   simp only
   rw [Zdd,cond_false]
  rw [if_pos ⟨by simp,by simp⟩]
  rfl
 | x::xs,i,g,hd,hi,hg=>by
  obtain ⟨hi',hx,hd'⟩:=Zeg hd
  have hxm:=hL x (List.mem_of_getElem? hx)
  have hkn:=Uy hm.ok
  have hln:=hm.ln
  have hnx:=Z8f hA hm (out:=out) hg
  by_cases hge:g=t.Kids.length
  ·rw [if_pos hge] at hnx
   refine ⟨.inl (13,stL r g out),Z4 ?_,?_⟩
   ·unfold Xq stL
    simp only
    rw [Vz hi',cond_true,Yk hx,Option.bind_some]
    rw [show (⟨⟨r.a,r.kind,r.segment,r.at_,r.words,r.ptrs,r.count,r.code,r.index⟩,(g:Int),out⟩:Zj)=⟨r,(g:Int),out⟩ from rfl,hnx,Option.bind_some]
    rfl
   rw [if_neg (by rw [hge,List.drop_length];simp)]
   exact ⟨g,rfl⟩
  rw [if_neg hge] at hnx
  have hgl:g < t.Kids.length:=by omega
  have hk:=hm.at g
  have hme:=Z4u hA hk.2 hxm.1 hxm.2
  have hdr:t.Kids.drop g=t.Kids[g]::t.Kids.drop (g+1):=List.drop_eq_getElem_cons hgl
  rw [U7 hgl] at hme
  cases hq:eqv t.Kids[g] x with
  | false =>
   refine ⟨.inl (13,stL r (g+1) out),Z4 ?_,?_⟩
   ·unfold Xq stL
    simp only
    rw [Vz hi',cond_true,Yk hx,Option.bind_some]
    rw [show (⟨⟨r.a,r.kind,r.segment,r.at_,r.words,r.ptrs,r.count,r.code,r.index⟩,(g:Int),out⟩:Zj)=⟨r,(g:Int),out⟩ from rfl,hnx,Option.bind_some]
    simp only
    rw [show ((0:Int) != 0)=false from rfl,cond_false,hme,Option.bind_some,hq]
    rfl
   rw [if_neg ?_]
   ·exact ⟨g+1,rfl⟩
   rintro ⟨h,_⟩
   rw [hdr,List.map_cons,List.map_cons,List.cons_append] at h
   injection h with h _
   rw [eqv_iff.2 h] at hq
   cases hq
  | true =>
   have hstep:Xq L ((i:Int),stL r g out)=some (.inl (((i+1:Nat):Int),stL r (g+1) out)):=by
    unfold Xq stL
    simp only
    rw [Vz hi',cond_true,Yk hx,Option.bind_some]
    rw [show (⟨⟨r.a,r.kind,r.segment,r.at_,r.words,r.ptrs,r.count,r.code,r.index⟩,(g:Int),out⟩:Zj)=⟨r,(g:Int),out⟩ from rfl,hnx,Option.bind_some]
    simp only
    rw [show ((0:Int) != 0)=false from rfl,cond_false,hme,Option.bind_some,hq]
    simp only [Bool.not_true,cond_false]
    rw [show ((0:Int) != 0)=false from rfl,cond_false,Yz (by omega) (by omega)]
    rfl
   obtain ⟨z,z1,z2⟩:=Z8v hA hm hlen hL out xs (i+1) (g+1) hd' (by omega) (by omega)
   refine ⟨z,by rw [Yd hstep];exact z1,?_⟩
   have he:nrm t.Kids[g]=nrm x:=eqv_iff.1 hq
   have e2:((t.Kids.drop g).map nrm=(x::xs).map nrm++((t.Kids.drop g).drop (x::xs).length).map nrm∧(x::xs).length≤(t.Kids.drop g).length)↔((t.Kids.drop (g+1)).map nrm=xs.map nrm++((t.Kids.drop (g+1)).drop xs.length).map nrm∧xs.length≤(t.Kids.drop (g+1)).length):=by
    rw [hdr,List.map_cons,List.map_cons,List.cons_append,he,List.length_cons,List.length_cons,List.drop_succ_cons]
    constructor
    ·rintro ⟨h1,h2⟩
     injection h1 with _ h1
     exact ⟨h1,by omega⟩
    rintro ⟨h1,h2⟩
    exact ⟨by rw [← h1],by omega⟩
   by_cases hc:(t.Kids.drop (g+1)).map nrm=xs.map nrm++((t.Kids.drop (g+1)).drop xs.length).map nrm∧xs.length≤(t.Kids.drop (g+1)).length
   ·rw [if_pos hc] at z2
    rw [if_pos (e2.2 hc),z2,List.length_cons,show g+(xs.length+1)=g+1+xs.length by omega]
   rw [if_neg hc] at z2
   rw [if_neg fun q=>hc (e2.1 q)]
   exact z2
theorem Ybd (hA:WS A.segments) {r:Zb} {t:Tr} (hm:Mn A r t) {L:List Tr} {d:Nat} (hlen:(L.length:Int)≤140737488355328) (hL:∀ x∈L,Bd x∧rt x d=true) {out:List Tr} {g:Nat} (hg:g≤t.Kids.length) :
  ∃ (c:Int) (g':Nat),K1 ⟨r,(g:Int),out⟩ L=some (c,⟨r,(g':Int),out⟩)∧if ((t.Kids.drop g).map nrm).take L.length=L.map nrm then c=0∧g'=g+L.length∧g'≤t.Kids.length else c=13:=by
 obtain ⟨z,z1,z2⟩:=Z8v hA hm hlen hL out L 0 g rfl (Nat.zero_le _) hg
 have e:((t.Kids.drop g).map nrm).take L.length=L.map nrm↔(t.Kids.drop g).map nrm=L.map nrm++((t.Kids.drop g).drop L.length).map nrm∧L.length≤(t.Kids.drop g).length:=by
  constructor
  ·intro h
   have hl:=congrArg List.length h
   rw [List.length_take,List.length_map,List.length_map] at hl
   refine ⟨?_,by omega⟩
   have:=List.take_append_drop L.length ((t.Kids.drop g).map nrm)
   rw [h,← List.map_drop] at this
   exact this.symm
  rintro ⟨h,_⟩
  rw [h,List.take_append_of_le_length (by rw [List.length_map];exact Nat.le_refl _),List.take_of_length_le (by rw [List.length_map];exact Nat.le_refl _)]
 unfold K1
 simp only
 rw [show ((0:Int),out,r.a,r.kind,r.segment,r.at_,r.words,r.ptrs,r.count,r.code,r.index,(g:Int))=(((0:Nat):Int),stL r g out) from rfl,z1,Option.bind_some]
 by_cases hc:((t.Kids.drop g).map nrm).take L.length=L.map nrm
 ·rw [if_pos (e.1 hc)] at z2
  subst z2
  have:=(e.1 hc).2
  rw [List.length_drop] at this
  exact ⟨0,g+L.length,rfl,by rw [if_pos hc];exact ⟨rfl,rfl,by omega⟩⟩
 rw [if_neg fun q=>hc (e.2 q)] at z2
 obtain ⟨g',rfl⟩:=z2
 exact ⟨13,g',rfl,by rw [if_neg hc]⟩
end
def DI (o:Option (Tr×Int)) (w:Option Tr):Prop:=∃ v c,o=some (v,c)∧match w with | none=>c=13 | some u=>c=0∧nrm v=u∧Bd v
def eZ:Ed:=⟨0,⟨0,[],[]⟩,⟨0,[],[]⟩,[],[],0,[]⟩
theorem Yb3 (t:Tr):ap eZ t=some t:=by rw [Zft];rfl
abbrev FD:=Zi→Zb→Option (Za×Int)
abbrev FK:=(List Zt)→Zb→Option ((List Za)×Int)
abbrev FS:=Zj→Ya→Option (Int×Zj)
abbrev FE:=Zj→Zi→Option (Int×Zj)
section
variable {A:Zn}
theorem Ycx (hA:WS A.segments) {F f2 f3:FD} {f4:FK} {f5:FS} {f6:FE} {r:Zb} {t:Tr} (hm:Mn A r t) {g:Nat} {out:List Tr} (hg:g≤t.Kids.length) {E:Ed} (hF:g < t.Kids.length→DI (F E (Yo A r (g:Int)).1) (ap E (nrm (Xk n0T t.Kids g)))) (ho:out.length≤2000000000000) :
  ∃ c g' out',Qc F f2 f3 f4 f5 f6 ⟨r,(g:Int),out⟩ E=some (c,⟨r,((g':Nat):Int),out'⟩)∧if g < t.Kids.length then (match ap E (nrm (Xk n0T t.Kids g)) with | none=>c=13 | some u=>c=0∧g'=g+1∧∃ v,out'=out++[v]∧nrm v=u∧Bd v) else c=13:=by
 have hnx:=Z8f hA hm (out:=out) hg
 unfold Qc
 simp only
 by_cases h:g=t.Kids.length
 ·rw [if_pos h] at hnx
  rw [hnx,Option.bind_some]
  exact ⟨13,g,out,rfl,by rw [if_neg (by omega)]⟩
 rw [if_neg h] at hnx
 obtain ⟨v,c,e1,e2⟩:=hF (by omega)
 have hap:Zc9 56 out ([(⟨0,[],[]⟩:Za)]:List Za)=some (out++[(⟨0,[],[]⟩:Za)]):=J5 (by simp only [List.length_singleton];omega) (by simp only [List.length_singleton];omega)
 have hget:Xj (out++[(⟨0,[],[]⟩:Za)]) (out.length:Int)=some ⟨0,[],[]⟩:=Yk (by simp)
 rw [hnx,Option.bind_some]
 simp only
 rw [show ((0:Int) != 0)=false from rfl,cond_false,e1,Option.bind_some,hap,Option.bind_some,hget,Option.bind_some]
 refine ⟨c,g+1,out++[v],rfl,?_⟩
 rw [if_pos (by omega)]
 cases hw:ap E (nrm (Xk n0T t.Kids g)) with
 | none=>rw [hw] at e2;exact e2
 | some u=>rw [hw] at e2;exact ⟨e2.1,rfl,v,rfl,e2.2⟩
theorem Zyx (hA:WS A.segments) {G:FE} {r:Zb} {t:Tr} (hm:Mn A r t) {o:EO} {N:Nat} (hN:o.N=(N:Int)) (hNs:N≤1048576)
  (hG:∀ (g:Nat) (out:List Tr),g < t.Kids.length→out.length≤2000000000000→∃ c g' out',G ⟨r,(g:Int),out⟩ eZ=some (c,⟨r,((g':Nat):Int),out'⟩)∧c=0∧g'=g+1∧∃ v,out'=out++[v]∧nrm v=nrm (Xk n0T t.Kids g)∧Bd v) :
  ∀ (n j g:Nat) (out:List Tr),j+n=N→g+n≤t.Kids.length→out.length+n≤2000000000000→∃ vs,Zv (Q4 G o) ((j:Int),stL r g out)=some (.inr (stL r (g+n) (out++vs)))∧vs.length=n∧vs.map nrm=((t.Kids.drop g).take n).map nrm∧∀ v∈vs,Bd v
 | 0,j,g,out,hj,hg,ho=>by
  refine ⟨[],Z4 ?_,rfl,by simp,by simp⟩
  unfold Q4
  simp only
  rw [hN,show j=N by omega,Zdd,cond_false,List.append_nil]
  rfl
 | n+1,j,g,out,hj,hg,ho=>by
  have hkn:=Uy hm.ok
  have hln:=hm.ln
  obtain ⟨c,g',out',h1,rfl,rfl,v,rfl,h3,h4⟩:=hG g out (by omega) (by omega)
  have hstep:Q4 G o ((j:Int),stL r g out)=some (.inl (((j+1:Nat):Int),stL r (g+1) (out++[v]))):=by
   unfold Q4 stL
   simp only
   rw [hN,Vz (by omega),cond_true]
   rw [show (⟨⟨r.a,r.kind,r.segment,r.at_,r.words,r.ptrs,r.count,r.code,r.index⟩,(g:Int),out⟩:Zj)=⟨r,(g:Int),out⟩ from rfl,show (⟨0,⟨0,[],[]⟩,⟨0,[],[]⟩,[],[],0,[]⟩:Zi)=eZ from rfl,h1,Option.bind_some]
   simp only
   rw [show ((0:Int) != 0)=false from rfl,cond_false,Yz (by omega) (by omega)]
   rfl
  obtain ⟨vs,v1,v2,v3,v4⟩:=Zyx hA hm hN hNs hG n (j+1) (g+1) (out++[v]) (by omega) (by omega) (by rw [List.length_append,List.length_singleton];omega)
  refine ⟨v::vs,?_,by rw [List.length_cons,v2],?_,fun x hx => ?_⟩
  ·rw [Yd hstep,v1,List.append_assoc,List.singleton_append,show g+1+n=g+(n+1) by omega]
  ·rw [List.drop_eq_getElem_cons (show g < t.Kids.length by omega),List.take_succ_cons,List.map_cons,List.map_cons,v3,h3,U7 (show g < t.Kids.length by omega)]
  rcases List.mem_cons.1 hx with rfl | hx
  ·exact h4
  exact v4 x hx
def LS (t:Tr) (g:Nat) (out:List Tr) (s:List Tr×List Tr):Prop:=s.1=(t.Kids.drop g).map nrm∧s.2=out.map nrm∧g≤t.Kids.length∧∀ x∈out,Bd x
theorem Yc8 (hA:WS A.segments) {f1 f2 f3:FD} {f4:FK} {f5:FS} {G:FE} {r:Zb} {t:Tr} (hm:Mn A r t) {o:EO} {l:Int} {q:Bool} (hok:okO l o q=true) (hL:∀ x∈o.L,Bd x) (hLl:o.L.length≤1073741824)
  (hG:∀ (E:Ed) (g:Nat) (out:List Tr),(E=eZ∨(o.Kind=3∧E=o.E))→g≤t.Kids.length→out.length≤2000000000000→∃ c g' out',G ⟨r,(g:Int),out⟩ E=some (c,⟨r,((g':Nat):Int),out'⟩)∧if g < t.Kids.length then (match ap E (nrm (Xk n0T t.Kids g)) with | none=>c=13 | some u=>c=0∧g'=g+1∧∃ v,out'=out++[v]∧nrm v=u∧Bd v) else c=13)
  {g:Nat} {out:List Tr} {s:List Tr×List Tr} (hs:LS t g out s) (ho:out.length≤1900000000000) :
  ∃ c g' out',Qd f1 f2 f3 f4 f5 G ⟨r,(g:Int),out⟩ o=some (c,⟨r,((g':Nat):Int),out'⟩)∧match stO o (ap o.E) s with | none=>c=13 | some s'=>c=0∧LS t g' out' s'∧out'.length+(t.Kids.length - g')≤out.length+(t.Kids.length - g)+o.L.length:=by
 obtain ⟨s1,s2⟩:=s
 obtain ⟨e1,e2,hg,hbo⟩:=hs
 simp only at e1 e2
 subst e1 e2
 have hkn:=Uy hm.ok
 have hln:=hm.ln
 unfold okO at hok
 unfold Qd stO
 simp only
 by_cases k0:o.Kind=0
 ·rw [if_pos k0] at hok
  simp only [Bool.and_eq_true,decide_eq_true_eq] at hok
  have hN:o.N=((o.N.toNat:Nat):Int):=by omega
  rw [if_pos k0,show (o.Kind == 0)=true from by rw [k0];rfl,cond_true,show decide (o.N < 0)=false from by rw [decide_eq_false_iff_not];omega,cond_false,Zdv,Option.bind_some,← hln,Yz (by omega) (by omega),cond_false,List.length_map,List.length_drop]
  by_cases hc:o.N.toNat≤t.Kids.length - g
  ·rw [show decide (((t.Kids.length:Nat):Int) - (g:Int) < o.N)=false from by rw [decide_eq_false_iff_not];omega,Option.bind_some,cond_false,if_pos ⟨by omega,hc⟩]
   obtain ⟨vs,v1,v2,v3,v4⟩:=Zyx hA hm (G:=G) hN (by omega) (fun g out h1 h2=>by
    obtain ⟨c,g',out',q1,q2⟩:=hG eZ g out (.inl rfl) (by omega) h2
    rw [if_pos h1,Yb3] at q2
    exact ⟨c,g',out',q1,q2⟩) o.N.toNat 0 g out (by omega) (by omega) (by omega)
   rw [show ((0:Int),out,r.a,r.kind,r.segment,r.at_,r.words,r.ptrs,r.count,r.code,r.index,(g:Int))=(((0:Nat):Int),stL r g out) from rfl,v1,Option.bind_some]
   refine ⟨0,g+o.N.toNat,out++vs,rfl,rfl,⟨?_,?_,by omega,fun x hx => ?_⟩,by rw [List.length_append,v2];omega⟩
   ·simp only;rw [← List.map_drop,List.drop_drop]
   ·simp only;rw [List.map_append,v3,List.map_take]
   rcases List.mem_append.1 hx with h | h
   ·exact hbo x h
   exact v4 x h
  rw [show decide (((t.Kids.length:Nat):Int) - (g:Int) < o.N)=true from by rw [decide_eq_true_eq];omega,Option.bind_some,cond_true,if_neg (fun q=>hc q.2)]
  exact ⟨13,g,out,rfl,rfl⟩
 rw [if_neg k0] at hok
 rw [if_neg k0,show (o.Kind == 0)=false from by rw [beq_eq_false_iff_ne];exact k0,cond_false]
 by_cases k1:o.Kind=1
 ·rw [if_pos (.inl k1)] at hok
  simp only [Bool.and_eq_true,List.all_eq_true] at hok
  obtain ⟨c,g',r1,r2⟩:=Ybd hA hm (L:=o.L) (d:=63) (by omega) (fun x hx=>⟨hL x hx,(hok.2.2.1 x hx).1⟩) (out:=out) hg
  rw [if_pos k1,show (o.Kind == 1)=true from by rw [k1];rfl,cond_true,r1,Option.bind_some]
  by_cases hc:((t.Kids.drop g).map nrm).take o.L.length=o.L.map nrm
  ·rw [if_pos hc] at r2
   rw [if_pos hc]
   obtain ⟨rfl,rfl,h3⟩:=r2
   exact ⟨0,g+o.L.length,out,rfl,rfl,⟨by simp only;rw [← List.map_drop,List.drop_drop],rfl,h3,hbo⟩,by omega⟩
  rw [if_neg hc] at r2
  rw [if_neg hc]
  exact ⟨c,g',out,rfl,r2⟩
 rw [if_neg k1,show (o.Kind == 1)=false from by rw [beq_eq_false_iff_ne];exact k1,cond_false]
 by_cases k2:o.Kind=2
 ·rw [if_pos k2,show (o.Kind == 2)=true from by rw [k2];rfl,cond_true,J5 (by omega) (by omega),Option.bind_some]
  exact ⟨0,g,out++o.L,rfl,rfl,⟨rfl,by simp only;rw [List.map_append],hg,fun x hx=>by
   rcases List.mem_append.1 hx with h | h
   ·exact hbo x h
   exact hL x h⟩,by rw [List.length_append];omega⟩
 rw [if_neg k2,show (o.Kind == 2)=false from by rw [beq_eq_false_iff_ne];exact k2,cond_false]
 rw [if_neg (by omega)] at hok
 by_cases k3:o.Kind=3
 ·obtain ⟨c,g',out',q1,q2⟩:=hG o.E g out (.inr ⟨k3,rfl⟩) hg (by omega)
  rw [if_pos k3,show (o.Kind == 3)=true from by rw [k3];rfl,cond_true,q1,Option.bind_some]
  refine ⟨c,g',out',rfl,?_⟩
  by_cases hgl:g < t.Kids.length
  ·rw [if_pos hgl,U7 hgl] at q2
   rw [List.drop_eq_getElem_cons hgl,List.map_cons]
   simp only
   cases hw:ap o.E (nrm t.Kids[g]) with
   | none=>rw [hw] at q2;exact q2
   | some u =>
    rw [hw] at q2
    obtain ⟨rfl,rfl,v,rfl,q3,q4⟩:=q2
    exact ⟨rfl,⟨rfl,by simp only;rw [List.map_append,List.map_cons,q3];rfl,by omega,fun x hx=>by
     rcases List.mem_append.1 hx with h | h
     ·exact hbo x h
     rw [List.mem_singleton] at h;rw [h];exact q4⟩,by rw [List.length_append,List.length_singleton];omega⟩
  rw [if_neg hgl] at q2
  rw [List.drop_eq_nil_of_le (by omega)]
  exact q2
 rw [if_neg k3] at hok
 cases hok
end
def stM (r:Zb) (g:Nat) (out:List Tr):(Option Zn)×Int×Int×Int×Int×Int×Int×Int×Int×Int×(List Za):=(r.a,r.kind,r.segment,r.at_,r.words,r.ptrs,r.count,r.code,r.index,(g:Int),out)
section
variable {A:Zn}
theorem Zy1 {r:Zb} {t:Tr} {G:FS} {e:Ed} (hlen:e.Ops.length≤1048576)
  (hG:∀ o∈e.Ops,∀ (g:Nat) (out:List Tr) s,LS t g out s→out.length≤1900000000000→∃ (c:Int) (g':Nat) (out':List Tr),G ⟨r,(g:Int),out⟩ o=some (c,⟨r,((g':Nat):Int),out'⟩)∧match stO o (ap o.E) s with | none=>c=13 | some s'=>c=0∧LS t g' out' s'∧out'.length+(t.Kids.length - g')≤out.length+(t.Kids.length - g)+o.L.length)
  (hT:∀ o∈e.Ops,o.L.length≤thN o):∀ (os:List EO) (i g:Nat) (out:List Tr) s,e.Ops.drop i=os→i≤e.Ops.length→LS t g out s→out.length+(t.Kids.length - g)+Zfp os≤1900000000000 →
  ∃ z,Zv (Ul G e) ((i:Int),stM r g out)=some z∧match rnO (apO os) s with | none=>z = .inl 13 | some s'=>∃ g' out',z = .inr (stM r g' out')∧LS t g' out' s'∧out'.length≤1900000000000
 | [],i,g,out,s,hd,hi,hs,hB=>by
  obtain rfl:=drop_nil hd hi
  refine ⟨.inr (stM r g out),Z4 ?_,g,out,rfl,hs,by omega⟩
  unfold Ul
  simp only
  rw [Zdd,cond_false]
 | o::os,i,g,out,s,hd,hi,hs,hB=>by
  obtain ⟨hi',hx,hd'⟩:=Zeg hd
  have hom:=List.mem_of_getElem? hx
  have hsT:Zfp (o::os)=thN o+Zfp os:=by unfold Zfp;rw [List.map_cons,List.sum_cons]
  obtain ⟨c,g',out',h1,h2⟩:=hG o hom g out s hs (by omega)
  have hcall:Ul G e ((i:Int),stM r g out)=cond (c != 0) (some (.inr (.inl c))) (some (.inl (((i+1:Nat):Int),stM r g' out'))):=by
   unfold Ul stM
   simp only
   rw [Vz hi',cond_true,Yk hx,Option.bind_some]
   rw [show (⟨⟨r.a,r.kind,r.segment,r.at_,r.words,r.ptrs,r.count,r.code,r.index⟩,(g:Int),out⟩:Zj)=⟨r,(g:Int),out⟩ from rfl,h1,Option.bind_some]
   simp only
   rw [Yz (by omega) (by omega)]
   rfl
  rw [show apO (o::os)=(o,ap o.E)::apO os from rfl,rnO]
  cases hw:stO o (ap o.E) s with
  | none =>
   rw [hw] at h2
   subst h2
   exact ⟨.inl 13,Z4 (by rw [hcall];rfl),rfl⟩
  | some s' =>
   rw [hw] at h2
   obtain ⟨rfl,h3,h4⟩:=h2
   have:=hT o hom
   obtain ⟨z,z1,z2⟩:=Zy1 hlen hG hT os (i+1) g' out' s' hd' (by omega) h3 (by omega)
   exact ⟨z,by rw [Yd (by rw [hcall];rfl)];exact z1,z2⟩
theorem Ycj {f1 f2 f3:FD} {f4:FK} {f6:FE} {r:Zb} {t:Tr} (hm:Mn A r t) {G:FS} {e:Ed} (hl:2≤e.List_∧e.List_≤9) (hlen:e.Ops.length≤1048576) (hS:Zfp e.Ops≤1073741824)
  (hG:∀ o∈e.Ops,∀ (g:Nat) (out:List Tr) s,LS t g out s→out.length≤1900000000000→∃ (c:Int) (g':Nat) (out':List Tr),G ⟨r,(g:Int),out⟩ o=some (c,⟨r,((g':Nat):Int),out'⟩)∧match stO o (ap o.E) s with | none=>c=13 | some s'=>c=0∧LS t g' out' s'∧out'.length+(t.Kids.length - g')≤out.length+(t.Kids.length - g)+o.L.length)
  (hT:∀ o∈e.Ops,o.L.length≤thN o) (k3:e.Kind=3):DI (Kh f1 f2 f3 f4 G f6 e r) (ap e (nrm t)):=by
 have hkn:=Uy hm.ok
 have hln:=hm.ln
 have hlo:Zcw e.List_=some (decide (2≤e.List_) && decide (e.List_≤9)):=by
  unfold Zcw
  cases decide (2≤e.List_) <;> rfl
 rw [Zft,if_neg (by omega),if_neg (by omega),if_neg (by omega),if_pos k3,U5]
 unfold Kh
 rw [show Xf r=some r.kind from rfl,Option.bind_some,← hm.kd,hlo,show decide (2≤e.List_)=true from decide_eq_true hl.1,show decide (e.List_≤9)=true from decide_eq_true hl.2]
 by_cases hk:t.Kind=e.List_
 ·rw [if_pos hk,show (t.Kind != e.List_)=false from bne_eq_false_iff_eq.2 hk,cond_false,Option.bind_some]
  simp only [Bool.and_self,Bool.not_true,cond_false,Option.bind_some]
  have hnk:(nrm t).Kids=t.Kids.map nrm:=by rw [Ui (by omega) (by omega)]
  obtain ⟨z,z1,z2⟩:=Zy1 (r:=r) (t:=t) hlen hG hT e.Ops 0 0 [] (t.Kids.map nrm,[]) rfl (Nat.zero_le _) ⟨rfl,rfl,Nat.zero_le _,by simp⟩ (by simp;omega)
  rw [show ((0:Int),r.a,t.Kind,r.segment,r.at_,r.words,r.ptrs,r.count,r.code,r.index,(0:Int),([]:List Za))=(((0:Nat):Int),stM r 0 []) from by rw [hm.kd];rfl,z1,Option.bind_some,hnk]
  cases hw:rnO (apO e.Ops) (t.Kids.map nrm,[]) with
  | none =>
   rw [hw] at z2
   subst z2
   exact ⟨_,13,rfl,rfl⟩
  | some s' =>
   rw [hw] at z2
   obtain ⟨g',out',rfl,⟨q1,q2,q3,q4⟩,q5⟩:=z2
   obtain ⟨s1,s2⟩:=s'
   simp only at q1 q2
   subst q1 q2
   simp only
   rw [Zdv,Option.bind_some,← hln]
   by_cases hg:g' < t.Kids.length
   ·rw [show decide ((stM r g' out').2.2.2.2.2.2.2.2.2.1 < ((t.Kids.length:Nat):Int))=true from by rw [decide_eq_true_eq];show (g':Int) < _;omega,cond_true,List.drop_eq_getElem_cons hg,List.map_cons]
    exact ⟨_,13,rfl,rfl⟩
   rw [show decide ((stM r g' out').2.2.2.2.2.2.2.2.2.1 < ((t.Kids.length:Nat):Int))=false from by rw [decide_eq_false_iff_not];show ¬ (g':Int) < _;omega,cond_false,List.drop_eq_nil_of_le (by omega)]
   refine ⟨⟨e.List_,[],out'⟩,0,rfl,rfl,?_,.mk _ (by simp) (by simp only;omega) (by simp) q4⟩
   rw [Ui (by simp only;omega) (by simp only;omega),hk]
 rw [if_neg hk,bne_iff_ne.2 hk,cond_true,Option.bind_some,cond_true]
 exact ⟨_,13,rfl,rfl⟩
end
theorem Yhh (a b:Int):Zau a b=some (if a < b then -1 else if b < a then 1 else 0):=by
 have h:∀ a:Int,Zad a=some false:=fun a=>by unfold Zad;rw [bne_self_eq_false]
 unfold Zau
 rw [h,h,Option.bind_some,Option.bind_some,cond_false,cond_false]
 by_cases h1:a < b
 ·rw [decide_eq_true h1,cond_true,if_pos h1]
 rw [decide_eq_false h1,cond_false,if_neg h1]
 by_cases h2:b < a
 ·rw [decide_eq_true h2,cond_true,if_pos h2]
 rw [decide_eq_false h2,cond_false,if_neg h2]
theorem Ykv {i j:Nat} (h:i+j≤1000000000000000):IntKind.i64.wrap (Int.fdiv (IntKind.u64.wrap (IntKind.i64.wrap ((i:Int)+(j:Int)))) (2 ^ min (Int.toNat 1) 64))=(((i+j) / 2:Nat):Int):=by
 have e1:IntKind.u64.wrap ((i:Int)+(j:Int))=(i:Int)+(j:Int):=Z3h ⟨by omega,by omega⟩
 rw [Yz (x:=(i:Int)+(j:Int)) (by omega) (by omega),e1,show ((2:Int) ^ min (Int.toNat 1) 64)=2 from rfl,Int.fdiv_eq_ediv_of_nonneg _ (by decide),Yz (by omega) (by omega)]
 omega
theorem Yo8 {l:List Zt} (hl:l.length≤100000000000000) (hp:l.Pairwise fun a b=>a.At < b.At) (a:Int) :
  ∃ r,Zv (Yy l a) (0,(l.length:Int))=some r∧∃ i:Nat,r=(i:Int)∧i≤l.length∧(∀ q k,q < i→l[q]? = some k→k.At < a)∧(∀ q k,i≤q→l[q]? = some k→a≤k.At):=by
 have hs:∀ (p q:Nat) (kp kq:Zt),p < q→l[p]? = some kp→l[q]? = some kq→kp.At < kq.At:=fun p q kp kq hpq h1 h2=>by
  obtain ⟨i1,e1⟩:=List.getElem?_eq_some_iff.1 h1
  obtain ⟨i2,e2⟩:=List.getElem?_eq_some_iff.1 h2
  have:=List.pairwise_iff_getElem.1 hp p q i1 i2 hpq
  rwa [e1,e2] at this
 refine Zdg (fun s=>∃ lo hi:Nat,s=((lo:Int),(hi:Int))∧lo≤hi∧hi≤l.length∧(∀ q k,q < lo→l[q]? = some k→k.At < a)∧(∀ q k,hi≤q→l[q]? = some k→a≤k.At)) (fun s=>(s.2 - s.1).toNat) _ (fun s hI => ?_) _ ⟨0,l.length,rfl,Nat.zero_le _,Nat.le_refl _,fun q k h=>by omega,fun q k h h2=>by
  rw [List.getElem?_eq_none h] at h2;cases h2⟩
 obtain ⟨lo,hi,rfl,h1,h2,h3,h4⟩:=hI
 unfold Yy
 simp only
 by_cases hlt:lo < hi
 ·have hm:(lo+hi) / 2 < l.length:=by omega
  have hx:l[(lo+hi) / 2]? = some l[(lo+hi) / 2]:=List.getElem?_eq_getElem hm
  rw [Vz hlt,cond_true,Ykv (by omega),Yk hx,Option.bind_some]
  unfold V3
  rw [Yhh,Option.bind_some,Option.bind_some]
  by_cases hc:l[(lo+hi) / 2].At < a
  ·rw [if_pos hc,show decide ((-1:Int) < 0)=true from rfl,cond_true,Yz (by omega) (by omega)]
   refine .inl ⟨_,rfl,⟨(lo+hi) / 2+1,hi,by simp,by omega,h2,fun q k hq hk => ?_,h4⟩,by simp only;omega⟩
   rcases Nat.lt_or_ge q ((lo+hi) / 2) with h | h
   ·have:=hs q _ k _ h hk hx;omega
   obtain rfl:q=(lo+hi) / 2:=by omega
   rw [hx] at hk;injection hk with hk;rw [← hk];exact hc
  rw [if_neg hc,show decide ((if a < l[(lo+hi) / 2].At then (1:Int) else 0) < 0)=false from by split <;> rfl,cond_false]
  refine .inl ⟨_,rfl,⟨lo,(lo+hi) / 2,rfl,by omega,by omega,h3,fun q k hq hk => ?_⟩,by simp only;omega⟩
  rcases Nat.lt_or_ge ((lo+hi) / 2) q with h | h
  ·have:=hs _ q _ k h hx hk;omega
  obtain rfl:q=(lo+hi) / 2:=by omega
  rw [hx] at hk;injection hk with hk;rw [← hk];omega
 obtain rfl:lo=hi:=by omega
 rw [Zdd,cond_false]
 exact .inr ⟨_,rfl,lo,rfl,h2,h3,h4⟩
theorem Yan {l:List Zt} (hl:l.length≤100000000000000) (hp:l.Pairwise fun a b=>a.At < b.At) (a:Int) :
  ∃ E,Zbl l a=some E∧((∃ k∈l,k.At=a∧E=k.E)∨((∀ k∈l,k.At≠a)∧E=eZ)):=by
 obtain ⟨_,e1,i,rfl,h1,h2,h3⟩:=Yo8 hl hp a
 have none_:(∀ k,l[i]? = some k→k.At≠a)→∀ k∈l,k.At≠a:=fun h k hk=>by
  obtain ⟨q,hq⟩:=List.getElem?_of_mem hk
  rcases Nat.lt_trichotomy q i with h' | h' | h'
  ·have:=h2 q k h' hq;omega
  ·subst h';exact h k hq
  obtain ⟨w1,w2⟩:=List.getElem?_eq_some_iff.1 hq
  have hi:i < l.length:=by omega
  have ha:=h3 i _ (Nat.le_refl _) (List.getElem?_eq_getElem hi)
  have:=List.pairwise_iff_getElem.1 hp i q hi w1 h'
  rw [w2] at this
  omega
 unfold Zbl Y7
 rw [e1,Option.bind_some]
 by_cases hi:i < l.length
 ·have hx:l[i]? = some l[i]:=List.getElem?_eq_getElem hi
  rw [Vz hi,cond_true,Yk hx,Option.bind_some]
  unfold V3
  rw [Yhh,Option.bind_some,Option.bind_some,Option.bind_some,cond_true,Option.bind_some]
  simp only
  have ha:=h3 i _ (Nat.le_refl _) hx
  by_cases hq:l[i].At=a
  ·rw [if_neg (by omega),if_neg (by omega),show (!((0:Int) == 0))=false from rfl,cond_false,Yk hx,Option.bind_some]
   exact ⟨_,rfl,.inl ⟨_,List.getElem_mem hi,hq,rfl⟩⟩
  rw [if_neg (by omega),if_pos (by omega),show (!((1:Int) == 0))=true from rfl,cond_true]
  exact ⟨_,rfl,.inr ⟨none_ fun k hk=>by rw [hx] at hk;injection hk with hk;rw [← hk];exact hq,rfl⟩⟩
 obtain rfl:i=l.length:=by omega
 rw [Zdd,cond_false,Option.bind_some,Option.bind_some]
 exact ⟨_,rfl,.inr ⟨none_ (fun k hk=>(by rw [List.getElem?_eq_none (Nat.le_refl _)] at hk;cases hk)),rfl⟩⟩
def wK (l:List Zt) (o:Nat→Tr) (j:Nat):Option Tr:=match l.find? fun k=>k.At == (j:Int) with
 | some k=>ap k.E (o j)
 | none=>some (o j)
theorem Z5u {l:List Zt} (hp:l.Pairwise fun a b=>a.At < b.At) {k:Zt} (hk:k∈l) {j:Nat} (hj:k.At=(j:Int)) (o:Nat→Tr):wK l o j=ap k.E (o j):=by
 unfold wK
 cases hf:l.find? fun k=>k.At == (j:Int) with
 | none =>
  have:=List.find?_eq_none.1 hf k hk
  simp only [beq_iff_eq] at this
  exact absurd hj this
 | some k' =>
  have h1:=List.find?_some hf
  simp only [beq_iff_eq] at h1
  have h2:=List.mem_of_find?_eq_some hf
  have:k'=k:=by
   obtain ⟨p,hp1⟩:=List.getElem?_of_mem h2
   obtain ⟨q,hq1⟩:=List.getElem?_of_mem hk
   obtain ⟨i1,e1⟩:=List.getElem?_eq_some_iff.1 hp1
   obtain ⟨i2,e2⟩:=List.getElem?_eq_some_iff.1 hq1
   rcases Nat.lt_trichotomy p q with h | h | h
   ·have:=List.pairwise_iff_getElem.1 hp p q i1 i2 h
    rw [e1,e2] at this;omega
   ·subst h;rw [← e1,← e2]
   have:=List.pairwise_iff_getElem.1 hp q p i2 i1 h
   rw [e1,e2] at this;omega
  rw [this]
theorem Z3j {l:List Zt} {j:Nat} (h:∀ k∈l,k.At≠(j:Int)) (o:Nat→Tr):wK l o j=some (o j):=by
 unfold wK
 rw [List.find?_eq_none.2 fun k hk=>by simp only [beq_iff_eq];exact h k hk]
section
variable {A:Zn}
theorem Z33 (hA:WS A.segments) {F:FD} {r:Zb} {t:Tr} (hm:Mn A r t) {l:List Zt} (hl:l.length≤100000000000000) (hp:l.Pairwise fun a b=>a.At < b.At)
  (hF:∀ (j:Nat) (E:Ed),j < t.Kids.length→(E=eZ∨∃ k∈l,E=k.E)→DI (F E (Yo A r (j:Int)).1) (ap E (nrm (Xk n0T t.Kids j)))) :
  ∀ (n i:Nat) (out:List Tr),i+n=t.Kids.length→out.length=i→(∀ j,j < i→wK l (fun j=>nrm (Xk n0T t.Kids j)) j=some (nrm (Xk n0T out j)))→(∀ x∈out,Bd x) →
   ∃ z,Zv (Jk F l r (t.Kids.length:Int)) ((i:Int),out)=some z∧((z = .inl 13∧∃ j,j < t.Kids.length∧wK l (fun j=>nrm (Xk n0T t.Kids j)) j=none) ∨
    ∃ out',z = .inr out'∧out'.length=t.Kids.length∧(∀ j,j < t.Kids.length→wK l (fun j=>nrm (Xk n0T t.Kids j)) j=some (nrm (Xk n0T out' j)))∧∀ x∈out',Bd x)
 | 0,i,out,hi,ho,hw,hb=>by
  refine ⟨.inr out,Z4 ?_,.inr ⟨out,rfl,by omega,fun j hj=>hw j (by omega),hb⟩⟩
  unfold Jk
  simp only
  rw [show i=t.Kids.length by omega,Zdd,cond_false]
 | n+1,i,out,hi,ho,hw,hb=>by
  have hkn:=Uy hm.ok
  have hln:=hm.ln
  have hil:i < t.Kids.length:=by omega
  obtain ⟨E,h1,h2⟩:=Yan hl hp (i:Int)
  have hwE:wK l (fun j=>nrm (Xk n0T t.Kids j)) i=ap E (nrm (Xk n0T t.Kids i)):=by
   rcases h2 with ⟨k,hk,ha,rfl⟩ | ⟨hn,rfl⟩
   ·exact Z5u hp hk ha _
   rw [Z3j hn,Yb3]
  obtain ⟨v,c,d1,d2⟩:=hF i E hil (by
   rcases h2 with ⟨k,hk,_,rfl⟩ | ⟨_,rfl⟩
   ·exact .inr ⟨k,hk,rfl⟩
   exact .inl rfl)
  have hcall:Jk F l r (t.Kids.length:Int) ((i:Int),out)=cond (c != 0) (some (.inr (.inl c))) (some (.inl (((i+1:Nat):Int),out++[v]))):=by
   unfold Jk
   simp only
   rw [Vz hil,cond_true,Zz8 hA hm.ok,Option.bind_some,(hm.at i).1,show ((0:Int) != 0)=false from rfl,cond_false,h1,Option.bind_some,d1,Option.bind_some,J5 (by simp only [List.length_singleton];omega) (by simp only [List.length_singleton];omega),Option.bind_some,Yz (by omega) (by omega)]
   rfl
  cases hq:ap E (nrm (Xk n0T t.Kids i)) with
  | none =>
   rw [hq] at d2
   subst d2
   exact ⟨.inl 13,Z4 (by rw [hcall];rfl),.inl ⟨rfl,i,hil,by rw [hwE,hq]⟩⟩
  | some u =>
   rw [hq] at d2
   obtain ⟨rfl,d3,d4⟩:=d2
   obtain ⟨z,z1,z2⟩:=Z33 hA hm hl hp hF n (i+1) (out++[v]) (by omega) (by rw [List.length_append,List.length_singleton];omega) (fun j hj=>by
    rcases Nat.lt_or_ge j i with h | h
    ·rw [hw j h,U7 (show j < out.length by omega),U7 (by rw [List.length_append];omega),List.getElem_append_left (by omega)]
    ·obtain rfl:j=i:=by omega
     rw [hwE,hq,← d3,U7 (by rw [List.length_append,List.length_singleton];omega),List.getElem_append_right (by omega)]
     simp) (fun x hx=>by
    rcases List.mem_append.1 hx with h | h
    ·exact hb x h
    rw [List.mem_singleton] at h;rw [h];exact d4)
   exact ⟨z,by rw [Yd (by rw [hcall];rfl)];exact z1,z2⟩
end
theorem Ypg {x:Zt} {n:Nat} (hx:x.At=(n:Int)) (hn:n≤65534) {y:Za×Int} {out:List Tr} (hl:out.length≤n) :
  ∃ out',((Zv (Jl x y) out).bind fun (z25:(List Za))=>cond (x.At == (z25.length:Int)) ((Zc9 56 z25 ([y.1]:List Za)).bind fun l26=>some (.inl l26)) (some (.inl z25)))=some (.inl out':(List Za) ⊕ Int) ∧
   (∀ j,nrm (Xk n0T out' j)=if j=n then nrm y.1 else nrm (Xk n0T out j))∧out.length≤out'.length∧out'.length≤n+1∧∀ z∈out',z∈out∨z=n0T∨z=y.1:=by
 have hloop:Zv (Jl x y) out=some (if y.1.Kind≠0 then out++List.replicate (n - out.length) n0T else out):=by
  by_cases hg:y.1.Kind≠0
  ·rw [if_pos hg]
   refine Zk0 (fun s=>∃ j,j≤n - out.length∧s=out++List.replicate j n0T) (fun s=>n - s.length) ?_ _ ⟨0,Nat.zero_le _,by simp⟩
   rintro s ⟨j,hj,rfl⟩
   unfold Jl
   rw [show (y.1.Kind != 0)=true from bne_iff_ne.2 hg,hx]
   by_cases hl2:j < n - out.length
   ·left
    refine ⟨out++List.replicate (j+1) n0T,?_,⟨j+1,by omega,rfl⟩,by simp only [List.length_append,List.length_replicate];omega⟩
    have hap:Zc9 56 (out++List.replicate j n0T) ([(⟨0,[],[]⟩:Za)]:List Za)=some ((out++List.replicate j n0T)++[n0T]):=J5 (by simp only [List.length_append,List.length_replicate,List.length_singleton];omega) (by simp only [List.length_append,List.length_replicate,List.length_singleton];omega)
    rw [show decide (((out++List.replicate j n0T).length:Int) < (n:Int))=true from by rw [decide_eq_true_eq];simp only [List.length_append,List.length_replicate];omega,cond_true,cond_true,hap,Option.bind_some,List.append_assoc,← List.replicate_succ']
   right
   rw [show decide (((out++List.replicate j n0T).length:Int) < (n:Int))=false from by rw [decide_eq_false_iff_not];simp only [List.length_append,List.length_replicate];omega,cond_false,cond_false,show j=n - out.length by omega]
  rw [if_neg hg]
  refine Z4 ?_
  unfold Jl
  rw [show (y.1.Kind != 0)=false from bne_eq_false_iff_eq.2 (Classical.byContradiction hg)]
  cases decide ((out.length:Int) < x.At) <;> rfl
 rw [hloop,Option.bind_some,hx]
 by_cases hg:y.1.Kind≠0
 ·rw [if_pos hg]
  have hlen:(out++List.replicate (n - out.length) n0T).length=n:=by simp only [List.length_append,List.length_replicate];omega
  rw [hlen,show (((n:Nat):Int) == ((n:Nat):Int))=true from beq_self_eq_true _,cond_true,J5 (by rw [hlen];simp only [List.length_singleton];omega) (by rw [hlen];simp only [List.length_singleton];omega),Option.bind_some]
  refine ⟨_,rfl,fun j => ?_,by simp only [List.length_append];omega,by rw [List.length_append,hlen];simp,fun z hz => ?_⟩
  ·by_cases hj:j=n
   ·rw [if_pos hj,hj,U7 (by rw [List.length_append,hlen];simp),List.getElem_append_right (by omega)]
    simp [hlen]
   rw [if_neg hj]
   rcases Nat.lt_or_ge j out.length with h | h
   ·rw [U7 h,U7 (by rw [List.length_append,hlen];simp;omega),List.getElem_append_left (by omega),List.getElem_append_left h]
   rw [U8 h]
   rcases Nat.lt_or_ge j n with h2 | h2
   ·rw [U7 (by rw [List.length_append,hlen];simp;omega),List.getElem_append_left (by omega),List.getElem_append_right h,List.getElem_replicate]
   rw [U8 (by rw [List.length_append,hlen];simp;omega)]
  rcases List.mem_append.1 hz with h | h
  ·rcases List.mem_append.1 h with h | h
   ·exact .inl h
   exact .inr (.inl (List.eq_of_mem_replicate h))
  exact .inr (.inr (List.mem_singleton.1 h))
 have hv:nrm y.1=n0T:=Zca (Classical.byContradiction hg)
 rw [if_neg hg]
 by_cases hn2:n=out.length
 ·rw [show (((n:Nat):Int) == ((out.length:Nat):Int))=true from by rw [hn2];exact beq_self_eq_true _,cond_true,J5 (by simp only [List.length_singleton];omega) (by simp only [List.length_singleton];omega),Option.bind_some]
  refine ⟨_,rfl,fun j => ?_,by simp,by simp;omega,fun z hz => ?_⟩
  ·by_cases hj:j=n
   ·rw [if_pos hj,hj,U7 (by simp;omega),List.getElem_append_right (by omega)]
    simp [hn2]
   rw [if_neg hj]
   rcases Nat.lt_or_ge j out.length with h | h
   ·rw [U7 h,U7 (by simp;omega),List.getElem_append_left h]
   rw [U8 h,U8 (by simp;omega)]
  rcases List.mem_append.1 hz with h | h
  ·exact .inl h
  exact .inr (.inr (List.mem_singleton.1 h))
 rw [show (((n:Nat):Int) == ((out.length:Nat):Int))=false from by rw [beq_eq_false_iff_ne];omega,cond_false]
 refine ⟨_,rfl,fun j => ?_,Nat.le_refl _,by omega,fun z hz => .inl hz⟩
 by_cases hj:j=n
 ·rw [if_pos hj,hj,U8 hl,hv];exact NT.z
 rw [if_neg hj]
section
variable {A:Zn}
theorem Zwu (hA:WS A.segments) {F:FD} {r:Zb} {t:Tr} (hm:Mn A r t) {l:List Zt} (hl:l.length≤100000000000000) (hp:l.Pairwise fun a b=>a.At < b.At) (hAt:∀ k∈l,0≤k.At∧k.At≤65534)
  (hF:∀ k∈l,DI (F k.E r0) (ap k.E n0T)) :
  ∀ (ks:List Zt) (i:Nat) (out:List Tr),l.drop i=ks→i≤l.length→(∀ j,(j < t.Kids.length∨∃ k∈l.take i,k.At=(j:Int))→wK l (fun j=>nrm (Xk n0T t.Kids j)) j=some (nrm (Xk n0T out j))) →
   (∀ j,t.Kids.length≤j→(∀ k∈l.take i,k.At≠(j:Int))→nrm (Xk n0T out j)=n0T)→(∀ k∈ks,(t.Kids.length:Int)≤k.At→(out.length:Int)≤k.At)→out.length≤1200000000→(∀ x∈out,Bd x) →
   ∃ z,Zv (Xr F l r) ((i:Int),out)=some z∧((z = .inl 13∧∃ j,wK l (fun j=>nrm (Xk n0T t.Kids j)) j=none) ∨
    ∃ out',z = .inr out'∧(∀ j,wK l (fun j=>nrm (Xk n0T t.Kids j)) j=some (nrm (Xk n0T out' j)))∧out'.length≤1200000000∧∀ x∈out',Bd x)
 | [],i,out,hd,hi,h1,h2,h3,h4,h5=>by
  obtain rfl:=drop_nil hd hi
  rw [List.take_length] at h1 h2
  refine ⟨.inr out,Z4 ?_,.inr ⟨out,rfl,fun j => ?_,h4,h5⟩⟩
  ·unfold Xr
   simp only
   rw [Zdd,cond_false]
  by_cases hj:j < t.Kids.length∨∃ k∈l,k.At=(j:Int)
  ·exact h1 j hj
  have hn:∀ k∈l,k.At≠(j:Int):=fun k hk q=>hj (.inr ⟨k,hk,q⟩)
  have hjl:t.Kids.length≤j:=Nat.le_of_not_lt fun q=>hj (.inl q)
  rw [Z3j hn,h2 j hjl hn,U8 hjl]
  exact congrArg some NT.z
 | k::ks,i,out,hd,hi,h1,h2,h3,h4,h5=>by
  obtain ⟨hi',hx,hd'⟩:=Zeg hd
  have hkm:=List.mem_of_getElem? hx
  have hkn:=Uy hm.ok
  have hln:=hm.ln
  have ha:=hAt k hkm
  have htk:l.take (i+1)=l.take i++[k]:=by
   rw [List.take_add_one,hx];rfl
  have hsort:∀ k'∈ks,k.At < k'.At:=fun k' hk'=>by
   have:=hp.sublist (List.drop_sublist i l)
   rw [hd] at this
   exact (List.pairwise_cons.1 this).1 k' hk'
  by_cases hlt:k.At < (t.Kids.length:Int)
  ·have hstep:Xr F l r ((i:Int),out)=some (.inl (((i+1:Nat):Int),out)):=by
    unfold Xr
    simp only
    rw [Vz hi',cond_true,Yk hx,Option.bind_some,Zdv,Option.bind_some,← hln,decide_eq_true hlt,cond_true,Option.bind_some]
    simp only
    rw [Yz (by omega) (by omega)]
    rfl
   rw [Yd hstep]
   refine Zwu hA hm hl hp hAt hF ks (i+1) out hd' (by omega) (fun j hj => ?_) (fun j hj hn=>h2 j hj fun k' hk'=>hn k' (by rw [htk];exact List.mem_append_left _ hk')) (fun k' hk' h=>h3 k' (.tail _ hk') h) h4 h5
   rw [htk] at hj
   rcases hj with h | ⟨k',hk',h⟩
   ·exact h1 j (.inl h)
   rcases List.mem_append.1 hk' with q | q
   ·exact h1 j (.inr ⟨k',q,h⟩)
   rw [List.mem_singleton] at q;subst q;exact h1 j (.inl (by omega))
  obtain ⟨v,c,d1,d2⟩:=hF k hkm
  have hAn:k.At=((k.At.toNat:Nat):Int):=by omega
  have hwk:wK l (fun j=>nrm (Xk n0T t.Kids j)) k.At.toNat=ap k.E n0T:=by
   rw [Z5u hp hkm hAn,U8 (by omega)]
   exact congrArg (ap k.E) NT.z
  obtain ⟨out',p1,p2,p3,p4,p5⟩:=Ypg (x:=k) (n:=k.At.toNat) hAn (by omega) (y:=(v,c)) (out:=out) (by have:=h3 k (.head _) (by omega);omega)
  have hcall:Xr F l r ((i:Int),out)=cond (c != 0) (some (.inr (.inl c))) (some (.inl (((i+1:Nat):Int),out'))):=by
   unfold Xr
   simp only
   rw [Vz hi',cond_true,Yk hx,Option.bind_some,Zdv,Option.bind_some,← hln,decide_eq_false hlt,cond_false]
   rw [show (⟨(none:(Option Zn)),0,0,0,0,0,0,0,0⟩:Zb)=r0 from rfl,d1,Option.bind_some,show decide (65534 < k.At)=false from by rw [decide_eq_false_iff_not];omega,cond_false,Option.bind_some]
   simp only
   cases hc:c != 0 with
   | true=>rfl
   | false =>
    rw [cond_false,p1,Option.bind_some,Yz (by omega) (by omega)]
    rfl
  cases hq:ap k.E n0T with
  | none =>
   rw [hq] at d2
   subst d2
   exact ⟨.inl 13,Z4 (by rw [hcall];rfl),.inl ⟨rfl,k.At.toNat,by rw [hwk,hq]⟩⟩
  | some u =>
   rw [hq] at d2
   obtain ⟨rfl,d3,d4⟩:=d2
   rw [Yd (show Xr F l r ((i:Int),out)=some (.inl (((i+1:Nat):Int),out')) by rw [hcall];rfl)]
   refine Zwu hA hm hl hp hAt hF ks (i+1) out' hd' (by omega) (fun j hj => ?_) (fun j hj hn => ?_) (fun k' hk' h=>by have:=hsort k' hk';omega) (by omega) (fun x hx' => ?_)
   ·rw [p2]
    by_cases hjk:j=k.At.toNat
    ·rw [if_pos hjk,hjk,hwk,hq,← d3]
    rw [if_neg hjk]
    rw [htk] at hj
    rcases hj with h | ⟨k',hk',h⟩
    ·exact h1 j (.inl h)
    rcases List.mem_append.1 hk' with q | q
    ·exact h1 j (.inr ⟨k',q,h⟩)
    rw [List.mem_singleton] at q;subst q;exact absurd (by omega) hjk
   ·have hne:j≠k.At.toNat:=fun q=>hn k (by rw [htk];simp) (by omega)
    rw [p2,if_neg hne]
    exact h2 j hj fun k' hk'=>hn k' (by rw [htk];exact List.mem_append_left _ hk')
   rcases p5 x hx' with h | h | h
   ·exact h5 x h
   ·rw [h];exact Zj7
   rw [h];exact d4
end
section
variable {A:Zn}
theorem Yci (hA:WS A.segments) {F f2 f3:FD} {f4:FK} {f5:FS} {f6:FE} {r:Zb} {t:Tr} (hm:Mn A r t) (h1:t.Kind=1) {e:Ed} (hx:∀ k∈e.Kids,RX k.E) (hl:e.Kids.length≤100000000000000) (hp:e.Kids.Pairwise fun a b=>a.At < b.At) (hAt:∀ k∈e.Kids,0≤k.At∧k.At≤65534)
  (hF:∀ (j:Nat) (E:Ed),j < t.Kids.length→(E=eZ∨∃ k∈e.Kids,E=k.E)→DI (F E (Yo A r (j:Int)).1) (ap E (nrm (Xk n0T t.Kids j)))) (hF0:∀ k∈e.Kids,DI (F k.E r0) (ap k.E n0T)) :
  ∃ out c,Qr F f2 f3 f4 f5 f6 e.Kids r=some (out,c)∧match rnK (nrm t).Kids (apK e.Kids) (nrm t).Kids with | none=>c=13 | some ks=>c=0∧tr pT (out.map nrm)=tr pT ks∧out.length≤1200000000∧∀ x∈out,Bd x:=by
 have hkn:=Uy hm.ok
 have hln:=hm.ln
 have hK:(nrm t).Kids=tr pT (t.Kids.map nrm):=by rw [Qy h1];rfl
 have hat:∀ j,Xk n0T (nrm t).Kids j=nrm (Xk n0T t.Kids j):=fun j=>by rw [hK,Zr9 (z:=n0T) (p:=pT) _ (Zs0 _) j,Zfr]
 have hKn:∀ x∈(nrm t).Kids,NT x:=fun x hx'=>(NT.of t).kids x hx'
 have hpw:(apK e.Kids).Pairwise fun a b=>a.1≠b.1:=by
  unfold apK
  rw [List.pairwise_map]
  exact hp.imp_of_mem fun {a b} ha hb hab=>by have:=hAt a ha;have:=hAt b hb;simp only;omega
 have hnt:∀ w∈apK e.Kids,∀ u,w.2 (Xk n0T (nrm t).Kids w.1)=some u→NT u:=fun w hw u hu=>by
  obtain ⟨k,hk,rfl⟩:=List.mem_map.1 hw
  exact Z7o _ k.E _ u (Nat.lt_succ_self _) (hx k hk) (Zt7 hKn NT.z _) hu
 obtain ⟨s1,s2⟩:=Zxq (nrm t).Kids (apK e.Kids) (nrm t).Kids hpw hnt
 have bad:(∃ j,wK e.Kids (fun j=>nrm (Xk n0T t.Kids j)) j=none)→rnK (nrm t).Kids (apK e.Kids) (nrm t).Kids=none:=fun ⟨j,hj⟩=>s2 fun hok=>by
  by_cases h:∃ k∈e.Kids,k.At=(j:Int)
  ·obtain ⟨k,hk,ha⟩:=h
   rw [Z5u hp hk ha] at hj
   have:=hok (k.At.toNat,ap k.E) (List.mem_map.2 ⟨k,hk,rfl⟩)
   simp only at this
   rw [hat,show k.At.toNat=j by omega,hj] at this
   cases this
  rw [Z3j fun k hk q=>h ⟨k,hk,q⟩] at hj
  cases hj
 unfold Qr
 rw [Zdv,Option.bind_some,← hln]
 obtain ⟨z,z1,z2⟩:=Z33 hA hm hl hp hF t.Kids.length 0 [] (by omega) rfl (fun j hj=>by omega) (by simp)
 rw [show (((0:Nat)):Int)=0 from rfl] at z1
 rw [z1,Option.bind_some]
 rcases z2 with ⟨rfl,j,_,hj⟩ | ⟨out,rfl,o1,o2,o3⟩
 ·rw [bad ⟨j,hj⟩]
  exact ⟨_,13,rfl,rfl⟩
 simp only
 obtain ⟨z,y1,y2⟩:=Zwu hA hm hl hp hAt hF0 e.Kids 0 out rfl (Nat.zero_le _) (fun j hj=>by
  rcases hj with h | ⟨k,hk,_⟩
  ·exact o2 j h
  simp at hk) (fun j hj _=>by rw [U8 (by omega)];exact NT.z) (fun k _ h=>by omega) (by omega) o3
 rw [show (((0:Nat)):Int)=0 from rfl] at y1
 rw [y1,Option.bind_some]
 rcases y2 with ⟨rfl,hj⟩ | ⟨out',rfl,q1,q2,q3⟩
 ·rw [bad hj]
  exact ⟨_,13,rfl,rfl⟩
 have hok:Yf8 (nrm t).Kids (apK e.Kids):=fun w hw=>by
  obtain ⟨k,hk,rfl⟩:=List.mem_map.1 hw
  have ha:=hAt k hk
  have:=q1 k.At.toNat
  rw [Z5u hp hk (by omega)] at this
  simp only
  rw [hat,this]
  rfl
 obtain ⟨c',c1,c2⟩:=s1 hok
 rw [c1]
 refine ⟨out',0,rfl,rfl,?_,q2,q3⟩
 refine Ztd (z:=n0T) rfl _ _ (Zs0 _) (fun x hx' h=>(Zqc (nrm t).Kids NT NT.z _ _ c' hnt hKn c1 x hx').null h) fun j => ?_
 rw [Zfr,c2]
 have hq:=q1 j
 rcases Ybn (nrm t).Kids (apK e.Kids) (Xk n0T (nrm t).Kids) j with ⟨w,hw,hwj,hu⟩ | ⟨hn,hu⟩
 ·obtain ⟨k,hk,rfl⟩:=List.mem_map.1 hw
  have ha:=hAt k hk
  simp only at hwj
  rw [Z5u hp hk (show k.At=(j:Int) by omega)] at hq
  rw [hu,hat]
  simp only
  rw [hq]
  rfl
 rw [Z3j fun k hk q=>hn _ (List.mem_map.2 ⟨k,hk,rfl⟩) (by simp only;omega)] at hq
 injection hq with hq
 rw [hu,hat,← hq]
theorem Z6d (hA:WS A.segments) {f1 f2 f3:FD} {H:FK} {f5:FS} {f6:FE} {r:Zb} {t:Tr} (hm:Mn A r t) (ht:Bd t) {e:Ed} (hb:BE e) (k2:e.Kind=2) (hw:∀ w∈e.Words,0≤w.At∧w.At≤65534)
  (hH:t.Kind=1→∃ out c,H e.Kids r=some (out,c)∧match rnK (nrm t).Kids (apK e.Kids) (nrm t).Kids with | none=>c=13 | some ks=>c=0∧tr pT (out.map nrm)=tr pT ks∧out.length≤1200000000∧∀ x∈out,Bd x) :
  DI (Q8 f1 f2 f3 H f5 f6 e r) (ap e (nrm t)):=by
 rw [Zft,if_neg (by omega),if_neg (by omega),if_pos k2,U5]
 unfold Q8
 rw [show Xf r=some r.kind from rfl,Option.bind_some,← hm.kd]
 by_cases h1:t.Kind=1
 ·have hW:(nrm t).Words=tr p0 t.Words:=by rw [Qy h1];rfl
  rw [if_pos h1,show (t.Kind != 1)=false from bne_eq_false_iff_eq.2 h1,cond_false,Ykp hA hm ht hb.w hb.ws hw,Option.bind_some,hW]
  cases hr:rnW (tr p0 t.Words) e.Words (tr p0 t.Words) with
  | none=>exact ⟨_,13,rfl,rfl⟩
  | some ws =>
   obtain ⟨out,c,e1,e2⟩:=hH h1
   simp only [Option.bind_some]
   rw [show ((0:Int) != 0)=false from rfl,cond_false,e1,Option.bind_some]
   cases hk:rnK (nrm t).Kids (apK e.Kids) (nrm t).Kids with
   | none=>rw [hk] at e2;exact ⟨_,c,rfl,e2⟩
   | some ks =>
    rw [hk] at e2
    obtain ⟨rfl,e3,e4,e5⟩:=e2
    have hlen:=Z1b _ _ _ _ (fun w hw'=>(hw w hw').2) hr
    have htl:=Zc6 p0 t.Words
    have hmem:=Z1c _ _ _ _ (fun x hx=>ht.u x (Zfq hx)) hr
    have hwl:=ht.w
    have hwe:=Zec hm.ok
    rw [← hm.wd] at hwe
    refine ⟨⟨1,ws,out⟩,0,rfl,rfl,?_,.mk _ (by simp only;omega) (by simp only;omega) hmem e5⟩
    rw [Qy rfl]
    have:=e3
    exact congrArg (fun l=>(⟨1,tr p0 ws,l⟩:Tr)) this
 rw [if_neg h1,bne_iff_ne.2 h1,cond_true]
 exact ⟨_,13,rfl,rfl⟩
end
theorem Mn.mr {A:Zn} {r:Zb} {t:Tr} (h:Mn A r t):MR A r t:=by
 induction h with
 | mk hr hk hw hl he h ih=>exact .mk _ _ hr hk hw hl he ih
theorem MR.mn {A:Zn} {r:Zb} {t:Tr} (h:MR A r t):Mn A r t:=by
 induction h with
 | mk _ _ hr hk hw hl he h ih=>exact .mk hr hk hw hl he ih
section
variable {A:Zn}
theorem Yoq (hA:WS A.segments) {r:Zb} {t:Tr} {d:Nat} (hm:Mn A r t) (hd:d≤64) (hr:rt t d=true) (hw:wt t≤65536):Gz r=some (t,0):=by
 by_cases h10:t.Kind=10
 ·have hk:r.kind=10:=by rw [← hm.kd];exact h10
  have hkn:=Z74 hm.ok (.inr hk)
  have hln:=hm.ln
  have h:Uq ⟨65536⟩ r 64=some ((Zgj A r 0).1,0,⟨65536 - 1⟩):=Zep 1 fun k hk'=>(Z7k hA k).2.2 r 0 65536 64 hm.ok hk hkn (by omega) (by omega) (by omega) (by omega) hk'
  have ht:(Zgj A r 0).1=t:=by
   have hks:t.Kids=[]:=List.length_eq_zero_iff.1 (by omega)
   have e1:=hm.kd
   have e2:=hm.wd
   obtain ⟨a,b,c⟩:=t
   simp only at e1 e2 hks
   unfold Zgj
   rw [e1,e2,hks]
  unfold Gz
  rw [h,Option.bind_some,ht]
 have e:=Yho d r t 65536 hm.mr hr h10 (by omega)
 have:=Ye0 hA hd hm.ok (by rw [← hm.kd];exact h10) (left:=65536) (by omega) (by rw [e])
 rw [this,e]
end
def Yag {α β γ:Type} (f g:α→β→Option γ):Prop:=∀ x y r,f x y=some r→g x y=some r
theorem Z71:∀ (k:Nat),Yag (Ze k).1 (Ze (k+1)).1∧Yag (Ze k).2.1 (Ze (k+1)).2.1∧Yag (Ze k).2.2.1 (Ze (k+1)).2.2.1∧Yag (Ze k).2.2.2.1 (Ze (k+1)).2.2.2.1∧Yag (Ze k).2.2.2.2.1 (Ze (k+1)).2.2.2.2.1∧Yag (Ze k).2.2.2.2.2 (Ze (k+1)).2.2.2.2.2
 | 0=>⟨fun x y r h=>(by cases h),fun x y r h=>(by cases h),fun x y r h=>(by cases h),fun x y r h=>(by cases h),fun x y r h=>(by cases h),fun x y r h=>(by cases h)⟩
 | k+1=>by
  obtain ⟨i1,i2,i3,i4,i5,i6⟩:=Z71 k
  refine ⟨fun e t r h => ?_,fun e t r h => ?_,fun e t r h => ?_,fun e t r h => ?_,fun s o r h => ?_,fun s e r h => ?_⟩
  ·change Ud (Ze k).1 (Ze k).2.1 (Ze k).2.2.1 (Ze k).2.2.2.1 (Ze k).2.2.2.2.1 (Ze k).2.2.2.2.2 e t=some r at h
   change Ud (Ze (k+1)).1 (Ze (k+1)).2.1 (Ze (k+1)).2.2.1 (Ze (k+1)).2.2.2.1 (Ze (k+1)).2.2.2.2.1 (Ze (k+1)).2.2.2.2.2 e t=some r
   unfold Ud at h ⊢
   refine U9 _ (fun _ q=>q) (U9 _ (fun _ q=>q) (U9 _ (fun _ => ?_) (U9 _ (fun _ => ?_) (fun _ q=>q)))) r h
   ·exact Kk (fun x q=>i2 _ _ x q) (fun _ _ q=>q)
   exact Kk (fun x q=>i3 _ _ x q) (fun _ _ q=>q)
  ·change Q8 (Ze k).1 (Ze k).2.1 (Ze k).2.2.1 (Ze k).2.2.2.1 (Ze k).2.2.2.2.1 (Ze k).2.2.2.2.2 e t=some r at h
   change Q8 (Ze (k+1)).1 (Ze (k+1)).2.1 (Ze (k+1)).2.2.1 (Ze (k+1)).2.2.2.1 (Ze (k+1)).2.2.2.2.1 (Ze (k+1)).2.2.2.2.2 e t=some r
   unfold Q8 at h ⊢
   exact Kk (fun _ q=>q) (fun y=>U9 _ (fun _ q=>q) (fun _=>Kk (fun _ q=>q) fun w=>U9 _ (fun _ q=>q) (fun _=>Kk (fun x q=>i4 _ _ x q) fun _ _ q=>q))) h
  ·change Kh (Ze k).1 (Ze k).2.1 (Ze k).2.2.1 (Ze k).2.2.2.1 (Ze k).2.2.2.2.1 (Ze k).2.2.2.2.2 e t=some r at h
   change Kh (Ze (k+1)).1 (Ze (k+1)).2.1 (Ze (k+1)).2.2.1 (Ze (k+1)).2.2.2.1 (Ze (k+1)).2.2.2.2.1 (Ze (k+1)).2.2.2.2.2 e t=some r
   unfold Kh at h ⊢
   refine Kk (fun _ q=>q) (fun z=>U9 _ (fun _ q=>q) (fun _=>Kk (fun x=>Zk1 fun s y q => ?_) fun _ _ q=>q)) h
   exact U9 _ (fun _=>Kk (fun _ q=>q) fun _ _=>Kk (fun x q=>i5 _ _ x q) fun _ _ q=>q) (fun _ q=>q) y q
  ·change Qr (Ze k).1 (Ze k).2.1 (Ze k).2.2.1 (Ze k).2.2.2.1 (Ze k).2.2.2.2.1 (Ze k).2.2.2.2.2 e t=some r at h
   change Qr (Ze (k+1)).1 (Ze (k+1)).2.1 (Ze (k+1)).2.2.1 (Ze (k+1)).2.2.2.1 (Ze (k+1)).2.2.2.2.1 (Ze (k+1)).2.2.2.2.2 e t=some r
   unfold Qr at h ⊢
   refine Kk (fun _ q=>q) (fun y2 _=>Kk (fun x=>Zk1 fun s y q => ?_) fun z _ q => ?_) h
   ·exact U9 _ (fun _=>Kk (fun _ q=>q) fun _=>U9 _ (fun _ q=>q) (fun _=>Kk (fun _ q=>q) fun _ _=>Kk (fun x q=>i1 _ _ x q) fun _ _ q=>q)) (fun _ q=>q) y q
   cases z with
   | inl z=>exact q
   | inr z =>
    refine Kk (fun x=>Zk1 fun s y q => ?_) (fun _ _ q=>q) q
    exact U9 _ (fun _=>Kk (fun x=>Kk (fun _ q=>q) fun _ _=>Kk (fun _ q=>q) fun _=>U9 _ (fun _ q=>q) (fun _=>Kk (fun x q=>i1 _ _ x q) fun _ _ q=>q)) fun _ _ q=>q) (fun _ q=>q) y q
  ·change Qd (Ze k).1 (Ze k).2.1 (Ze k).2.2.1 (Ze k).2.2.2.1 (Ze k).2.2.2.2.1 (Ze k).2.2.2.2.2 s o=some r at h
   change Qd (Ze (k+1)).1 (Ze (k+1)).2.1 (Ze (k+1)).2.2.1 (Ze (k+1)).2.2.2.1 (Ze (k+1)).2.2.2.2.1 (Ze (k+1)).2.2.2.2.2 s o=some r
   unfold Qd at h ⊢
   refine U9 _ (fun _=>Kk (fun _ q=>q) fun y=>U9 _ (fun _ q=>q) (fun _=>Kk (fun x=>Zk1 fun s y q => ?_) fun _ _ q=>q)) (U9 _ (fun _ q=>q) (U9 _ (fun _ q=>q) (U9 _ (fun _=>Kk (fun x q=>i6 _ _ x q) fun _ _ q=>q) (fun _ q=>q)))) r h
   exact U9 _ (fun _=>Kk (fun x q=>i6 _ _ x q) fun _ _ q=>q) (fun _ q=>q) y q
  change Qc (Ze k).1 (Ze k).2.1 (Ze k).2.2.1 (Ze k).2.2.2.1 (Ze k).2.2.2.2.1 (Ze k).2.2.2.2.2 s e=some r at h
  change Qc (Ze (k+1)).1 (Ze (k+1)).2.1 (Ze (k+1)).2.2.1 (Ze (k+1)).2.2.2.1 (Ze (k+1)).2.2.2.2.1 (Ze (k+1)).2.2.2.2.2 s e=some r
  unfold Qc at h ⊢
  exact Kk (fun _ q=>q) (fun y=>U9 _ (fun _ q=>q) (fun _=>Kk (fun x q=>i1 _ _ x q) fun _ _ q=>q)) h
theorem Z50 {t k:Tr} (h:k∈t.Kids) (h0:t.Kind≠0) (h10:t.Kind≠10):wt k≤wt t:=by
 have:∀ l:List Tr,k∈l→wt k≤(l.map wt).sum:=fun l=>by
  induction l with
  | nil=>intro h;cases h
  | cons x l ih =>
   intro h
   rw [List.map_cons,List.sum_cons]
   rcases List.mem_cons.1 h with rfl | h
   ·omega
   have:=ih h;omega
 have:=this _ h
 rw [Zx1 t,if_neg h0,if_neg h10]
 omega
section
variable {A:Zn}
theorem Yhl (hA:WS A.segments):∀ (K:Nat),
  (∀ (e:Ed) (de:Nat) r t d,(e.Kind=0∧1≤K)∨(BE e∧GN e∧rE e de=true∧5 * SizeOf.sizeOf e < K)→Mn A r t→Bd t→rt t d=true→d≤64→wt t≤65536→DI ((Ze K).1 e r) (ap e (nrm t))) ∧
  (∀ (e:Ed) (de:Nat) r t d,BE e→GN e→rE e de=true→e.Kind=2→5 * SizeOf.sizeOf e≤K→Mn A r t→Bd t→rt t d=true→d≤64→wt t≤65536→DI ((Ze K).2.1 e r) (ap e (nrm t))) ∧
  (∀ (e:Ed) (de:Nat) r t d,BE e→GN e→rE e de=true→e.Kind=3→5 * SizeOf.sizeOf e≤K→Mn A r t→Bd t→rt t d=true→d≤64→wt t≤65536→DI ((Ze K).2.2.1 e r) (ap e (nrm t))) ∧
  (∀ (e:Ed) (de:Nat) r t d,BE e→GN e→rE e de=true→e.Kind=2→5 * SizeOf.sizeOf e≤K+1→Mn A r t→Bd t→rt t d=true→d≤64→wt t≤65536→t.Kind=1 →
   ∃ out c,(Ze K).2.2.2.1 e.Kids r=some (out,c)∧match rnK (nrm t).Kids (apK e.Kids) (nrm t).Kids with | none=>c=13 | some ks=>c=0∧tr pT (out.map nrm)=tr pT ks∧out.length≤1200000000∧∀ x∈out,Bd x) ∧
  (∀ (e:Ed) (de:Nat) r t d,BE e→GN e→rE e de=true→e.Kind=3→5 * SizeOf.sizeOf e≤K+1→Mn A r t→Bd t→rt t d=true→d≤64→wt t≤65536→¬ t.Kind=0→¬ t.Kind=10 →
   ∀ o∈e.Ops,∀ (g:Nat) (out:List Tr) s,LS t g out s→out.length≤1900000000000→∃ (c:Int) (g':Nat) (out':List Tr),(Ze K).2.2.2.2.1 ⟨r,(g:Int),out⟩ o=some (c,⟨r,((g':Nat):Int),out'⟩)∧match stO o (ap o.E) s with | none=>c=13 | some s'=>c=0∧LS t g' out' s'∧out'.length+(t.Kids.length - g')≤out.length+(t.Kids.length - g)+o.L.length) ∧
  (∀ (E:Ed) (de:Nat) r t d,(E.Kind=0∧2≤K)∨(BE E∧GN E∧rE E de=true∧5 * SizeOf.sizeOf E+1 < K)→Mn A r t→Bd t→rt t d=true→d≤64→wt t≤65536→¬ t.Kind=0→¬ t.Kind=10→∀ (g:Nat) (out:List Tr),g≤t.Kids.length→out.length≤2000000000000 →
   ∃ (c:Int) (g':Nat) (out':List Tr),(Ze K).2.2.2.2.2 ⟨r,(g:Int),out⟩ E=some (c,⟨r,((g':Nat):Int),out'⟩)∧if g < t.Kids.length then (match ap E (nrm (Xk n0T t.Kids g)) with | none=>c=13 | some u=>c=0∧g'=g+1∧∃ v,out'=out++[v]∧nrm v=u∧Bd v) else c=13)
 | 0=>⟨fun e de r t d h=>by rcases h with ⟨_,h⟩ | ⟨_,_,_,h⟩ <;> omega,fun e de r t d _ _ _ _ h=>by have:=Zfv e;omega,fun e de r t d _ _ _ _ h=>by have:=Zfv e;omega,
   fun e de r t d _ _ _ _ h=>by have:=Zfv e;omega,fun e de r t d _ _ _ _ h=>by have:=Zfv e;omega,fun e de r t d h=>by rcases h with ⟨_,h⟩ | ⟨_,_,_,h⟩ <;> omega⟩
 | K+1=>by
  obtain ⟨i1,i2,i3,i4,i5,i6⟩:=Yhl hA K
  refine ⟨fun e de r t d h hm ht hr hd hw => ?_,fun e de r t d hb hg he k2 hK hm ht hr hd hw => ?_,fun e de r t d hb hg he k3 hK hm ht hr hd hw => ?_,fun e de r t d hb hg he k2 hK hm ht hr hd hw h1 => ?_,fun e de r t d hb hg he k3 hK hm ht hr hd hw h0 h10 o ho g out s hs hol => ?_,fun E de r t d h hm ht hr hd hw h0 h10 g out hgl hol => ?_⟩
  ·show DI (Ud (Ze K).1 (Ze K).2.1 (Ze K).2.2.1 (Ze K).2.2.2.1 (Ze K).2.2.2.2.1 (Ze K).2.2.2.2.2 e r) _
   unfold Ud
   by_cases k0:e.Kind=0
   ·rw [show (e.Kind == 0)=true from by rw [k0];rfl,cond_true,Yoq hA hm hd hr hw,Option.bind_some,Zft,if_pos k0]
    exact ⟨t,0,rfl,rfl,rfl,ht⟩
   obtain ⟨hb,hg,he,hK⟩:=h.resolve_left fun q=>k0 q.1
   rw [show (e.Kind == 0)=false from by rw [beq_eq_false_iff_ne];exact k0,cond_false]
   by_cases k1:e.Kind=1
   ·rw [Zmk] at he
    have hde:¬ de=0:=fun q=>by rw [if_pos q] at he;cases he
    rw [if_neg hde,if_neg k0,if_pos k1] at he
    simp only [Bool.and_eq_true] at he
    rw [show (e.Kind == 1)=true from by rw [k1];rfl,cond_true,Z4u hA hm hb.old he.2.1.1,Option.bind_some,Zft,if_neg k0,if_pos k1]
    simp only
    rw [show ((0:Int) == 0)=true from rfl,cond_true]
    by_cases hq:nrm t=nrm e.Old
    ·rw [if_pos hq,eqv_iff.2 hq]
     exact ⟨e.New,0,rfl,rfl,rfl,hb.new⟩
    rw [if_neg hq,show eqv t e.Old=false from by rw [← Bool.not_eq_true,eqv_iff];exact hq]
    exact ⟨e.New,13,rfl,rfl⟩
   rw [show (e.Kind == 1)=false from by rw [beq_eq_false_iff_ne];exact k1,cond_false]
   by_cases k2:e.Kind=2
   ·obtain ⟨v,c,e1,e2⟩:=i2 e de r t d hb hg he k2 (by omega) hm ht hr hd hw
    rw [show (e.Kind == 2)=true from by rw [k2];rfl,cond_true,e1,Option.bind_some]
    exact ⟨v,c,rfl,e2⟩
   rw [show (e.Kind == 2)=false from by rw [beq_eq_false_iff_ne];exact k2,cond_false]
   have k3:e.Kind=3:=by rcases (Zp9 _ e de (Nat.lt_succ_self _) he).kind with h | h | h | h <;> omega
   obtain ⟨v,c,e1,e2⟩:=i3 e de r t d hb hg he k3 (by omega) hm ht hr hd hw
   rw [show (e.Kind == 3)=true from by rw [k3];rfl,cond_true,e1,Option.bind_some]
   exact ⟨v,c,rfl,e2⟩
  ·have hx:=Zp9 _ e de (Nat.lt_succ_self _) he
   refine Z6d (f1:=(Ze K).1) (f2:=(Ze K).2.1) (f3:=(Ze K).2.2.1) (f5:=(Ze K).2.2.2.2.1) (f6:=(Ze K).2.2.2.2.2) hA hm ht hb k2 ?_ fun h1=>i4 e de r t d hb hg he k2 (by omega) hm ht hr hd hw h1
   cases hx with
   | st _ _ _ hw2=>exact hw2
   | same _ q=>omega
   | repl _ q=>omega
   | li _ q=>omega
  ·have hx:=Zp9 _ e de (Nat.lt_succ_self _) he
   have hl:2≤e.List_∧e.List_≤9:=by
    cases hx with
    | li _ _ hl=>exact hl
    | same _ q=>omega
    | repl _ q=>omega
    | st _ q=>omega
   by_cases hk:t.Kind=e.List_
   ·refine Ycj (f1:=(Ze K).1) (f2:=(Ze K).2.1) (f3:=(Ze K).2.2.1) (f4:=(Ze K).2.2.2.1) (f6:=(Ze K).2.2.2.2.2) hm hl hg.o hg.s (fun o ho g out s hs hol=>i5 e de r t d hb hg he k3 (by omega) hm ht hr hd hw (by omega) (by omega) o ho g out s hs hol) (fun o ho => ?_) k3
    have hp:=hg.p o ho
    cases hx with
    | li _ _ _ _ hN =>
     unfold thN
     by_cases q0:o.Kind=0
     ·rw [hN o ho (.inl q0)];exact Nat.zero_le _
     by_cases q3:o.Kind=3
     ·rw [hN o ho (.inr q3)];exact Nat.zero_le _
     rw [if_neg q0,if_neg q3];exact Nat.le_refl _
    | same _ q=>omega
    | repl _ q=>omega
    | st _ q=>omega
   rw [Zft,if_neg (by omega),if_neg (by omega),if_neg (by omega),if_pos k3,U5,if_neg hk]
   show DI (Kh (Ze K).1 (Ze K).2.1 (Ze K).2.2.1 (Ze K).2.2.2.1 (Ze K).2.2.2.2.1 (Ze K).2.2.2.2.2 e r) _
   unfold Kh
   rw [show Xf r=some r.kind from rfl,Option.bind_some,← hm.kd,bne_iff_ne.2 hk,cond_true,Option.bind_some,cond_true]
   exact ⟨_,13,rfl,rfl⟩
  ·have hx:=Zp9 _ e de (Nat.lt_succ_self _) he
   rw [Zmk] at he
   have hde:¬ de=0:=fun q=>by rw [if_pos q] at he;cases he
   rw [if_neg hde,if_neg (by omega),if_neg (by omega),if_pos k2] at he
   simp only [Bool.and_eq_true] at he
   obtain ⟨c1,c2⟩:=Zls (Zxe (de - 1)) e.Kids (-1) he.2.2
   have hrk:∀ k∈e.Kids,rE k.E (de - 1)=true:=fun k hk=>Zmt (Q:=fun k:Zt=>rE k.E (de - 1)=true) (fun p x hx=>by
    unfold okK okP at hx
    simp only [Bool.and_eq_true] at hx
    exact hx.2.2) e.Kids (-1) he.2.2 k hk
   have hrx:∀ k∈e.Kids,RX k.E:=fun k hk=>Zp9 _ k.E (de - 1) (Nat.lt_succ_self _) (hrk k hk)
   have hpos:=Zfv e
   have hk:=hb.k
   have hgk:=hg.k
   refine Yci (f2:=(Ze K).2.1) (f3:=(Ze K).2.2.1) (f4:=(Ze K).2.2.2.1) (f5:=(Ze K).2.2.2.2.1) (f6:=(Ze K).2.2.2.2.2) hA hm h1 hrx (by omega) c2 (fun k hk=>by have:=c1 k hk;omega) (fun j E hj hE => ?_) (fun k hk => ?_)
   ·obtain ⟨q1,q2⟩:=hm.at j
    have hmem:Xk n0T t.Kids j∈t.Kids:=by rw [U7 hj];exact List.getElem_mem hj
    have hwk:=Z50 hmem (by omega) (by omega)
    refine i1 E (de - 1) _ _ (d - 1) ?_ q2 (ht.all _ hmem) (Z7c hr _ hmem) (by omega) (by omega)
    rcases hE with rfl | ⟨k,hk,rfl⟩
    ·exact .inl ⟨rfl,by omega⟩
    exact .inr ⟨hb.ks k hk,hg.ks k hk,hrk k hk,by have:=Za9 hk;omega⟩
   have:=i1 k.E (de - 1) r0 n0T 64 (.inr ⟨hb.ks k hk,hg.ks k hk,hrk k hk,by have:=Za9 hk;omega⟩) Mn.z Zj7 (Yed _) (Nat.le_refl _) (by rw [Zx1];simp [n0T])
   rwa [show nrm n0T=n0T from NT.z] at this
  ·have hx:=Zp9 _ e de (Nat.lt_succ_self _) he
   rw [Zmk] at he
   have hde:¬ de=0:=fun q=>by rw [if_pos q] at he;cases he
   rw [if_neg hde,if_neg (by omega),if_neg (by omega),if_neg (by omega),if_pos k3] at he
   simp only [Bool.and_eq_true,List.all_eq_true] at he
   have hok:=he.2.2.1 o ho
   have hpos:=Zfv e
   have hS:=hg.s
   have hLl:o.L.length≤1073741824:=by
    have:=(hb.l o ho).1
    cases hx with
    | li _ _ _ _ hN =>
     have hm':thN o≤Zfp e.Ops:=by
      have:∀ l:List EO,o∈l→thN o≤(l.map thN).sum:=fun l=>by
       induction l with
       | nil=>intro h;cases h
       | cons x l ih =>
        intro h
        rw [List.map_cons,List.sum_cons]
        rcases List.mem_cons.1 h with rfl | h
        ·omega
        have:=ih h;omega
      exact this _ ho
     by_cases q0:o.Kind=0
     ·rw [hN o ho (.inl q0)];exact Nat.zero_le _
     by_cases q3:o.Kind=3
     ·rw [hN o ho (.inr q3)];exact Nat.zero_le _
     have:thN o=o.L.length:=by unfold thN;rw [if_neg q0,if_neg q3]
     omega
    | same _ q=>omega
    | repl _ q=>omega
    | st _ q=>omega
   refine Yc8 (f1:=(Ze K).1) (f2:=(Ze K).2.1) (f3:=(Ze K).2.2.1) (f4:=(Ze K).2.2.2.1) (f5:=(Ze K).2.2.2.2.1) hA hm hok (hb.l o ho).2 hLl (fun E g out hE hgl hol=>i6 E (de - 1) r t d ?_ hm ht hr hd hw h0 h10 g out hgl hol) hs hol
   rcases hE with rfl | ⟨q3,rfl⟩
   ·exact .inl ⟨rfl,by omega⟩
   refine .inr ⟨hb.os o ho,hg.os o ho,?_,by have:=Zd8 ho;omega⟩
   unfold okO at hok
   rw [if_neg (by omega),if_neg (by omega),if_pos q3] at hok
   simp only [Bool.and_eq_true] at hok
   exact hok.2.2.2.2
  refine Ycx (f2:=(Ze K).2.1) (f3:=(Ze K).2.2.1) (f4:=(Ze K).2.2.2.1) (f5:=(Ze K).2.2.2.2.1) (f6:=(Ze K).2.2.2.2.2) hA hm hgl (fun hg => ?_) hol
  obtain ⟨q1,q2⟩:=hm.at g
  have hmem:Xk n0T t.Kids g∈t.Kids:=by rw [U7 hg];exact List.getElem_mem hg
  have hwk:=Z50 hmem h0 h10
  refine i1 E de _ _ (d - 1) ?_ q2 (ht.all _ hmem) (Z7c hr _ hmem) (by omega) (by omega)
  rcases h with ⟨a,b⟩ | ⟨a,b,c,d'⟩
  ·exact .inl ⟨a,by omega⟩
  exact .inr ⟨a,b,c,by omega⟩
theorem Yji (hA:WS A.segments) {e:Ed} {de:Nat} {r:Zb} {t:Tr} {d:Nat} (hb:BE e) (hg:GN e) (he:rE e de=true) (hm:Mn A r t) (ht:Bd t) (hr:rt t d=true) (hd:d≤64) (hw:wt t≤65536):DI (Zhj e r) (ap e (nrm t)):=by
 obtain ⟨v,c,h1,h2⟩:=(Yhl hA (5 * SizeOf.sizeOf e+1)).1 e de r t d (.inr ⟨hb,hg,he,by omega⟩) hm ht hr hd hw
 exact ⟨v,c,Yc4 (fun k x=>(Z71 k).1 e r x) h1,h2⟩
end
theorem Zza {l:List (List Int)} (hw:WS l):Um l=some (atR ⟨l,0,0⟩ 0 0).1:=by
 unfold Um
 rw [Yi9 hw,Option.bind_some,Ygh (A:=⟨l,0,0⟩) hw,Option.bind_some]
theorem Zz6 {A:Zn} (hA:WS A.segments) {e:Ed} {de:Nat} {r:Zb} {t:Tr} {d:Nat} (hb:BE e) (hg:GN e) (he:rE e de=true) (hm:Mn A r t) (ht:Bd t) (hr:rt t d=true) (hd:d≤64) (hw:wt t≤65536) :
  Gx e r=some (match ap e (nrm t) with | some u=>(u,0) | none=>(n0T,13)):=by
 obtain ⟨v,c,h1,h2⟩:=Yji hA hb hg he hm ht hr hd hw
 unfold Gx
 rw [h1,Option.bind_some]
 cases hq:ap e (nrm t) with
 | none=>rw [hq] at h2;subst h2;rfl
 | some u =>
  rw [hq] at h2
  obtain ⟨rfl,h3,h4⟩:=h2
  simp only
  rw [show ((0:Int) != 0)=false from rfl,cond_false,Yf1 h4,Option.bind_some,h3]
def eN29:Ed:=⟨1,⟨0,[],[]⟩,⟨0,[],[]⟩,[],[],0,[]⟩
theorem Zmr:Kp=some true:=by
 have ha:WS [[4294967296,7]]:=Ykb _ (by simp) (by simp)
 have hbt:Bd ⟨1,[7],[]⟩ := .mk _ (by simp) (by simp) (by simp) (by simp)
 have hrt:rt ⟨1,[7],[]⟩ 64=true:=by rw [Zdw];rfl
 have hwt:wt ⟨1,[7],[]⟩≤65536:=by rw [Zx1];simp
 have hb1:BE eN29 := .mk _ Zj7 Zj7 (by simp [eN29]) (by simp [eN29]) (by simp [eN29]) (by simp [eN29]) (by simp [eN29]) (by simp [eN29]) (by simp [eN29])
 have hg1:GN eN29 := .mk _ (by simp [eN29]) (by simp [eN29]) (by simp [eN29]) (by simp [eN29,Zfp]) (by simp [eN29]) (by simp [eN29]) (by simp [eN29])
 have he1:rE eN29 64=true:=by
  rw [Zmk,if_neg (by decide),if_neg (by decide),if_pos (show eN29.Kind=1 from rfl)]
  have:rt n0T 64=true:=Yed 64
  show ((Zjn eN29 && Zi2 eN29) && ((rt n0T 64 && n0T.Kind != 10) && (rt n0T 64 && n0T.Kind != 10)))=true
  rw [this];rfl
 have hb0:BE eZ := .mk _ Zj7 Zj7 (by simp [eZ]) (by simp [eZ]) (by simp [eZ]) (by simp [eZ]) (by simp [eZ]) (by simp [eZ]) (by simp [eZ])
 have hg0:GN eZ := .mk _ (by simp [eZ]) (by simp [eZ]) (by simp [eZ]) (by simp [eZ,Zfp]) (by simp [eZ]) (by simp [eZ]) (by simp [eZ])
 have he0:rE eZ 64=true:=by rw [Zmk,if_neg (by decide),if_pos (show eZ.Kind=0 from rfl)];rfl
 have h1:=Zz6 (A:=⟨[[4294967296,7]],0,0⟩) ha hb1 hg1 he1 Yhn hbt hrt (Nat.le_refl _) hwt
 have h0:=Zz6 (A:=⟨[[4294967296,7]],0,0⟩) ha hb0 hg0 he0 Yhn hbt hrt (Nat.le_refl _) hwt
 have n7:nrm ⟨1,[7],[]⟩=⟨1,[7],[]⟩:=by rw [Qy rfl];rfl
 have a1:ap eN29 (nrm ⟨1,[7],[]⟩)=none:=by
  rw [Zft,if_neg (by decide),if_pos (show eN29.Kind=1 from rfl),n7,show nrm eN29.Old=n0T from NT.z,if_neg (fun q=>by cases q)]
 rw [a1] at h1
 rw [Yb3,n7] at h0
 unfold Kp
 rw [Zza ha,Option.bind_some]
 refine Option.bind_eq_some_iff.2 ⟨_,h1,?_⟩
 refine Option.bind_eq_some_iff.2 ⟨_,h0,?_⟩
 rfl
theorem Zpa {e:Ed} {l:List (List Int)} (hb:BE e) (hl:WS l) (x:Yi):Kl e l x=some true:=by
 obtain ⟨w,hx⟩:=Yc3 x
 obtain ⟨b,g1,g2⟩:=Yjo hb
 unfold Kl
 rw [hx,Option.bind_some]
 generalize (⟨x.Depth,w,x.MaxD,x.MaxOut⟩:Yi)=y
 rw [show Vn l y=_ from Ybm (A:=⟨l,0,0⟩) hl y,Option.bind_some,g1]
 by_cases e1:(Zja ⟨l,0,0⟩ y).2.2=0
 ·rw [e1,show ((0:Int) != 0)=false from rfl,cond_false,Option.bind_some,Option.bind_some,cond_false]
  cases b with
  | false=>rw [Zmr];rfl
  | true =>
   obtain ⟨he,hc⟩:=g2 rfl
   have hg:GN e:=Ycq _ e 64 (Nat.lt_succ_self _) hb (by omega) he
   obtain ⟨hf,h10,ha,hm⟩:=Ybl (A:=⟨l,0,0⟩) hl y e1
   have hd:=Z6v y
   have hwt:wt (Zja ⟨l,0,0⟩ y).1≤65536:=by
    rcases Z3i (A:=⟨l,0,0⟩) y with ⟨q,_⟩ | ⟨_,_,_,q4,q5⟩
    ·exact absurd e1 q
    have:=(Z8a (A:=⟨l,0,0⟩) hl hd.1 (Zj6 0 0) (Yb7 0 0) hd.2.1 hd.2.2 q4).1
    rw [q5];omega
   have hin:=Zz6 (A:=⟨l,0,0⟩) hl hb hg he hm.mn hf.bd hf.rt (Nat.le_refl _) hwt
   have hca:CA e (Zja ⟨l,0,0⟩ y).1:=⟨Zp9 _ e 64 (Nat.lt_succ_self _) he,hb,hg,by have:=hf.pt;omega,hf.bd⟩
   have hre:=Yd2 (e:=e) (t:=(Zja ⟨l,0,0⟩ y).1) ⟨hca,64,he⟩
   rw [Bool.not_true,cond_false,Zza hl,Option.bind_some,hin,Option.bind_some,hre,Option.bind_some]
   cases hq:ap e (nrm (Zja ⟨l,0,0⟩ y).1) with
   | none =>
    simp only [opR,cond_false]
    rw [show ((13:Int) == 13)=true from rfl,cond_true,Z1f Zj7 Zj7,eqT_iff.2 rfl,Option.bind_some,cond_true,Zmr]
    rfl
   | some u =>
    have hbu:=Zwq hca hq
    simp only [opR,cond_true]
    rw [show ((0:Int) == 0)=true from rfl,cond_true,Z1f hbu hbu,eqT_iff.2 rfl,Option.bind_some,cond_true,Zmr]
    rfl
 rw [bne_iff_ne.2 e1,cond_true,Option.bind_some,cond_true,Zmr]
 rfl
end Go.Proofs.YtmlcnhambfkjaaaGreat
