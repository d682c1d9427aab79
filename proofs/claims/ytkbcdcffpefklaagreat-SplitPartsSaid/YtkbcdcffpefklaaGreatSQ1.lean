/- Plain facts on this seat's mirrors (part SQ1); each theorem bears its own conditions. -/
import Derived.Test.YtkbcdcffpefklaaGreatSP3
namespace Go.Proofs.YtkbcdcffpefklaaGreat
open Go.RowKit
set_option linter.unusedVariables false
set_option linter.unusedSimpArgs false
def wPt (w:Zu):Ed:=⟨2,n0T,n0T,[w],[],0,[]⟩
def kPt (a:Int) (p:Ed):Ed:=⟨2,n0T,n0T,[],[⟨a,p⟩],0,[]⟩
def kpN (a:Nat):List EO:=if a=0 then [] else [⟨0,(a:Int),[],eS0⟩]
def arE (l:Int) (a:Nat) (x:EO) (b:Nat):Ed:=⟨3,n0T,n0T,[],[],l,kpN a++[x]++kpN b⟩
def fO (o:EO) (l:List Ed):List EO:=if o.Kind=1∨o.Kind=2 then [o] else if o.Kind=3 then l.map fun x=>⟨3,0,[],x⟩ else []
def Zn4 (l:Int):Nat→List (EO×List EO)→List Ed
 | _,[]=>[]
 | a,p::os=>p.2.map (fun x=>arE l a x (oS (os.map (·.1))))++Zn4 l (a+wN p.1) os
def orS (e:Ed) (l:List Ed):List Ed:=if l=[] then [e] else l
def kdP (ks:List Zj) (f:Zj→List Ed):List Ed:=(ks.map fun k=>(f k).map (kPt k.At)).flatten
def sp (e:Ed):List Ed:=if e.Kind=0 then [] else orS e (e.Words.map wPt++(e.Kids.attach.map fun k=>(sp k.1.E).map (kPt k.1.At)).flatten++Zn4 e.List_ 0 (e.Ops.attach.map fun o=>(o.1,fO o.1 (sp o.1.E))))
termination_by SizeOf.sizeOf e
decreasing_by
 ·exact Q6 k.2
 exact Vp o.2
def wO (os:List EO):List (EO×List EO):=os.map fun o=>(o,fO o (sp o.E))
def spA (e:Ed):List Ed:=e.Words.map wPt++kdP e.Kids (fun k=>sp k.E)++Zn4 e.List_ 0 (wO e.Ops)
theorem Z8u (e:Ed):sp e=if e.Kind=0 then [] else orS e (spA e):=by
 have h1:(e.Kids.attach.map fun k=>(sp k.1.E).map (kPt k.1.At))=e.Kids.map fun k=>(sp k.E).map (kPt k.At):=List.attach_map_val (f:=fun k:Zj=>(sp k.E).map (kPt k.At))
 have h2:(e.Ops.attach.map fun o=>((o.1,fO o.1 (sp o.1.E)):EO×List EO))=wO e.Ops:=List.attach_map_val (f:=fun o:EO=>((o,fO o (sp o.E)):EO×List EO))
 rw [sp,h1,h2]
 rfl
theorem Ydb (os:List EO):(wO os).map (·.1)=os:=by
 unfold wO
 rw [List.map_map]
 exact List.map_id os
def ln (l:List Ed):Nat:=l.length
theorem Yeg (e:Ed) (l:List Ed):(orS e l).length≤1+l.length:=by
 unfold orS
 split <;> simp
theorem Zwq (f:Zj→List Ed):∀ ks:List Zj,(kdP ks f).length=(ks.map fun k=>(f k).length).sum
 | []=>rfl
 | k::ks=>by
  have:=Zwq f ks
  unfold kdP at this ⊢
  simp only [List.map_cons,List.flatten_cons,List.length_append,List.length_map,List.sum_cons]
  omega
theorem Zzy (l:Int):∀ (os:List (EO×List EO)) (a:Nat),(Zn4 l a os).length=(os.map fun p=>p.2.length).sum
 | [],_=>rfl
 | p::os,a=>by
  have:=Zzy l os (a+wN p.1)
  simp only [Zn4,List.length_append,List.length_map,List.map_cons,List.sum_cons]
  omega
theorem Zqm {α:Type} {f g:α→Nat}:∀ {l:List α},(∀ x∈l,f x≤g x)→(l.map f).sum≤(l.map g).sum
 | [],_=>Nat.le_refl _
 | x::l,h=>by
  simp only [List.map_cons,List.sum_cons]
  have:=h x (.head _)
  have:=Zqm (l:=l) fun y hy=>h y (.tail _ hy)
  omega
theorem Yga (o:EO) (l:List Ed) {c:Nat} (h1:1≤c) (h:l.length≤c):(fO o l).length≤c:=by
 unfold fO
 split
 ·simpa using h1
 split
 ·simpa using h
 simp
theorem Ztc:∀ (n:Nat) (e:Ed),SizeOf.sizeOf e < n→(sp e).length≤ce e∧(spA e).length+1≤ce e
 | 0,_,h=>by omega
 | n+1,e,hn=>by
  have hA:(spA e).length+1≤ce e:=by
   unfold spA
   rw [Zit,List.length_append,List.length_append,List.length_map,Zwq,Zzy]
   have a:=Zqm (f:=fun k:Zj=>(sp k.E).length) (g:=fun k=>ce k.E) (l:=e.Kids) fun k hk=>(Ztc n k.E (by have:=Q6 hk;omega)).1
   have b:((wO e.Ops).map fun p=>p.2.length).sum≤(e.Ops.map fun o=>ce o.E).sum:=by
    unfold wO
    rw [List.map_map]
    exact Zqm fun o ho=>Yga o _ (Z1u _) (Ztc n o.E (by have:=Vp ho;omega)).1
   omega
  refine ⟨?_,hA⟩
  rw [Z8u]
  split
  ·exact Nat.zero_le _
  have:=Yeg e (spA e)
  omega
theorem Ygn (e:Ed):(sp e).length≤ce e:=(Ztc _ e (Nat.lt_succ_self _)).1
theorem Zxp (e:Ed):(spA e).length+1≤ce e:=(Ztc _ e (Nat.lt_succ_self _)).2
def cO (l:List EO):Nat:=(l.map fun o=>ce o.E).sum
theorem Zul (a b:List EO):cO (a++b)=cO a+cO b:=by unfold cO;rw [List.map_append,List.sum_append]
theorem Z7s:ce eS0=1:=by rw [Zit];rfl
theorem Yf7 (g:List Tr):cO (Un g)≤1:=by
 unfold Un
 split
 ·exact Nat.zero_le _
 simp [cO,Z7s]
theorem Yf8 (g:List Tr):cO (Zau g)≤1:=by
 unfold Zau
 split
 ·exact Nat.zero_le _
 simp [cO,Z7s]
theorem Z7q (F:List EO) (n:Int):cO (Q1 F n)≤cO F+1:=by
 by_cases hk:∃ x,F.getLast? = some x∧x.Kind=0
 ·obtain ⟨x,hx,k0⟩:=hk
  obtain ⟨o',rfl⟩:=List.getLast?_eq_some_iff.1 hx
  obtain ⟨k,N,L,E⟩:=x
  simp only at k0
  subst k0
  rw [Us,Zul,Zul]
  simp [cO]
 rw [Zdn fun x hx h0=>hk ⟨x,hx,h0⟩,Zul]
 simp [cO,Z7s]
theorem Ydr (l:Int) (s:NW) (o:EO) (h:ce (nE o.E)≤ce o.E):cO (Ut l s (o,nE o.E)).flush≤cO s.flush+ce o.E:=by
 have h1:=Z1u o.E
 have f0:∀ out:List EO,cO (⟨out,[],[]⟩:NW).flush=cO out:=fun out=>by rw [Zct]
 unfold Ut
 split
 ·have:=Yf7 (s.gone++o.L.map nrm)
  unfold NW.flush
  simp only [Zul]
  omega
 split
 ·have:=Yf8 (s.come++o.L.map nrm)
  unfold NW.flush
  simp only [Zul]
  omega
 split
 ·rw [f0]
  have:=Z7q s.flush o.N
  simp only
  omega
 split
 ·rw [f0]
  have:=Z7q s.flush 1
  omega
 rw [f0,Zul]
 simp only [cO,List.map_cons,List.map_nil,List.sum_cons,List.sum_nil]
 omega
theorem Z7p (l:Int):∀ (os:List EO) (s:NW),(∀ o∈os,ce (nE o.E)≤ce o.E)→cO ((Xj os).foldl (Ut l) s).flush≤cO s.flush+cO os
 | [],s,_=>by simp [Xj,cO]
 | o::os,s,h=>by
  have a:=Z7p l os (Ut l s (o,nE o.E)) fun x hx=>h x (.tail _ hx)
  have b:=Ydr l s o (h o (.head _))
  have e:cO (o::os)=ce o.E+cO os:=by simp [cO]
  have e2:(Xj (o::os)).foldl (Ut l) s=(Xj os).foldl (Ut l) (Ut l s (o,nE o.E)):=rfl
  rw [e,e2]
  omega
theorem Ybe:∀ (n:Nat) (e:Ed),SizeOf.sizeOf e < n→BE e→GN e→ce (nE e)≤ce e
 | 0,_,h,_,_=>by omega
 | n+1,e,hn,hb,hg=>by
  have h0:=Z1u e
  rw [Zd1]
  split
  ·rw [Zit];simpa using h0
  split
  ·rw [Zit,Zit e]
   have:=Zqm (f:=fun k:Zj=>ce (nE k.E)) (g:=fun k=>ce k.E) (l:=e.Kids) fun k hk=>Ybe n k.E (by have:=Q6 hk;omega) (hb.ks k hk) (hg.ks k hk)
   have r:((e.Kids.map fun k:Zj=>(⟨k.At,nE k.E⟩:Zj)).map fun k=>ce k.E).sum=(e.Kids.map fun k:Zj=>ce (nE k.E)).sum:=by rw [List.map_map];rfl
   simp only [r,List.length_nil,List.map_nil,List.sum_nil]
   omega
  split
  ·rw [Zit,Zit e]
   have a:=Z7p e.List_ e.Ops s0N fun o ho=>Ybe n o.E (by have:=Vp ho;omega) (hb.os o ho) (hg.os o ho)
   have hob:=Z2w (l:=e.List_) e.Ops s0N 0 0 ⟨by simp [s0N],by simp [s0N],by simp [s0N],Nat.le_refl _,Nat.le_refl _⟩ fun o ho=>⟨hg.p o ho,(hb.l o ho).2,(hb.os o ho).nE (hg.os o ho),GN.nE (hb.os o ho) (hg.os o ho)⟩
   have b:=hob.cnt
   have c:cO s0N.flush=0:=rfl
   have d:(Zcs e.List_ (Xj e.Ops)).length≤e.Ops.length:=by unfold Zcs;omega
   have f:((Zcs e.List_ (Xj e.Ops)).map fun o:Zg=>ce o.E).sum≤(e.Ops.map fun o:Zg=>ce o.E).sum:=by
    have:cO (Zcs e.List_ (Xj e.Ops))≤cO e.Ops:=by unfold Zcs;omega
    exact this
   simp only [List.length_nil,List.map_nil,List.sum_nil]
   omega
  rw [Z7s];exact h0
inductive PX:Nat→Ed→Prop
 | mk (d:Nat) (e:Ed) (hb:BE e) (hg:GN e) (hr:rE e d=true) (hn:nE e=e) (hl:oS e.Ops≤2000∧wS e.Ops≤2000) (ks:∀ k∈e.Kids,PX (d - 1) k.E) (os:∀ o∈e.Ops,o.Kind=3→PX (d - 1) o.E) (id:∀ o∈e.Ops,o.Kind=3→Zcj e.List_ o.E=false) (ln:∀ o∈e.Ops,∀ t∈o.L,nrm t=t):PX d e
theorem PX.b {d:Nat} {e:Ed} (h:PX d e):BE e:=by cases h;assumption
theorem PX.g {d:Nat} {e:Ed} (h:PX d e):GN e:=by cases h;assumption
theorem PX.r {d:Nat} {e:Ed} (h:PX d e):rE e d=true:=by cases h;assumption
theorem PX.n {d:Nat} {e:Ed} (h:PX d e):nE e=e:=by cases h;assumption
theorem PX.l {d:Nat} {e:Ed} (h:PX d e):oS e.Ops≤2000∧wS e.Ops≤2000:=by cases h;assumption
theorem PX.ks {d:Nat} {e:Ed} (h:PX d e):∀ k∈e.Kids,PX (d - 1) k.E:=by cases h;assumption
theorem PX.os {d:Nat} {e:Ed} (h:PX d e):∀ o∈e.Ops,o.Kind=3→PX (d - 1) o.E:=by cases h;assumption
theorem PX.id {d:Nat} {e:Ed} (h:PX d e):∀ o∈e.Ops,o.Kind=3→Zcj e.List_ o.E=false:=by cases h;assumption
theorem PX.ln {d:Nat} {e:Ed} (h:PX d e):∀ o∈e.Ops,∀ t∈o.L,nrm t=t:=by cases h;assumption
theorem Z5u {F:List EO} {n:Int} {o:EO} (h:o∈Q1 F n) (h3:o.Kind=3):o∈F:=by
 by_cases hk:∃ x,F.getLast? = some x∧x.Kind=0
 ·obtain ⟨x,hx,k0⟩:=hk
  obtain ⟨o',rfl⟩:=List.getLast?_eq_some_iff.1 hx
  obtain ⟨k,N,L,E⟩:=x
  simp only at k0
  subst k0
  rw [Us] at h
  rcases List.mem_append.1 h with h | h
  ·exact List.mem_append.2 (.inl h)
  rw [List.mem_singleton.1 h] at h3;simp at h3
 rw [Zdn fun x hx h0=>hk ⟨x,hx,h0⟩] at h
 rcases List.mem_append.1 h with h | h
 ·exact h
 rw [List.mem_singleton.1 h] at h3;simp at h3
theorem Z8m {Q:Tr→Prop} {F:List EO} {n:Int} (hF:∀ o∈F,∀ t∈o.L,Q t):∀ o∈Q1 F n,∀ t∈o.L,Q t:=by
 by_cases hk:∃ x,F.getLast? = some x∧x.Kind=0
 ·obtain ⟨x,hx,k0⟩:=hk
  obtain ⟨o',rfl⟩:=List.getLast?_eq_some_iff.1 hx
  have hl:=hF x (by simp)
  obtain ⟨k,N,L,E⟩:=x
  simp only at k0
  subst k0
  rw [Us]
  intro o h
  rcases List.mem_append.1 h with h | h
  ·exact hF o (List.mem_append.2 (.inl h))
  rw [List.mem_singleton.1 h];exact hl
 rw [Zdn fun x hx h0=>hk ⟨x,hx,h0⟩]
 intro o h
 rcases List.mem_append.1 h with h | h
 ·exact hF o h
 rw [List.mem_singleton.1 h];intro t ht;cases ht
theorem Zr6 {s:NW} {o:EO} (h:o∈s.flush) (h3:o.Kind=3):o∈s.out:=by
 unfold NW.flush at h
 rw [List.mem_append,List.mem_append] at h
 rcases h with h | h | h
 ·exact h
 ·unfold Un at h
  split at h
  ·cases h
  rw [List.mem_singleton.1 h] at h3;simp at h3
 unfold Zau at h
 split at h
 ·cases h
 rw [List.mem_singleton.1 h] at h3;simp at h3
structure LQ (Q:Tr→Prop) (s:NW):Prop where
 o:∀ o∈s.out,∀ t∈o.L,Q t
 g:∀ t∈s.gone,Q t
 c:∀ t∈s.come,Q t
theorem LQ.f {Q:Tr→Prop} {s:NW} (h:LQ Q s):∀ o∈s.flush,∀ t∈o.L,Q t:=fun o ho=>by
 unfold NW.flush at ho
 rw [List.mem_append,List.mem_append] at ho
 rcases ho with ho | ho | ho
 ·exact h.o o ho
 ·unfold Un at ho
  split at ho
  ·cases ho
  rw [List.mem_singleton.1 ho];exact h.g
 unfold Zau at ho
 split at ho
 ·cases ho
 rw [List.mem_singleton.1 ho];exact h.c
theorem LQ.step {Q:Tr→Prop} {l:Int} {s:NW} {p:EO×Ed} (h:LQ Q s) (hp:∀ t∈p.1.L,Q (nrm t)):LQ Q (Ut l s p):=by
 have hm:∀ t∈p.1.L.map nrm,Q t:=fun t ht=>by
  obtain ⟨x,hx,rfl⟩:=List.mem_map.1 ht
  exact hp x hx
 unfold Ut
 split
 ·exact ⟨h.o,fun t ht=>(List.mem_append.1 ht).elim (h.g t) (hm t),h.c⟩
 split
 ·exact ⟨h.o,h.g,fun t ht=>(List.mem_append.1 ht).elim (h.c t) (hm t)⟩
 split
 ·exact ⟨Z8m h.f,by simp,by simp⟩
 split
 ·exact ⟨Z8m h.f,by simp,by simp⟩
 refine ⟨fun o ho => ?_,by simp,by simp⟩
 rcases List.mem_append.1 ho with ho | ho
 ·exact h.f o ho
 rw [List.mem_singleton.1 ho];intro t ht;cases ht
theorem Z8b {Q:Tr→Prop} {l:Int}:∀ (ps:List (EO×Ed)) (s:NW),LQ Q s→(∀ p∈ps,∀ t∈p.1.L,Q (nrm t))→LQ Q (ps.foldl (Ut l) s)
 | [],_,h,_=>h
 | p::ps,_,h,hp=>Z8b ps _ (h.step (hp p (.head _))) fun q hq=>hp q (.tail _ hq)
theorem Yd9 {l:Int} {os:List EO}:∀ o∈Zcs l (Xj os),∀ t∈o.L,nrm t=t:=by
 unfold Zcs
 refine (Z8b (Q:=fun t=>nrm t=t) _ s0N ⟨by simp [s0N],by simp [s0N],by simp [s0N]⟩ fun p hp t ht=>Zw6 t).f
theorem Ygo {Q:Ed→Prop} {l:Int} {s:NW} {p:EO×Ed} (hs:∀ o∈s.out,o.Kind=3→Q o.E∧Zcj l o.E=false) (hp:p.1.Kind=3→Q p.2) (hk:p.1.Kind=0∨p.1.Kind=1∨p.1.Kind=2∨p.1.Kind=3):∀ o∈(Ut l s p).out,o.Kind=3→Q o.E∧Zcj l o.E=false:=fun o ho h3=>by
 unfold Ut at ho
 split at ho
 ·exact hs o ho h3
 split at ho
 ·exact hs o ho h3
 split at ho
 ·exact hs o (Zr6 (Z5u ho h3) h3) h3
 split at ho
 ·exact hs o (Zr6 (Z5u ho h3) h3) h3
 rename_i hi
 rcases List.mem_append.1 ho with ho | ho
 ·exact hs o (Zr6 ho h3) h3
 rw [List.mem_singleton.1 ho];exact ⟨hp (by omega),by simpa using hi⟩
theorem Z7w {Q:Ed→Prop} {l:Int}:∀ (ps:List (EO×Ed)) (s:NW),(∀ o∈s.out,o.Kind=3→Q o.E∧Zcj l o.E=false)→(∀ p∈ps,(p.1.Kind=3→Q p.2)∧(p.1.Kind=0∨p.1.Kind=1∨p.1.Kind=2∨p.1.Kind=3))→∀ o∈(ps.foldl (Ut l) s).out,o.Kind=3→Q o.E∧Zcj l o.E=false
 | [],s,hs,_=>hs
 | p::ps,s,hs,hp=>Z7w ps _ (Ygo hs (hp p (.head _)).1 (hp p (.head _)).2) fun q hq=>hp q (.tail _ hq)
theorem Yd8 {Q:Ed→Prop} {l:Int} {os:List EO} (h:∀ o∈os,opk o∧(o.Kind=3→Q (nE o.E))):∀ o∈Zcs l (Xj os),o.Kind=3→Q o.E∧Zcj l o.E=false:=fun o ho h3=>by
 unfold Zcs at ho
 refine Z7w (Q:=Q) _ s0N (fun x hx=>by cases hx) (fun p hp => ?_) o (Zr6 ho h3) h3
 obtain ⟨x,hx,rfl⟩:=List.mem_map.1 hp
 refine ⟨(h x hx).2,?_⟩
 show x.Kind=0∨x.Kind=1∨x.Kind=2∨x.Kind=3
 rcases (h x hx).1 with ⟨q,_⟩ | ⟨q,_⟩ | ⟨q,_⟩ | q <;> omega
theorem Yg5 {e:Ed} {d:Nat} (hb:BE e) (hr:rE e d=true) (h3:e.Kind=3) (h:lgt e=true):oS e.Ops≤2000∧wS e.Ops≤2000:=by
 have hl:∀ o∈e.Ops,o.L.length * 56≤140737488355328:=fun o ho=>(hb.l o ho).1
 rw [Zgf] at hr
 by_cases hd:d=0
 ·rw [if_pos hd] at hr;cases hr
 rw [if_neg hd,if_neg (by omega),if_neg (by omega),if_neg (by omega),if_pos h3,Bool.and_eq_true,Bool.and_eq_true (_ && _),Bool.and_eq_true (List.all _ _),List.all_eq_true] at hr
 obtain ⟨_,_,hk,hB⟩:=hr
 have h0:Sm (0,0):=by unfold Sm;simp
 have hS:=(Zzf (fun o=>rE o.E (d - 1)) hk hl).1 hB
 rw [Z61,(Zlg (fun o=>rE o.E (d - 1)) e.Ops (0,0) h0 hk hl).1,Zwa (fun o=>rE o.E (d - 1)) e.Ops (0,0) h0 hk hl] at h
 simp only [Bool.and_eq_true,Bool.not_eq_true',Bool.or_eq_false_iff,decide_eq_false_iff_not,Int.zero_add] at h
 unfold Zfe at h
 rw [if_neg (by omega),if_neg (by omega)] at h
 omega
theorem Yhu {d:Nat} (hd:¬ d=0):PX d eS0 := .mk d _ Zys Zzb (Yfq hd) (by rw [Zd1,if_neg (by decide),if_neg (by decide),if_neg (by decide)]) ⟨by simp [eS0,oS],by simp [eS0,wS]⟩ (fun k h=>by cases h) (fun o h=>by cases h) (fun o h=>by cases h) (fun o h=>by cases h)
theorem Ycq:∀ (n:Nat) (e:Ed) (d:Nat),SizeOf.sizeOf e < n→BE e→GN e→rE e d=true→lgt e=true→PX d (nE e)
 | 0,_,_,h,_,_,_,_=>by omega
 | n+1,e,d,hn,hb,hg,h,hlt=>by
  have hB:=hb.nE hg
  have hG:=GN.nE hb hg
  have hR:=Z8o _ e d (Nat.lt_succ_self _) hb hg h
  have hN:=Yb5 e
  have hlt':=hlt
  rw [Z61] at hlt'
  simp only [Bool.and_eq_true,List.all_eq_true] at hlt'
  have h':=h
  rw [Zgf] at h
  rw [Zd1 e] at hB hG hR hN ⊢
  by_cases hd:d=0
  ·rw [if_pos hd] at h;cases h
  rw [if_neg hd] at h
  by_cases h0:e.Kind=0
  ·rw [if_neg (by omega),if_neg (by omega),if_neg (by omega)]
   exact Yhu hd
  rw [if_neg h0] at h
  by_cases h1:e.Kind=1
  ·rw [if_pos h1] at hB hG hR hN ⊢
   exact .mk d _ hB hG hR hN ⟨by simp [oS],by simp [wS]⟩ (fun k h=>by cases h) (fun o h=>by cases h) (fun o h=>by cases h) (fun o h=>by cases h)
  rw [if_neg h1] at h hB hG hR hN ⊢
  by_cases h2:e.Kind=2
  ·rw [if_pos h2] at h hB hG hR hN ⊢
   simp only [Bool.and_eq_true] at h
   refine .mk d _ hB hG hR hN ⟨by simp [oS],by simp [wS]⟩ (fun k hk => ?_) (fun o h=>by cases h) (fun o h=>by cases h) (fun o h=>by cases h)
   obtain ⟨x,hx,rfl⟩:=List.mem_map.1 hk
   refine Ycq n x.E (d - 1) (by have:=Q6 hx;omega) (hb.ks x hx) (hg.ks x hx) ?_ (hlt'.2.1 x hx)
   exact Z1w (Q:=fun k:Zj=>rE k.E (d - 1)=true) (fun p x hx=>by
     unfold okK okP at hx
     simp only [Bool.and_eq_true] at hx
     exact hx.2.2) e.Kids (-1) h.2.2 x hx
  rw [if_neg h2] at h hB hG hR hN ⊢
  by_cases h3:e.Kind=3
  ·rw [if_pos h3] at h hB hG hR hN ⊢
   rw [Bool.and_eq_true,Bool.and_eq_true (_ && _),Ych (fun o ho=>(hb.l o ho).1)] at h
   obtain ⟨f1,f2,f3⟩:=RW.fold (l:=e.List_) (d:=d - 1) e.Ops s0N ⟨by simp [s0N],by simp [s0N],by simp [s0N]⟩ fun o ho=>⟨h.2.2.1 o ho,fun k=>by
    rcases h.2.2.1 o ho with ⟨k',_⟩ | ⟨k',_⟩ | ⟨_,_,_,_,_,h5⟩
    ·omega
    ·omega
    exact Z8o _ o.E (d - 1) (Nat.lt_succ_self _) (hb.os o ho) (hg.os o ho) h5⟩
   have z:oS s0N.flush=0∧wS s0N.flush=0:=⟨rfl,rfl⟩
   have hS:=Yg5 hb h' h3 hlt
   have hk3:=Yd8 (Q:=PX (d - 1)) (l:=e.List_) (os:=e.Ops) fun o ho=>⟨hg.p o ho,fun k3=>by
    rcases h.2.2.1 o ho with ⟨k',_⟩ | ⟨k',_⟩ | ⟨_,_,_,_,_,h5⟩
    ·omega
    ·omega
    exact Ycq n o.E (d - 1) (by have:=Vp ho;omega) (hb.os o ho) (hg.os o ho) h5 (hlt'.2.2 o ho)⟩
   refine .mk d _ hB hG hR hN ?_ (fun k h=>by cases h) (fun o ho k=>(hk3 o ho k).1) (fun o ho k=>(hk3 o ho k).2) Yd9
   show oS (Zcs e.List_ (Xj e.Ops))≤2000∧wS (Zcs e.List_ (Xj e.Ops))≤2000
   unfold Zcs
   rw [f2,f3]
   omega
  rw [if_neg h3] at h;cases h
theorem PX.k1 {d:Nat} {e:Ed} (h:PX d e) (k:e.Kind=1):e.Words=[]∧e.Kids=[]∧e.Ops=[]:=by
 have n:=h.n
 rw [Zd1,if_pos k] at n
 exact ⟨(congrArg Zb.Words n).symm,(congrArg Zb.Kids n).symm,(congrArg Zb.Ops n).symm⟩
theorem PX.k2 {d:Nat} {e:Ed} (h:PX d e) (k:e.Kind=2):e.Ops=[]:=by
 have n:=h.n
 rw [Zd1,if_neg (by omega),if_pos k] at n
 exact (congrArg Zb.Ops n).symm
theorem PX.k3 {d:Nat} {e:Ed} (h:PX d e) (k:e.Kind=3):e.Words=[]∧e.Kids=[]:=by
 have n:=h.n
 rw [Zd1,if_neg (by omega),if_neg (by omega),if_pos k] at n
 exact ⟨(congrArg Zb.Words n).symm,(congrArg Zb.Kids n).symm⟩
theorem PX.kd {d:Nat} {e:Ed} (h:PX d e):e.Kind=0∨e.Kind=1∨e.Kind=2∨e.Kind=3:=by
 by_cases h1:e.Kind=1
 ·exact .inr (.inl h1)
 by_cases h2:e.Kind=2
 ·exact .inr (.inr (.inl h2))
 by_cases h3:e.Kind=3
 ·exact .inr (.inr (.inr h3))
 have n:=h.n
 rw [Zd1,if_neg h1,if_neg h2,if_neg h3] at n
 exact .inl (congrArg Zb.Kind n).symm
theorem PX.d0 {d:Nat} {e:Ed} (h:PX d e):¬ d=0:=fun hd=>by
 have:=h.r
 rw [Zgf,if_pos hd] at this
 cases this
theorem Z75 (a:Nat):oS (kpN a)=a∧wS (kpN a)=a∧Qh (kpN a)=a∧(kpN a).length≤1:=by
 unfold kpN
 split
 ·rename_i h;subst h;exact ⟨rfl,rfl,rfl,Nat.zero_le _⟩
 simp [oS,wS,Qh,oN,wN,thN]
theorem Ybu {a:Nat} {o:EO} (h:o∈kpN a):o=⟨0,(a:Int),[],eS0⟩∧1≤a:=by
 unfold kpN at h
 split at h
 ·cases h
 exact ⟨List.mem_singleton.1 h,by omega⟩
structure XO (l:Int) (d:Nat) (x:EO):Prop where
 q:okQ l d x
 m:x.L.length * 56≤140737488355328∧∀ t∈x.L,Bd t
 b:BE x.E
 g:GN x.E
 n:(∀ t∈x.L,nrm t=t)∧(x.Kind=3→nE x.E=x.E∧Zcj l x.E=false)
theorem Yee {l:Int} {d:Nat} {x:EO} (h:okQ l d x):opk x:=by
 rcases h with ⟨k,h1,_⟩ | ⟨k,_,h2,_⟩ | ⟨k,_⟩
 ·exact .inl ⟨k,h1⟩
 ·rcases k with k | k
  ·exact .inr (.inl ⟨k,h2⟩)
  exact .inr (.inr (.inl ⟨k,h2⟩))
 exact .inr (.inr (.inr k))
theorem Zyq {l:Int} {a b:Nat} {x o:EO} (h:o∈(arE l a x b).Ops):(o=⟨0,o.N,[],eS0⟩∧1≤o.N)∨o=x:=by
 have h':o∈kpN a++[x]++kpN b:=h
 rcases List.mem_append.1 h' with h | h
 ·rcases List.mem_append.1 h with h | h
  ·obtain ⟨e,h1⟩:=Ybu h
   rw [e];exact .inl ⟨rfl,by simp only;omega⟩
  exact .inr (List.mem_singleton.1 h)
 obtain ⟨e,h1⟩:=Ybu h
 rw [e];exact .inl ⟨rfl,by simp only;omega⟩
theorem Ya8 (l:Int) (a b:Nat) (x:EO):oS (arE l a x b).Ops=a+oN x+b∧wS (arE l a x b).Ops=a+wN x+b∧Qh (arE l a x b).Ops=a+thN x+b∧(arE l a x b).Ops.length≤3:=by
 obtain ⟨a1,a2,a3,a4⟩:=Z75 a
 obtain ⟨b1,b2,b3,b4⟩:=Z75 b
 show oS (kpN a++[x]++kpN b)=_∧wS (kpN a++[x]++kpN b)=_∧Qh (kpN a++[x]++kpN b)=_∧(kpN a++[x]++kpN b).length≤3
 rw [Zk5,Zk5,Zj7,Zj7,Zil,Zil,a1,a2,a3,b1,b2,b3]
 refine ⟨by simp [oS],by simp [wS],by simp [Qh],?_⟩
 simp only [List.length_append,List.length_singleton]
 omega
theorem Z7m {l:Int} {d:Nat} {a b:Nat} {x:EO} (hx:XO l d x) (h:a+thN x+b≤1000000):BE (arE l a x b)∧GN (arE l a x b):=by
 obtain ⟨s1,s2,s3,s4⟩:=Ya8 l a b x
 refine ⟨.mk _ Zkb Zkb (by simp [arE]) (by simp [arE]) (by simp [arE]) (by simp [arE]) (by omega) (fun o ho => ?_) (fun o ho => ?_),.mk _ (by simp [arE]) (by simp [arE]) (by omega) (by omega) (fun o ho => ?_) (by simp [arE]) (fun o ho => ?_)⟩
 ·rcases Zyq ho with ⟨e,_⟩ | e
  ·rw [e];exact ⟨by simp,by simp⟩
  rw [e];exact hx.m
 ·rcases Zyq ho with ⟨e,_⟩ | e
  ·rw [e];exact Zys
  rw [e];exact hx.b
 ·rcases Zyq ho with ⟨e,h1⟩ | e
  ·rw [e];exact .inl ⟨rfl,h1⟩
  rw [e];exact Yee hx.q
 rcases Zyq ho with ⟨e,_⟩ | e
 ·rw [e];exact Zzb
 rw [e];exact hx.g
theorem Ya7 {l:Int} {d:Nat} {a b:Nat} {x:EO} (hl:2≤l∧l≤9) (hd:¬ d=0) (hx:XO l (d - 1) x) (h:a+thN x+b≤1000000):rE (arE l a x b) d=true:=by
 obtain ⟨s1,s2,s3,s4⟩:=Ya8 l a b x
 have hb:=(Z7m hx h).1
 have o1:oN x≤thN x:=by unfold oN;split <;> omega
 have o2:wN x≤thN x:=by unfold wN;split <;> omega
 rw [Zgf,if_neg hd,if_neg (show ¬ (arE l a x b).Kind=0 from (by decide:¬ (3:Int)=0)),if_neg (show ¬ (arE l a x b).Kind=1 from (by decide:¬ (3:Int)=1)),if_neg (show ¬ (arE l a x b).Kind=2 from (by decide:¬ (3:Int)=2)),if_pos (show (arE l a x b).Kind=3 from rfl)]
 rw [Bool.and_eq_true,Bool.and_eq_true (_ && _),Ych (fun o ho=>(hb.l o ho).1)]
 refine ⟨rfl,?_,fun o ho => ?_,by omega,by omega⟩
 ·show (decide (2≤l) && decide (l≤9))=true
  rw [decide_eq_true hl.1,decide_eq_true hl.2];rfl
 rcases Zyq ho with ⟨e,h1⟩ | e
 ·rw [e];exact .inl ⟨rfl,h1,rfl,rfl⟩
 rw [e];exact hx.q
theorem Ygw {l:Int} {d:Nat} {a b:Nat} {x:EO} (hx:XO l d x) (h0:x.Kind≠0):nE (arE l a x b)=arE l a x b:=by
 have key:Zcs l (Xj (kpN a++[x]++kpN b))=kpN a++[x]++kpN b:=by
  obtain ⟨k,N,L,E⟩:=x
  have hm:L.map nrm=L:=by
   have:=hx.n.1
   simp only at this
   exact (List.map_congr_left this).trans (List.map_id L)
  rcases hx.q with ⟨k',_⟩ | ⟨k',h1,h2,_,h4⟩ | ⟨k',h1,h2,_⟩
  ·exact absurd k' h0
  ·simp only at k' h1 h2 h4
   subst h1 h4
   rcases k' with rfl | rfl
   ·by_cases ha:a=0 <;> by_cases hb:b=0 <;> simp [Zcs,Xj,kpN,ha,hb,Ut,s0N,hm,NW.flush,Un,Zau,Q1,h2]
   by_cases ha:a=0 <;> by_cases hb:b=0 <;> simp [Zcs,Xj,kpN,ha,hb,Ut,s0N,hm,NW.flush,Un,Zau,Q1,h2]
  obtain ⟨g1,g2⟩:=hx.n.2 k'
  simp only at k' h1 h2 g1 g2
  subst k' h1 h2
  by_cases ha:a=0 <;> by_cases hb:b=0 <;> simp [Zcs,Xj,kpN,ha,hb,Ut,s0N,NW.flush,Un,Zau,Q1,g1,g2]
 rw [Zd1,if_neg (show ¬ (arE l a x b).Kind=1 from (by decide:¬ (3:Int)=1)),if_neg (show ¬ (arE l a x b).Kind=2 from (by decide:¬ (3:Int)=2)),if_pos (show (arE l a x b).Kind=3 from rfl)]
 show (⟨3,n0T,n0T,[],[],l,Zcs l (Xj (kpN a++[x]++kpN b))⟩:Ed)=_
 rw [key]
 rfl
structure GP (d:Nat) (e p:Ed):Prop where
 b:BE p
 g:GN p
 r:rE p d=true
 n:nE p=p
 k:p.Kind=e.Kind
 o:e.Kind=1→p=e
 w:p=e∨p.Kind≠2∨p.Words≠[]∨p.Kids≠[]
theorem Z1v {α:Type} {pl:α→Int} {ok:Int→α→Bool} (h:∀ p x,-1≤p→ok p x=true→ok (-1) x=true∧-1≤pl x):∀ (xs:List α) (p:Int),-1≤p→chk pl ok p xs=true→∀ x∈xs,ok (-1) x=true
 | [],_,_,_=>fun x hx=>by cases hx
 | y::xs,p,hp,hc=>fun x hx=>by
  rw [chk,Bool.and_eq_true] at hc
  obtain ⟨h1,h2⟩:=h p y hp hc.1
  rcases List.mem_cons.1 hx with rfl | hx
  ·exact h1
  exact Z1v h xs (pl y) h2 hc.2 x hx
theorem Yef (p:Int) (w:Zu) (hp:-1≤p) (h:okW p w=true):okW (-1) w=true∧-1≤w.At:=by
 unfold okW at h ⊢
 simp only [Bool.not_eq_true',Bool.or_eq_false_iff,decide_eq_false_iff_not] at h ⊢
 exact ⟨⟨⟨⟨⟨by omega,h.1.1.1.2⟩,h.1.1.2⟩,h.1.2⟩,h.2⟩,by omega⟩
theorem Yec (d:Nat) (p:Int) (k:Zj) (hp:-1≤p) (h:okK d p k=true):okK d (-1) k=true∧-1≤k.At:=by
 unfold okK okP at h ⊢
 simp only [Bool.and_eq_true,Bool.not_eq_true',Bool.or_eq_false_iff,decide_eq_false_iff_not] at h ⊢
 exact ⟨⟨⟨by omega,h.1.2⟩,h.2⟩,by omega⟩
theorem Z5p {l:Int} {p:Ed}:∀ (os:List (EO×List EO)) (a:Nat),p∈Zn4 l a os→∃ pre q post x,os=pre++q::post∧x∈q.2∧p=arE l (a+wS (pre.map (·.1))) x (oS (post.map (·.1)))
 | [],_,h=>by cases h
 | q::os,a,h=>by
  rcases List.mem_append.1 h with h | h
  ·obtain ⟨x,hx,rfl⟩:=List.mem_map.1 h
   exact ⟨[],q,os,x,rfl,hx,by simp [wS]⟩
  obtain ⟨pre,q',post,x,e1,e2,e3⟩:=Z5p os (a+wN q.1) h
  refine ⟨q::pre,q',post,x,by rw [e1];rfl,e2,?_⟩
  rw [e3]
  congr 1
  simp only [wS,List.map_cons,List.sum_cons]
  omega
theorem Yd2 {f:Zj→List Ed} {ks:List Zj} {p:Ed} (h:p∈kdP ks f):∃ k∈ks,∃ x∈f k,p=kPt k.At x:=by
 unfold kdP at h
 obtain ⟨l,hl,hp⟩:=List.mem_flatten.1 h
 obtain ⟨k,hk,rfl⟩:=List.mem_map.1 hl
 obtain ⟨x,hx,rfl⟩:=List.mem_map.1 hp
 exact ⟨k,hk,x,hx,rfl⟩
theorem Yah {l:Int} {d:Nat} {e p:Ed} (h:GP d e p) (hi:Zcj l e=false):Zcj l p=false:=by
 rcases h.w with rfl | w
 ·exact hi
 unfold Zcj at hi ⊢
 rw [Bool.or_eq_false_iff] at hi ⊢
 refine ⟨by rw [h.k];exact hi.1,?_⟩
 rcases w with w | w | w
 ·rw [beq_eq_false_iff_ne.2 w];simp
 ·have:(p.Words.length == 0)=false:=by rw [beq_eq_false_iff_ne];intro q;exact w (List.eq_nil_of_length_eq_zero q)
  rw [this];simp
 have:(p.Kids.length == 0)=false:=by rw [beq_eq_false_iff_ne];intro q;exact w (List.eq_nil_of_length_eq_zero q)
 rw [this];simp
theorem Z98 {l:Int} {d:Nat} {e p:Ed} (h:GP d e p) (hd:Zki l e=true):Zki l p=true:=by
 by_cases h1:e.Kind=1
 ·rw [h.o h1];exact hd
 unfold Zki at hd ⊢
 rw [h.k]
 split
 ·rename_i q;rw [if_pos q] at hd;exact hd
 rename_i q
 rw [if_neg q] at hd
 split
 ·rename_i q2
  rw [if_pos q2,beq_eq_false_iff_ne.2 h1] at hd
  simp only [Bool.false_and,Bool.or_false] at hd
  rw [hd];rfl
 rename_i q2;rw [if_neg q2] at hd;exact hd
theorem Ygq {d:Nat} {e:Ed} (h:PX d e) (k2:e.Kind=2) {w:Zu} (hw:w∈e.Words):GP d e (wPt w):=by
 have hr:=h.r
 have hd:=h.d0
 rw [Zgf,if_neg hd,if_neg (by omega),if_neg (by omega),if_pos k2,Bool.and_eq_true,Bool.and_eq_true (chk _ _ _ _)] at hr
 have ho:=Z1v Yef e.Words (-1) (by omega) hr.2.1 w hw
 refine ⟨.mk _ Zkb Zkb (by simp [wPt]) (fun x hx=>by rw [List.mem_singleton.1 hx];exact h.b.ws w hw) (by simp [wPt]) (by simp [wPt]) (by simp [wPt]) (by simp [wPt]) (by simp [wPt]),.mk _ (by simp [wPt]) (by simp [wPt]) (by simp [wPt]) (by simp [wPt,Qh]) (by simp [wPt]) (by simp [wPt]) (by simp [wPt]),?_,?_,k2.symm,fun h1=>by omega,.inr (.inr (.inl (by simp [wPt])))⟩
 ·rw [Zgf,if_neg hd,if_neg (show ¬ (wPt w).Kind=0 from (by decide:¬ (2:Int)=0)),if_neg (show ¬ (wPt w).Kind=1 from (by decide:¬ (2:Int)=1)),if_pos (show (wPt w).Kind=2 from rfl)]
  show (_ && (chk (·.At) okW (-1) [w] && chk (·.At) (okK (d - 1)) (-1) []))=true
  rw [chk,chk,chk,ho]
  rfl
 rw [Zd1,if_neg (show ¬ (wPt w).Kind=1 from (by decide:¬ (2:Int)=1)),if_pos (show (wPt w).Kind=2 from rfl)]
 rfl
theorem Yge {d:Nat} {e:Ed} (h:PX d e) (k2:e.Kind=2) {k:Zj} (hk:k∈e.Kids) {x:Ed} (hx:GP (d - 1) k.E x):GP d e (kPt k.At x):=by
 have hr:=h.r
 have hd:=h.d0
 rw [Zgf,if_neg hd,if_neg (by omega),if_neg (by omega),if_pos k2,Bool.and_eq_true,Bool.and_eq_true (chk _ _ _ _)] at hr
 have ho:=Z1v (Yec (d - 1)) e.Kids (-1) (by omega) hr.2.2 k hk
 unfold okK okP at ho
 rw [Bool.and_eq_true,Bool.and_eq_true] at ho
 refine ⟨.mk _ Zkb Zkb (by simp [kPt]) (by simp [kPt]) (by simp [kPt]) (fun y hy=>by rw [List.mem_singleton.1 hy];exact hx.b) (by simp [kPt]) (by simp [kPt]) (by simp [kPt]),.mk _ (by simp [kPt]) (by simp [kPt]) (by simp [kPt]) (by simp [kPt,Qh]) (by simp [kPt]) (fun y hy=>by rw [List.mem_singleton.1 hy];exact hx.g) (by simp [kPt]),?_,?_,k2.symm,fun h1=>by omega,.inr (.inr (.inr (by simp [kPt])))⟩
 ·rw [Zgf,if_neg hd,if_neg (show ¬ (kPt k.At x).Kind=0 from (by decide:¬ (2:Int)=0)),if_neg (show ¬ (kPt k.At x).Kind=1 from (by decide:¬ (2:Int)=1)),if_pos (show (kPt k.At x).Kind=2 from rfl)]
  show (_ && (chk (·.At) okW (-1) [] && chk (·.At) (okK (d - 1)) (-1) [(⟨k.At,x⟩:Zj)]))=true
  have e1:okK (d - 1) (-1) (⟨k.At,x⟩:Zj)=true:=by
   unfold okK okP
   simp only
   rw [hx.k,hx.r,Bool.and_true,Bool.and_eq_true]
   exact ⟨ho.1,ho.2.1⟩
  rw [chk,chk,chk,e1]
  rfl
 rw [Zd1,if_neg (show ¬ (kPt k.At x).Kind=1 from (by decide:¬ (2:Int)=1)),if_pos (show (kPt k.At x).Kind=2 from rfl)]
 show (⟨2,n0T,n0T,[],[⟨k.At,nE x⟩],0,[]⟩:Ed)=_
 rw [hx.n]
 rfl
theorem PX.self {d:Nat} {e:Ed} (h:PX d e):GP d e e:=⟨h.b,h.g,h.r,h.n,rfl,fun _=>rfl,.inl rfl⟩
theorem PX.lst {d:Nat} {e:Ed} (h:PX d e) (k3:e.Kind=3):(2≤e.List_∧e.List_≤9)∧∀ o∈e.Ops,okQ e.List_ (d - 1) o:=by
 have hr:=h.r
 have hd:=h.d0
 rw [Zgf,if_neg hd,if_neg (by omega),if_neg (by omega),if_neg (by omega),if_pos k3,Bool.and_eq_true,Bool.and_eq_true (_ && _),Bool.and_eq_true (decide _),decide_eq_true_eq,decide_eq_true_eq,Ych (fun o ho=>(h.b.l o ho).1)] at hr
 exact ⟨hr.2.1,hr.2.2.1⟩
theorem Z6w:∀ (n:Nat) (e:Ed) (d:Nat),SizeOf.sizeOf e < n→PX d e→∀ p∈sp e,GP d e p
 | 0,_,_,h,_=>by omega
 | n+1,e,d,hn,h=>fun p hp=>by
  rw [Z8u] at hp
  split at hp
  ·cases hp
  rename_i h0
  unfold orS at hp
  split at hp
  ·rw [List.mem_singleton.1 hp];exact h.self
  unfold spA at hp
  rcases List.mem_append.1 hp with hp | hp
  ·rcases List.mem_append.1 hp with hp | hp
   ·obtain ⟨w,hw,rfl⟩:=List.mem_map.1 hp
    rcases h.kd with k | k | k | k
    ·exact absurd k h0
    ·rw [(h.k1 k).1] at hw;cases hw
    ·exact Ygq h k hw
    rw [(h.k3 k).1] at hw;cases hw
   obtain ⟨k,hk,x,hx,rfl⟩:=Yd2 hp
   rcases h.kd with k' | k' | k' | k'
   ·exact absurd k' h0
   ·rw [(h.k1 k').2.1] at hk;cases hk
   ·exact Yge h k' hk (Z6w n k.E (d - 1) (by have:=Q6 hk;omega) (h.ks k hk) x hx)
   rw [(h.k3 k').2] at hk;cases hk
  obtain ⟨pre,q,post,x,e1,e2,e3⟩:=Z5p _ _ hp
  have ef:=Ydb e.Ops
  rw [e1,List.map_append,List.map_cons] at ef
  have hq:q∈wO e.Ops:=by rw [e1];simp
  obtain ⟨o,ho,rfl⟩:=List.mem_map.1 hq
  have k3:e.Kind=3:=by
   rcases h.kd with k | k | k | k
   ·exact absurd k h0
   ·rw [(h.k1 k).2.2] at ho;cases ho
   ·rw [h.k2 k] at ho;cases ho
   exact k
  obtain ⟨hl,hok⟩:=h.lst k3
  have hs:=h.l
  rw [← ef,Zk5,Zj7] at hs
  simp only [oS,wS,List.map_cons,List.sum_cons] at hs
  have hX:XO e.List_ (d - 1) x∧x.Kind≠0∧thN x≤4000:=by
   have hoq:=hok o ho
   unfold fO at e2
   split at e2
   ·rename_i k12
    rw [List.mem_singleton.1 e2]
    refine ⟨⟨hoq,h.b.l o ho,h.b.os o ho,h.g.os o ho,h.ln o ho,fun k=>by omega⟩,by omega,?_⟩
    rcases k12 with k | k
    ·have:oN o=thN o:=by unfold oN;rw [if_neg (by omega)]
     omega
    have:wN o=thN o:=by unfold wN;rw [if_neg (by omega)]
    omega
   split at e2
   ·rename_i k12 k
    obtain ⟨y,hy,rfl⟩:=List.mem_map.1 e2
    have gy:=Z6w n o.E (d - 1) (by have:=Vp ho;omega) (h.os o ho k) y hy
    rcases hoq with ⟨k',_⟩ | ⟨k',_⟩ | ⟨_,_,_,q1,q2,q3⟩
    ·omega
    ·omega
    refine ⟨⟨.inr (.inr ⟨rfl,rfl,rfl,by rw [gy.k];exact q1,Z98 gy q2,gy.r⟩),⟨by simp,by simp⟩,gy.b,gy.g,by simp,fun _=>⟨gy.n,Yah gy (h.id o ho k)⟩⟩,by simp,by simp [thN]⟩
   cases e2
  obtain ⟨x1,x2,x3⟩:=hX
  have hsum:0+wS (pre.map (·.1))+thN x+oS (post.map (·.1))≤1000000:=by
   unfold wS oS
   omega
  rw [e3]
  obtain ⟨g1,g2⟩:=Z7m x1 hsum
  exact ⟨g1,g2,Ya7 hl h.d0 x1 hsum,Ygw x1 x2,k3.symm,fun k=>by omega,.inr (.inl (by simp [arE]))⟩
theorem Zi5 {α σ τ ρ:Type} (xs:List α) (emb:Nat→σ→τ) (R:σ→List α→ρ) (P:σ→List α→Prop) (B:τ→Option (τ ⊕ ρ))
  (hstep:∀ (s:σ) (i:Nat) (x:α) (ys:List α),xs.drop i=x::ys→i < xs.length→xs[i]? = some x→x∈xs→P s (x::ys)→∃ s',B (emb i s)=some (.inl (emb (i+1) s'))∧P s' ys∧R s (x::ys)=R s' ys)
  (hend:∀ s,P s []→B (emb xs.length s)=some (.inr (R s []))):∀ (ys:List α) (i:Nat) (s:σ),xs.drop i=ys→i≤xs.length→P s ys→Zs B (emb i s)=some (R s ys)
 | [],i,s,hd,hi,hp=>by
  have:i=xs.length:=by have:=List.drop_eq_nil_iff.1 hd;omega
  subst this
  exact Y2 (hend s hp)
 | x::ys,i,s,hd,hi,hp=>by
  have hil:i < xs.length:=by
   rcases Nat.lt_or_ge i xs.length with h | h
   ·exact h
   rw [List.drop_eq_nil_of_le h] at hd;cases hd
  have e:=List.drop_eq_getElem_cons hil
  rw [hd] at e
  injection e with e1 e2
  have hx:xs[i]? = some x:=by rw [List.getElem?_eq_getElem hil,e1]
  obtain ⟨s',h1,h2,h3⟩:=hstep s i x ys hd hil hx (List.mem_of_getElem? hx) hp
  rw [Y9 h1,h3]
  exact Zi5 xs emb R P B hstep hend ys (i+1) s' e2.symm hil h2
theorem i1 {i n:Nat} (h:i < n) (hn:n≤1000000000):IntKind.i64.wrap ((i:Int)+1)=((i+1:Nat):Int):=by
 rw [Kg (by omega) (by omega)]
 rfl
theorem ap1 {α:Type} {b:Nat} {xs:List α} (x:α) (h:xs.length≤2000000) (hb:b≤1000):Vr b xs [x]=some (xs++[x]):=by
 have:(xs.length+1) * b≤2000001 * 1000:=Nat.mul_le_mul (by omega) hb
 exact U4 (by simp only [List.length_singleton];omega) (by simp only [List.length_singleton];omega)
theorem apK (ops:List EO) (n:Nat) (h:ops.length≤2000000):Vk ops (n:Int)=some (ops++kpN n):=by
 unfold Vk kpN
 by_cases h0:n=0
 ·subst h0
  rw [if_pos rfl,List.append_nil]
  rfl
 rw [decide_eq_false (by omega),cond_false,ap1 _ h (by omega),Option.bind_some,if_neg h0]
 rfl
theorem Yfh (o:EO) (a b:Nat) (out:List Ed) (e:Ed) (h:out.length≤1000000):Vl o (a:Int) out e (b:Int)=some ((a:Int),out++[arE e.List_ a o b],e,(b:Int)):=by
 obtain ⟨_,_,_,k1⟩:=Z75 a
 unfold Vl
 rw [apK [] a (by simp),Option.bind_some,List.nil_append,ap1 o (by omega) (by omega),Option.bind_some,apK _ b (by simp only [List.length_append,List.length_singleton];omega),Option.bind_some,ap1 _ (by omega) (by omega),Option.bind_some]
 rfl
section
variable {e:Ed}
abbrev T14:=Int×Int×List Int×List Tr×Int×List Int×List Tr×List Zu×List Zj×Int×List EO×Int×Int×List Ed
def Ztm (e:Ed) (a b:Nat) (out:List Ed):T14:=(e.Kind,e.Old.Kind,e.Old.Words,e.Old.Kids,e.New.Kind,e.New.Words,e.New.Kids,e.Words,e.Kids,e.List_,e.Ops,(a:Int),(b:Int),out)
theorem Yja (e:Ed) (a b:Nat) (l:List Ed) (out:List Ed) (h:out.length+l.length≤1000000):Zs (Uc l) ((0:Int),Ztm e a b out)=some (Ztm e a b (out++l.map fun x=>arE e.List_ a ⟨3,0,[],x⟩ b)):=by
 refine Zi5 l (fun i out=>((i:Int),Ztm e a b out)) (fun out ys=>Ztm e a b (out++ys.map fun x=>arE e.List_ a ⟨3,0,[],x⟩ b)) (fun out ys=>out.length+ys.length≤1000000) (Uc l) (fun s i x ys hd hi hx hm hp => ?_) (fun s hp => ?_) l 0 out rfl (Nat.zero_le _) h
 ·refine ⟨s++[arE e.List_ a ⟨3,0,[],x⟩ b],?_,by simp only [List.length_append,List.length_cons,List.length_nil] at hp ⊢;omega,by simp⟩
  have hl:=Yfh ⟨3,0,[],x⟩ a b s e (by simp only [List.length_cons] at hp;omega)
  unfold Uc Ztm
  simp only
  rw [Ua hi,cond_true,Yf hx,Option.bind_some,Z1x]
  refine (congrArg (fun z=>Option.bind z _) hl).trans ?_
  rw [Option.bind_some,i1 hi (by omega)]
 unfold Uc Ztm
 simp only
 rw [Uo,cond_false]
 simp
end
theorem Z1b (l:Int) (a:Nat) (o:EO) (os:List EO):Zn4 l a (wO (o::os))=(fO o (sp o.E)).map (fun x=>arE l a x (oS os))++Zn4 l (a+wN o) (wO os):=by
 have:wO (o::os)=(o,fO o (sp o.E))::wO os:=rfl
 rw [this,Zn4,Ydb]
def nP (os:List EO):Nat:=(os.map fun o=>(fO o (sp o.E)).length).sum
theorem Z8e (o:EO) (os:List EO):nP (o::os)=(fO o (sp o.E)).length+nP os:=by simp [nP]
theorem Yfk {e:Ed}:nP e.Ops≤(spA e).length:=by
 unfold spA nP
 rw [List.length_append,Zzy]
 unfold wO
 rw [List.map_map]
 exact Nat.le_add_left _ _
theorem Yi9 {e:Ed} {d:Nat} (h:PX d e) (k3:e.Kind=3) {F:Ed→Option (List Ed)} (hF:∀ o∈e.Ops,o.Kind=3→F o.E=some (sp o.E)) (hc:ce e≤500000):Zs (Ub F e) ((0:Int),Ztm e 0 (oS e.Ops) [])=some (Zn4 e.List_ 0 (wO e.Ops)):=by
 have hs:=h.l
 obtain ⟨hl,hok⟩:=h.lst k3
 have hn:=Yfk (e:=e)
 have hA:=Zxp e
 have hlen:e.Ops.length≤500000:=by rw [Zit] at hc;omega
 have:=Zi5 e.Ops (fun i (s:Nat×Nat×List Ed)=>((i:Int),Ztm e s.1 s.2.1 s.2.2)) (fun s ys=>s.2.2++Zn4 e.List_ s.1 (wO ys)) (fun s ys=>s.2.1=oS ys∧s.1+wS ys≤2000∧oS ys≤2000∧s.2.2.length+nP ys≤500000) (Ub F e) (fun s i o ys hd hi hx hm hp => ?_) (fun s hp => ?_) e.Ops 0 (0,oS e.Ops,[]) rfl (Nat.zero_le _) ⟨rfl,by simp only;omega,hs.1,by simp only [List.length_nil];omega⟩
 ·rw [List.nil_append] at this
  exact this
 ·obtain ⟨a,b,out⟩:=s
  simp only at hp ⊢
  obtain ⟨p1,p2,p3,p4⟩:=hp
  have c1:oS (o::ys)=oN o+oS ys:=by simp [oS]
  have c2:wS (o::ys)=wN o+wS ys:=by simp [wS]
  rw [c1] at p1 p3
  rw [c2] at p2
  rw [Z8e] at p4
  subst p1
  have hq:=hok o hm
  have hbl:=h.b.l o hm
  refine ⟨(a+wN o,oS ys,out++(fO o (sp o.E)).map fun x=>arE e.List_ a x (oS ys)),?_,⟨rfl,by simp only;omega,by omega,by simp only [List.length_append,List.length_map];omega⟩,by rw [Z1b,List.append_assoc]⟩
  unfold Ub
  rw [show ((i:Int),Ztm e a (oN o+oS ys) out).1=(i:Int) from rfl,Ua hi,cond_true,Yf hx,Option.bind_some]
  rcases hq with ⟨k,q1,_⟩ | ⟨k,_⟩ | ⟨k,_⟩
  ·have f0:fO o (sp o.E)=[]:=by unfold fO;rw [if_neg (by omega),if_neg (by omega)]
   have t0:thN o=o.N.toNat:=by unfold thN;rw [if_pos k]
   have w0:wN o=o.N.toNat∧oN o=o.N.toNat:=by unfold wN oN;rw [if_neg (by omega),if_neg (by omega)];exact ⟨t0,t0⟩
   rw [show (o.Kind == 0)=true from beq_iff_eq.2 k,cond_true,f0,Option.bind_some]
   unfold Ztm
   simp only
   rw [i1 hi (by omega),Kg (x:=(a:Int)+o.N) (by omega) (by omega),Kg (x:=((oN o+oS ys:Nat):Int) - o.N) (by omega) (by omega)]
   have e1:(a:Int)+o.N=((a+wN o:Nat):Int):=by omega
   have e2:((oN o+oS ys:Nat):Int) - o.N=((oS ys:Nat):Int):=by omega
   rw [e1,e2]
   simp
  ·have f0:fO o (sp o.E)=[o]:=by unfold fO;rw [if_pos k]
   have t0:thN o=o.L.length:=by unfold thN;rw [if_neg (by omega),if_neg (by omega)]
   have hlay:=Yfh o a (oS ys) out e (by rw [f0] at p4;simp at p4;omega)
   rw [show (o.Kind == 0)=false from beq_eq_false_iff_ne.2 (by omega),cond_false,f0]
   rcases k with k | k
   ·have w0:wN o=0∧oN o=o.L.length:=by unfold wN oN;rw [if_pos k,if_neg (by omega)];exact ⟨rfl,t0⟩
    rw [show (o.Kind == 1)=true from beq_iff_eq.2 k,cond_true]
    unfold Ztm
    simp only
    have e2:IntKind.i64.wrap (((oN o+oS ys:Nat):Int) - (o.L.length:Int))=((oS ys:Nat):Int):=by rw [Kg (by omega) (by omega)];omega
    rw [Z1x,e2]
    refine (congrArg (fun z=>Option.bind (Option.bind z _) _) hlay).trans ?_
    rw [Option.bind_some,Option.bind_some,i1 hi (by omega),w0.1]
    rfl
   have w0:wN o=o.L.length∧oN o=0:=by unfold wN oN;rw [if_pos k,if_neg (by omega)];exact ⟨t0,rfl⟩
   rw [show (o.Kind == 1)=false from beq_eq_false_iff_ne.2 (by omega),show (o.Kind == 2)=true from beq_iff_eq.2 k,cond_false,cond_true]
   unfold Ztm
   simp only
   rw [Z1x,w0.2,Nat.zero_add]
   refine (congrArg (fun z=>Option.bind (Option.bind z _) _) hlay).trans ?_
   rw [Option.bind_some,Option.bind_some,i1 hi (by omega)]
   simp only
   have e1:IntKind.i64.wrap ((a:Int)+(o.L.length:Int))=((a+wN o:Nat):Int):=by rw [Kg (by omega) (by omega)];omega
   rw [e1]
   rfl
  have f0:fO o (sp o.E)=(sp o.E).map fun x=>⟨3,0,[],x⟩:=by unfold fO;rw [if_neg (by omega),if_pos k]
  have t0:thN o=1:=by unfold thN;rw [if_neg (by omega),if_pos k]
  have w0:wN o=1∧oN o=1:=by unfold wN oN;rw [if_neg (by omega),if_neg (by omega)];exact ⟨t0,t0⟩
  rw [f0,List.length_map] at p4
  rw [show (o.Kind == 0)=false from beq_eq_false_iff_ne.2 (by omega),show (o.Kind == 1)=false from beq_eq_false_iff_ne.2 (by omega),show (o.Kind == 2)=false from beq_eq_false_iff_ne.2 (by omega),show (o.Kind == 3)=true from beq_iff_eq.2 k,cond_false,cond_false,cond_false,cond_true,hF o hm k,Option.bind_some,f0]
  have hL:=Yja e a (oS ys) (sp o.E) out (by omega)
  unfold Ztm at hL ⊢
  simp only
  have e2:IntKind.i64.wrap (((oN o+oS ys:Nat):Int) - 1)=((oS ys:Nat):Int):=by rw [Kg (by omega) (by omega)];omega
  rw [e2]
  refine (congrArg (fun z=>Option.bind (Option.bind z _) _) hL).trans ?_
  rw [Option.bind_some,Option.bind_some,i1 hi (by omega)]
  simp only
  have e1:IntKind.i64.wrap ((a:Int)+1)=((a+wN o:Nat):Int):=by rw [Kg (by omega) (by omega)];omega
  rw [e1,List.map_map]
  rfl
 obtain ⟨a,b,out⟩:=s
 unfold Ub Ztm
 simp only
 rw [Uo,cond_false]
 simp [wO,Zn4]
theorem Z27 (e:Ed) (l:List Ed):cond ((l.length:Int) == 0) (some [e]) (some l)=some (orS e l):=by
 unfold orS
 cases l with
 | nil=>rfl
 | cons x l =>
  rw [beq_eq_false_iff_ne.2 (by simp only [List.length_cons];omega),cond_false,if_neg (by simp)]
theorem Z5c (k:Zj) (ks:List Zj) (f:Zj→List Ed):kdP (k::ks) f=(f k).map (kPt k.At)++kdP ks f:=rfl
theorem ofS {e:Ed} (hg:GN e) {F F2 F3:Ed→Option (List Ed)} (hF:∀ k∈e.Kids,F k.E=some (sp k.E)) (hc:ce e≤500000):Ge F F2 F3 e=some (e.Words.map wPt++kdP e.Kids fun k=>sp k.E):=by
 have hA:=Zxp e
 have hw:e.Words.length≤500000:=by rw [Zit] at hc;omega
 have hkl:e.Kids.length≤1048576:=hg.k
 have hl:e.Words.length+(e.Kids.map fun k=>(sp k.E).length).sum≤500000:=by
  unfold spA at hA
  rw [List.length_append,List.length_append,List.length_map,Zwq] at hA
  omega
 have l0:Zs (Uv e) ((0:Int),([]:List Ed))=some ([]++e.Words.map wPt) :=
  Zgx e.Words wPt _ [] (by omega) (fun i x out hi hx hm ho=>by
   unfold Uv
   simp only
   simp only [List.length_nil] at ho
   rw [Ua hi,cond_true,Yf hx,Option.bind_some,ap1 _ (by omega) (by omega),Option.bind_some]
   rfl) (fun out=>by
   unfold Uv
   simp only
   rw [Uo,cond_false])
 have l2:∀ (k:Zj) (y out:List Ed),out.length+y.length≤500000→Zs (Uw k y) ((0:Int),out)=some (out++y.map (kPt k.At)):=fun k y out hyo =>
  Zgx y (kPt k.At) _ out (by omega) (fun i x o hi hx hm ho=>by
   unfold Uw
   simp only
   rw [Ua hi,cond_true,Yf hx,Option.bind_some,ap1 _ (by omega) (by omega),Option.bind_some]
   rfl) (fun o=>by
   unfold Uw
   simp only
   rw [Uo,cond_false])
 have l1:Zs (Kr F e) (((0:Nat):Int),e.Words.map wPt)=some (e.Words.map wPt++kdP e.Kids fun k=>sp k.E) :=
  Zi5 e.Kids (fun i s=>((i:Int),s)) (fun s ys=>s++kdP ys fun k=>sp k.E) (fun s ys=>s.length+(ys.map fun k=>(sp k.E).length).sum≤500000) (Kr F e) (fun s i x ys hd hi hx hm hp=>by
   simp only [List.map_cons,List.sum_cons] at hp
   refine ⟨s++(sp x.E).map (kPt x.At),?_,by simp only [List.length_append,List.length_map];omega,by rw [Z5c,List.append_assoc]⟩
   unfold Kr
   simp only
   rw [Ua hi,cond_true,Yf hx,Option.bind_some,hF x hm,Option.bind_some,l2 x _ _ (by omega),Option.bind_some,i1 hi (by omega)]) (fun s hp=>by
   unfold Kr
   simp only
   rw [Uo,cond_false]
   simp [kdP]) e.Kids 0 _ rfl (Nat.zero_le _) (by rw [List.length_map];exact hl)
 unfold Ge
 rw [l0,Option.bind_some,List.nil_append]
 refine (congrArg (fun z=>Option.bind z _) l1).trans ?_
 rw [Option.bind_some]
theorem Ybd {e:Ed} {k:Zj} (hk:k∈e.Kids):ce k.E≤ce e:=by
 have:=Zlm (f:=fun k:Zj=>ce k.E) hk
 rw [Zit e]
 omega
theorem Yfd {e:Ed} {o:EO} (ho:o∈e.Ops):ce o.E≤ce e:=by
 have:=Zlm (f:=fun o:Zg=>ce o.E) ho
 rw [Zit e]
 omega
theorem Yg4 {d:Nat} {e:Ed} (h:PX d e) (k3:e.Kind=3):∃ z,Km e=some (((oS e.Ops:Nat):Int),z):=by
 have hl:∀ o∈e.Ops,o.L.length * 56≤140737488355328:=fun o ho=>(h.b.l o ho).1
 have hs:=h.l
 have hr:=h.r
 rw [Zgf,if_neg h.d0,if_neg (by omega),if_neg (by omega),if_neg (by omega),if_pos k3,Bool.and_eq_true,Bool.and_eq_true (_ && _),Bool.and_eq_true (List.all _ _),List.all_eq_true] at hr
 have h0:Sm (0,0):=by unfold Sm;simp
 have e1:=(Z77 h.b).1
 rw [Zwa (fun o=>rE o.E (d - 1)) e.Ops (0,0) h0 hr.2.2.1 hl] at e1
 have:Zfe (0+((oS e.Ops:Nat):Int))=((oS e.Ops:Nat):Int):=by unfold Zfe;rw [if_neg (by omega)];omega
 simp only at e1
 rw [this] at e1
 exact ⟨_,e1⟩
theorem Z5r:∀ K:Nat,(∀ (e:Ed) (d:Nat),PX d e→ce e≤500000→2 * SizeOf.sizeOf e < K→(Z4 K).1 e=some (sp e))∧(∀ (e:Ed) (d:Nat),PX d e→ce e≤500000→2 * SizeOf.sizeOf e≤K→(Z4 K).2.1 e=some (e.Words.map wPt++kdP e.Kids fun k=>sp k.E))∧(∀ (e:Ed) (d:Nat),PX d e→e.Kind=3→ce e≤500000→2 * SizeOf.sizeOf e≤K→(Z4 K).2.2 e=some (Zn4 e.List_ 0 (wO e.Ops)))
 | 0=>⟨fun e _ _ _ h=>by omega,fun e _ _ _ h=>by have:=Zn5 e;omega,fun e _ _ _ _ h=>by have:=Zn5 e;omega⟩
 | K+1=>by
  obtain ⟨j1,j2,j3⟩:=Z5r K
  refine ⟨fun e d h hc hK => ?_,fun e d h hc hK => ?_,fun e d h k3 hc hK => ?_⟩
  ·show Zbq (Z4 K).1 (Z4 K).2.1 (Z4 K).2.2 e=_
   unfold Zbq
   rw [Z8u]
   rcases h.kd with k | k | k | k
   ·rw [show (e.Kind == 0)=true from beq_iff_eq.2 k,if_pos k];rfl
   ·obtain ⟨a1,a2,a3⟩:=h.k1 k
    have ea:spA e=[]:=by unfold spA;rw [a1,a2,a3];rfl
    rw [show (e.Kind == 0)=false from beq_eq_false_iff_ne.2 (by omega),show (e.Kind == 2)=false from beq_eq_false_iff_ne.2 (by omega),show (e.Kind == 3)=false from beq_eq_false_iff_ne.2 (by omega),if_neg (by omega),ea]
    rfl
   ·have ea:spA e=e.Words.map wPt++kdP e.Kids fun k=>sp k.E:=by unfold spA;rw [h.k2 k];exact List.append_nil _
    rw [show (e.Kind == 0)=false from beq_eq_false_iff_ne.2 (by omega),show (e.Kind == 2)=true from beq_iff_eq.2 k,if_neg (by omega),cond_false,cond_true,j2 e d h hc (by omega),Option.bind_some,Option.bind_some,ea]
    exact Z27 e _
   obtain ⟨a1,a2⟩:=h.k3 k
   have ea:spA e=Zn4 e.List_ 0 (wO e.Ops):=by unfold spA;rw [a1,a2];rfl
   rw [show (e.Kind == 0)=false from beq_eq_false_iff_ne.2 (by omega),show (e.Kind == 2)=false from beq_eq_false_iff_ne.2 (by omega),show (e.Kind == 3)=true from beq_iff_eq.2 k,if_neg (by omega),cond_false,cond_false,cond_true,j3 e d h k hc (by omega),Option.bind_some,Option.bind_some,ea]
   exact Z27 e _
  ·show Ge (Z4 K).1 (Z4 K).2.1 (Z4 K).2.2 e=_
   exact ofS h.g (fun k hk=>j1 k.E (d - 1) (h.ks k hk) (by have:=Ybd hk;omega) (by have:=Q6 hk;omega)) hc
  show Gq (Z4 K).1 (Z4 K).2.1 (Z4 K).2.2 e=_
  obtain ⟨z,hz⟩:=Yg4 h k3
  have hL:=Yi9 h k3 (F:=(Z4 K).1) (fun o ho k=>j1 o.E (d - 1) (h.os o ho k) (by have:=Yfd ho;omega) (by have:=Vp ho;omega)) hc
  unfold Gq
  rw [hz,Option.bind_some]
  refine (congrArg (fun z=>Option.bind z _) hL).trans ?_
  rw [Option.bind_some]
theorem Ycn {d:Nat} {e:Ed} (h:PX d e) (hc:ce e≤500000):Zh0 e=some (sp e):=Zeh (2 * SizeOf.sizeOf e+1) fun k hk=>(Z5r k).1 e d h hc (by omega)
theorem kpO {n:Nat} {ops:List EO} (h:ops.length≤10):(cond (decide (0 < (n:Int))) ((Vr 240 ops ([(⟨0,(n:Int),[],⟨0,⟨0,[],[]⟩,⟨0,[],[]⟩,[],[],0,[]⟩⟩:Zg)]:List Zg)).bind fun l2=>some l2) (some ops))=some (ops++kpN n):=by
 unfold kpN
 by_cases hn:n=0
 ·subst hn
  rw [if_pos rfl,List.append_nil,decide_eq_false (by omega),cond_false]
 rw [decide_eq_true (by omega),cond_true,ap1 _ (by omega) (by omega),Option.bind_some,if_neg hn]
 rfl
theorem Zuh (l:Int) (a b:Nat) (o:EO):Kv l (a:Int) o (b:Int)=some (arE l a o b):=by
 obtain ⟨_,_,_,k1⟩:=Z75 a
 unfold Kv
 refine (congrArg (fun z=>Option.bind z _) (kpO (by simp))).trans ?_
 rw [Option.bind_some,List.nil_append,ap1 o (by omega) (by omega),Option.bind_some]
 refine (congrArg (fun z=>Option.bind z _) (kpO (by simp only [List.length_append,List.length_singleton];omega))).trans ?_
 rfl
theorem Z7c {l:Int} {d:Nat} {o:EO} (h:okQ l d o):(o.Kind=0→wN o=o.N.toNat∧oN o=o.N.toNat∧1≤o.N)∧(o.Kind=1→wN o=0∧oN o=o.L.length)∧(o.Kind=2→wN o=o.L.length∧oN o=0)∧(o.Kind=3→wN o=1∧oN o=1)∧(o.Kind=0∨o.Kind=1∨o.Kind=2∨o.Kind=3):=by
 refine ⟨fun k => ?_,fun k => ?_,fun k => ?_,fun k => ?_,?_⟩
 ·have t0:thN o=o.N.toNat:=by unfold thN;rw [if_pos k]
  refine ⟨by unfold wN;rw [if_neg (by omega)];exact t0,by unfold oN;rw [if_neg (by omega)];exact t0,?_⟩
  rcases h with ⟨_,q,_⟩ | ⟨k',_⟩ | ⟨k',_⟩
  ·exact q
  ·omega
  omega
 ·have t0:thN o=o.L.length:=by unfold thN;rw [if_neg (by omega),if_neg (by omega)]
  exact ⟨by unfold wN;rw [if_pos k],by unfold oN;rw [if_neg (by omega)];exact t0⟩
 ·have t0:thN o=o.L.length:=by unfold thN;rw [if_neg (by omega),if_neg (by omega)]
  exact ⟨by unfold wN;rw [if_neg (by omega)];exact t0,by unfold oN;rw [if_pos k]⟩
 ·have t0:thN o=1:=by unfold thN;rw [if_neg (by omega),if_pos k]
  exact ⟨by unfold wN;rw [if_neg (by omega)];exact t0,by unfold oN;rw [if_neg (by omega)];exact t0⟩
 rcases h with ⟨k,_⟩ | ⟨k,_⟩ | ⟨k,_⟩ <;> omega
theorem Zzd {l:Int} {d:Nat} {ops:List EO} (h:∀ o∈ops,okQ l d o) (hs:oS ops≤2000) (hl:ops.length≤1000000) {i:Nat} (hi:i≤ops.length):Vj ops (i:Int)=some ((oS (ops.drop i):Nat):Int):=by
 have e0:oS ops=oS (ops.take i)+oS (ops.drop i):=by rw [← Zk5,List.take_append_drop]
 have:=Zi5 ops (fun i (s:Nat)=>((s:Int),(i:Int))) (fun s ys=>((s+oS ys:Nat):Int)) (fun s ys=>s+oS ys≤2000) (Vf ops) (fun s i o ys hd hi hx hm hp=>by
  have c1:oS (o::ys)=oN o+oS ys:=by simp [oS]
  rw [c1] at hp ⊢
  refine ⟨s+oN o,?_,by omega,by rw [Nat.add_assoc]⟩
  unfold Vf
  simp only
  rw [Ua hi,cond_true,Yf hx,Option.bind_some,i1 hi (by omega),Option.bind_some]
  obtain ⟨z0,z1,z2,z3,zk⟩:=Z7c (h o hm)
  rcases zk with k | k | k | k
  ·obtain ⟨q1,q2,q3⟩:=z0 k
   rw [show (o.Kind == 0)=true from beq_iff_eq.2 k,cond_true,Option.bind_some,Kg (by omega) (by omega),q2]
   have:(s:Int)+o.N=((s+o.N.toNat:Nat):Int):=by omega
   rw [this]
  ·obtain ⟨q1,q2⟩:=z1 k
   rw [show (o.Kind == 0)=false from beq_eq_false_iff_ne.2 (by omega),show (o.Kind == 1)=true from beq_iff_eq.2 k,cond_false,cond_true,Option.bind_some,Option.bind_some,Kg (by omega) (by omega),q2]
   rfl
  ·obtain ⟨q1,q2⟩:=z2 k
   rw [show (o.Kind == 0)=false from beq_eq_false_iff_ne.2 (by omega),show (o.Kind == 1)=false from beq_eq_false_iff_ne.2 (by omega),show (o.Kind == 3)=false from beq_eq_false_iff_ne.2 (by omega),cond_false,cond_false,cond_false,Option.bind_some,q2]
   rfl
  ·obtain ⟨q1,q2⟩:=z3 k
   rw [show (o.Kind == 0)=false from beq_eq_false_iff_ne.2 (by omega),show (o.Kind == 1)=false from beq_eq_false_iff_ne.2 (by omega),show (o.Kind == 3)=true from beq_iff_eq.2 k,cond_false,cond_false,cond_true,Option.bind_some,Kg (by omega) (by omega),q2]
   rfl) (fun s hp=>by
  unfold Vf
  simp only
  rw [Uo,cond_false]
  simp [oS]) (ops.drop i) i 0 rfl hi (by omega)
 unfold Vj
 rw [show ((0:Int),(i:Int))=(((0:Nat):Int),(i:Int)) from rfl,this,Option.bind_some,Nat.zero_add]
theorem Zu4 {l:Int} {d:Nat} {ops:List EO} (h:∀ o∈ops,okQ l d o) (hs:wS ops≤2000) (hl:ops.length≤1000000) {n:Nat} (hn:n≤ops.length):Kw ops (n:Int)=some ((wS (ops.take n):Nat):Int):=by
 have e0:wS ops=wS (ops.take n)+wS (ops.drop n):=by rw [← Zj7,List.take_append_drop]
 have hln:(ops.take n).length=n:=by rw [List.length_take];omega
 have:=Zi5 (ops.take n) (fun i (s:Nat)=>((s:Int),(i:Int))) (fun s ys=>((s+wS ys:Nat):Int)) (fun s ys=>s+wS ys≤2000) (Kl ops (n:Int)) (fun s i o ys hd hi hx hm hp=>by
  have c1:wS (o::ys)=wN o+wS ys:=by simp [wS]
  rw [hln] at hi
  have hx':ops[i]? = some o:=by rw [← hx,List.getElem?_take,if_pos hi]
  have hm':=List.mem_of_getElem? hx'
  rw [c1] at hp ⊢
  refine ⟨s+wN o,?_,by omega,by rw [Nat.add_assoc]⟩
  unfold Kl
  simp only
  rw [Ua hi,cond_true,Yf hx',Option.bind_some,i1 hi (by omega),Option.bind_some]
  obtain ⟨z0,z1,z2,z3,zk⟩:=Z7c (h o hm')
  rcases zk with k | k | k | k
  ·obtain ⟨q1,q2,q3⟩:=z0 k
   rw [show (o.Kind == 0)=true from beq_iff_eq.2 k,cond_true,Option.bind_some,Kg (by omega) (by omega),q1]
   have:(s:Int)+o.N=((s+o.N.toNat:Nat):Int):=by omega
   rw [this]
  ·obtain ⟨q1,q2⟩:=z1 k
   rw [show (o.Kind == 0)=false from beq_eq_false_iff_ne.2 (by omega),show (o.Kind == 2)=false from beq_eq_false_iff_ne.2 (by omega),show (o.Kind == 3)=false from beq_eq_false_iff_ne.2 (by omega),cond_false,cond_false,cond_false,Option.bind_some,q1]
   rfl
  ·obtain ⟨q1,q2⟩:=z2 k
   rw [show (o.Kind == 0)=false from beq_eq_false_iff_ne.2 (by omega),show (o.Kind == 2)=true from beq_iff_eq.2 k,cond_false,cond_true,Option.bind_some,Option.bind_some,Kg (by omega) (by omega),q1]
   rfl
  ·obtain ⟨q1,q2⟩:=z3 k
   rw [show (o.Kind == 0)=false from beq_eq_false_iff_ne.2 (by omega),show (o.Kind == 2)=false from beq_eq_false_iff_ne.2 (by omega),show (o.Kind == 3)=true from beq_iff_eq.2 k,cond_false,cond_false,cond_true,Option.bind_some,Kg (by omega) (by omega),q1]
   rfl) (fun s hp=>by
  unfold Kl
  simp only
  rw [hln,Uo,cond_false]
  simp [wS]) (ops.take n) 0 0 rfl (Nat.zero_le _) (by omega)
 unfold Kw
 rw [show ((0:Int),(0:Int))=(((0:Nat):Int),((0:Nat):Int)) from rfl,this,Option.bind_some,Nat.zero_add]
theorem rL4 {d:Nat} {e:Ed} (h:PX d e) (k3:e.Kind=3) (hl:e.Ops.length≤500000) {i:Nat} (hi:i < e.Ops.length) (s:Int×List Ed) (hs:s.1=(i:Int)) (y out:List Ed) (hy:out.length+y.length≤1000000):Zs (Vd e s y) ((0:Int),out)=some (out++y.map fun x=>arE e.List_ (wS (e.Ops.take i)) ⟨3,0,[],x⟩ (oS (e.Ops.drop (i+1)))) :=
 Zgx y (fun x=>arE e.List_ (wS (e.Ops.take i)) ⟨3,0,[],x⟩ (oS (e.Ops.drop (i+1)))) _ out (by omega) (fun j x o hj hx hm ho=>by
  unfold Vd
  simp only
  rw [Ua hj,cond_true,hs,Zu4 (h.lst k3).2 h.l.2 (by omega) (Nat.le_of_lt hi),Option.bind_some,Yf hx,Option.bind_some,i1 hi (by omega),Zzd (h.lst k3).2 h.l.1 (by omega) hi,Option.bind_some,Zuh,Option.bind_some,ap1 _ (by omega) (by omega),Option.bind_some]) (fun o=>by
  unfold Vd
  simp only
  rw [Uo,cond_false])
theorem rL3 {e:Ed} {d:Nat} (h:PX d e) (k3:e.Kind=3) {F:Ed→Option (List Ed)} (hF:∀ o∈e.Ops,o.Kind=3→F o.E=some (sp o.E)) (hc:ce e≤500000):Zs (X4 F e) ((0:Int),([]:List Ed))=some (Zn4 e.List_ 0 (wO e.Ops)):=by
 have hs:=h.l
 obtain ⟨hl,hok⟩:=h.lst k3
 have hn:=Yfk (e:=e)
 have hA:=Zxp e
 have hlen:e.Ops.length≤500000:=by rw [Zit] at hc;omega
 have:=Zi5 e.Ops (fun i (s:Nat×List Ed)=>((i:Int),s.2)) (fun s ys=>s.2++Zn4 e.List_ s.1 (wO ys)) (fun s ys=>s.1+wS ys=wS e.Ops∧s.2.length+nP ys≤500000) (X4 F e) (fun s i o ys hd hi hx hm hp => ?_) (fun s hp => ?_) e.Ops 0 (0,[]) rfl (Nat.zero_le _) ⟨by simp only;omega,by simp only [List.length_nil];omega⟩
 ·rw [List.nil_append] at this
  exact this
 ·obtain ⟨a,out⟩:=s
  simp only at hp ⊢
  obtain ⟨p1,p2⟩:=hp
  have e0:wS e.Ops=wS (e.Ops.take i)+wS (e.Ops.drop i):=by rw [← Zj7,List.take_append_drop]
  rw [hd] at e0
  have ea:wS (e.Ops.take i)=a:=by omega
  have ed:e.Ops.drop (i+1)=ys:=by
   have:=List.drop_eq_getElem_cons hi
   rw [hd] at this
   injection this with _ q
   exact q.symm
  have c2:wS (o::ys)=wN o+wS ys:=by simp [wS]
  rw [c2] at p1
  rw [Z8e] at p2
  have hq:=hok o hm
  refine ⟨(a+wN o,out++(fO o (sp o.E)).map fun x=>arE e.List_ a x (oS ys)),?_,⟨by simp only;omega,by simp only [List.length_append,List.length_map];omega⟩,by rw [Z1b,List.append_assoc]⟩
  unfold X4
  simp only
  rw [Ua hi,cond_true,Yf hx,Option.bind_some]
  obtain ⟨_,_,_,_,zk⟩:=Z7c hq
  rcases zk with k | k | k | k
  ·have f0:fO o (sp o.E)=[]:=by unfold fO;rw [if_neg (by omega),if_neg (by omega)]
   rw [show (o.Kind == 1)=false from beq_eq_false_iff_ne.2 (by omega),show (o.Kind == 2)=false from beq_eq_false_iff_ne.2 (by omega),show (o.Kind == 3)=false from beq_eq_false_iff_ne.2 (by omega),cond_false,cond_false,Option.bind_some,cond_false,Option.bind_some,i1 hi (by omega),f0]
   simp
  ·have f0:fO o (sp o.E)=[o]:=by unfold fO;rw [if_pos (.inl k)]
   rw [f0] at p2 ⊢
   rw [show (o.Kind == 1)=true from beq_iff_eq.2 k,show (o.Kind == 3)=false from beq_eq_false_iff_ne.2 (by omega),cond_true,cond_true,Zu4 hok hs.2 (by omega) (Nat.le_of_lt hi),Option.bind_some,i1 hi (by omega),Zzd hok hs.1 (by omega) hi,Option.bind_some,Zuh,Option.bind_some,ap1 _ (by simp at p2;omega) (by omega),Option.bind_some,Option.bind_some,cond_false,Option.bind_some,ea,ed]
   rfl
  ·have f0:fO o (sp o.E)=[o]:=by unfold fO;rw [if_pos (.inr k)]
   rw [f0] at p2 ⊢
   rw [show (o.Kind == 1)=false from beq_eq_false_iff_ne.2 (by omega),show (o.Kind == 2)=true from beq_iff_eq.2 k,show (o.Kind == 3)=false from beq_eq_false_iff_ne.2 (by omega),cond_false,cond_true,Zu4 hok hs.2 (by omega) (Nat.le_of_lt hi),Option.bind_some,i1 hi (by omega),Zzd hok hs.1 (by omega) hi,Option.bind_some,Zuh,Option.bind_some,ap1 _ (by simp at p2;omega) (by omega),Option.bind_some,Option.bind_some,cond_false,Option.bind_some,ea,ed]
   rfl
  have f0:fO o (sp o.E)=(sp o.E).map fun x=>⟨3,0,[],x⟩:=by unfold fO;rw [if_neg (by omega),if_pos k]
  rw [f0,List.length_map] at p2
  have hL:=rL4 h k3 hlen hi ((i:Int),out) rfl (sp o.E) out (by omega)
  rw [show (o.Kind == 1)=false from beq_eq_false_iff_ne.2 (by omega),show (o.Kind == 2)=false from beq_eq_false_iff_ne.2 (by omega),show (o.Kind == 3)=true from beq_iff_eq.2 k,cond_false,cond_false,Option.bind_some,cond_true,hF o hm k,Option.bind_some,hL,Option.bind_some,Option.bind_some,i1 hi (by omega),f0,List.map_map,ea,ed]
  rfl
 unfold X4
 simp only
 rw [Uo,cond_false]
 simp [wO,Zn4]
theorem Yje {e:Ed} (hg:GN e) {F:Ed→Option (List Ed)} (hF:∀ k∈e.Kids,F k.E=some (sp k.E)) (hc:ce e≤500000):Zs (Vb e) ((0:Int),([]:List Ed))=some (e.Words.map wPt)∧Zs (Jo F e) ((0:Int),e.Words.map wPt)=some (e.Words.map wPt++kdP e.Kids fun k=>sp k.E):=by
 have hA:=Zxp e
 have hw:e.Words.length≤500000:=by rw [Zit] at hc;omega
 have hkl:e.Kids.length≤1048576:=hg.k
 have hl:e.Words.length+(e.Kids.map fun k=>(sp k.E).length).sum≤500000:=by
  unfold spA at hA
  rw [List.length_append,List.length_append,List.length_map,Zwq] at hA
  omega
 refine ⟨Zgx e.Words wPt _ [] (by omega) (fun i x out hi hx hm ho=>by
   unfold Vb
   simp only
   simp only [List.length_nil] at ho
   rw [Ua hi,cond_true,Yf hx,Option.bind_some,ap1 _ (by omega) (by omega),Option.bind_some]
   rfl) (fun out=>by
   unfold Vb
   simp only
   rw [Uo,cond_false]),?_⟩
 exact Zi5 e.Kids (fun i s=>((i:Int),s)) (fun s ys=>s++kdP ys fun k=>sp k.E) (fun s ys=>s.length+(ys.map fun k=>(sp k.E).length).sum≤500000) (Jo F e) (fun s i x ys hd hi hx hm hp=>by
   simp only [List.map_cons,List.sum_cons] at hp
   refine ⟨s++(sp x.E).map (kPt x.At),?_,by simp only [List.length_append,List.length_map];omega,by rw [Z5c,List.append_assoc]⟩
   have l2:Zs (Vc e ((i:Int),s) (sp x.E)) ((0:Int),s)=some (s++(sp x.E).map (kPt x.At)) :=
    Zgx (sp x.E) (kPt x.At) _ s (by omega) (fun j y o hj hy hm ho=>by
     unfold Vc
     simp only
     rw [Ua hj,cond_true,Yf hx,Option.bind_some,Yf hy,Option.bind_some,ap1 _ (by omega) (by omega),Option.bind_some]
     rfl) (fun o=>by
     unfold Vc
     simp only
     rw [Uo,cond_false])
   unfold Jo
   simp only
   rw [Ua hi,cond_true,Yf hx,Option.bind_some,hF x hm,Option.bind_some,l2,Option.bind_some,i1 hi (by omega)]) (fun s hp=>by
   unfold Jo
   simp only
   rw [Uo,cond_false]
   simp [kdP]) e.Kids 0 _ rfl (Nat.zero_le _) (by rw [List.length_map];exact hl)
theorem Z1h:∀ K:Nat,∀ (e:Ed) (d:Nat),PX d e→ce e≤500000→SizeOf.sizeOf e < K→Qm K e=some (sp e)
 | 0=>fun e _ _ _ h=>by omega
 | K+1=>fun e d h hc hK=>by
  have j:=Z1h K
  show Gn (Qm K) e=_
  unfold Gn
  rw [Z8u]
  by_cases h0:e.Kind=0
  ·rw [show (e.Kind == 0)=true from beq_iff_eq.2 h0,if_pos h0];rfl
  obtain ⟨l0,l1⟩:=Yje h.g (F:=Qm K) (fun k hk=>j k.E (d - 1) (h.ks k hk) (by have:=Ybd hk;omega) (by have:=Q6 hk;omega)) hc
  rw [show (e.Kind == 0)=false from beq_eq_false_iff_ne.2 h0,if_neg h0,cond_false,l0,Option.bind_some,l1,Option.bind_some]
  by_cases k3:e.Kind=3
  ·obtain ⟨a1,a2⟩:=h.k3 k3
   have l3:=rL3 h k3 (F:=Qm K) (fun o ho k=>j o.E (d - 1) (h.os o ho k) (by have:=Yfd ho;omega) (by have:=Vp ho;omega)) hc
   have ea:spA e=Zn4 e.List_ 0 (wO e.Ops):=by unfold spA;rw [a1,a2];rfl
   rw [show (e.Words.map wPt++kdP e.Kids fun k=>sp k.E)=[] by rw [a1,a2];rfl,l3,Option.bind_some,ea]
   exact Z27 e _
  have o0:e.Ops=[]:=by
   rcases h.kd with k | k | k | k
   ·exact absurd k h0
   ·exact (h.k1 k).2.2
   ·exact h.k2 k
   exact absurd k k3
  have l3:Zs (X4 (Qm K) e) ((0:Int),e.Words.map wPt++kdP e.Kids fun k=>sp k.E)=some (e.Words.map wPt++kdP e.Kids fun k=>sp k.E):=by
   refine Y2 ?_
   unfold X4
   simp only
   rw [o0]
   rfl
  have ea:spA e=e.Words.map wPt++kdP e.Kids fun k=>sp k.E:=by unfold spA;rw [o0];exact List.append_nil _
  rw [l3,Option.bind_some,ea]
  exact Z27 e _
theorem Yau {d:Nat} {e:Ed} (h:PX d e) (hc:ce e≤500000):Zf0 e=some (sp e):=Zeh (SizeOf.sizeOf e+1) fun k hk=>Z1h k e d h hc (by omega)
def aD:EO:=⟨1,0,[⟨10,[1],[]⟩],eS0⟩
def aI:EO:=⟨2,0,[⟨10,[2],[]⟩],eS0⟩
def aK:EO:=⟨0,1,[],eS0⟩
def aE (os:List EO):Ed:=⟨3,n0T,n0T,[],[],4,os⟩
theorem Yfb {w:Int} (h:0≤w∧w < 18446744073709551616):Bd ⟨10,[w],[]⟩ := .mk _ (by simp) (by simp) (by simpa using h) (fun k h=>by simp at h)
theorem Z7n {os:List EO} (hl:os.length≤5) (h:∀ o∈os,o=aD∨o=aI∨o=aK) (hs:Qh os≤100):BE (aE os)∧GN (aE os):=by
 have hE:∀ o∈os,o.E=eS0:=fun o ho=>by rcases h o ho with h | h | h <;> rw [h] <;> rfl
 refine ⟨.mk _ Zkb Zkb (by simp [aE]) (by simp [aE]) (by simp [aE]) (by simp [aE]) (by simp only [aE];omega) (fun o ho => ?_) (fun o ho=>by rw [hE o ho];exact Zys),.mk _ (by simp [aE]) (by simp [aE]) (by simp only [aE];omega) (by simp only [aE];omega) (fun o ho => ?_) (by simp [aE]) (fun o ho=>by rw [hE o ho];exact Zzb)⟩
 ·rcases h o ho with h | h | h <;> rw [h] <;> refine ⟨by simp [aD,aI,aK],fun t ht => ?_⟩
  ·rw [List.mem_singleton.1 ht];exact Yfb (by decide)
  ·rw [List.mem_singleton.1 ht];exact Yfb (by decide)
  cases ht
 rcases h o ho with h | h | h <;> rw [h] <;> simp [opk,aD,aI,aK]
theorem Ygz (w:Int):nrm ⟨10,[w],[]⟩=⟨10,[w],[]⟩:=by rw [Zsn (by simp) (by simp)];rfl
theorem Zzm {xs:List EO} {g:Int} {r:(Int×Int×List EO×Int) ⊕ (List EO×Int)} (h:Zf9 Zc4 3 (xs,g)=some r):Ks ⟨xs,g⟩=(match r with | .inl z=>some (z.1,z.2.1,(⟨z.2.2.1,z.2.2.2⟩:Yj)) | .inr z=>some (0,0,(⟨z.1,z.2⟩:Yj))):=by
 unfold Ks
 rw [Zf4 h]
 cases r <;> rfl
theorem Z7o {α β γ:Type} {a:Option α} {b:Option β} {x:α} {y:β} {f:α→β→Option γ} {r:Option γ} (ha:a=some x) (hb:b=some y) (h:f x y=r):(a.bind fun u=>b.bind fun v=>f u v)=r:=by subst ha hb;exact h
def aPs:List Z7:=[⟨1,aD,⟨0,0,[],eS0⟩⟩,⟨0,aK,aK⟩,⟨2,⟨0,0,[],eS0⟩,aI⟩]
theorem Yf3:Zei [aD,aK] [aK,aI]=some (aPs,true):=by
 have n1:=Zzm (xs:=[aD,aK]) (g:=0) (r := .inl (1,1,[aD,aK],0)) rfl
 have n2:=Zzm (xs:=[aK,aI]) (g:=0) (r := .inl (0,1,[aK,aI],0)) rfl
 have n3:=Zzm (xs:=[aD,aK]) (g:=1) (r := .inl (0,1,[aK],0)) rfl
 have n4:=Zzm (xs:=[aK]) (g:=1) (r := .inr ([],0)) rfl
 have n5:=Zzm (xs:=[aK,aI]) (g:=1) (r := .inl (2,1,[aI],0)) rfl
 have n6:=Zzm (xs:=[]) (g:=0) (r := .inr ([],0)) rfl
 have n7:=Zzm (xs:=[aI]) (g:=1) (r := .inr ([],0)) rfl
 have q1:Ud 1 2 ([aD,aK],0,[aK,aI],0,[])=some (.inl ([aD,aK],1,[aK,aI],0,[⟨1,aD,⟨0,0,[],eS0⟩⟩])):=Z7o n1 n2 rfl
 have q2:Ud 1 2 ([aD,aK],1,[aK,aI],0,[⟨1,aD,⟨0,0,[],eS0⟩⟩])=some (.inl ([aK],1,[aK,aI],1,[⟨1,aD,⟨0,0,[],eS0⟩⟩,⟨0,aK,aK⟩])):=Z7o n3 n2 rfl
 have q3:Ud 1 2 ([aK],1,[aK,aI],1,[⟨1,aD,⟨0,0,[],eS0⟩⟩,⟨0,aK,aK⟩])=some (.inl ([],0,[aI],1,aPs)):=Z7o n4 n5 rfl
 have q4:Ud 1 2 ([],0,[aI],1,aPs)=some (.inr (aPs,true)):=Z7o n6 n7 rfl
 unfold Zei Zgy
 rw [Y9 q1,Y9 q2,Y9 q3,Y2 q4]
 rfl
theorem Ya9:Zh0 (aE [aD,aK,aI])=some [aE [aD,aK],aE [aK,aI]]:=Zeh 2 fun k hk=>by
 obtain ⟨k,rfl⟩:∃ j,k=j+1+1:=⟨k - 2,by omega⟩
 have hl:Km (aE [aD,aK,aI])=some (2,2):=by
  unfold Km
  rw [Zf4 (k:=5) (r:=(2,2)) (by rfl)]
  rfl
 have hL:(Z4 (k+1)).2.2 (aE [aD,aK,aI])=some [aE [aD,aK],aE [aK,aI]]:=by
  show Gq (Z4 k).1 (Z4 k).2.1 (Z4 k).2.2 (aE [aD,aK,aI])=_
  unfold Gq
  rw [hl,Option.bind_some]
  refine (congrArg (fun z=>Option.bind z _) (Zf4 (k:=5) (r:=[aE [aD,aK],aE [aK,aI]]) (by rfl))).trans ?_
  rfl
 show Zbq (Z4 (k+1)).1 (Z4 (k+1)).2.1 (Z4 (k+1)).2.2 (aE [aD,aK,aI])=_
 unfold Zbq
 rw [hL]
 rfl
theorem Z1t:Vh=some true:=by
 have hv:∀ os:List EO,nE (aE os)=aE (Zcs 4 (Xj os)):=fun os=>(Zd1 (aE os)).trans rfl
 have g3:=Z7n (os:=[aD,aK,aI]) (by simp) (by simp) (by simp [Qh,thN,aD,aI,aK])
 have g1:=Z7n (os:=[aD,aK]) (by simp) (by simp) (by simp [Qh,thN,aD,aI,aK])
 have n3:Zcs 4 (Xj [aD,aK,aI])=[aD,aK,aI]:=by simp [Zcs,Xj,aD,aI,aK,Ut,s0N,Ygz,NW.flush,Un,Zau,Q1]
 have n1:Zcs 4 (Xj [aD,aK])=[aD,aK]:=by simp [Zcs,Xj,aD,aK,Ut,s0N,Ygz,NW.flush,Un,Zau,Q1]
 have m3:Zdt (aE [aD,aK,aI])=some (aE [aD,aK,aI]):=by rw [Yb6 g3.1 g3.2,hv,n3]
 have m1:Zdt (aE [aD,aK])=some (aE [aD,aK]):=by rw [Yb6 g1.1 g1.2,hv,n1]
 have p1:Ga (aE [aD,aK,aI])=some [aE [aD,aK],aE [aK,aI]]:=by
  unfold Ga
  rw [m3,Option.bind_some,Ya9]
  rfl
 have c1:Gy eS0 (aE [aD,aK])=some (aE [aD,aK],true):=by
  unfold Gy
  rw [show Zcn eS0 (aE [aD,aK])=some (aE [aD,aK],true) from rfl,Option.bind_some,m1]
  rfl
 have c2:Gy (aE [aD,aK]) (aE [aK,aI])=some (aE [aD,aK,aI],true):=by
  have hm:Zde (aE [aD,aK]) (aE [aK,aI])=some (aE [aD,aK,aI],true):=by
   unfold Zde
   rw [show (aE [aD,aK]).Ops=[aD,aK] from rfl,show (aE [aK,aI]).Ops=[aK,aI] from rfl,Yf3,Option.bind_some]
   refine (congrArg (fun z=>cond (!true) _ (Option.bind z _)) (Zf4 (k:=5) (r:=Sum.inr [aD,aK,aI]) (by rfl))).trans ?_
   rfl
  have hm2:Zcn (aE [aD,aK]) (aE [aK,aI])=some (aE [aD,aK,aI],true):=by
   unfold Zcn
   rw [hm]
   rfl
  unfold Gy
  rw [hm2,Option.bind_some,m3]
  rfl
 have j1:Zg0 [aE [aD,aK],aE [aK,aI]]=some (aE [aD,aK,aI],true):=by
  have s1:Up [aE [aD,aK],aE [aK,aI]] (0,0,0,[],[],0,[],[],[],[],0,[])=some (.inl (1,3,0,[],[],0,[],[],[],[],4,[aD,aK])):=by
   unfold Up
   refine (congrArg (fun z=>Option.bind z _) c1).trans ?_
   rfl
  have s2:Up [aE [aD,aK],aE [aK,aI]] (1,3,0,[],[],0,[],[],[],[],4,[aD,aK])=some (.inl (2,3,0,[],[],0,[],[],[],[],4,[aD,aK,aI])):=by
   unfold Up
   refine (congrArg (fun z=>Option.bind z _) c2).trans ?_
   rfl
  have s3:Up [aE [aD,aK],aE [aK,aI]] (2,3,0,[],[],0,[],[],[],[],4,[aD,aK,aI])=some (.inr (.inr (3,0,[],[],0,[],[],[],[],4,[aD,aK,aI]))):=rfl
  unfold Zg0
  rw [Y9 s1,Y9 s2,Y2 s3]
  rfl
 unfold Vh
 rw [show J6 1=some [⟨10,[1],[]⟩] from rfl,Option.bind_some,show J6 2=some [⟨10,[2],[]⟩] from rfl,Option.bind_some]
 refine (congrArg (fun z=>Option.bind z _) p1).trans ?_
 rw [Option.bind_some,j1]
 rfl
theorem Ygb {e:Ed} (hb:BE e):∃ b,Za1 e=some b∧(b=true→rE e 64=true∧lgt e=true∧ce e≤3000):=by
 obtain ⟨b,h1,h2⟩:=Yg1 hb
 have h3:=Ydw hb (d:=64) (by decide)
 rw [show ((64:Nat):Int)=64 from rfl] at h3
 unfold Za1
 rw [h1,Option.bind_some,h3,Ybx hb]
 refine ⟨b && (rE e 64 && lgt e),?_,fun h => ?_⟩
 ·cases b <;> cases rE e 64 <;> cases lgt e <;> rfl
 simp only [Bool.and_eq_true] at h
 exact ⟨h.2.1,h.2.2,h2 h.1⟩
theorem Z3f {e:Ed} (hb:BE e):Ue e=some true:=by
 obtain ⟨b,h1,h2⟩:=Ygb hb
 unfold Ue
 rw [h1,Option.bind_some]
 cases b with
 | false=>rw [Z1t];rfl
 | true =>
  obtain ⟨r1,r2,r3⟩:=h2 rfl
  rw [cond_true,Yaq hb,Option.bind_some,Option.bind_some,Bool.not_true,cond_false]
  cases decide (200 < cn e) with
  | true=>rw [Z1t];rfl
  | false =>
   have hg:=Ybo _ e 64 (Nat.lt_succ_self _) hb (by omega) r1
   have hx:=Ycq _ e 64 (Nat.lt_succ_self _) hb hg r1 r2
   have hce:=Ybe _ e (Nat.lt_succ_self _) hb hg
   have hgp:=Z6w _ (nE e) 64 (Nat.lt_succ_self _) hx
   have hlen:(sp (nE e)).length≤3000:=by have:=Ygn (nE e);omega
   have p1:Ga e=some (sp (nE e)):=by
    unfold Ga
    rw [Yb6 hb hg,Option.bind_some,Ycn hx (by omega),Option.bind_some]
   have p2:Gx e=some (sp (nE e)):=by
    unfold Gx
    rw [Ycu hb hg,Option.bind_some,Yau hx (by omega),Option.bind_some]
   have hl:=Zi5 (sp (nE e)) (fun i (_:Unit)=>(i:Int)) (fun _ _=>(Sum.inr ():Unit ⊕ Unit)) (fun _ _=>True) (Qz (sp (nE e)) (sp (nE e))) (fun s i x ys hd hi hx' hm hp=>by
    have g:=hgp x hm
    refine ⟨(),?_,trivial,rfl⟩
    unfold Qz
    rw [Ua hi,cond_true,Yf hx',Option.bind_some,Option.bind_some,Z4u g.b,Option.bind_some,cond_true,Z99 g.b,Option.bind_some,g.r,cond_true,Ycu g.b g.g,Option.bind_some,g.n,Z4u g.b,Option.bind_some,Option.bind_some,i1 hi (by omega)]
    rfl) (fun s hp=>by
    unfold Qz
    rw [Uo,cond_false]) (sp (nE e)) 0 () rfl (Nat.zero_le _) trivial
   rw [cond_false,p1,Option.bind_some,p2,Option.bind_some,bne_self_eq_false,cond_false]
   refine (congrArg (fun z=>Option.bind z _) hl).trans ?_
   rw [Option.bind_some]
   simp only
   rw [Z1t]
   rfl
end Go.Proofs.YtkbcdcffpefklaaGreat
