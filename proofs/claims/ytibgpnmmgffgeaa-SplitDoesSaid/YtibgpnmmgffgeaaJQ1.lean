/- Plain facts on this seat's mirrors (part JQ1); each theorem bears its own conditions. -/
import Derived.Test.YtibgpnmmgffgeaaJP3
namespace Go.Proofs.Ytibgpnmmgffgeaa
open Go.RowKit
set_option linter.unusedVariables false
set_option linter.unusedSimpArgs false
def wPt (w:Zr):Ed:=⟨2,Qt,Qt,[w],[],0,[]⟩
def kPt (a:Int) (p:Ed):Ed:=⟨2,Qt,Qt,[],[⟨a,p⟩],0,[]⟩
def kpN (a:Nat):List EO:=if a=0 then [] else [⟨0,(a:Int),[],eS0⟩]
def arE (l:Int) (a:Nat) (x:EO) (b:Nat):Ed:=⟨3,Qt,Qt,[],[],l,kpN a++[x]++kpN b⟩
def fO (o:EO) (l:List Ed):List EO:=if o.Kind=1∨o.Kind=2 then [o] else if o.Kind=3 then l.map fun x=>⟨3,0,[],x⟩ else []
def Zgn (l:Int):Nat→List (EO×List EO)→List Ed
 | _,[]=>[]
 | a,p::os=>p.2.map (fun x=>arE l a x (oS (os.map (·.1))))++Zgn l (a+wN p.1) os
def orS (e:Ed) (l:List Ed):List Ed:=if l=[] then [e] else l
def kdP (ks:List Zm) (f:Zm→List Ed):List Ed:=(ks.map fun k=>(f k).map (kPt k.At)).flatten
def sp (e:Ed):List Ed:=if e.Kind=0 then [] else orS e (e.Words.map wPt++(e.Kids.attach.map fun k=>(sp k.1.E).map (kPt k.1.At)).flatten++Zgn e.List_ 0 (e.Ops.attach.map fun o=>(o.1,fO o.1 (sp o.1.E))))
termination_by SizeOf.sizeOf e
decreasing_by
 ·exact Qq k.2
 exact Kl o.2
def wO (os:List EO):List (EO×List EO):=os.map fun o=>(o,fO o (sp o.E))
def spA (e:Ed):List Ed:=e.Words.map wPt++kdP e.Kids (fun k=>sp k.E)++Zgn e.List_ 0 (wO e.Ops)
theorem Z7p (e:Ed):sp e=if e.Kind=0 then [] else orS e (spA e):=by
 have h1:(e.Kids.attach.map fun k=>(sp k.1.E).map (kPt k.1.At))=e.Kids.map fun k=>(sp k.E).map (kPt k.At):=List.attach_map_val (f:=fun k:Zm=>(sp k.E).map (kPt k.At))
 have h2:(e.Ops.attach.map fun o=>((o.1,fO o.1 (sp o.1.E)):EO×List EO))=wO e.Ops:=List.attach_map_val (f:=fun o:EO=>((o,fO o (sp o.E)):EO×List EO))
 rw [sp,h1,h2]
 rfl
theorem Ycq (os:List EO):(wO os).map (·.1)=os:=by
 unfold wO
 rw [List.map_map]
 exact List.map_id os
def ln (l:List Ed):Nat:=l.length
theorem Yd4 (e:Ed) (l:List Ed):(orS e l).length≤1+l.length:=by
 unfold orS
 split <;> simp
theorem Zzb (f:Zm→List Ed):∀ ks:List Zm,(kdP ks f).length=(ks.map fun k=>(f k).length).sum
 | []=>rfl
 | k::ks=>by
  have:=Zzb f ks
  unfold kdP at this ⊢
  simp only [List.map_cons,List.flatten_cons,List.length_append,List.length_map,List.sum_cons]
  omega
theorem Zvo (l:Int):∀ (os:List (EO×List EO)) (a:Nat),(Zgn l a os).length=(os.map fun p=>p.2.length).sum
 | [],_=>rfl
 | p::os,a=>by
  have:=Zvo l os (a+wN p.1)
  simp only [Zgn,List.length_append,List.length_map,List.map_cons,List.sum_cons]
  omega
theorem Zm9 {α:Type} {f g:α→Nat}:∀ {l:List α},(∀ x∈l,f x≤g x)→(l.map f).sum≤(l.map g).sum
 | [],_=>Nat.le_refl _
 | x::l,h=>by
  simp only [List.map_cons,List.sum_cons]
  have:=h x (.head _)
  have:=Zm9 (l:=l) fun y hy=>h y (.tail _ hy)
  omega
theorem Yf3 (o:EO) (l:List Ed) {c:Nat} (h1:1≤c) (h:l.length≤c):(fO o l).length≤c:=by
 unfold fO
 split
 ·simpa using h1
 split
 ·simpa using h
 simp
theorem Zp5:∀ (n:Nat) (e:Ed),SizeOf.sizeOf e < n→(sp e).length≤ce e∧(spA e).length+1≤ce e
 | 0,_,h=>by omega
 | n+1,e,hn=>by
  have hA:(spA e).length+1≤ce e:=by
   unfold spA
   rw [Zi8,List.length_append,List.length_append,List.length_map,Zzb,Zvo]
   have a:=Zm9 (f:=fun k:Zm=>(sp k.E).length) (g:=fun k=>ce k.E) (l:=e.Kids) fun k hk=>(Zp5 n k.E (by have:=Qq hk;omega)).1
   have b:((wO e.Ops).map fun p=>p.2.length).sum≤(e.Ops.map fun o=>ce o.E).sum:=by
    unfold wO
    rw [List.map_map]
    exact Zm9 fun o ho=>Yf3 o _ (Zyf _) (Zp5 n o.E (by have:=Kl ho;omega)).1
   omega
  refine ⟨?_,hA⟩
  rw [Z7p]
  split
  ·exact Nat.zero_le _
  have:=Yd4 e (spA e)
  omega
theorem Ygl (e:Ed):(sp e).length≤ce e:=(Zp5 _ e (Nat.lt_succ_self _)).1
theorem Z7o (e:Ed):(spA e).length+1≤ce e:=(Zp5 _ e (Nat.lt_succ_self _)).2
def cO (l:List EO):Nat:=(l.map fun o=>ce o.E).sum
theorem Zre (a b:List EO):cO (a++b)=cO a+cO b:=by unfold cO;rw [List.map_append,List.sum_append]
theorem Z6l:ce eS0=1:=by rw [Zi8];rfl
theorem Yfy (g:List Tr):cO (Gf g)≤1:=by
 unfold Gf
 split
 ·exact Nat.zero_le _
 simp [cO,Z6l]
theorem Yfz (g:List Tr):cO (Zad g)≤1:=by
 unfold Zad
 split
 ·exact Nat.zero_le _
 simp [cO,Z6l]
theorem Z6j (F:List EO) (n:Int):cO (Q5 F n)≤cO F+1:=by
 by_cases hk:∃ x,F.getLast? = some x∧x.Kind=0
 ·obtain ⟨x,hx,k0⟩:=hk
  obtain ⟨o',rfl⟩:=List.getLast?_eq_some_iff.1 hx
  obtain ⟨k,N,L,E⟩:=x
  simp only at k0
  subst k0
  rw [Ko,Zre,Zre]
  simp [cO]
 rw [G4 fun x hx h0=>hk ⟨x,hx,h0⟩,Zre]
 simp [cO,Z6l]
theorem Yda (l:Int) (s:NW) (o:EO) (h:ce (nE o.E)≤ce o.E):cO (Vq l s (o,nE o.E)).flush≤cO s.flush+ce o.E:=by
 have h1:=Zyf o.E
 have f0:∀ out:List EO,cO (⟨out,[],[]⟩:NW).flush=cO out:=fun out=>by rw [Um]
 unfold Vq
 split
 ·have:=Yfy (s.gone++o.L.map nrm)
  unfold NW.flush
  simp only [Zre]
  omega
 split
 ·have:=Yfz (s.come++o.L.map nrm)
  unfold NW.flush
  simp only [Zre]
  omega
 split
 ·rw [f0]
  have:=Z6j s.flush o.N
  simp only
  omega
 split
 ·rw [f0]
  have:=Z6j s.flush 1
  omega
 rw [f0,Zre]
 simp only [cO,List.map_cons,List.map_nil,List.sum_cons,List.sum_nil]
 omega
theorem Z6i (l:Int):∀ (os:List EO) (s:NW),(∀ o∈os,ce (nE o.E)≤ce o.E)→cO ((Xm os).foldl (Vq l) s).flush≤cO s.flush+cO os
 | [],s,_=>by simp [Xm,cO]
 | o::os,s,h=>by
  have a:=Z6i l os (Vq l s (o,nE o.E)) fun x hx=>h x (.tail _ hx)
  have b:=Yda l s o (h o (.head _))
  have e:cO (o::os)=ce o.E+cO os:=by simp [cO]
  have e2:(Xm (o::os)).foldl (Vq l) s=(Xm os).foldl (Vq l) (Vq l s (o,nE o.E)):=rfl
  rw [e,e2]
  omega
theorem Z9p:∀ (n:Nat) (e:Ed),SizeOf.sizeOf e < n→BE e→GN e→ce (nE e)≤ce e
 | 0,_,h,_,_=>by omega
 | n+1,e,hn,hb,hg=>by
  have h0:=Zyf e
  rw [Up]
  split
  ·rw [Zi8];simpa using h0
  split
  ·rw [Zi8,Zi8 e]
   have:=Zm9 (f:=fun k:Zm=>ce (nE k.E)) (g:=fun k=>ce k.E) (l:=e.Kids) fun k hk=>Z9p n k.E (by have:=Qq hk;omega) (hb.ks k hk) (hg.ks k hk)
   have r:((e.Kids.map fun k:Zm=>(⟨k.At,nE k.E⟩:Zm)).map fun k=>ce k.E).sum=(e.Kids.map fun k:Zm=>ce (nE k.E)).sum:=by rw [List.map_map];rfl
   simp only [r,List.length_nil,List.map_nil,List.sum_nil]
   omega
  split
  ·rw [Zi8,Zi8 e]
   have a:=Z6i e.List_ e.Ops s0N fun o ho=>Z9p n o.E (by have:=Kl ho;omega) (hb.os o ho) (hg.os o ho)
   have hob:=Zz1 (l:=e.List_) e.Ops s0N 0 0 ⟨by simp [s0N],by simp [s0N],by simp [s0N],Nat.le_refl _,Nat.le_refl _⟩ fun o ho=>⟨hg.p o ho,(hb.l o ho).2,(hb.os o ho).nE (hg.os o ho),GN.nE (hb.os o ho) (hg.os o ho)⟩
   have b:=hob.cnt
   have c:cO s0N.flush=0:=rfl
   have d:(Zbi e.List_ (Xm e.Ops)).length≤e.Ops.length:=by unfold Zbi;omega
   have f:((Zbi e.List_ (Xm e.Ops)).map fun o:Zl=>ce o.E).sum≤(e.Ops.map fun o:Zl=>ce o.E).sum:=by
    have:cO (Zbi e.List_ (Xm e.Ops))≤cO e.Ops:=by unfold Zbi;omega
    exact this
   simp only [List.length_nil,List.map_nil,List.sum_nil]
   omega
  rw [Z6l];exact h0
inductive PX:Nat→Ed→Prop
 | mk (d:Nat) (e:Ed) (hb:BE e) (hg:GN e) (hr:rE e d=true) (hn:nE e=e) (hl:oS e.Ops≤2000∧wS e.Ops≤2000) (ks:∀ k∈e.Kids,PX (d - 1) k.E) (os:∀ o∈e.Ops,o.Kind=3→PX (d - 1) o.E) (id:∀ o∈e.Ops,o.Kind=3→Zao e.List_ o.E=false) (ln:∀ o∈e.Ops,∀ t∈o.L,nrm t=t):PX d e
theorem PX.b {d:Nat} {e:Ed} (h:PX d e):BE e:=by cases h;assumption
theorem PX.g {d:Nat} {e:Ed} (h:PX d e):GN e:=by cases h;assumption
theorem PX.r {d:Nat} {e:Ed} (h:PX d e):rE e d=true:=by cases h;assumption
theorem PX.n {d:Nat} {e:Ed} (h:PX d e):nE e=e:=by cases h;assumption
theorem PX.l {d:Nat} {e:Ed} (h:PX d e):oS e.Ops≤2000∧wS e.Ops≤2000:=by cases h;assumption
theorem PX.ks {d:Nat} {e:Ed} (h:PX d e):∀ k∈e.Kids,PX (d - 1) k.E:=by cases h;assumption
theorem PX.os {d:Nat} {e:Ed} (h:PX d e):∀ o∈e.Ops,o.Kind=3→PX (d - 1) o.E:=by cases h;assumption
theorem PX.id {d:Nat} {e:Ed} (h:PX d e):∀ o∈e.Ops,o.Kind=3→Zao e.List_ o.E=false:=by cases h;assumption
theorem PX.ln {d:Nat} {e:Ed} (h:PX d e):∀ o∈e.Ops,∀ t∈o.L,nrm t=t:=by cases h;assumption
theorem Z3a {F:List EO} {n:Int} {o:EO} (h:o∈Q5 F n) (h3:o.Kind=3):o∈F:=by
 by_cases hk:∃ x,F.getLast? = some x∧x.Kind=0
 ·obtain ⟨x,hx,k0⟩:=hk
  obtain ⟨o',rfl⟩:=List.getLast?_eq_some_iff.1 hx
  obtain ⟨k,N,L,E⟩:=x
  simp only at k0
  subst k0
  rw [Ko] at h
  rcases List.mem_append.1 h with h | h
  ·exact List.mem_append.2 (.inl h)
  rw [List.mem_singleton.1 h] at h3;simp at h3
 rw [G4 fun x hx h0=>hk ⟨x,hx,h0⟩] at h
 rcases List.mem_append.1 h with h | h
 ·exact h
 rw [List.mem_singleton.1 h] at h3;simp at h3
theorem Z7g {Q:Tr→Prop} {F:List EO} {n:Int} (hF:∀ o∈F,∀ t∈o.L,Q t):∀ o∈Q5 F n,∀ t∈o.L,Q t:=by
 by_cases hk:∃ x,F.getLast? = some x∧x.Kind=0
 ·obtain ⟨x,hx,k0⟩:=hk
  obtain ⟨o',rfl⟩:=List.getLast?_eq_some_iff.1 hx
  have hl:=hF x (by simp)
  obtain ⟨k,N,L,E⟩:=x
  simp only at k0
  subst k0
  rw [Ko]
  intro o h
  rcases List.mem_append.1 h with h | h
  ·exact hF o (List.mem_append.2 (.inl h))
  rw [List.mem_singleton.1 h];exact hl
 rw [G4 fun x hx h0=>hk ⟨x,hx,h0⟩]
 intro o h
 rcases List.mem_append.1 h with h | h
 ·exact hF o h
 rw [List.mem_singleton.1 h];intro t ht;cases ht
theorem Zpe {s:NW} {o:EO} (h:o∈s.flush) (h3:o.Kind=3):o∈s.out:=by
 unfold NW.flush at h
 rw [List.mem_append,List.mem_append] at h
 rcases h with h | h | h
 ·exact h
 ·unfold Gf at h
  split at h
  ·cases h
  rw [List.mem_singleton.1 h] at h3;simp at h3
 unfold Zad at h
 split at h
 ·cases h
 rw [List.mem_singleton.1 h] at h3;simp at h3
structure LQ (Q:Tr→Prop) (s:NW):Prop where
 o:∀ o∈s.out,∀ t∈o.L,Q t
 g:∀ t∈s.gone,Q t
 c:∀ t∈s.come,Q t
theorem LQ.f {Q:Tr→Prop} {s:NW} (h:LQ Q s):∀ o∈s.flush,∀ t∈o.L,Q t:=fun o ho=>by
 unfold NW.flush at ho
 rw [List.mem_append,List.mem_append] at ho
 rcases ho with ho | ho | ho
 ·exact h.o o ho
 ·unfold Gf at ho
  split at ho
  ·cases ho
  rw [List.mem_singleton.1 ho];exact h.g
 unfold Zad at ho
 split at ho
 ·cases ho
 rw [List.mem_singleton.1 ho];exact h.c
theorem LQ.step {Q:Tr→Prop} {l:Int} {s:NW} {p:EO×Ed} (h:LQ Q s) (hp:∀ t∈p.1.L,Q (nrm t)):LQ Q (Vq l s p):=by
 have hm:∀ t∈p.1.L.map nrm,Q t:=fun t ht=>by
  obtain ⟨x,hx,rfl⟩:=List.mem_map.1 ht
  exact hp x hx
 unfold Vq
 split
 ·exact ⟨h.o,fun t ht=>(List.mem_append.1 ht).elim (h.g t) (hm t),h.c⟩
 split
 ·exact ⟨h.o,h.g,fun t ht=>(List.mem_append.1 ht).elim (h.c t) (hm t)⟩
 split
 ·exact ⟨Z7g h.f,by simp,by simp⟩
 split
 ·exact ⟨Z7g h.f,by simp,by simp⟩
 refine ⟨fun o ho => ?_,by simp,by simp⟩
 rcases List.mem_append.1 ho with ho | ho
 ·exact h.f o ho
 rw [List.mem_singleton.1 ho];intro t ht;cases ht
theorem Z65 {Q:Tr→Prop} {l:Int}:∀ (ps:List (EO×Ed)) (s:NW),LQ Q s→(∀ p∈ps,∀ t∈p.1.L,Q (nrm t))→LQ Q (ps.foldl (Vq l) s)
 | [],_,h,_=>h
 | p::ps,_,h,hp=>Z65 ps _ (h.step (hp p (.head _))) fun q hq=>hp q (.tail _ hq)
theorem Ydw {l:Int} {os:List EO}:∀ o∈Zbi l (Xm os),∀ t∈o.L,nrm t=t:=by
 unfold Zbi
 refine (Z65 (Q:=fun t=>nrm t=t) _ s0N ⟨by simp [s0N],by simp [s0N],by simp [s0N]⟩ fun p hp t ht=>Zkv t).f
theorem Ygo {Q:Ed→Prop} {l:Int} {s:NW} {p:EO×Ed} (hs:∀ o∈s.out,o.Kind=3→Q o.E∧Zao l o.E=false) (hp:p.1.Kind=3→Q p.2) (hk:p.1.Kind=0∨p.1.Kind=1∨p.1.Kind=2∨p.1.Kind=3):∀ o∈(Vq l s p).out,o.Kind=3→Q o.E∧Zao l o.E=false:=fun o ho h3=>by
 unfold Vq at ho
 split at ho
 ·exact hs o ho h3
 split at ho
 ·exact hs o ho h3
 split at ho
 ·exact hs o (Zpe (Z3a ho h3) h3) h3
 split at ho
 ·exact hs o (Zpe (Z3a ho h3) h3) h3
 rename_i hi
 rcases List.mem_append.1 ho with ho | ho
 ·exact hs o (Zpe ho h3) h3
 rw [List.mem_singleton.1 ho];exact ⟨hp (by omega),by simpa using hi⟩
theorem Z6r {Q:Ed→Prop} {l:Int}:∀ (ps:List (EO×Ed)) (s:NW),(∀ o∈s.out,o.Kind=3→Q o.E∧Zao l o.E=false)→(∀ p∈ps,(p.1.Kind=3→Q p.2)∧(p.1.Kind=0∨p.1.Kind=1∨p.1.Kind=2∨p.1.Kind=3))→∀ o∈(ps.foldl (Vq l) s).out,o.Kind=3→Q o.E∧Zao l o.E=false
 | [],s,hs,_=>hs
 | p::ps,s,hs,hp=>Z6r ps _ (Ygo hs (hp p (.head _)).1 (hp p (.head _)).2) fun q hq=>hp q (.tail _ hq)
theorem Ydv {Q:Ed→Prop} {l:Int} {os:List EO} (h:∀ o∈os,opk o∧(o.Kind=3→Q (nE o.E))):∀ o∈Zbi l (Xm os),o.Kind=3→Q o.E∧Zao l o.E=false:=fun o ho h3=>by
 unfold Zbi at ho
 refine Z6r (Q:=Q) _ s0N (fun x hx=>by cases hx) (fun p hp => ?_) o (Zpe ho h3) h3
 obtain ⟨x,hx,rfl⟩:=List.mem_map.1 hp
 refine ⟨(h x hx).2,?_⟩
 show x.Kind=0∨x.Kind=1∨x.Kind=2∨x.Kind=3
 rcases (h x hx).1 with ⟨q,_⟩ | ⟨q,_⟩ | ⟨q,_⟩ | q <;> omega
theorem Yhg {e:Ed} {d:Nat} (hb:BE e) (hr:rE e d=true) (h3:e.Kind=3) (h:lgt e=true):oS e.Ops≤2000∧wS e.Ops≤2000:=by
 have hl:∀ o∈e.Ops,o.L.length * 56≤140737488355328:=fun o ho=>(hb.l o ho).1
 rw [Ze4] at hr
 by_cases hd:d=0
 ·rw [if_pos hd] at hr;cases hr
 rw [if_neg hd,if_neg (by omega),if_neg (by omega),if_neg (by omega),if_pos h3,Bool.and_eq_true,Bool.and_eq_true (_ && _),Bool.and_eq_true (List.all _ _),List.all_eq_true] at hr
 obtain ⟨_,_,hk,hB⟩:=hr
 have h0:Sm (0,0):=by unfold Sm;simp
 have hS:=(Zu1 (fun o=>rE o.E (d - 1)) hk hl).1 hB
 rw [Z4x,(Zmu (fun o=>rE o.E (d - 1)) e.Ops (0,0) h0 hk hl).1,Ztg (fun o=>rE o.E (d - 1)) e.Ops (0,0) h0 hk hl] at h
 simp only [Bool.and_eq_true,Bool.not_eq_true',Bool.or_eq_false_iff,decide_eq_false_iff_not,Int.zero_add] at h
 unfold Zej at h
 rw [if_neg (by omega),if_neg (by omega)] at h
 omega
theorem Yh9 {d:Nat} (hd:¬ d=0):PX d eS0 := .mk d _ Zuh Zuu (Yfe hd) (by rw [Up,if_neg (by decide),if_neg (by decide),if_neg (by decide)]) ⟨by simp [eS0,oS],by simp [eS0,wS]⟩ (fun k h=>by cases h) (fun o h=>by cases h) (fun o h=>by cases h) (fun o h=>by cases h)
theorem Yba:∀ (n:Nat) (e:Ed) (d:Nat),SizeOf.sizeOf e < n→BE e→GN e→rE e d=true→lgt e=true→PX d (nE e)
 | 0,_,_,h,_,_,_,_=>by omega
 | n+1,e,d,hn,hb,hg,h,hlt=>by
  have hB:=hb.nE hg
  have hG:=GN.nE hb hg
  have hR:=Z7h _ e d (Nat.lt_succ_self _) hb hg h
  have hN:=Yan e
  have hlt':=hlt
  rw [Z4x] at hlt'
  simp only [Bool.and_eq_true,List.all_eq_true] at hlt'
  have h':=h
  rw [Ze4] at h
  rw [Up e] at hB hG hR hN ⊢
  by_cases hd:d=0
  ·rw [if_pos hd] at h;cases h
  rw [if_neg hd] at h
  by_cases h0:e.Kind=0
  ·rw [if_neg (by omega),if_neg (by omega),if_neg (by omega)]
   exact Yh9 hd
  rw [if_neg h0] at h
  by_cases h1:e.Kind=1
  ·rw [if_pos h1] at hB hG hR hN ⊢
   exact .mk d _ hB hG hR hN ⟨by simp [oS],by simp [wS]⟩ (fun k h=>by cases h) (fun o h=>by cases h) (fun o h=>by cases h) (fun o h=>by cases h)
  rw [if_neg h1] at h hB hG hR hN ⊢
  by_cases h2:e.Kind=2
  ·rw [if_pos h2] at h hB hG hR hN ⊢
   simp only [Bool.and_eq_true] at h
   refine .mk d _ hB hG hR hN ⟨by simp [oS],by simp [wS]⟩ (fun k hk => ?_) (fun o h=>by cases h) (fun o h=>by cases h) (fun o h=>by cases h)
   obtain ⟨x,hx,rfl⟩:=List.mem_map.1 hk
   refine Yba n x.E (d - 1) (by have:=Qq hx;omega) (hb.ks x hx) (hg.ks x hx) ?_ (hlt'.2.1 x hx)
   exact Ztf (Q:=fun k:Zm=>rE k.E (d - 1)=true) (fun p x hx=>by
     unfold okK okP at hx
     simp only [Bool.and_eq_true] at hx
     exact hx.2.2) e.Kids (-1) h.2.2 x hx
  rw [if_neg h2] at h hB hG hR hN ⊢
  by_cases h3:e.Kind=3
  ·rw [if_pos h3] at h hB hG hR hN ⊢
   rw [Bool.and_eq_true,Bool.and_eq_true (_ && _),Ya0 (fun o ho=>(hb.l o ho).1)] at h
   obtain ⟨f1,f2,f3⟩:=RW.fold (l:=e.List_) (d:=d - 1) e.Ops s0N ⟨by simp [s0N],by simp [s0N],by simp [s0N]⟩ fun o ho=>⟨h.2.2.1 o ho,fun k=>by
    rcases h.2.2.1 o ho with ⟨k',_⟩ | ⟨k',_⟩ | ⟨_,_,_,_,_,h5⟩
    ·omega
    ·omega
    exact Z7h _ o.E (d - 1) (Nat.lt_succ_self _) (hb.os o ho) (hg.os o ho) h5⟩
   have z:oS s0N.flush=0∧wS s0N.flush=0:=⟨rfl,rfl⟩
   have hS:=Yhg hb h' h3 hlt
   have hk3:=Ydv (Q:=PX (d - 1)) (l:=e.List_) (os:=e.Ops) fun o ho=>⟨hg.p o ho,fun k3=>by
    rcases h.2.2.1 o ho with ⟨k',_⟩ | ⟨k',_⟩ | ⟨_,_,_,_,_,h5⟩
    ·omega
    ·omega
    exact Yba n o.E (d - 1) (by have:=Kl ho;omega) (hb.os o ho) (hg.os o ho) h5 (hlt'.2.2 o ho)⟩
   refine .mk d _ hB hG hR hN ?_ (fun k h=>by cases h) (fun o ho k=>(hk3 o ho k).1) (fun o ho k=>(hk3 o ho k).2) Ydw
   show oS (Zbi e.List_ (Xm e.Ops))≤2000∧wS (Zbi e.List_ (Xm e.Ops))≤2000
   unfold Zbi
   rw [f2,f3]
   omega
  rw [if_neg h3] at h;cases h
theorem PX.k1 {d:Nat} {e:Ed} (h:PX d e) (k:e.Kind=1):e.Words=[]∧e.Kids=[]∧e.Ops=[]:=by
 have n:=h.n
 rw [Up,if_pos k] at n
 exact ⟨(congrArg Zc.Words n).symm,(congrArg Zc.Kids n).symm,(congrArg Zc.Ops n).symm⟩
theorem PX.k2 {d:Nat} {e:Ed} (h:PX d e) (k:e.Kind=2):e.Ops=[]:=by
 have n:=h.n
 rw [Up,if_neg (by omega),if_pos k] at n
 exact (congrArg Zc.Ops n).symm
theorem PX.k3 {d:Nat} {e:Ed} (h:PX d e) (k:e.Kind=3):e.Words=[]∧e.Kids=[]:=by
 have n:=h.n
 rw [Up,if_neg (by omega),if_neg (by omega),if_pos k] at n
 exact ⟨(congrArg Zc.Words n).symm,(congrArg Zc.Kids n).symm⟩
theorem PX.kd {d:Nat} {e:Ed} (h:PX d e):e.Kind=0∨e.Kind=1∨e.Kind=2∨e.Kind=3:=by
 by_cases h1:e.Kind=1
 ·exact .inr (.inl h1)
 by_cases h2:e.Kind=2
 ·exact .inr (.inr (.inl h2))
 by_cases h3:e.Kind=3
 ·exact .inr (.inr (.inr h3))
 have n:=h.n
 rw [Up,if_neg h1,if_neg h2,if_neg h3] at n
 exact .inl (congrArg Zc.Kind n).symm
theorem PX.d0 {d:Nat} {e:Ed} (h:PX d e):¬ d=0:=fun hd=>by
 have:=h.r
 rw [Ze4,if_pos hd] at this
 cases this
theorem Yab (a:Nat):oS (kpN a)=a∧wS (kpN a)=a∧J3 (kpN a)=a∧(kpN a).length≤1:=by
 unfold kpN
 split
 ·rename_i h;subst h;exact ⟨rfl,rfl,rfl,Nat.zero_le _⟩
 simp [oS,wS,J3,oN,wN,G5]
theorem Yaa {a:Nat} {o:EO} (h:o∈kpN a):o=⟨0,(a:Int),[],eS0⟩∧1≤a:=by
 unfold kpN at h
 split at h
 ·cases h
 exact ⟨List.mem_singleton.1 h,by omega⟩
structure XO (l:Int) (d:Nat) (x:EO):Prop where
 q:okQ l d x
 m:x.L.length * 56≤140737488355328∧∀ t∈x.L,Bd t
 b:BE x.E
 g:GN x.E
 n:(∀ t∈x.L,nrm t=t)∧(x.Kind=3→nE x.E=x.E∧Zao l x.E=false)
theorem Yd1 {l:Int} {d:Nat} {x:EO} (h:okQ l d x):opk x:=by
 rcases h with ⟨k,h1,_⟩ | ⟨k,_,h2,_⟩ | ⟨k,_⟩
 ·exact .inl ⟨k,h1⟩
 ·rcases k with k | k
  ·exact .inr (.inl ⟨k,h2⟩)
  exact .inr (.inr (.inl ⟨k,h2⟩))
 exact .inr (.inr (.inr k))
theorem Zug {l:Int} {a b:Nat} {x o:EO} (h:o∈(arE l a x b).Ops):(o=⟨0,o.N,[],eS0⟩∧1≤o.N)∨o=x:=by
 have h':o∈kpN a++[x]++kpN b:=h
 rcases List.mem_append.1 h' with h | h
 ·rcases List.mem_append.1 h with h | h
  ·obtain ⟨e,h1⟩:=Yaa h
   rw [e];exact .inl ⟨rfl,by simp only;omega⟩
  exact .inr (List.mem_singleton.1 h)
 obtain ⟨e,h1⟩:=Yaa h
 rw [e];exact .inl ⟨rfl,by simp only;omega⟩
theorem Z9j (l:Int) (a b:Nat) (x:EO):oS (arE l a x b).Ops=a+oN x+b∧wS (arE l a x b).Ops=a+wN x+b∧J3 (arE l a x b).Ops=a+G5 x+b∧(arE l a x b).Ops.length≤3:=by
 obtain ⟨a1,a2,a3,a4⟩:=Yab a
 obtain ⟨b1,b2,b3,b4⟩:=Yab b
 show oS (kpN a++[x]++kpN b)=_∧wS (kpN a++[x]++kpN b)=_∧J3 (kpN a++[x]++kpN b)=_∧(kpN a++[x]++kpN b).length≤3
 rw [Zkw,Zkw,Zk6,Zk6,Zhn,Zhn,a1,a2,a3,b1,b2,b3]
 refine ⟨by simp [oS],by simp [wS],by simp [J3],?_⟩
 simp only [List.length_append,List.length_singleton]
 omega
theorem Z6d {l:Int} {d:Nat} {a b:Nat} {x:EO} (hx:XO l d x) (h:a+G5 x+b≤1000000):BE (arE l a x b)∧GN (arE l a x b):=by
 obtain ⟨s1,s2,s3,s4⟩:=Z9j l a b x
 refine ⟨.mk _ Zg4 Zg4 (by simp [arE]) (by simp [arE]) (by simp [arE]) (by simp [arE]) (by omega) (fun o ho => ?_) (fun o ho => ?_),.mk _ (by simp [arE]) (by simp [arE]) (by omega) (by omega) (fun o ho => ?_) (by simp [arE]) (fun o ho => ?_)⟩
 ·rcases Zug ho with ⟨e,_⟩ | e
  ·rw [e];exact ⟨by simp,by simp⟩
  rw [e];exact hx.m
 ·rcases Zug ho with ⟨e,_⟩ | e
  ·rw [e];exact Zuh
  rw [e];exact hx.b
 ·rcases Zug ho with ⟨e,h1⟩ | e
  ·rw [e];exact .inl ⟨rfl,h1⟩
  rw [e];exact Yd1 hx.q
 rcases Zug ho with ⟨e,_⟩ | e
 ·rw [e];exact Zuu
 rw [e];exact hx.g
theorem Z9i {l:Int} {d:Nat} {a b:Nat} {x:EO} (hl:2≤l∧l≤9) (hd:¬ d=0) (hx:XO l (d - 1) x) (h:a+G5 x+b≤1000000):rE (arE l a x b) d=true:=by
 obtain ⟨s1,s2,s3,s4⟩:=Z9j l a b x
 have hb:=(Z6d hx h).1
 have o1:oN x≤G5 x:=by unfold oN;split <;> omega
 have o2:wN x≤G5 x:=by unfold wN;split <;> omega
 rw [Ze4,if_neg hd,if_neg (show ¬ (arE l a x b).Kind=0 from (by decide:¬ (3:Int)=0)),if_neg (show ¬ (arE l a x b).Kind=1 from (by decide:¬ (3:Int)=1)),if_neg (show ¬ (arE l a x b).Kind=2 from (by decide:¬ (3:Int)=2)),if_pos (show (arE l a x b).Kind=3 from rfl)]
 rw [Bool.and_eq_true,Bool.and_eq_true (_ && _),Ya0 (fun o ho=>(hb.l o ho).1)]
 refine ⟨rfl,?_,fun o ho => ?_,by omega,by omega⟩
 ·show (decide (2≤l) && decide (l≤9))=true
  rw [decide_eq_true hl.1,decide_eq_true hl.2];rfl
 rcases Zug ho with ⟨e,h1⟩ | e
 ·rw [e];exact .inl ⟨rfl,h1,rfl,rfl⟩
 rw [e];exact hx.q
theorem Yg4 {l:Int} {d:Nat} {a b:Nat} {x:EO} (hx:XO l d x) (h0:x.Kind≠0):nE (arE l a x b)=arE l a x b:=by
 have key:Zbi l (Xm (kpN a++[x]++kpN b))=kpN a++[x]++kpN b:=by
  obtain ⟨k,N,L,E⟩:=x
  have hm:L.map nrm=L:=by
   have:=hx.n.1
   simp only at this
   exact (List.map_congr_left this).trans (List.map_id L)
  rcases hx.q with ⟨k',_⟩ | ⟨k',h1,h2,_,h4⟩ | ⟨k',h1,h2,_⟩
  ·exact absurd k' h0
  ·simp only at k' h1 h2 h4
   subst h1 h4
   rcases k' with rfl | rfl
   ·by_cases ha:a=0 <;> by_cases hb:b=0 <;> simp [Zbi,Xm,kpN,ha,hb,Vq,s0N,hm,NW.flush,Gf,Zad,Q5,h2]
   by_cases ha:a=0 <;> by_cases hb:b=0 <;> simp [Zbi,Xm,kpN,ha,hb,Vq,s0N,hm,NW.flush,Gf,Zad,Q5,h2]
  obtain ⟨g1,g2⟩:=hx.n.2 k'
  simp only at k' h1 h2 g1 g2
  subst k' h1 h2
  by_cases ha:a=0 <;> by_cases hb:b=0 <;> simp [Zbi,Xm,kpN,ha,hb,Vq,s0N,NW.flush,Gf,Zad,Q5,g1,g2]
 rw [Up,if_neg (show ¬ (arE l a x b).Kind=1 from (by decide:¬ (3:Int)=1)),if_neg (show ¬ (arE l a x b).Kind=2 from (by decide:¬ (3:Int)=2)),if_pos (show (arE l a x b).Kind=3 from rfl)]
 show (⟨3,Qt,Qt,[],[],l,Zbi l (Xm (kpN a++[x]++kpN b))⟩:Ed)=_
 rw [key]
 rfl
structure GP (d:Nat) (e p:Ed):Prop where
 b:BE p
 g:GN p
 r:rE p d=true
 n:nE p=p
 k:p.Kind=e.Kind
 o:e.Kind=1→p=e
 w:p=e∨p.Kind≠2∨p.Words≠[]∨p.Kids≠[]
theorem Zyg {α:Type} {pl:α→Int} {ok:Int→α→Bool} (h:∀ p x,-1≤p→ok p x=true→ok (-1) x=true∧-1≤pl x):∀ (xs:List α) (p:Int),-1≤p→chk pl ok p xs=true→∀ x∈xs,ok (-1) x=true
 | [],_,_,_=>fun x hx=>by cases hx
 | y::xs,p,hp,hc=>fun x hx=>by
  rw [chk,Bool.and_eq_true] at hc
  obtain ⟨h1,h2⟩:=h p y hp hc.1
  rcases List.mem_cons.1 hx with rfl | hx
  ·exact h1
  exact Zyg h xs (pl y) h2 hc.2 x hx
theorem Yd2 (p:Int) (w:Zr) (hp:-1≤p) (h:okW p w=true):okW (-1) w=true∧-1≤w.At:=by
 unfold okW at h ⊢
 simp only [Bool.not_eq_true',Bool.or_eq_false_iff,decide_eq_false_iff_not] at h ⊢
 exact ⟨⟨⟨⟨⟨by omega,h.1.1.1.2⟩,h.1.1.2⟩,h.1.2⟩,h.2⟩,by omega⟩
theorem Yd0 (d:Nat) (p:Int) (k:Zm) (hp:-1≤p) (h:okK d p k=true):okK d (-1) k=true∧-1≤k.At:=by
 unfold okK okP at h ⊢
 simp only [Bool.and_eq_true,Bool.not_eq_true',Bool.or_eq_false_iff,decide_eq_false_iff_not] at h ⊢
 exact ⟨⟨⟨by omega,h.1.2⟩,h.2⟩,by omega⟩
theorem Zpx {l:Int} {p:Ed}:∀ (os:List (EO×List EO)) (a:Nat),p∈Zgn l a os→∃ pre q post x,os=pre++q::post∧x∈q.2∧p=arE l (a+wS (pre.map (·.1))) x (oS (post.map (·.1)))
 | [],_,h=>by cases h
 | q::os,a,h=>by
  rcases List.mem_append.1 h with h | h
  ·obtain ⟨x,hx,rfl⟩:=List.mem_map.1 h
   exact ⟨[],q,os,x,rfl,hx,by simp [wS]⟩
  obtain ⟨pre,q',post,x,e1,e2,e3⟩:=Zpx os (a+wN q.1) h
  refine ⟨q::pre,q',post,x,by rw [e1];rfl,e2,?_⟩
  rw [e3]
  congr 1
  simp only [wS,List.map_cons,List.sum_cons]
  omega
theorem Z6z {f:Zm→List Ed} {ks:List Zm} {p:Ed} (h:p∈kdP ks f):∃ k∈ks,∃ x∈f k,p=kPt k.At x:=by
 unfold kdP at h
 obtain ⟨l,hl,hp⟩:=List.mem_flatten.1 h
 obtain ⟨k,hk,rfl⟩:=List.mem_map.1 hl
 obtain ⟨x,hx,rfl⟩:=List.mem_map.1 hp
 exact ⟨k,hk,x,hx,rfl⟩
theorem Z8n {l:Int} {d:Nat} {e p:Ed} (h:GP d e p) (hi:Zao l e=false):Zao l p=false:=by
 rcases h.w with rfl | w
 ·exact hi
 unfold Zao at hi ⊢
 rw [Bool.or_eq_false_iff] at hi ⊢
 refine ⟨by rw [h.k];exact hi.1,?_⟩
 rcases w with w | w | w
 ·rw [beq_eq_false_iff_ne.2 w];simp
 ·have:(p.Words.length == 0)=false:=by rw [beq_eq_false_iff_ne];intro q;exact w (List.eq_nil_of_length_eq_zero q)
  rw [this];simp
 have:(p.Kids.length == 0)=false:=by rw [beq_eq_false_iff_ne];intro q;exact w (List.eq_nil_of_length_eq_zero q)
 rw [this];simp
theorem Z8d {l:Int} {d:Nat} {e p:Ed} (h:GP d e p) (hd:Zpb l e=true):Zpb l p=true:=by
 by_cases h1:e.Kind=1
 ·rw [h.o h1];exact hd
 unfold Zpb at hd ⊢
 rw [h.k]
 split
 ·rename_i q;rw [if_pos q] at hd;exact hd
 rename_i q
 rw [if_neg q] at hd
 split
 ·rename_i q2
  rw [if_pos q2,beq_eq_false_iff_ne.2 h1] at hd
  simp only [Bool.false_and,Bool.or_false] at hd
  rw [hd];rfl
 rename_i q2;rw [if_neg q2] at hd;exact hd
theorem Ygw {d:Nat} {e:Ed} (h:PX d e) (k2:e.Kind=2) {w:Zr} (hw:w∈e.Words):GP d e (wPt w):=by
 have hr:=h.r
 have hd:=h.d0
 rw [Ze4,if_neg hd,if_neg (by omega),if_neg (by omega),if_pos k2,Bool.and_eq_true,Bool.and_eq_true (chk _ _ _ _)] at hr
 have ho:=Zyg Yd2 e.Words (-1) (by omega) hr.2.1 w hw
 refine ⟨.mk _ Zg4 Zg4 (by simp [wPt]) (fun x hx=>by rw [List.mem_singleton.1 hx];exact h.b.ws w hw) (by simp [wPt]) (by simp [wPt]) (by simp [wPt]) (by simp [wPt]) (by simp [wPt]),.mk _ (by simp [wPt]) (by simp [wPt]) (by simp [wPt]) (by simp [wPt,J3]) (by simp [wPt]) (by simp [wPt]) (by simp [wPt]),?_,?_,k2.symm,fun h1=>by omega,.inr (.inr (.inl (by simp [wPt])))⟩
 ·rw [Ze4,if_neg hd,if_neg (show ¬ (wPt w).Kind=0 from (by decide:¬ (2:Int)=0)),if_neg (show ¬ (wPt w).Kind=1 from (by decide:¬ (2:Int)=1)),if_pos (show (wPt w).Kind=2 from rfl)]
  show (_ && (chk (·.At) okW (-1) [w] && chk (·.At) (okK (d - 1)) (-1) []))=true
  rw [chk,chk,chk,ho]
  rfl
 rw [Up,if_neg (show ¬ (wPt w).Kind=1 from (by decide:¬ (2:Int)=1)),if_pos (show (wPt w).Kind=2 from rfl)]
 rfl
theorem Yga {d:Nat} {e:Ed} (h:PX d e) (k2:e.Kind=2) {k:Zm} (hk:k∈e.Kids) {x:Ed} (hx:GP (d - 1) k.E x):GP d e (kPt k.At x):=by
 have hr:=h.r
 have hd:=h.d0
 rw [Ze4,if_neg hd,if_neg (by omega),if_neg (by omega),if_pos k2,Bool.and_eq_true,Bool.and_eq_true (chk _ _ _ _)] at hr
 have ho:=Zyg (Yd0 (d - 1)) e.Kids (-1) (by omega) hr.2.2 k hk
 unfold okK okP at ho
 rw [Bool.and_eq_true,Bool.and_eq_true] at ho
 refine ⟨.mk _ Zg4 Zg4 (by simp [kPt]) (by simp [kPt]) (by simp [kPt]) (fun y hy=>by rw [List.mem_singleton.1 hy];exact hx.b) (by simp [kPt]) (by simp [kPt]) (by simp [kPt]),.mk _ (by simp [kPt]) (by simp [kPt]) (by simp [kPt]) (by simp [kPt,J3]) (by simp [kPt]) (fun y hy=>by rw [List.mem_singleton.1 hy];exact hx.g) (by simp [kPt]),?_,?_,k2.symm,fun h1=>by omega,.inr (.inr (.inr (by simp [kPt])))⟩
 ·rw [Ze4,if_neg hd,if_neg (show ¬ (kPt k.At x).Kind=0 from (by decide:¬ (2:Int)=0)),if_neg (show ¬ (kPt k.At x).Kind=1 from (by decide:¬ (2:Int)=1)),if_pos (show (kPt k.At x).Kind=2 from rfl)]
  show (_ && (chk (·.At) okW (-1) [] && chk (·.At) (okK (d - 1)) (-1) [(⟨k.At,x⟩:Zm)]))=true
  have e1:okK (d - 1) (-1) (⟨k.At,x⟩:Zm)=true:=by
   unfold okK okP
   simp only
   rw [hx.k,hx.r,Bool.and_true,Bool.and_eq_true]
   exact ⟨ho.1,ho.2.1⟩
  rw [chk,chk,chk,e1]
  rfl
 rw [Up,if_neg (show ¬ (kPt k.At x).Kind=1 from (by decide:¬ (2:Int)=1)),if_pos (show (kPt k.At x).Kind=2 from rfl)]
 show (⟨2,Qt,Qt,[],[⟨k.At,nE x⟩],0,[]⟩:Ed)=_
 rw [hx.n]
 rfl
theorem PX.self {d:Nat} {e:Ed} (h:PX d e):GP d e e:=⟨h.b,h.g,h.r,h.n,rfl,fun _=>rfl,.inl rfl⟩
theorem PX.lst {d:Nat} {e:Ed} (h:PX d e) (k3:e.Kind=3):(2≤e.List_∧e.List_≤9)∧∀ o∈e.Ops,okQ e.List_ (d - 1) o:=by
 have hr:=h.r
 have hd:=h.d0
 rw [Ze4,if_neg hd,if_neg (by omega),if_neg (by omega),if_neg (by omega),if_pos k3,Bool.and_eq_true,Bool.and_eq_true (_ && _),Bool.and_eq_true (decide _),decide_eq_true_eq,decide_eq_true_eq,Ya0 (fun o ho=>(h.b.l o ho).1)] at hr
 exact ⟨hr.2.1,hr.2.2.1⟩
theorem Zy7:∀ (n:Nat) (e:Ed) (d:Nat),SizeOf.sizeOf e < n→PX d e→∀ p∈sp e,GP d e p
 | 0,_,_,h,_=>by omega
 | n+1,e,d,hn,h=>fun p hp=>by
  rw [Z7p] at hp
  split at hp
  ·cases hp
  rename_i h0
  unfold orS at hp
  split at hp
  ·rw [List.mem_singleton.1 hp];exact h.self
  unfold spA at hp
  rcases List.mem_append.1 hp with hp | hp
  ·rcases List.mem_append.1 hp with hp | hp
   ·obtain ⟨w,hw,rfl⟩:=List.mem_map.1 hp
    rcases h.kd with k | k | k | k
    ·exact absurd k h0
    ·rw [(h.k1 k).1] at hw;cases hw
    ·exact Ygw h k hw
    rw [(h.k3 k).1] at hw;cases hw
   obtain ⟨k,hk,x,hx,rfl⟩:=Z6z hp
   rcases h.kd with k' | k' | k' | k'
   ·exact absurd k' h0
   ·rw [(h.k1 k').2.1] at hk;cases hk
   ·exact Yga h k' hk (Zy7 n k.E (d - 1) (by have:=Qq hk;omega) (h.ks k hk) x hx)
   rw [(h.k3 k').2] at hk;cases hk
  obtain ⟨pre,q,post,x,e1,e2,e3⟩:=Zpx _ _ hp
  have ef:=Ycq e.Ops
  rw [e1,List.map_append,List.map_cons] at ef
  have hq:q∈wO e.Ops:=by rw [e1];simp
  obtain ⟨o,ho,rfl⟩:=List.mem_map.1 hq
  have k3:e.Kind=3:=by
   rcases h.kd with k | k | k | k
   ·exact absurd k h0
   ·rw [(h.k1 k).2.2] at ho;cases ho
   ·rw [h.k2 k] at ho;cases ho
   exact k
  obtain ⟨hl,hok⟩:=h.lst k3
  have hs:=h.l
  rw [← ef,Zkw,Zk6] at hs
  simp only [oS,wS,List.map_cons,List.sum_cons] at hs
  have hX:XO e.List_ (d - 1) x∧x.Kind≠0∧G5 x≤4000:=by
   have hoq:=hok o ho
   unfold fO at e2
   split at e2
   ·rename_i k12
    rw [List.mem_singleton.1 e2]
    refine ⟨⟨hoq,h.b.l o ho,h.b.os o ho,h.g.os o ho,h.ln o ho,fun k=>by omega⟩,by omega,?_⟩
    rcases k12 with k | k
    ·have:oN o=G5 o:=by unfold oN;rw [if_neg (by omega)]
     omega
    have:wN o=G5 o:=by unfold wN;rw [if_neg (by omega)]
    omega
   split at e2
   ·rename_i k12 k
    obtain ⟨y,hy,rfl⟩:=List.mem_map.1 e2
    have gy:=Zy7 n o.E (d - 1) (by have:=Kl ho;omega) (h.os o ho k) y hy
    rcases hoq with ⟨k',_⟩ | ⟨k',_⟩ | ⟨_,_,_,q1,q2,q3⟩
    ·omega
    ·omega
    refine ⟨⟨.inr (.inr ⟨rfl,rfl,rfl,by rw [gy.k];exact q1,Z8d gy q2,gy.r⟩),⟨by simp,by simp⟩,gy.b,gy.g,by simp,fun _=>⟨gy.n,Z8n gy (h.id o ho k)⟩⟩,by simp,by simp [G5]⟩
   cases e2
  obtain ⟨x1,x2,x3⟩:=hX
  have hsum:0+wS (pre.map (·.1))+G5 x+oS (post.map (·.1))≤1000000:=by
   unfold wS oS
   omega
  rw [e3]
  obtain ⟨g1,g2⟩:=Z6d x1 hsum
  exact ⟨g1,g2,Z9i hl h.d0 x1 hsum,Yg4 x1 x2,k3.symm,fun k=>by omega,.inr (.inl (by simp [arE]))⟩
theorem Zth {α σ τ ρ:Type} (xs:List α) (emb:Nat→σ→τ) (R:σ→List α→ρ) (P:σ→List α→Prop) (B:τ→Option (τ ⊕ ρ))
  (hstep:∀ (s:σ) (i:Nat) (x:α) (ys:List α),xs.drop i=x::ys→i < xs.length→xs[i]? = some x→x∈xs→P s (x::ys)→∃ s',B (emb i s)=some (.inl (emb (i+1) s'))∧P s' ys∧R s (x::ys)=R s' ys)
  (hend:∀ s,P s []→B (emb xs.length s)=some (.inr (R s []))):∀ (ys:List α) (i:Nat) (s:σ),xs.drop i=ys→i≤xs.length→P s ys→Zw B (emb i s)=some (R s ys)
 | [],i,s,hd,hi,hp=>by
  have:i=xs.length:=by have:=List.drop_eq_nil_iff.1 hd;omega
  subst this
  exact Yg (hend s hp)
 | x::ys,i,s,hd,hi,hp=>by
  have hil:i < xs.length:=by
   rcases Nat.lt_or_ge i xs.length with h | h
   ·exact h
   rw [List.drop_eq_nil_of_le h] at hd;cases hd
  have e:=List.drop_eq_getElem_cons hil
  rw [hd] at e
  injection e with e1 e2
  have hx:xs[i]? = some x:=by rw [List.getElem?_eq_getElem hil,e1]
  obtain ⟨s',h1,h2,h3⟩:=hstep s i x ys hd hil hx (List.mem_of_getElem? hx) hp
  rw [Yw h1,h3]
  exact Zth xs emb R P B hstep hend ys (i+1) s' e2.symm hil h2
theorem i1 {i n:Nat} (h:i < n) (hn:n≤1000000000):IntKind.i64.wrap ((i:Int)+1)=((i+1:Nat):Int):=by
 rw [Uh (by omega) (by omega)]
 rfl
theorem ap1 {α:Type} {b:Nat} {xs:List α} (x:α) (h:xs.length≤2000000) (hb:b≤1000):Gc b xs [x]=some (xs++[x]):=by
 have:(xs.length+1) * b≤2000001 * 1000:=Nat.mul_le_mul (by omega) hb
 exact Ga (by simp only [List.length_singleton];omega) (by simp only [List.length_singleton];omega)
theorem Yg3 (ops:List EO) (n:Nat) (h:ops.length≤2000000):Va ops (n:Int)=some (ops++kpN n):=by
 unfold Va kpN
 by_cases h0:n=0
 ·subst h0
  rw [if_pos rfl,List.append_nil]
  rfl
 rw [decide_eq_false (by omega),cond_false,ap1 _ h (by omega),Option.bind_some,if_neg h0]
 rfl
theorem Ye9 (o:EO) (a b:Nat) (out:List Ed) (e:Ed) (h:out.length≤1000000):Vb o (a:Int) out e (b:Int)=some ((a:Int),out++[arE e.List_ a o b],e,(b:Int)):=by
 obtain ⟨_,_,_,k1⟩:=Yab a
 unfold Vb
 rw [Yg3 [] a (by simp),Option.bind_some,List.nil_append,ap1 o (by omega) (by omega),Option.bind_some,Yg3 _ b (by simp only [List.length_append,List.length_singleton];omega),Option.bind_some,ap1 _ (by omega) (by omega),Option.bind_some]
 rfl
section
variable {e:Ed}
abbrev T14:=Int×Int×List Int×List Tr×Int×List Int×List Tr×List Zr×List Zm×Int×List EO×Int×Int×List Ed
def Zp8 (e:Ed) (a b:Nat) (out:List Ed):T14:=(e.Kind,e.Old.Kind,e.Old.Words,e.Old.Kids,e.New.Kind,e.New.Words,e.New.Kids,e.Words,e.Kids,e.List_,e.Ops,(a:Int),(b:Int),out)
theorem Yjq (e:Ed) (a b:Nat) (l:List Ed) (out:List Ed) (h:out.length+l.length≤1000000):Zw (Vt l) ((0:Int),Zp8 e a b out)=some (Zp8 e a b (out++l.map fun x=>arE e.List_ a ⟨3,0,[],x⟩ b)):=by
 refine Zth l (fun i out=>((i:Int),Zp8 e a b out)) (fun out ys=>Zp8 e a b (out++ys.map fun x=>arE e.List_ a ⟨3,0,[],x⟩ b)) (fun out ys=>out.length+ys.length≤1000000) (Vt l) (fun s i x ys hd hi hx hm hp => ?_) (fun s hp => ?_) l 0 out rfl (Nat.zero_le _) h
 ·refine ⟨s++[arE e.List_ a ⟨3,0,[],x⟩ b],?_,by simp only [List.length_append,List.length_cons,List.length_nil] at hp ⊢;omega,by simp⟩
  have hl:=Ye9 ⟨3,0,[],x⟩ a b s e (by simp only [List.length_cons] at hp;omega)
  unfold Vt Zp8
  simp only
  rw [Gu hi,cond_true,Yt hx,Option.bind_some,Z4c]
  refine (congrArg (fun z=>Option.bind z _) hl).trans ?_
  rw [Option.bind_some,i1 hi (by omega)]
 unfold Vt Zp8
 simp only
 rw [Zcn,cond_false]
 simp
end
theorem Zr0 (l:Int) (a:Nat) (o:EO) (os:List EO):Zgn l a (wO (o::os))=(fO o (sp o.E)).map (fun x=>arE l a x (oS os))++Zgn l (a+wN o) (wO os):=by
 have:wO (o::os)=(o,fO o (sp o.E))::wO os:=rfl
 rw [this,Zgn,Ycq]
def nP (os:List EO):Nat:=(os.map fun o=>(fO o (sp o.E)).length).sum
theorem Ydy (o:EO) (os:List EO):nP (o::os)=(fO o (sp o.E)).length+nP os:=by simp [nP]
theorem Yhj {e:Ed}:nP e.Ops≤(spA e).length:=by
 unfold spA nP
 rw [List.length_append,Zvo]
 unfold wO
 rw [List.map_map]
 exact Nat.le_add_left _ _
theorem Yjp {e:Ed} {d:Nat} (h:PX d e) (k3:e.Kind=3) {F:Ed→Option (List Ed)} (hF:∀ o∈e.Ops,o.Kind=3→F o.E=some (sp o.E)) (hc:ce e≤500000):Zw (Vs F e) ((0:Int),Zp8 e 0 (oS e.Ops) [])=some (Zgn e.List_ 0 (wO e.Ops)):=by
 have hs:=h.l
 obtain ⟨hl,hok⟩:=h.lst k3
 have hn:=Yhj (e:=e)
 have hA:=Z7o e
 have hlen:e.Ops.length≤500000:=by rw [Zi8] at hc;omega
 have:=Zth e.Ops (fun i (s:Nat×Nat×List Ed)=>((i:Int),Zp8 e s.1 s.2.1 s.2.2)) (fun s ys=>s.2.2++Zgn e.List_ s.1 (wO ys)) (fun s ys=>s.2.1=oS ys∧s.1+wS ys≤2000∧oS ys≤2000∧s.2.2.length+nP ys≤500000) (Vs F e) (fun s i o ys hd hi hx hm hp => ?_) (fun s hp => ?_) e.Ops 0 (0,oS e.Ops,[]) rfl (Nat.zero_le _) ⟨rfl,by simp only;omega,hs.1,by simp only [List.length_nil];omega⟩
 ·rw [List.nil_append] at this
  exact this
 ·obtain ⟨a,b,out⟩:=s
  simp only at hp ⊢
  obtain ⟨p1,p2,p3,p4⟩:=hp
  have c1:oS (o::ys)=oN o+oS ys:=by simp [oS]
  have c2:wS (o::ys)=wN o+wS ys:=by simp [wS]
  rw [c1] at p1 p3
  rw [c2] at p2
  rw [Ydy] at p4
  subst p1
  have hq:=hok o hm
  have hbl:=h.b.l o hm
  refine ⟨(a+wN o,oS ys,out++(fO o (sp o.E)).map fun x=>arE e.List_ a x (oS ys)),?_,⟨rfl,by simp only;omega,by omega,by simp only [List.length_append,List.length_map];omega⟩,by rw [Zr0,List.append_assoc]⟩
  unfold Vs
  rw [show ((i:Int),Zp8 e a (oN o+oS ys) out).1=(i:Int) from rfl,Gu hi,cond_true,Yt hx,Option.bind_some]
  rcases hq with ⟨k,q1,_⟩ | ⟨k,_⟩ | ⟨k,_⟩
  ·have f0:fO o (sp o.E)=[]:=by unfold fO;rw [if_neg (by omega),if_neg (by omega)]
   have t0:G5 o=o.N.toNat:=by unfold G5;rw [if_pos k]
   have w0:wN o=o.N.toNat∧oN o=o.N.toNat:=by unfold wN oN;rw [if_neg (by omega),if_neg (by omega)];exact ⟨t0,t0⟩
   rw [show (o.Kind == 0)=true from beq_iff_eq.2 k,cond_true,f0,Option.bind_some]
   unfold Zp8
   simp only
   rw [i1 hi (by omega),Uh (x:=(a:Int)+o.N) (by omega) (by omega),Uh (x:=((oN o+oS ys:Nat):Int) - o.N) (by omega) (by omega)]
   have e1:(a:Int)+o.N=((a+wN o:Nat):Int):=by omega
   have e2:((oN o+oS ys:Nat):Int) - o.N=((oS ys:Nat):Int):=by omega
   rw [e1,e2]
   simp
  ·have f0:fO o (sp o.E)=[o]:=by unfold fO;rw [if_pos k]
   have t0:G5 o=o.L.length:=by unfold G5;rw [if_neg (by omega),if_neg (by omega)]
   have hlay:=Ye9 o a (oS ys) out e (by rw [f0] at p4;simp at p4;omega)
   rw [show (o.Kind == 0)=false from beq_eq_false_iff_ne.2 (by omega),cond_false,f0]
   rcases k with k | k
   ·have w0:wN o=0∧oN o=o.L.length:=by unfold wN oN;rw [if_pos k,if_neg (by omega)];exact ⟨rfl,t0⟩
    rw [show (o.Kind == 1)=true from beq_iff_eq.2 k,cond_true]
    unfold Zp8
    simp only
    have e2:IntKind.i64.wrap (((oN o+oS ys:Nat):Int) - (o.L.length:Int))=((oS ys:Nat):Int):=by rw [Uh (by omega) (by omega)];omega
    rw [Z4c,e2]
    refine (congrArg (fun z=>Option.bind (Option.bind z _) _) hlay).trans ?_
    rw [Option.bind_some,Option.bind_some,i1 hi (by omega),w0.1]
    rfl
   have w0:wN o=o.L.length∧oN o=0:=by unfold wN oN;rw [if_pos k,if_neg (by omega)];exact ⟨t0,rfl⟩
   rw [show (o.Kind == 1)=false from beq_eq_false_iff_ne.2 (by omega),show (o.Kind == 2)=true from beq_iff_eq.2 k,cond_false,cond_true]
   unfold Zp8
   simp only
   rw [Z4c,w0.2,Nat.zero_add]
   refine (congrArg (fun z=>Option.bind (Option.bind z _) _) hlay).trans ?_
   rw [Option.bind_some,Option.bind_some,i1 hi (by omega)]
   simp only
   have e1:IntKind.i64.wrap ((a:Int)+(o.L.length:Int))=((a+wN o:Nat):Int):=by rw [Uh (by omega) (by omega)];omega
   rw [e1]
   rfl
  have f0:fO o (sp o.E)=(sp o.E).map fun x=>⟨3,0,[],x⟩:=by unfold fO;rw [if_neg (by omega),if_pos k]
  have t0:G5 o=1:=by unfold G5;rw [if_neg (by omega),if_pos k]
  have w0:wN o=1∧oN o=1:=by unfold wN oN;rw [if_neg (by omega),if_neg (by omega)];exact ⟨t0,t0⟩
  rw [f0,List.length_map] at p4
  rw [show (o.Kind == 0)=false from beq_eq_false_iff_ne.2 (by omega),show (o.Kind == 1)=false from beq_eq_false_iff_ne.2 (by omega),show (o.Kind == 2)=false from beq_eq_false_iff_ne.2 (by omega),show (o.Kind == 3)=true from beq_iff_eq.2 k,cond_false,cond_false,cond_false,cond_true,hF o hm k,Option.bind_some,f0]
  have hL:=Yjq e a (oS ys) (sp o.E) out (by omega)
  unfold Zp8 at hL ⊢
  simp only
  have e2:IntKind.i64.wrap (((oN o+oS ys:Nat):Int) - 1)=((oS ys:Nat):Int):=by rw [Uh (by omega) (by omega)];omega
  rw [e2]
  refine (congrArg (fun z=>Option.bind (Option.bind z _) _) hL).trans ?_
  rw [Option.bind_some,Option.bind_some,i1 hi (by omega)]
  simp only
  have e1:IntKind.i64.wrap ((a:Int)+1)=((a+wN o:Nat):Int):=by rw [Uh (by omega) (by omega)];omega
  rw [e1,List.map_map]
  rfl
 obtain ⟨a,b,out⟩:=s
 unfold Vs Zp8
 simp only
 rw [Zcn,cond_false]
 simp [wO,Zgn]
theorem Ya5 (e:Ed) (l:List Ed):cond ((l.length:Int) == 0) (some [e]) (some l)=some (orS e l):=by
 unfold orS
 cases l with
 | nil=>rfl
 | cons x l =>
  rw [beq_eq_false_iff_ne.2 (by simp only [List.length_cons];omega),cond_false,if_neg (by simp)]
theorem Z98 (k:Zm) (ks:List Zm) (f:Zm→List Ed):kdP (k::ks) f=(f k).map (kPt k.At)++kdP ks f:=rfl
theorem ofS {e:Ed} (hg:GN e) {F F2 F3:Ed→Option (List Ed)} (hF:∀ k∈e.Kids,F k.E=some (sp k.E)) (hc:ce e≤500000):Us F F2 F3 e=some (e.Words.map wPt++kdP e.Kids fun k=>sp k.E):=by
 have hA:=Z7o e
 have hw:e.Words.length≤500000:=by rw [Zi8] at hc;omega
 have hkl:e.Kids.length≤1048576:=hg.k
 have hl:e.Words.length+(e.Kids.map fun k=>(sp k.E).length).sum≤500000:=by
  unfold spA at hA
  rw [List.length_append,List.length_append,List.length_map,Zzb] at hA
  omega
 have l0:Zw (Ua e) ((0:Int),([]:List Ed))=some ([]++e.Words.map wPt) :=
  Zpm e.Words wPt _ [] (by omega) (fun i x out hi hx hm ho=>by
   unfold Ua
   simp only
   simp only [List.length_nil] at ho
   rw [Gu hi,cond_true,Yt hx,Option.bind_some,ap1 _ (by omega) (by omega),Option.bind_some]
   rfl) (fun out=>by
   unfold Ua
   simp only
   rw [Zcn,cond_false])
 have l2:∀ (k:Zm) (y out:List Ed),out.length+y.length≤500000→Zw (Ub k y) ((0:Int),out)=some (out++y.map (kPt k.At)):=fun k y out hyo =>
  Zpm y (kPt k.At) _ out (by omega) (fun i x o hi hx hm ho=>by
   unfold Ub
   simp only
   rw [Gu hi,cond_true,Yt hx,Option.bind_some,ap1 _ (by omega) (by omega),Option.bind_some]
   rfl) (fun o=>by
   unfold Ub
   simp only
   rw [Zcn,cond_false])
 have l1:Zw (Kp F e) (((0:Nat):Int),e.Words.map wPt)=some (e.Words.map wPt++kdP e.Kids fun k=>sp k.E) :=
  Zth e.Kids (fun i s=>((i:Int),s)) (fun s ys=>s++kdP ys fun k=>sp k.E) (fun s ys=>s.length+(ys.map fun k=>(sp k.E).length).sum≤500000) (Kp F e) (fun s i x ys hd hi hx hm hp=>by
   simp only [List.map_cons,List.sum_cons] at hp
   refine ⟨s++(sp x.E).map (kPt x.At),?_,by simp only [List.length_append,List.length_map];omega,by rw [Z98,List.append_assoc]⟩
   unfold Kp
   simp only
   rw [Gu hi,cond_true,Yt hx,Option.bind_some,hF x hm,Option.bind_some,l2 x _ _ (by omega),Option.bind_some,i1 hi (by omega)]) (fun s hp=>by
   unfold Kp
   simp only
   rw [Zcn,cond_false]
   simp [kdP]) e.Kids 0 _ rfl (Nat.zero_le _) (by rw [List.length_map];exact hl)
 unfold Us
 rw [l0,Option.bind_some,List.nil_append]
 refine (congrArg (fun z=>Option.bind z _) l1).trans ?_
 rw [Option.bind_some]
theorem Yf0 {e:Ed} {k:Zm} (hk:k∈e.Kids):ce k.E≤ce e:=by
 have:=Zid (f:=fun k:Zm=>ce k.E) hk
 rw [Zi8 e]
 omega
theorem Yha {e:Ed} {o:EO} (ho:o∈e.Ops):ce o.E≤ce e:=by
 have:=Zid (f:=fun o:Zl=>ce o.E) ho
 rw [Zi8 e]
 omega
theorem Yhf {d:Nat} {e:Ed} (h:PX d e) (k3:e.Kind=3):∃ z,Vn e=some (((oS e.Ops:Nat):Int),z):=by
 have hl:∀ o∈e.Ops,o.L.length * 56≤140737488355328:=fun o ho=>(h.b.l o ho).1
 have hs:=h.l
 have hr:=h.r
 rw [Ze4,if_neg h.d0,if_neg (by omega),if_neg (by omega),if_neg (by omega),if_pos k3,Bool.and_eq_true,Bool.and_eq_true (_ && _),Bool.and_eq_true (List.all _ _),List.all_eq_true] at hr
 have h0:Sm (0,0):=by unfold Sm;simp
 have e1:=(Ydo h.b).1
 rw [Ztg (fun o=>rE o.E (d - 1)) e.Ops (0,0) h0 hr.2.2.1 hl] at e1
 have:Zej (0+((oS e.Ops:Nat):Int))=((oS e.Ops:Nat):Int):=by unfold Zej;rw [if_neg (by omega)];omega
 simp only at e1
 rw [this] at e1
 exact ⟨_,e1⟩
theorem Z27:∀ K:Nat,(∀ (e:Ed) (d:Nat),PX d e→ce e≤500000→2 * SizeOf.sizeOf e < K→(Z3 K).1 e=some (sp e))∧(∀ (e:Ed) (d:Nat),PX d e→ce e≤500000→2 * SizeOf.sizeOf e≤K→(Z3 K).2.1 e=some (e.Words.map wPt++kdP e.Kids fun k=>sp k.E))∧(∀ (e:Ed) (d:Nat),PX d e→e.Kind=3→ce e≤500000→2 * SizeOf.sizeOf e≤K→(Z3 K).2.2 e=some (Zgn e.List_ 0 (wO e.Ops)))
 | 0=>⟨fun e _ _ _ h=>by omega,fun e _ _ _ h=>by have:=Zlt e;omega,fun e _ _ _ _ h=>by have:=Zlt e;omega⟩
 | K+1=>by
  obtain ⟨j1,j2,j3⟩:=Z27 K
  refine ⟨fun e d h hc hK => ?_,fun e d h hc hK => ?_,fun e d h k3 hc hK => ?_⟩
  ·show G8 (Z3 K).1 (Z3 K).2.1 (Z3 K).2.2 e=_
   unfold G8
   rw [Z7p]
   rcases h.kd with k | k | k | k
   ·rw [show (e.Kind == 0)=true from beq_iff_eq.2 k,if_pos k];rfl
   ·obtain ⟨a1,a2,a3⟩:=h.k1 k
    have ea:spA e=[]:=by unfold spA;rw [a1,a2,a3];rfl
    rw [show (e.Kind == 0)=false from beq_eq_false_iff_ne.2 (by omega),show (e.Kind == 2)=false from beq_eq_false_iff_ne.2 (by omega),show (e.Kind == 3)=false from beq_eq_false_iff_ne.2 (by omega),if_neg (by omega),ea]
    rfl
   ·have ea:spA e=e.Words.map wPt++kdP e.Kids fun k=>sp k.E:=by unfold spA;rw [h.k2 k];exact List.append_nil _
    rw [show (e.Kind == 0)=false from beq_eq_false_iff_ne.2 (by omega),show (e.Kind == 2)=true from beq_iff_eq.2 k,if_neg (by omega),cond_false,cond_true,j2 e d h hc (by omega),Option.bind_some,Option.bind_some,ea]
    exact Ya5 e _
   obtain ⟨a1,a2⟩:=h.k3 k
   have ea:spA e=Zgn e.List_ 0 (wO e.Ops):=by unfold spA;rw [a1,a2];rfl
   rw [show (e.Kind == 0)=false from beq_eq_false_iff_ne.2 (by omega),show (e.Kind == 2)=false from beq_eq_false_iff_ne.2 (by omega),show (e.Kind == 3)=true from beq_iff_eq.2 k,if_neg (by omega),cond_false,cond_false,cond_true,j3 e d h k hc (by omega),Option.bind_some,Option.bind_some,ea]
   exact Ya5 e _
  ·show Us (Z3 K).1 (Z3 K).2.1 (Z3 K).2.2 e=_
   exact ofS h.g (fun k hk=>j1 k.E (d - 1) (h.ks k hk) (by have:=Yf0 hk;omega) (by have:=Qq hk;omega)) hc
  show Uy (Z3 K).1 (Z3 K).2.1 (Z3 K).2.2 e=_
  obtain ⟨z,hz⟩:=Yhf h k3
  have hL:=Yjp h k3 (F:=(Z3 K).1) (fun o ho k=>j1 o.E (d - 1) (h.os o ho k) (by have:=Yha ho;omega) (by have:=Kl ho;omega)) hc
  unfold Uy
  rw [hz,Option.bind_some]
  refine (congrArg (fun z=>Option.bind z _) hL).trans ?_
  rw [Option.bind_some]
theorem Ya6 {d:Nat} {e:Ed} (h:PX d e) (hc:ce e≤500000):Zg2 e=some (sp e):=Zd2 (2 * SizeOf.sizeOf e+1) fun k hk=>(Z27 k).1 e d h hc (by omega)
def sq:List Ed→Tr→Option Tr
 | [],t=>some t
 | p::ps,t=>(ap p t).bind (sq ps)
theorem Z0u:∀ (a b:List Ed) (t:Tr),sq (a++b) t=(sq a t).bind (sq b)
 | [],_,_=>rfl
 | p::a,b,t=>by
  simp only [List.cons_append,sq]
  cases ap p t with
  | none=>rfl
  | some u=>exact Z0u a b u
theorem Zke {z:Tr} {p:Tr→Bool} {l:List Tr} {i:Nat} {v:Tr} {Q:Tr→Prop} (h:∀ x∈l,Q x) (hz:Q z) (hv:Q v):∀ x∈Ul z p l i v,Q x:=fun x hx=>by
 unfold Ul at hx
 split at hx
 ·rcases List.mem_or_eq_of_mem_set hx with hx | rfl
  ·exact h x hx
  exact hv
 split at hx
 ·exact h x hx
 rcases List.mem_append.1 hx with hx | hx
 ·rcases List.mem_append.1 hx with hx | hx
  ·exact h x hx
  rw [(List.mem_replicate.1 hx).2];exact hz
 rw [List.mem_singleton.1 hx];exact hv
theorem NT.st2 {t:Tr} (nt:NT t) (h1:t.Kind=1) (ws:List Int):NT ⟨1,tr p0 ws,t.Kids⟩:=by
 have:=NT.st (ws:=ws) (ks:=t.Kids) nt.kids
 rw [(nt.words h1).2] at this
 exact this
theorem NT.st3 {t:Tr} (nt:NT t) (h1:t.Kind=1) {ks:List Tr} (h:∀ k∈ks,NT k):NT ⟨1,t.Words,tr pT ks⟩:=by
 have:=NT.st (ws:=t.Words) (ks:=ks) h
 rw [(nt.words h1).1] at this
 exact this
theorem Yfq {w:Zr} {t:Tr} (h1:t.Kind=1) (nt:NT t):ap (wPt w) t=if cW (Vg 0 t.Words w.At.toNat) w=true then some ⟨1,tr p0 (Ul 0 p0 t.Words w.At.toNat (Zlj (Vg 0 t.Words w.At.toNat) w)),t.Kids⟩ else none:=by
 rw [Zbe,if_neg (show ¬ (wPt w).Kind=0 from (by decide:¬ (2:Int)=0)),if_neg (show ¬ (wPt w).Kind=1 from (by decide:¬ (2:Int)=1)),if_pos (show (wPt w).Kind=2 from rfl),if_pos h1]
 show ((rnW t.Words [w] t.Words).bind fun ws=>(rnK t.Kids [] t.Kids).bind fun ks=>some (⟨1,tr p0 ws,tr pT ks⟩:Tr))=_
 rw [rnW]
 split
 ·show some (⟨1,_,tr pT t.Kids⟩:Tr)=_
  rw [(nt.words h1).2]
 rfl
theorem Yev {o o1:List Int} {f f1:Nat→Int} {j:Nat} (ws:List Zr) (h:Vg 0 o1 j=Vg 0 o j) (hf:f1 j=f j):upW o1 ws f1 j=upW o ws f j:=by
 unfold upW
 cases ws.find? fun w=>w.At.toNat == j with
 | none=>exact hf
 | some w=>simp only;rw [h]
theorem Z3l:∀ (ws:List Zr) (t:Tr),t.Kind=1→NT t→ws.Pairwise (fun a b=>a.At.toNat≠b.At.toNat) →
  (Zs3 t.Words ws→∃ t',sq (ws.map wPt) t=some t'∧t'.Kind=1∧NT t'∧t'.Kids=t.Kids∧∀ j,Vg 0 t'.Words j=upW t.Words ws (Vg 0 t.Words) j)∧(¬ Zs3 t.Words ws→sq (ws.map wPt) t=none)
 | [],t,h1,nt,_=>⟨fun _=>⟨t,rfl,h1,nt,rfl,fun j=>rfl⟩,fun h=>absurd (fun w hw=>by cases hw) h⟩
 | w::ws,t,h1,nt,hp=>by
  obtain ⟨hp1,hp2⟩:=List.pairwise_cons.1 hp
  have ha:=Yfq (w:=w) h1 nt
  by_cases hc:cW (Vg 0 t.Words w.At.toNat) w=true
  ·rw [if_pos hc] at ha
   have e1:∀ j,Vg 0 (tr p0 (Ul 0 p0 t.Words w.At.toNat (Zlj (Vg 0 t.Words w.At.toNat) w))) j=if j=w.At.toNat then Zlj (Vg 0 t.Words w.At.toNat) w else Vg 0 t.Words j:=fun j=>by
    rw [Zww (z:=(0:Int)) _ (fun x _ hx=>Z0b hx) j,Zeo fun q=>Z0b q]
   obtain ⟨i1,i2⟩:=Z3l ws ⟨1,tr p0 (Ul 0 p0 t.Words w.At.toNat (Zlj (Vg 0 t.Words w.At.toNat) w)),t.Kids⟩ rfl (nt.st2 h1 _) hp2
   have ho:Zs3 (tr p0 (Ul 0 p0 t.Words w.At.toNat (Zlj (Vg 0 t.Words w.At.toNat) w))) ws↔Zs3 t.Words ws:=by
    unfold Zs3
    constructor
    ·intro h x hx
     have:=h x hx
     rw [e1,if_neg (fun q=>hp1 x hx q.symm)] at this
     exact this
    intro h x hx
    rw [e1,if_neg (fun q=>hp1 x hx q.symm)]
    exact h x hx
   have hs:sq ((w::ws).map wPt) t=sq (ws.map wPt) ⟨1,tr p0 (Ul 0 p0 t.Words w.At.toNat (Zlj (Vg 0 t.Words w.At.toNat) w)),t.Kids⟩:=by
    simp only [List.map_cons,sq]
    rw [ha]
    rfl
   rw [hs]
   refine ⟨fun h => ?_,fun h=>i2 fun q=>h fun x hx => ?_⟩
   ·obtain ⟨t',g1,g2,g3,g4,g5⟩:=i1 (ho.2 fun x hx=>h x (.tail _ hx))
    refine ⟨t',g1,g2,g3,g4,fun j => ?_⟩
    rw [g5 j,Z3z]
    by_cases hj:j=w.At.toNat
    ·rw [if_pos hj]
     unfold upW
     have:ws.find? (fun x=>x.At.toNat == j)=none:=by
      rw [List.find?_eq_none]
      intro x hx
      rw [beq_iff_eq]
      exact fun q=>hp1 x hx (by omega)
     rw [this]
     simp only
     rw [e1,if_pos hj,hj]
    rw [if_neg hj]
    exact Yev ws (by simp only;rw [e1,if_neg hj]) (by simp only;rw [e1,if_neg hj])
   rcases List.mem_cons.1 hx with rfl | hx
   ·exact hc
   exact ho.1 q x hx
  rw [if_neg hc] at ha
  have hs:sq ((w::ws).map wPt) t=none:=by
   simp only [List.map_cons,sq]
   rw [ha]
   rfl
  exact ⟨fun h=>absurd (h w (.head _)) hc,fun _=>hs⟩
theorem Yfp {a:Int} {p:Ed} {t:Tr} (h1:t.Kind=1) (nt:NT t):ap (kPt a p) t=(ap p (Vg Qt t.Kids a.toNat)).map fun u=>⟨1,t.Words,tr pT (Ul Qt pT t.Kids a.toNat u)⟩:=by
 rw [Zbe,if_neg (show ¬ (kPt a p).Kind=0 from (by decide:¬ (2:Int)=0)),if_neg (show ¬ (kPt a p).Kind=1 from (by decide:¬ (2:Int)=1)),if_pos (show (kPt a p).Kind=2 from rfl),if_pos h1]
 show ((rnW t.Words [] t.Words).bind fun ws=>(rnK t.Kids [(a.toNat,ap p)] t.Kids).bind fun ks=>some (⟨1,tr p0 ws,tr pT ks⟩:Tr))=_
 rw [rnW,Option.bind_some,rnK,(nt.words h1).1]
 cases ap p (Vg Qt t.Kids a.toNat) with
 | none=>rfl
 | some u=>rfl
theorem Yd6 {l:List Tr} {i:Nat} {u v:Tr} (hl:∀ x∈l,NT x) (hu:NT u) (hv:NT v):tr pT (Ul Qt pT (tr pT (Ul Qt pT l i u)) i v)=tr pT (Ul Qt pT l i v):=by
 have m1:∀ x∈Ul Qt pT l i u,NT x:=Zke hl NT.z hu
 have m2:∀ x∈tr pT (Ul Qt pT l i u),NT x:=fun x hx=>m1 x (Zhw hx)
 have m3:∀ x∈Ul Qt pT (tr pT (Ul Qt pT l i u)) i v,NT x:=Zke m2 NT.z hv
 have m4:∀ x∈Ul Qt pT l i v,NT x:=Zke hl NT.z hv
 refine Zo0 (z:=Qt) rfl _ _ (fun x hx hp=>(m3 x hx).null hp) (fun x hx hp=>(m4 x hx).null hp) fun j => ?_
 rw [Zeo (fun q=>hv.null q),Zeo (fun q=>hv.null q),Zww (z:=Qt) _ (fun x hx hp=>(m1 x hx).null hp),Zeo (fun q=>hu.null q)]
 split <;> rfl
theorem Ya9 {t:Tr} (h1:t.Kind=1) (nt:NT t) (i:Nat):(⟨1,t.Words,tr pT (Ul Qt pT t.Kids i (Vg Qt t.Kids i))⟩:Tr)=t:=by
 have hx:NT (Vg Qt t.Kids i):=Zh3 nt.kids NT.z i
 have e:tr pT (Ul Qt pT t.Kids i (Vg Qt t.Kids i))=tr pT t.Kids:=by
  refine Zo0 (z:=Qt) rfl _ _ (fun x hx' hp=>(Zke nt.kids NT.z hx x hx').null hp) (fun x hx' hp=>(nt.kids x hx').null hp) fun j => ?_
  rw [Zeo (fun q=>hx.null q)]
  split
  ·rename_i h;rw [h]
  rfl
 rw [e,(nt.words h1).2]
 obtain ⟨a,b,c⟩:=t
 simp only at h1
 rw [h1]
theorem Ybn {a:Int}:∀ (ps:List Ed) (t:Tr),t.Kind=1→NT t→(∀ p∈ps,RX p)→sq (ps.map (kPt a)) t=(sq ps (Vg Qt t.Kids a.toNat)).map fun u=>⟨1,t.Words,tr pT (Ul Qt pT t.Kids a.toNat u)⟩
 | [],t,h1,nt,_=>by
  show some t=some (⟨1,t.Words,tr pT (Ul Qt pT t.Kids a.toNat (Vg Qt t.Kids a.toNat))⟩:Tr)
  rw [Ya9 h1 nt]
 | p::ps,t,h1,nt,hx=>by
  have hn:NT (Vg Qt t.Kids a.toNat):=Zh3 nt.kids NT.z _
  simp only [List.map_cons,sq]
  rw [Yfp h1 nt]
  cases hu:ap p (Vg Qt t.Kids a.toNat) with
  | none=>rfl
  | some u =>
   have nu:NT u:=Zt9 _ p _ u (Nat.lt_succ_self _) (hx p (.head _)) hn hu
   have m1:∀ x∈Ul Qt pT t.Kids a.toNat u,NT x:=Zke nt.kids NT.z nu
   rw [Option.map_some,Option.bind_some,Option.bind_some,Ybn ps ⟨1,t.Words,tr pT (Ul Qt pT t.Kids a.toNat u)⟩ rfl (nt.st3 h1 m1) fun q hq=>hx q (.tail _ hq)]
   have e1:Vg Qt (tr pT (Ul Qt pT t.Kids a.toNat u)) a.toNat=u:=by
    rw [Zww (z:=Qt) _ (fun x hx hp=>(m1 x hx).null hp),Zeo (fun q=>nu.null q),if_pos rfl]
   simp only
   rw [e1]
   have hall:∀ v,sq ps u=some v→NT v:=fun v hv=>by
    have key:∀ (ps:List Ed) (x v:Tr),(∀ p∈ps,RX p)→NT x→sq ps x=some v→NT v:=fun ps=>by
     induction ps with
     | nil=>intro x v _ nx h;injection h with h;rw [← h];exact nx
     | cons p ps ih =>
      intro x v hx nx h
      simp only [sq] at h
      obtain ⟨y,h1,h2⟩:=Option.bind_eq_some_iff.1 h
      exact ih y v (fun q hq=>hx q (.tail _ hq)) (Zt9 _ p x y (Nat.lt_succ_self _) (hx p (.head _)) nx h1) h2
    exact key ps u v (fun q hq=>hx q (.tail _ hq)) nu hv
   cases hv:sq ps u with
   | none=>rfl
   | some v =>
    simp only [Option.map_some]
    rw [Yd6 nt.kids nu (hall v hv)]
theorem Yeu {o o1:List Tr} {f f1:Nat→Tr} {j:Nat} (ws:List (Nat×(Tr→Option Tr))) (h:Vg Qt o1 j=Vg Qt o j) (hf:f1 j=f j):upK o1 ws f1 j=upK o ws f j:=by
 unfold upK
 cases ws.find? fun w=>w.1 == j with
 | none=>exact hf
 | some w=>simp only;rw [h]
theorem Z7r:∀ (ks:List Zm) (t:Tr),t.Kind=1→NT t→ks.Pairwise (fun a b=>a.At.toNat≠b.At.toNat)→(∀ k∈ks,RX k.E∧(∀ p∈sp k.E,RX p)∧∀ x,NT x→sq (sp k.E) x=ap k.E x) →
  (Z21 t.Kids (apK ks)→∃ t',sq (kdP ks fun k=>sp k.E) t=some t'∧t'.Kind=1∧NT t'∧t'.Words=t.Words∧∀ j,Vg Qt t'.Kids j=upK t.Kids (apK ks) (Vg Qt t.Kids) j)∧(¬ Z21 t.Kids (apK ks)→sq (kdP ks fun k=>sp k.E) t=none)
 | [],t,h1,nt,_,_=>⟨fun _=>⟨t,rfl,h1,nt,rfl,fun j=>rfl⟩,fun h=>absurd (fun w hw=>by cases hw) h⟩
 | k::ks,t,h1,nt,hp,hk=>by
  obtain ⟨hp1,hp2⟩:=List.pairwise_cons.1 hp
  obtain ⟨r1,r2,r3⟩:=hk k (.head _)
  have hn:NT (Vg Qt t.Kids k.At.toNat):=Zh3 nt.kids NT.z _
  have hs:sq (kdP (k::ks) fun k=>sp k.E) t=((ap k.E (Vg Qt t.Kids k.At.toNat)).map fun u=>(⟨1,t.Words,tr pT (Ul Qt pT t.Kids k.At.toNat u)⟩:Tr)).bind (sq (kdP ks fun k=>sp k.E)):=by
   have e:kdP (k::ks) (fun k=>sp k.E)=(sp k.E).map (kPt k.At)++kdP ks fun k=>sp k.E:=rfl
   rw [e,Z0u,Ybn _ t h1 nt r2,r3 _ hn]
  have e0:apK (k::ks)=(k.At.toNat,ap k.E)::apK ks:=rfl
  rw [hs,e0]
  cases hu:ap k.E (Vg Qt t.Kids k.At.toNat) with
  | none =>
   refine ⟨fun h => ?_,fun _=>rfl⟩
   have:=h _ (.head _)
   simp only at this
   rw [hu] at this
   cases this
  | some u =>
   have nu:NT u:=Zt9 _ k.E _ u (Nat.lt_succ_self _) r1 hn hu
   have m1:∀ x∈Ul Qt pT t.Kids k.At.toNat u,NT x:=Zke nt.kids NT.z nu
   have e1:∀ j,Vg Qt (tr pT (Ul Qt pT t.Kids k.At.toNat u)) j=if j=k.At.toNat then u else Vg Qt t.Kids j:=fun j=>by
    rw [Zww (z:=Qt) _ (fun x hx hp=>(m1 x hx).null hp),Zeo (fun q=>nu.null q)]
   obtain ⟨i1,i2⟩:=Z7r ks ⟨1,t.Words,tr pT (Ul Qt pT t.Kids k.At.toNat u)⟩ rfl (nt.st3 h1 m1) hp2 fun q hq=>hk q (.tail _ hq)
   have ho:Z21 (tr pT (Ul Qt pT t.Kids k.At.toNat u)) (apK ks)↔Z21 t.Kids (apK ks):=by
    have hne:∀ x∈apK ks,¬ x.1=k.At.toNat:=fun x hx q=>by
     obtain ⟨y,hy,rfl⟩:=List.mem_map.1 hx
     exact hp1 y hy q.symm
    unfold Z21
    constructor
    ·intro h x hx
     have:=h x hx
     rw [e1,if_neg (hne x hx)] at this
     exact this
    intro h x hx
    rw [e1,if_neg (hne x hx)]
    exact h x hx
   rw [Option.map_some,Option.bind_some]
   refine ⟨fun h => ?_,fun h=>i2 fun q=>h fun x hx => ?_⟩
   ·obtain ⟨t',g1,g2,g3,g4,g5⟩:=i1 (ho.2 fun x hx=>h x (.tail _ hx))
    refine ⟨t',g1,g2,g3,g4,fun j => ?_⟩
    rw [g5 j,Z3y]
    simp only
    by_cases hj:j=k.At.toNat
    ·rw [if_pos hj]
     unfold upK
     have:(apK ks).find? (fun x=>x.1 == j)=none:=by
      rw [List.find?_eq_none]
      intro x hx
      obtain ⟨y,hy,rfl⟩:=List.mem_map.1 hx
      rw [beq_iff_eq]
      exact fun q=>hp1 y hy (by omega)
     rw [this]
     simp only
     rw [e1,if_pos hj,hj,hu]
     rfl
    rw [if_neg hj]
    exact Yeu (apK ks) (by rw [e1,if_neg hj]) (by rw [e1,if_neg hj])
   rcases List.mem_cons.1 hx with rfl | hx
   ·simp only
    rw [hu];rfl
   exact ho.1 q x hx
def kQ (o:EO):Prop:=(o.Kind=0∧1≤o.N)∨o.Kind=1∨o.Kind=2∨o.Kind=3
theorem Ygh {l:Int} {d:Nat} {o:EO} (h:okQ l d o):kQ o:=by
 rcases h with ⟨k,q,_⟩ | ⟨k,_⟩ | ⟨k,_⟩
 ·exact .inl ⟨k,q⟩
 ·rcases k with k | k
  ·exact .inr (.inl k)
  exact .inr (.inr (.inl k))
 exact .inr (.inr (.inr k))
theorem Yer {o:EO} (k:o.Kind=0):oN o=o.N.toNat∧wN o=o.N.toNat:=by
 have t0:G5 o=o.N.toNat:=by unfold G5;rw [if_pos k]
 exact ⟨by unfold oN;rw [if_neg (by omega)];exact t0,by unfold wN;rw [if_neg (by omega)];exact t0⟩
theorem Yjx {o:EO} (k:o.Kind=1):oN o=o.L.length∧wN o=0:=by
 have t0:G5 o=o.L.length:=by unfold G5;rw [if_neg (by omega),if_neg (by omega)]
 exact ⟨by unfold oN;rw [if_neg (by omega)];exact t0,by unfold wN;rw [if_pos k]⟩
theorem Yjy {o:EO} (k:o.Kind=2):oN o=0∧wN o=o.L.length:=by
 have t0:G5 o=o.L.length:=by unfold G5;rw [if_neg (by omega),if_neg (by omega)]
 exact ⟨by unfold oN;rw [if_pos k],by unfold wN;rw [if_neg (by omega)];exact t0⟩
theorem Yco {o:EO} (k:o.Kind=3):oN o=1∧wN o=1:=by
 have t0:G5 o=1:=by unfold G5;rw [if_neg (by omega),if_pos k]
 exact ⟨by unfold oN;rw [if_neg (by omega)];exact t0,by unfold wN;rw [if_neg (by omega)];exact t0⟩
theorem Zts {o:EO} {f:Tr→Option Tr} {s s':List Tr×List Tr} (hk:kQ o) (h:stO o f s=some s'):s.1.length=s'.1.length+oN o∧s'.2.length=s.2.length+wN o:=by
 unfold stO at h
 rcases hk with ⟨k,q⟩ | k | k | k
 ·obtain ⟨z1,z2⟩:=Yer k
  rw [if_pos k] at h
  split at h
  ·rename_i hn
   injection h with h
   rw [← h,z1,z2]
   simp only [List.length_drop,List.length_append,List.length_take]
   omega
  cases h
 ·obtain ⟨z1,z2⟩:=Yjx k
  rw [if_neg (by omega),if_pos k] at h
  split at h
  ·rename_i hn
   injection h with h
   have:=congrArg List.length hn
   simp only [List.length_take,List.length_map] at this
   rw [← h,z1,z2]
   simp only [List.length_drop]
   omega
  cases h
 ·obtain ⟨z1,z2⟩:=Yjy k
  rw [if_neg (by omega),if_neg (by omega),if_pos k] at h
  injection h with h
  rw [← h,z1,z2]
  simp
 obtain ⟨z1,z2⟩:=Yco k
 rw [if_neg (by omega),if_neg (by omega),if_neg (by omega),if_pos k] at h
 obtain ⟨l,out⟩:=s
 cases l with
 | nil=>cases h
 | cons x l =>
  obtain ⟨u,_,h⟩:=Option.map_eq_some_iff.1 h
  rw [← h,z1,z2]
  simp
theorem Z0r:∀ (os:List EO) (s s':List Tr×List Tr),(∀ o∈os,kQ o)→rnO (apO os) s=some s'→s.1.length=s'.1.length+oS os
 | [],s,s',_,h=>by injection h with h;rw [← h];simp [oS]
 | o::os,s,s',hk,h=>by
  have e:apO (o::os)=(o,ap o.E)::apO os:=rfl
  rw [e,rnO] at h
  obtain ⟨y,h1,h2⟩:=Option.bind_eq_some_iff.1 h
  have a:=(Zts (hk o (.head _)) h1).1
  have b:=Z0r os y s' (fun x hx=>hk x (.tail _ hx)) h2
  have c:oS (o::os)=oN o+oS os:=by simp [oS]
  omega
theorem Ye7 (b:Nat) (s:List Tr×List Tr):rnO (apO (kpN b)) s=if b≤s.1.length then some (s.1.drop b,s.2++s.1.take b) else none:=by
 unfold kpN
 split
 ·rename_i h
  subst h
  rw [if_pos (Nat.zero_le _)]
  simp [apO,rnO]
 show rnO [((⟨0,(b:Int),[],eS0⟩:EO),ap eS0)] s=_
 simp only [rnO]
 unfold stO
 rw [if_pos rfl]
 simp only
 by_cases hb:b≤s.1.length
 ·rw [if_pos ⟨by omega,by omega⟩,if_pos hb]
  simp
 rw [if_neg (by omega),if_neg hb]
 rfl
theorem Zua (l:Int) (a b:Nat) (x:EO) (W:List Int) (K:List Tr):ap (arE l a x b) ⟨l,W,K⟩=(if a≤K.length then (stO x (ap x.E) (K.drop a,K.take a)).bind fun s=>if s.1.length=b then some ⟨l,[],s.2++s.1⟩ else none else none):=by
 rw [Zbe,if_neg (show ¬ (arE l a x b).Kind=0 from (by decide:¬ (3:Int)=0)),if_neg (show ¬ (arE l a x b).Kind=1 from (by decide:¬ (3:Int)=1)),if_neg (show ¬ (arE l a x b).Kind=2 from (by decide:¬ (3:Int)=2)),if_pos (show (arE l a x b).Kind=3 from rfl),if_pos (show (⟨l,W,K⟩:Tr).Kind=(arE l a x b).List_ from rfl)]
 have e:apO (arE l a x b).Ops=apO (kpN a)++([(x,ap x.E)]++apO (kpN b)):=by
  show (kpN a++[x]++kpN b).map _=_
  rw [List.map_append,List.map_append,List.append_assoc]
  rfl
 simp only
 rw [e,Ztq,Ye7]
 simp only [List.nil_append]
 split
 ·rw [Option.bind_some,Ztq]
  simp only [rnO]
  cases stO x (ap x.E) (K.drop a,K.take a) with
  | none=>rfl
  | some s =>
   simp only [Option.bind_some]
   rw [Ye7]
   split
   ·rename_i h1
    split
    ·rename_i h2
     rw [← h2,List.drop_length,List.take_length]
     rfl
    rename_i h2
    cases hd:s.1.drop b with
    | nil=>have:=List.drop_eq_nil_iff.1 hd;omega
    | cons y r=>rfl
   rename_i h1
   rw [if_neg (by omega)]
   rfl
 rfl
theorem Z7q {l:Int} {b:Nat} (out left:List Tr) (hb:left.length=b):∀ (ps:List Ed) (x:Tr),sq (ps.map fun p=>arE l out.length ⟨3,0,[],p⟩ b) ⟨l,[],out++x::left⟩=(sq ps x).map fun u=>⟨l,[],out++u::left⟩
 | [],x=>rfl
 | p::ps,x=>by
  simp only [List.map_cons,sq]
  rw [Zua,if_pos (by simp),List.drop_left,List.take_left]
  have e:stO ⟨3,0,[],p⟩ (ap p) (x::left,out)=(ap p x).map fun u=>(left,out++[u]):=by
   unfold stO
   rw [if_neg (show ¬ (3:Int)=0 by decide),if_neg (show ¬ (3:Int)=1 by decide),if_neg (show ¬ (3:Int)=2 by decide),if_pos rfl]
  rw [show (⟨3,0,[],p⟩:EO).E=p from rfl,e]
  cases ap p x with
  | none=>rfl
  | some u =>
   simp only [Option.map_some,Option.bind_some]
   rw [if_pos hb,Option.bind_some,List.append_assoc]
   exact Z7q out left hb ps u
theorem Yed {l:Int} {o:EO} {out left:List Tr} {b:Nat} (hk:kQ o) (hl:left.length=oN o+b) (h3:o.Kind=3→∀ x∈left,sq (sp o.E) x=ap o.E x):sq ((fO o (sp o.E)).map fun x=>arE l out.length x b) ⟨l,[],out++left⟩=(stO o (ap o.E) (left,out)).bind fun s=>some ⟨l,[],s.2++s.1⟩:=by
 have one:(o.Kind=1∨o.Kind=2)→sq ((fO o (sp o.E)).map fun x=>arE l out.length x b) ⟨l,[],out++left⟩=(stO o (ap o.E) (left,out)).bind fun s=>some ⟨l,[],s.2++s.1⟩:=fun k=>by
  have f0:fO o (sp o.E)=[o]:=by unfold fO;rw [if_pos k]
  rw [f0]
  simp only [List.map_cons,List.map_nil,sq]
  rw [Zua,if_pos (by simp),List.drop_left,List.take_left]
  cases hs:stO o (ap o.E) (left,out) with
  | none=>rfl
  | some s =>
   have:=(Zts hk hs).1
   simp only at this
   simp only [Option.bind_some]
   rw [if_pos (by omega)]
   rfl
 rcases hk with ⟨k,q⟩ | k | k | k
 ·obtain ⟨z1,z2⟩:=Yer k
  have f0:fO o (sp o.E)=[]:=by unfold fO;rw [if_neg (by omega),if_neg (by omega)]
  rw [f0]
  unfold stO
  rw [if_pos k,if_pos ⟨by omega,by simp only;omega⟩]
  simp only [List.map_nil,sq,Option.bind_some]
  rw [List.append_assoc,List.take_append_drop]
 ·exact one (.inl k)
 ·exact one (.inr k)
 obtain ⟨z1,z2⟩:=Yco k
 cases left with
 | nil=>simp only [List.length_nil] at hl;omega
 | cons x left =>
  have f0:fO o (sp o.E)=(sp o.E).map fun x=>⟨3,0,[],x⟩:=by unfold fO;rw [if_neg (by omega),if_pos k]
  rw [f0,List.map_map]
  have:=Z7q (l:=l) out left (b:=b) (by simp only [List.length_cons] at hl;omega) (sp o.E) x
  refine Eq.trans this ?_
  rw [h3 k x (.head _)]
  unfold stO
  rw [if_neg (by omega),if_neg (by omega),if_neg (by omega),if_pos k]
  simp only
  cases ap o.E x with
  | none=>rfl
  | some u =>
   simp only [Option.map_some,Option.bind_some]
   rw [List.append_assoc]
   rfl
theorem Ybo {l:Int}:∀ (os:List EO) (left out:List Tr),(∀ o∈os,kQ o∧(o.Kind=3→RX o.E∧∀ x,NT x→sq (sp o.E) x=ap o.E x))→(∀ x∈left,NT x)→left.length=oS os→sq (Zgn l out.length (wO os)) ⟨l,[],out++left⟩=(rnO (apO os) (left,out)).bind fun s=>some ⟨l,[],s.2⟩
 | [],left,out,_,_,hl=>by
  have:left=[]:=List.eq_nil_of_length_eq_zero (by rw [hl];rfl)
  subst this
  show some _=some _
  rw [List.append_nil]
 | o::os,left,out,hk,hn,hl=>by
  have c:oS (o::os)=oN o+oS os:=by simp [oS]
  rw [c] at hl
  obtain ⟨k1,k2⟩:=hk o (.head _)
  have e:apO (o::os)=(o,ap o.E)::apO os:=rfl
  rw [Zr0,Z0u,Yed k1 hl (fun k x hx=>(k2 k).2 x (hn x hx)),e,rnO]
  cases hs:stO o (ap o.E) (left,out) with
  | none=>rfl
  | some s =>
   obtain ⟨a1,a2⟩:=Zts k1 hs
   simp only at a1 a2
   simp only [Option.bind_some]
   have hn':∀ x∈s.1,NT x:=by
    unfold stO at hs
    split at hs
    ·split at hs
     ·injection hs with hs
      rw [← hs]
      exact fun x hx=>hn x (List.mem_of_mem_drop hx)
     cases hs
    split at hs
    ·split at hs
     ·injection hs with hs
      rw [← hs]
      exact fun x hx=>hn x (List.mem_of_mem_drop hx)
     cases hs
    split at hs
    ·injection hs with hs
     rw [← hs]
     exact hn
    split at hs
    ·cases left with
     | nil=>cases hs
     | cons y left =>
      obtain ⟨u,_,hs⟩:=Option.map_eq_some_iff.1 hs
      rw [← hs]
      exact fun x hx=>hn x (.tail _ hx)
    cases hs
   have:=Ybo (l:=l) os s.1 s.2 (fun x hx=>hk x (.tail _ hx)) hn' (by omega)
   rw [a2] at this
   exact this
theorem Ybm {l:Int}:∀ (os:List EO) (a:Nat) (K:List Tr),(∀ o∈os,kQ o)→K.length≠a+oS os→Zgn l a (wO os)≠[]→sq (Zgn l a (wO os)) ⟨l,[],K⟩=none
 | [],_,_,_,_,h=>absurd rfl h
 | o::os,a,K,hk,hl,h=>by
  have c:oS (o::os)=oN o+oS os:=by simp [oS]
  rw [c] at hl
  rw [Zr0] at h ⊢
  have k1:=hk o (.head _)
  cases hf:fO o (sp o.E) with
  | nil =>
   rw [hf] at h
   simp only [List.map_nil,List.nil_append] at h ⊢
   refine Ybm os (a+wN o) K (fun x hx=>hk x (.tail _ hx)) ?_ h
   have:wN o=oN o:=by
    rcases k1 with ⟨k,_⟩ | k | k | k
    ·rw [(Yer k).1,(Yer k).2]
    ·unfold fO at hf;rw [if_pos (.inl k)] at hf;cases hf
    ·unfold fO at hf;rw [if_pos (.inr k)] at hf;cases hf
    rw [(Yco k).1,(Yco k).2]
   omega
  | cons x xs =>
   simp only [List.map_cons,List.cons_append,sq]
   have hx:kQ x∧oN x=oN o:=by
    unfold fO at hf
    split at hf
    ·injection hf with h1 _
     rw [← h1];exact ⟨k1,rfl⟩
    split at hf
    ·rename_i k
     obtain ⟨p,_,h1⟩:=List.mem_map.1 (show x∈(sp o.E).map (fun x=>(⟨3,0,[],x⟩:EO)) by rw [hf];exact .head _)
     rw [← h1,(Yco k).1]
     exact ⟨.inr (.inr (.inr rfl)),by simp [oN,G5]⟩
    cases hf
   rw [Zua]
   split
   ·cases hs:stO x (ap x.E) (K.drop a,K.take a) with
    | none=>rfl
    | some s =>
     have:=(Zts hx.1 hs).1
     simp only [List.length_drop] at this
     simp only [Option.bind_some]
     rw [if_neg (by omega)]
     rfl
   rfl
theorem Yju {l:Int} {W:List Int} {K:List Tr}:∀ (os:List EO) (a:Nat),Zgn l a (wO os)≠[]→sq (Zgn l a (wO os)) ⟨l,W,K⟩=sq (Zgn l a (wO os)) ⟨l,[],K⟩:=fun os a h=>by
 cases hp:Zgn l a (wO os) with
 | nil=>exact absurd hp h
 | cons p ps =>
  obtain ⟨pre,q,post,x,_,_,e⟩:=Zpx (wO os) a (show p∈Zgn l a (wO os) by rw [hp];exact .head _)
  simp only [sq]
  rw [e,Zua,Zua]
theorem Yec {l:Int} {t:Tr} (ht:t.Kind≠l):∀ (os:List EO) (a:Nat),Zgn l a (wO os)≠[]→sq (Zgn l a (wO os)) t=none:=fun os a h=>by
 cases hp:Zgn l a (wO os) with
 | nil=>exact absurd hp h
 | cons p ps =>
  obtain ⟨pre,q,post,x,_,_,e⟩:=Zpx (wO os) a (show p∈Zgn l a (wO os) by rw [hp];exact .head _)
  simp only [sq]
  have:ap p t=none:=by
   rw [e,Zbe,if_neg (by unfold arE;simp),if_neg (by unfold arE;simp),if_neg (by unfold arE;simp),if_pos (by rfl),if_neg (show ¬ t.Kind=(arE l _ x _).List_ from ht)]
  rw [this]
  rfl
theorem Ygk {e:Ed} (h:spA e≠[]):orS e (spA e)=spA e:=by unfold orS;rw [if_neg h]
theorem Ygm (e:Ed) (t:Tr):sq [e] t=ap e t:=by
 simp only [sq]
 cases ap e t <;> rfl
theorem Ybp:∀ (n:Nat) (e:Ed) (d:Nat) (t:Tr),SizeOf.sizeOf e < n→PX d e→NT t→sq (sp e) t=ap e t
 | 0,_,_,_,h,_,_=>by omega
 | n+1,e,d,t,hn,h,nt=>by
  have hx:=Zvw _ e d (Nat.lt_succ_self _) h.r
  rw [Z7p]
  by_cases h0:e.Kind=0
  ·rw [if_pos h0,Zbe,if_pos h0];rfl
  rw [if_neg h0]
  by_cases hA:spA e=[]
  ·unfold orS;rw [if_pos hA];exact Ygm e t
  rw [Ygk hA]
  rcases h.kd with k | k | k | k
  ·exact absurd k h0
  ·obtain ⟨a1,a2,a3⟩:=h.k1 k
   have ea:spA e=[]:=by unfold spA;rw [a1,a2,a3];rfl
   exact absurd ea hA
  ·have ea:spA e=e.Words.map wPt++kdP e.Kids fun k=>sp k.E:=by unfold spA;rw [h.k2 k];exact List.append_nil _
   have hx':=hx
   cases hx' with
   | same _ q=>omega
   | repl _ q=>omega
   | li _ q=>omega
   | st _ _ hw _ hk _ ih =>
    rw [ea]
    by_cases h1:t.Kind=1
    ·have hkr:∀ k∈e.Kids,RX k.E∧(∀ p∈sp k.E,RX p)∧∀ x,NT x→sq (sp k.E) x=ap k.E x:=fun k hk=>⟨ih k hk,fun p hp=>Zvw _ p (d - 1) (Nat.lt_succ_self _) (Zy7 _ k.E (d - 1) (Nat.lt_succ_self _) (h.ks k hk) p hp).r,fun x hx=>Ybp n k.E (d - 1) x (by have:=Qq hk;omega) (h.ks k hk) hx⟩
     have hkp:(apK e.Kids).Pairwise (fun a b=>a.1≠b.1):=by unfold apK;rw [List.pairwise_map];exact hk
     have hkn:∀ w∈apK e.Kids,∀ u,w.2 (Vg Qt t.Kids w.1)=some u→NT u:=fun w hw u hu=>by
      obtain ⟨k,hk,rfl⟩:=List.mem_map.1 hw
      exact Zt9 _ k.E _ u (Nat.lt_succ_self _) (ih k hk) (Zh3 nt.kids NT.z _) hu
     obtain ⟨w1,w2⟩:=Z3l e.Words t h1 nt hw
     obtain ⟨v1,v2⟩:=Zp3 t.Words e.Words t.Words hw
     obtain ⟨y1,y2⟩:=Z3g t.Kids (apK e.Kids) t.Kids hkp hkn
     rw [Z0u,Zbe,if_neg h0,if_neg (by omega),if_pos k,if_pos h1]
     by_cases ow:Zs3 t.Words e.Words
     ·obtain ⟨t',g1,g2,g3,g4,g5⟩:=w1 ow
      obtain ⟨c',f1,f2⟩:=v1 ow
      rw [g1,f1,Option.bind_some,Option.bind_some]
      obtain ⟨x1,x2⟩:=Z7r e.Kids t' g2 g3 hk hkr
      rw [g4] at x1 x2
      by_cases ok:Z21 t.Kids (apK e.Kids)
      ·obtain ⟨t2,b1,b2,b3,b4,b5⟩:=x1 ok
       obtain ⟨c2,d1,d2⟩:=y1 ok
       rw [b1,d1,Option.bind_some]
       have nk:∀ x∈c2,NT x:=Ztp t.Kids NT NT.z (apK e.Kids) t.Kids c2 hkn nt.kids d1
       have ew:t2.Words=tr p0 c':=by
        rw [← (b3.words b2).1]
        refine Zo0 (z:=(0:Int)) rfl _ _ (fun x _ q=>Z0b q) (fun x _ q=>Z0b q) fun j => ?_
        rw [b4,g5,f2]
       have ek:t2.Kids=tr pT c2:=by
        rw [← (b3.words b2).2]
        refine Zo0 (z:=Qt) rfl _ _ (fun x hx q=>(b3.kids x hx).null q) (fun x hx q=>(nk x hx).null q) fun j => ?_
        rw [b5,d2]
       obtain ⟨q1,q2,q3⟩:=t2
       simp only at b2 ew ek
       rw [b2,ew,ek]
      rw [x2 ok,y2 ok]
      rfl
     rw [w2 ow,v2 ow]
     rfl
    rw [Zbe,if_neg h0,if_neg (by omega),if_pos k,if_neg h1]
    have hne:e.Words.map wPt++(kdP e.Kids fun k=>sp k.E)≠[]:=by rw [← ea];exact hA
    cases hp:e.Words.map wPt++(kdP e.Kids fun k=>sp k.E) with
    | nil=>exact absurd hp hne
    | cons p ps =>
     have hm:p∈e.Words.map wPt++(kdP e.Kids fun k=>sp k.E):=by rw [hp];exact .head _
     have k2:p.Kind=2:=by
      rcases List.mem_append.1 hm with hm | hm
      ·obtain ⟨w,_,rfl⟩:=List.mem_map.1 hm;rfl
      obtain ⟨k,_,x,_,rfl⟩:=Z6z hm;rfl
     simp only [sq]
     rw [show ap p t=none by rw [Zbe,if_neg (by omega),if_neg (by omega),if_pos k2,if_neg h1]]
     rfl
  obtain ⟨a1,a2⟩:=h.k3 k
  have ea:spA e=Zgn e.List_ 0 (wO e.Ops):=by unfold spA;rw [a1,a2];rfl
  obtain ⟨hl,hok⟩:=h.lst k
  rw [ea] at hA ⊢
  rw [Zbe,if_neg h0,if_neg (by omega),if_neg (by omega),if_pos k]
  by_cases ht:t.Kind=e.List_
  ·rw [if_pos ht]
   have hkq:∀ o∈e.Ops,kQ o:=fun o ho=>Ygh (hok o ho)
   obtain ⟨tk,tw,K⟩:=t
   simp only at ht ⊢
   subst ht
   rw [Yju e.Ops 0 hA]
   by_cases hlen:K.length=oS e.Ops
   ·have:=Ybo (l:=e.List_) e.Ops K [] (fun o ho=>⟨hkq o ho,fun k3=>⟨Zvw _ o.E (d - 1) (Nat.lt_succ_self _) (h.os o ho k3).r,fun x hx=>Ybp n o.E (d - 1) x (by have:=Kl ho;omega) (h.os o ho k3) hx⟩⟩) nt.kids hlen
    rw [List.nil_append,List.length_nil] at this
    rw [this]
    cases hr:rnO (apO e.Ops) (K,[]) with
    | none=>rfl
    | some s =>
     have q:=Z0r e.Ops (K,[]) s hkq hr
     simp only at q
     have:s.1=[]:=List.eq_nil_of_length_eq_zero (by omega)
     obtain ⟨s1,s2⟩:=s
     simp only at this
     subst this
     rfl
   rw [Ybm e.Ops 0 K hkq (by omega) hA]
   cases hr:rnO (apO e.Ops) (K,[]) with
   | none=>rfl
   | some s =>
    have q:=Z0r e.Ops (K,[]) s hkq hr
    simp only at q
    obtain ⟨s1,s2⟩:=s
    cases s1 with
    | nil=>simp only [List.length_nil] at q;omega
    | cons y r=>rfl
  rw [if_neg ht]
  exact Yec ht e.Ops 0 hA
def aD:EO:=⟨1,0,[⟨10,[1],[]⟩],eS0⟩
def aI:EO:=⟨2,0,[⟨10,[2],[]⟩],eS0⟩
def aK:EO:=⟨0,1,[],eS0⟩
def aE (os:List EO):Ed:=⟨3,Qt,Qt,[],[],4,os⟩
theorem Ye2 {w:Int} (h:0≤w∧w < 18446744073709551616):Bd ⟨10,[w],[]⟩ := .mk _ (by simp) (by simp) (by simpa using h) (fun k h=>by simp at h)
theorem Z6f {os:List EO} (hl:os.length≤5) (h:∀ o∈os,o=aD∨o=aI∨o=aK) (hs:J3 os≤100):BE (aE os)∧GN (aE os):=by
 have hE:∀ o∈os,o.E=eS0:=fun o ho=>by rcases h o ho with h | h | h <;> rw [h] <;> rfl
 refine ⟨.mk _ Zg4 Zg4 (by simp [aE]) (by simp [aE]) (by simp [aE]) (by simp [aE]) (by simp only [aE];omega) (fun o ho => ?_) (fun o ho=>by rw [hE o ho];exact Zuh),.mk _ (by simp [aE]) (by simp [aE]) (by simp only [aE];omega) (by simp only [aE];omega) (fun o ho => ?_) (by simp [aE]) (fun o ho=>by rw [hE o ho];exact Zuu)⟩
 ·rcases h o ho with h | h | h <;> rw [h] <;> refine ⟨by simp [aD,aI,aK],fun t ht => ?_⟩
  ·rw [List.mem_singleton.1 ht];exact Ye2 (by decide)
  ·rw [List.mem_singleton.1 ht];exact Ye2 (by decide)
  cases ht
 rcases h o ho with h | h | h <;> rw [h] <;> simp [opk,aD,aI,aK]
theorem Yg7 (w:Int):nrm ⟨10,[w],[]⟩=⟨10,[w],[]⟩:=by rw [Zcs (by simp) (by simp)];rfl
theorem Zvf {xs:List EO} {g:Int} {r:(Int×Int×List EO×Int) ⊕ (List EO×Int)} (h:Zcd Za6 3 (xs,g)=some r):Kq ⟨xs,g⟩=(match r with | .inl z=>some (z.1,z.2.1,(⟨z.2.2.1,z.2.2.2⟩:Yh)) | .inr z=>some (0,0,(⟨z.1,z.2⟩:Yh))):=by
 unfold Kq
 rw [Zc6 h]
 cases r <;> rfl
theorem Z6h {α β γ:Type} {a:Option α} {b:Option β} {x:α} {y:β} {f:α→β→Option γ} {r:Option γ} (ha:a=some x) (hb:b=some y) (h:f x y=r):(a.bind fun u=>b.bind fun v=>f u v)=r:=by subst ha hb;exact h
def aPs:List Z4:=[⟨1,aD,⟨0,0,[],eS0⟩⟩,⟨0,aK,aK⟩,⟨2,⟨0,0,[],eS0⟩,aI⟩]
theorem Yfs:Zco [aD,aK] [aK,aI]=some (aPs,true):=by
 have n1:=Zvf (xs:=[aD,aK]) (g:=0) (r := .inl (1,1,[aD,aK],0)) rfl
 have n2:=Zvf (xs:=[aK,aI]) (g:=0) (r := .inl (0,1,[aK,aI],0)) rfl
 have n3:=Zvf (xs:=[aD,aK]) (g:=1) (r := .inl (0,1,[aK],0)) rfl
 have n4:=Zvf (xs:=[aK]) (g:=1) (r := .inr ([],0)) rfl
 have n5:=Zvf (xs:=[aK,aI]) (g:=1) (r := .inl (2,1,[aI],0)) rfl
 have n6:=Zvf (xs:=[]) (g:=0) (r := .inr ([],0)) rfl
 have n7:=Zvf (xs:=[aI]) (g:=1) (r := .inr ([],0)) rfl
 have q1:Vu 1 2 ([aD,aK],0,[aK,aI],0,[])=some (.inl ([aD,aK],1,[aK,aI],0,[⟨1,aD,⟨0,0,[],eS0⟩⟩])):=Z6h n1 n2 rfl
 have q2:Vu 1 2 ([aD,aK],1,[aK,aI],0,[⟨1,aD,⟨0,0,[],eS0⟩⟩])=some (.inl ([aK],1,[aK,aI],1,[⟨1,aD,⟨0,0,[],eS0⟩⟩,⟨0,aK,aK⟩])):=Z6h n3 n2 rfl
 have q3:Vu 1 2 ([aK],1,[aK,aI],1,[⟨1,aD,⟨0,0,[],eS0⟩⟩,⟨0,aK,aK⟩])=some (.inl ([],0,[aI],1,aPs)):=Z6h n4 n5 rfl
 have q4:Vu 1 2 ([],0,[aI],1,aPs)=some (.inr (aPs,true)):=Z6h n6 n7 rfl
 unfold Zco Zfg
 rw [Yw q1,Yw q2,Yw q3,Yg q4]
 rfl
theorem Z9l:Zg2 (aE [aD,aK,aI])=some [aE [aD,aK],aE [aK,aI]]:=Zd2 2 fun k hk=>by
 obtain ⟨k,rfl⟩:∃ j,k=j+1+1:=⟨k - 2,by omega⟩
 have hl:Vn (aE [aD,aK,aI])=some (2,2):=by
  unfold Vn
  rw [Zc6 (k:=5) (r:=(2,2)) (by rfl)]
  rfl
 have hL:(Z3 (k+1)).2.2 (aE [aD,aK,aI])=some [aE [aD,aK],aE [aK,aI]]:=by
  show Uy (Z3 k).1 (Z3 k).2.1 (Z3 k).2.2 (aE [aD,aK,aI])=_
  unfold Uy
  rw [hl,Option.bind_some]
  refine (congrArg (fun z=>Option.bind z _) (Zc6 (k:=5) (r:=[aE [aD,aK],aE [aK,aI]]) (by rfl))).trans ?_
  rfl
 show G8 (Z3 (k+1)).1 (Z3 (k+1)).2.1 (Z3 (k+1)).2.2 (aE [aD,aK,aI])=_
 unfold G8
 rw [hL]
 rfl
theorem Zmr:Qz=some true:=by
 have hv:∀ os:List EO,nE (aE os)=aE (Zbi 4 (Xm os)):=fun os=>(Up (aE os)).trans rfl
 have g3:=Z6f (os:=[aD,aK,aI]) (by simp) (by simp) (by simp [J3,G5,aD,aI,aK])
 have g1:=Z6f (os:=[aD,aK]) (by simp) (by simp) (by simp [J3,G5,aD,aI,aK])
 have n3:Zbi 4 (Xm [aD,aK,aI])=[aD,aK,aI]:=by simp [Zbi,Xm,aD,aI,aK,Vq,s0N,Yg7,NW.flush,Gf,Zad,Q5]
 have n1:Zbi 4 (Xm [aD,aK])=[aD,aK]:=by simp [Zbi,Xm,aD,aK,Vq,s0N,Yg7,NW.flush,Gf,Zad,Q5]
 have m3:Zbr (aE [aD,aK,aI])=some (aE [aD,aK,aI]):=by rw [Yao g3.1 g3.2,hv,n3]
 have m1:Zbr (aE [aD,aK])=some (aE [aD,aK]):=by rw [Yao g1.1 g1.2,hv,n1]
 have p1:Uo (aE [aD,aK,aI])=some [aE [aD,aK],aE [aK,aI]]:=by
  unfold Uo
  rw [m3,Option.bind_some,Z9l]
  rfl
 have c1:U5 eS0 (aE [aD,aK])=some (aE [aD,aK],true):=by
  unfold U5
  rw [show Zat eS0 (aE [aD,aK])=some (aE [aD,aK],true) from rfl,Option.bind_some,m1]
  rfl
 have c2:U5 (aE [aD,aK]) (aE [aK,aI])=some (aE [aD,aK,aI],true):=by
  have hm:Zbh (aE [aD,aK]) (aE [aK,aI])=some (aE [aD,aK,aI],true):=by
   unfold Zbh
   rw [show (aE [aD,aK]).Ops=[aD,aK] from rfl,show (aE [aK,aI]).Ops=[aK,aI] from rfl,Yfs,Option.bind_some]
   refine (congrArg (fun z=>cond (!true) _ (Option.bind z _)) (Zc6 (k:=5) (r:=Sum.inr [aD,aK,aI]) (by rfl))).trans ?_
   rfl
  have hm2:Zat (aE [aD,aK]) (aE [aK,aI])=some (aE [aD,aK,aI],true):=by
   unfold Zat
   rw [hm]
   rfl
  unfold U5
  rw [hm2,Option.bind_some,m3]
  rfl
 have j1:Zfk [aE [aD,aK],aE [aK,aI]]=some (aE [aD,aK,aI],true):=by
  have s1:V6 [aE [aD,aK],aE [aK,aI]] (0,0,0,[],[],0,[],[],[],[],0,[])=some (.inl (1,3,0,[],[],0,[],[],[],[],4,[aD,aK])):=by
   unfold V6
   refine (congrArg (fun z=>Option.bind z _) c1).trans ?_
   rfl
  have s2:V6 [aE [aD,aK],aE [aK,aI]] (1,3,0,[],[],0,[],[],[],[],4,[aD,aK])=some (.inl (2,3,0,[],[],0,[],[],[],[],4,[aD,aK,aI])):=by
   unfold V6
   refine (congrArg (fun z=>Option.bind z _) c2).trans ?_
   rfl
  have s3:V6 [aE [aD,aK],aE [aK,aI]] (2,3,0,[],[],0,[],[],[],[],4,[aD,aK,aI])=some (.inr (.inr (3,0,[],[],0,[],[],[],[],4,[aD,aK,aI]))):=rfl
  unfold Zfk
  rw [Yw s1,Yw s2,Yg s3]
  rfl
 unfold Qz
 rw [show J4 1=some [⟨10,[1],[]⟩] from rfl,Option.bind_some,show J4 2=some [⟨10,[2],[]⟩] from rfl,Option.bind_some]
 refine (congrArg (fun z=>Option.bind z _) p1).trans ?_
 rw [Option.bind_some,j1]
 rfl
theorem Yf6 {e:Ed} (hb:BE e):∃ b,Gy e=some b∧(b=true→rE e 64=true∧lgt e=true∧ce e≤3000):=by
 obtain ⟨b,h1,h2⟩:=Yhc hb
 have h3:=Ydg hb (d:=64) (by decide)
 rw [show ((64:Nat):Int)=64 from rfl] at h3
 unfold Gy
 rw [h1,Option.bind_some,h3,Yaf hb]
 refine ⟨b && (rE e 64 && lgt e),?_,fun h => ?_⟩
 ·cases b <;> cases rE e 64 <;> cases lgt e <;> rfl
 simp only [Bool.and_eq_true] at h
 exact ⟨h.2.1,h.2.2,h2 h.1⟩
theorem Ye5 {t:Tr} (h:Bd t):∃ b,Vv t=some b∧(b=true→TX t∧pt t≤3000):=by
 obtain ⟨b,h1,h2⟩:=Yf4 h
 have h3:=Zm7 h (d:=64) (by decide)
 rw [show ((64:Nat):Int)=64 from rfl] at h3
 unfold Vv
 rw [h1,Option.bind_some,h3]
 refine ⟨b && (rt t 64 && (t.Kind != 10)),?_,fun q => ?_⟩
 ·cases b <;> cases rt t 64 <;> cases (t.Kind != 10) <;> rfl
 simp only [Bool.and_eq_true] at q
 exact ⟨Yff _ t 64 (Nat.lt_succ_self _) q.2.1,h2 q.1⟩
theorem Zxj {ps:List Ed} (hl:ps.length≤1000000) (hp:∀ p∈ps,RX p∧BE p∧GN p):∀ (ys:List Ed) (i:Nat) (v:Tr),ps.drop i=ys→i≤ps.length→NT v→Bd v→∃ z,Zw (Xa ps) (true,(i:Int),v.Kind,v.Words,v.Kids)=some z∧(z = .inl true∨(∃ u,z = .inr (true,u.Kind,u.Words,u.Kids)∧sq ys v=some u∧Bd u)∨(z = .inr (false,0,[],[])∧sq ys v=none))
 | [],i,v,hd,hi,nv,bv=>by
  have:i=ps.length:=by have:=List.drop_eq_nil_iff.1 hd;omega
  subst this
  refine ⟨.inr (true,v.Kind,v.Words,v.Kids),Yg ?_,.inr (.inl ⟨v,rfl,rfl,bv⟩)⟩
  unfold Xa
  simp only
  rw [Zcn,cond_false,cond_false]
 | p::ys,i,v,hd,hi,nv,bv=>by
  have hil:i < ps.length:=by
   rcases Nat.lt_or_ge i ps.length with h | h
   ·exact h
   rw [List.drop_eq_nil_of_le h] at hd;cases hd
  have e:=List.drop_eq_getElem_cons hil
  rw [hd] at e
  injection e with e1 e2
  have hx:ps[i]? = some p:=by rw [List.getElem?_eq_getElem hil,e1]
  obtain ⟨rp,bp,gp⟩:=hp p (List.mem_of_getElem? hx)
  obtain ⟨b,g1,g2⟩:=Ye5 bv
  cases b with
  | false =>
   refine ⟨.inl true,Yg ?_,.inl rfl⟩
   unfold Xa
   simp only
   rw [Gu hil,cond_true,cond_true,Z3v,g1,Option.bind_some,Bool.not_false,cond_true,Zmr]
   rfl
  | true =>
   obtain ⟨_,q2⟩:=g2 rfl
   have ca:CA p v:=⟨rp,bp,gp,by omega,bv⟩
   have ha:=Z17 ca
   unfold NT at nv
   rw [nv] at ha
   cases hu:ap p v with
   | some u =>
    rw [hu] at ha
    have nu:NT u:=Zt9 _ p v u (Nat.lt_succ_self _) rp nv hu
    have bu:Bd u:=Z9h ca (by rw [nv];exact hu)
    obtain ⟨z,z1,z2⟩:=Zxj hl hp ys (i+1) u e2.symm hil nu bu
    have hs:sq (p::ys) v=sq ys u:=by simp only [sq];rw [hu];rfl
    rw [hs]
    refine ⟨z,?_,z2⟩
    rw [← z1]
    refine Yw ?_
    unfold Xa
    simp only
    rw [Gu hil,cond_true,cond_true,Z3v,g1,Option.bind_some,Bool.not_true,cond_false,Yt hx,Option.bind_some,ha,Option.bind_some,i1 hil (by omega)]
   | none =>
    rw [hu] at ha
    have hs:sq (p::ys) v=none:=by simp only [sq];rw [hu];rfl
    rw [hs]
    refine ⟨.inr (false,0,[],[]),?_,.inr (.inr ⟨rfl,rfl⟩)⟩
    have s1:Xa ps (true,(i:Int),v.Kind,v.Words,v.Kids)=some (.inl (false,((i+1:Nat):Int),0,[],[])):=by
     unfold Xa
     simp only
     rw [Gu hil,cond_true,cond_true,Z3v,g1,Option.bind_some,Bool.not_true,cond_false,Yt hx,Option.bind_some,ha,Option.bind_some,i1 hil (by omega)]
     rfl
    rw [Yw s1]
    refine Yg ?_
    unfold Xa
    simp only
    cases decide (((i+1:Nat):Int) < (ps.length:Int)) <;> rfl
theorem Z3k {e:Ed} {t:Tr} (hb:BE e) (bt:Bd t):Uj e t=some true:=by
 obtain ⟨b,h1,h2⟩:=Yf6 hb
 unfold Uj
 rw [h1,Option.bind_some]
 cases b with
 | false=>rw [Zmr];rfl
 | true =>
  obtain ⟨r1,r2,r3⟩:=h2 rfl
  rw [cond_true,Z8z hb,Option.bind_some]
  cases decide (200 < cn e) with
  | true=>rw [Zmr];rfl
  | false =>
   obtain ⟨c,g1,g2⟩:=Ye5 bt
   rw [cond_false,g1,Option.bind_some]
   cases c with
   | false=>rw [Zmr];rfl
   | true =>
    obtain ⟨q1,q2⟩:=g2 rfl
    have hg:=Z91 _ e 64 (Nat.lt_succ_self _) hb (by omega) r1
    have hx:=Yba _ e 64 (Nat.lt_succ_self _) hb hg r1 r2
    have hrx:=Zvw _ e 64 (Nat.lt_succ_self _) r1
    have hce:=Z9p _ e (Nat.lt_succ_self _) hb hg
    have hgp:=Zy7 _ (nE e) 64 (Nat.lt_succ_self _) hx
    have hlen:(sp (nE e)).length≤3000:=by have:=Ygl (nE e);omega
    have p1:Uo e=some (sp (nE e)):=by
     unfold Uo
     rw [Yao hb hg,Option.bind_some,Ya6 hx (by omega),Option.bind_some]
    have ca:CA e t:=⟨hrx,hb,hg,by omega,bt⟩
    have hsq:sq (sp (nE e)) (nrm t)=ap e (nrm t):=by
     rw [Ybp _ (nE e) 64 (nrm t) (Nat.lt_succ_self _) hx (NT.of t),Z9g _ e (nrm t) (Nat.lt_succ_self _) hrx (NT.of t) q1.n]
    obtain ⟨z,z1,z2⟩:=Zxj (by omega) (fun p hp=>⟨Zvw _ p 64 (Nat.lt_succ_self _) (hgp p hp).r,(hgp p hp).b,(hgp p hp).g⟩) (sp (nE e)) 0 (nrm t) rfl (Nat.zero_le _) (NT.of t) bt.nrm
    rw [hsq] at z2
    have ha:=Z17 ca
    simp only [Bool.not_true,cond_false,Option.bind_some]
    rw [p1,Option.bind_some,ha,Option.bind_some,Ybe bt,Option.bind_some]
    refine (congrArg (fun z=>Option.bind z _) z1).trans ?_
    rw [Option.bind_some]
    rcases z2 with rfl | ⟨u,rfl,hu,bu⟩ | ⟨rfl,hu⟩
    ·rfl
    ·rw [hu]
     simp only
     rw [Z3v,Yeb bu bu,Z9v,Zmr]
     rfl
    rw [hu]
    simp only
    rw [Zmr]
    rfl
end Go.Proofs.Ytibgpnmmgffgeaa
