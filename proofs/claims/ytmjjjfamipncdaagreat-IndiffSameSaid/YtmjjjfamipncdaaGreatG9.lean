/- Part G9 of the ghost memory: lemmas and contracts used by the proofs of this seat's laws; each theorem bears its own conditions. -/
import Derived.Test.YtmjjjfamipncdaaGreatG8
namespace Go.Proofs.YtmjjjfamipncdaaGreat
open Go.RowKit
set_option linter.unusedVariables false
set_option linter.unusedSimpArgs false
section
variable {P:Program} {T:J0} {w:World} {O:Objs} {m:Hands} {n:Nat}
theorem Zja {base n size:Nat} {e:TypeId} {v:Value} {xs:List Value} (h:w.ownsRow base e size v n xs):Ul v=v.ownBlock:=by
 rcases h.2 with ⟨rfl,_⟩ | ⟨g,cap,cur,rfl,_⟩ <;> rfl
theorem Zqs {w:World} {t:TypeId} {sz k:Nat} {v:Value} {xs:List Value} (h:w.ownsRow 0 t sz v k xs):∃ A c,v = .slice A k c:=by
 rcases h.2 with ⟨e,e9⟩ | ⟨g,cap,cur,e,_⟩
 ·exact ⟨none,0,by rw [e];congr 1;omega⟩
 exact ⟨_,cap,e⟩
theorem Zzo (base:Nat) (t ty e:TypeId) (i:TypeInfo) (size:Nat) (ht:P.underlying t=some (.slice e)) (hi:P.info? e=some i)
  (v:Value) (n:Nat) (xs:List Value) (hown:w.ownsRow base e size v n xs) (A:Option Addr) (c:Nat):(Builtin.append_ #[t,t] ty #[v,.slice A 0 c]).run P w = .ok v w:=by
 rcases hown.2 with ⟨rfl,rfl⟩ | ⟨g,cap,cur,rfl,_,_,hn,_⟩ <;> cases A <;>
  simp [Builtin.append_,run_underlying ht,sizeOf,typeInfo,hi,Builtin.lenOf,Builtin.firstCells,storeCells,loadCells,loadCellsFrom] <;> omega
def Zu9 (O:Objs) (sz:Nat):G→Option (Nat×List G)
 | .sl k cs=>some (k,cs)
 | .row i k=>match O i with
  | some o=>if o.row=true∧k=o.n then some (k,o.cells) else none
  | none=>none
 | .rs i off k=>match O i with
  | some o=>if o.row=true then none else some (k,(o.cells.drop off).take (k * sz))
  | none=>none
 | .val (.slice none 0 _)=>some (0,[])
 | _=>none
theorem Ztr (hM:Mem w O m n) {x:G} {v:Value} {sz k:Nat} {cs:List G} (hx:x.rep w O m n v) (h:Zu9 O sz x=some (k,cs)) :
  ∃ A c vs,v = .slice A k c∧G.reps w O m n cs vs∧(k≠0→∃ ad,A=some ad∧∀ j u,vs[j]? = some u→w.cell? (ad.add j)=some u):=by
 unfold Zu9 at h
 split at h
 ·simp only [Option.some.injEq,Prod.mk.injEq] at h
  obtain ⟨rfl,rfl⟩:=h
  simp only [G.rep] at hx
  obtain ⟨A,c,rfl,_,vs,hr,ha⟩:=hx
  refine ⟨A,c,vs,rfl,hr,fun hk => ?_⟩
  obtain ⟨g,off,e,_,_,hc⟩:=ha hk
  exact ⟨_,e,fun j u hu=>by rw [Zar];exact hc j u hu⟩
 ·rename_i i k'
  split at h
  ·rename_i o ho
   split at h
   ·rename_i hc
    simp only [Option.some.injEq,Prod.mk.injEq] at h
    obtain ⟨rfl,rfl⟩:=h
    simp only [G.rep] at hx
    have hv:=(hx.2.2 o ho).2 hc.2 hc.1
    obtain ⟨vs,hr,hy⟩:=hM.obj i o ho
    rw [if_pos hc.1] at hy
    rcases hy.2 with ⟨e1,e2⟩ | ⟨b,cap,cur,e1,_,hh,h1,h2,h3,h4⟩
    ·rw [e1] at hv
     have hk0:k'=0:=by omega
     subst hk0
     exact ⟨none,0,vs,hv.symm,hr,fun hk=>absurd rfl hk⟩
    rw [e1] at hv
    refine ⟨_,_,vs,by rw [← hv,hc.2],hr,fun _=>⟨_,rfl,fun j u hu => ?_⟩⟩
    rw [Zar,Nat.zero_add,cell_of_row w b j _ _ (0,0) hh]
    rw [← h4,List.getElem?_take] at hu
    split at hu
    ·rw [Array.getElem?_toList] at hu;exact hu
    cases hu
   cases h
  cases h
 ·rename_i i off k'
  split at h
  ·rename_i o ho
   split at h
   ·cases h
   rename_i hrow
   have hrow':o.row=false:=by simpa using hrow
   simp only [Option.some.injEq,Prod.mk.injEq] at h
   obtain ⟨rfl,rfl⟩:=h
   simp only [G.rep] at hx
   obtain ⟨b,c,e1,rfl,hkc⟩:=hx.2.2 o ho hrow'
   obtain ⟨vs,hr,hy⟩:=hM.obj i o ho
   simp only [hrow',Bool.false_eq_true,if_false] at hy
   obtain ⟨b',e2,hh⟩:=hy
   rw [e1] at e2
   injection e2 with e2
   injection e2 with e2
   injection e2 with e2
   subst e2
   refine ⟨_,_,(vs.drop off).take (k' * sz),rfl,Kp _ _ _ (Vs _ _ _ hr),fun _=>⟨_,rfl,fun j u hu => ?_⟩⟩
   rw [Zar,cell_of_row w b _ _ _ (0,0) hh]
   rw [List.getElem?_take] at hu
   split at hu
   ·rw [List.getElem?_drop] at hu;simpa using hu
   cases hu
  cases h
 ·simp only [Option.some.injEq,Prod.mk.injEq] at h
  obtain ⟨rfl,rfl⟩:=h
  simp only [G.rep] at hx
  subst hx
  exact ⟨_,_,[],rfl,rfl,fun h=>absurd rfl h⟩
 cases h
def Zdo (T:J0) (t:TypeId) (s x:G) (O:Objs) (n:Nat):Option (Prop×G×Objs×Nat) :=
 match Z9 T t with
 | some (.slice e)=>match T e with
  | some ie=>if ie.size=0 then none else match Zu9 O ie.size x with
   | some (mm,cs)=>match s with
    | .val (.slice none 0 0)=>some (cs.length=mm * ie.size∧cs.all G.one=true∧mm * ie.bytes≤140737488355328∧mm≤140737488355328,.row n mm,O.upd n (some ⟨true,e,ie.size,mm,cs⟩),n+1)
    | .row i k=>match O i with
     | some o=>if o.row=true∧k=o.n∧o.ty=e∧o.sz=ie.size then
       some (cs.length=mm * ie.size∧cs.all G.one=true∧(k+mm) * ie.bytes≤140737488355328∧k+mm≤140737488355328,.row i (k+mm),O.upd i (some ⟨true,e,ie.size,k+mm,o.cells++cs⟩),n) else none
     | none=>none
    | _=>none
   | none=>none
  | none=>none
 | _=>none
theorem Zta {t ty e:TypeId} {i:TypeInfo} {z:Value} (ht:P.underlying t=some (.slice e)) (hi:P.info? e=some i) (hz:i.zero=some z) (hzs:z.cells.size=i.size) (hsz:0 < i.size)
  {v:Value} {k mm c:Nat} {xs news:List Value} {A:Option Addr} (hown:w.ownsRow 0 e i.size v k xs) (hl:news.length=mm * i.size) (h1:∀ u∈news,u.oneCell'=true)
  (hA:mm≠0→∃ ad,A=some ad∧∀ j u,news[j]? = some u→w.cell? (ad.add j)=some u) (hb:(k+mm) * i.bytes≤140737488355328) (h63:k+mm≤140737488355328) :
  ∃ v' w',(Builtin.append_ #[t,t] ty #[v,.slice A mm c]).run P w = .ok v' w'∧w'.ownsRow 0 e i.size v' (k+mm) (xs++news)∧w.grownBy w' v.ownBlock∧(v'.ownBlock=v.ownBlock∨v'.ownBlock=some w.heap.size)∧(mm=0→v'=v):=by
 by_cases h0:mm=0
 ·subst h0
  have hn:news=[]:=List.eq_nil_of_length_eq_zero (by omega)
  subst hn
  exact ⟨v,w,Zzo 0 t ty e i i.size ht hi v k xs hown A c,by simpa using hown,World.grownBy.refl w _,.inl rfl,fun _=>rfl⟩
 obtain ⟨ad,rfl,hc⟩:=hA h0
 obtain ⟨v',w',g1,g2,g3,g4,g5⟩:=run_append_own_at (P:=P) w 0 t ty e i z i.size i.bytes ht hi hz rfl rfl hzs hsz v k xs hown ad mm c news hl hc h1 (by unfold maxLen;omega) hb (Nat.zero_le _)
 exact ⟨v',w',g1,g2,g3,g5,fun h=>absurd h h0⟩
theorem Zu6 (hT:Ql P T) (hM:Mem w O m n) {t ty:TypeId} {s x g:G} {vs vx:Value} {S:Prop} {O':Objs} {n':Nat} (hs:s.rep w O m n vs) (hx:x.rep w O m n vx) (h:Zdo T t s x O n=some (S,g,O',n')) (hS:S) :
  Does P w O m n (Builtin.append_ #[t,t] ty #[vs,vx]) g O' n':=by
 unfold Zdo at h
 split at h
 ·rename_i e hk
  have hu:=Qv hT hk
  simp only [TK.ok] at hu
  split at h
  ·rename_i ie hie
   obtain ⟨inf,z,e1,e2,e3,e4,e5⟩:=(hT e ie hie).info
   have hzs:z.cells.size=inf.size:=by have:=(hT e ie hie).len;rw [← e5] at this;rw [e2];simpa using this
   split at h
   ·cases h
   rename_i hsz
   split at h
   ·rename_i mm cs hsrc
    obtain ⟨A,c,news,rfl,hr,hA⟩:=Ztr hM hx hsrc
    have hl:=Qx _ _ hr
    split at h
    ·simp only [Option.some.injEq,Prod.mk.injEq] at h
     obtain ⟨rfl,rfl,rfl,rfl⟩:=h
     simp only [G.rep] at hs
     subst hs
     have hown:w.ownsRow 0 e inf.size (.slice none 0 0) 0 []:=World.ownsRow_nil w 0 e inf.size
     obtain ⟨v',w',g1,g2,g3,g4,_⟩:=Zta (ty:=ty) (c:=c) hu e1 e4 hzs (by omega) hown (by rw [← hl,e2];exact hS.1) (Zet _ _ hr hS.2.1) hA (by rw [e3,Nat.zero_add];exact hS.2.2.1) (by rw [Nat.zero_add];exact hS.2.2.2)
     have hb:∀ b,b < w.heap.size→¬ (n < n∧Ul (m n)=some b)→w'.heap[b]? = w.heap[b]? := fun b hb _=>g3.block b hb (by simp [Value.ownBlock])
     have hh:∀ b,Ul v'=some b→b < w.heap.size→n < n∧Ul (m n)=some b:=fun b hb hlt=>by
      rw [Zja g2] at hb
      rcases g4 with h | h
      ·rw [h] at hb;cases hb
      rw [h] at hb;injection hb with hb;omega
     have hE:=Ext.upd (w':=w') hM n ⟨true,e,ie.size,mm,cs⟩ v' (Nat.le_refl _) (fun h=>absurd h (Nat.lt_irrefl _)) g3.os g3.tape g3.output g3.size hb hh (n+1) (Nat.le_succ _)
     have hM':=Mem.upd hM n ⟨true,e,ie.size,mm,cs⟩ v' (Nat.le_refl _) (fun h=>absurd h (Nat.lt_irrefl _)) hb hh (n+1) (Nat.le_succ _) (Nat.lt_succ_self _) hE
      ⟨news,G.reps_ext hE _ _ hr,by rw [if_pos rfl];simpa [e2] using g2⟩
     refine ⟨_,_,_,g1,hM',hE,Zda _ _ _ _ _ _ _ _ _ ?_⟩
     have hg:=Zqs g2
     rwa [Nat.zero_add] at hg
    ·rename_i i k
     split at h
     ·rename_i o ho
      split at h
      ·rename_i hc
       obtain ⟨c1,c2,c3,c4⟩:=hc
       simp only [Option.some.injEq,Prod.mk.injEq] at h
       obtain ⟨rfl,rfl,rfl,rfl⟩:=h
       simp only [G.rep] at hs
       have hv:=(hs.2.2 o ho).2 c2 c1
       obtain ⟨xs,hxs,hy⟩:=hM.obj i o ho
       rw [if_pos c1,c3,c4,hv,← c2,← e2] at hy
       obtain ⟨v',w',g1,g2,g3,g4,g5⟩:=Zta (ty:=ty) (c:=c) hu e1 e4 hzs (by omega) hy (by rw [← hl,e2];exact hS.1) (Zet _ _ hr hS.2.1) hA (by rw [e3];exact hS.2.2.1) hS.2.2.2
       have hbv:=Zja hy
       have hb:∀ b,b < w.heap.size→¬ (i < n∧Ul (m i)=some b)→w'.heap[b]? = w.heap[b]? := fun b hb hne=>g3.block b hb (fun he=>hne ⟨hs.1,by rw [hv,hbv,he]⟩)
       have hh:∀ b,Ul v'=some b→b < w.heap.size→i < n∧Ul (m i)=some b:=fun b hb hlt=>by
        rw [Zja g2] at hb
        rcases g4 with h | h
        ·rw [h] at hb;exact ⟨hs.1,by rw [hv,hbv,hb]⟩
        rw [h] at hb;injection hb with hb;omega
       have hE:=Ext.upd (w':=w') hM i ⟨true,e,ie.size,k+mm,o.cells++cs⟩ v' (Nat.le_of_lt hs.1) (fun _=>⟨o,ho,c1.symm,by simp only;omega,fun hq=>by
        rcases hq with hq | hq
        ·rw [hv];exact g5 (by simp only at hq;omega)
        cases hq⟩) g3.os g3.tape g3.output g3.size hb hh n (Nat.le_refl _)
       have hM':=Mem.upd hM i ⟨true,e,ie.size,k+mm,o.cells++cs⟩ v' (Nat.le_of_lt hs.1) (fun _=>⟨o,ho⟩) hb hh n (Nat.le_refl _) hs.1 hE
        ⟨xs++news,G.reps_ext hE _ _ (Vg _ _ _ _ hxs hr),by rw [if_pos rfl];rw [e2] at g2;exact g2⟩
       refine ⟨_,_,_,g1,hM',hE,?_⟩
       simp only [G.rep]
       refine ⟨hs.1,?_,fun o' ho' => ?_⟩
       ·exact Zqs g2
       rw [Yj] at ho'
       injection ho' with ho'
       subst ho'
       exact ⟨Nat.le_refl _,fun _ _=>Zad _ _ _⟩
      cases h
     cases h
    cases h
   cases h
  cases h
 cases h
end
theorem Zvg {P:Program} {w:World} {t tn ty e:TypeId} {i:TypeInfo} {z:Value} {kq kn:IntKind} (ht:P.underlying t=some (.slice e)) (htn:P.underlying tn=some (.int kn)) (hi:P.info? e=some i) (hz:i.zero=some z)
  (hzs:z.cells.size=i.size) (hsz:0 < i.size) {m:Nat} (h1:∀ u∈(Builtin.zeroCells z.cells m).toList,u.oneCell'=true) {v:Value} {n:Nat} {xs:List Value} (hown:w.ownsRow 0 e i.size v n xs) (hb:(n+m) * i.bytes≤140737488355328) (h63:n+m≤140737488355328) :
  ∃ v' w',(Builtin.append_ #[t,tn] ty #[v,.int kq m]).run P w = .ok v' w'∧w'.ownsRow 0 e i.size v' (n+m) (xs++(Builtin.zeroCells z.cells m).toList)∧w.grownBy w' v.ownBlock∧(v'.ownBlock=v.ownBlock∨v'.ownBlock=some w.heap.size)∧(m=0→v'=v):=by
 have hw:IntKind.i64.wrap (m:Int)=m:=by rw [IntKind.wrap_i64];omega
 have hneg:¬ ((m:Int) < 0):=by omega
 have hmb:m * i.bytes≤140737488355328:=Nat.le_trans (Nat.mul_le_mul_right _ (by omega)) hb
 have h48i:¬ (281474976710656 < (m:Int) * (i.bytes:Int)):=by rw [← Int.natCast_mul];omega
 have hl:(Builtin.zeroCells z.cells m).toList.length=m * i.size:=by rw [Array.length_toList,size_zeroCells,hzs]
 have hlen:(xs++(Builtin.zeroCells z.cells m).toList).length=(n+m) * i.size:=by rw [List.length_append,hown.1,hl,Nat.add_mul]
 have grown:∀ (old:Nat),old < n+m→∀ (row:Option Nat),
   (w.drew.alloc (.cells (xs.toArray++Builtin.zeroCells z.cells m++Builtin.zeroCells z.cells (grownCap w (n+m) old e - (n+m))) e)).ownsRow 0 e i.size
    (.slice (some ⟨w.heap.size,0,none⟩) (n+m) (grownCap w (n+m) old e)) (n+m) (xs++(Builtin.zeroCells z.cells m).toList) ∧
   w.grownBy (w.drew.alloc (.cells (xs.toArray++Builtin.zeroCells z.cells m++Builtin.zeroCells z.cells (grownCap w (n+m) old e - (n+m))) e)) row:=by
  intro old ho row
  have hge:=grownCap_ge w (n+m) old e
  have hcm:grownCap w (n+m) old e≤maxLen:=grownCap_le_maxLen w (n+m) old e (by unfold maxLen;omega)
  refine ⟨⟨hlen,.inr ⟨w.heap.size,_,_,rfl,Nat.zero_le _,heap_alloc_new w.drew _,hge,hcm,?_,?_⟩⟩,⟨rfl,rfl,rfl,by simp,fun k hk _=>heap_alloc_old w.drew _ hk⟩⟩
  ·simp only [Array.size_append,List.size_toArray,size_zeroCells,hzs,hown.1,← Nat.add_mul]
   congr 1
   omega
  simp only [Array.toList_append,List.append_assoc]
  rw [← List.append_assoc,← hlen]
  exact List.take_left
 have ho:=hown
 rcases hown.2 with ⟨rfl,rfl⟩ | ⟨g,cap,cur,rfl,hbg,hg,hnc,hcm,hcs,htake⟩
 ·have hx:xs=[]:=List.eq_nil_of_length_eq_zero (by simpa using hown.1)
  subst hx
  by_cases hm:m=0
  ·subst hm
   have hn0:(Builtin.zeroCells z.cells 0).toList=[]:=List.eq_nil_of_length_eq_zero (by rw [hl,Nat.zero_mul])
   refine ⟨.slice none 0 0,w,?_,by rw [hn0];exact World.ownsRow_nil w 0 e i.size,⟨rfl,rfl,rfl,Nat.le_refl _,fun _ _ _=>rfl⟩,Or.inl rfl,fun _=>rfl⟩
   simp [Builtin.append_,run_underlying ht,run_underlying htn,sizeOf,typeInfo,hi,asInt,asIntOf,show IntKind.i64.wrap 0=0 from rfl]
  have hr:=Lib.run_append_nil_zeros (P:=P) w t tn ty e i z kq kn ht htn hi hz m (by omega) hsz (by omega) (by omega)
  have hgr:=grown 0 (by omega) (Value.ownBlock (.slice none 0 0))
  simp only [Nat.zero_add,List.nil_append,Array.empty_append] at hgr ⊢
  exact ⟨_,_,hr,hgr.1,hgr.2,Or.inr rfl,fun h=>absurd h hm⟩
 by_cases hroom:n+m≤cap
 ·have hfit:n * i.size+(Builtin.zeroCells z.cells m).toList.length≤cur.size:=by rw [hl,hcs,← Nat.add_mul];exact Nat.mul_le_mul_right _ hroom
  have hst:=run_storeCells_at P g (n * i.size) e (Builtin.zeroCells z.cells m).toList 0 cur w hg (by simpa using hfit) h1
  simp only [Nat.add_zero] at hst
  have hr:(Builtin.append_ #[t,tn] ty #[.slice (some ⟨g,0,none⟩) n cap,.int kq m]).run P w = .ok (.slice (some ⟨g,0,none⟩) (n+m) cap) (w.setRow g (cur.toList.take (n * i.size)++(Builtin.zeroCells z.cells m).toList++cur.toList.drop (n * i.size+(Builtin.zeroCells z.cells m).toList.length)).toArray):=by
   by_cases hms:m * i.size=0
   ·have hz0:Builtin.zeroCells z.cells m=#[]:=Array.eq_empty_of_size_eq_zero (by rw [size_zeroCells,hzs,hms])
    rw [hz0] at hst ⊢
    simp [Builtin.append_,run_underlying ht,run_underlying htn,sizeOf,typeInfo,hi,asInt,asIntOf,hw,hneg,h48i,hroom,hms,Addr.add_lit] at hst ⊢
    rw [hst]
    rfl
   simp [Builtin.append_,run_underlying ht,run_underlying htn,sizeOf,typeInfo,zeroValue,hi,hz,asInt,asIntOf,hw,hneg,h48i,hroom,hms,Addr.add_lit,hst]
  refine ⟨_,_,hr,⟨hlen,.inr ⟨g,cap,_,rfl,hbg,Zsg w g cur _ e hg,hroom,hcm,?_,?_⟩⟩,⟨rfl,rfl,rfl,by simp,fun k _ hk=>Zip w g _ (fun e=>hk (by simp [Value.ownBlock,e]))⟩,Or.inl rfl,fun h=>by rw [h];rfl⟩
  ·simp only [List.size_toArray,List.length_append,List.length_take,List.length_drop,Array.length_toList] at hfit ⊢
   omega
  rw [htake,← hlen]
  exact List.take_left
 have hm0:0 < m:=by omega
 have holds:∀ j u,xs[j]? = some u→w.cell? ((⟨g,0,none⟩:Addr).add j)=some u:=ho.cells (g:=g) rfl
 have hold:(Builtin.firstCells i.size n (.slice (some ⟨g,0,none⟩) n cap)).run P w.drew = .ok xs.toArray w.drew:=run_firstCells_some (P:=P) w.drew i.size n ⟨g,0,none⟩ n cap xs hown.1 holds
 have hr:=Lib.run_append_grow_zeros (P:=P) w t tn ty e i z kq kn ht htn hi hz (some ⟨g,0,none⟩) n cap xs hold m hm0 hsz (by omega) (by omega) (by omega) (growslice_fits (by omega) hb)
 have hgr:=grown cap (by omega) (Value.ownBlock (.slice (some ⟨g,0,none⟩) n cap))
 exact ⟨_,_,hr,hgr.1,hgr.2,Or.inr rfl,fun h=>by omega⟩
theorem Zo9 {α:Type} {x:α} {l:List α}:∀ {m:Nat},x∈(List.replicate m l).flatten→x∈l
 | 0,h=>by simp at h
 | m+1,h=>by
  rw [List.replicate_succ,List.flatten_cons,List.mem_append] at h
  rcases h with h | h
  ·exact h
  exact Zo9 h
theorem Zj6 {z:Array Value} {m:Nat}:(Builtin.zeroCells z m).toList=(List.replicate m z.toList).flatten:=by
 have:=Zai z z.size m rfl
 rw [← this]
 rfl
def Zbr (T:J0) (t t':TypeId) (s x:G) (O:Objs) (n:Nat):Option (Prop×G×Objs×Nat) :=
 match Z9 T t,Z9 T t',x with
 | some (.slice e),some (.int _),.val (.int _ m)=>match T e with
  | some ie=>if ie.size=0 then none else match s with
   | .row i k=>match O i with
    | some o=>if o.row=true∧k=o.n∧o.ty=e∧o.sz=ie.size then
      some (0≤m∧(ie.zero.map G.val).all G.one=true∧(k+m.toNat) * ie.bytes≤140737488355328∧k+m.toNat≤140737488355328,.row i (k+m.toNat),O.upd i (some ⟨true,e,ie.size,k+m.toNat,o.cells++(List.replicate m.toNat (ie.zero.map .val)).flatten⟩),n) else none
    | none=>none
   | .sl k cs=>if m=0 then some (True,.sl k cs,O,n) else none
   | _=>none
  | none=>none
 | _,_,_=>none
theorem Z91 {P:Program} {w:World} {t tn ty e:TypeId} {i:TypeInfo} {kq kn:IntKind} (ht:P.underlying t=some (.slice e)) (htn:P.underlying tn=some (.int kn)) (hi:P.info? e=some i) (A:Option Addr) {k c:Nat} (hk:k≤c) :
  (Builtin.append_ #[t,tn] ty #[.slice A k c,.int kq 0]).run P w = .ok (.slice A k c) w:=by
 cases A with
 | none=>simp [Builtin.append_,run_underlying ht,run_underlying htn,sizeOf,typeInfo,hi,asInt,asIntOf,show IntKind.i64.wrap 0=0 from rfl,hk]
 | some a=>simp [Builtin.append_,run_underlying ht,run_underlying htn,sizeOf,typeInfo,hi,asInt,asIntOf,show IntKind.i64.wrap 0=0 from rfl,hk,storeCells]
section
variable {P:Program} {T:J0} {w:World} {O:Objs} {m:Hands} {n:Nat}
theorem Ztl (hT:Ql P T) (hM:Mem w O m n) {t t' ty:TypeId} {s x g:G} {vs vx:Value} {S:Prop} {O':Objs} {n':Nat} (hs:s.rep w O m n vs) (hx:x.rep w O m n vx) (h:Zbr T t t' s x O n=some (S,g,O',n')) (hS:S) :
  Does P w O m n (Builtin.append_ #[t,t'] ty #[vs,vx]) g O' n':=by
 unfold Zbr at h
 split at h
 ·rename_i e kn kq l hk hk'
  have hu:=Qv hT hk
  have hu':=Qv hT hk'
  simp only [TK.ok] at hu hu'
  simp only [G.rep] at hx
  subst hx
  split at h
  ·rename_i ie hie
   obtain ⟨inf,z,e1,e2,e3,e4,e5⟩:=(hT e ie hie).info
   have hzs:z.cells.size=inf.size:=by have:=(hT e ie hie).len;rw [← e5] at this;rw [e2];simpa using this
   split at h
   ·cases h
   rename_i hsz
   split at h
   ·rename_i i k
    split at h
    ·rename_i o ho
     split at h
     ·rename_i hc
      obtain ⟨c1,c2,c3,c4⟩:=hc
      simp only [Option.some.injEq,Prod.mk.injEq] at h
      obtain ⟨rfl,rfl,rfl,rfl⟩:=h
      obtain ⟨s0,s1,s2,s3⟩:=hS
      obtain ⟨q,rfl⟩:=Int.eq_ofNat_of_zero_le s0
      rw [Int.toNat_natCast] at s2 s3 ⊢
      simp only [G.rep] at hs
      have hv:=(hs.2.2 o ho).2 c2 c1
      obtain ⟨xs,hxs,hy⟩:=hM.obj i o ho
      rw [if_pos c1,c3,c4,hv,← c2,← e2] at hy
      have hr:G.reps w O m n (List.replicate q (ie.zero.map .val)).flatten (List.replicate q z.cells.toList).flatten:=by rw [← e5];exact Zln _ _ _ (Ze3 _)
      have hone:∀ u∈(List.replicate q z.cells.toList).flatten,u.oneCell'=true:=fun u hu=>Zet _ _ (Ze3 (w:=w) (O:=O) (m:=m) (n:=n) z.cells.toList) (by rw [e5];exact s1) u (Zo9 hu)
      obtain ⟨v',w',g1,g2,g3,g4,g5⟩:=Zvg (ty:=ty) (kq:=kq) (kn:=kn) hu hu' e1 e4 hzs (by omega) (by rw [Zj6];exact hone) hy (by rw [e3];exact s2) s3
      rw [Zj6] at g2
      have hbv:=Zja hy
      have hb:∀ b,b < w.heap.size→¬ (i < n∧Ul (m i)=some b)→w'.heap[b]? = w.heap[b]? := fun b hb hne=>g3.block b hb (fun he=>hne ⟨hs.1,by rw [hv,hbv,he]⟩)
      have hh:∀ b,Ul v'=some b→b < w.heap.size→i < n∧Ul (m i)=some b:=fun b hb hlt=>by
       rw [Zja g2] at hb
       rcases g4 with h | h
       ·rw [h] at hb;exact ⟨hs.1,by rw [hv,hbv,hb]⟩
       rw [h] at hb;injection hb with hb;omega
      have hE:=Ext.upd (w':=w') hM i ⟨true,e,ie.size,k+q,o.cells++(List.replicate q (ie.zero.map .val)).flatten⟩ v' (Nat.le_of_lt hs.1) (fun _=>⟨o,ho,c1.symm,by simp only;omega,fun hq=>by
       rcases hq with hq | hq
       ·rw [hv];exact g5 (by simp only at hq;omega)
       cases hq⟩) g3.os g3.tape g3.output g3.size hb hh n (Nat.le_refl _)
      have hM':=Mem.upd hM i ⟨true,e,ie.size,k+q,o.cells++(List.replicate q (ie.zero.map .val)).flatten⟩ v' (Nat.le_of_lt hs.1) (fun _=>⟨o,ho⟩) hb hh n (Nat.le_refl _) hs.1 hE
       ⟨xs++(List.replicate q z.cells.toList).flatten,G.reps_ext hE _ _ (Vg _ _ _ _ hxs hr),by rw [if_pos rfl];rw [e2] at g2;exact g2⟩
      refine ⟨_,_,_,g1,hM',hE,?_⟩
      simp only [G.rep]
      refine ⟨hs.1,?_,fun o' ho' => ?_⟩
      ·exact Zqs g2
      rw [Yj] at ho'
      injection ho' with ho'
      subst ho'
      exact ⟨Nat.le_refl _,fun _ _=>Zad _ _ _⟩
     cases h
    cases h
   ·rename_i k cs
    split at h
    ·rename_i hm0
     subst hm0
     simp only [Option.some.injEq,Prod.mk.injEq] at h
     obtain ⟨rfl,rfl,rfl,rfl⟩:=h
     have hs':=hs
     simp only [G.rep] at hs'
     obtain ⟨A,c,rfl,hk,_⟩:=hs'
     exact Does.same hM (Z91 hu hu' e1 A hk) hs
    cases h
   cases h
  cases h
 cases h
end
end Go.Proofs.YtmjjjfamipncdaaGreat
