/- Part G8 of the ghost memory: lemmas and contracts used by the proofs of this seat's laws; each theorem bears its own conditions. -/
import Derived.Test.YtmjjjfamipncdaaGreatG7
namespace Go.Proofs.YtmjjjfamipncdaaGreat
open Go.RowKit
set_option linter.unusedVariables false
set_option linter.unusedSimpArgs false
section
variable {P:Program} {T:J0} {w:World} {O:Objs} {m:Hands} {n:Nat}
theorem Mem.newRow (hM:Mem w O m n) (t:TypeId) (sz k c:Nat) (cells:List G) (vs:List Value) (cur:Array Value) (hr:G.reps w O m n cells vs) (h1:vs.length=k * sz) (hkc:k≤c) (hc:c≤maxLen) (hcur:cur.size=c * sz) (htake:cur.toList.take (k * sz)=vs) :
  Mem (w.alloc (.cells cur t)) (O.upd n (some ⟨true,t,sz,k,cells⟩)) (m.upd n (.slice (some ⟨w.heap.size,0,none⟩) k c)) (n+1) ∧
  Ext w O m n (w.alloc (.cells cur t)) (O.upd n (some ⟨true,t,sz,k,cells⟩)) (m.upd n (.slice (some ⟨w.heap.size,0,none⟩) k c)) (n+1):=by
 have hb:∀ b,b < w.heap.size→¬ (n < n∧Ul (m n)=some b)→(w.alloc (.cells cur t)).heap[b]? = w.heap[b]? := fun b hb _=>Below.heap_alloc w _ b hb
 have hh:∀ b,Ul (.slice (some ⟨w.heap.size,0,none⟩) k c)=some b→b < w.heap.size→n < n∧Ul (m n)=some b:=fun b hb hlt=>by
  simp [Ul] at hb;omega
 have hE:Ext w O m n (w.alloc (.cells cur t)) (O.upd n (some ⟨true,t,sz,k,cells⟩)) (m.upd n (.slice (some ⟨w.heap.size,0,none⟩) k c)) (n+1) :=
  Ext.upd (w':=w.alloc (.cells cur t)) hM n _ _ (Nat.le_refl _) (fun h=>absurd h (Nat.lt_irrefl _)) rfl rfl rfl (by simp) hb hh (n+1) (Nat.le_succ _)
 refine ⟨Mem.upd hM n _ _ (Nat.le_refl _) (fun h=>absurd h (Nat.lt_irrefl _)) hb hh _ (by omega) (by omega) hE ?_,hE⟩
 refine ⟨vs,G.reps_ext hE _ _ hr,?_⟩
 exact ⟨h1,.inr ⟨w.heap.size,c,cur,rfl,Nat.zero_le _,heap_alloc_new w _,hkc,hc,hcur,htake⟩⟩
theorem Zda (w:World) (O:Objs) (m:Hands) (n:Nat) (t:TypeId) (sz k:Nat) (cells:List G) (v:Value) (hv:∃ A c,v = .slice A k c) :
  (G.row n k).rep w (O.upd n (some ⟨true,t,sz,k,cells⟩)) (m.upd n v) (n+1) v:=by
 simp only [G.rep]
 refine ⟨by omega,hv,fun o ho => ?_⟩
 rw [Yj] at ho
 injection ho with ho
 subst ho
 exact ⟨Nat.le_refl _,fun _ _=>Zad _ _ _⟩
theorem Z1e (w:World) (O:Objs) (m:Hands) (n:Nat) (t:TypeId) (sz k:Nat) (cells:List G) (b:Nat) :
  (G.ref n 0).rep w (O.upd n (some ⟨false,t,sz,k,cells⟩)) (m.upd n (.pointer (some ⟨b,0,none⟩))) (n+1) (.pointer (some ⟨b,0,none⟩)):=by
 simp only [G.rep]
 exact ⟨by omega,rfl,fun o ho _=>⟨b,Zad _ _ _,rfl⟩⟩
theorem Zsc (hM:Mem w O m n) (t:TypeId) (sz:Nat) (cells:List G) (vs:Array Value) (hr:G.reps w O m n cells vs.toList) (s:Sem Value) (hs:s.run P w = .ok (.pointer (some ⟨w.heap.size,0,none⟩)) (w.alloc (.cells vs t))) :
  Does P w O m n s (.ref n 0) (O.upd n (some ⟨false,t,sz,1,cells⟩)) (n+1):=by
 obtain ⟨h1,h2⟩:=Mem.new (w:=w) hM t sz 1 false cells vs.toList hr (fun h=>by cases h)
 simp only [Bool.false_eq_true,if_false,Array.toArray_toList] at h1 h2
 exact ⟨_,_,_,hs,h1,h2,Z1e _ _ _ _ _ _ _ _ _⟩
def Zfq (T:J0) (t:TypeId) (O:Objs) (n:Nat):Option (G×Objs×Nat) :=
 match T t with
 | some i=>some (.ref n 0,O.upd n (some ⟨false,t,i.size,1,i.zero.map .val⟩),n+1)
 | none=>none
theorem Zx2 (hT:Ql P T) (hM:Mem w O m n) {t:TypeId} {g:G} {O':Objs} {n':Nat} (h:Zfq T t O n=some (g,O',n')):Does P w O m n (Instr.alloc t true (.tuple #[])) g O' n':=by
 unfold Zfq at h
 split at h
 ·rename_i i hi
  simp only [Option.some.injEq,Prod.mk.injEq] at h
  obtain ⟨rfl,rfl,rfl⟩:=h
  obtain ⟨inf,z,e1,e2,e3,e4,e5⟩:=(hT t i hi).info
  exact Zsc hM t _ _ z.cells (by rw [← e5];exact Ze3 _) _ (by simp [Instr.alloc,zeroValue,typeInfo,e1,e4,newVar,newRow])
 cases h
def Zu7 (t:TypeId) (x:G) (O:Objs) (n:Nat):Option (G×Objs×Nat) :=
 match Qi x with
 | some cs=>some (.ref n 0,O.upd n (some ⟨false,t,cs.length,1,cs⟩),n+1)
 | none=>none
theorem Z2n (hM:Mem w O m n) {t:TypeId} {x g:G} {v:Value} (hx:x.rep w O m n v) {O':Objs} {n':Nat} (h:Zu7 t x O n=some (g,O',n')):Does P w O m n (Instr.box t v) g O' n':=by
 unfold Zu7 at h
 split at h
 ·rename_i cs hc
  simp only [Option.some.injEq,Prod.mk.injEq] at h
  obtain ⟨rfl,rfl,rfl⟩:=h
  exact Zsc hM t _ _ v.cells (Zei hx hc) _ (by simp [Instr.box,newVar,newRow])
 cases h
theorem Zai:∀ (z:Array Value) (sz k:Nat),z.size=sz→(madeCells z (k * sz)).toList=(List.replicate k z.toList).flatten:=by
 intro z sz k hz
 refine List.ext_getElem? fun j => ?_
 subst hz
 rw [Array.getElem?_toList]
 by_cases hj:j < k * z.size
 ·have h0:0 < z.size:=by
   rcases Nat.eq_zero_or_pos z.size with h | h
   ·rw [h,Nat.mul_zero] at hj;omega
   exact h
  have hm:j % z.size < z.size:=Nat.mod_lt _ h0
  have:(madeCells z (k * z.size))[j]? = some z[j % z.size]:=by
   simp [madeCells,hj,hm]
  rw [this]
  clear this
  induction k generalizing j with
  | zero=>simp at hj
  | succ k ih =>
   rw [List.replicate_succ,List.flatten_cons,List.getElem?_append]
   split
   ·rename_i h
    have h':j < z.size:=by simpa using h
    simp [Nat.mod_eq_of_lt h',h']
   rename_i h
   have h':z.size≤j:=by simpa using h
   have hj':j - z.size < k * z.size:=by rw [Nat.succ_mul] at hj;omega
   have e:j % z.size=(j - z.size) % z.size:=(Nat.mod_eq_sub_mod h')
   have:=ih (j - z.size) hj' (Nat.mod_lt _ h0)
   simp only [Array.length_toList]
   rw [← this]
   simp only [e]
 rw [List.getElem?_eq_none (by simp [List.length_flatten];omega)]
 exact Array.getElem?_eq_none (by simp [size_madeCells];omega)
theorem Zln:∀ (k:Nat) (l:List G) (vs:List Value),G.reps w O m n l vs→G.reps w O m n (List.replicate k l).flatten (List.replicate k vs).flatten
 | 0,l,vs,h=>rfl
 | k+1,l,vs,h=>by
  rw [List.replicate_succ,List.replicate_succ,List.flatten_cons,List.flatten_cons]
  exact Vg _ _ _ _ h (Zln k l vs h)
def Zo2 (T:J0) (t:TypeId) (l c:Int) (O:Objs) (n:Nat):Option (Prop×G×Objs×Nat) :=
 match Z9 T t with
 | some (.slice e)=>match T e with
  | some ie=>some (0≤l∧l≤c∧(ie.bytes:Int) * c≤140737488355328∧c≤140737488355328,.row n l.toNat,O.upd n (some ⟨true,e,ie.size,l.toNat,(List.replicate l.toNat (ie.zero.map .val)).flatten⟩),n+1)
  | none=>none
 | _=>none
theorem Z0c (hT:Ql P T) (hM:Mem w O m n) {t:TypeId} {l c:Int} {kl kc:IntKind} {g:G} {S:Prop} {O':Objs} {n':Nat} (h:Zo2 T t l c O n=some (S,g,O',n')) (hS:S):Does P w O m n (Instr.makeSlice t (.int kl l) (.int kc c)) g O' n':=by
 unfold Zo2 at h
 split at h
 ·rename_i e hk
  split at h
  ·rename_i ie hie
   simp only [Option.some.injEq,Prod.mk.injEq] at h
   obtain ⟨rfl,rfl,rfl,rfl⟩:=h
   obtain ⟨inf,z,e1,e2,e3,e4,e5⟩:=(hT e ie hie).info
   have hu:=Qv hT hk
   simp only [TK.ok] at hu
   have hrun:=run_make (P:=P) w t e inf z hu e1 e4 kl kc l c hS.1 hS.2.1 (by rw [e3];omega) (by omega)
   have hzs:z.cells.size=ie.size:=by have:=(hT e ie hie).len;rw [← e5] at this;simpa using this
   have hcells:=Zai z.cells ie.size c.toNat hzs
   have hcells':=Zai z.cells ie.size l.toNat hzs
   have hlc:l.toNat≤c.toNat:=by omega
   have htake:(madeCells z.cells (c.toNat * ie.size)).toList.take (l.toNat * ie.size)=(List.replicate l.toNat z.cells.toList).flatten:=by
    rw [← hcells']
    refine List.ext_getElem? fun j => ?_
    have hle:l.toNat * ie.size≤c.toNat * ie.size:=Nat.mul_le_mul_right _ hlc
    rw [List.getElem?_take]
    split
    ·rename_i hj
     simp [madeCells,hj,Nat.lt_of_lt_of_le hj hle]
    rename_i hj
    rw [List.getElem?_eq_none (by simp [size_madeCells];omega)]
   obtain ⟨h1,h2⟩:=Mem.newRow hM e ie.size l.toNat c.toNat (List.replicate l.toNat (ie.zero.map .val)).flatten (List.replicate l.toNat z.cells.toList).flatten (madeCells z.cells (c.toNat * ie.size))
    (by rw [← e5];exact Zln _ _ _ (Ze3 _)) (by simp [List.length_flatten,hzs]) hlc (by unfold maxLen;omega) (size_madeCells _ _) htake
   rw [e2] at hrun
   exact ⟨_,_,_,hrun,h1,h2,Zda _ _ _ _ _ _ _ _ _ ⟨_,_,rfl⟩⟩
  cases h
 cases h
def K0 (T:J0) (t:TypeId) (len:Nat) (ps:List (Nat×G)) (O:Objs) (n:Nat):Option (G×Objs×Nat) :=
 match Z9 T t with
 | some (.slice e)=>match T e with
  | some ie=>if len=0 then (if ps=[] then some (.row n 0,O.upd n (some ⟨true,e,ie.size,0,[]⟩),n+1) else none) else if len * ie.size > 2 ^ 24∨len * ie.size=0 then none else match Zgc (fun i=>some (i * ie.size,ie.size)) (List.replicate len (ie.zero.map .val)).flatten ps with
   | some c=>if c.length=len * ie.size then some (.row n len,O.upd n (some ⟨true,e,ie.size,len,c⟩),n+1) else none
   | none=>none
  | none=>none
 | _=>none
theorem Zot (hT:Ql P T) (hM:Mem w O m n) {t:TypeId} {len:Nat} {ps:List (Nat×G)} {us:Array (Nat×Value)} {g:G} {O':Objs} {n':Nat} (h1:ps.map (·.1)=us.toList.map (·.1)) (h2:G.reps w O m n (ps.map (·.2)) (us.toList.map (·.2)))
  (h:K0 T t len ps O n=some (g,O',n')):Does P w O m n (Instr.buildSlice t len us) g O' n':=by
 unfold K0 at h
 split at h
 ·rename_i e hk
  split at h
  ·rename_i ie hie
   split at h
   ·rename_i hl0
    subst hl0
    split at h
    ·rename_i hps
     subst hps
     simp only [Option.some.injEq,Prod.mk.injEq] at h
     obtain ⟨rfl,rfl,rfl⟩:=h
     obtain ⟨inf,z,e1,e2,e3,e4,e5⟩:=(hT e ie hie).info
     have hu:=Qv hT hk
     simp only [TK.ok] at hu
     have hus:us.toList=[]:=by
      have:=congrArg List.length h1
      simp at this
      exact List.eq_nil_of_length_eq_zero (by simpa using this.symm)
     have hrun:(Instr.buildSlice t 0 us).run P w = .ok (.slice (some ⟨w.heap.size,0,none⟩) 0 0) (w.alloc (.cells #[] e)):=by
      have hr0:Array.range 0=(#[]:Array Nat):=Array.eq_empty_of_size_eq_zero (by simp)
      simp [Instr.buildSlice,run_underlying hu,sizeOf,typeInfo,e1,hus,Instr.fill,newRow,hr0]
     obtain ⟨g1,g2⟩:=Mem.newRow hM e ie.size 0 0 [] [] #[] rfl (by simp) (Nat.le_refl _) (Nat.zero_le _) (by simp) (by simp)
     exact ⟨_,_,_,hrun,g1,g2,Zda _ _ _ _ _ _ _ _ _ ⟨_,_,rfl⟩⟩
    cases h
   split at h
   ·cases h
   rename_i hsz
   split at h
   ·rename_i c hc
    split at h
    ·rename_i hcl
     simp only [Option.some.injEq,Prod.mk.injEq] at h
     obtain ⟨rfl,rfl,rfl⟩:=h
     obtain ⟨inf,z,e1,e2,e3,e4,e5⟩:=(hT e ie hie).info
     have hu:=Qv hT hk
     simp only [TK.ok] at hu
     have hzs:z.cells.size=ie.size:=by have:=(hT e ie hie).len;rw [← e5] at this;simpa using this
     have hz0:G.reps w O m n (List.replicate len (ie.zero.map .val)).flatten (madeCells z.cells (len * ie.size)).toList:=by
      rw [Zai z.cells ie.size len hzs,← e5]
      exact Zln _ _ _ (Ze3 _)
     obtain ⟨c',hf,hr⟩:=Zfc _ ps us.toList _ _ c hz0 h1 h2 hc
     have hrun:=run_buildSlice (P:=P) w t e len us c' inf z hu e1 e4 (by rw [e2];omega) (by rw [e2];omega) (by rw [e2];exact hf)
     have hl:=Qx _ _ hr
     have hlc:c'.toList.length=c'.size:=by simp
     have hlm:len≤2 ^ 24:=by
      rcases Nat.eq_zero_or_pos ie.size with h0 | h0
      ·rw [h0] at hsz;omega
      have:=Nat.le_mul_of_pos_right len h0;omega
     obtain ⟨g1,g2⟩:=Mem.newRow hM e ie.size len len c c'.toList c' hr (by omega) (Nat.le_refl _) (by unfold maxLen;omega) (by omega) (by rw [List.take_of_length_le (by omega)])
     exact ⟨_,_,_,hrun,g1,g2,Zda _ _ _ _ _ _ _ _ _ ⟨_,_,rfl⟩⟩
    cases h
   cases h
  cases h
 cases h
def Zu8 (T:J0) (t:TypeId) (O:Objs) (x:G):Option G :=
 match Z9 T t,x with
 | some (.slice _),.sl k _=>some (.val (.int .i64 k))
 | some (.slice _),.row i k=>some (.val (.int .i64 k))
 | some (.slice _),.rs i off k=>some (.val (.int .i64 k))
 | some (.slice _),.val (.slice none k _)=>some (.val (.int .i64 k))
 | some .str,.val (.string s)=>some (.val (.int .i64 s.size))
 | some (.arr len _),_=>some (.val (.int .i64 len))
 | _,_=>none
def Kf (O:Objs):G→Prop
 | .row _ _=>True
 | g=>X2 O g
theorem Z2p (hT:Ql P T) (hM:Mem w O m n) {t:TypeId} {x g:G} {v:Value} (hx:x.rep w O m n v) (hl:Kf O x) (h:Zu8 T t O x=some g) (ty:TypeId):∃ u,(Builtin.len_ #[t] ty #[v]).run P w = .ok u w∧g.rep w O m n u:=by
 unfold Zu8 at h
 split at h <;> simp only [Option.some.injEq,reduceCtorEq] at h
 all_goals
  rename_i hk
  have hu:=Qv hT hk
  simp only [TK.ok] at hu
  subst h
  try simp only [G.rep] at hx
 ·obtain ⟨A,c,rfl,_⟩:=hx
  exact ⟨_,by simp [Builtin.len_,run_underlying hu,goInt],rfl⟩
 ·obtain ⟨A,c,rfl⟩:=hx.2.1
  exact ⟨_,by simp [Builtin.len_,run_underlying hu,goInt],rfl⟩
 ·rename_i i off k
  obtain ⟨o,ho,hrow⟩:=hl
  obtain ⟨b,c,_,rfl,_⟩:=hx.2.2 o ho hrow
  exact ⟨_,by simp [Builtin.len_,run_underlying hu,goInt],rfl⟩
 ·subst hx
  exact ⟨_,by simp [Builtin.len_,run_underlying hu,goInt],rfl⟩
 ·subst hx
  exact ⟨_,by simp [Builtin.len_,run_underlying hu,goInt],rfl⟩
 exact ⟨_,by simp [Builtin.len_,run_underlying hu,goInt],rfl⟩
end
end Go.Proofs.YtmjjjfamipncdaaGreat
