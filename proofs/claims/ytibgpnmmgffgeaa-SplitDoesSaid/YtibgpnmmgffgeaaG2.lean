/- Part G2 of the ghost memory: lemmas and contracts used by the proofs of this seat's laws; each theorem bears its own conditions. -/
import Derived.Test.YtibgpnmmgffgeaaG1
import Derived.Maps.AppendAt
import Derived.Great.BuildSlice
import Derived.Laws.StructEq
import Derived.ChangeKeysEq
import Derived.IntWalk
import Derived.Lib.AppendZeros
import Derived.Lib.AppendZerosOnto
import Derived.ProofKit
import Derived.OpenShut
import Derived.SizedLaws
import Derived.Deep.Slices
namespace Go.Proofs.Ytibgpnmmgffgeaa
open Go.RowKit
set_option linter.unusedVariables false
set_option linter.unusedSimpArgs false
section
variable {w w':World} {O:Objs} {m:Hands} {n:Nat}
theorem Z8 (O:Objs) (i:Nat) (o:Option GObj):O.upd i o i=o:=by simp [Objs.upd]
theorem Yv (O:Objs) {i j:Nat} (o:Option GObj) (h:j≠i):O.upd i o j=O j:=by simp [Objs.upd,h]
theorem Zan (m:Hands) (i:Nat) (v:Value):m.upd i v i=v:=by simp [Hands.upd]
theorem Zjd (m:Hands) {i j:Nat} (v:Value) (h:j≠i):m.upd i v j=m j:=by simp [Hands.upd,h]
theorem Zms {w:World} {g:Nat} {o:Obj} (h:w.heap[g]? = some o):g < w.heap.size:=by
 rcases Nat.lt_or_ge g w.heap.size with hlt | hge
 ·exact hlt
 rw [Array.getElem?_eq_none hge] at h;cases h
theorem Zzk {o:GObj} {h:Value} (hl:o.lies w O m n h):∀ b,Zam h=some b→b < w.heap.size:=by
 intro b hb
 obtain ⟨vs,_,hx⟩:=hl
 split at hx
 ·rcases hx.2 with ⟨rfl,_⟩ | ⟨g,cap,cur,rfl,_,hh,_⟩
  ·simp [Zam] at hb
  simp [Zam] at hb;subst hb;exact Zms hh
 obtain ⟨g,rfl,hh⟩:=hx
 simp [Zam] at hb;subst hb;exact Zms hh
theorem Ext.upd (hM:Mem w O m n) (i:Nat) (o':GObj) (h':Value) (hi:i≤n) (hold:i < n→∃ o,O i=some o∧o'.row=o.row∧o.n≤o'.n∧((o'.n=o.n∨o'.row=false)→h'=m i))
  (h1:w'.os=w.os) (h2:w'.tape=w.tape) (h3:w'.output=w.output) (h4:w.heap.size≤w'.heap.size) (hb:∀ b,b < w.heap.size→¬ (i < n∧Zam (m i)=some b)→w'.heap[b]? = w.heap[b]?)
  (hh:∀ b,Zam h'=some b→b < w.heap.size→i < n∧Zam (m i)=some b) (k:Nat) (hk:n≤k):Ext w O m n w' (O.upd i (some o')) (m.upd i h') k:=by
 refine ⟨h1,h2,h3,h4,hk,fun b hlt ho=>⟨hb b hlt fun hx => ?_,fun ⟨j,oj,hj,hbj⟩ => ?_⟩,fun j hj oj' hoj => ?_⟩
 ·obtain ⟨o,e,_⟩:=hold hx.1
  exact ho ⟨i,o,e,hx.2⟩
 ·by_cases e:j=i
  ·subst e
   rw [Zan] at hbj
   obtain ⟨hx,hy⟩:=hh b hbj hlt
   obtain ⟨o,e,_⟩:=hold hx
   exact ho ⟨j,o,e,hy⟩
  rw [Yv _ _ e] at hj
  rw [Zjd _ _ e] at hbj
  exact ho ⟨j,oj,hj,hbj⟩
 by_cases e:j=i
 ·subst e
  rw [Z8] at hoj
  obtain ⟨o,e1,e2,e3,e4⟩:=hold hj
  injection hoj with hoj
  subst hoj
  exact ⟨o,e1,e2,e3,fun h=>by rw [Zan];exact e4 h⟩
 rw [Yv _ _ e] at hoj
 exact ⟨oj',hoj,rfl,Nat.le_refl _,fun _=>Zjd _ _ e⟩
theorem Zgf (hM:Mem w O m n) {j:Nat} {oj:GObj} (hj:O j=some oj) {O':Objs} {m':Hands} {n':Nat} (hE:Ext w O m n w' O' m' n') (hb:∀ b,Zam (m j)=some b→w'.heap[b]? = w.heap[b]?):oj.lies w' O' m' n' (m j):=by
 obtain ⟨vs,hr,hx⟩:=hM.obj j oj hj
 refine ⟨vs,G.reps_ext hE _ _ hr,?_⟩
 split
 ·rename_i hrow
  rw [if_pos hrow] at hx
  refine ⟨hx.1,?_⟩
  rcases hx.2 with h0 | ⟨g,cap,cur,hv,hg,hh,a1,a2,a3,a4⟩
  ·exact .inl h0
  exact .inr ⟨g,cap,cur,hv,hg,by rw [hb g (by rw [hv];rfl)];exact hh,a1,a2,a3,a4⟩
 rename_i hrow
 rw [if_neg hrow] at hx
 obtain ⟨g,hv,hh⟩:=hx
 exact ⟨g,hv,by rw [hb g (by rw [hv];rfl)];exact hh⟩
theorem Mem.upd (hM:Mem w O m n) (i:Nat) (o':GObj) (h':Value) (hi:i≤n) (hold:i < n→∃ o,O i=some o)
  (hb:∀ b,b < w.heap.size→¬ (i < n∧Zam (m i)=some b)→w'.heap[b]? = w.heap[b]?)
  (hh:∀ b,Zam h'=some b→b < w.heap.size→i < n∧Zam (m i)=some b) (k:Nat) (hk:n≤k) (hik:i < k) (hE:Ext w O m n w' (O.upd i (some o')) (m.upd i h') k)
  (hl:o'.lies w' (O.upd i (some o')) (m.upd i h') k h'):Mem w' (O.upd i (some o')) (m.upd i h') k:=by
 refine ⟨fun j hj => ?_,fun j oj hj => ?_,fun a b oa ob c ha hb' hca hcb => ?_⟩
 ·rw [Yv _ _ (by omega)]
  exact hM.fresh j (by omega)
 ·by_cases e:j=i
  ·subst e
   rw [Z8] at hj
   injection hj with hj
   subst hj
   rw [Zan]
   exact hl
  rw [Yv _ _ e] at hj
  rw [Zjd _ _ e]
  refine Zgf hM hj hE fun b hbj=>hb b (Zzk (hM.obj j oj hj) b hbj) fun hx => ?_
  obtain ⟨o,ho⟩:=hold hx.1
  exact e (hM.apart j i oj o b hj ho hbj hx.2)
 have key:∀ x y (ox:GObj),x≠i→y=i→O x=some ox→Zam (m x)=some c→Zam h'=some c→False:=fun x y ox hx hy hox hcx hcy=>by
  obtain ⟨p,q⟩:=hh c hcy (Zzk (hM.obj x ox hox) c hcx)
  obtain ⟨o,ho⟩:=hold p
  exact hx (hM.apart x i ox o c hox ho hcx q)
 by_cases ea:a=i
 ·by_cases eb:b=i
  ·rw [ea,eb]
  rw [ea,Zan] at hca
  rw [Yv _ _ eb] at hb'
  rw [Zjd _ _ eb] at hcb
  exact (key b a ob eb ea hb' hcb hca).elim
 rw [Yv _ _ ea] at ha
 rw [Zjd _ _ ea] at hca
 by_cases eb:b=i
 ·rw [eb,Zan] at hcb
  exact (key a b oa ea eb ha hca hcb).elim
 rw [Yv _ _ eb] at hb'
 rw [Zjd _ _ eb] at hcb
 exact hM.apart a b oa ob c ha hb' hca hcb
theorem Mem.less (hM:Mem w O m n) (O':Objs) (n':Nat) (hO:∀ i,O' i=O i∨O' i=none) (hn:∀ i,n'≤i→O' i=none) (h:∀ (i:Nat) (o:GObj),O' i=some o→∀ vs,G.reps w O m n o.cells vs→G.reps w O' m n' o.cells vs):Mem w O' m n':=by
 have hs:∀ i o,O' i=some o→O i=some o:=fun i o h=>by rcases hO i with e | e <;> rw [e] at h <;> first | exact h | cases h
 refine ⟨hn,fun i o hi => ?_,fun i j oi oj b hi hj=>hM.apart i j oi oj b (hs _ _ hi) (hs _ _ hj)⟩
 obtain ⟨vs,hr,hx⟩:=hM.obj i o (hs _ _ hi)
 exact ⟨vs,h i o hi vs hr,hx⟩
theorem Mem.new (hM:Mem w O m n) (t:TypeId) (sz k:Nat) (row:Bool) (cells:List G) (vs:List Value) (hr:G.reps w O m n cells vs) (hk:row=true→vs.length=k * sz∧k≤maxLen) :
  Mem (w.alloc (.cells vs.toArray t)) (O.upd n (some ⟨row,t,sz,k,cells⟩)) (m.upd n (if row then .slice (some ⟨w.heap.size,0,none⟩) k k else .pointer (some ⟨w.heap.size,0,none⟩))) (n+1) ∧
  Ext w O m n (w.alloc (.cells vs.toArray t)) (O.upd n (some ⟨row,t,sz,k,cells⟩)) (m.upd n (if row then .slice (some ⟨w.heap.size,0,none⟩) k k else .pointer (some ⟨w.heap.size,0,none⟩))) (n+1):=by
 have hb:∀ b,b < w.heap.size→¬ (n < n∧Zam (m n)=some b)→(w.alloc (.cells vs.toArray t)).heap[b]? = w.heap[b]? := fun b hb _=>Below.heap_alloc w _ b hb
 have hh:∀ b,Zam (if row then .slice (some ⟨w.heap.size,0,none⟩) k k else .pointer (some ⟨w.heap.size,0,none⟩))=some b→b < w.heap.size→n < n∧Zam (m n)=some b:=fun b hb hlt=>by
  cases row <;> simp [Zam] at hb <;> omega
 have hE:Ext w O m n (w.alloc (.cells vs.toArray t)) (O.upd n (some ⟨row,t,sz,k,cells⟩)) (m.upd n (if row then .slice (some ⟨w.heap.size,0,none⟩) k k else .pointer (some ⟨w.heap.size,0,none⟩))) (n+1) :=
  Ext.upd (w':=w.alloc (.cells vs.toArray t)) hM n _ _ (Nat.le_refl _) (fun h=>absurd h (Nat.lt_irrefl _)) rfl rfl rfl (by simp) hb hh (n+1) (Nat.le_succ _)
 refine ⟨Mem.upd hM n _ _ (Nat.le_refl _) (fun h=>absurd h (Nat.lt_irrefl _)) hb hh _ (by omega) (by omega) hE ?_,hE⟩
 refine ⟨vs,G.reps_ext hE _ _ hr,?_⟩
 cases row with
 | false=>exact ⟨_,rfl,heap_alloc_new w _⟩
 | true =>
  obtain ⟨h1,h2⟩:=hk rfl
  exact ⟨h1,.inr ⟨w.heap.size,k,vs.toArray,rfl,Nat.zero_le _,heap_alloc_new w _,Nat.le_refl _,h2,by simpa using h1,by simp [← h1]⟩⟩
end
inductive TK where
 | int (k:IntKind)
 | bool
 | str
 | slice (e:TypeId)
 | ptr (e:TypeId)
 | struct (fs:List (Nat×TypeId))
 | arr (len:Nat) (e:TypeId)
def TK.isAgg:TK→Bool
 | .struct _ | .arr _ _=>true
 | _=>false
structure TyI where
 k:TK
 size:Nat
 bytes:Nat
 zero:List Value
 eq:Bool:=false
def EqTy (P:Program) (t:TypeId):Prop:=P.stoodInHeld t=false∧P.eqGuardType P.depth t=false∧(P.fieldsOf t).toList.all (fun f=>f.name != "_")=true
def TK.ok (P:Program) (t:TypeId):TK→Prop
 | .int k=>P.underlying t=some (.int k)
 | .bool=>P.underlying t=some .bool
 | .str=>P.underlying t=some .string
 | .slice e=>P.underlying t=some (.slice e)
 | .ptr e=>P.underlying t=some (.pointer e)
 | .struct fs=>∃ fields:Array Field,P.underlying t=some (.struct fields)∧fields.toList.map (fun f=>(f.offset,f.type))=fs
 | .arr n e=>P.underlying t=some (.array n e)
structure TyOk (P:Program) (t:TypeId) (i:TyI):Prop where
 info:∃ inf z,P.info? t=some inf∧inf.size=i.size∧inf.bytes=i.bytes∧inf.zero=some z∧z.cells.toList=i.zero
 und:i.k.ok P t
 len:i.zero.length=i.size
 one:∀ v∈i.zero,v.oneCell'=true
 cmp:i.eq=true→EqTy P t
abbrev Kv:=TypeId→Option TyI
def Qo (P:Program) (T:Kv):Prop:=∀ t i,T t=some i→TyOk P t i
theorem TyOk.isAgg {P:Program} {t:TypeId} {i:TyI} (h:TyOk P t i) (w:World):(isAgg t).run P w = .ok i.k.isAgg w:=by
 have hu:=h.und
 obtain ⟨k,_,_,_,_⟩:=i
 cases k <;> simp only [TK.ok] at hu <;> first
  | (simp [Go.isAgg,run_underlying hu,TK.isAgg];done)
  | (obtain ⟨f,hu,_⟩:=hu;simp [Go.isAgg,run_underlying hu,TK.isAgg])
theorem TyOk.sizeOf {P:Program} {t:TypeId} {i:TyI} (h:TyOk P t i) (w:World):(sizeOf t).run P w = .ok i.size w:=by
 obtain ⟨inf,z,h1,h2,_⟩:=h.info
 simp [Go.sizeOf,typeInfo,h1,h2]
def Zhy (T:Kv) (t:TypeId) (cs:List G) (off:Nat):Option G :=
 match T t with
 | none=>none
 | some i=>if i.k.isAgg then (if off+i.size≤cs.length then some (.agg ((cs.drop off).take i.size)) else none) else cs[off]?
section
variable {P:Program} {T:Kv} {w:World} {O:Objs} {m:Hands} {n:Nat}
theorem Zst (hT:Qo P T) {t:TypeId} {cs:List G} {vs:List Value} {off:Nat} {g:G} (hr:G.reps w O m n cs vs) (h:Zhy T t cs off=some g):∃ v,(part t vs.toArray off).run P w = .ok v w∧g.rep w O m n v:=by
 unfold Zhy at h
 cases hi:T t with
 | none=>simp [hi] at h
 | some i =>
  simp only [hi] at h
  have ha:=(hT t i hi).isAgg w
  have hs:=(hT t i hi).sizeOf w
  by_cases hk:i.k.isAgg=true
  ·rw [if_pos hk] at h
   split at h
   ·rename_i hl
    injection h with h
    subst h
    rw [hk] at ha
    refine ⟨.agg (vs.toArray.extract off (off+i.size)),by simp [part,ha,hs],?_⟩
    simp only [G.rep]
    refine ⟨_,rfl,?_⟩
    have:=Vz i.size _ _ (Gl off _ _ hr)
    simpa [Array.toList_extract,List.extract_eq_take_drop] using this
   cases h
  rw [if_neg hk] at h
  obtain ⟨v,hv,hg⟩:=Zm5 _ _ hr _ _ h
  have hk':i.k.isAgg=false:=by simpa using hk
  rw [hk'] at ha
  exact ⟨v,by simp [part,ha,hv],hg⟩
def Zgb (O:Objs):G→Option (List G×Nat)
 | .ip cs k=>some (cs,k)
 | .ref i off=>match O i with
  | some o=>if o.row then none else some (o.cells,off)
  | none=>none
 | .rp i k off=>match O i with
  | some o=>if o.row=true∧k=o.n then some (o.cells,off) else none
  | none=>none
 | _=>none
theorem Zph (hM:Mem w O m n) {g:G} {v:Value} (hg:g.rep w O m n v) {cs:List G} {off:Nat} (h:Zgb O g=some (cs,off)) :
  ∃ b o vs,v = .pointer (some ⟨b,o+off,none⟩)∧G.reps w O m n cs vs∧∀ j u,vs[j]? = some u→w.cell? ⟨b,o+j,none⟩=some u:=by
 cases g with
 | ip cs' k =>
  simp only [Zgb,Option.some.injEq,Prod.mk.injEq] at h
  obtain ⟨rfl,rfl⟩:=h
  simp only [G.rep] at hg
  obtain ⟨b,o,rfl,_,_,vs,hr,hc⟩:=hg
  exact ⟨b,o,vs,rfl,hr,hc⟩
 | ref i off' =>
  simp only [Zgb] at h
  cases hi:O i with
  | none=>simp [hi] at h
  | some o =>
   simp only [hi] at h
   by_cases hrow:o.row=true
   ·simp [hrow] at h
   have hrow':o.row=false:=by simpa using hrow
   simp only [hrow',Bool.false_eq_true,if_false,Option.some.injEq,Prod.mk.injEq] at h
   obtain ⟨rfl,rfl⟩:=h
   simp only [G.rep] at hg
   obtain ⟨b,e1,rfl⟩:=hg.2.2 o hi hrow'
   obtain ⟨vs,hr,hx⟩:=hM.obj i o hi
   simp only [hrow',Bool.false_eq_true,if_false] at hx
   obtain ⟨b',e2,hh⟩:=hx
   rw [e1] at e2
   injection e2 with e2
   injection e2 with e2
   injection e2 with e2
   subst e2
   refine ⟨b,0,vs,by simp,hr,fun j u hu => ?_⟩
   rw [Nat.zero_add,cell_of_row w b j _ _ (0,0) hh]
   simpa using hu
 | rp i k off' =>
  simp only [Zgb] at h
  cases hi:O i with
  | none=>simp [hi] at h
  | some o =>
   simp only [hi] at h
   by_cases hrow:o.row=true∧k=o.n
   ·rw [if_pos hrow] at h
    simp only [Option.some.injEq,Prod.mk.injEq] at h
    obtain ⟨rfl,rfl⟩:=h
    simp only [G.rep] at hg
    obtain ⟨b,c,e1,rfl⟩:=(hg.2.2 o hi).2 hrow.2 hrow.1
    obtain ⟨vs,hr,hx⟩:=hM.obj i o hi
    rw [if_pos hrow.1] at hx
    rw [e1] at hx
    rcases hx.2 with ⟨e2,_⟩ | ⟨b',cap,cur,e2,_,hh,h1,h2,h3,h4⟩
    ·cases e2
    injection e2 with e2 _ _
    injection e2 with e2
    injection e2 with e2
    subst e2
    refine ⟨b,0,vs,by simp,hr,fun j u hu => ?_⟩
    rw [Nat.zero_add,cell_of_row w b j _ _ (0,0) hh]
    have hj:j < vs.length:=by
     rcases Nat.lt_or_ge j vs.length with h | h
     ·exact h
     rw [List.getElem?_eq_none h] at hu;cases hu
    rw [← h4,List.getElem?_take,if_pos (by have:=hx.1;omega),Array.getElem?_toList] at hu
    exact hu
   rw [if_neg hrow] at h;cases h
 | _=>simp [Zgb] at h
def Zk9 (T:Kv) (O:Objs) (t:TypeId) (g:G):Option G :=
 match Zgb O g with
 | some (cs,off)=>Zhy T t cs off
 | none=>none
theorem Zss (hT:Qo P T) (hM:Mem w O m n) {t:TypeId} {a g:G} {v:Value} (hg:a.rep w O m n v) (h:Zk9 T O t a=some g):∃ u,(Instr.loadAt t v).run P w = .ok u w∧g.rep w O m n u:=by
 unfold Zk9 at h
 cases hc:Zgb O a with
 | none=>simp [hc] at h
 | some p =>
  obtain ⟨cs,off⟩:=p
  simp only [hc] at h
  obtain ⟨b,o,vs,rfl,hr,hcell⟩:=Zph hM hg hc
  unfold Zhy at h
  cases hi:T t with
  | none=>simp [hi] at h
  | some i =>
   simp only [hi] at h
   have ha:=(hT t i hi).isAgg w
   have hs:=(hT t i hi).sizeOf w
   by_cases hk:i.k.isAgg=true
   ·rw [if_pos hk] at h
    split at h
    ·rename_i hl
     injection h with h
     subst h
     rw [hk] at ha
     have hl2:((vs.drop off).take i.size).length=i.size:=by rw [Ju _ _ hr] at hl;simp;omega
     have hlo:=run_loadCells_list (P:=P) (w:=w) ⟨b,o+off,none⟩ ((vs.drop off).take i.size) fun j u hu=>by
      rw [show w.cell? ((⟨b,o+off,none⟩:Addr).add j)=w.cell? ⟨b,o+(off+j),none⟩ from by
       unfold Addr.add;split
       ·rename_i h0;rw [h0,Nat.add_zero]
       rw [Nat.add_assoc]]
      refine hcell _ _ ?_
      rw [List.getElem?_take] at hu
      split at hu
      ·rw [List.getElem?_drop] at hu;exact hu
      cases hu
     rw [hl2] at hlo
     refine ⟨.agg ((vs.drop off).take i.size).toArray,by simp only [Instr.loadAt,Instr.sureAddr,loadVar,Sem.run_bind,Sem.run_pure,Result.andThen_ok,ha,hs,hlo,Sem.run_ite,if_true],?_⟩
     simp only [G.rep]
     exact ⟨_,rfl,by simpa using Vz i.size _ _ (Gl off _ _ hr)⟩
    cases h
   rw [if_neg hk] at h
   obtain ⟨u,hv,hg'⟩:=Zm5 _ _ hr _ _ h
   have hk':i.k.isAgg=false:=by simpa using hk
   rw [hk'] at ha
   have:=hcell _ _ hv
   exact ⟨u,by simp [Instr.loadAt,Instr.sureAddr,loadVar,ha,this],hg'⟩
end
section
variable {P:Program} {T:Kv} {w:World} {O:Objs} {m:Hands} {n:Nat}
def Does (P:Program) (w:World) (O:Objs) (m:Hands) (n:Nat) (s:Sem Value) (g:G) (O':Objs) (n':Nat):Prop :=
 ∃ v w' m',s.run P w = .ok v w'∧Mem w' O' m' n'∧Ext w O m n w' O' m' n'∧g.rep w' O' m' n' v
theorem Does.same (hM:Mem w O m n) {s:Sem Value} {v:Value} {g:G} (h:s.run P w = .ok v w) (hg:g.rep w O m n v):Does P w O m n s g O n:=⟨v,w,m,h,hM,Ext.refl _ _ _ _,hg⟩
def Qp:G→Option (List G)
 | .agg cs=>some cs
 | .val (.agg vs)=>some (vs.toList.map .val)
 | g=>if g.one then some [g] else none
theorem Zx4:∀ vs:List Value,G.reps w O m n (vs.map .val) vs
 | []=>rfl
 | v::vs=>⟨v,vs,rfl,rfl,Zx4 vs⟩
theorem Z8c {v:Value} (h:v.oneCell'=true):v.cells=#[v]:=by cases v <;> first | rfl | simp [Value.oneCell'] at h
theorem Zia {g:G} {v:Value} {cs:List G} (hg:g.rep w O m n v) (h:Qp g=some cs):G.reps w O m n cs v.cells.toList:=by
 have key:g.one=true→cs=[g]→G.reps w O m n cs v.cells.toList:=fun h1 h2=>by
  subst h2
  rw [Z8c (Z7e hg h1)]
  exact ⟨v,[],rfl,hg,rfl⟩
 cases g with
 | agg cs' =>
  simp only [Qp,Option.some.injEq] at h
  subst h
  simp only [G.rep] at hg
  obtain ⟨vs,rfl,hr⟩:=hg
  exact hr
 | val u =>
  simp only [Qp] at h
  split at h
  ·rename_i heq;cases heq
  ·rename_i vs heq
   injection heq with heq
   subst heq
   injection h with h
   subst h
   simp only [G.rep] at hg
   subst hg
   exact Zx4 _
  split at h
  ·rename_i h1
   injection h with h
   exact key h1 h.symm
  cases h
 | any=>simp [Qp,G.one] at h
 | tup _=>simp [Qp,G.one] at h
 | when _ _=>simp [Qp,G.one] at h
 | _ =>
  simp only [Qp] at h
  split at h
  ·rename_i h1
   injection h with h
   exact key h1 h.symm
  cases h
def Jq (cells cs:List G) (off:Nat):Option (List G) :=
 if off+cs.length≤cells.length then some (cells.take off++cs++cells.drop (off+cs.length)) else none
def Znb (O:Objs) (cs:List G):G→Option Objs
 | .ref i off=>match O i with
  | some o=>if o.row then none else (Jq o.cells cs off).map fun c=>O.upd i (some { o with cells:=c })
  | none=>none
 | .rp i k off=>match O i with
  | some o=>if o.row=true∧k=o.n then (Jq o.cells cs off).map fun c=>O.upd i (some { o with cells:=c }) else none
  | none=>none
 | _=>none
def Zjn (T:Kv) (O:Objs) (t:TypeId) (a x:G):Option Objs :=
 match T t,Qp x with
 | some i,some cs=>if cs.length=i.size∧cs.all G.one=true then Znb O cs a else none
 | _,_=>none
theorem Zsy (w:World) (g:Nat) (cur c:Array Value) (t:TypeId) (h:w.heap[g]? = some (.cells cur t (0,0))):(w.setRow g c).heap[g]? = some (.cells c t (0,0)):=by
 simp [World.setRow,Array.getElem?_modify,h]
theorem Zk1 (w:World) (g:Nat) (c:Array Value) {b:Nat} (h:b≠g):(w.setRow g c).heap[b]? = w.heap[b]? := by
 simp [World.setRow,Array.getElem?_modify,Ne.symm h]
theorem Z3u {α:Type} (l vs:List α) (k off:Nat) (h:off+vs.length≤k) (hk:k≤l.length) :
  (l.take off++vs++l.drop (off+vs.length)).take k=(l.take k).take off++vs++(l.take k).drop (off+vs.length):=by
 have h1:(l.take off++vs).length=off+vs.length:=by simp;omega
 rw [List.take_append,h1,List.take_of_length_le (l:=l.take off++vs) (by omega),List.take_take,Nat.min_eq_left (by omega),List.drop_take]
theorem Zn9 (hM:Mem w O m n) {cs:List G} {vs:List Value} (hr:G.reps w O m n cs vs) (h1:∀ u∈vs,u.oneCell'=true) {a:G} {va:Value} (ha:a.rep w O m n va) {O':Objs} (h:Znb O cs a=some O') :
  ∃ ad w',va = .pointer (some ad)∧(storeCells ad vs).run P w = .ok () w'∧Mem w' O' m n∧Ext w O m n w' O' m n:=by
 have hl:=Ju _ _ hr
 have fin:∀ (i:Nat) (o:GObj) (b:Nat) (off:Nat) (cells:List G) (cur:Array Value),O i=some o→Zam (m i)=some b→w.heap[b]? = some (.cells cur o.ty (0,0))→off+vs.length≤cur.size →
   (∀ w',(∀ b',b'≠b→w'.heap[b']? = w.heap[b']?)→w'.heap[b]? = some (.cells (cur.toList.take off++vs++cur.toList.drop (off+vs.length)).toArray o.ty (0,0)) →
    Ext w O m n w' (O.upd i (some { o with cells })) m n→GObj.lies w' (O.upd i (some { o with cells })) m n { o with cells } (m i)) →
   O'=O.upd i (some { o with cells })→∃ ad w',(.pointer (some ⟨b,off,none⟩):Value) = .pointer (some ad)∧(storeCells ad vs).run P w = .ok () w'∧Mem w' O' m n∧Ext w O m n w' O' m n:=by
  intro i o b off cells cur hi hbm hh hle hlies hO
  subst hO
  have hrun:=run_storeCells_at P b off o.ty vs 0 cur w hh (by simpa using hle) h1
  have hin:i < n:=by
   rcases Nat.lt_or_ge i n with h | h
   ·exact h
   rw [hM.fresh i h] at hi;cases hi
  have hm:m.upd i (m i)=m:=funext fun j=>by unfold Hands.upd;split <;> simp_all
  have hb1:∀ b',b' < w.heap.size→¬ (i < n∧Zam (m i)=some b')→(w.setRow b (cur.toList.take (off+0)++vs++cur.toList.drop (off+0+vs.length)).toArray).heap[b']? = w.heap[b']? := fun b' _ hx =>
   Zk1 _ _ _ (fun e=>hx ⟨hin,by rw [e];exact hbm⟩)
  have hh1:∀ b',Zam (m i)=some b'→b' < w.heap.size→i < n∧Zam (m i)=some b':=fun b' h _=>⟨hin,h⟩
  have hE:=Ext.upd (w':=w.setRow b (cur.toList.take (off+0)++vs++cur.toList.drop (off+0+vs.length)).toArray) hM i { o with cells } (m i) (Nat.le_of_lt hin) (fun _=>⟨o,hi,rfl,Nat.le_refl _,fun _=>rfl⟩) rfl rfl rfl (by simp [World.setRow]) hb1 hh1 n (Nat.le_refl _)
  rw [hm] at hE
  have hM':=Mem.upd (w':=w.setRow b (cur.toList.take (off+0)++vs++cur.toList.drop (off+0+vs.length)).toArray) hM i { o with cells } (m i) (Nat.le_of_lt hin) (fun _=>⟨o,hi⟩) hb1 hh1 n (Nat.le_refl _) hin (by rw [hm];exact hE)
   (by rw [hm];exact hlies _ (fun b' hb'=>Zk1 _ _ _ hb') (by simpa using Zsy w b cur _ o.ty hh) hE)
  rw [hm] at hM'
  exact ⟨_,_,rfl,hrun,hM',hE⟩
 cases a with
 | ref i off =>
  simp only [Znb] at h
  cases hi:O i with
  | none=>simp [hi] at h
  | some o =>
   simp only [hi] at h
   by_cases hrow:o.row=true
   ·simp [hrow] at h
   have hrow':o.row=false:=by simpa using hrow
   rw [if_neg hrow] at h
   unfold Jq at h
   split at h
   ·rename_i hle
    simp only [Option.map_some,Option.some.injEq] at h
    simp only [G.rep] at ha
    obtain ⟨b,e1,rfl⟩:=ha.2.2 o hi hrow'
    obtain ⟨us,hus,hx⟩:=hM.obj i o hi
    simp only [hrow',Bool.false_eq_true,if_false] at hx
    obtain ⟨b',e2,hh⟩:=hx
    rw [e1] at e2
    injection e2 with e2
    injection e2 with e2
    injection e2 with e2
    subst e2
    have hlu:=Ju _ _ hus
    refine fin i o b off _ us.toArray hi (by rw [e1];rfl) hh (by rw [List.size_toArray];omega) (fun w' hb' hh' hE => ?_) h.symm
    refine ⟨us.take off++vs++us.drop (off+vs.length),?_,?_⟩
    ·refine G.reps_ext hE _ _ ?_
     rw [hl]
     exact U7 _ _ _ _ (U7 _ _ _ _ (Vz _ _ _ hus) hr) (Gl _ _ _ hus)
    simp only [hrow',Bool.false_eq_true,if_false]
    exact ⟨b,e1,hh'⟩
   cases h
 | rp i k off =>
  simp only [Znb] at h
  cases hi:O i with
  | none=>simp [hi] at h
  | some o =>
   simp only [hi] at h
   by_cases hrow:o.row=true∧k=o.n
   ·rw [if_pos hrow] at h
    simp only [Jq] at h
    split at h
    ·rename_i hle
     simp only [Option.map_some,Option.some.injEq] at h
     simp only [G.rep] at ha
     obtain ⟨b,c,e1,rfl⟩:=(ha.2.2 o hi).2 hrow.2 hrow.1
     obtain ⟨us,hus,hx⟩:=hM.obj i o hi
     rw [if_pos hrow.1] at hx
     obtain ⟨hx1,hx⟩:=hx
     rcases hx with ⟨e2,_⟩ | ⟨b',cap,cur,e2,hb0,hh,a1,a2,a3,a4⟩
     ·rw [e1] at e2;cases e2
     have e3:=e2
     rw [e1] at e3
     injection e3 with e3 _ _
     injection e3 with e3
     injection e3 with e3
     subst e3
     have hlu:=Ju _ _ hus
     have hsz:us.length≤cur.size:=by rw [← a4,List.length_take];simp;omega
     refine fin i o b off _ cur hi (by rw [e1];rfl) hh (by omega) (fun w' hb' hh' hE => ?_) h.symm
     refine ⟨us.take off++vs++us.drop (off+vs.length),?_,?_⟩
     ·refine G.reps_ext hE _ _ ?_
      rw [hl]
      exact U7 _ _ _ _ (U7 _ _ _ _ (Vz _ _ _ hus) hr) (Gl _ _ _ hus)
     rw [if_pos hrow.1]
     refine ⟨by simp;omega,.inr ⟨b,cap,_,e2,hb0,hh',a1,a2,by simp;omega,?_⟩⟩
     simp only [List.toList_toArray]
     have hkl:o.n * o.sz≤cur.toList.length:=by rw [Array.length_toList];omega
     exact (Z3u cur.toList vs (o.n * o.sz) off (by omega) hkl).trans (by rw [a4])
    cases h
   rw [if_neg hrow] at h;cases h
 | _=>simp [Znb] at h
end
section
variable {P:Program} {T:Kv} {w:World} {O:Objs} {m:Hands} {n:Nat}
def Zjf (k:IntKind) (x y:Int):Int:=((BitVec.ofInt k.bits x &&& BitVec.ofInt k.bits y).toNat:Nat)
def Zvc (k:IntKind) (x y:Int):Int:=((BitVec.ofInt k.bits x ||| BitVec.ofInt k.bits y).toNat:Nat)
def Zpp (k:IntKind) (x y:Int):Int:=((BitVec.ofInt k.bits x ^^^ BitVec.ofInt k.bits y).toNat:Nat)
def Zxw (k:IntKind) (x y:Int):Int:=((BitVec.ofInt k.bits x &&& ~~~ BitVec.ofInt k.bits y).toNat:Nat)
def Yu (T:Kv) (t:TypeId):Option TK:=(T t).map TyI.k
def Z2j (op:BinOp) (k:IntKind) (x:Int) (k':IntKind) (y:Int):Option (Prop×Value) :=
 match op with
 | .shl=>some (0≤y,.int k (k.wrap (x * 2 ^ min y.toNat k.bits)))
 | .shr=>some (0≤y,.int k (x.fdiv (2 ^ min y.toNat k.bits)))
 | .add=>if k=k' then some (True,.int k (k.wrap (x+y))) else none
 | .sub=>if k=k' then some (True,.int k (k.wrap (x - y))) else none
 | .mul=>if k=k' then some (True,.int k (k.wrap (x * y))) else none
 | .quo=>if k=k' then some (y≠0,.int k (k.wrap (x.tdiv y))) else none
 | .rem=>if k=k' then some (y≠0,.int k (x.tmod y)) else none
 | .and=>if k=k' then some (True,.int k (k.wrap (Zjf k x y))) else none
 | .or=>if k=k' then some (True,.int k (k.wrap (Zvc k x y))) else none
 | .xor=>if k=k' then some (True,.int k (k.wrap (Zpp k x y))) else none
 | .andNot=>if k=k' then some (True,.int k (k.wrap (Zxw k x y))) else none
 | .eql=>if k=k' then some (True,.bool (x == y)) else none
 | .neq=>if k=k' then some (True,.bool (x != y)) else none
 | .lss=>if k=k' then some (True,.bool (decide (x < y))) else none
 | .leq=>if k=k' then some (True,.bool (decide (x≤y))) else none
 | .gtr=>if k=k' then some (True,.bool (decide (x > y))) else none
 | .geq=>if k=k' then some (True,.bool (decide (x ≥ y))) else none
theorem Z4j {op:BinOp} {k k':IntKind} {x y:Int} {S:Prop} {v:Value} (h:Z2j op k x k' y=some (S,v)) (hS:S) (t:TypeId) (a b:Operand) :
  (do eqGuard op t a b (.int k x) (.int k' y);binOp op t (.int k x) (.int k' y):Sem Value).run P w = .ok v w:=by
 have hg:(eqGuard op t a b (.int k x) (.int k' y)).run P w = .ok () w:=by cases op <;> simp [eqGuard]
 rw [Sem.run_bind,hg,Result.andThen_ok]
 cases op <;> simp only [Z2j] at h
 case shl | shr =>
  simp only [Option.some.injEq,Prod.mk.injEq] at h
  obtain ⟨rfl,rfl⟩:=h
  have:¬ y < 0:=by omega
  simp [Go.binOp,Op.shift,this]
 all_goals
  split at h
  ·rename_i hk
   subst hk
   simp only [Option.some.injEq,Prod.mk.injEq] at h
   obtain ⟨rfl,rfl⟩:=h
   simp_all [Go.binOp,Op.intArith,Op.intBits,Op.intDiv,Op.intCmp,Zjf,Zvc,Zpp,Zxw]
  cases h
def Zod (k:IntKind):List G→Option (List Int)
 | []=>some []
 | .val (.int k' a)::r=>if k'=k then (Zod k r).map (a::·) else none
 | _=>none
theorem Zl3 {k:IntKind}:∀ (xs:List G) (as:List Int) (vs:List Value),Zod k xs=some as→G.reps w O m n xs vs→vs=as.map (Value.int k)
 | [],as,vs,h,hr=>by
  simp only [Zod,Option.some.injEq] at h
  subst h
  simpa [G.reps] using hr
 | g::r,as,vs,h,hr=>by
  unfold Zod at h
  split at h
  ·rename_i e;cases e
  ·rename_i k' a r' e
   injection e with e1 e2
   subst e1 e2
   split at h
   ·rename_i hk
    subst hk
    cases hq:Zod k' r with
    | none=>rw [hq] at h;cases h
    | some bs =>
     rw [hq] at h
     simp only [Option.map_some,Option.some.injEq] at h
     subst h
     simp only [G.reps,G.rep] at hr
     obtain ⟨u,us,rfl,rfl,hr⟩:=hr
     rw [Zl3 r bs us hq hr]
     rfl
   cases h
  cases h
mutual
def Zus (T:Kv):Nat→TypeId→List G→List G→Option Bool
 | 0,_,_,_=>none
 | d+1,t,xs,ys=>match T t with
  | none=>none
  | some i=>match i.k with
   | .int _=>match xs,ys with
    | [.val (.int k a)],[.val (.int k' b)]=>if k=k' then some (a == b) else none
    | _,_=>none
   | .bool=>match xs,ys with
    | [.val (.bool a)],[.val (.bool b)]=>some (a == b)
    | _,_=>none
   | .str=>match xs,ys with
    | [.val (.string a)],[.val (.string b)]=>some (a.toList == b.toList)
    | _,_=>none
   | .struct fs=>if i.eq=true then Zw5 T d fs xs ys else none
   | .arr len e=>match d,T e with
    | _+1,some ie=>match ie.k with
     | .int k=>match Zod k xs,Zod k ys with
      | some a,some b=>if a.length=len∧b.length=len∧ie.size=1 then some (a == b) else none
      | _,_=>none
     | _=>none
    | _,_=>none
   | _=>none
def Zw5 (T:Kv):Nat→List (Nat×TypeId)→List G→List G→Option Bool
 | _,[],_,_=>some true
 | 0,_::_,_,_=>none
 | d+1,(o,ft)::fs,xs,ys=>match T ft with
  | none=>none
  | some i=>match Zus T (d+1) ft ((xs.drop o).take i.size) ((ys.drop o).take i.size),Zw5 T (d+1) fs xs ys with
   | some a,some b=>if o+i.size≤xs.length∧o+i.size≤ys.length then some (a && b) else none
   | _,_=>none
end
def Zjk (agg:Bool) (vs:List Value) (x:Value):Prop:=if agg then x = .agg vs.toArray else vs=[x]
theorem Zom (hT:Qo P T) {t:TypeId} {i:TyI} (hi:T t=some i) (vs:List Value) (o:Nat) (h:o+i.size≤vs.length) (hone:i.k.isAgg=false→∃ x,(vs.drop o).take i.size=[x]):∃ x,(part t vs.toArray o).run P w = .ok x w∧Zjk i.k.isAgg ((vs.drop o).take i.size) x:=by
 have ha:=(hT t i hi).isAgg w
 have hs:=(hT t i hi).sizeOf w
 unfold Zjk
 cases hk:i.k.isAgg with
 | true =>
  rw [hk] at ha
  refine ⟨.agg (vs.toArray.extract o (o+i.size)),by simp [part,ha,hs],?_⟩
  rw [if_pos rfl]
  congr 1
  apply Array.ext'
  simp [Array.toList_extract,List.extract_eq_take_drop]
 | false =>
  rw [hk] at ha
  obtain ⟨x,hx⟩:=hone hk
  have h0:((vs.drop o).take i.size)[0]? = some x:=by rw [hx];rfl
  rw [List.getElem?_take] at h0
  split at h0
  ·rw [List.getElem?_drop,Nat.add_zero] at h0
   refine ⟨x,by simp [part,ha,h0],?_⟩
   rw [if_neg (by simp)]
   exact hx
  cases h0
theorem Zsr (hT:Qo P T) {e:TypeId} {ie:TyI} {k:IntKind} (he:T e=some ie) (hk:ie.k = .int k) (h1:ie.size=1) (d:Nat) (as bs:List Int):∀ (c j:Nat),j+c=as.length→j+c=bs.length →
  (Op.eqItems (d+1) e 1 (as.map (Value.int k)).toArray (bs.map (Value.int k)).toArray (List.range' j c)).run P w = .ok (as.drop j == bs.drop j) w
 | 0,j,ha,hb=>by
  simp [Op.eqItems,List.drop_eq_nil_of_le (show as.length≤j by omega),List.drop_eq_nil_of_le (show bs.length≤j by omega)]
 | c+1,j,ha,hb=>by
  have hu:=(hT e ie he).und
  rw [hk] at hu
  simp only [TK.ok] at hu
  have hp:∀ (cs:List Int),j < cs.length→∃ y,cs[j]? = some y∧(part e (cs.map (Value.int k)).toArray (j * 1)).run P w = .ok (.int k y) w:=fun cs hj=>by
   have e0:((cs.map (Value.int k)).drop j).take 1=[.int k cs[j]]:=by
    rw [List.drop_eq_getElem_cons (by rw [List.length_map];exact hj),List.getElem_map];rfl
   obtain ⟨x,q1,q2⟩:=Zom (w:=w) hT he (cs.map (Value.int k)) j (by rw [h1,List.length_map];omega) (fun _=>⟨_,by rw [h1];exact e0⟩)
   rw [hk,h1] at q2
   simp only [Zjk,TK.isAgg,Bool.false_eq_true,if_false] at q2
   rw [e0] at q2
   injection q2 with q2 _
   subst q2
   exact ⟨cs[j],List.getElem?_eq_getElem hj,by rw [Nat.mul_one];exact q1⟩
  obtain ⟨a,a1,a2⟩:=hp as (by omega)
  obtain ⟨b,b1,b2⟩:=hp bs (by omega)
  have da:as.drop j=a::as.drop (j+1):=by
   obtain ⟨hj,h⟩:=List.getElem?_eq_some_iff.1 a1
   rw [List.drop_eq_getElem_cons hj,h]
  have db:bs.drop j=b::bs.drop (j+1):=by
   obtain ⟨hj,h⟩:=List.getElem?_eq_some_iff.1 b1
   rw [List.drop_eq_getElem_cons hj,h]
  rw [List.range'_succ,da,db]
  simp only [Op.eqItems,Sem.run_bind,a2,b2,Result.andThen_ok,run_equalIn_int w d e k k a b hu]
  have ih:=Zsr hT he hk h1 d as bs c (j+1) (by omega) (by omega)
  cases hab:(a == b) with
  | false=>simp [hab]
  | true =>
   simp only [Bool.not_true,Bool.false_eq_true,if_false,ih]
   simp [hab]
theorem Z8g (hT:Qo P T):∀ (d:Nat),(∀ (D:Nat) (t:TypeId) (xs ys:List G) (b:Bool) (i:TyI) (vs us:List Value) (x y:Value),Zus T d t xs ys=some b→T t=some i→G.reps w O m n xs vs→G.reps w O m n ys us→Zjk i.k.isAgg vs x→Zjk i.k.isAgg us y →
  (Op.equalIn (D+d) t x y).run P w = .ok b w) ∧
  (∀ (D:Nat) (fs:List Field) (xs ys:List G) (b:Bool) (vs us:List Value),Zw5 T d (fs.map fun f=>(f.offset,f.type)) xs ys=some b→fs.all (fun f=>f.name != "_")=true→G.reps w O m n xs vs→G.reps w O m n ys us →
  (Op.eqFields (D+d) vs.toArray us.toArray fs).run P w = .ok b w):=by
 intro d
 induction d with
 | zero =>
  refine ⟨fun D t xs ys b i vs us x y h=>by simp [Zus] at h,fun D fs xs ys b vs us h hn hr hs => ?_⟩
  cases fs with
  | nil=>simp only [List.map_nil,Zw5,Option.some.injEq] at h;subst h;simp [Op.eqFields]
  | cons f fs=>simp [Zw5] at h
 | succ d ih =>
  have hS:∀ (D:Nat) (t:TypeId) (xs ys:List G) (b:Bool) (i:TyI) (vs us:List Value) (x y:Value),Zus T (d+1) t xs ys=some b→T t=some i→G.reps w O m n xs vs→G.reps w O m n ys us→Zjk i.k.isAgg vs x→Zjk i.k.isAgg us y →
    (Op.equalIn (D+(d+1)) t x y).run P w = .ok b w:=by
   intro D t xs ys b i vs us x y h hi hr hs hx hy
   have hok:=hT t i hi
   have hund:=hok.und
   unfold Zus at h
   simp only [hi] at h
   split at h
   ·rename_i k hk
    rw [hk] at hund hx hy
    simp only [TK.ok] at hund
    split at h
    ·split at h
     ·rename_i hkk
      subst hkk
      injection h with h
      simp only [G.reps,G.rep] at hr hs
      obtain ⟨_,_,rfl,rfl,rfl⟩:=hr
      obtain ⟨_,_,rfl,rfl,rfl⟩:=hs
      simp only [Zjk,TK.isAgg,Bool.false_eq_true,if_false,List.cons.injEq,and_true] at hx hy
      subst hx hy
      rw [← Nat.add_assoc,run_equalIn_int w _ t _ _ _ _ hund,h]
     cases h
    cases h
   ·rename_i hk
    rw [hk] at hund hx hy
    simp only [TK.ok] at hund
    split at h
    ·injection h with h
     simp only [G.reps,G.rep] at hr hs
     obtain ⟨_,_,rfl,rfl,rfl⟩:=hr
     obtain ⟨_,_,rfl,rfl,rfl⟩:=hs
     simp only [Zjk,TK.isAgg,Bool.false_eq_true,if_false,List.cons.injEq,and_true] at hx hy
     subst hx hy
     rw [← Nat.add_assoc,run_equalIn_bool' w _ t _ _ hund,h]
    cases h
   ·rename_i hk
    rw [hk] at hund hx hy
    simp only [TK.ok] at hund
    split at h
    ·injection h with h
     simp only [G.reps,G.rep] at hr hs
     obtain ⟨_,_,rfl,rfl,rfl⟩:=hr
     obtain ⟨_,_,rfl,rfl,rfl⟩:=hs
     simp only [Zjk,TK.isAgg,Bool.false_eq_true,if_false,List.cons.injEq,and_true] at hx hy
     subst hx hy
     rw [← Nat.add_assoc,run_equalIn_string w _ t _ _ hund,h]
    cases h
   ·rename_i fs hk
    rw [hk] at hund hx hy
    split at h
    ·rename_i heq
     obtain ⟨fields,hu,hm⟩:=hund
     obtain ⟨c1,c2,c3⟩:=hok.cmp heq
     simp only [Zjk,TK.isAgg,if_true] at hx hy
     subst hx hy
     have hf:P.fieldsOf t=fields:=by simp [Program.fieldsOf,hu]
     have hu':P.underlying t=some (.struct (P.fieldsOf t)):=by rw [hf];exact hu
     rw [← Nat.add_assoc,run_equalIn_struct w _ t _ _ hu' c1]
     rw [hf] at c3 ⊢
     rw [← hm] at h
     exact ih.2 D fields.toList xs ys b vs us h c3 hr hs
    cases h
   ·rename_i len e hk
    rw [hk] at hund hx hy
    simp only [TK.ok] at hund
    split at h
    ·rename_i d' ie he
     split at h
     ·rename_i k hke
      split at h
      ·rename_i a c ha hc
       split at h
       ·rename_i hl
        injection h with h
        have e1:=Zl3 _ _ _ ha hr
        have e2:=Zl3 _ _ _ hc hs
        simp only [Zjk,TK.isAgg,if_true] at hx hy
        subst hx hy e1 e2
        obtain ⟨inf,z,g1,g2,_⟩:=(hT e ie he).info
        have hcell:P.cellsOf e=1:=by
         have q1:=(hT e ie he).sizeOf w
         rw [run_sizeOf w g1] at q1
         injection q1 with q1
         rw [q1,hl.2.2]
        rw [← Nat.add_assoc,run_equalIn_array w _ _ _ hund g1,hcell,List.range_eq_range']
        have:=Zsr (w:=w) hT he hke hl.2.2 (D+d') a c len 0 (by omega) (by omega)
        rw [List.drop_zero,List.drop_zero,h] at this
        exact this
       cases h
      cases h
     cases h
    cases h
   cases h
  refine ⟨hS,fun D fs => ?_⟩
  induction fs with
  | nil=>intro xs ys b vs us h _ _ _;simp only [List.map_nil,Zw5,Option.some.injEq] at h;subst h;simp [Op.eqFields]
  | cons f fs ihf =>
   intro xs ys b vs us h hn hr hs
   simp only [List.map_cons,Zw5] at h
   rw [List.all_cons,Bool.and_eq_true] at hn
   split at h
   ·cases h
   rename_i i hi
   split at h
   ·rename_i p q h1 h2
    split at h
    ·rename_i hl
     injection h with h
     have hlx:=Ju _ _ hr
     have hly:=Ju _ _ hs
     have hr1:=Vz i.size _ _ (Gl f.offset _ _ hr)
     have hs1:=Vz i.size _ _ (Gl f.offset _ _ hs)
     have hone:∀ (zs:List G) (ws:List Value),G.reps w O m n zs ws→(∃ g,zs=[g])→∃ x,ws=[x]:=fun zs ws hz ⟨g,hg⟩=>by
      subst hg
      simp only [G.reps] at hz
      obtain ⟨u,us,rfl,_,rfl⟩:=hz
      exact ⟨u,rfl⟩
     have hsing:i.k.isAgg=false→(∃ g,(xs.drop f.offset).take i.size=[g])∧(∃ g,(ys.drop f.offset).take i.size=[g]):=fun hag=>by
      unfold Zus at h1
      simp only [hi] at h1
      split at h1
      ·split at h1
       ·rename_i e1 e2;exact ⟨⟨_,e1⟩,⟨_,e2⟩⟩
       cases h1
      ·split at h1
       ·rename_i e1 e2;exact ⟨⟨_,e1⟩,⟨_,e2⟩⟩
       cases h1
      ·split at h1
       ·rename_i e1 e2;exact ⟨⟨_,e1⟩,⟨_,e2⟩⟩
       cases h1
      ·rename_i hk;rw [hk] at hag;simp [TK.isAgg] at hag
      ·rename_i hk;rw [hk] at hag;simp [TK.isAgg] at hag
      cases h1
     obtain ⟨x,hx1,hx2⟩:=Zom (w:=w) hT hi vs f.offset (by omega) (fun hag=>hone _ _ hr1 (hsing hag).1)
     obtain ⟨y,hy1,hy2⟩:=Zom (w:=w) hT hi us f.offset (by omega) (fun hag=>hone _ _ hs1 (hsing hag).2)
     have hname:f.name≠"_":=by simpa using hn.1
     simp only [Op.eqFields,hname,ne_eq,not_false_eq_true,if_true,Sem.run_bind,hx1,hy1,Result.andThen_ok,hS D f.type _ _ _ i _ _ x y h1 hi hr1 hs1 hx2 hy2]
     cases p with
     | false=>rw [← h];simp
     | true =>
      rw [← h]
      simp only [Bool.not_true,Bool.false_eq_true,if_false,Bool.true_and]
      exact ihf xs ys q vs us h2 hn.2 hr hs
    cases h
   cases h
def Zs1 (T:Kv) (op:BinOp) (t:TypeId) (x y:G):Option (Prop×G) :=
 match x,y with
 | .val (.int k a),.val (.int k' b)=>(Z2j op k a k' b).map fun (S,v)=>(S,.val v)
 | .val (.bool a),.val (.bool b)=>match Yu T t,op with
  | some .bool,.eql=>some (True,.val (.bool (a == b)))
  | some .bool,.neq=>some (True,.val (.bool (a != b)))
  | _,_=>none
 | .val (.string a),.val (.string b)=>match op with
  | .eql=>some (True,.val (.bool (a.toList == b.toList)))
  | .neq=>some (True,.val (.bool (!(a.toList == b.toList))))
  | _=>none
 | .val (.pointer none),.val (.pointer none)=>match Yu T t,op with
  | some (.ptr _),.eql=>some (True,.val (.bool true))
  | some (.ptr _),.neq=>some (True,.val (.bool false))
  | _,_=>none
 | .ref _ _,.val (.pointer none)=>match Yu T t,op with
  | some (.ptr _),.eql=>some (True,.val (.bool false))
  | some (.ptr _),.neq=>some (True,.val (.bool true))
  | _,_=>none
 | .ip _ _,.val (.pointer none)=>match Yu T t,op with
  | some (.ptr _),.eql=>some (True,.val (.bool false))
  | some (.ptr _),.neq=>some (True,.val (.bool true))
  | _,_=>none
 | .val (.slice a _ _),.val (.slice none _ _)=>match Yu T t,op with
  | some (.slice _),.eql=>some (True,.val (.bool a.isNone))
  | some (.slice _),.neq=>some (True,.val (.bool (!a.isNone)))
  | _,_=>none
 | .agg xs,.agg ys=>match T t,Zus T 6 t xs ys with
  | some i,some b=>if i.k.isAgg=true∧i.eq=true then (match op with
   | .eql=>some (True,.val (.bool b))
   | .neq=>some (True,.val (.bool (!b)))
   | _=>none) else none
  | _,_=>none
 | _,_=>none
theorem Q8 (hT:Qo P T) {t:TypeId} {k:TK} (h:Yu T t=some k):k.ok P t:=by
 unfold Yu at h
 cases hi:T t with
 | none=>simp [hi] at h
 | some i=>simp [hi] at h;subst h;exact (hT t i hi).und
theorem Z4e {t:TypeId} (hu:P.underlying t=some .bool) (a b:Bool):(Op.equal t (.bool a) (.bool b)).run P w = .ok (a == b) w:=by
 unfold Op.equal
 rw [show Op.maxDepth=9999+1 from rfl,Op.equalIn]
 simp [run_underlying hu]
theorem Zrh {t e:TypeId} (hu:P.underlying t=some (.pointer e)) (b:Option Addr):(Op.equal t (.pointer b) (.pointer none)).run P w = .ok b.isNone w:=by
 unfold Op.equal
 rw [show Op.maxDepth=9999+1 from rfl,Op.equalIn]
 cases b <;> simp [run_underlying hu]
theorem Z4f {t e:TypeId} (hu:P.underlying t=some (.slice e)) (a:Option Addr) (n c n' c':Nat):(Op.equal t (.slice a n c) (.slice none n' c')).run P w = .ok a.isNone w:=by
 unfold Op.equal
 rw [show Op.maxDepth=9999+1 from rfl,Op.equalIn]
 cases a <;> simp [run_underlying hu]
theorem Z4g (hT:Qo P T) {op:BinOp} {t:TypeId} {x y g:G} {S:Prop} {a b:Value} (ha:x.rep w O m n a) (hb:y.rep w O m n b) (hlive:∀ i off,x = .ref i off→∃ o,O i=some o∧o.row=false) (h:Zs1 T op t x y=some (S,g)) (hS:S) (p q:Operand) :
  ∃ v,(do eqGuard op t p q a b;binOp op t a b:Sem Value).run P w = .ok v w∧g.rep w O m n v:=by
 unfold Zs1 at h
 split at h
 ·simp only [G.rep] at ha hb
  subst ha hb
  rename_i k x' k' y'
  cases hq:Z2j op k x' k' y' with
  | none=>simp [hq] at h
  | some r =>
   obtain ⟨S',v⟩:=r
   simp only [hq,Option.map_some,Option.some.injEq,Prod.mk.injEq] at h
   obtain ⟨rfl,rfl⟩:=h
   exact ⟨v,Z4j hq hS t p q,rfl⟩
 ·simp only [G.rep] at ha hb
  subst ha hb
  split at h <;> simp only [Option.some.injEq,Prod.mk.injEq,reduceCtorEq] at h
  all_goals
   rename_i hk
   obtain ⟨rfl,rfl⟩:=h
   have hu:P.underlying t=some .bool:=Q8 hT hk
   refine ⟨_,?_,rfl⟩
   simp [eqGuard,Go.binOp,Z4e hu,bne]
 ·simp only [G.rep] at ha hb
  subst ha hb
  split at h <;> simp only [Option.some.injEq,Prod.mk.injEq,reduceCtorEq] at h
  all_goals
   obtain ⟨rfl,rfl⟩:=h
   refine ⟨_,?_,rfl⟩
   simp [eqGuard,Go.binOp,Op.stringOp]
 ·simp only [G.rep] at ha hb
  subst ha hb
  split at h <;> simp only [Option.some.injEq,Prod.mk.injEq,reduceCtorEq] at h
  all_goals
   rename_i hk
   obtain ⟨rfl,rfl⟩:=h
   have hu:=Q8 hT hk
   simp only [TK.ok] at hu
   refine ⟨_,?_,rfl⟩
   simp [eqGuard,Go.binOp,Zrh hu]
 ·rename_i i off
  obtain ⟨o,ho,hrow⟩:=hlive i off rfl
  simp only [G.rep] at ha hb
  subst hb
  obtain ⟨b,_,rfl⟩:=ha.2.2 o ho hrow
  split at h <;> simp only [Option.some.injEq,Prod.mk.injEq,reduceCtorEq] at h
  all_goals
   rename_i hk
   obtain ⟨rfl,rfl⟩:=h
   have hu:=Q8 hT hk
   simp only [TK.ok] at hu
   refine ⟨_,?_,rfl⟩
   simp [eqGuard,Go.binOp,Zrh hu]
 ·rename_i cs off
  simp only [G.rep] at ha hb
  subst hb
  obtain ⟨b,o',rfl,_⟩:=ha
  split at h <;> simp only [Option.some.injEq,Prod.mk.injEq,reduceCtorEq] at h
  all_goals
   rename_i hk
   obtain ⟨rfl,rfl⟩:=h
   have hu:=Q8 hT hk
   simp only [TK.ok] at hu
   refine ⟨_,?_,rfl⟩
   simp [eqGuard,Go.binOp,Zrh hu]
 ·simp only [G.rep] at ha hb
  subst ha hb
  split at h <;> simp only [Option.some.injEq,Prod.mk.injEq,reduceCtorEq] at h
  all_goals
   rename_i hk
   obtain ⟨rfl,rfl⟩:=h
   have hu:=Q8 hT hk
   simp only [TK.ok] at hu
   refine ⟨_,?_,rfl⟩
   simp [eqGuard,Go.binOp,Z4f hu]
 ·rename_i xs ys
  simp only [G.rep] at ha hb
  obtain ⟨vs,rfl,hr⟩:=ha
  obtain ⟨us,rfl,hs⟩:=hb
  split at h
  ·rename_i i b' hi hq
   split at h
   ·rename_i hc
    obtain ⟨c1,c2,c3⟩:=(hT t i hi).cmp hc.2
    have key:=(Z8g (w:=w) (O:=O) (m:=m) (n:=n) hT 6).1 9994 t xs ys b' i _ _ (.agg vs) (.agg us) hq hi hr hs (by simp [Zjk,hc.1]) (by simp [Zjk,hc.1])
    have hg:=run_eqGuard_agg w op t p q vs us c2
    split at h <;> simp only [Option.some.injEq,Prod.mk.injEq,reduceCtorEq] at h
    ·obtain ⟨rfl,rfl⟩:=h
     refine ⟨_,?_,rfl⟩
     rw [Sem.run_bind,hg,Result.andThen_ok,run_eql_struct,key]
     rfl
    obtain ⟨rfl,rfl⟩:=h
    refine ⟨_,?_,rfl⟩
    rw [Sem.run_bind,hg,Result.andThen_ok,run_neq_struct,key]
    rfl
   cases h
  cases h
 cases h
def Zmy (T:Kv) (s:TypeId) (f:Nat):Option Nat :=
 match Yu T s with
 | some (.struct fs)=>match fs[f]? with
  | some (off,ft)=>match T ft with
   | some i=>if i.size=0 then none else some off
   | none=>none
  | none=>none
 | _=>none
def Zes (T:Kv) (s:TypeId) (x:G) (f:Nat):Option G :=
 match Zmy T s f,x with
 | some d,.ref i off=>some (.ref i (off+d))
 | some d,.ip cs k=>some (.ip cs (k+d))
 | some d,.rp i k off=>some (.rp i k (off+d))
 | _,_=>none
theorem Zeg (b o d:Nat):(⟨b,o,none⟩:Addr).add d=⟨b,o+d,none⟩:=by
 unfold Addr.add
 split
 ·rename_i h;subst h;rfl
 rfl
def Qb (O:Objs):G→Prop
 | .ref i _=>∃ o,O i=some o∧o.row=false
 | .rs i _ _=>∃ o,O i=some o∧o.row=false
 | .rp i k _=>∃ o,O i=some o∧o.row=true∧k=o.n
 | .row i k=>∃ o,O i=some o∧o.row=true∧k=o.n
 | _=>True
theorem Zx8 {x:G} {v:Value} (hx:x.rep w O m n v) (hl:Qb O x) (d:Nat) :
  (∀ i off,x = .ref i off→∃ b o,v = .pointer (some ⟨b,o,none⟩)∧(G.ref i (off+d)).rep w O m n (.pointer (some ⟨b,o+d,none⟩))) ∧
  (∀ cs k,x = .ip cs k→∃ b o,v = .pointer (some ⟨b,o,none⟩)∧(G.ip cs (k+d)).rep w O m n (.pointer (some ⟨b,o+d,none⟩))) ∧
  (∀ i k off,x = .rp i k off→∃ b o,v = .pointer (some ⟨b,o,none⟩)∧(G.rp i k (off+d)).rep w O m n (.pointer (some ⟨b,o+d,none⟩))):=by
 refine ⟨fun i off e => ?_,fun cs k e => ?_,fun i k off e => ?_⟩
 ·subst e
  obtain ⟨o,ho,hr⟩:=hl
  simp only [G.rep] at hx
  obtain ⟨b,e1,rfl⟩:=hx.2.2 o ho hr
  refine ⟨b,off,rfl,?_⟩
  simp only [G.rep]
  refine ⟨hx.1,rfl,fun o' ho' hr'=>⟨b,e1,rfl⟩⟩
 ·subst e
  simp only [G.rep] at hx
  obtain ⟨b,o,rfl,h1,h2,vs,h3,h4⟩:=hx
  refine ⟨b,o+k,rfl,?_⟩
  simp only [G.rep]
  exact ⟨b,o,by rw [Nat.add_assoc],h1,h2,vs,h3,h4⟩
 subst e
 obtain ⟨o,ho,hr,hk⟩:=hl
 simp only [G.rep] at hx
 obtain ⟨b,c,e1,rfl⟩:=(hx.2.2 o ho).2 hk hr
 refine ⟨b,off,rfl,?_⟩
 simp only [G.rep]
 exact ⟨hx.1,rfl,fun o' ho'=>⟨(hx.2.2 o' ho').1,fun _ _=>⟨b,c,e1,rfl⟩⟩⟩
theorem Zrk (hT:Qo P T) {s:TypeId} {x g:G} {f:Nat} {v:Value} (hx:x.rep w O m n v) (hl:Qb O x) (h:Zes T s x f=some g):∃ u,(Instr.fieldAt s v f).run P w = .ok u w∧g.rep w O m n u:=by
 unfold Zes at h
 cases hd:Zmy T s f with
 | none=>simp [hd] at h
 | some d =>
  have hrun:∀ b o,(Instr.fieldAt s (.pointer (some ⟨b,o,none⟩)) f).run P w = .ok (.pointer (some ⟨b,o+d,none⟩)) w:=fun b o=>by
   unfold Zmy at hd
   split at hd
   ·rename_i fs hk
    obtain ⟨fields,hu,hm⟩:=Q8 hT hk
    split at hd
    ·rename_i off ft hf
     split at hd
     ·rename_i i hi
      split at hd
      ·cases hd
      rename_i hz
      injection hd with hd
      subst hd
      have hf':∃ fd,fields[f]? = some fd∧fd.offset=off∧fd.type=ft:=by
       rw [← hm,List.getElem?_map] at hf
       cases hq:fields.toList[f]? with
       | none=>simp [hq] at hf
       | some fd=>simp [hq] at hf;exact ⟨fd,by simpa using hq,hf.1,hf.2⟩
      obtain ⟨fd,hfd,rfl,rfl⟩:=hf'
      have hs:=(hT _ i hi).sizeOf w
      simp [Instr.fieldAt,run_underlying hu,hfd,Instr.sureAddr,fieldPlace,hs,hz,Zeg]
     cases hd
    cases hd
   cases hd
  obtain ⟨s1,s2,s3⟩:=Zx8 hx hl d
  rw [hd] at h
  cases x <;> simp only [reduceCtorEq,Option.some.injEq] at h
  ·subst h;obtain ⟨b,o,rfl,hr⟩:=s2 _ _ rfl;exact ⟨_,hrun b o,hr⟩
  ·subst h;obtain ⟨b,o,rfl,hr⟩:=s3 _ _ _ rfl;exact ⟨_,hrun b o,hr⟩
  subst h;obtain ⟨b,o,rfl,hr⟩:=s1 _ _ rfl;exact ⟨_,hrun b o,hr⟩
end
end Go.Proofs.Ytibgpnmmgffgeaa
