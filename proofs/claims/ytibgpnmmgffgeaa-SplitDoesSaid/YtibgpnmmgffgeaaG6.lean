/- Part G6 of the ghost memory: lemmas and contracts used by the proofs of this seat's laws; each theorem bears its own conditions. -/
import Derived.Test.YtibgpnmmgffgeaaG2
namespace Go.Proofs.Ytibgpnmmgffgeaa
open Go.RowKit
set_option linter.unusedVariables false
set_option linter.unusedSimpArgs false
section
variable {P:Program} {T:Kv} {w:World} {O:Objs} {m:Hands} {n:Nat}
theorem Zgs (hT:Qo P T) {t:TypeId} {i:TyI} (h:T t=some i) (w:World):(sizeOf t).run P w = .ok i.size w:=(hT t i h).sizeOf w
def Zet (T:Kv) (t:TypeId) (x:G) (i:Int):Option (Prop×G) :=
 match Yu T t with
 | some (.slice e)=>match T e with
  | some ie=>match x with
   | .sl k cs=>some (0≤i∧i < k,.ip cs (i.toNat * ie.size))
   | .row j k=>some (0≤i∧i < k,.rp j k (i.toNat * ie.size))
   | .rs j off k=>some (0≤i∧i < k,.ref j (off+i.toNat * ie.size))
   | _=>none
  | none=>none
 | some (.arr len e)=>match T e with
  | some ie=>match x with
   | .ref j off=>some (0≤i∧i < len,.ref j (off+i.toNat * ie.size))
   | .ip cs k=>some (0≤i∧i < len,.ip cs (k+i.toNat * ie.size))
   | .rp j k off=>some (0≤i∧i < len,.rp j k (off+i.toNat * ie.size))
   | _=>none
  | none=>none
 | _=>none
theorem Zfw (hT:Qo P T) {t e:TypeId} {ie:TyI} (hk:Yu T t=some (.slice e)) (hi:T e=some ie) (b o len c:Nat) (k:IntKind) (i:Int) (h0:0≤i) (h1:i < len) :
  (Instr.indexAt t (.slice (some ⟨b,o,none⟩) len c) (.int k i)).run P w = .ok (.pointer (some ⟨b,o+i.toNat * ie.size,none⟩)) w:=by
 have hu:=Q8 hT hk
 simp only [TK.ok] at hu
 have hs:=Zgs hT hi w
 simp [Instr.indexAt,asIntOf,run_underlying hu,h0,h1,hs,Zeg]
theorem Zhv (hT:Qo P T) {t e:TypeId} {len:Nat} {ie:TyI} (hk:Yu T t=some (.arr len e)) (hi:T e=some ie) (b o:Nat) (k:IntKind) (i:Int) (h0:0≤i) (h1:i < len) :
  (Instr.indexAt t (.pointer (some ⟨b,o,none⟩)) (.int k i)).run P w = .ok (.pointer (some ⟨b,o+i.toNat * ie.size,none⟩)) w:=by
 have hu:=Q8 hT hk
 simp only [TK.ok] at hu
 have hs:=Zgs hT hi w
 simp [Instr.indexAt,Instr.sureAddr,asIntOf,run_underlying hu,h0,h1,hs,Zeg]
theorem Zrl (hT:Qo P T) (hM:Mem w O m n) {t:TypeId} {x g:G} {i:Int} {k:IntKind} {S:Prop} {v:Value} (hx:x.rep w O m n v) (hl:Qb O x) (h:Zet T t x i=some (S,g)) (hS:S) :
  ∃ u,(Instr.indexAt t v (.int k i)).run P w = .ok u w∧g.rep w O m n u:=by
 unfold Zet at h
 split at h
 ·rename_i e hk
  split at h
  ·rename_i ie hi
   split at h <;> simp only [Option.some.injEq,Prod.mk.injEq,reduceCtorEq] at h
   ·rename_i k' cs
    obtain ⟨rfl,rfl⟩:=h
    simp only [G.rep] at hx
    obtain ⟨A,c,rfl,_,vs,hr,ha⟩:=hx
    obtain ⟨b,o,rfl,h1,h2,h3⟩:=ha (by omega)
    refine ⟨_,Zfw hT hk hi b o _ c k i hS.1 hS.2,?_⟩
    simp only [G.rep]
    exact ⟨b,o,rfl,h1,h2,vs,hr,h3⟩
   ·rename_i j k'
    obtain ⟨rfl,rfl⟩:=h
    obtain ⟨o,ho,hrow,hk'⟩:=hl
    simp only [G.rep] at hx
    have hv:=(hx.2.2 o ho).2 hk' hrow
    obtain ⟨vs,hr,hy⟩:=hM.obj j o ho
    rw [if_pos hrow] at hy
    rcases hy.2 with ⟨e1,e2⟩ | ⟨b,cap,cur,e1,_⟩
    ·omega
    rw [e1] at hv
    subst hv
    refine ⟨_,Zfw hT hk hi b 0 _ cap k i hS.1 (by omega),?_⟩
    simp only [G.rep]
    refine ⟨hx.1,rfl,fun o' ho' => ?_⟩
    rw [ho] at ho'
    injection ho' with ho'
    subst ho'
    exact ⟨by omega,fun _ _=>⟨b,cap,by rw [e1,hk'],by simp⟩⟩
   rename_i j off k'
   obtain ⟨rfl,rfl⟩:=h
   obtain ⟨o,ho,hrow⟩:=hl
   simp only [G.rep] at hx
   obtain ⟨b,c,e1,rfl,_⟩:=hx.2.2 o ho hrow
   refine ⟨_,Zfw hT hk hi b off _ c k i hS.1 hS.2,?_⟩
   simp only [G.rep]
   exact ⟨hx.1,rfl,fun o' ho' _=>⟨b,e1,rfl⟩⟩
  cases h
 ·rename_i len e hk
  split at h
  ·rename_i ie hi
   obtain ⟨s1,s2,s3⟩:=Zx8 hx hl (i.toNat * ie.size)
   split at h <;> simp only [Option.some.injEq,Prod.mk.injEq,reduceCtorEq] at h
   all_goals obtain ⟨rfl,rfl⟩:=h
   ·obtain ⟨b,o,rfl,hr⟩:=s1 _ _ rfl;exact ⟨_,Zhv hT hk hi b o k i hS.1 hS.2,hr⟩
   ·obtain ⟨b,o,rfl,hr⟩:=s2 _ _ rfl;exact ⟨_,Zhv hT hk hi b o k i hS.1 hS.2,hr⟩
   obtain ⟨b,o,rfl,hr⟩:=s3 _ _ _ rfl;exact ⟨_,Zhv hT hk hi b o k i hS.1 hS.2,hr⟩
  cases h
 cases h
def Zn5 (T:Kv) (t:TypeId) (x:G) (i:Int):Option (Prop×G) :=
 match Yu T t,x with
 | some (.arr len e),.agg cs=>match T e with
  | some ie=>match Zhy T e cs (i.toNat * ie.size) with
   | some g=>some (0≤i∧i < len,g)
   | none=>none
  | none=>none
 | some .str,.val (.string s)=>some (0≤i∧i < s.size,.val (.int .u8 ((s.get! i.toNat).toNat:Nat)))
 | _,_=>none
theorem Zy1 (hT:Qo P T) {t:TypeId} {x g:G} {i:Int} {k:IntKind} {S:Prop} {v:Value} (hx:x.rep w O m n v) (h:Zn5 T t x i=some (S,g)) (hS:S) :
  ∃ u,(Instr.index t v (.int k i)).run P w = .ok u w∧g.rep w O m n u:=by
 unfold Zn5 at h
 split at h
 ·rename_i len e cs hk
  split at h
  ·rename_i ie hi
   split at h
   ·rename_i g' hg
    simp only [Option.some.injEq,Prod.mk.injEq] at h
    obtain ⟨rfl,rfl⟩:=h
    simp only [G.rep] at hx
    obtain ⟨vs,rfl,hr⟩:=hx
    obtain ⟨u,h1,h2⟩:=Zst hT hr hg
    have hu:=Q8 hT hk
    simp only [TK.ok] at hu
    have hs:=Zgs hT hi w
    exact ⟨u,by simpa [Instr.index,asIntOf,run_underlying hu,hS,hs] using h1,h2⟩
   cases h
  cases h
 ·rename_i s hk
  simp only [Option.some.injEq,Prod.mk.injEq] at h
  obtain ⟨rfl,rfl⟩:=h
  simp only [G.rep] at hx
  subst hx
  have hu:=Q8 hT hk
  simp only [TK.ok] at hu
  have hlt:i.toNat < s.size:=by omega
  refine ⟨_,?_,rfl⟩
  have e:s.get! i.toNat=s[i.toNat]:=by
   show s.data[i.toNat]! = s.data[i.toNat]
   exact getElem!_pos s.data i.toNat hlt
  simp [Instr.index,asIntOf,run_underlying hu,hS,hlt,e]
 cases h
def Zly (T:Kv) (s:TypeId) (x:G) (f:Nat):Option G :=
 match Yu T s,x with
 | some (.struct fs),.agg cs=>match fs[f]? with
  | some (off,ft)=>Zhy T ft cs off
  | none=>none
 | _,_=>none
theorem Zyy (hT:Qo P T) {s:TypeId} {x g:G} {f:Nat} {v:Value} (hx:x.rep w O m n v) (h:Zly T s x f=some g):∃ u,(Instr.field s v f).run P w = .ok u w∧g.rep w O m n u:=by
 unfold Zly at h
 split at h
 ·rename_i fs cs hk
  split at h
  ·rename_i off ft hf
   obtain ⟨fields,hu,hm⟩:=Q8 hT hk
   have hf':∃ fd,fields[f]? = some fd∧fd.offset=off∧fd.type=ft:=by
    rw [← hm,List.getElem?_map] at hf
    cases hq:fields.toList[f]? with
    | none=>simp [hq] at hf
    | some fd=>simp [hq] at hf;exact ⟨fd,by simpa using hq,hf.1,hf.2⟩
   obtain ⟨fd,hfd,rfl,rfl⟩:=hf'
   simp only [G.rep] at hx
   obtain ⟨vs,rfl,hr⟩:=hx
   obtain ⟨u,h1,h2⟩:=Zst hT hr h
   exact ⟨u,by simpa [Instr.field,run_underlying hu,hfd,asAgg] using h1,h2⟩
  cases h
 cases h
def Zl1 (op:UnOp) (x:G):Option G :=
 match x with
 | .val (.bool b)=>match op with
  | .not=>some (.val (.bool (!b)))
  | _=>none
 | .val (.int k a)=>match op with
  | .neg=>some (.val (.int k (k.wrap (0 - a))))
  | .xor=>some (.val (.int k (k.wrap (Zpp k (if k.signed then -1 else k.max) a))))
  | _=>none
 | _=>none
theorem Zy9 {op:UnOp} {x g:G} {v:Value} (hx:x.rep w O m n v) (h:Zl1 op x=some g):∃ u,(Op.unary op v).run P w = .ok u w∧g.rep w O m n u:=by
 unfold Zl1 at h
 split at h
 ·simp only [G.rep] at hx;subst hx
  split at h <;> simp only [Option.some.injEq,reduceCtorEq] at h
  subst h
  exact ⟨_,by simp [Op.unary],rfl⟩
 ·simp only [G.rep] at hx;subst hx
  split at h <;> simp only [Option.some.injEq,reduceCtorEq] at h
  ·subst h;exact ⟨_,by simp [Op.unary,Op.intArith],rfl⟩
  subst h;exact ⟨_,by simp [Op.unary,Op.intBits,Zpp],rfl⟩
 cases h
def Zg7 (T:Kv) (s d:TypeId) (x:G):Option G :=
 match Yu T s,Yu T d,x with
 | some (.int _),some (.int k),.val (.int _ a)=>some (.val (.int k (k.wrap a)))
 | some .str,some .str,.val (.string a)=>some (.val (.string a))
 | _,_,_=>none
theorem Zur (hT:Qo P T) {s d:TypeId} {x g:G} {v:Value} (hx:x.rep w O m n v) (h:Zg7 T s d x=some g):∃ u,(convert s d v).run P w = .ok u w∧g.rep w O m n u:=by
 unfold Zg7 at h
 split at h
 ·rename_i hs hd
  simp only [G.rep] at hx;subst hx
  injection h with h
  subst h
  have h1:=Q8 hT hs
  have h2:=Q8 hT hd
  simp only [TK.ok] at h1 h2
  exact ⟨_,by simp [convert,run_underlying h1,run_underlying h2,Conv.intToInt],rfl⟩
 ·rename_i hs hd
  simp only [G.rep] at hx;subst hx
  injection h with h
  subst h
  have h1:=Q8 hT hs
  have h2:=Q8 hT hd
  simp only [TK.ok] at h1 h2
  exact ⟨_,by simp [convert,run_underlying h1,run_underlying h2],rfl⟩
 cases h
end
section
variable {P:Program} {T:Kv} {w:World} {O:Objs} {m:Hands} {n:Nat}
theorem Zpf:∀ (vs:List Value) (off k:Nat) (cur:Array Value),off+k+vs.length≤cur.size →
  (List.foldl (fun (cs:Array Value) (p:Value×Nat)=>cs.setIfInBounds (off+p.2) p.1) cur (vs.zipIdx k)).toList=cur.toList.take (off+k)++vs++cur.toList.drop (off+k+vs.length)
 | [],off,k,cur,h=>by simp
 | v::vs,off,k,cur,h=>by
  simp only [List.length_cons] at h
  rw [List.zipIdx_cons,List.foldl_cons,Zpf vs off (k+1) _ (by simp;omega)]
  simp only [Array.toList_setIfInBounds,List.length_cons]
  have e1:(cur.toList.set (off+k) v).take (off+(k+1))=cur.toList.take (off+k)++[v]:=by
   rw [show off+(k+1)=off+k+1 by omega,List.take_succ_eq_append_getElem (by simp;omega)]
   simp [List.take_set_of_le]
  have e2:(cur.toList.set (off+k) v).drop (off+(k+1)+vs.length)=cur.toList.drop (off+k+(vs.length+1)):=by
   rw [List.drop_set_of_lt (by omega)]
   congr 1
   omega
  rw [e1,e2]
  simp
def Znm (places:Nat→Option (Nat×Nat)) (cells:List G):List (Nat×G)→Option (List G)
 | []=>some cells
 | (i,x)::Zju=>match places i,Qp x with
  | some (off,size),some cs=>if cs.length=size∧off+size≤cells.length then Znm places (cells.take off++cs++cells.drop (off+size)) Zju else none
  | _,_=>none
theorem Zja (places:Nat→Option (Nat×Nat)):∀ (ps:List (Nat×G)) (us:List (Nat×Value)) (cells:List G) (cur:Array Value) (r:List G),G.reps w O m n cells cur.toList →
  (ps.map (·.1)=us.map (·.1))→G.reps w O m n (ps.map (·.2)) (us.map (·.2))→Znm places cells ps=some r→∃ c,Instr.fill places cur us=some c∧G.reps w O m n r c.toList
 | [],us,cells,cur,r,hr,h1,h2,h=>by
  simp only [Znm,Option.some.injEq] at h
  subst h
  cases us with
  | nil=>exact ⟨cur,rfl,hr⟩
  | cons _ _=>simp at h1
 | (i,x)::ps,us,cells,cur,r,hr,h1,h2,h=>by
  cases us with
  | nil=>simp at h1
  | cons u us =>
   obtain ⟨j,v⟩:=u
   simp only [List.map_cons,List.cons.injEq] at h1
   obtain ⟨rfl,h1⟩:=h1
   simp only [List.map_cons,G.reps] at h2
   obtain ⟨v',us',e,hv,h2⟩:=h2
   injection e with e1 e2
   subst e1 e2
   simp only [Znm] at h
   split at h
   ·rename_i off size cs hp hc
    split at h
    ·rename_i hcond
     have hcs:=Zia hv hc
     have hl:=Ju _ _ hcs
     have hlc:=Ju _ _ hr
     have hq1:v.cells.toList.length=v.cells.size:=by simp
     have hq2:cur.toList.length=cur.size:=by simp
     have hsz:v.cells.size=size:=by omega
     have hf:=Zpf v.cells.toList off 0 cur (by simp;omega)
     rw [Array.length_toList,hsz,Nat.add_zero] at hf
     have hfill:Instr.fill places cur ((i,v)::us)=Instr.fill places (v.cells.zipIdx.foldl (fun cs (c,j)=>cs.setIfInBounds (off+j) c) cur) us:=by
      simp only [Instr.fill,hp]
      rw [if_neg (by simp [hsz];omega)]
     have he:(v.cells.zipIdx.foldl (fun cs (c,j)=>cs.setIfInBounds (off+j) c) cur).toList=cur.toList.take off++v.cells.toList++cur.toList.drop (off+size):=by
      rw [← hf,← Array.foldl_toList,Array.toList_zipIdx]
     rw [hfill]
     refine Zja places ps us _ _ r ?_ h1 h2 h
     rw [he]
     exact U7 _ _ _ _ (U7 _ _ _ _ (Vz _ _ _ hr) hcs) (Gl _ _ _ hr)
    cases h
   cases h
def Zjb (T:Kv):List (Nat×TypeId)→Option (List (Nat×Nat))
 | []=>some []
 | (o,t)::fs=>match T t,Zjb T fs with
  | some i,some r=>some ((o,i.size)::r)
  | _,_=>none
theorem Znn (hT:Qo P T):∀ (fs:List Field) (r:List (Nat×Nat)),Zjb T (fs.map fun f=>(f.offset,f.type))=some r→fs.mapM (fun f=>(P.info? f.type).map fun i=>(f.offset,i.size))=some r
 | [],r,h=>by simp only [List.map_nil,Zjb,Option.some.injEq] at h;subst h;simp
 | f::fs,r,h=>by
  simp only [List.map_cons,Zjb] at h
  split at h
  ·rename_i i r' hi hr
   injection h with h
   subst h
   obtain ⟨inf,z,h1,h2,_⟩:=(hT _ i hi).info
   simp [List.mapM_cons,h1,h2,Znn hT fs r' hr]
  cases h
def Zlx (T:Kv) (t:TypeId) (ps:List (Nat×G)):Option G :=
 match T t with
 | some i=>match i.k with
  | .struct fs=>match Zjb T fs with
   | some pl=>match Znm (pl[·]?) (i.zero.map .val) ps with
    | some c=>some (.agg c)
    | none=>none
   | none=>none
  | .arr _ e=>match T e with
   | some ie=>match Znm (fun j=>some (j * ie.size,ie.size)) (i.zero.map .val) ps with
    | some c=>some (.agg c)
    | none=>none
   | none=>none
  | _=>none
 | none=>none
theorem Zyx (hT:Qo P T) {t:TypeId} {ps:List (Nat×G)} {us:Array (Nat×Value)} {g:G} (h1:ps.map (·.1)=us.toList.map (·.1)) (h2:G.reps w O m n (ps.map (·.2)) (us.toList.map (·.2))) (h:Zlx T t ps=some g) :
  ∃ v,(Instr.build t us).run P w = .ok v w∧g.rep w O m n v:=by
 unfold Zlx at h
 split at h
 ·rename_i i hi
  have hok:=hT t i hi
  obtain ⟨inf,z,e1,e2,e3,e4,e5⟩:=hok.info
  have hz:G.reps w O m n (i.zero.map .val) z.cells.toList:=by rw [← e5];exact Ziu _
  have hund:=hok.und
  split at h
  ·rename_i fs hk
   rw [hk] at hund
   obtain ⟨fields,hu,hm⟩:=hund
   split at h
   ·rename_i pl hpl
    split at h
    ·rename_i c hc
     injection h with h
     subst h
     obtain ⟨c',hf,hr⟩:=Zja _ ps us.toList _ z.cells c hz h1 h2 hc
     rw [← hm] at hpl
     have hp:=Znn hT fields.toList pl hpl
     refine ⟨.agg c',run_build w t us c' ?_,?_⟩
     ·simp only [Program.built,e1,hu,e4,hp]
      simpa using hf
     simp only [G.rep];exact ⟨c',rfl,hr⟩
    cases h
   cases h
  ·rename_i len e hk
   rw [hk] at hund
   simp only [TK.ok] at hund
   split at h
   ·rename_i ie hie
    split at h
    ·rename_i c hc
     injection h with h
     subst h
     obtain ⟨c',hf,hr⟩:=Zja _ ps us.toList _ z.cells c hz h1 h2 hc
     obtain ⟨inf',z',f1,f2,_⟩:=(hT e ie hie).info
     refine ⟨.agg c',run_build w t us c' ?_,?_⟩
     ·simp only [Program.built,e1,hund,e4,f1,f2]
      exact hf
     simp only [G.rep];exact ⟨c',rfl,hr⟩
    cases h
   cases h
  cases h
 cases h
end
section
variable {P:Program} {T:Kv} {w:World} {O:Objs} {m:Hands} {n:Nat}
theorem Mem.newRow (hM:Mem w O m n) (t:TypeId) (sz k c:Nat) (cells:List G) (vs:List Value) (cur:Array Value) (hr:G.reps w O m n cells vs) (h1:vs.length=k * sz) (hkc:k≤c) (hc:c≤maxLen) (hcur:cur.size=c * sz) (htake:cur.toList.take (k * sz)=vs) :
  Mem (w.alloc (.cells cur t)) (O.upd n (some ⟨true,t,sz,k,cells⟩)) (m.upd n (.slice (some ⟨w.heap.size,0,none⟩) k c)) (n+1) ∧
  Ext w O m n (w.alloc (.cells cur t)) (O.upd n (some ⟨true,t,sz,k,cells⟩)) (m.upd n (.slice (some ⟨w.heap.size,0,none⟩) k c)) (n+1):=by
 have hb:∀ b,b < w.heap.size→¬ (n < n∧Zam (m n)=some b)→(w.alloc (.cells cur t)).heap[b]? = w.heap[b]? := fun b hb _=>Below.heap_alloc w _ b hb
 have hh:∀ b,Zam (.slice (some ⟨w.heap.size,0,none⟩) k c)=some b→b < w.heap.size→n < n∧Zam (m n)=some b:=fun b hb hlt=>by
  simp [Zam] at hb;omega
 have hE:Ext w O m n (w.alloc (.cells cur t)) (O.upd n (some ⟨true,t,sz,k,cells⟩)) (m.upd n (.slice (some ⟨w.heap.size,0,none⟩) k c)) (n+1) :=
  Ext.upd (w':=w.alloc (.cells cur t)) hM n _ _ (Nat.le_refl _) (fun h=>absurd h (Nat.lt_irrefl _)) rfl rfl rfl (by simp) hb hh (n+1) (Nat.le_succ _)
 refine ⟨Mem.upd hM n _ _ (Nat.le_refl _) (fun h=>absurd h (Nat.lt_irrefl _)) hb hh _ (by omega) (by omega) hE ?_,hE⟩
 refine ⟨vs,G.reps_ext hE _ _ hr,?_⟩
 exact ⟨h1,.inr ⟨w.heap.size,c,cur,rfl,Nat.zero_le _,heap_alloc_new w _,hkc,hc,hcur,htake⟩⟩
theorem Zhl (w:World) (O:Objs) (m:Hands) (n:Nat) (t:TypeId) (sz k:Nat) (cells:List G) (v:Value) (hv:∃ A c,v = .slice A k c) :
  (G.row n k).rep w (O.upd n (some ⟨true,t,sz,k,cells⟩)) (m.upd n v) (n+1) v:=by
 simp only [G.rep]
 refine ⟨by omega,hv,fun o ho => ?_⟩
 rw [Z8] at ho
 injection ho with ho
 subst ho
 exact ⟨Nat.le_refl _,fun _ _=>Zan _ _ _⟩
theorem Z3c (w:World) (O:Objs) (m:Hands) (n:Nat) (t:TypeId) (sz k:Nat) (cells:List G) (b:Nat) :
  (G.ref n 0).rep w (O.upd n (some ⟨false,t,sz,k,cells⟩)) (m.upd n (.pointer (some ⟨b,0,none⟩))) (n+1) (.pointer (some ⟨b,0,none⟩)):=by
 simp only [G.rep]
 exact ⟨by omega,rfl,fun o ho _=>⟨b,Zan _ _ _,rfl⟩⟩
theorem Zsv (hM:Mem w O m n) (t:TypeId) (sz:Nat) (cells:List G) (vs:Array Value) (hr:G.reps w O m n cells vs.toList) (s:Sem Value) (hs:s.run P w = .ok (.pointer (some ⟨w.heap.size,0,none⟩)) (w.alloc (.cells vs t))) :
  Does P w O m n s (.ref n 0) (O.upd n (some ⟨false,t,sz,1,cells⟩)) (n+1):=by
 obtain ⟨h1,h2⟩:=Mem.new (w:=w) hM t sz 1 false cells vs.toList hr (fun h=>by cases h)
 simp only [Bool.false_eq_true,if_false,Array.toArray_toList] at h1 h2
 exact ⟨_,_,_,hs,h1,h2,Z3c _ _ _ _ _ _ _ _ _⟩
def Zn4 (T:Kv) (t:TypeId) (O:Objs) (n:Nat):Option (G×Objs×Nat) :=
 match T t with
 | some i=>some (.ref n 0,O.upd n (some ⟨false,t,i.size,1,i.zero.map .val⟩),n+1)
 | none=>none
theorem Zyo (hT:Qo P T) (hM:Mem w O m n) {t:TypeId} {g:G} {O':Objs} {n':Nat} (h:Zn4 T t O n=some (g,O',n')):Does P w O m n (Instr.alloc t true (.tuple #[])) g O' n':=by
 unfold Zn4 at h
 split at h
 ·rename_i i hi
  simp only [Option.some.injEq,Prod.mk.injEq] at h
  obtain ⟨rfl,rfl,rfl⟩:=h
  obtain ⟨inf,z,e1,e2,e3,e4,e5⟩:=(hT t i hi).info
  exact Zsv hM t _ _ z.cells (by rw [← e5];exact Ziu _) _ (by simp [Instr.alloc,zeroValue,typeInfo,e1,e4,newVar,newRow])
 cases h
def Z4h (t:TypeId) (x:G) (O:Objs) (n:Nat):Option (G×Objs×Nat) :=
 match Qp x with
 | some cs=>some (.ref n 0,O.upd n (some ⟨false,t,cs.length,1,cs⟩),n+1)
 | none=>none
theorem Z4i (hM:Mem w O m n) {t:TypeId} {x g:G} {v:Value} (hx:x.rep w O m n v) {O':Objs} {n':Nat} (h:Z4h t x O n=some (g,O',n')):Does P w O m n (Instr.box t v) g O' n':=by
 unfold Z4h at h
 split at h
 ·rename_i cs hc
  simp only [Option.some.injEq,Prod.mk.injEq] at h
  obtain ⟨rfl,rfl,rfl⟩:=h
  exact Zsv hM t _ _ v.cells (Zia hx hc) _ (by simp [Instr.box,newVar,newRow])
 cases h
theorem Zdx:∀ (z:Array Value) (sz k:Nat),z.size=sz→(madeCells z (k * sz)).toList=(List.replicate k z.toList).flatten:=by
 intro z sz k hz
 refine List.ext_getElem? fun j => ?_
 subst hz
 rw [Array.getElem?_toList]
 by_cases hj:j < k * z.size
 ·have h0:0 < z.size:=by
   rcases Nat.eq_zero_or_pos z.size with h | h
   ·rw [h,Nat.mul_zero] at hj;omega
   exact h
  have hm:j % z.size < z.size:=Nat.mod_lt _ h0
  have:(madeCells z (k * z.size))[j]? = some z[j % z.size]:=by
   simp [madeCells,hj,hm]
  rw [this]
  clear this
  induction k generalizing j with
  | zero=>simp at hj
  | succ k ih =>
   rw [List.replicate_succ,List.flatten_cons,List.getElem?_append]
   split
   ·rename_i h
    have h':j < z.size:=by simpa using h
    simp [Nat.mod_eq_of_lt h',h']
   rename_i h
   have h':z.size≤j:=by simpa using h
   have hj':j - z.size < k * z.size:=by rw [Nat.succ_mul] at hj;omega
   have e:j % z.size=(j - z.size) % z.size:=(Nat.mod_eq_sub_mod h')
   have:=ih (j - z.size) hj' (Nat.mod_lt _ h0)
   simp only [Array.length_toList]
   rw [← this]
   simp only [e]
 rw [List.getElem?_eq_none (by simp [List.length_flatten];omega)]
 exact Array.getElem?_eq_none (by simp [size_madeCells];omega)
theorem Zm6:∀ (k:Nat) (l:List G) (vs:List Value),G.reps w O m n l vs→G.reps w O m n (List.replicate k l).flatten (List.replicate k vs).flatten
 | 0,l,vs,h=>rfl
 | k+1,l,vs,h=>by
  rw [List.replicate_succ,List.replicate_succ,List.flatten_cons,List.flatten_cons]
  exact U7 _ _ _ _ h (Zm6 k l vs h)
def Zxq (T:Kv) (t:TypeId) (l c:Int) (O:Objs) (n:Nat):Option (Prop×G×Objs×Nat) :=
 match Yu T t with
 | some (.slice e)=>match T e with
  | some ie=>some (0≤l∧l≤c∧(ie.bytes:Int) * c≤140737488355328∧c≤140737488355328,.row n l.toNat,O.upd n (some ⟨true,e,ie.size,l.toNat,(List.replicate l.toNat (ie.zero.map .val)).flatten⟩),n+1)
  | none=>none
 | _=>none
theorem Z2k (hT:Qo P T) (hM:Mem w O m n) {t:TypeId} {l c:Int} {kl kc:IntKind} {g:G} {S:Prop} {O':Objs} {n':Nat} (h:Zxq T t l c O n=some (S,g,O',n')) (hS:S):Does P w O m n (Instr.makeSlice t (.int kl l) (.int kc c)) g O' n':=by
 unfold Zxq at h
 split at h
 ·rename_i e hk
  split at h
  ·rename_i ie hie
   simp only [Option.some.injEq,Prod.mk.injEq] at h
   obtain ⟨rfl,rfl,rfl,rfl⟩:=h
   obtain ⟨inf,z,e1,e2,e3,e4,e5⟩:=(hT e ie hie).info
   have hu:=Q8 hT hk
   simp only [TK.ok] at hu
   have hrun:=run_make (P:=P) w t e inf z hu e1 e4 kl kc l c hS.1 hS.2.1 (by rw [e3];omega) (by omega)
   have hzs:z.cells.size=ie.size:=by have:=(hT e ie hie).len;rw [← e5] at this;simpa using this
   have hcells:=Zdx z.cells ie.size c.toNat hzs
   have hcells':=Zdx z.cells ie.size l.toNat hzs
   have hlc:l.toNat≤c.toNat:=by omega
   have htake:(madeCells z.cells (c.toNat * ie.size)).toList.take (l.toNat * ie.size)=(List.replicate l.toNat z.cells.toList).flatten:=by
    rw [← hcells']
    refine List.ext_getElem? fun j => ?_
    have hle:l.toNat * ie.size≤c.toNat * ie.size:=Nat.mul_le_mul_right _ hlc
    rw [List.getElem?_take]
    split
    ·rename_i hj
     simp [madeCells,hj,Nat.lt_of_lt_of_le hj hle]
    rename_i hj
    rw [List.getElem?_eq_none (by simp [size_madeCells];omega)]
   obtain ⟨h1,h2⟩:=Mem.newRow hM e ie.size l.toNat c.toNat (List.replicate l.toNat (ie.zero.map .val)).flatten (List.replicate l.toNat z.cells.toList).flatten (madeCells z.cells (c.toNat * ie.size))
    (by rw [← e5];exact Zm6 _ _ _ (Ziu _)) (by simp [List.length_flatten,hzs]) hlc (by unfold maxLen;omega) (size_madeCells _ _) htake
   rw [e2] at hrun
   exact ⟨_,_,_,hrun,h1,h2,Zhl _ _ _ _ _ _ _ _ _ ⟨_,_,rfl⟩⟩
  cases h
 cases h
def Zci (T:Kv) (t:TypeId) (len:Nat) (ps:List (Nat×G)) (O:Objs) (n:Nat):Option (G×Objs×Nat) :=
 match Yu T t with
 | some (.slice e)=>match T e with
  | some ie=>if len=0 then (if ps=[] then some (.row n 0,O.upd n (some ⟨true,e,ie.size,0,[]⟩),n+1) else none) else if len * ie.size > 2 ^ 24∨len * ie.size=0 then none else match Znm (fun i=>some (i * ie.size,ie.size)) (List.replicate len (ie.zero.map .val)).flatten ps with
   | some c=>if c.length=len * ie.size then some (.row n len,O.upd n (some ⟨true,e,ie.size,len,c⟩),n+1) else none
   | none=>none
  | none=>none
 | _=>none
theorem Zpg (hT:Qo P T) (hM:Mem w O m n) {t:TypeId} {len:Nat} {ps:List (Nat×G)} {us:Array (Nat×Value)} {g:G} {O':Objs} {n':Nat} (h1:ps.map (·.1)=us.toList.map (·.1)) (h2:G.reps w O m n (ps.map (·.2)) (us.toList.map (·.2)))
  (h:Zci T t len ps O n=some (g,O',n')):Does P w O m n (Instr.buildSlice t len us) g O' n':=by
 unfold Zci at h
 split at h
 ·rename_i e hk
  split at h
  ·rename_i ie hie
   split at h
   ·rename_i hl0
    subst hl0
    split at h
    ·rename_i hps
     subst hps
     simp only [Option.some.injEq,Prod.mk.injEq] at h
     obtain ⟨rfl,rfl,rfl⟩:=h
     obtain ⟨inf,z,e1,e2,e3,e4,e5⟩:=(hT e ie hie).info
     have hu:=Q8 hT hk
     simp only [TK.ok] at hu
     have hus:us.toList=[]:=by
      have:=congrArg List.length h1
      simp at this
      exact List.eq_nil_of_length_eq_zero (by simpa using this.symm)
     have hrun:(Instr.buildSlice t 0 us).run P w = .ok (.slice (some ⟨w.heap.size,0,none⟩) 0 0) (w.alloc (.cells #[] e)):=by
      have hr0:Array.range 0=(#[]:Array Nat):=Array.eq_empty_of_size_eq_zero (by simp)
      simp [Instr.buildSlice,run_underlying hu,sizeOf,typeInfo,e1,hus,Instr.fill,newRow,hr0]
     obtain ⟨g1,g2⟩:=Mem.newRow hM e ie.size 0 0 [] [] #[] rfl (by simp) (Nat.le_refl _) (Nat.zero_le _) (by simp) (by simp)
     exact ⟨_,_,_,hrun,g1,g2,Zhl _ _ _ _ _ _ _ _ _ ⟨_,_,rfl⟩⟩
    cases h
   split at h
   ·cases h
   rename_i hsz
   split at h
   ·rename_i c hc
    split at h
    ·rename_i hcl
     simp only [Option.some.injEq,Prod.mk.injEq] at h
     obtain ⟨rfl,rfl,rfl⟩:=h
     obtain ⟨inf,z,e1,e2,e3,e4,e5⟩:=(hT e ie hie).info
     have hu:=Q8 hT hk
     simp only [TK.ok] at hu
     have hzs:z.cells.size=ie.size:=by have:=(hT e ie hie).len;rw [← e5] at this;simpa using this
     have hz0:G.reps w O m n (List.replicate len (ie.zero.map .val)).flatten (madeCells z.cells (len * ie.size)).toList:=by
      rw [Zdx z.cells ie.size len hzs,← e5]
      exact Zm6 _ _ _ (Ziu _)
     obtain ⟨c',hf,hr⟩:=Zja _ ps us.toList _ _ c hz0 h1 h2 hc
     have hrun:=run_buildSlice (P:=P) w t e len us c' inf z hu e1 e4 (by rw [e2];omega) (by rw [e2];omega) (by rw [e2];exact hf)
     have hl:=Ju _ _ hr
     have hlc:c'.toList.length=c'.size:=by simp
     have hlm:len≤2 ^ 24:=by
      rcases Nat.eq_zero_or_pos ie.size with h0 | h0
      ·rw [h0] at hsz;omega
      have:=Nat.le_mul_of_pos_right len h0;omega
     obtain ⟨g1,g2⟩:=Mem.newRow hM e ie.size len len c c'.toList c' hr (by omega) (Nat.le_refl _) (by unfold maxLen;omega) (by omega) (by rw [List.take_of_length_le (by omega)])
     exact ⟨_,_,_,hrun,g1,g2,Zhl _ _ _ _ _ _ _ _ _ ⟨_,_,rfl⟩⟩
    cases h
   cases h
  cases h
 cases h
def Z4k (T:Kv) (t:TypeId) (O:Objs) (x:G):Option G :=
 match Yu T t,x with
 | some (.slice _),.sl k _=>some (.val (.int .i64 k))
 | some (.slice _),.row i k=>some (.val (.int .i64 k))
 | some (.slice _),.rs i off k=>some (.val (.int .i64 k))
 | some (.slice _),.val (.slice none k _)=>some (.val (.int .i64 k))
 | some .str,.val (.string s)=>some (.val (.int .i64 s.size))
 | some (.arr len _),_=>some (.val (.int .i64 len))
 | _,_=>none
def Zjg (O:Objs):G→Prop
 | .row _ _=>True
 | g=>Qb O g
theorem Z4l (hT:Qo P T) (hM:Mem w O m n) {t:TypeId} {x g:G} {v:Value} (hx:x.rep w O m n v) (hl:Zjg O x) (h:Z4k T t O x=some g) (ty:TypeId):∃ u,(Builtin.len_ #[t] ty #[v]).run P w = .ok u w∧g.rep w O m n u:=by
 unfold Z4k at h
 split at h <;> simp only [Option.some.injEq,reduceCtorEq] at h
 all_goals
  rename_i hk
  have hu:=Q8 hT hk
  simp only [TK.ok] at hu
  subst h
  try simp only [G.rep] at hx
 ·obtain ⟨A,c,rfl,_⟩:=hx
  exact ⟨_,by simp [Builtin.len_,run_underlying hu,goInt],rfl⟩
 ·obtain ⟨A,c,rfl⟩:=hx.2.1
  exact ⟨_,by simp [Builtin.len_,run_underlying hu,goInt],rfl⟩
 ·rename_i i off k
  obtain ⟨o,ho,hrow⟩:=hl
  obtain ⟨b,c,_,rfl,_⟩:=hx.2.2 o ho hrow
  exact ⟨_,by simp [Builtin.len_,run_underlying hu,goInt],rfl⟩
 ·subst hx
  exact ⟨_,by simp [Builtin.len_,run_underlying hu,goInt],rfl⟩
 ·subst hx
  exact ⟨_,by simp [Builtin.len_,run_underlying hu,goInt],rfl⟩
 exact ⟨_,by simp [Builtin.len_,run_underlying hu,goInt],rfl⟩
end
section
variable {P:Program} {T:Kv} {w:World} {O:Objs} {m:Hands} {n:Nat}
theorem Zl2 {base n size:Nat} {e:TypeId} {v:Value} {xs:List Value} (h:w.ownsRow base e size v n xs):Zam v=v.ownBlock:=by
 rcases h.2 with ⟨rfl,_⟩ | ⟨g,cap,cur,rfl,_⟩ <;> rfl
theorem Zr1 {w:World} {t:TypeId} {sz k:Nat} {v:Value} {xs:List Value} (h:w.ownsRow 0 t sz v k xs):∃ A c,v = .slice A k c:=by
 rcases h.2 with ⟨e,e9⟩ | ⟨g,cap,cur,e,_⟩
 ·exact ⟨none,0,by rw [e];congr 1;omega⟩
 exact ⟨_,cap,e⟩
theorem Z16 (base:Nat) (t ty e:TypeId) (i:TypeInfo) (size:Nat) (ht:P.underlying t=some (.slice e)) (hi:P.info? e=some i)
  (v:Value) (n:Nat) (xs:List Value) (hown:w.ownsRow base e size v n xs) (A:Option Addr) (c:Nat):(Builtin.append_ #[t,t] ty #[v,.slice A 0 c]).run P w = .ok v w:=by
 rcases hown.2 with ⟨rfl,rfl⟩ | ⟨g,cap,cur,rfl,_,_,hn,_⟩ <;> cases A <;>
  simp [Builtin.append_,run_underlying ht,sizeOf,typeInfo,hi,Builtin.lenOf,Builtin.firstCells,storeCells,loadCells,loadCellsFrom] <;> omega
def Z4p (O:Objs) (sz:Nat):G→Option (Nat×List G)
 | .sl k cs=>some (k,cs)
 | .row i k=>match O i with
  | some o=>if o.row=true∧k=o.n then some (k,o.cells) else none
  | none=>none
 | .rs i off k=>match O i with
  | some o=>if o.row=true then none else some (k,(o.cells.drop off).take (k * sz))
  | none=>none
 | .val (.slice none 0 _)=>some (0,[])
 | _=>none
theorem Zuy (hM:Mem w O m n) {x:G} {v:Value} {sz k:Nat} {cs:List G} (hx:x.rep w O m n v) (h:Z4p O sz x=some (k,cs)) :
  ∃ A c vs,v = .slice A k c∧G.reps w O m n cs vs∧(k≠0→∃ ad,A=some ad∧∀ j u,vs[j]? = some u→w.cell? (ad.add j)=some u):=by
 unfold Z4p at h
 split at h
 ·simp only [Option.some.injEq,Prod.mk.injEq] at h
  obtain ⟨rfl,rfl⟩:=h
  simp only [G.rep] at hx
  obtain ⟨A,c,rfl,_,vs,hr,ha⟩:=hx
  refine ⟨A,c,vs,rfl,hr,fun hk => ?_⟩
  obtain ⟨g,off,e,_,_,hc⟩:=ha hk
  exact ⟨_,e,fun j u hu=>by rw [Zeg];exact hc j u hu⟩
 ·rename_i i k'
  split at h
  ·rename_i o ho
   split at h
   ·rename_i hc
    simp only [Option.some.injEq,Prod.mk.injEq] at h
    obtain ⟨rfl,rfl⟩:=h
    simp only [G.rep] at hx
    have hv:=(hx.2.2 o ho).2 hc.2 hc.1
    obtain ⟨vs,hr,hy⟩:=hM.obj i o ho
    rw [if_pos hc.1] at hy
    rcases hy.2 with ⟨e1,e2⟩ | ⟨b,cap,cur,e1,_,hh,h1,h2,h3,h4⟩
    ·rw [e1] at hv
     have hk0:k'=0:=by omega
     subst hk0
     exact ⟨none,0,vs,hv.symm,hr,fun hk=>absurd rfl hk⟩
    rw [e1] at hv
    refine ⟨_,_,vs,by rw [← hv,hc.2],hr,fun _=>⟨_,rfl,fun j u hu => ?_⟩⟩
    rw [Zeg,Nat.zero_add,cell_of_row w b j _ _ (0,0) hh]
    rw [← h4,List.getElem?_take] at hu
    split at hu
    ·rw [Array.getElem?_toList] at hu;exact hu
    cases hu
   cases h
  cases h
 ·rename_i i off k'
  split at h
  ·rename_i o ho
   split at h
   ·cases h
   rename_i hrow
   have hrow':o.row=false:=by simpa using hrow
   simp only [Option.some.injEq,Prod.mk.injEq] at h
   obtain ⟨rfl,rfl⟩:=h
   simp only [G.rep] at hx
   obtain ⟨b,c,e1,rfl,hkc⟩:=hx.2.2 o ho hrow'
   obtain ⟨vs,hr,hy⟩:=hM.obj i o ho
   simp only [hrow',Bool.false_eq_true,if_false] at hy
   obtain ⟨b',e2,hh⟩:=hy
   rw [e1] at e2
   injection e2 with e2
   injection e2 with e2
   injection e2 with e2
   subst e2
   refine ⟨_,_,(vs.drop off).take (k' * sz),rfl,Vz _ _ _ (Gl _ _ _ hr),fun _=>⟨_,rfl,fun j u hu => ?_⟩⟩
   rw [Zeg,cell_of_row w b _ _ _ (0,0) hh]
   rw [List.getElem?_take] at hu
   split at hu
   ·rw [List.getElem?_drop] at hu;simpa using hu
   cases hu
  cases h
 ·simp only [Option.some.injEq,Prod.mk.injEq] at h
  obtain ⟨rfl,rfl⟩:=h
  simp only [G.rep] at hx
  subst hx
  exact ⟨_,_,[],rfl,rfl,fun h=>absurd rfl h⟩
 cases h
def Zmw (T:Kv) (t:TypeId) (s x:G) (O:Objs) (n:Nat):Option (Prop×G×Objs×Nat) :=
 match Yu T t with
 | some (.slice e)=>match T e with
  | some ie=>if ie.size=0 then none else match Z4p O ie.size x with
   | some (mm,cs)=>match s with
    | .val (.slice none 0 0)=>some (cs.length=mm * ie.size∧cs.all G.one=true∧mm * ie.bytes≤140737488355328∧mm≤140737488355328,.row n mm,O.upd n (some ⟨true,e,ie.size,mm,cs⟩),n+1)
    | .row i k=>match O i with
     | some o=>if o.row=true∧k=o.n∧o.ty=e∧o.sz=ie.size then
       some (cs.length=mm * ie.size∧cs.all G.one=true∧(k+mm) * ie.bytes≤140737488355328∧k+mm≤140737488355328,.row i (k+mm),O.upd i (some ⟨true,e,ie.size,k+mm,o.cells++cs⟩),n) else none
     | none=>none
    | _=>none
   | none=>none
  | none=>none
 | _=>none
theorem Zud {t ty e:TypeId} {i:TypeInfo} {z:Value} (ht:P.underlying t=some (.slice e)) (hi:P.info? e=some i) (hz:i.zero=some z) (hzs:z.cells.size=i.size) (hsz:0 < i.size)
  {v:Value} {k mm c:Nat} {xs news:List Value} {A:Option Addr} (hown:w.ownsRow 0 e i.size v k xs) (hl:news.length=mm * i.size) (h1:∀ u∈news,u.oneCell'=true)
  (hA:mm≠0→∃ ad,A=some ad∧∀ j u,news[j]? = some u→w.cell? (ad.add j)=some u) (hb:(k+mm) * i.bytes≤140737488355328) (h63:k+mm≤140737488355328) :
  ∃ v' w',(Builtin.append_ #[t,t] ty #[v,.slice A mm c]).run P w = .ok v' w'∧w'.ownsRow 0 e i.size v' (k+mm) (xs++news)∧w.grownBy w' v.ownBlock∧(v'.ownBlock=v.ownBlock∨v'.ownBlock=some w.heap.size)∧(mm=0→v'=v):=by
 by_cases h0:mm=0
 ·subst h0
  have hn:news=[]:=List.eq_nil_of_length_eq_zero (by omega)
  subst hn
  exact ⟨v,w,Z16 0 t ty e i i.size ht hi v k xs hown A c,by simpa using hown,World.grownBy.refl w _,.inl rfl,fun _=>rfl⟩
 obtain ⟨ad,rfl,hc⟩:=hA h0
 obtain ⟨v',w',g1,g2,g3,g4,g5⟩:=run_append_own_at (P:=P) w 0 t ty e i z i.size i.bytes ht hi hz rfl rfl hzs hsz v k xs hown ad mm c news hl hc h1 (by unfold maxLen;omega) hb (Nat.zero_le _)
 exact ⟨v',w',g1,g2,g3,g5,fun h=>absurd h h0⟩
theorem Zw4 (hT:Qo P T) (hM:Mem w O m n) {t ty:TypeId} {s x g:G} {vs vx:Value} {S:Prop} {O':Objs} {n':Nat} (hs:s.rep w O m n vs) (hx:x.rep w O m n vx) (h:Zmw T t s x O n=some (S,g,O',n')) (hS:S) :
  Does P w O m n (Builtin.append_ #[t,t] ty #[vs,vx]) g O' n':=by
 unfold Zmw at h
 split at h
 ·rename_i e hk
  have hu:=Q8 hT hk
  simp only [TK.ok] at hu
  split at h
  ·rename_i ie hie
   obtain ⟨inf,z,e1,e2,e3,e4,e5⟩:=(hT e ie hie).info
   have hzs:z.cells.size=inf.size:=by have:=(hT e ie hie).len;rw [← e5] at this;rw [e2];simpa using this
   split at h
   ·cases h
   rename_i hsz
   split at h
   ·rename_i mm cs hsrc
    obtain ⟨A,c,news,rfl,hr,hA⟩:=Zuy hM hx hsrc
    have hl:=Ju _ _ hr
    split at h
    ·simp only [Option.some.injEq,Prod.mk.injEq] at h
     obtain ⟨rfl,rfl,rfl,rfl⟩:=h
     simp only [G.rep] at hs
     subst hs
     have hown:w.ownsRow 0 e inf.size (.slice none 0 0) 0 []:=World.ownsRow_nil w 0 e inf.size
     obtain ⟨v',w',g1,g2,g3,g4,_⟩:=Zud (ty:=ty) (c:=c) hu e1 e4 hzs (by omega) hown (by rw [← hl,e2];exact hS.1) (Zin _ _ hr hS.2.1) hA (by rw [e3,Nat.zero_add];exact hS.2.2.1) (by rw [Nat.zero_add];exact hS.2.2.2)
     have hb:∀ b,b < w.heap.size→¬ (n < n∧Zam (m n)=some b)→w'.heap[b]? = w.heap[b]? := fun b hb _=>g3.block b hb (by simp [Value.ownBlock])
     have hh:∀ b,Zam v'=some b→b < w.heap.size→n < n∧Zam (m n)=some b:=fun b hb hlt=>by
      rw [Zl2 g2] at hb
      rcases g4 with h | h
      ·rw [h] at hb;cases hb
      rw [h] at hb;injection hb with hb;omega
     have hE:=Ext.upd (w':=w') hM n ⟨true,e,ie.size,mm,cs⟩ v' (Nat.le_refl _) (fun h=>absurd h (Nat.lt_irrefl _)) g3.os g3.tape g3.output g3.size hb hh (n+1) (Nat.le_succ _)
     have hM':=Mem.upd hM n ⟨true,e,ie.size,mm,cs⟩ v' (Nat.le_refl _) (fun h=>absurd h (Nat.lt_irrefl _)) hb hh (n+1) (Nat.le_succ _) (Nat.lt_succ_self _) hE
      ⟨news,G.reps_ext hE _ _ hr,by rw [if_pos rfl];simpa [e2] using g2⟩
     refine ⟨_,_,_,g1,hM',hE,Zhl _ _ _ _ _ _ _ _ _ ?_⟩
     have hg:=Zr1 g2
     rwa [Nat.zero_add] at hg
    ·rename_i i k
     split at h
     ·rename_i o ho
      split at h
      ·rename_i hc
       obtain ⟨c1,c2,c3,c4⟩:=hc
       simp only [Option.some.injEq,Prod.mk.injEq] at h
       obtain ⟨rfl,rfl,rfl,rfl⟩:=h
       simp only [G.rep] at hs
       have hv:=(hs.2.2 o ho).2 c2 c1
       obtain ⟨xs,hxs,hy⟩:=hM.obj i o ho
       rw [if_pos c1,c3,c4,hv,← c2,← e2] at hy
       obtain ⟨v',w',g1,g2,g3,g4,g5⟩:=Zud (ty:=ty) (c:=c) hu e1 e4 hzs (by omega) hy (by rw [← hl,e2];exact hS.1) (Zin _ _ hr hS.2.1) hA (by rw [e3];exact hS.2.2.1) hS.2.2.2
       have hbv:=Zl2 hy
       have hb:∀ b,b < w.heap.size→¬ (i < n∧Zam (m i)=some b)→w'.heap[b]? = w.heap[b]? := fun b hb hne=>g3.block b hb (fun he=>hne ⟨hs.1,by rw [hv,hbv,he]⟩)
       have hh:∀ b,Zam v'=some b→b < w.heap.size→i < n∧Zam (m i)=some b:=fun b hb hlt=>by
        rw [Zl2 g2] at hb
        rcases g4 with h | h
        ·rw [h] at hb;exact ⟨hs.1,by rw [hv,hbv,hb]⟩
        rw [h] at hb;injection hb with hb;omega
       have hE:=Ext.upd (w':=w') hM i ⟨true,e,ie.size,k+mm,o.cells++cs⟩ v' (Nat.le_of_lt hs.1) (fun _=>⟨o,ho,c1.symm,by simp only;omega,fun hq=>by
        rcases hq with hq | hq
        ·rw [hv];exact g5 (by simp only at hq;omega)
        cases hq⟩) g3.os g3.tape g3.output g3.size hb hh n (Nat.le_refl _)
       have hM':=Mem.upd hM i ⟨true,e,ie.size,k+mm,o.cells++cs⟩ v' (Nat.le_of_lt hs.1) (fun _=>⟨o,ho⟩) hb hh n (Nat.le_refl _) hs.1 hE
        ⟨xs++news,G.reps_ext hE _ _ (U7 _ _ _ _ hxs hr),by rw [if_pos rfl];rw [e2] at g2;exact g2⟩
       refine ⟨_,_,_,g1,hM',hE,?_⟩
       simp only [G.rep]
       refine ⟨hs.1,?_,fun o' ho' => ?_⟩
       ·exact Zr1 g2
       rw [Z8] at ho'
       injection ho' with ho'
       subst ho'
       exact ⟨Nat.le_refl _,fun _ _=>Zan _ _ _⟩
      cases h
     cases h
    cases h
   cases h
  cases h
 cases h
end
theorem Zxf {P:Program} {w:World} {t tn ty e:TypeId} {i:TypeInfo} {z:Value} {kq kn:IntKind} (ht:P.underlying t=some (.slice e)) (htn:P.underlying tn=some (.int kn)) (hi:P.info? e=some i) (hz:i.zero=some z)
  (hzs:z.cells.size=i.size) (hsz:0 < i.size) {m:Nat} (h1:∀ u∈(Builtin.zeroCells z.cells m).toList,u.oneCell'=true) {v:Value} {n:Nat} {xs:List Value} (hown:w.ownsRow 0 e i.size v n xs) (hb:(n+m) * i.bytes≤140737488355328) (h63:n+m≤140737488355328) :
  ∃ v' w',(Builtin.append_ #[t,tn] ty #[v,.int kq m]).run P w = .ok v' w'∧w'.ownsRow 0 e i.size v' (n+m) (xs++(Builtin.zeroCells z.cells m).toList)∧w.grownBy w' v.ownBlock∧(v'.ownBlock=v.ownBlock∨v'.ownBlock=some w.heap.size)∧(m=0→v'=v):=by
 have hw:IntKind.i64.wrap (m:Int)=m:=by rw [IntKind.wrap_i64];omega
 have hneg:¬ ((m:Int) < 0):=by omega
 have hmb:m * i.bytes≤140737488355328:=Nat.le_trans (Nat.mul_le_mul_right _ (by omega)) hb
 have h48i:¬ (281474976710656 < (m:Int) * (i.bytes:Int)):=by rw [← Int.natCast_mul];omega
 have hl:(Builtin.zeroCells z.cells m).toList.length=m * i.size:=by rw [Array.length_toList,size_zeroCells,hzs]
 have hlen:(xs++(Builtin.zeroCells z.cells m).toList).length=(n+m) * i.size:=by rw [List.length_append,hown.1,hl,Nat.add_mul]
 have grown:∀ (old:Nat),old < n+m→∀ (row:Option Nat),
   (w.drew.alloc (.cells (xs.toArray++Builtin.zeroCells z.cells m++Builtin.zeroCells z.cells (grownCap w (n+m) old e - (n+m))) e)).ownsRow 0 e i.size
    (.slice (some ⟨w.heap.size,0,none⟩) (n+m) (grownCap w (n+m) old e)) (n+m) (xs++(Builtin.zeroCells z.cells m).toList) ∧
   w.grownBy (w.drew.alloc (.cells (xs.toArray++Builtin.zeroCells z.cells m++Builtin.zeroCells z.cells (grownCap w (n+m) old e - (n+m))) e)) row:=by
  intro old ho row
  have hge:=grownCap_ge w (n+m) old e
  have hcm:grownCap w (n+m) old e≤maxLen:=grownCap_le_maxLen w (n+m) old e (by unfold maxLen;omega)
  refine ⟨⟨hlen,.inr ⟨w.heap.size,_,_,rfl,Nat.zero_le _,heap_alloc_new w.drew _,hge,hcm,?_,?_⟩⟩,⟨rfl,rfl,rfl,by simp,fun k hk _=>heap_alloc_old w.drew _ hk⟩⟩
  ·simp only [Array.size_append,List.size_toArray,size_zeroCells,hzs,hown.1,← Nat.add_mul]
   congr 1
   omega
  simp only [Array.toList_append,List.append_assoc]
  rw [← List.append_assoc,← hlen]
  exact List.take_left
 have ho:=hown
 rcases hown.2 with ⟨rfl,rfl⟩ | ⟨g,cap,cur,rfl,hbg,hg,hnc,hcm,hcs,htake⟩
 ·have hx:xs=[]:=List.eq_nil_of_length_eq_zero (by simpa using hown.1)
  subst hx
  by_cases hm:m=0
  ·subst hm
   have hn0:(Builtin.zeroCells z.cells 0).toList=[]:=List.eq_nil_of_length_eq_zero (by rw [hl,Nat.zero_mul])
   refine ⟨.slice none 0 0,w,?_,by rw [hn0];exact World.ownsRow_nil w 0 e i.size,⟨rfl,rfl,rfl,Nat.le_refl _,fun _ _ _=>rfl⟩,Or.inl rfl,fun _=>rfl⟩
   simp [Builtin.append_,run_underlying ht,run_underlying htn,sizeOf,typeInfo,hi,asInt,asIntOf,show IntKind.i64.wrap 0=0 from rfl]
  have hr:=Lib.run_append_nil_zeros (P:=P) w t tn ty e i z kq kn ht htn hi hz m (by omega) hsz (by omega) (by omega)
  have hgr:=grown 0 (by omega) (Value.ownBlock (.slice none 0 0))
  simp only [Nat.zero_add,List.nil_append,Array.empty_append] at hgr ⊢
  exact ⟨_,_,hr,hgr.1,hgr.2,Or.inr rfl,fun h=>absurd h hm⟩
 by_cases hroom:n+m≤cap
 ·have hfit:n * i.size+(Builtin.zeroCells z.cells m).toList.length≤cur.size:=by rw [hl,hcs,← Nat.add_mul];exact Nat.mul_le_mul_right _ hroom
  have hst:=run_storeCells_at P g (n * i.size) e (Builtin.zeroCells z.cells m).toList 0 cur w hg (by simpa using hfit) h1
  simp only [Nat.add_zero] at hst
  have hr:(Builtin.append_ #[t,tn] ty #[.slice (some ⟨g,0,none⟩) n cap,.int kq m]).run P w = .ok (.slice (some ⟨g,0,none⟩) (n+m) cap) (w.setRow g (cur.toList.take (n * i.size)++(Builtin.zeroCells z.cells m).toList++cur.toList.drop (n * i.size+(Builtin.zeroCells z.cells m).toList.length)).toArray):=by
   by_cases hms:m * i.size=0
   ·have hz0:Builtin.zeroCells z.cells m=#[]:=Array.eq_empty_of_size_eq_zero (by rw [size_zeroCells,hzs,hms])
    rw [hz0] at hst ⊢
    simp [Builtin.append_,run_underlying ht,run_underlying htn,sizeOf,typeInfo,hi,asInt,asIntOf,hw,hneg,h48i,hroom,hms,Addr.add_lit] at hst ⊢
    rw [hst]
    rfl
   simp [Builtin.append_,run_underlying ht,run_underlying htn,sizeOf,typeInfo,zeroValue,hi,hz,asInt,asIntOf,hw,hneg,h48i,hroom,hms,Addr.add_lit,hst]
  refine ⟨_,_,hr,⟨hlen,.inr ⟨g,cap,_,rfl,hbg,Zsy w g cur _ e hg,hroom,hcm,?_,?_⟩⟩,⟨rfl,rfl,rfl,by simp,fun k _ hk=>Zk1 w g _ (fun e=>hk (by simp [Value.ownBlock,e]))⟩,Or.inl rfl,fun h=>by rw [h];rfl⟩
  ·simp only [List.size_toArray,List.length_append,List.length_take,List.length_drop,Array.length_toList] at hfit ⊢
   omega
  rw [htake,← hlen]
  exact List.take_left
 have hm0:0 < m:=by omega
 have holds:∀ j u,xs[j]? = some u→w.cell? ((⟨g,0,none⟩:Addr).add j)=some u:=ho.cells (g:=g) rfl
 have hold:(Builtin.firstCells i.size n (.slice (some ⟨g,0,none⟩) n cap)).run P w.drew = .ok xs.toArray w.drew:=run_firstCells_some (P:=P) w.drew i.size n ⟨g,0,none⟩ n cap xs hown.1 holds
 have hr:=Lib.run_append_grow_zeros (P:=P) w t tn ty e i z kq kn ht htn hi hz (some ⟨g,0,none⟩) n cap xs hold m hm0 hsz (by omega) (by omega) (by omega) (growslice_fits (by omega) hb)
 have hgr:=grown cap (by omega) (Value.ownBlock (.slice (some ⟨g,0,none⟩) n cap))
 exact ⟨_,_,hr,hgr.1,hgr.2,Or.inr rfl,fun h=>by omega⟩
theorem Zpq {α:Type} {x:α} {l:List α}:∀ {m:Nat},x∈(List.replicate m l).flatten→x∈l
 | 0,h=>by simp at h
 | m+1,h=>by
  rw [List.replicate_succ,List.flatten_cons,List.mem_append] at h
  rcases h with h | h
  ·exact h
  exact Zpq h
theorem Zmq {z:Array Value} {m:Nat}:(Builtin.zeroCells z m).toList=(List.replicate m z.toList).flatten:=by
 have:=Zdx z z.size m rfl
 rw [← this]
 rfl
def Zj3 (T:Kv) (t t':TypeId) (s x:G) (O:Objs) (n:Nat):Option (Prop×G×Objs×Nat) :=
 match Yu T t,Yu T t',x with
 | some (.slice e),some (.int _),.val (.int _ m)=>match T e with
  | some ie=>if ie.size=0 then none else match s with
   | .row i k=>match O i with
    | some o=>if o.row=true∧k=o.n∧o.ty=e∧o.sz=ie.size then
      some (0≤m∧(ie.zero.map G.val).all G.one=true∧(k+m.toNat) * ie.bytes≤140737488355328∧k+m.toNat≤140737488355328,.row i (k+m.toNat),O.upd i (some ⟨true,e,ie.size,k+m.toNat,o.cells++(List.replicate m.toNat (ie.zero.map .val)).flatten⟩),n) else none
    | none=>none
   | .sl k cs=>if m=0 then some (True,.sl k cs,O,n) else none
   | _=>none
  | none=>none
 | _,_,_=>none
theorem Ybh {P:Program} {w:World} {t tn ty e:TypeId} {i:TypeInfo} {kq kn:IntKind} (ht:P.underlying t=some (.slice e)) (htn:P.underlying tn=some (.int kn)) (hi:P.info? e=some i) (A:Option Addr) {k c:Nat} (hk:k≤c) :
  (Builtin.append_ #[t,tn] ty #[.slice A k c,.int kq 0]).run P w = .ok (.slice A k c) w:=by
 cases A with
 | none=>simp [Builtin.append_,run_underlying ht,run_underlying htn,sizeOf,typeInfo,hi,asInt,asIntOf,show IntKind.i64.wrap 0=0 from rfl,hk]
 | some a=>simp [Builtin.append_,run_underlying ht,run_underlying htn,sizeOf,typeInfo,hi,asInt,asIntOf,show IntKind.i64.wrap 0=0 from rfl,hk,storeCells]
section
variable {P:Program} {T:Kv} {w:World} {O:Objs} {m:Hands} {n:Nat}
theorem Zup (hT:Qo P T) (hM:Mem w O m n) {t t' ty:TypeId} {s x g:G} {vs vx:Value} {S:Prop} {O':Objs} {n':Nat} (hs:s.rep w O m n vs) (hx:x.rep w O m n vx) (h:Zj3 T t t' s x O n=some (S,g,O',n')) (hS:S) :
  Does P w O m n (Builtin.append_ #[t,t'] ty #[vs,vx]) g O' n':=by
 unfold Zj3 at h
 split at h
 ·rename_i e kn kq l hk hk'
  have hu:=Q8 hT hk
  have hu':=Q8 hT hk'
  simp only [TK.ok] at hu hu'
  simp only [G.rep] at hx
  subst hx
  split at h
  ·rename_i ie hie
   obtain ⟨inf,z,e1,e2,e3,e4,e5⟩:=(hT e ie hie).info
   have hzs:z.cells.size=inf.size:=by have:=(hT e ie hie).len;rw [← e5] at this;rw [e2];simpa using this
   split at h
   ·cases h
   rename_i hsz
   split at h
   ·rename_i i k
    split at h
    ·rename_i o ho
     split at h
     ·rename_i hc
      obtain ⟨c1,c2,c3,c4⟩:=hc
      simp only [Option.some.injEq,Prod.mk.injEq] at h
      obtain ⟨rfl,rfl,rfl,rfl⟩:=h
      obtain ⟨s0,s1,s2,s3⟩:=hS
      obtain ⟨q,rfl⟩:=Int.eq_ofNat_of_zero_le s0
      rw [Int.toNat_natCast] at s2 s3 ⊢
      simp only [G.rep] at hs
      have hv:=(hs.2.2 o ho).2 c2 c1
      obtain ⟨xs,hxs,hy⟩:=hM.obj i o ho
      rw [if_pos c1,c3,c4,hv,← c2,← e2] at hy
      have hr:G.reps w O m n (List.replicate q (ie.zero.map .val)).flatten (List.replicate q z.cells.toList).flatten:=by rw [← e5];exact Zm6 _ _ _ (Ziu _)
      have hone:∀ u∈(List.replicate q z.cells.toList).flatten,u.oneCell'=true:=fun u hu=>Zin _ _ (Ziu (w:=w) (O:=O) (m:=m) (n:=n) z.cells.toList) (by rw [e5];exact s1) u (Zpq hu)
      obtain ⟨v',w',g1,g2,g3,g4,g5⟩:=Zxf (ty:=ty) (kq:=kq) (kn:=kn) hu hu' e1 e4 hzs (by omega) (by rw [Zmq];exact hone) hy (by rw [e3];exact s2) s3
      rw [Zmq] at g2
      have hbv:=Zl2 hy
      have hb:∀ b,b < w.heap.size→¬ (i < n∧Zam (m i)=some b)→w'.heap[b]? = w.heap[b]? := fun b hb hne=>g3.block b hb (fun he=>hne ⟨hs.1,by rw [hv,hbv,he]⟩)
      have hh:∀ b,Zam v'=some b→b < w.heap.size→i < n∧Zam (m i)=some b:=fun b hb hlt=>by
       rw [Zl2 g2] at hb
       rcases g4 with h | h
       ·rw [h] at hb;exact ⟨hs.1,by rw [hv,hbv,hb]⟩
       rw [h] at hb;injection hb with hb;omega
      have hE:=Ext.upd (w':=w') hM i ⟨true,e,ie.size,k+q,o.cells++(List.replicate q (ie.zero.map .val)).flatten⟩ v' (Nat.le_of_lt hs.1) (fun _=>⟨o,ho,c1.symm,by simp only;omega,fun hq=>by
       rcases hq with hq | hq
       ·rw [hv];exact g5 (by simp only at hq;omega)
       cases hq⟩) g3.os g3.tape g3.output g3.size hb hh n (Nat.le_refl _)
      have hM':=Mem.upd hM i ⟨true,e,ie.size,k+q,o.cells++(List.replicate q (ie.zero.map .val)).flatten⟩ v' (Nat.le_of_lt hs.1) (fun _=>⟨o,ho⟩) hb hh n (Nat.le_refl _) hs.1 hE
       ⟨xs++(List.replicate q z.cells.toList).flatten,G.reps_ext hE _ _ (U7 _ _ _ _ hxs hr),by rw [if_pos rfl];rw [e2] at g2;exact g2⟩
      refine ⟨_,_,_,g1,hM',hE,?_⟩
      simp only [G.rep]
      refine ⟨hs.1,?_,fun o' ho' => ?_⟩
      ·exact Zr1 g2
      rw [Z8] at ho'
      injection ho' with ho'
      subst ho'
      exact ⟨Nat.le_refl _,fun _ _=>Zan _ _ _⟩
     cases h
    cases h
   ·rename_i k cs
    split at h
    ·rename_i hm0
     subst hm0
     simp only [Option.some.injEq,Prod.mk.injEq] at h
     obtain ⟨rfl,rfl,rfl,rfl⟩:=h
     have hs':=hs
     simp only [G.rep] at hs'
     obtain ⟨A,c,rfl,hk,_⟩:=hs'
     exact Does.same hM (Ybh hu hu' e1 A hk) hs
    cases h
   cases h
  cases h
 cases h
end
end Go.Proofs.Ytibgpnmmgffgeaa
