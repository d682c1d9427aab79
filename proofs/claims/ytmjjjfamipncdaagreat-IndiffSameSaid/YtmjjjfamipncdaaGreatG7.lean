/- Part G7 of the ghost memory: lemmas and contracts used by the proofs of this seat's laws; each theorem bears its own conditions. -/
import Derived.Test.YtmjjjfamipncdaaGreatG6
namespace Go.Proofs.YtmjjjfamipncdaaGreat
open Go.RowKit
set_option linter.unusedVariables false
set_option linter.unusedSimpArgs false
section
variable {P:Program} {T:J0} {w:World} {O:Objs} {m:Hands} {n:Nat}
theorem Zor:∀ (vs:List Value) (off k:Nat) (cur:Array Value),off+k+vs.length≤cur.size →
  (List.foldl (fun (cs:Array Value) (p:Value×Nat)=>cs.setIfInBounds (off+p.2) p.1) cur (vs.zipIdx k)).toList=cur.toList.take (off+k)++vs++cur.toList.drop (off+k+vs.length)
 | [],off,k,cur,h=>by simp
 | v::vs,off,k,cur,h=>by
  simp only [List.length_cons] at h
  rw [List.zipIdx_cons,List.foldl_cons,Zor vs off (k+1) _ (by simp;omega)]
  simp only [Array.toList_setIfInBounds,List.length_cons]
  have e1:(cur.toList.set (off+k) v).take (off+(k+1))=cur.toList.take (off+k)++[v]:=by
   rw [show off+(k+1)=off+k+1 by omega,List.take_succ_eq_append_getElem (by simp;omega)]
   simp [List.take_set_of_le]
  have e2:(cur.toList.set (off+k) v).drop (off+(k+1)+vs.length)=cur.toList.drop (off+k+(vs.length+1)):=by
   rw [List.drop_set_of_lt (by omega)]
   congr 1
   omega
  rw [e1,e2]
  simp
def Zgc (places:Nat→Option (Nat×Nat)) (cells:List G):List (Nat×G)→Option (List G)
 | []=>some cells
 | (i,x)::Zf1=>match places i,Qi x with
  | some (off,size),some cs=>if cs.length=size∧off+size≤cells.length then Zgc places (cells.take off++cs++cells.drop (off+size)) Zf1 else none
  | _,_=>none
theorem Zfc (places:Nat→Option (Nat×Nat)):∀ (ps:List (Nat×G)) (us:List (Nat×Value)) (cells:List G) (cur:Array Value) (r:List G),G.reps w O m n cells cur.toList →
  (ps.map (·.1)=us.map (·.1))→G.reps w O m n (ps.map (·.2)) (us.map (·.2))→Zgc places cells ps=some r→∃ c,Instr.fill places cur us=some c∧G.reps w O m n r c.toList
 | [],us,cells,cur,r,hr,h1,h2,h=>by
  simp only [Zgc,Option.some.injEq] at h
  subst h
  cases us with
  | nil=>exact ⟨cur,rfl,hr⟩
  | cons _ _=>simp at h1
 | (i,x)::ps,us,cells,cur,r,hr,h1,h2,h=>by
  cases us with
  | nil=>simp at h1
  | cons u us =>
   obtain ⟨j,v⟩:=u
   simp only [List.map_cons,List.cons.injEq] at h1
   obtain ⟨rfl,h1⟩:=h1
   simp only [List.map_cons,G.reps] at h2
   obtain ⟨v',us',e,hv,h2⟩:=h2
   injection e with e1 e2
   subst e1 e2
   simp only [Zgc] at h
   split at h
   ·rename_i off size cs hp hc
    split at h
    ·rename_i hcond
     have hcs:=Zei hv hc
     have hl:=Qx _ _ hcs
     have hlc:=Qx _ _ hr
     have hq1:v.cells.toList.length=v.cells.size:=by simp
     have hq2:cur.toList.length=cur.size:=by simp
     have hsz:v.cells.size=size:=by omega
     have hf:=Zor v.cells.toList off 0 cur (by simp;omega)
     rw [Array.length_toList,hsz,Nat.add_zero] at hf
     have hfill:Instr.fill places cur ((i,v)::us)=Instr.fill places (v.cells.zipIdx.foldl (fun cs (c,j)=>cs.setIfInBounds (off+j) c) cur) us:=by
      simp only [Instr.fill,hp]
      rw [if_neg (by simp [hsz];omega)]
     have he:(v.cells.zipIdx.foldl (fun cs (c,j)=>cs.setIfInBounds (off+j) c) cur).toList=cur.toList.take off++v.cells.toList++cur.toList.drop (off+size):=by
      rw [← hf,← Array.foldl_toList,Array.toList_zipIdx]
     rw [hfill]
     refine Zfc places ps us _ _ r ?_ h1 h2 h
     rw [he]
     exact Vg _ _ _ _ (Vg _ _ _ _ (Kp _ _ _ hr) hcs) (Vs _ _ _ hr)
    cases h
   cases h
def Zbu (T:J0):List (Nat×TypeId)→Option (List (Nat×Nat))
 | []=>some []
 | (o,t)::fs=>match T t,Zbu T fs with
  | some i,some r=>some ((o,i.size)::r)
  | _,_=>none
theorem Zne (hT:Ql P T):∀ (fs:List Field) (r:List (Nat×Nat)),Zbu T (fs.map fun f=>(f.offset,f.type))=some r→fs.mapM (fun f=>(P.info? f.type).map fun i=>(f.offset,i.size))=some r
 | [],r,h=>by simp only [List.map_nil,Zbu,Option.some.injEq] at h;subst h;simp
 | f::fs,r,h=>by
  simp only [List.map_cons,Zbu] at h
  split at h
  ·rename_i i r' hi hr
   injection h with h
   subst h
   obtain ⟨inf,z,h1,h2,_⟩:=(hT _ i hi).info
   simp [List.mapM_cons,h1,h2,Zne hT fs r' hr]
  cases h
def Zeh (T:J0) (t:TypeId) (ps:List (Nat×G)):Option G :=
 match T t with
 | some i=>match i.k with
  | .struct fs=>match Zbu T fs with
   | some pl=>match Zgc (pl[·]?) (i.zero.map .val) ps with
    | some c=>some (.agg c)
    | none=>none
   | none=>none
  | .arr _ e=>match T e with
   | some ie=>match Zgc (fun j=>some (j * ie.size,ie.size)) (i.zero.map .val) ps with
    | some c=>some (.agg c)
    | none=>none
   | none=>none
  | _=>none
 | none=>none
theorem Zx3 (hT:Ql P T) {t:TypeId} {ps:List (Nat×G)} {us:Array (Nat×Value)} {g:G} (h1:ps.map (·.1)=us.toList.map (·.1)) (h2:G.reps w O m n (ps.map (·.2)) (us.toList.map (·.2))) (h:Zeh T t ps=some g) :
  ∃ v,(Instr.build t us).run P w = .ok v w∧g.rep w O m n v:=by
 unfold Zeh at h
 split at h
 ·rename_i i hi
  have hok:=hT t i hi
  obtain ⟨inf,z,e1,e2,e3,e4,e5⟩:=hok.info
  have hz:G.reps w O m n (i.zero.map .val) z.cells.toList:=by rw [← e5];exact Ze3 _
  have hund:=hok.und
  split at h
  ·rename_i fs hk
   rw [hk] at hund
   obtain ⟨fields,hu,hm⟩:=hund
   split at h
   ·rename_i pl hpl
    split at h
    ·rename_i c hc
     injection h with h
     subst h
     obtain ⟨c',hf,hr⟩:=Zfc _ ps us.toList _ z.cells c hz h1 h2 hc
     rw [← hm] at hpl
     have hp:=Zne hT fields.toList pl hpl
     refine ⟨.agg c',run_build w t us c' ?_,?_⟩
     ·simp only [Program.built,e1,hu,e4,hp]
      simpa using hf
     simp only [G.rep];exact ⟨c',rfl,hr⟩
    cases h
   cases h
  ·rename_i len e hk
   rw [hk] at hund
   simp only [TK.ok] at hund
   split at h
   ·rename_i ie hie
    split at h
    ·rename_i c hc
     injection h with h
     subst h
     obtain ⟨c',hf,hr⟩:=Zfc _ ps us.toList _ z.cells c hz h1 h2 hc
     obtain ⟨inf',z',f1,f2,_⟩:=(hT e ie hie).info
     refine ⟨.agg c',run_build w t us c' ?_,?_⟩
     ·simp only [Program.built,e1,hund,e4,f1,f2]
      exact hf
     simp only [G.rep];exact ⟨c',rfl,hr⟩
    cases h
   cases h
  cases h
 cases h
end
end Go.Proofs.YtmjjjfamipncdaaGreat
