/- Part G10 of the ghost memory: lemmas and contracts used by the proofs of this seat's laws; each theorem bears its own conditions. -/
import Derived.Test.YtjeakjakgocoaaaG1
import Derived.Test.YtjeakjakgocoaaaG2
import Derived.Test.YtjeakjakgocoaaaG6
import Derived.WalkKit
import Derived.WalkSpells
import Derived.WalkLawsBesides
import Derived.Lib.Hide
import Derived.BigQuiet
import Derived.StillTailTactics
import Derived.Deep.RegionHeld3
import Derived.Deep.AppendLies
import Derived.Laws.CopyOwn
import Derived.Deep.DeepCutAuto
import Derived.Deep.QuietTactic
import Derived.Maps.AppendAt
import Derived.Great.BuildSlice
import Derived.Laws.StructEq
import Derived.IntWalk
import Derived.ProofKit
import Derived.OpenShut
import Derived.SizedLaws
import Derived.Deep.Slices
namespace Go.Proofs.Ytjeakjakgocoaaa
open Go.RowKit
set_option linter.unusedVariables false
set_option linter.unusedSimpArgs false
section
variable {P:Program} {T:Qy} {w:World} {O:Objs} {m:Hands} {n:Nat}
abbrev KI:=IntKind×Int
def KI.v (p:KI):Value := .int p.1 p.2
def Zo6:Option G→Option (Option KI)
 | none=>some none
 | some (.val (.int k i))=>some (some (k,i))
 | _=>none
def bLo (lo:Option KI):Int:=match lo with | some p=>p.2 | none=>0
def bHi (hi:Option KI) (len:Nat):Int:=match hi with | some p=>p.2 | none=>len
def bMx (mx:Option KI) (cap:Nat):Int:=match mx with | some p=>p.2 | none=>cap
theorem Zge (isSlice:Bool) (len cap:Nat) (lo hi mx:Option KI) (h0:0≤bLo lo) (h1:bLo lo≤bHi hi len) (h2:bHi hi len≤bMx mx cap) (h3:bMx mx cap≤cap) (h4:mx.isSome=true→hi.isSome=true) :
  (Instr.sliceBounds isSlice len cap (lo.map KI.v) (hi.map KI.v) (mx.map KI.v)).run P w = .ok ((bLo lo).toNat,(bHi hi len).toNat,(bMx mx cap).toNat) w:=by
 have sb:∀ (k:IntKind) (i:Int) (y:Nat) (c:BoundsCode),0≤i→i≤y→(Instr.sliceBound (.int k i) y c).run P w = .ok i.toNat w:=fun k i y c ha hb=>by
  simp [Instr.sliceBound,asIntOf,ha,hb]
 have c0:((bHi hi len).toNat:Int)=bHi hi len:=Int.toNat_of_nonneg (by omega)
 have c1:((bMx mx cap).toNat:Int)=bMx mx cap:=Int.toNat_of_nonneg (by omega)
 cases lo <;> cases hi <;> cases mx <;> simp only [Option.isSome,Bool.false_eq_true,reduceCtorEq,imp_false,not_true_eq_false,forall_const] at h4 <;>
  simp only [bLo,bHi,bMx,Int.toNat_natCast] at h0 h1 h2 h3 c0 c1 ⊢ <;>
  simp only [Instr.sliceBounds,Option.map_none,Option.map_some,KI.v,Option.isSome,Sem.run_bind,Sem.run_pure,Result.andThen_ok] <;>
  (try rw [sb _ _ _ _ (by omega) (by omega)]) <;> (try simp only [Result.andThen_ok]) <;> (try rw [sb _ _ _ _ (by omega) (by omega)]) <;> (try simp only [Result.andThen_ok]) <;> (try rw [sb _ _ _ _ (by omega) (by omega)]) <;> (try simp only [Result.andThen_ok]) <;> first | rfl | simp
theorem Z3t (l h q:Int) (k:Nat) (h0:0≤l) (h1:l≤h) (h2:h≤q) (h3:q≤k) (hne:(h - l).toNat≠0):k≠0:=by omega
theorem Z3u (l h q:Int) (h0:0≤l) (h1:l≤h) (h2:h≤q) (hne:(h - l).toNat≠0):¬ q.toNat=l.toNat:=by omega
def Zau (T:Qy) (t:TypeId) (x:G) (lo hi mx:Option KI):Option (Prop×G) :=
 match Zs T t,x with
 | some (.slice e),.sl k cs=>match T e with
  | some ie=>if mx.isSome=true∧hi.isSome=false then none else
   some (0≤bLo lo∧bLo lo≤bHi hi k∧bHi hi k≤bMx mx k∧bMx mx k≤k,.sl (bHi hi k - bLo lo).toNat ((cs.drop ((bLo lo).toNat * ie.size)).take ((bHi hi k - bLo lo).toNat * ie.size)))
  | none=>none
 | some (.arr len e),.ref i off=>match T e with
  | some ie=>if mx.isSome=true∧hi.isSome=false then none else
   some (0≤bLo lo∧bLo lo≤bHi hi len∧bHi hi len≤bMx mx len∧bMx mx len≤len,.rs i (if bMx mx len=bLo lo then off else off+(bLo lo).toNat * ie.size) (bHi hi len - bLo lo).toNat)
  | none=>none
 | some .str,.val (.string s)=>if mx.isSome then none else
   some (0≤bLo lo∧bLo lo≤bHi hi s.size∧bHi hi s.size≤s.size,.val (.string (s.extract (bLo lo).toNat (bHi hi s.size).toNat)))
 | _,_=>none
theorem Znk (hT:X1 P T) {t:TypeId} {x g:G} {lo hi mx:Option KI} {S:Prop} {v:Value} (hx:x.rep w O m n v) (hl:Y4 O x) (h:Zau T t x lo hi mx=some (S,g)) (hS:S) :
  ∃ u,(Instr.sliceAt t v (lo.map KI.v) (hi.map KI.v) (mx.map KI.v)).run P w = .ok u w∧g.rep w O m n u:=by
 unfold Zau at h
 split at h
 ·rename_i e k cs hk
  have hu:=X8 hT hk
  simp only [TK.ok] at hu
  split at h
  ·rename_i ie hie
   split at h
   ·cases h
   rename_i hmx
   simp only [Option.some.injEq,Prod.mk.injEq] at h
   obtain ⟨rfl,rfl⟩:=h
   simp only [G.rep] at hx
   obtain ⟨A,c,rfl,hkc,vs,hr,ha⟩:=hx
   have hs:=Zdh hT hie w
   have h4:mx.isSome=true→hi.isSome=true:=fun q=>by cases hh:hi.isSome <;> simp_all
   have hmm:bHi hi k≤bMx mx c∧bMx mx c≤c:=by
    cases mx with
    | none=>simp only [bMx] at hS ⊢;exact ⟨by omega,by omega⟩
    | some p=>simp only [bMx] at hS ⊢;exact ⟨by omega,by omega⟩
   have hb:=Zge (P:=P) (w:=w) true k c lo hi mx hS.1 hS.2.1 hmm.1 hmm.2 h4
   refine ⟨.slice (if (bMx mx c).toNat=(bLo lo).toNat then A else Option.map (fun x=>x.add ((bLo lo).toNat * ie.size)) A) ((bHi hi k).toNat - (bLo lo).toNat) ((bMx mx c).toNat - (bLo lo).toNat),by simp only [Instr.sliceAt,Instr.slice,Sem.run_bind,run_underlying hu,Result.andThen_ok,hb,hs,Sem.run_pure],?_⟩
   simp only [G.rep]
   refine ⟨(if (bMx mx c).toNat=(bLo lo).toNat then A else Option.map (fun x=>x.add ((bLo lo).toNat * ie.size)) A),(bMx mx c).toNat - (bLo lo).toNat,?_,?_,(vs.drop ((bLo lo).toNat * ie.size)).take ((bHi hi k - bLo lo).toNat * ie.size),Jy _ _ _ (Kq _ _ _ hr),fun hne => ?_⟩
   ·congr 1
    omega
   ·omega
   have hk0:k≠0:=Z3t _ _ _ k hS.1 hS.2.1 hS.2.2.1 hS.2.2.2 hne
   obtain ⟨b,off,rfl,h1,h2,h3⟩:=ha hk0
   clear hb
   have hne2:¬ (bMx mx c).toNat=(bLo lo).toNat:=Z3u _ _ _ hS.1 hS.2.1 hmm.1 hne
   refine ⟨b,off+(bLo lo).toNat * ie.size,?_,h1,h2,fun j u hu => ?_⟩
   ·rw [if_neg hne2]
    simp [Gz]
   rw [List.getElem?_take] at hu
   split at hu
   ·rw [List.getElem?_drop] at hu
    rw [Nat.add_assoc]
    exact h3 _ _ hu
   cases hu
  cases h
 ·rename_i len e i off hk
  have hu:=X8 hT hk
  simp only [TK.ok] at hu
  split at h
  ·rename_i ie hie
   split at h
   ·cases h
   rename_i hmx
   simp only [Option.some.injEq,Prod.mk.injEq] at h
   obtain ⟨rfl,rfl⟩:=h
   obtain ⟨o,ho,hrow⟩:=hl
   simp only [G.rep] at hx
   obtain ⟨b,e1,rfl⟩:=hx.2.2 o ho hrow
   have hs:=Zdh hT hie w
   have h4:mx.isSome=true→hi.isSome=true:=fun q=>by cases hh:hi.isSome <;> simp_all
   have hb:=Zge (P:=P) (w:=w) false len len lo hi mx hS.1 hS.2.1 hS.2.2.1 hS.2.2.2 h4
   refine ⟨.slice (some (if (bMx mx len).toNat=(bLo lo).toNat then ⟨b,off,none⟩ else (⟨b,off,none⟩:Addr).add ((bLo lo).toNat * ie.size))) ((bHi hi len).toNat - (bLo lo).toNat) ((bMx mx len).toNat - (bLo lo).toNat),by simp only [Instr.sliceAt,Sem.run_bind,run_underlying hu,Instr.sureAddr,Result.andThen_ok,hb,hs,Sem.run_pure],?_⟩
   simp only [G.rep]
   refine ⟨hx.1,rfl,fun o' ho' _=>⟨b,(bMx mx len).toNat - (bLo lo).toNat,e1,?_,by omega⟩⟩
   by_cases hq:bMx mx len=bLo lo
   ·rw [if_pos (by omega),if_pos hq]
    congr 1
    omega
   rw [if_neg (by omega),if_neg hq,Gz]
   congr 1
   omega
  cases h
 ·rename_i s hk
  have hu:=X8 hT hk
  simp only [TK.ok] at hu
  split at h
  ·cases h
  rename_i hmx
  simp only [Option.some.injEq,Prod.mk.injEq] at h
  obtain ⟨rfl,rfl⟩:=h
  simp only [G.rep] at hx
  subst hx
  have hmn:mx=none:=by cases mx <;> simp_all
  subst hmn
  have hb:=Zge (P:=P) (w:=w) false s.size s.size lo hi none hS.1 hS.2.1 hS.2.2 (by simp [bMx]) (fun h=>by cases h)
  refine ⟨_,?_,rfl⟩
  simp only [Option.map_none] at hb
  simp [Instr.sliceAt,Instr.slice,run_underlying hu,hb]
 cases h
def Zbq (x:G) (k:Nat):Option G :=
 match x with
 | .tup vs=>vs[k]?
 | _=>none
theorem Zjv {x g:G} {k:Nat} {v:Value} (hx:x.rep w O m n v) (h:Zbq x k=some g):∃ u,(Instr.extract v k).run P w = .ok u w∧g.rep w O m n u:=by
 unfold Zbq at h
 split at h
 ·simp only [G.rep] at hx
  obtain ⟨vs,rfl,hr⟩:=hx
  obtain ⟨u,h1,h2⟩:=Zg8 _ _ hr _ _ h
  have h1':vs[k]? = some u:=by simpa using h1
  exact ⟨u,by simp [Instr.extract,h1'],h2⟩
 cases h
end
section
variable {P:Program} {T:Qy} {w:World} {O:Objs} {m:Hands} {n:Nat}
abbrev Out:=Prop×G×Objs×Nat
def Zoy (T:Qy) (t:TypeId) (d x:G) (O:Objs) (n:Nat):Option (Prop×G×Objs×Nat) :=
 match Zs T t with
 | some (.slice e)=>match T e with
  | some ie=>if ie.size=1 then (match Zv9 O 1 x with
   | some (mm,cs)=>(match d with
    | .rs i off k=>(match O i with
     | some o=>if o.row=true then none else (Vu o.cells (cs.take (min mm k)) off).map fun c=>(cs.length=mm∧cs.all G.one=true,.val (.int .i64 (min mm k:Nat)),O.upd i (some { o with cells:=c }),n)
     | none=>none)
    | _=>none)
   | none=>none) else none
  | none=>none
 | _=>none
theorem Zoz (hT:X1 P T) (hM:Mem w O m n) {t t' ty:TypeId} {d x g:G} {vd vx:Value} {S:Prop} {O':Objs} {n':Nat} (hd:d.rep w O m n vd) (hx:x.rep w O m n vx) (h:Zoy T t d x O n=some (S,g,O',n')) (hS:S) :
  Does P w O m n (Builtin.copy_ #[t,t'] ty #[vd,vx]) g O' n':=by
 unfold Zoy at h
 split at h
 ·rename_i e hk
  have hu:=X8 hT hk
  simp only [TK.ok] at hu
  split at h
  ·rename_i ie hie
   obtain ⟨inf,z,e1,e2,e3,e4,e5⟩:=(hT e ie hie).info
   split at h
   ·rename_i hsz
    have hs1:(P.info? e).map (·.size)=some 1:=by rw [e1];simp only [Option.map_some];rw [← hsz,e2]
    split at h
    ·rename_i mm cs hsrc
     obtain ⟨A,c,news,rfl,hr,hA⟩:=Zj1 hM hx hsrc
     have hl:=Qd _ _ hr
     split at h
     ·rename_i i off k
      split at h
      ·rename_i o ho
       split at h
       ·cases h
       rename_i hrow
       have hrow':o.row=false:=by simpa using hrow
       cases hp:Vu o.cells (cs.take (min mm k)) off with
       | none=>simp [hp] at h
       | some cc =>
        simp only [hp,Option.map_some,Option.some.injEq,Prod.mk.injEq] at h
        obtain ⟨rfl,rfl,rfl,rfl⟩:=h
        have hd':=hd
        simp only [G.rep] at hd'
        obtain ⟨b,cap,q1,rfl,q3⟩:=hd'.2.2 o ho hrow'
        have hr':=Jy (min mm k) _ _ hr
        have hone:=Zey _ _ hr hS.2
        have hone':∀ u∈news.take (min mm k),u.oneCell'=true:=fun u hu'=>hone u (List.mem_of_mem_take hu')
        have hln:(news.take (min mm k)).length=Nat.min mm k:=by rw [List.length_take,← hl,hS.1];exact Nat.min_eq_left (Nat.min_le_left _ _)
        have href:(G.ref i off).rep w O m n (.pointer (some ⟨b,off,none⟩)):=by
         simp only [G.rep]
         refine ⟨hd'.1,rfl,fun o2 ho2 hr2 => ?_⟩
         rw [ho] at ho2
         injection ho2 with ho2
         subst ho2
         exact ⟨b,q1,rfl⟩
        obtain ⟨ad,w',k1,k2,k3,k4⟩:=Zj0 (P:=P) (O':=O.upd i (some { o with cells:=cc })) hM hr' hone' href (by simp only [Zgt,ho,if_neg hrow,hp,Option.map_some])
        injection k1 with k1
        injection k1 with k1
        subst k1
        refine ⟨.int .i64 (min mm k:Nat),w',m,?_,k3,k4,by simp only [G.rep]⟩
        by_cases h0:Nat.min mm k=0
        ·have hn0:news.take (min mm k)=[]:=List.eq_nil_of_length_eq_zero (by rw [hln];exact h0)
         rw [hn0] at k2
         have:w'=w:=by
          have:(storeCells ⟨b,off,none⟩ []).run P w = .ok () w:=by simp [storeCells]
          rw [this] at k2
          injection k2 with _ k2
          exact k2.symm
         subst this
         have hz:(min mm k:Nat)=0:=h0
         rw [run_copy_none (P:=P) w' t t' ty e _ _ k cap mm c hu hs1 h0,hz]
         rfl
        have hmm:mm≠0:=fun hq=>h0 (by rw [hq];exact Nat.zero_min k)
        obtain ⟨ad2,rfl,hc⟩:=hA hmm
        obtain ⟨us,hus,hlie⟩:=hM.obj i o ho
        simp only [hrow',Bool.false_eq_true,if_false] at hlie
        obtain ⟨b',q4,hh⟩:=hlie
        rw [q1] at q4
        injection q4 with q4
        injection q4 with q4
        injection q4 with q4
        subst q4
        have hfit:off+(news.take (min mm k)).length≤us.toArray.size:=by
         unfold Vu at hp
         split at hp
         ·rename_i hle
          rw [List.size_toArray,← Qd _ _ hus,← Qd _ _ hr']
          exact hle
         cases hp
        have hst:=run_storeCells_at P b off o.ty (news.take (min mm k)) 0 us.toArray w hh (by simpa using hfit) hone'
        have hst:=k2.symm.trans hst
        injection hst with _ hst
        simp only [Nat.add_zero] at hst
        rw [run_copy_row (P:=P) w t t' ty e b off k cap ad2 mm c us.toArray o.ty (news.take (min mm k)) hu hs1 hh hln (fun j v hv=>hc j v (by
         rw [List.getElem?_take] at hv
         split at hv
         ·exact hv
         cases hv)) hfit hone',hst,hln]
        rfl
      cases h
     cases h
    cases h
   cases h
  cases h
 cases h
def Zbm (T:Qy) (b:Builtin) (ts:List TypeId) (xs:List G) (O:Objs) (n:Nat):Option Out :=
 match b,ts,xs with
 | .len,[t],[x]=>(Zv5 T t O x).map fun g=>(Y4 O x,g,O,n)
 | .append,[t,t'],[s,x]=>if t=t' then Zgo T t s x O n else none
 | .copy,[t,_],[d,s]=>Zoy T t d s O n
 | .max,_,[.val (.int k a),.val (.int _ c)]=>some (True,.val (.int k (if c > a then c else a)),O,n)
 | .min,_,[.val (.int k a),.val (.int _ c)]=>some (True,.val (.int k (if c < a then c else a)),O,n)
 | .max,_,[.val (.int k a),.val (.int _ b),.val (.int _ c)]=>some (True,.val (.int k (if c > (if b > a then b else a) then c else (if b > a then b else a))),O,n)
 | _,_,_=>none
def Zw9 (x:G):Option G :=
 match x with
 | .ref i off=>some (.ref i off)
 | .ip cs k=>some (.ip cs k)
 | .rp i k off=>some (.rp i k off)
 | _=>none
def Kk (T:Qy) (ρ:Operand→G) (O:Objs) (n:Nat):Op→Option Out
 | .move x=>some (True,ρ x,O,n)
 | .assign x=>some (True,ρ x,O,n)
 | .pick c a b=>match ρ c with
  | .val (.bool t)=>some (True,if t=true then ρ a else ρ b,O,n)
  | _=>none
 | .alloc t=>(Zhn T t O n).map fun r=>(True,r)
 | .box t x=>(Zv3 t (ρ x) O n).map fun r=>(True,r)
 | .build t ps=>(Zf0 T t (ps.toList.map fun p=>(p.1,ρ p.2))).map fun g=>(True,g,O,n)
 | .buildSlice t len ps=>(Ui T t len (ps.toList.map fun p=>(p.1,ρ p.2)) O n).map fun r=>(True,r)
 | .load t a=>(Zei T O t (ρ a)).map fun g=>(True,g,O,n)
 | .store t a x=>(Zdt T O t (ρ a) (ρ x)).map fun O'=>(True,.val undef,O',n)
 | .nilCheck x=>(Zw9 (ρ x)).map fun g=>(Y4 O (ρ x),g,O,n)
 | .binOp op t x y _=>(Zix T op t (ρ x) (ρ y)).map fun r=>(r.1∧Y4 O (ρ x),r.2,O,n)
 | .unOp op _ x=>(Zf3 op (ρ x)).map fun g=>(True,g,O,n)
 | .convert s d x=>(Zbo T s d (ρ x)).map fun g=>(True,g,O,n)
 | .makeSlice t l c=>match ρ l,ρ c with
  | .val (.int _ a),.val (.int _ b)=>Zo1 T t a b O n
  | _,_=>none
 | .slice t x lo hi mx=>match Zo6 (lo.map ρ),Zo6 (hi.map ρ),Zo6 (mx.map ρ) with
  | some lo,some hi,some mx=>(Zau T t (ρ x) lo hi mx).map fun r=>(r.1∧Y4 O (ρ x),r.2,O,n)
  | _,_,_=>none
 | .fieldAddr s x f=>(Gq T s (ρ x) f).map fun g=>(Y4 O (ρ x),g,O,n)
 | .field s x f=>(Zf1 T s (ρ x) f).map fun g=>(True,g,O,n)
 | .indexAddr t x i=>match ρ i with
  | .val (.int _ j)=>(Gr T t (ρ x) j).map fun r=>(r.1∧Y4 O (ρ x),r.2,O,n)
  | _=>none
 | .index t x i=>match ρ i with
  | .val (.int _ j)=>(Zhp T t (ρ x) j).map fun r=>(r.1,r.2,O,n)
  | _=>none
 | .extract x k=>(Zbq (ρ x) k).map fun g=>(True,g,O,n)
 | .makeFunc fn fs cs=>match fn with
  | .func f=>some (True,.fn f fs.size (fs.toList.map ρ++cs.toList.map ρ),O,n)
  | _=>none
 | .call c=>match c.callee with
  | .builtin b=>Zbm T b c.argTypes.toList (c.args.toList.map ρ) O n
  | _=>none
 | _=>none
def Acts (P:Program) (w:World) (O:Objs) (m:Hands) (n:Nat) (s:Sem Next) (g:G) (O':Objs) (n':Nat):Prop :=
 ∃ v nx w' m',s.run P w = .ok nx w'∧(nx = .value v∨(nx = .skip∧v=undef))∧Mem w' O' m' n'∧Ext w O m n w' O' m' n'∧g.rep w' O' m' n' v
theorem Acts.ofDoes {s:Sem Value} {s':Sem Next} {g:G} {O':Objs} {n':Nat} (h:Does P w O m n s g O' n') (e:s'=(do pure (.value (← s)))):Acts P w O m n s' g O' n':=by
 obtain ⟨v,w',m',h1,h2,h3,h4⟩:=h
 subst e
 exact ⟨v,.value v,w',m',by simp [h1],.inl rfl,h2,h3,h4⟩
theorem Acts.ofSame (hM:Mem w O m n) {s:Sem Value} {s':Sem Next} {g:G} (h:∃ v,s.run P w = .ok v w∧g.rep w O m n v) (e:s'=(do pure (.value (← s)))):Acts P w O m n s' g O n:=by
 obtain ⟨v,h1,h2⟩:=h
 exact Acts.ofDoes (Does.same hM h1 h2) e
theorem Zg9 {ρ:Operand→G} {ρv:Operand→Value} (hρ:∀ x,(ρ x).rep w O m n (ρv x)):∀ l:List Operand,G.reps w O m n (l.map ρ) (l.map ρv)
 | []=>rfl
 | x::l=>⟨_,_,rfl,hρ x,Zg9 hρ l⟩
theorem Zh1 {ρ:Operand→G} {ρv:Operand→Value} (hρ:∀ x,(ρ x).rep w O m n (ρv x)):∀ l:List (Nat×Operand),G.reps w O m n ((l.map fun p=>(p.1,ρ p.2)).map (·.2)) ((l.map fun p=>(p.1,ρv p.2)).map (·.2))
 | []=>rfl
 | x::l=>⟨_,_,rfl,hρ x.2,Zh1 hρ l⟩
theorem Zni {ρ:Operand→G} {ρv:Operand→Value} (hρ:∀ x,(ρ x).rep w O m n (ρv x)) {lo:Option Operand} {r:Option KI} (h:Zo6 (lo.map ρ)=some r):lo.map ρv=r.map KI.v:=by
 cases lo with
 | none=>simp only [Option.map_none,Zo6,Option.some.injEq] at h;subst h;rfl
 | some x =>
  have hx:=hρ x
  simp only [Option.map_some,Zo6] at h
  split at h <;> simp only [Option.some.injEq,reduceCtorEq] at h
  ·rename_i heq;cases heq
  rename_i k i heq
  injection heq with heq
  rw [heq] at hx
  simp only [G.rep] at hx
  subst h
  simp [hx,KI.v]
theorem Zjt (hT:X1 P T) (hM:Mem w O m n) {b:Builtin} {ts:Array TypeId} {xs:List G} {vs:Array Value} {S:Prop} {g:G} {O':Objs} {n':Nat} (hr:G.reps w O m n xs vs.toList) (h:Zbm T b ts.toList xs O n=some (S,g,O',n')) (hS:S) (ty:TypeId) (cs:Array Bool) :
  Acts P w O m n (builtin b ts ty cs vs) g O' n':=by
 have one:∀ x,xs=[x]→∃ v,vs=#[v]∧x.rep w O m n v:=fun x e=>by
  subst e
  simp only [G.reps] at hr
  obtain ⟨u,us,e,h1,rfl⟩:=hr
  exact ⟨u,by cases vs;simp_all,h1⟩
 have two:∀ x y,xs=[x,y]→∃ v u,vs=#[v,u]∧x.rep w O m n v∧y.rep w O m n u:=fun x y e=>by
  subst e
  simp only [G.reps] at hr
  obtain ⟨u,us,e,h1,u2,us2,rfl,h2,rfl⟩:=hr
  exact ⟨u,u2,by cases vs;simp_all,h1,h2⟩
 unfold Zbm at h
 split at h
 ·rename_i t x ht
  obtain ⟨v,rfl,hx⟩:=one _ rfl
  have hts:ts=#[t]:=by cases ts;simp_all
  subst hts
  cases hq:Zv5 T t O x with
  | none=>simp [hq] at h
  | some g' =>
   simp only [hq,Option.map_some,Option.some.injEq,Prod.mk.injEq] at h
   obtain ⟨rfl,rfl,rfl,rfl⟩:=h
   exact Acts.ofSame hM (Zsb hT hM hx hS hq ty) rfl
 ·rename_i t t' s x ht
  split at h
  ·rename_i e
   subst e
   obtain ⟨v,u,rfl,hs,hx⟩:=two _ _ rfl
   have hts:ts=#[t,t]:=by cases ts;simp_all
   subst hts
   exact Acts.ofDoes (Zll hT hM hs hx h hS) rfl
  cases h
 ·rename_i t t' d s ht
  obtain ⟨v,u,rfl,hs,hx⟩:=two _ _ rfl
  have hts:ts=#[t,t']:=by cases ts;simp_all
  subst hts
  exact Acts.ofDoes (Zoz hT hM hs hx h hS) rfl
 ·rename_i k a k' c
  obtain ⟨v,u,rfl,hs,hx⟩:=two _ _ rfl
  simp only [Option.some.injEq,Prod.mk.injEq] at h
  obtain ⟨rfl,rfl,rfl,rfl⟩:=h
  simp only [G.rep] at hs hx
  subst hs hx
  exact Acts.ofSame (s:=Builtin.max_ ts ty #[.int k a,.int k' c]) hM ⟨_,by simp [Builtin.max_,Builtin.max2],rfl⟩ rfl
 ·rename_i k a k' c
  obtain ⟨v,u,rfl,hs,hx⟩:=two _ _ rfl
  simp only [Option.some.injEq,Prod.mk.injEq] at h
  obtain ⟨rfl,rfl,rfl,rfl⟩:=h
  simp only [G.rep] at hs hx
  subst hs hx
  exact Acts.ofSame (s:=Builtin.min_ ts ty #[.int k a,.int k' c]) hM ⟨_,by simp [Builtin.min_,Builtin.min2],rfl⟩ rfl
 ·rename_i k a k' b k2 c
  simp only [G.reps] at hr
  obtain ⟨u,us,e,h1,u2,us2,rfl,h2,u3,us3,rfl,h3,rfl⟩:=hr
  have hv:vs=#[u,u2,u3]:=by cases vs;simp_all
  subst hv
  simp only [Option.some.injEq,Prod.mk.injEq] at h
  obtain ⟨rfl,rfl,rfl,rfl⟩:=h
  simp only [G.rep] at h1 h2 h3
  subst h1 h2 h3
  exact Acts.ofSame (s:=Builtin.max_ ts ty #[.int k a,.int k' b,.int k2 c]) hM ⟨_,by simp [Builtin.max_,Builtin.max2],rfl⟩ rfl
 cases h
set_option maxHeartbeats 1000000 in
theorem Zo8 (hT:X1 P T) (hM:Mem w O m n) {ρ:Operand→G} {ρv:Operand→Value} (hρ:∀ x,(ρ x).rep w O m n (ρv x)) (o:Oper) {S:Prop} {g:G} {O':Objs} {n':Nat} (h:Kk T ρ O n o.op=some (S,g,O',n')) (hS:S) :
  Acts P w O m n (execOp ρv o) g O' n':=by
 unfold execOp
 generalize o.op=op at h
 cases op <;> simp only [Kk,reduceCtorEq] at h ⊢
 case move x =>
  simp only [Option.some.injEq,Prod.mk.injEq] at h
  obtain ⟨rfl,rfl,rfl,rfl⟩:=h
  exact Acts.ofSame (s:=pure (ρv x)) hM ⟨_,rfl,hρ x⟩ rfl
 case assign x =>
  simp only [Option.some.injEq,Prod.mk.injEq] at h
  obtain ⟨rfl,rfl,rfl,rfl⟩:=h
  exact Acts.ofSame (s:=pure (ρv x)) hM ⟨_,rfl,hρ x⟩ rfl
 case pick c a b =>
  have hc:=hρ c
  split at h
  ·rename_i t heq
   rw [heq] at hc
   simp only [G.rep] at hc
   simp only [Option.some.injEq,Prod.mk.injEq] at h
   obtain ⟨rfl,rfl,rfl,rfl⟩:=h
   refine ⟨if t then ρv a else ρv b,_,w,m,by simp only [hc,asBool,Sem.run_bind,Sem.run_pure,Result.andThen_ok],.inl rfl,hM,Ext.refl _ _ _ _,?_⟩
   cases t
   ·simpa using hρ b
   simpa using hρ a
  cases h
 case alloc t =>
  cases hq:Zhn T t O n with
  | none=>simp [hq] at h
  | some r =>
   simp only [hq,Option.map_some,Option.some.injEq,Prod.mk.injEq] at h
   obtain ⟨rfl,rfl⟩:=h
   exact Acts.ofDoes (Znd hT hM hq) rfl
 case box t x =>
  cases hq:Zv3 t (ρ x) O n with
  | none=>simp [hq] at h
  | some r =>
   simp only [hq,Option.map_some,Option.some.injEq,Prod.mk.injEq] at h
   obtain ⟨rfl,rfl⟩:=h
   exact Acts.ofDoes (Zr8 hM (hρ x) hq) rfl
 case build t ps =>
  cases hq:Zf0 T t (ps.toList.map fun p=>(p.1,ρ p.2)) with
  | none=>simp [hq] at h
  | some r =>
   simp only [hq,Option.map_some,Option.some.injEq,Prod.mk.injEq] at h
   obtain ⟨rfl,rfl,rfl,rfl⟩:=h
   exact Acts.ofSame hM (Zne (us:=ps.map fun (i,x)=>(i,ρv x)) hT (by simp [Function.comp_def]) (by simpa [Function.comp_def] using Zh1 hρ ps.toList) hq) rfl
 case buildSlice t len ps =>
  cases hq:Ui T t len (ps.toList.map fun p=>(p.1,ρ p.2)) O n with
  | none=>simp [hq] at h
  | some r =>
   simp only [hq,Option.map_some,Option.some.injEq,Prod.mk.injEq] at h
   obtain ⟨rfl,rfl⟩:=h
   exact Acts.ofDoes (Zgp (us:=ps.map fun (i,x)=>(i,ρv x)) hT hM (by simp [Function.comp_def]) (by simpa [Function.comp_def] using Zh1 hρ ps.toList) hq) rfl
 case load t a =>
  cases hq:Zei T O t (ρ a) with
  | none=>simp [hq] at h
  | some r =>
   simp only [hq,Option.map_some,Option.some.injEq,Prod.mk.injEq] at h
   obtain ⟨rfl,rfl,rfl,rfl⟩:=h
   exact Acts.ofSame hM (Zic hT hM (hρ a) hq) rfl
 case store t a x =>
  cases hq:Zdt T O t (ρ a) (ρ x) with
  | none=>simp [hq] at h
  | some r =>
   simp only [hq,Option.map_some,Option.some.injEq,Prod.mk.injEq] at h
   obtain ⟨rfl,rfl,rfl,rfl⟩:=h
   unfold Zdt at hq
   split at hq
   ·rename_i i cs hi hc
    split at hq
    ·rename_i hl
     have hcs:=Zbn (hρ x) hc
     obtain ⟨ad,w',e1,e2,e3,e4⟩:=Zj0 (P:=P) hM hcs (Zey _ _ hcs hl.2) (hρ a) hq
     have hs:=(hT t i hi).sizeOf w
     have hlen:=Qd _ _ hcs
     have hq1:(ρv x).cells.toList.length=(ρv x).cells.size:=by simp
     have hne:(ρv x).cells.size=i.size:=by omega
     refine ⟨undef,.skip,w',m,?_,.inr ⟨rfl,rfl⟩,e3,e4,rfl⟩
     simp [Instr.storeAt,Instr.sureAddr,e1,storeVar,hs,hne,e2]
    cases hq
   cases hq
 case nilCheck x =>
  have hx:=hρ x
  cases hq:Zw9 (ρ x) with
  | none=>simp [hq] at h
  | some r =>
   simp only [hq,Option.map_some,Option.some.injEq,Prod.mk.injEq] at h
   obtain ⟨rfl,rfl,rfl,rfl⟩:=h
   have key:(∃ ad,ρv x = .pointer (some ad))∧r=ρ x:=by
    unfold Zw9 at hq
    split at hq <;> simp only [Option.some.injEq,reduceCtorEq] at hq
    ·rename_i i off heq
     rw [heq] at hS hx
     obtain ⟨o,ho,hr⟩:=hS
     simp only [G.rep] at hx
     obtain ⟨b,_,e⟩:=hx.2.2 o ho hr
     exact ⟨⟨_,e⟩,by rw [heq,hq]⟩
    ·rename_i cs k heq
     rw [heq] at hx
     simp only [G.rep] at hx
     obtain ⟨b,o,e,_⟩:=hx
     exact ⟨⟨_,e⟩,by rw [heq,hq]⟩
    rename_i i k off heq
    rw [heq] at hS hx
    obtain ⟨o,ho,hr,hk⟩:=hS
    simp only [G.rep] at hx
    obtain ⟨b,c,_,e⟩:=(hx.2.2 o ho).2 hk hr
    exact ⟨⟨_,e⟩,by rw [heq,hq]⟩
   obtain ⟨⟨ad,e⟩,rfl⟩:=key
   exact ⟨ρv x,_,w,m,by rw [e];rfl,.inl (by rw [e]),hM,Ext.refl _ _ _ _,hx⟩
 case binOp op t x y ty =>
  cases hq:Zix T op t (ρ x) (ρ y) with
  | none=>simp [hq] at h
  | some r =>
   simp only [hq,Option.map_some,Option.some.injEq,Prod.mk.injEq] at h
   obtain ⟨rfl,rfl,rfl,rfl⟩:=h
   exact Acts.ofSame hM (Zr7 (S:=r.1) hT (hρ x) (hρ y) (fun i off e=>by have:=hS.2;rw [e] at this;exact this) hq hS.1 x y) rfl
 case unOp op t x =>
  cases hq:Zf3 op (ρ x) with
  | none=>simp [hq] at h
  | some r =>
   simp only [hq,Option.map_some,Option.some.injEq,Prod.mk.injEq] at h
   obtain ⟨rfl,rfl,rfl,rfl⟩:=h
   exact Acts.ofSame hM (Znl (hρ x) hq) rfl
 case convert s d x =>
  cases hq:Zbo T s d (ρ x) with
  | none=>simp [hq] at h
  | some r =>
   simp only [hq,Option.map_some,Option.some.injEq,Prod.mk.injEq] at h
   obtain ⟨rfl,rfl,rfl,rfl⟩:=h
   exact Acts.ofSame hM (Zju hT (hρ x) hq) rfl
 case makeSlice t l c =>
  have hl:=hρ l
  have hc:=hρ c
  split at h
  ·rename_i k a k' b e1 e2
   rw [e1] at hl
   rw [e2] at hc
   simp only [G.rep] at hl hc
   rw [hl,hc]
   exact Acts.ofDoes (Zo2 hT hM h hS) rfl
  cases h
 case slice t x lo hi mx =>
  split at h
  ·rename_i lo' hi' mx' e1 e2 e3
   cases hq:Zau T t (ρ x) lo' hi' mx' with
   | none=>simp [hq] at h
   | some r =>
    simp only [hq,Option.map_some,Option.some.injEq,Prod.mk.injEq] at h
    obtain ⟨rfl,rfl,rfl,rfl⟩:=h
    rw [Zni hρ e1,Zni hρ e2,Zni hρ e3]
    exact Acts.ofSame hM (Znk (S:=r.1) hT (hρ x) hS.2 hq hS.1) rfl
  cases h
 case fieldAddr s x f =>
  cases hq:Gq T s (ρ x) f with
  | none=>simp [hq] at h
  | some r =>
   simp only [hq,Option.map_some,Option.some.injEq,Prod.mk.injEq] at h
   obtain ⟨rfl,rfl,rfl,rfl⟩:=h
   exact Acts.ofSame hM (Zho hT (hρ x) hS hq) rfl
 case field s x f =>
  cases hq:Zf1 T s (ρ x) f with
  | none=>simp [hq] at h
  | some r =>
   simp only [hq,Option.map_some,Option.some.injEq,Prod.mk.injEq] at h
   obtain ⟨rfl,rfl,rfl,rfl⟩:=h
   exact Acts.ofSame hM (Zng hT (hρ x) hq) rfl
 case indexAddr t x i =>
  have hi:=hρ i
  split at h
  ·rename_i k j e1
   rw [e1] at hi
   simp only [G.rep] at hi
   cases hq:Gr T t (ρ x) j with
   | none=>simp [hq] at h
   | some r =>
    simp only [hq,Option.map_some,Option.some.injEq,Prod.mk.injEq] at h
    obtain ⟨rfl,rfl,rfl,rfl⟩:=h
    rw [hi]
    exact Acts.ofSame hM (Zhq (S:=r.1) hT hM (hρ x) hS.2 hq hS.1) rfl
  cases h
 case index t x i =>
  have hi:=hρ i
  split at h
  ·rename_i k j e1
   rw [e1] at hi
   simp only [G.rep] at hi
   cases hq:Zhp T t (ρ x) j with
   | none=>simp [hq] at h
   | some r =>
    simp only [hq,Option.map_some,Option.some.injEq,Prod.mk.injEq] at h
    obtain ⟨rfl,rfl,rfl,rfl⟩:=h
    rw [hi]
    exact Acts.ofSame hM (Znh (S:=r.1) hT (hρ x) hq hS) rfl
  cases h
 case extract x k =>
  cases hq:Zbq (ρ x) k with
  | none=>simp [hq] at h
  | some r =>
   simp only [hq,Option.map_some,Option.some.injEq,Prod.mk.injEq] at h
   obtain ⟨rfl,rfl,rfl,rfl⟩:=h
   exact Acts.ofSame hM (Zjv (hρ x) hq) rfl
 case makeFunc fn fs cs =>
  split at h
  ·rename_i f
   simp only [Option.some.injEq,Prod.mk.injEq] at h
   obtain ⟨rfl,rfl,rfl,rfl⟩:=h
   refine Acts.ofSame (s:=Instr.makeFunc (.func f) (fs.map ρv) (cs.map ρv)) hM ⟨_,rfl,?_⟩ rfl
   simp only [G.rep]
   refine ⟨fs.toList.map ρv++cs.toList.map ρv,?_,Ka _ _ _ _ (Zg9 hρ _) (Zg9 hρ _)⟩
   have hl:(fs.toList.map ρv).length=fs.size:=by simp
   rw [← hl,List.take_left,List.drop_left]
   congr 1 <;> (apply Array.ext';simp)
  cases h
 case call c =>
  split at h
  ·rename_i b hb
   have hr:=Zg9 hρ c.args.toList
   have key:=fun cs=>Zjt hT hM (vs:=c.args.map ρv) (by simpa using hr) h hS o.type cs
   simp only [resolve,hb,pure_bind,invoke]
   exact key _
  cases h
end
section
variable {P:Program} {T:Qy} {w:World} {O:Objs} {m:Hands} {n:Nat}
structure Env where
 n:Nat
 keep:List Nat
 l:List (Nat×G)
def Qm:List (Nat×G)→Nat→G
 | [],_ => .any
 | (t',g)::l,t=>if t=t' then g else Qm l t
def Zgv (l:List (Nat×G)):List Nat→List (Nat×G)
 | []=>[]
 | t::k=>(t,Qm l t)::Zgv l k
def Env.compact (E:Env):Env :=
 match E.keep with
 | []=>E
 | t::k=>⟨E.n,E.keep,Zgv E.l (t::k)⟩
def ev (E:Env):Operand→G
 | .tmp t=>Qm E.l t
 | .const v => .val v
 | .func f => .fn f 0 []
 | .global _ => .any
def Zy (E:Env) (d:Option Tmp) (g:G):Env :=
 match d with
 | some t=>if t < E.n then ⟨E.n,E.keep,(t,g)::E.l⟩ else E
 | none=>E
structure Holds (w:World) (O:Objs) (m:Hands) (n:Nat) (E:Env) (a:Act):Prop where
 size:a.tmps.size=E.n
 at_:∀ t v,a.tmps[t]? = some v→(Qm E.l t).rep w O m n v
 out:∀ t,E.n≤t→Qm E.l t = .any
 defers:a.defers=[]
theorem Holds.ext {E:Env} {a:Act} (h:Holds w O m n E a) {w':World} {O':Objs} {m':Hands} {n':Nat} (e:Ext w O m n w' O' m' n'):Holds w' O' m' n' E a:=⟨h.size,fun t v hv=>G.rep_ext e _ _ (h.at_ t v hv),h.out,h.defers⟩
theorem Holds.put {E:Env} {a:Act} (h:Holds w O m n E a) (d:Option Tmp) {g:G} {v:Value} (hg:g.rep w O m n v):Holds w O m n (Zy E d g) (a.put d v):=by
 cases d with
 | none=>exact h
 | some t =>
  unfold Zy
  simp only
  split
  ·rename_i ht
   refine ⟨by simpa [Act.put] using h.size,fun t' v' hv' => ?_,fun t' ht' => ?_,h.defers⟩
   ·simp only [Qm]
    by_cases e:t'=t
    ·subst e
     rw [if_pos rfl]
     have:(a.put (some t') v).tmps[t']? = some v:=by
      have hlt:t' < a.tmps.size:=by rw [h.size];exact ht
      simp [Act.put,hlt]
     rw [this] at hv'
     injection hv' with hv'
     subst hv'
     exact hg
    rw [if_neg e]
    refine h.at_ t' v' ?_
    have:(a.put (some t) v).tmps[t']? = a.tmps[t']? := by
     simp [Act.put,Array.getElem?_setIfInBounds_ne (Ne.symm e)]
    rw [← this];exact hv'
   simp only [Qm]
   have:¬ t'=t:=fun e=>absurd ht (by rw [← e];exact Nat.not_lt.2 ht')
   rw [if_neg this]
   exact h.out t' ht'
  rename_i ht
  have:a.put (some t) v=a:=by
   have hge:a.tmps.size≤t:=by rw [h.size];exact Nat.not_lt.1 ht
   simp only [Act.put]
   rw [Array.setIfInBounds_eq_of_size_le hge]
  rw [this]
  exact h
theorem Holds.ev {E:Env} {a:Act} (h:Holds w O m n E a) (x:Operand):(ev E x).rep w O m n (a.eval x):=by
 cases x with
 | tmp t =>
  show (Qm E.l t).rep w O m n (a.tmps.getD t undef)
  rcases Nat.lt_or_ge t a.tmps.size with ht | ht
  ·have e1:a.tmps[t]? = some a.tmps[t]:=Array.getElem?_eq_getElem ht
   have e2:a.tmps.getD t undef=a.tmps[t]:=by simp [Array.getD_eq_getD_getElem?,e1]
   rw [e2]
   exact h.at_ t _ e1
  rw [h.out t (by rw [← h.size];exact ht)]
  simp [G.rep]
 | const v=>rfl
 | func f=>exact ⟨[],rfl,rfl⟩
 | global g=>simp [Go.Proofs.Ytjeakjakgocoaaa.ev,G.rep]
def GCalls (P:Program) (f:FuncId) (gs:List G) (O:Objs) (n:Nat) (Post:G→Objs→Nat→Prop):Prop :=
 (∀ args w,(callFunc f args).run P w = .ok (.enter f args) w) ∧
 ∀ w m vs,Mem w O m n→G.reps w O m n gs vs→Calls P f vs.toArray w fun e w'=>∃ v g O' n' m',e = .returned v∧Mem w' O' m' n'∧Ext w O m n w' O' m' n'∧g.rep w' O' m' n' v∧Post g O' n'
theorem GCalls.mono {f:FuncId} {gs:List G} {Post Post':G→Objs→Nat→Prop} (h:GCalls P f gs O n Post) (hp:∀ g O' n',Post g O' n'→Post' g O' n'):GCalls P f gs O n Post' :=
 ⟨h.1,fun w m vs hM hr=>(h.2 w m vs hM hr).mono fun e w' ⟨v,g,O',n',m',a,b,c,d,e⟩=>⟨v,g,O',n',m',a,b,c,d,hp _ _ _ e⟩⟩
def GPure (P:Program) (f:FuncId) (gs:List G) (O:Objs) (n:Nat) (r:G):Prop:=GCalls P f gs O n fun g O' n'=>g=r∧O'=O∧n'=n
def X9:Op→Bool
 | .move _ | .assign _ | .pick .. | .build .. | .load .. | .nilCheck _ | .binOp .. | .unOp .. | .convert .. | .slice .. | .fieldAddr .. | .field .. | .indexAddr .. | .index .. | .extract .. | .makeFunc .. => true
 | .call ⟨.builtin .len,_,_⟩ | .call ⟨.builtin .max,_,_⟩ | .call ⟨.builtin .min,_,_⟩=>true
 | _=>false
theorem Zsk {ρ:Operand→G} {op:Op} (hq:X9 op=true) {S:Prop} {g:G} {O':Objs} {n':Nat} (h:Kk T ρ O n op=some (S,g,O',n')):O'=O∧n'=n:=by
 cases op <;> simp only [X9,reduceCtorEq,Bool.false_eq_true] at hq <;> simp only [Kk] at h
 case call c =>
  obtain ⟨cal,args,ts⟩:=c
  cases cal with
  | builtin b =>
   cases b <;> simp only [reduceCtorEq,Bool.false_eq_true] at hq <;> simp only [Zbm] at h
   all_goals
    repeat' split at h
    all_goals first
     | (simp only [Option.map_eq_some_iff,Prod.mk.injEq] at h;obtain ⟨_,_,_,_,h1,h2⟩:=h;exact ⟨h1.symm,h2.symm⟩)
     | (simp only [Option.some.injEq,Prod.mk.injEq] at h;obtain ⟨_,_,h1,h2⟩:=h;exact ⟨h1.symm,h2.symm⟩)
     | (simp at h;done)
     | contradiction
  | value f=>simp at hq
  | invoke r s=>simp at hq
 all_goals
  repeat' split at h
  all_goals first
   | (simp only [Option.map_eq_some_iff,Prod.mk.injEq] at h;obtain ⟨_,_,_,_,h1,h2⟩:=h;exact ⟨h1.symm,h2.symm⟩)
   | (simp only [Option.some.injEq,Prod.mk.injEq] at h;obtain ⟨_,_,h1,h2⟩:=h;exact ⟨h1.symm,h2.symm⟩)
   | simp at h
theorem Zif {ρ ρ':Operand→G} {op:Op} (h:∀ x∈op.operands,ρ x=ρ' x):Kk T ρ O n op=Kk T ρ' O n op:=by
 have hl:∀ (xs:Array Operand),(∀ x∈xs,ρ x=ρ' x)→xs.toList.map ρ=xs.toList.map ρ':=fun xs hx=>List.map_congr_left fun x hm=>hx x (by simpa using hm)
 have ho:∀ (xo:Option Operand),(∀ x,xo=some x→ρ x=ρ' x)→xo.map ρ=xo.map ρ':=fun xo hx=>by cases xo with
  | none=>rfl
  | some x=>simp [hx x rfl]
 have hp:∀ (xs:Array (Nat×Operand)),(∀ p∈xs,ρ p.2=ρ' p.2)→(xs.toList.map fun p=>(p.1,ρ p.2))=(xs.toList.map fun p=>(p.1,ρ' p.2)):=fun xs hx=>List.map_congr_left fun p hm=>by rw [hx p (by simpa using hm)]
 cases op <;> try rfl
 all_goals try simp only [Kk]
 case move x=>rw [h x (by simp [Op.operands])]
 case assign x=>rw [h x (by simp [Op.operands])]
 case pick c a b=>rw [h c (by simp [Op.operands]),h a (by simp [Op.operands]),h b (by simp [Op.operands])]
 case box t x=>rw [h x (by simp [Op.operands])]
 case build t ps=>rw [hp ps fun p hm=>h p.2 (by simp [Op.operands];exact ⟨p.1,by simpa using hm⟩)]
 case buildSlice t len ps=>rw [hp ps fun p hm=>h p.2 (by simp [Op.operands];exact ⟨p.1,by simpa using hm⟩)]
 case load t a=>rw [h a (by simp [Op.operands])]
 case store t a x=>rw [h a (by simp [Op.operands]),h x (by simp [Op.operands])]
 case nilCheck x=>rw [h x (by simp [Op.operands])]
 case binOp op t x y ty=>rw [h x (by simp [Op.operands]),h y (by simp [Op.operands])]
 case unOp op t x=>rw [h x (by simp [Op.operands])]
 case convert s d x=>rw [h x (by simp [Op.operands])]
 case makeSlice t l c=>rw [h l (by simp [Op.operands]),h c (by simp [Op.operands])]
 case slice t x lo hi mx=>rw [h x (by simp [Op.operands]),ho lo fun y hy=>h y (by simp [Op.operands,hy]),ho hi fun y hy=>h y (by simp [Op.operands,hy]),ho mx fun y hy=>h y (by simp [Op.operands,hy])]
 case fieldAddr s x f=>rw [h x (by simp [Op.operands])]
 case field s x f=>rw [h x (by simp [Op.operands])]
 case indexAddr t x i=>rw [h x (by simp [Op.operands]),h i (by simp [Op.operands])]
 case index t x i=>rw [h x (by simp [Op.operands]),h i (by simp [Op.operands])]
 case extract x k=>rw [h x (by simp [Op.operands])]
 case makeFunc fn fs cs=>rw [hl fs fun x hm=>h x (by simp [Op.operands,hm]),hl cs fun x hm=>h x (by simp [Op.operands,hm])]
 case call c =>
  split
  ·rw [hl c.args fun x hm=>h x (by simp [Op.operands,Call.operands,hm])]
  rfl
def V4:G→G
 | .when _ g=>g
 | g=>g
def evS (E:Env) (x:Operand):G:=V4 (ev E x)
def wok:List G→Prop
 | []=>True
 | .when b _::l=>b=true∧wok l
 | _::l=>wok l
def Znj (t:Bool) (x y:G):G :=
 match x,y with
 | .val (.bool a),.val (.bool b) => .val (.bool (cond t a b))
 | x,y=>if t=true then x else y
def Zl9 (c a b:G):Option (Prop×G) :=
 match V4 c with
 | .val (.bool t)=>some (wok [c]∧(t=true→wok [a])∧(t=false→wok [b]),Znj t (V4 a) (V4 b))
 | _=>none
def Up (T:Qy) (E:Env) (O:Objs) (n:Nat) (op:Op):Option Out :=
 match op with
 | .pick c a b=>(Zl9 (ev E c) (ev E a) (ev E b)).map fun r=>(r.1,r.2,O,n)
 | op=>(Kk T (evS E) O n op).map fun r=>(wok (op.operands.toList.map (ev E))∧r.1,r.2)
def gop (P:Program) (T:Qy) (E:Env) (O:Objs) (n:Nat) (op:Op) (K:G→Objs→Nat→Prop):Prop :=
 match op with
 | .call ⟨.value o,args,_⟩=>match ev E o with
  | .fn f k cs=>wok (args.toList.map (ev E))∧GCalls P f (cs.take k++args.toList.map (evS E)++cs.drop k) O n K
  | _=>False
 | op=>match Up T E O n op with
  | some (S,g,O',n')=>S∧K g O' n'
  | none=>False
def Xf (ops:List Oper) (E:Env) (g:Option (Nat×Bool)):Option Bool :=
 match g with
 | none=>some true
 | some (j,want)=>match (ops[j]?).bind (·.dst) with
  | none=>some false
  | some d=>match Qm E.l d with
   | .val (.bool b)=>some (b == want)
   | .val (.tuple _)=>some false
   | .when b' (.val (.bool b))=>some (b' && (b == want))
   | _=>none
def Xc (ops:List Oper) (E:Env) (o:Oper):Option Bool:=Xf ops E o.guard
def G5 (T:Qy) (E:Env) (O:Objs) (n:Nat) (op:Op) (b:Bool) (K:G→Prop):Prop :=
 match Up T E O n op with
 | some (S,g,_,_)=>(b=true→S)∧K (.when b g)
 | none=>b=false∧K (.val undef)
def Zln (P:Program) (T:Qy) (ops:List Oper):List Oper→Env→Objs→Nat→(Env→Objs→Nat→Prop)→Prop
 | [],E,O,n,K=>K E O n
 | o::l,E,O,n,K=>match o.guard with
  | none=>gop P T E O n o.op fun g O' n'=>Zln P T ops l (Zy E o.dst g) O' n' K
  | some g=>match Xf ops E (some g) with
   | some b=>if X9 o.op=true then G5 T E O n o.op b fun g=>Zln P T ops l (Zy E o.dst g) O n K
    else (b=true→gop P T E O n o.op fun g O' n'=>Zln P T ops l (Zy E o.dst g) O' n' K)∧(b=false→Zln P T ops l (Zy E o.dst (.val undef)) O n K)
   | none=>False
def onK (P:Program) (T:Qy) (ops l:List Oper) (E:Env) (d:Option Tmp) (K:Env→Objs→Nat→Prop) (g:G) (O':Objs) (n':Nat):Prop:=Zln P T ops l (Zy E d g) O' n' K
def onW (P:Program) (T:Qy) (ops l:List Oper) (E:Env) (d:Option Tmp) (O:Objs) (n:Nat) (K:Env→Objs→Nat→Prop) (g:G):Prop:=Zln P T ops l (Zy E d g) O n K
def gfork (P:Program) (T:Qy) (ops:List Oper) (b:Bool) (op:Op) (l:List Oper) (E:Env) (d:Option Tmp) (O:Objs) (n:Nat) (K:Env→Objs→Nat→Prop):Prop :=
 (b=true→gop P T E O n op (onK P T ops l E d K))∧(b=false→onK P T ops l E d K (.val undef) O n)
theorem Ztl (ops:List Oper) (op:Op) (l:List Oper) (E:Env) (d:Option Tmp) (K:Env→Objs→Nat→Prop):gfork P T ops true op l E d O n K=gop P T E O n op (onK P T ops l E d K):=by simp [gfork]
theorem Ztk (ops:List Oper) (op:Op) (l:List Oper) (E:Env) (d:Option Tmp) (K:Env→Objs→Nat→Prop):gfork P T ops false op l E d O n K=onK P T ops l E d K (.val undef) O n:=by simp [gfork]
theorem Zo5 (ops:List Oper) (E:Env) (K:Env→Objs→Nat→Prop):Zln P T ops [] E O n K=K E O n:=rfl
theorem Zjx (ops:List Oper) (d:Option Tmp) (op:Op) (ty:TypeId) (pos:String) (af:Array Edge) (l:List Oper) (E:Env) (K:Env→Objs→Nat→Prop):Zln P T ops (⟨d,op,ty,pos,af,none⟩::l) E O n K=gop P T E O n op (onK P T ops l E d K):=rfl
theorem Zjw (ops:List Oper) (d:Option Tmp) (op:Op) (ty:TypeId) (pos:String) (af:Array Edge) (g:Nat×Bool) (l:List Oper) (E:Env) (K:Env→Objs→Nat→Prop) :
  Zln P T ops (⟨d,op,ty,pos,af,some g⟩::l) E O n K=match Xf ops E (some g) with
   | some b=>if X9 op=true then G5 T E O n op b (onW P T ops l E d O n K)
    else gfork P T ops b op l E d O n K
   | none=>False:=rfl
theorem Zdi {g:G} {v:Value} (h:g.rep w O m n v) (hw:wok [g]):(V4 g).rep w O m n v:=by
 cases g <;> simp only [V4] <;> first | exact h | (simp only [wok,and_true] at hw;simp only [G.rep] at h;exact h.1 hw)
theorem Zvs:∀ (l:List G),wok l→∀ g∈l,wok [g]
 | [],_,g,hg=>by cases hg
 | x::l,h,g,hg=>by
  have h1:wok [x]∧wok l:=by
   cases x <;> simp only [wok,and_true,true_and] at h ⊢ <;> exact h
  cases hg with
  | head=>exact h1.1
  | tail _ hg=>exact Zvs l h1.2 g hg
theorem Zo7 {a:Act} {ca:Operand} {c x y g:G} {S:Prop} {vc vx vy:Value} (hc:c.rep w O m n vc) (hx:x.rep w O m n vx) (hy:y.rep w O m n vy) (h:Zl9 c x y=some (S,g)) (hS:S):∃ t:Bool,vc = .bool t∧g.rep w O m n (if t then vx else vy):=by
 unfold Zl9 at h
 split at h
 ·rename_i t heq
  simp only [Option.some.injEq,Prod.mk.injEq] at h
  obtain ⟨rfl,rfl⟩:=h
  have h1:=Zdi hc hS.1
  rw [heq] at h1
  simp only [G.rep] at h1
  refine ⟨t,h1,?_⟩
  have ht:t=true→(V4 x).rep w O m n vx:=fun e=>Zdi hx (hS.2.1 e)
  have hf:t=false→(V4 y).rep w O m n vy:=fun e=>Zdi hy (hS.2.2 e)
  unfold Znj
  split
  ·rename_i p q e1 e2
   rw [e1] at ht
   rw [e2] at hf
   cases t with
   | true=>have:=ht rfl;simp only [G.rep] at this ⊢;simpa using this
   | false=>have:=hf rfl;simp only [G.rep] at this ⊢;simpa using this
  cases t with
  | true=>simpa using ht rfl
  | false=>simpa using hf rfl
 cases h
theorem Xl {ops:List Oper} {E:Env} {a:Act} {o:Oper} {b:Bool} (hE:Holds w O m n E a) (h:Xc ops E o=some b):Region.wanted o (yielded ops.toArray a.tmps)=b:=by
 unfold Xc Xf at h
 unfold Region.wanted
 split at h
 ·rename_i hg
  injection h with h
  rw [hg]
  exact h
 rename_i j want hg
 rw [hg]
 simp only [yielded,List.getElem?_toArray]
 split at h
 ·rename_i hd
  injection h with h
  rw [hd,← h]
  rfl
 rename_i d hd
 rw [hd]
 simp only [Option.bind_some]
 have hv:a.tmps[d]? = none∨∃ v,a.tmps[d]? = some v∧(Qm E.l d).rep w O m n v:=by
  cases hq:a.tmps[d]? with
  | none=>exact .inl rfl
  | some v=>exact .inr ⟨v,rfl,hE.at_ d v hq⟩
 have hout:a.tmps[d]? = none→Qm E.l d = .any:=fun hq=>hE.out d (by rw [← hE.size];exact Array.getElem?_eq_none_iff.1 hq)
 rcases hv with hv | ⟨v,h1,h2⟩
 ·rw [hout hv] at h
  cases h
 split at h
 ·rename_i bb hb
  rw [hb] at h2
  simp only [G.rep] at h2
  subst h2
  injection h with h
  rw [h1,← h]
  cases bb <;> cases want <;> rfl
 ·rename_i bb hb
  rw [hb] at h2
  simp only [G.rep] at h2
  subst h2
  injection h with h
  rw [h1,← h]
  rfl
 ·rename_i b' bb hb
  rw [hb] at h2
  simp only [G.rep] at h2
  injection h with h
  rw [h1,← h]
  cases b' with
  | true =>
   have:=h2.1 rfl
   subst this
   cases bb <;> cases want <;> rfl
  | false =>
   have:=h2.2 rfl
   subst this
   rfl
 cases h
theorem Zbl (hT:X1 P T) (hM:Mem w O m n) {E:Env} {a:Act} (hE:Holds w O m n E a) {o:Oper} {S:Prop} {g:G} {O':Objs} {n':Nat} (h:Up T E O n o.op=some (S,g,O',n')) (hS:S):Acts P w O m n (execOp a.eval o) g O' n':=by
 unfold Up at h
 split at h
 ·rename_i c x y hop
  cases hq:Zl9 (ev E c) (ev E x) (ev E y) with
  | none=>simp [hq] at h
  | some r =>
   simp only [hq,Option.map_some,Option.some.injEq,Prod.mk.injEq] at h
   obtain ⟨rfl,rfl,rfl,rfl⟩:=h
   obtain ⟨t,h1,h2⟩:=Zo7 (a:=a) (ca:=c) (S:=r.1) (hE.ev c) (hE.ev x) (hE.ev y) hq hS
   refine ⟨if t then a.eval x else a.eval y,_,w,m,by unfold execOp;rw [hop];simp only [h1,asBool,Sem.run_bind,Sem.run_pure,Result.andThen_ok],.inl rfl,hM,Ext.refl _ _ _ _,h2⟩
 rename_i op hop
 cases hq:Kk T (evS E) O n o.op with
 | none=>simp [hq] at h
 | some r =>
  obtain ⟨S',g',O2,n2⟩:=r
  simp only [hq,Option.map_some,Option.some.injEq,Prod.mk.injEq] at h
  obtain ⟨rfl,rfl,rfl,rfl⟩:=h
  -- the operands alone count
  classical
  have hco:Kk T (fun x=>if x∈o.op.operands.toList then evS E x else ev E x) O n o.op=some (S',g',O2,n2):=by
   rw [← hq]
   exact Zif fun x hx=>by rw [if_pos (by simpa using hx)]
  refine Zo8 hT hM (ρv:=a.eval) (fun x => ?_) o hco hS.2
  split
  ·rename_i hx
   exact Zdi (hE.ev x) (Zvs _ hS.1 _ (List.mem_map.2 ⟨x,hx,rfl⟩))
  exact hE.ev x
theorem Zbf (hT:X1 P T) (hM:Mem w O m n) {E:Env} {a:Act} (hE:Holds w O m n E a) {o:Oper} {K:G→Objs→Nat→Prop} (h:gop P T E O n o.op K) {next:Act→World→Prop} {Q:Exit→Act→World→Prop}
  (hn:∀ v g w' O' m' n',K g O' n'→Mem w' O' m' n'→Ext w O m n w' O' m' n'→g.rep w' O' m' n' v→next (a.put o.dst v) w'):o.wp P a w next Q:=by
 unfold gop at h
 split at h
 ·rename_i o' args ts hop
  split at h
  case h_2=>exact h.elim
  rename_i f k cs hev
  obtain ⟨hwok,hc,hcall⟩:=h
  have hfn:=hE.ev o'
  rw [hev] at hfn
  simp only [G.rep] at hfn
  obtain ⟨us,hfv,hus⟩:=hfn
  have hr:G.reps w O m n (args.toList.map (evS E)) (args.toList.map a.eval):=by
   have:∀ l:List Operand,wok (l.map (ev E))→G.reps w O m n (l.map (evS E)) (l.map a.eval):=fun l=>by
    induction l with
    | nil=>intro _;rfl
    | cons x l ih =>
     intro hw
     have h1:wok [ev E x]∧wok (l.map (ev E)):=by
      simp only [List.map_cons] at hw
      generalize ev E x=g at *
      cases g <;> simp only [wok,and_true,true_and] at hw ⊢ <;> exact hw
     exact ⟨_,_,rfl,Zdi (hE.ev x) h1.1,ih h1.2⟩
   exact this _ hwok
  have:=hcall w m _ hM (Ka _ _ _ _ (Ka _ _ _ _ (Jy k _ _ hus) hr) (Kq k _ _ hus))
  unfold Oper.wp
  have hrun:(execOp a.eval o).run P w = .ok (.enter f ((us.take k).toArray++args.map a.eval++(us.drop k).toArray)) w:=by
   unfold execOp
   rw [hop]
   simp [resolve,hfv,Deferred.ofValue,invoke,hc]
  rw [hrun,Oper.upon_enter]
  have e:(us.take k++args.toList.map a.eval++us.drop k).toArray=(us.take k).toArray++args.map a.eval++(us.drop k).toArray:=by
   apply Array.ext'
   simp only [Array.toList_append,Array.toList_map]
  rw [e] at this
  refine this.mono fun e w' ⟨v,g,O',n',m',h1,h2,h3,h4,h5⟩ => ?_
  subst h1
  exact hn v g w' O' m' n' h5 h2 h3 h4
 split at h
 ·rename_i S g O' n' hst
  obtain ⟨v,nx,w',m',h1,h2,h3,h4,h5⟩:=Zbl hT hM hE hst h.1
  unfold Oper.wp
  rw [h1]
  rcases h2 with rfl | ⟨rfl,rfl⟩
  ·exact hn v g w' O' m' n' h.2 h3 h4 h5
  exact hn undef g w' O' m' n' h.2 h3 h4 h5
 exact h.elim
theorem Zc0 {E:Env} {op:Op} (hq:X9 op=true) {S:Prop} {g:G} {O':Objs} {n':Nat} (h:Up T E O n op=some (S,g,O',n')):O'=O∧n'=n:=by
 unfold Up at h
 split at h
 ·simp only [Option.map_eq_some_iff,Prod.mk.injEq] at h
  obtain ⟨_,_,_,_,h1,h2⟩:=h
  exact ⟨h1.symm,h2.symm⟩
 rename_i op' hop
 simp only [Option.map_eq_some_iff,Prod.mk.injEq] at h
 obtain ⟨⟨S',g',O2,n2⟩,h1,_,h2⟩:=h
 obtain ⟨rfl,rfl,rfl⟩:=h2
 exact Zsk hq h1
end
end Go.Proofs.Ytjeakjakgocoaaa
