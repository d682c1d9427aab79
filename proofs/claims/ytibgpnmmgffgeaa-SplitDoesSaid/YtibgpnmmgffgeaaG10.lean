/- Part G10 of the ghost memory: lemmas and contracts used by the proofs of this seat's laws; each theorem bears its own conditions. -/
import Derived.Test.YtibgpnmmgffgeaaG6
namespace Go.Proofs.Ytibgpnmmgffgeaa
open Go.RowKit
set_option linter.unusedVariables false
set_option linter.unusedSimpArgs false
section
variable {P:Program} {T:Kv} {w:World} {O:Objs} {m:Hands} {n:Nat}
abbrev KI:=IntKind×Int
def KI.v (p:KI):Value := .int p.1 p.2
def Zy5:Option G→Option (Option KI)
 | none=>some none
 | some (.val (.int k i))=>some (some (k,i))
 | _=>none
def bLo (lo:Option KI):Int:=match lo with | some p=>p.2 | none=>0
def bHi (hi:Option KI) (len:Nat):Int:=match hi with | some p=>p.2 | none=>len
def bMx (mx:Option KI) (cap:Nat):Int:=match mx with | some p=>p.2 | none=>cap
theorem Ziv (isSlice:Bool) (len cap:Nat) (lo hi mx:Option KI) (h0:0≤bLo lo) (h1:bLo lo≤bHi hi len) (h2:bHi hi len≤bMx mx cap) (h3:bMx mx cap≤cap) (h4:mx.isSome=true→hi.isSome=true) :
  (Instr.sliceBounds isSlice len cap (lo.map KI.v) (hi.map KI.v) (mx.map KI.v)).run P w = .ok ((bLo lo).toNat,(bHi hi len).toNat,(bMx mx cap).toNat) w:=by
 have sb:∀ (k:IntKind) (i:Int) (y:Nat) (c:BoundsCode),0≤i→i≤y→(Instr.sliceBound (.int k i) y c).run P w = .ok i.toNat w:=fun k i y c ha hb=>by
  simp [Instr.sliceBound,asIntOf,ha,hb]
 have c0:((bHi hi len).toNat:Int)=bHi hi len:=Int.toNat_of_nonneg (by omega)
 have c1:((bMx mx cap).toNat:Int)=bMx mx cap:=Int.toNat_of_nonneg (by omega)
 cases lo <;> cases hi <;> cases mx <;> simp only [Option.isSome,Bool.false_eq_true,reduceCtorEq,imp_false,not_true_eq_false,forall_const] at h4 <;>
  simp only [bLo,bHi,bMx,Int.toNat_natCast] at h0 h1 h2 h3 c0 c1 ⊢ <;>
  simp only [Instr.sliceBounds,Option.map_none,Option.map_some,KI.v,Option.isSome,Sem.run_bind,Sem.run_pure,Result.andThen_ok] <;>
  (try rw [sb _ _ _ _ (by omega) (by omega)]) <;> (try simp only [Result.andThen_ok]) <;> (try rw [sb _ _ _ _ (by omega) (by omega)]) <;> (try simp only [Result.andThen_ok]) <;> (try rw [sb _ _ _ _ (by omega) (by omega)]) <;> (try simp only [Result.andThen_ok]) <;> first | rfl | simp
theorem Yg5 (l h q:Int) (k:Nat) (h0:0≤l) (h1:l≤h) (h2:h≤q) (h3:q≤k) (hne:(h - l).toNat≠0):k≠0:=by omega
theorem Yg6 (l h q:Int) (h0:0≤l) (h1:l≤h) (h2:h≤q) (hne:(h - l).toNat≠0):¬ q.toNat=l.toNat:=by omega
def Zhp (T:Kv) (t:TypeId) (x:G) (lo hi mx:Option KI):Option (Prop×G) :=
 match Yu T t,x with
 | some (.slice e),.sl k cs=>match T e with
  | some ie=>if mx.isSome=true∧hi.isSome=false then none else
   some (0≤bLo lo∧bLo lo≤bHi hi k∧bHi hi k≤bMx mx k∧bMx mx k≤k,.sl (bHi hi k - bLo lo).toNat ((cs.drop ((bLo lo).toNat * ie.size)).take ((bHi hi k - bLo lo).toNat * ie.size)))
  | none=>none
 | some (.slice e),.row i k=>match T e with
  | some ie=>if mx.isSome then none else if k=0 then some (bLo lo=0∧bHi hi 0=0,.sl 0 []) else
   some (0 < ie.size∧0 < k∧0≤bLo lo∧bLo lo≤bHi hi k∧bHi hi k≤k,.rl i k ((bLo lo).toNat * ie.size) (bHi hi k - bLo lo).toNat)
  | none=>none
 | some (.arr len e),.ref i off=>match T e with
  | some ie=>if mx.isSome=true∧hi.isSome=false then none else
   some (0≤bLo lo∧bLo lo≤bHi hi len∧bHi hi len≤bMx mx len∧bMx mx len≤len,.rs i (if bMx mx len=bLo lo then off else off+(bLo lo).toNat * ie.size) (bHi hi len - bLo lo).toNat)
  | none=>none
 | some .str,.val (.string s)=>if mx.isSome then none else
   some (0≤bLo lo∧bLo lo≤bHi hi s.size∧bHi hi s.size≤s.size,.val (.string (s.extract (bLo lo).toNat (bHi hi s.size).toNat)))
 | _,_=>none
theorem Zy8 (hT:Qo P T) (hM:Mem w O m n) {t:TypeId} {x g:G} {lo hi mx:Option KI} {S:Prop} {v:Value} (hx:x.rep w O m n v) (hl:Qb O x) (h:Zhp T t x lo hi mx=some (S,g)) (hS:S) :
  ∃ u,(Instr.sliceAt t v (lo.map KI.v) (hi.map KI.v) (mx.map KI.v)).run P w = .ok u w∧g.rep w O m n u:=by
 unfold Zhp at h
 split at h
 ·rename_i e k cs hk
  have hu:=Q8 hT hk
  simp only [TK.ok] at hu
  split at h
  ·rename_i ie hie
   split at h
   ·cases h
   rename_i hmx
   simp only [Option.some.injEq,Prod.mk.injEq] at h
   obtain ⟨rfl,rfl⟩:=h
   simp only [G.rep] at hx
   obtain ⟨A,c,rfl,hkc,vs,hr,ha⟩:=hx
   have hs:=Zgs hT hie w
   have h4:mx.isSome=true→hi.isSome=true:=fun q=>by cases hh:hi.isSome <;> simp_all
   have hmm:bHi hi k≤bMx mx c∧bMx mx c≤c:=by
    cases mx with
    | none=>simp only [bMx] at hS ⊢;exact ⟨by omega,by omega⟩
    | some p=>simp only [bMx] at hS ⊢;exact ⟨by omega,by omega⟩
   have hb:=Ziv (P:=P) (w:=w) true k c lo hi mx hS.1 hS.2.1 hmm.1 hmm.2 h4
   refine ⟨.slice (if (bMx mx c).toNat=(bLo lo).toNat then A else Option.map (fun x=>x.add ((bLo lo).toNat * ie.size)) A) ((bHi hi k).toNat - (bLo lo).toNat) ((bMx mx c).toNat - (bLo lo).toNat),by simp only [Instr.sliceAt,Instr.slice,Sem.run_bind,run_underlying hu,Result.andThen_ok,hb,hs,Sem.run_pure],?_⟩
   simp only [G.rep]
   refine ⟨(if (bMx mx c).toNat=(bLo lo).toNat then A else Option.map (fun x=>x.add ((bLo lo).toNat * ie.size)) A),(bMx mx c).toNat - (bLo lo).toNat,?_,?_,(vs.drop ((bLo lo).toNat * ie.size)).take ((bHi hi k - bLo lo).toNat * ie.size),Vz _ _ _ (Gl _ _ _ hr),fun hne => ?_⟩
   ·congr 1
    omega
   ·omega
   have hk0:k≠0:=Yg5 _ _ _ k hS.1 hS.2.1 hS.2.2.1 hS.2.2.2 hne
   obtain ⟨b,off,rfl,h1,h2,h3⟩:=ha hk0
   clear hb
   have hne2:¬ (bMx mx c).toNat=(bLo lo).toNat:=Yg6 _ _ _ hS.1 hS.2.1 hmm.1 hne
   refine ⟨b,off+(bLo lo).toNat * ie.size,?_,h1,h2,fun j u hu => ?_⟩
   ·rw [if_neg hne2]
    simp [Zeg]
   rw [List.getElem?_take] at hu
   split at hu
   ·rw [List.getElem?_drop] at hu
    rw [Nat.add_assoc]
    exact h3 _ _ hu
   cases hu
  cases h
 ·rename_i e i k hk
  have hu:=Q8 hT hk
  simp only [TK.ok] at hu
  split at h
  ·rename_i ie hie
   split at h
   ·cases h
   rename_i hmx
   have hmn:mx=none:=by cases mx <;> simp_all
   subst hmn
   split at h
   ·rename_i hk0
    subst hk0
    simp only [Option.some.injEq,Prod.mk.injEq] at h
    obtain ⟨rfl,rfl⟩:=h
    simp only [G.rep] at hx
    obtain ⟨_,⟨A,c,rfl⟩,_⟩:=hx
    have hs:=Zgs hT hie w
    have q1:bLo lo=0:=hS.1
    have q2:bHi hi 0=0:=hS.2
    have hb:=Ziv (P:=P) (w:=w) true 0 c lo hi none (by omega) (by omega) (by simp only [bMx];omega) (Int.le_refl _) (fun h=>by cases h)
    refine ⟨.slice (if (bMx none c).toNat=(bLo lo).toNat then A else Option.map (fun x=>x.add ((bLo lo).toNat * ie.size)) A) ((bHi hi 0).toNat - (bLo lo).toNat) ((bMx none c).toNat - (bLo lo).toNat),by simp only [Instr.sliceAt,Instr.slice,Sem.run_bind,run_underlying hu,Result.andThen_ok,hb,hs,Sem.run_pure],?_⟩
    simp only [G.rep]
    exact ⟨_,_,congrArg (fun x=>Value.slice _ x _) (by omega),Nat.zero_le _,[],rfl,fun hne=>absurd rfl hne⟩
   simp only [Option.some.injEq,Prod.mk.injEq] at h
   obtain ⟨rfl,rfl⟩:=h
   obtain ⟨o,ho,hrow,hko⟩:=hl
   simp only [G.rep] at hx
   have hv:=(hx.2.2 o ho).2 hko hrow
   obtain ⟨vs,hr,hy⟩:=hM.obj i o ho
   rw [if_pos hrow] at hy
   rcases hy.2 with ⟨e1,e2⟩ | ⟨b,cap,cur,e1,_,hh,h1,h2,h3,h4⟩
   ·omega
   have hcap:k≤cap:=by omega
   rw [e1,← hko] at hv
   subst hv
   have hs:=Zgs hT hie w
   have hmm:bHi hi k≤bMx none cap∧bMx none cap≤cap:=by simp only [bMx];exact ⟨by omega,by omega⟩
   have hb:=Ziv (P:=P) (w:=w) true k cap lo hi none hS.2.2.1 hS.2.2.2.1 hmm.1 hmm.2 (fun h=>by cases h)
   refine ⟨.slice (if (bMx none cap).toNat=(bLo lo).toNat then some (⟨b,0,none⟩:Addr) else Option.map (fun x:Addr=>x.add ((bLo lo).toNat * ie.size)) (some (⟨b,0,none⟩:Addr))) ((bHi hi k).toNat - (bLo lo).toNat) ((bMx none cap).toNat - (bLo lo).toNat),by simp only [Instr.sliceAt,Instr.slice,Sem.run_bind,run_underlying hu,Result.andThen_ok,hb,hs,Sem.run_pure],?_⟩
   simp only [G.rep]
   refine ⟨hx.1,rfl,fun o' ho' => ?_⟩
   rw [ho] at ho'
   injection ho' with ho'
   subst ho'
   refine ⟨by omega,fun _ _=>⟨b,cap,(if (bMx none cap).toNat=(bLo lo).toNat then some (⟨b,0,none⟩:Addr) else Option.map (fun x:Addr=>x.add ((bLo lo).toNat * ie.size)) (some (⟨b,0,none⟩:Addr))),(bMx none cap).toNat - (bLo lo).toNat,by rw [e1,← hko],?_,?_,fun hne => ?_,fun hoff => ?_⟩⟩
   ·exact congrArg (fun x=>Value.slice _ x _) (by omega)
   ·omega
   ·have hne2:¬ (bMx none cap).toNat=(bLo lo).toNat:=by simp only [bMx];omega
    rw [if_neg hne2]
    simp [Zeg]
   have hlo:(bLo lo).toNat=0:=by
    rcases Nat.mul_eq_zero.1 hoff with q | q
    ·exact q
    omega
   have hne2:¬ (bMx none cap).toNat=(bLo lo).toNat:=by simp only [bMx];omega
   rw [if_neg hne2,hlo]
   have e8:(bHi hi k).toNat - 0=(bHi hi k - bLo lo).toNat:=by omega
   have e9:(bMx none cap).toNat - 0=cap:=by simp only [bMx];omega
   rw [e8,e9,Nat.zero_mul]
   simp [Zeg]
  cases h
 ·rename_i len e i off hk
  have hu:=Q8 hT hk
  simp only [TK.ok] at hu
  split at h
  ·rename_i ie hie
   split at h
   ·cases h
   rename_i hmx
   simp only [Option.some.injEq,Prod.mk.injEq] at h
   obtain ⟨rfl,rfl⟩:=h
   obtain ⟨o,ho,hrow⟩:=hl
   simp only [G.rep] at hx
   obtain ⟨b,e1,rfl⟩:=hx.2.2 o ho hrow
   have hs:=Zgs hT hie w
   have h4:mx.isSome=true→hi.isSome=true:=fun q=>by cases hh:hi.isSome <;> simp_all
   have hb:=Ziv (P:=P) (w:=w) false len len lo hi mx hS.1 hS.2.1 hS.2.2.1 hS.2.2.2 h4
   refine ⟨.slice (some (if (bMx mx len).toNat=(bLo lo).toNat then ⟨b,off,none⟩ else (⟨b,off,none⟩:Addr).add ((bLo lo).toNat * ie.size))) ((bHi hi len).toNat - (bLo lo).toNat) ((bMx mx len).toNat - (bLo lo).toNat),by simp only [Instr.sliceAt,Sem.run_bind,run_underlying hu,Instr.sureAddr,Result.andThen_ok,hb,hs,Sem.run_pure],?_⟩
   simp only [G.rep]
   refine ⟨hx.1,rfl,fun o' ho' _=>⟨b,(bMx mx len).toNat - (bLo lo).toNat,e1,?_,by omega⟩⟩
   by_cases hq:bMx mx len=bLo lo
   ·rw [if_pos (by omega),if_pos hq]
    congr 1
    omega
   rw [if_neg (by omega),if_neg hq,Zeg]
   congr 1
   omega
  cases h
 ·rename_i s hk
  have hu:=Q8 hT hk
  simp only [TK.ok] at hu
  split at h
  ·cases h
  rename_i hmx
  simp only [Option.some.injEq,Prod.mk.injEq] at h
  obtain ⟨rfl,rfl⟩:=h
  simp only [G.rep] at hx
  subst hx
  have hmn:mx=none:=by cases mx <;> simp_all
  subst hmn
  have hb:=Ziv (P:=P) (w:=w) false s.size s.size lo hi none hS.1 hS.2.1 hS.2.2 (by simp [bMx]) (fun h=>by cases h)
  refine ⟨_,?_,rfl⟩
  simp only [Option.map_none] at hb
  simp [Instr.sliceAt,Instr.slice,run_underlying hu,hb]
 cases h
def Zg8 (x:G) (k:Nat):Option G :=
 match x with
 | .tup vs=>vs[k]?
 | _=>none
theorem Zut {x g:G} {k:Nat} {v:Value} (hx:x.rep w O m n v) (h:Zg8 x k=some g):∃ u,(Instr.extract v k).run P w = .ok u w∧g.rep w O m n u:=by
 unfold Zg8 at h
 split at h
 ·simp only [G.rep] at hx
  obtain ⟨vs,rfl,hr⟩:=hx
  obtain ⟨u,h1,h2⟩:=Zm5 _ _ hr _ _ h
  have h1':vs[k]? = some u:=by simpa using h1
  exact ⟨u,by simp [Instr.extract,h1'],h2⟩
 cases h
end
end Go.Proofs.Ytibgpnmmgffgeaa
