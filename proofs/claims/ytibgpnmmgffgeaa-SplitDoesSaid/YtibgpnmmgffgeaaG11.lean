/- Part G11 of the ghost memory: lemmas and contracts used by the proofs of this seat's laws; each theorem bears its own conditions. -/
import Derived.Test.YtibgpnmmgffgeaaG10
namespace Go.Proofs.Ytibgpnmmgffgeaa
open Go.RowKit
set_option linter.unusedVariables false
set_option linter.unusedSimpArgs false
section
variable {P:Program} {T:Kv} {w:World} {O:Objs} {m:Hands} {n:Nat}
abbrev Out:=Prop×G×Objs×Nat
def Zxp (T:Kv) (t:TypeId) (d x:G) (O:Objs) (n:Nat):Option (Prop×G×Objs×Nat) :=
 match Yu T t with
 | some (.slice e)=>match T e with
  | some ie=>if ie.size=1 then (match Z4p O 1 x with
   | some (mm,cs)=>(match d with
    | .rs i off k=>(match O i with
     | some o=>if o.row=true then none else (Jq o.cells (cs.take (min mm k)) off).map fun c=>(cs.length=mm∧cs.all G.one=true,.val (.int .i64 (min mm k:Nat)),O.upd i (some { o with cells:=c }),n)
     | none=>none)
    | .rl i k0 off k=>(match O i with
     | some o=>if o.row=true∧k0=o.n then (Jq o.cells (cs.take (min mm k)) off).map fun c=>(cs.length=mm∧cs.all G.one=true,.val (.int .i64 (min mm k:Nat)),O.upd i (some { o with cells:=c }),n) else none
     | none=>none)
    | _=>none)
   | none=>none) else none
  | none=>none
 | _=>none
theorem Z2i (hT:Qo P T) (hM:Mem w O m n) {t t' ty:TypeId} {d x g:G} {vd vx:Value} {S:Prop} {O':Objs} {n':Nat} (hd:d.rep w O m n vd) (hx:x.rep w O m n vx) (h:Zxp T t d x O n=some (S,g,O',n')) (hS:S) :
  Does P w O m n (Builtin.copy_ #[t,t'] ty #[vd,vx]) g O' n':=by
 unfold Zxp at h
 split at h
 ·rename_i e hk
  have hu:=Q8 hT hk
  simp only [TK.ok] at hu
  split at h
  ·rename_i ie hie
   obtain ⟨inf,z,e1,e2,e3,e4,e5⟩:=(hT e ie hie).info
   split at h
   ·rename_i hsz
    have hs1:(P.info? e).map (·.size)=some 1:=by rw [e1];simp only [Option.map_some];rw [← hsz,e2]
    split at h
    ·rename_i mm cs hsrc
     obtain ⟨A,c,news,rfl,hr,hA⟩:=Zuy hM hx hsrc
     have hl:=Ju _ _ hr
     split at h
     ·rename_i i off k
      split at h
      ·rename_i o ho
       split at h
       ·cases h
       rename_i hrow
       have hrow':o.row=false:=by simpa using hrow
       cases hp:Jq o.cells (cs.take (min mm k)) off with
       | none=>simp [hp] at h
       | some cc =>
        simp only [hp,Option.map_some,Option.some.injEq,Prod.mk.injEq] at h
        obtain ⟨rfl,rfl,rfl,rfl⟩:=h
        have hd':=hd
        simp only [G.rep] at hd'
        obtain ⟨b,cap,q1,rfl,q3⟩:=hd'.2.2 o ho hrow'
        have hr':=Vz (min mm k) _ _ hr
        have hone:=Zin _ _ hr hS.2
        have hone':∀ u∈news.take (min mm k),u.oneCell'=true:=fun u hu'=>hone u (List.mem_of_mem_take hu')
        have hln:(news.take (min mm k)).length=Nat.min mm k:=by rw [List.length_take,← hl,hS.1];exact Nat.min_eq_left (Nat.min_le_left _ _)
        have href:(G.ref i off).rep w O m n (.pointer (some ⟨b,off,none⟩)):=by
         simp only [G.rep]
         refine ⟨hd'.1,rfl,fun o2 ho2 hr2 => ?_⟩
         rw [ho] at ho2
         injection ho2 with ho2
         subst ho2
         exact ⟨b,q1,rfl⟩
        obtain ⟨ad,w',k1,k2,k3,k4⟩:=Zn9 (P:=P) (O':=O.upd i (some { o with cells:=cc })) hM hr' hone' href (by simp only [Znb,ho,if_neg hrow,hp,Option.map_some])
        injection k1 with k1
        injection k1 with k1
        subst k1
        refine ⟨.int .i64 (min mm k:Nat),w',m,?_,k3,k4,by simp only [G.rep]⟩
        by_cases h0:Nat.min mm k=0
        ·have hn0:news.take (min mm k)=[]:=List.eq_nil_of_length_eq_zero (by rw [hln];exact h0)
         rw [hn0] at k2
         have:w'=w:=by
          have:(storeCells ⟨b,off,none⟩ []).run P w = .ok () w:=by simp [storeCells]
          rw [this] at k2
          injection k2 with _ k2
          exact k2.symm
         subst this
         have hz:(min mm k:Nat)=0:=h0
         rw [run_copy_none (P:=P) w' t t' ty e _ _ k cap mm c hu hs1 h0,hz]
         rfl
        have hmm:mm≠0:=fun hq=>h0 (by rw [hq];exact Nat.zero_min k)
        obtain ⟨ad2,rfl,hc⟩:=hA hmm
        obtain ⟨us,hus,hlie⟩:=hM.obj i o ho
        simp only [hrow',Bool.false_eq_true,if_false] at hlie
        obtain ⟨b',q4,hh⟩:=hlie
        rw [q1] at q4
        injection q4 with q4
        injection q4 with q4
        injection q4 with q4
        subst q4
        have hfit:off+(news.take (min mm k)).length≤us.toArray.size:=by
         unfold Jq at hp
         split at hp
         ·rename_i hle
          rw [List.size_toArray,← Ju _ _ hus,← Ju _ _ hr']
          exact hle
         cases hp
        have hst:=run_storeCells_at P b off o.ty (news.take (min mm k)) 0 us.toArray w hh (by simpa using hfit) hone'
        have hst:=k2.symm.trans hst
        injection hst with _ hst
        simp only [Nat.add_zero] at hst
        rw [run_copy_row (P:=P) w t t' ty e b off k cap ad2 mm c us.toArray o.ty (news.take (min mm k)) hu hs1 hh hln (fun j v hv=>hc j v (by
         rw [List.getElem?_take] at hv
         split at hv
         ·exact hv
         cases hv)) hfit hone',hst,hln]
        rfl
      cases h
     ·rename_i i k0 off k
      split at h
      ·rename_i o ho
       split at h
       ·rename_i hrow
        obtain ⟨hrow',hk0⟩:=hrow
        cases hp:Jq o.cells (cs.take (min mm k)) off with
        | none=>simp [hp] at h
        | some cc =>
         simp only [hp,Option.map_some,Option.some.injEq,Prod.mk.injEq] at h
         obtain ⟨rfl,rfl,rfl,rfl⟩:=h
         have hd':=hd
         simp only [G.rep] at hd'
         obtain ⟨b,cap0,AA,cap,q1,rfl,q3,q5⟩:=(hd'.2.2 o ho).2 hk0 hrow'
         have hr':=Vz (min mm k) _ _ hr
         have hone:=Zin _ _ hr hS.2
         have hone':∀ u∈news.take (min mm k),u.oneCell'=true:=fun u hu'=>hone u (List.mem_of_mem_take hu')
         have hln:(news.take (min mm k)).length=Nat.min mm k:=by rw [List.length_take,← hl,hS.1];exact Nat.min_eq_left (Nat.min_le_left _ _)
         have href:(G.rp i k0 off).rep w O m n (.pointer (some ⟨b,off,none⟩)):=by
          simp only [G.rep]
          refine ⟨hd'.1,rfl,fun o2 ho2 => ?_⟩
          rw [ho] at ho2
          injection ho2 with ho2
          subst ho2
          exact ⟨by omega,fun _ _=>⟨b,cap0,q1,rfl⟩⟩
         obtain ⟨ad,w',k1,k2,k3,k4⟩:=Zn9 (P:=P) (O':=O.upd i (some { o with cells:=cc })) hM hr' hone' href (by simp only [Znb,ho];rw [if_pos ⟨hrow',hk0⟩,hp];rfl)
         injection k1 with k1
         injection k1 with k1
         subst k1
         refine ⟨.int .i64 (min mm k:Nat),w',m,?_,k3,k4,by simp only [G.rep]⟩
         by_cases h0:Nat.min mm k=0
         ·have hn0:news.take (min mm k)=[]:=List.eq_nil_of_length_eq_zero (by rw [hln];exact h0)
          rw [hn0] at k2
          have:w'=w:=by
           have:(storeCells ⟨b,off,none⟩ []).run P w = .ok () w:=by simp [storeCells]
           rw [this] at k2
           injection k2 with _ k2
           exact k2.symm
          subst this
          have hz:(min mm k:Nat)=0:=h0
          rw [run_copy_none (P:=P) w' t t' ty e _ _ k cap mm c hu hs1 h0,hz]
          rfl
         have hmm:mm≠0:=fun hq=>h0 (by rw [hq];exact Nat.zero_min k)
         obtain ⟨ad2,rfl,hc⟩:=hA hmm
         obtain ⟨us,hus,hlie⟩:=hM.obj i o ho
         rw [if_pos hrow'] at hlie
         have hkn:k≠0:=fun hq=>h0 (by rw [hq];exact Nat.min_zero mm)
         have hAA:=q5.1 hkn
         subst hAA
         rcases hlie.2 with ⟨z1,_⟩ | ⟨b',cap',cur,z1,_,hh,z2,z3,z4,z5⟩
         ·rw [q1] at z1
          cases z1
         rw [q1] at z1
         injection z1 with z1
         injection z1 with z1
         injection z1 with z1
         subst z1
         have hus2:us.length≤cur.size:=by rw [← z5,List.length_take];simp;omega
         have hfit:off+(news.take (min mm k)).length≤cur.size:=by
          unfold Jq at hp
          split at hp
          ·rename_i hle
           rw [Ju _ _ hus,Ju _ _ hr'] at hle
           omega
          cases hp
         have hst:=run_storeCells_at P b off o.ty (news.take (min mm k)) 0 cur w hh (by simpa using hfit) hone'
         have hst:=k2.symm.trans hst
         injection hst with _ hst
         simp only [Nat.add_zero] at hst
         rw [run_copy_row (P:=P) w t t' ty e b off k cap ad2 mm c cur o.ty (news.take (min mm k)) hu hs1 hh hln (fun j v hv=>hc j v (by
          rw [List.getElem?_take] at hv
          split at hv
          ·exact hv
          cases hv)) hfit hone',hst,hln]
         rfl
       cases h
      cases h
     cases h
    cases h
   cases h
  cases h
 cases h
def Zg6 (T:Kv) (b:Builtin) (ts:List TypeId) (xs:List G) (O:Objs) (n:Nat):Option Out :=
 match b,ts,xs with
 | .len,[t],[x]=>(Z4k T t O x).map fun g=>(Zjg O x,g,O,n)
 | .append,[t,t'],[s,x]=>if t=t' then Zmw T t s x O n else Zj3 T t t' s x O n
 | .copy,[t,_],[d,s]=>Zxp T t d s O n
 | .max,_,[.val (.int k a),.val (.int _ c)]=>some (True,.val (.int k (if c > a then c else a)),O,n)
 | .min,_,[.val (.int k a),.val (.int _ c)]=>some (True,.val (.int k (if c < a then c else a)),O,n)
 | .max,_,[.val (.int k a),.val (.int _ b),.val (.int _ c)]=>some (True,.val (.int k (if c > (if b > a then b else a) then c else (if b > a then b else a))),O,n)
 | _,_,_=>none
def Z8i (x:G):Option G :=
 match x with
 | .ref i off=>some (.ref i off)
 | .ip cs k=>some (.ip cs k)
 | .rp i k off=>some (.rp i k off)
 | _=>none
def Zac (T:Kv) (ρ:Operand→G) (O:Objs) (n:Nat):Op→Option Out
 | .move x=>some (True,ρ x,O,n)
 | .assign x=>some (True,ρ x,O,n)
 | .pick c a b=>match ρ c with
  | .val (.bool t)=>some (True,if t=true then ρ a else ρ b,O,n)
  | _=>none
 | .alloc t=>(Zn4 T t O n).map fun r=>(True,r)
 | .box t x=>(Z4h t (ρ x) O n).map fun r=>(True,r)
 | .build t ps=>(Zlx T t (ps.toList.map fun p=>(p.1,ρ p.2))).map fun g=>(True,g,O,n)
 | .buildSlice t len ps=>(Zci T t len (ps.toList.map fun p=>(p.1,ρ p.2)) O n).map fun r=>(True,r)
 | .load t a=>(Zk9 T O t (ρ a)).map fun g=>(True,g,O,n)
 | .store t a x=>(Zjn T O t (ρ a) (ρ x)).map fun O'=>(True,.val undef,O',n)
 | .nilCheck x=>(Z8i (ρ x)).map fun g=>(Qb O (ρ x),g,O,n)
 | .binOp op t x y _=>(Zs1 T op t (ρ x) (ρ y)).map fun r=>(r.1∧Qb O (ρ x),r.2,O,n)
 | .unOp op _ x=>(Zl1 op (ρ x)).map fun g=>(True,g,O,n)
 | .convert s d x=>(Zg7 T s d (ρ x)).map fun g=>(True,g,O,n)
 | .makeSlice t l c=>match ρ l,ρ c with
  | .val (.int _ a),.val (.int _ b)=>Zxq T t a b O n
  | _,_=>none
 | .slice t x lo hi mx=>match Zy5 (lo.map ρ),Zy5 (hi.map ρ),Zy5 (mx.map ρ) with
  | some lo,some hi,some mx=>(Zhp T t (ρ x) lo hi mx).map fun r=>(r.1∧Qb O (ρ x),r.2,O,n)
  | _,_,_=>none
 | .fieldAddr s x f=>(Zes T s (ρ x) f).map fun g=>(Qb O (ρ x),g,O,n)
 | .field s x f=>(Zly T s (ρ x) f).map fun g=>(True,g,O,n)
 | .indexAddr t x i=>match ρ i with
  | .val (.int _ j)=>(Zet T t (ρ x) j).map fun r=>(r.1∧Qb O (ρ x),r.2,O,n)
  | _=>none
 | .index t x i=>match ρ i with
  | .val (.int _ j)=>(Zn5 T t (ρ x) j).map fun r=>(r.1,r.2,O,n)
  | _=>none
 | .extract x k=>(Zg8 (ρ x) k).map fun g=>(True,g,O,n)
 | .makeFunc fn fs cs=>match fn with
  | .func f=>some (True,.fn f fs.size (fs.toList.map ρ++cs.toList.map ρ),O,n)
  | _=>none
 | .call c=>match c.callee with
  | .builtin b=>Zg6 T b c.argTypes.toList (c.args.toList.map ρ) O n
  | _=>none
 | _=>none
def Acts (P:Program) (w:World) (O:Objs) (m:Hands) (n:Nat) (s:Sem Next) (g:G) (O':Objs) (n':Nat):Prop :=
 ∃ v nx w' m',s.run P w = .ok nx w'∧(nx = .value v∨(nx = .skip∧v=undef))∧Mem w' O' m' n'∧Ext w O m n w' O' m' n'∧g.rep w' O' m' n' v
theorem Acts.ofDoes {s:Sem Value} {s':Sem Next} {g:G} {O':Objs} {n':Nat} (h:Does P w O m n s g O' n') (e:s'=(do pure (.value (← s)))):Acts P w O m n s' g O' n':=by
 obtain ⟨v,w',m',h1,h2,h3,h4⟩:=h
 subst e
 exact ⟨v,.value v,w',m',by simp [h1],.inl rfl,h2,h3,h4⟩
theorem Acts.ofSame (hM:Mem w O m n) {s:Sem Value} {s':Sem Next} {g:G} (h:∃ v,s.run P w = .ok v w∧g.rep w O m n v) (e:s'=(do pure (.value (← s)))):Acts P w O m n s' g O n:=by
 obtain ⟨v,h1,h2⟩:=h
 exact Acts.ofDoes (Does.same hM h1 h2) e
theorem Zp2 {ρ:Operand→G} {ρv:Operand→Value} (hρ:∀ x,(ρ x).rep w O m n (ρv x)):∀ l:List Operand,G.reps w O m n (l.map ρ) (l.map ρv)
 | []=>rfl
 | x::l=>⟨_,_,rfl,hρ x,Zp2 hρ l⟩
theorem Zsb {ρ:Operand→G} {ρv:Operand→Value} (hρ:∀ x,(ρ x).rep w O m n (ρv x)):∀ l:List (Nat×Operand),G.reps w O m n ((l.map fun p=>(p.1,ρ p.2)).map (·.2)) ((l.map fun p=>(p.1,ρv p.2)).map (·.2))
 | []=>rfl
 | x::l=>⟨_,_,rfl,hρ x.2,Zsb hρ l⟩
theorem Zy6 {ρ:Operand→G} {ρv:Operand→Value} (hρ:∀ x,(ρ x).rep w O m n (ρv x)) {lo:Option Operand} {r:Option KI} (h:Zy5 (lo.map ρ)=some r):lo.map ρv=r.map KI.v:=by
 cases lo with
 | none=>simp only [Option.map_none,Zy5,Option.some.injEq] at h;subst h;rfl
 | some x =>
  have hx:=hρ x
  simp only [Option.map_some,Zy5] at h
  split at h <;> simp only [Option.some.injEq,reduceCtorEq] at h
  ·rename_i heq;cases heq
  rename_i k i heq
  injection heq with heq
  rw [heq] at hx
  simp only [G.rep] at hx
  subst h
  simp [hx,KI.v]
theorem Zuq (hT:Qo P T) (hM:Mem w O m n) {b:Builtin} {ts:Array TypeId} {xs:List G} {vs:Array Value} {S:Prop} {g:G} {O':Objs} {n':Nat} (hr:G.reps w O m n xs vs.toList) (h:Zg6 T b ts.toList xs O n=some (S,g,O',n')) (hS:S) (ty:TypeId) (cs:Array Bool) :
  Acts P w O m n (builtin b ts ty cs vs) g O' n':=by
 have one:∀ x,xs=[x]→∃ v,vs=#[v]∧x.rep w O m n v:=fun x e=>by
  subst e
  simp only [G.reps] at hr
  obtain ⟨u,us,e,h1,rfl⟩:=hr
  exact ⟨u,by cases vs;simp_all,h1⟩
 have two:∀ x y,xs=[x,y]→∃ v u,vs=#[v,u]∧x.rep w O m n v∧y.rep w O m n u:=fun x y e=>by
  subst e
  simp only [G.reps] at hr
  obtain ⟨u,us,e,h1,u2,us2,rfl,h2,rfl⟩:=hr
  exact ⟨u,u2,by cases vs;simp_all,h1,h2⟩
 unfold Zg6 at h
 split at h
 ·rename_i t x ht
  obtain ⟨v,rfl,hx⟩:=one _ rfl
  have hts:ts=#[t]:=by cases ts;simp_all
  subst hts
  cases hq:Z4k T t O x with
  | none=>simp [hq] at h
  | some g' =>
   simp only [hq,Option.map_some,Option.some.injEq,Prod.mk.injEq] at h
   obtain ⟨rfl,rfl,rfl,rfl⟩:=h
   exact Acts.ofSame hM (Z4l hT hM hx hS hq ty) rfl
 ·rename_i t t' s x ht
  split at h
  ·rename_i e
   subst e
   obtain ⟨v,u,rfl,hs,hx⟩:=two _ _ rfl
   have hts:ts=#[t,t]:=by cases ts;simp_all
   subst hts
   exact Acts.ofDoes (Zw4 hT hM hs hx h hS) rfl
  obtain ⟨v,u,rfl,hs,hx⟩:=two _ _ rfl
  have hts:ts=#[t,t']:=by cases ts;simp_all
  subst hts
  exact Acts.ofDoes (Zup hT hM hs hx h hS) rfl
 ·rename_i t t' d s ht
  obtain ⟨v,u,rfl,hs,hx⟩:=two _ _ rfl
  have hts:ts=#[t,t']:=by cases ts;simp_all
  subst hts
  exact Acts.ofDoes (Z2i hT hM hs hx h hS) rfl
 ·rename_i k a k' c
  obtain ⟨v,u,rfl,hs,hx⟩:=two _ _ rfl
  simp only [Option.some.injEq,Prod.mk.injEq] at h
  obtain ⟨rfl,rfl,rfl,rfl⟩:=h
  simp only [G.rep] at hs hx
  subst hs hx
  exact Acts.ofSame (s:=Builtin.max_ ts ty #[.int k a,.int k' c]) hM ⟨_,by simp [Builtin.max_,Builtin.max2],rfl⟩ rfl
 ·rename_i k a k' c
  obtain ⟨v,u,rfl,hs,hx⟩:=two _ _ rfl
  simp only [Option.some.injEq,Prod.mk.injEq] at h
  obtain ⟨rfl,rfl,rfl,rfl⟩:=h
  simp only [G.rep] at hs hx
  subst hs hx
  exact Acts.ofSame (s:=Builtin.min_ ts ty #[.int k a,.int k' c]) hM ⟨_,by simp [Builtin.min_,Builtin.min2],rfl⟩ rfl
 ·rename_i k a k' b k2 c
  simp only [G.reps] at hr
  obtain ⟨u,us,e,h1,u2,us2,rfl,h2,u3,us3,rfl,h3,rfl⟩:=hr
  have hv:vs=#[u,u2,u3]:=by cases vs;simp_all
  subst hv
  simp only [Option.some.injEq,Prod.mk.injEq] at h
  obtain ⟨rfl,rfl,rfl,rfl⟩:=h
  simp only [G.rep] at h1 h2 h3
  subst h1 h2 h3
  exact Acts.ofSame (s:=Builtin.max_ ts ty #[.int k a,.int k' b,.int k2 c]) hM ⟨_,by simp [Builtin.max_,Builtin.max2],rfl⟩ rfl
 cases h
set_option maxHeartbeats 1000000 in
theorem Z2n (hT:Qo P T) (hM:Mem w O m n) {ρ:Operand→G} {ρv:Operand→Value} (hρ:∀ x,(ρ x).rep w O m n (ρv x)) (o:Oper) {S:Prop} {g:G} {O':Objs} {n':Nat} (h:Zac T ρ O n o.op=some (S,g,O',n')) (hS:S) :
  Acts P w O m n (execOp ρv o) g O' n':=by
 unfold execOp
 generalize o.op=op at h
 cases op <;> simp only [Zac,reduceCtorEq] at h ⊢
 case move x =>
  simp only [Option.some.injEq,Prod.mk.injEq] at h
  obtain ⟨rfl,rfl,rfl,rfl⟩:=h
  exact Acts.ofSame (s:=pure (ρv x)) hM ⟨_,rfl,hρ x⟩ rfl
 case assign x =>
  simp only [Option.some.injEq,Prod.mk.injEq] at h
  obtain ⟨rfl,rfl,rfl,rfl⟩:=h
  exact Acts.ofSame (s:=pure (ρv x)) hM ⟨_,rfl,hρ x⟩ rfl
 case pick c a b =>
  have hc:=hρ c
  split at h
  ·rename_i t heq
   rw [heq] at hc
   simp only [G.rep] at hc
   simp only [Option.some.injEq,Prod.mk.injEq] at h
   obtain ⟨rfl,rfl,rfl,rfl⟩:=h
   refine ⟨if t then ρv a else ρv b,_,w,m,by simp only [hc,asBool,Sem.run_bind,Sem.run_pure,Result.andThen_ok],.inl rfl,hM,Ext.refl _ _ _ _,?_⟩
   cases t
   ·simpa using hρ b
   simpa using hρ a
  cases h
 case alloc t =>
  cases hq:Zn4 T t O n with
  | none=>simp [hq] at h
  | some r =>
   simp only [hq,Option.map_some,Option.some.injEq,Prod.mk.injEq] at h
   obtain ⟨rfl,rfl⟩:=h
   exact Acts.ofDoes (Zyo hT hM hq) rfl
 case box t x =>
  cases hq:Z4h t (ρ x) O n with
  | none=>simp [hq] at h
  | some r =>
   simp only [hq,Option.map_some,Option.some.injEq,Prod.mk.injEq] at h
   obtain ⟨rfl,rfl⟩:=h
   exact Acts.ofDoes (Z4i hM (hρ x) hq) rfl
 case build t ps =>
  cases hq:Zlx T t (ps.toList.map fun p=>(p.1,ρ p.2)) with
  | none=>simp [hq] at h
  | some r =>
   simp only [hq,Option.map_some,Option.some.injEq,Prod.mk.injEq] at h
   obtain ⟨rfl,rfl,rfl,rfl⟩:=h
   exact Acts.ofSame hM (Zyx (us:=ps.map fun (i,x)=>(i,ρv x)) hT (by simp [Function.comp_def]) (by simpa [Function.comp_def] using Zsb hρ ps.toList) hq) rfl
 case buildSlice t len ps =>
  cases hq:Zci T t len (ps.toList.map fun p=>(p.1,ρ p.2)) O n with
  | none=>simp [hq] at h
  | some r =>
   simp only [hq,Option.map_some,Option.some.injEq,Prod.mk.injEq] at h
   obtain ⟨rfl,rfl⟩:=h
   exact Acts.ofDoes (Zpg (us:=ps.map fun (i,x)=>(i,ρv x)) hT hM (by simp [Function.comp_def]) (by simpa [Function.comp_def] using Zsb hρ ps.toList) hq) rfl
 case load t a =>
  cases hq:Zk9 T O t (ρ a) with
  | none=>simp [hq] at h
  | some r =>
   simp only [hq,Option.map_some,Option.some.injEq,Prod.mk.injEq] at h
   obtain ⟨rfl,rfl,rfl,rfl⟩:=h
   exact Acts.ofSame hM (Zss hT hM (hρ a) hq) rfl
 case store t a x =>
  cases hq:Zjn T O t (ρ a) (ρ x) with
  | none=>simp [hq] at h
  | some r =>
   simp only [hq,Option.map_some,Option.some.injEq,Prod.mk.injEq] at h
   obtain ⟨rfl,rfl,rfl,rfl⟩:=h
   unfold Zjn at hq
   split at hq
   ·rename_i i cs hi hc
    split at hq
    ·rename_i hl
     have hcs:=Zia (hρ x) hc
     obtain ⟨ad,w',e1,e2,e3,e4⟩:=Zn9 (P:=P) hM hcs (Zin _ _ hcs hl.2) (hρ a) hq
     have hs:=(hT t i hi).sizeOf w
     have hlen:=Ju _ _ hcs
     have hq1:(ρv x).cells.toList.length=(ρv x).cells.size:=by simp
     have hne:(ρv x).cells.size=i.size:=by omega
     refine ⟨undef,.skip,w',m,?_,.inr ⟨rfl,rfl⟩,e3,e4,rfl⟩
     simp [Instr.storeAt,Instr.sureAddr,e1,storeVar,hs,hne,e2]
    cases hq
   cases hq
 case nilCheck x =>
  have hx:=hρ x
  cases hq:Z8i (ρ x) with
  | none=>simp [hq] at h
  | some r =>
   simp only [hq,Option.map_some,Option.some.injEq,Prod.mk.injEq] at h
   obtain ⟨rfl,rfl,rfl,rfl⟩:=h
   have key:(∃ ad,ρv x = .pointer (some ad))∧r=ρ x:=by
    unfold Z8i at hq
    split at hq <;> simp only [Option.some.injEq,reduceCtorEq] at hq
    ·rename_i i off heq
     rw [heq] at hS hx
     obtain ⟨o,ho,hr⟩:=hS
     simp only [G.rep] at hx
     obtain ⟨b,_,e⟩:=hx.2.2 o ho hr
     exact ⟨⟨_,e⟩,by rw [heq,hq]⟩
    ·rename_i cs k heq
     rw [heq] at hx
     simp only [G.rep] at hx
     obtain ⟨b,o,e,_⟩:=hx
     exact ⟨⟨_,e⟩,by rw [heq,hq]⟩
    rename_i i k off heq
    rw [heq] at hS hx
    obtain ⟨o,ho,hr,hk⟩:=hS
    simp only [G.rep] at hx
    obtain ⟨b,c,_,e⟩:=(hx.2.2 o ho).2 hk hr
    exact ⟨⟨_,e⟩,by rw [heq,hq]⟩
   obtain ⟨⟨ad,e⟩,rfl⟩:=key
   exact ⟨ρv x,_,w,m,by rw [e];rfl,.inl (by rw [e]),hM,Ext.refl _ _ _ _,hx⟩
 case binOp op t x y ty =>
  cases hq:Zs1 T op t (ρ x) (ρ y) with
  | none=>simp [hq] at h
  | some r =>
   simp only [hq,Option.map_some,Option.some.injEq,Prod.mk.injEq] at h
   obtain ⟨rfl,rfl,rfl,rfl⟩:=h
   exact Acts.ofSame hM (Z4g (S:=r.1) hT (hρ x) (hρ y) (fun i off e=>by have:=hS.2;rw [e] at this;exact this) hq hS.1 x y) rfl
 case unOp op t x =>
  cases hq:Zl1 op (ρ x) with
  | none=>simp [hq] at h
  | some r =>
   simp only [hq,Option.map_some,Option.some.injEq,Prod.mk.injEq] at h
   obtain ⟨rfl,rfl,rfl,rfl⟩:=h
   exact Acts.ofSame hM (Zy9 (hρ x) hq) rfl
 case convert s d x =>
  cases hq:Zg7 T s d (ρ x) with
  | none=>simp [hq] at h
  | some r =>
   simp only [hq,Option.map_some,Option.some.injEq,Prod.mk.injEq] at h
   obtain ⟨rfl,rfl,rfl,rfl⟩:=h
   exact Acts.ofSame hM (Zur hT (hρ x) hq) rfl
 case makeSlice t l c =>
  have hl:=hρ l
  have hc:=hρ c
  split at h
  ·rename_i k a k' b e1 e2
   rw [e1] at hl
   rw [e2] at hc
   simp only [G.rep] at hl hc
   rw [hl,hc]
   exact Acts.ofDoes (Z2k hT hM h hS) rfl
  cases h
 case slice t x lo hi mx =>
  split at h
  ·rename_i lo' hi' mx' e1 e2 e3
   cases hq:Zhp T t (ρ x) lo' hi' mx' with
   | none=>simp [hq] at h
   | some r =>
    simp only [hq,Option.map_some,Option.some.injEq,Prod.mk.injEq] at h
    obtain ⟨rfl,rfl,rfl,rfl⟩:=h
    rw [Zy6 hρ e1,Zy6 hρ e2,Zy6 hρ e3]
    exact Acts.ofSame hM (Zy8 (S:=r.1) hT hM (hρ x) hS.2 hq hS.1) rfl
  cases h
 case fieldAddr s x f =>
  cases hq:Zes T s (ρ x) f with
  | none=>simp [hq] at h
  | some r =>
   simp only [hq,Option.map_some,Option.some.injEq,Prod.mk.injEq] at h
   obtain ⟨rfl,rfl,rfl,rfl⟩:=h
   exact Acts.ofSame hM (Zrk hT (hρ x) hS hq) rfl
 case field s x f =>
  cases hq:Zly T s (ρ x) f with
  | none=>simp [hq] at h
  | some r =>
   simp only [hq,Option.map_some,Option.some.injEq,Prod.mk.injEq] at h
   obtain ⟨rfl,rfl,rfl,rfl⟩:=h
   exact Acts.ofSame hM (Zyy hT (hρ x) hq) rfl
 case indexAddr t x i =>
  have hi:=hρ i
  split at h
  ·rename_i k j e1
   rw [e1] at hi
   simp only [G.rep] at hi
   cases hq:Zet T t (ρ x) j with
   | none=>simp [hq] at h
   | some r =>
    simp only [hq,Option.map_some,Option.some.injEq,Prod.mk.injEq] at h
    obtain ⟨rfl,rfl,rfl,rfl⟩:=h
    rw [hi]
    exact Acts.ofSame hM (Zrl (S:=r.1) hT hM (hρ x) hS.2 hq hS.1) rfl
  cases h
 case index t x i =>
  have hi:=hρ i
  split at h
  ·rename_i k j e1
   rw [e1] at hi
   simp only [G.rep] at hi
   cases hq:Zn5 T t (ρ x) j with
   | none=>simp [hq] at h
   | some r =>
    simp only [hq,Option.map_some,Option.some.injEq,Prod.mk.injEq] at h
    obtain ⟨rfl,rfl,rfl,rfl⟩:=h
    rw [hi]
    exact Acts.ofSame hM (Zy1 (S:=r.1) hT (hρ x) hq hS) rfl
  cases h
 case extract x k =>
  cases hq:Zg8 (ρ x) k with
  | none=>simp [hq] at h
  | some r =>
   simp only [hq,Option.map_some,Option.some.injEq,Prod.mk.injEq] at h
   obtain ⟨rfl,rfl,rfl,rfl⟩:=h
   exact Acts.ofSame hM (Zut (hρ x) hq) rfl
 case makeFunc fn fs cs =>
  split at h
  ·rename_i f
   simp only [Option.some.injEq,Prod.mk.injEq] at h
   obtain ⟨rfl,rfl,rfl,rfl⟩:=h
   refine Acts.ofSame (s:=Instr.makeFunc (.func f) (fs.map ρv) (cs.map ρv)) hM ⟨_,rfl,?_⟩ rfl
   simp only [G.rep]
   refine ⟨fs.toList.map ρv++cs.toList.map ρv,?_,U7 _ _ _ _ (Zp2 hρ _) (Zp2 hρ _)⟩
   have hl:(fs.toList.map ρv).length=fs.size:=by simp
   rw [← hl,List.take_left,List.drop_left]
   congr 1 <;> (apply Array.ext';simp)
  cases h
 case call c =>
  split at h
  ·rename_i b hb
   have hr:=Zp2 hρ c.args.toList
   have key:=fun cs=>Zuq hT hM (vs:=c.args.map ρv) (by simpa using hr) h hS o.type cs
   simp only [resolve,hb,pure_bind,invoke]
   exact key _
  cases h
end
end Go.Proofs.Ytibgpnmmgffgeaa
