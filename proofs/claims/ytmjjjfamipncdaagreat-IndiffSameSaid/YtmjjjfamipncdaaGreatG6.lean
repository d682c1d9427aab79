/- Part G6 of the ghost memory: lemmas and contracts used by the proofs of this seat's laws; each theorem bears its own conditions. -/
import Derived.Test.YtmjjjfamipncdaaGreatG2
namespace Go.Proofs.YtmjjjfamipncdaaGreat
open Go.RowKit
set_option linter.unusedVariables false
set_option linter.unusedSimpArgs false
section
variable {P:Program} {T:J0} {w:World} {O:Objs} {m:Hands} {n:Nat}
theorem Zcv (hT:Ql P T) {t:TypeId} {i:TyI} (h:T t=some i) (w:World):(sizeOf t).run P w = .ok i.size w:=(hT t i h).sizeOf w
def Ud (T:J0) (t:TypeId) (x:G) (i:Int):Option (Prop×G) :=
 match Z9 T t with
 | some (.slice e)=>match T e with
  | some ie=>match x with
   | .sl k cs=>some (0≤i∧i < k,.ip cs (i.toNat * ie.size))
   | .row j k=>some (0≤i∧i < k,.rp j k (i.toNat * ie.size))
   | .rs j off k=>some (0≤i∧i < k,.ref j (off+i.toNat * ie.size))
   | _=>none
  | none=>none
 | some (.arr len e)=>match T e with
  | some ie=>match x with
   | .ref j off=>some (0≤i∧i < len,.ref j (off+i.toNat * ie.size))
   | .ip cs k=>some (0≤i∧i < len,.ip cs (k+i.toNat * ie.size))
   | .rp j k off=>some (0≤i∧i < len,.rp j k (off+i.toNat * ie.size))
   | _=>none
  | none=>none
 | _=>none
theorem Zb6 (hT:Ql P T) {t e:TypeId} {ie:TyI} (hk:Z9 T t=some (.slice e)) (hi:T e=some ie) (b o len c:Nat) (k:IntKind) (i:Int) (h0:0≤i) (h1:i < len) :
  (Instr.indexAt t (.slice (some ⟨b,o,none⟩) len c) (.int k i)).run P w = .ok (.pointer (some ⟨b,o+i.toNat * ie.size,none⟩)) w:=by
 have hu:=Qv hT hk
 simp only [TK.ok] at hu
 have hs:=Zcv hT hi w
 simp [Instr.indexAt,asIntOf,run_underlying hu,h0,h1,hs,Zar]
theorem Zdg (hT:Ql P T) {t e:TypeId} {len:Nat} {ie:TyI} (hk:Z9 T t=some (.arr len e)) (hi:T e=some ie) (b o:Nat) (k:IntKind) (i:Int) (h0:0≤i) (h1:i < len) :
  (Instr.indexAt t (.pointer (some ⟨b,o,none⟩)) (.int k i)).run P w = .ok (.pointer (some ⟨b,o+i.toNat * ie.size,none⟩)) w:=by
 have hu:=Qv hT hk
 simp only [TK.ok] at hu
 have hs:=Zcv hT hi w
 simp [Instr.indexAt,Instr.sureAddr,asIntOf,run_underlying hu,h0,h1,hs,Zar]
theorem Zp9 (hT:Ql P T) (hM:Mem w O m n) {t:TypeId} {x g:G} {i:Int} {k:IntKind} {S:Prop} {v:Value} (hx:x.rep w O m n v) (hl:X2 O x) (h:Ud T t x i=some (S,g)) (hS:S) :
  ∃ u,(Instr.indexAt t v (.int k i)).run P w = .ok u w∧g.rep w O m n u:=by
 unfold Ud at h
 split at h
 ·rename_i e hk
  split at h
  ·rename_i ie hi
   split at h <;> simp only [Option.some.injEq,Prod.mk.injEq,reduceCtorEq] at h
   ·rename_i k' cs
    obtain ⟨rfl,rfl⟩:=h
    simp only [G.rep] at hx
    obtain ⟨A,c,rfl,_,vs,hr,ha⟩:=hx
    obtain ⟨b,o,rfl,h1,h2,h3⟩:=ha (by omega)
    refine ⟨_,Zb6 hT hk hi b o _ c k i hS.1 hS.2,?_⟩
    simp only [G.rep]
    exact ⟨b,o,rfl,h1,h2,vs,hr,h3⟩
   ·rename_i j k'
    obtain ⟨rfl,rfl⟩:=h
    obtain ⟨o,ho,hrow,hk'⟩:=hl
    simp only [G.rep] at hx
    have hv:=(hx.2.2 o ho).2 hk' hrow
    obtain ⟨vs,hr,hy⟩:=hM.obj j o ho
    rw [if_pos hrow] at hy
    rcases hy.2 with ⟨e1,e2⟩ | ⟨b,cap,cur,e1,_⟩
    ·omega
    rw [e1] at hv
    subst hv
    refine ⟨_,Zb6 hT hk hi b 0 _ cap k i hS.1 (by omega),?_⟩
    simp only [G.rep]
    refine ⟨hx.1,rfl,fun o' ho' => ?_⟩
    rw [ho] at ho'
    injection ho' with ho'
    subst ho'
    exact ⟨by omega,fun _ _=>⟨b,cap,by rw [e1,hk'],by simp⟩⟩
   rename_i j off k'
   obtain ⟨rfl,rfl⟩:=h
   obtain ⟨o,ho,hrow⟩:=hl
   simp only [G.rep] at hx
   obtain ⟨b,c,e1,rfl,_⟩:=hx.2.2 o ho hrow
   refine ⟨_,Zb6 hT hk hi b off _ c k i hS.1 hS.2,?_⟩
   simp only [G.rep]
   exact ⟨hx.1,rfl,fun o' ho' _=>⟨b,e1,rfl⟩⟩
  cases h
 ·rename_i len e hk
  split at h
  ·rename_i ie hi
   obtain ⟨s1,s2,s3⟩:=Zwg hx hl (i.toNat * ie.size)
   split at h <;> simp only [Option.some.injEq,Prod.mk.injEq,reduceCtorEq] at h
   all_goals obtain ⟨rfl,rfl⟩:=h
   ·obtain ⟨b,o,rfl,hr⟩:=s1 _ _ rfl;exact ⟨_,Zdg hT hk hi b o k i hS.1 hS.2,hr⟩
   ·obtain ⟨b,o,rfl,hr⟩:=s2 _ _ rfl;exact ⟨_,Zdg hT hk hi b o k i hS.1 hS.2,hr⟩
   obtain ⟨b,o,rfl,hr⟩:=s3 _ _ _ rfl;exact ⟨_,Zdg hT hk hi b o k i hS.1 hS.2,hr⟩
  cases h
 cases h
def Zfr (T:J0) (t:TypeId) (x:G) (i:Int):Option (Prop×G) :=
 match Z9 T t,x with
 | some (.arr len e),.agg cs=>match T e with
  | some ie=>match Zc2 T e cs (i.toNat * ie.size) with
   | some g=>some (0≤i∧i < len,g)
   | none=>none
  | none=>none
 | some .str,.val (.string s)=>some (0≤i∧i < s.size,.val (.int .u8 ((s.get! i.toNat).toNat:Nat)))
 | _,_=>none
theorem Zx5 (hT:Ql P T) {t:TypeId} {x g:G} {i:Int} {k:IntKind} {S:Prop} {v:Value} (hx:x.rep w O m n v) (h:Zfr T t x i=some (S,g)) (hS:S) :
  ∃ u,(Instr.index t v (.int k i)).run P w = .ok u w∧g.rep w O m n u:=by
 unfold Zfr at h
 split at h
 ·rename_i len e cs hk
  split at h
  ·rename_i ie hi
   split at h
   ·rename_i g' hg
    simp only [Option.some.injEq,Prod.mk.injEq] at h
    obtain ⟨rfl,rfl⟩:=h
    simp only [G.rep] at hx
    obtain ⟨vs,rfl,hr⟩:=hx
    obtain ⟨u,h1,h2⟩:=Zr7 hT hr hg
    have hu:=Qv hT hk
    simp only [TK.ok] at hu
    have hs:=Zcv hT hi w
    exact ⟨u,by simpa [Instr.index,asIntOf,run_underlying hu,hS,hs] using h1,h2⟩
   cases h
  cases h
 ·rename_i s hk
  simp only [Option.some.injEq,Prod.mk.injEq] at h
  obtain ⟨rfl,rfl⟩:=h
  simp only [G.rep] at hx
  subst hx
  have hu:=Qv hT hk
  simp only [TK.ok] at hu
  have hlt:i.toNat < s.size:=by omega
  refine ⟨_,?_,rfl⟩
  have e:s.get! i.toNat=s[i.toNat]:=by
   show s.data[i.toNat]! = s.data[i.toNat]
   exact getElem!_pos s.data i.toNat hlt
  simp [Instr.index,asIntOf,run_underlying hu,hS,hlt,e]
 cases h
def Zej (T:J0) (s:TypeId) (x:G) (f:Nat):Option G :=
 match Z9 T s,x with
 | some (.struct fs),.agg cs=>match fs[f]? with
  | some (off,ft)=>Zc2 T ft cs off
  | none=>none
 | _,_=>none
theorem Zx4 (hT:Ql P T) {s:TypeId} {x g:G} {f:Nat} {v:Value} (hx:x.rep w O m n v) (h:Zej T s x f=some g):∃ u,(Instr.field s v f).run P w = .ok u w∧g.rep w O m n u:=by
 unfold Zej at h
 split at h
 ·rename_i fs cs hk
  split at h
  ·rename_i off ft hf
   obtain ⟨fields,hu,hm⟩:=Qv hT hk
   have hf':∃ fd,fields[f]? = some fd∧fd.offset=off∧fd.type=ft:=by
    rw [← hm,List.getElem?_map] at hf
    cases hq:fields.toList[f]? with
    | none=>simp [hq] at hf
    | some fd=>simp [hq] at hf;exact ⟨fd,by simpa using hq,hf.1,hf.2⟩
   obtain ⟨fd,hfd,rfl,rfl⟩:=hf'
   simp only [G.rep] at hx
   obtain ⟨vs,rfl,hr⟩:=hx
   obtain ⟨u,h1,h2⟩:=Zr7 hT hr h
   exact ⟨u,by simpa [Instr.field,run_underlying hu,hfd,asAgg] using h1,h2⟩
  cases h
 cases h
def Zel (op:UnOp) (x:G):Option G :=
 match x with
 | .val (.bool b)=>match op with
  | .not=>some (.val (.bool (!b)))
  | _=>none
 | .val (.int k a)=>match op with
  | .neg=>some (.val (.int k (k.wrap (0 - a))))
  | .xor=>some (.val (.int k (k.wrap (Zv2 k (if k.signed then -1 else k.max) a))))
  | _=>none
 | _=>none
theorem Zyb {op:UnOp} {x g:G} {v:Value} (hx:x.rep w O m n v) (h:Zel op x=some g):∃ u,(Op.unary op v).run P w = .ok u w∧g.rep w O m n u:=by
 unfold Zel at h
 split at h
 ·simp only [G.rep] at hx;subst hx
  split at h <;> simp only [Option.some.injEq,reduceCtorEq] at h
  subst h
  exact ⟨_,by simp [Op.unary],rfl⟩
 ·simp only [G.rep] at hx;subst hx
  split at h <;> simp only [Option.some.injEq,reduceCtorEq] at h
  ·subst h;exact ⟨_,by simp [Op.unary,Op.intArith],rfl⟩
  subst h;exact ⟨_,by simp [Op.unary,Op.intBits,Zv2],rfl⟩
 cases h
def Gt (T:J0) (s d:TypeId) (x:G):Option G :=
 match Z9 T s,Z9 T d,x with
 | some (.int _),some (.int k),.val (.int _ a)=>some (.val (.int k (k.wrap a)))
 | some .str,some .str,.val (.string a)=>some (.val (.string a))
 | _,_,_=>none
theorem Ztn (hT:Ql P T) {s d:TypeId} {x g:G} {v:Value} (hx:x.rep w O m n v) (h:Gt T s d x=some g):∃ u,(convert s d v).run P w = .ok u w∧g.rep w O m n u:=by
 unfold Gt at h
 split at h
 ·rename_i hs hd
  simp only [G.rep] at hx;subst hx
  injection h with h
  subst h
  have h1:=Qv hT hs
  have h2:=Qv hT hd
  simp only [TK.ok] at h1 h2
  exact ⟨_,by simp [convert,run_underlying h1,run_underlying h2,Conv.intToInt],rfl⟩
 ·rename_i hs hd
  simp only [G.rep] at hx;subst hx
  injection h with h
  subst h
  have h1:=Qv hT hs
  have h2:=Qv hT hd
  simp only [TK.ok] at h1 h2
  exact ⟨_,by simp [convert,run_underlying h1,run_underlying h2],rfl⟩
 cases h
end
end Go.Proofs.YtmjjjfamipncdaaGreat
