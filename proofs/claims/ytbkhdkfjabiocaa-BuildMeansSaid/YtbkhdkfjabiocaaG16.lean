/- Part G16 of the ghost memory: lemmas and contracts used by the proofs of this seat's laws; each theorem bears its own conditions. -/
import Derived.Test.YtbkhdkfjabiocaaG15
namespace Go.Proofs.Ytbkhdkfjabiocaa
open Go.RowKit
set_option linter.unusedVariables false
set_option linter.unusedSimpArgs false
section
variable {P:Program} {T:J9} {w:World} {O:Objs} {m:Hands} {n:Nat}
mutual
def G.under (k:Nat):G→Bool
 | .any | .val _=>true
 | .agg cs=>G.unders k cs
 | .tup cs=>G.unders k cs
 | .fn _ _ cs=>G.unders k cs
 | .sl _ cs=>G.unders k cs
 | .ip cs _=>G.unders k cs
 | .row i _=>decide (i < k)
 | .rs i _ _=>decide (i < k)
 | .rp i _ _=>decide (i < k)
 | .rl i _ _ _=>decide (i < k)
 | .ref i _=>decide (i < k)
 | .when b g => !b || g.under k
def G.unders (k:Nat):List G→Bool
 | []=>true
 | g::gs=>g.under k && G.unders k gs
end
mutual
theorem Zvy:∀ (g:G) (v:Value),g.rep w O m n v→g.under n=true
 | .any,_,_=>rfl
 | .val _,_,_=>rfl
 | .agg cs,v,h=>by simp only [G.rep] at h;obtain ⟨vs,_,hr⟩:=h;exact Kh cs _ hr
 | .tup cs,v,h=>by simp only [G.rep] at h;obtain ⟨vs,_,hr⟩:=h;exact Kh cs _ hr
 | .fn f k cs,v,h=>by simp only [G.rep] at h;obtain ⟨vs,_,hr⟩:=h;exact Kh cs _ hr
 | .sl k cs,v,h=>by simp only [G.rep] at h;obtain ⟨_,_,_,_,vs,hr,_⟩:=h;exact Kh cs _ hr
 | .ip cs k,v,h=>by simp only [G.rep] at h;obtain ⟨_,_,_,_,_,vs,hr,_⟩:=h;exact Kh cs _ hr
 | .row i k,v,h=>by simp only [G.rep] at h;simp [G.under,h.1]
 | .rs i off k,v,h=>by simp only [G.rep] at h;simp [G.under,h.1]
 | .rp i k off,v,h=>by simp only [G.rep] at h;simp [G.under,h.1]
 | .rl i k off len,v,h=>by simp only [G.rep] at h;simp [G.under,h.1]
 | .ref i off,v,h=>by simp only [G.rep] at h;simp [G.under,h.1]
 | .when b g,v,h=>by
  simp only [G.rep] at h
  cases b with
  | false=>rfl
  | true=>simpa [G.under] using Zvy g v (h.1 rfl)
theorem Kh:∀ (gs:List G) (vs:List Value),G.reps w O m n gs vs→G.unders n gs=true
 | [],_,_=>rfl
 | g::gs,vs,h=>by
  simp only [G.reps] at h
  obtain ⟨u,us,_,h1,h2⟩:=h
  simp [G.unders,Zvy g u h1,Kh gs us h2]
end
def Zh3 (T:J9) (O:Objs) (E:Env):List ResultVar→Option (List G)
 | []=>some []
 | .tmp t::l=>(Zh3 T O E l).map fun r=>Q0 E.l t::r
 | .cell a t::l=>match Zgv T O t (Q0 E.l a) with
  | some g=>(Zh3 T O E l).map fun r=>g::r
  | none=>none
def Zot:List G→G
 | [g]=>g
 | gs => .tup gs
def Yah (tmps:Array Value):ResultVar→Sem Value
 | .tmp t=>pure (tmps.getD t undef)
 | .cell a t=>do loadVar t (← asAddr (tmps.getD a undef))
theorem Zpn (hT:X6 P T) (hM:Mem w O m n) {E:Env} {a:Act} (hE:Holds w O m n E a):∀ (rs:List ResultVar) (gs:List G),Zh3 T O E rs=some gs →
  ∃ vs:List Value,(rs.mapM (Yah a.tmps)).run P w = .ok vs w∧G.reps w O m n gs vs
 | [],gs,h=>by simp only [Zh3,Option.some.injEq] at h;subst h;exact ⟨[],by simp,rfl⟩
 | .tmp t::l,gs,h=>by
  simp only [Zh3] at h
  cases hq:Zh3 T O E l with
  | none=>simp [hq] at h
  | some r =>
   simp only [hq,Option.map_some,Option.some.injEq] at h
   subst h
   obtain ⟨vs,h1,h2⟩:=Zpn hT hM hE l r hq
   refine ⟨a.tmps.getD t undef::vs,?_,⟨_,_,rfl,hE.ev (.tmp t),h2⟩⟩
   rw [List.mapM_cons]
   simp only [Yah,Sem.run_bind,Sem.run_pure,Result.andThen_ok,h1]
 | .cell b t::l,gs,h=>by
  simp only [Zh3] at h
  split at h
  ·rename_i g hg
   cases hq:Zh3 T O E l with
   | none=>simp [hq] at h
   | some r =>
    simp only [hq,Option.map_some,Option.some.injEq] at h
    subst h
    obtain ⟨vs,h1,h2⟩:=Zpn hT hM hE l r hq
    have hb:(Q0 E.l b).rep w O m n (a.tmps.getD b undef):=hE.ev (.tmp b)
    obtain ⟨u,hu,hgu⟩:=Ztk hT hM hb hg
    refine ⟨u::vs,?_,⟨_,_,rfl,hgu,h2⟩⟩
    have hrun:(do loadVar t (← asAddr (a.tmps.getD b undef)):Sem Value).run P w = .ok u w:=by
     unfold Zgv at hg
     split at hg
     ·rename_i cs off hc
      obtain ⟨x,o,ws,e,_⟩:=Zqi hM hb hc
      rw [e] at hu ⊢
      simpa [Instr.loadAt,Instr.sureAddr,asAddr] using hu
     cases hg
    rw [List.mapM_cons,Sem.run_bind]
    have hrun':(Yah a.tmps (.cell b t)).run P w = .ok u w:=hrun
    rw [hrun']
    simp only [Result.andThen_ok,h1,Sem.run_bind,Sem.run_pure]
  cases h
theorem Zpc (hT:X6 P T) (hM:Mem w O m n) {E:Env} {a:Act} (hE:Holds w O m n E a) {fn:Func} {gs:List G} (h:Zh3 T O E fn.results.toList=some gs):∃ v,(results fn a.tmps).run P w = .ok v w∧(Zot gs).rep w O m n v:=by
 obtain ⟨vs,h1,h2⟩:=Zpn hT hM hE _ _ h
 have hl:=Qz _ _ h2
 have hrun:(results fn a.tmps).run P w = .ok (if h:vs.toArray.size=1 then vs.toArray[0] else .tuple vs.toArray) w:=by
  have e:results fn a.tmps=(do let vs ← fn.results.mapM (Yah a.tmps);pure (if h:vs.size=1 then vs[0] else .tuple vs)):=by
   unfold results
   congr 1
  rw [e,← Array.toArray_toList (xs:=fn.results),List.mapM_toArray]
  simp only [Sem.run_bind,Sem.run_map,h1,Result.andThen_ok,Sem.run_pure]
 refine ⟨_,hrun,?_⟩
 match gs,vs,h2,hl with
 | [],[],h2,_=>simp [Zot,G.rep,G.reps]
 | [g],[v],h2,_ =>
  simp only [G.reps] at h2
  obtain ⟨u,us,e,h3,rfl⟩:=h2
  injection e with e1 e2
  subst e1
  simpa [Zot] using h3
 | g1::g2::gs,v1::v2::vs,h2,_ =>
  have:¬ (v1::v2::vs).toArray.size=1:=by simp
  rw [dif_neg this]
  simp only [Zot,G.rep]
  exact ⟨_,rfl,by simpa using h2⟩
 | [],_::_,_,hl=>simp at hl
 | _::_,[],_,hl=>simp at hl
 | [_],_::_::_,_,hl=>simp at hl
 | _::_::_,[_],_,hl=>simp at hl
def Zpl (k:Nat):List G→List (Nat×G)
 | []=>[]
 | g::gs=>(k,g)::Zpl (k+1) gs
end
end Go.Proofs.Ytbkhdkfjabiocaa
