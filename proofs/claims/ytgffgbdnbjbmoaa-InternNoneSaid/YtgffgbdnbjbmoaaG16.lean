/- Part G16 of the ghost memory: lemmas and contracts used by the proofs of this seat's laws; each theorem bears its own conditions. -/
import Derived.Test.YtgffgbdnbjbmoaaG1
import Derived.Test.YtgffgbdnbjbmoaaG2
import Derived.Test.YtgffgbdnbjbmoaaG6
import Derived.Test.YtgffgbdnbjbmoaaG10
import Derived.Test.YtgffgbdnbjbmoaaG11
import Derived.Test.YtgffgbdnbjbmoaaG12
import Derived.Test.YtgffgbdnbjbmoaaG13
import Derived.Test.YtgffgbdnbjbmoaaG14
import Derived.Test.YtgffgbdnbjbmoaaG15
import Derived.WalkKit
import Derived.WalkSpells
import Derived.WalkLawsBesides
import Derived.Lib.Hide
import Derived.BigQuiet
import Derived.StillTailTactics
import Derived.Deep.RegionHeld3
import Derived.Deep.AppendLies
import Derived.Laws.CopyOwn
import Derived.Deep.DeepCutAuto
import Derived.Deep.QuietTactic
import Derived.Maps.AppendAt
import Derived.Great.BuildSlice
import Derived.Laws.StructEq
import Derived.ChangeKeysEq
import Derived.IntWalk
import Derived.Lib.AppendZeros
import Derived.Lib.AppendZerosOnto
import Derived.ProofKit
import Derived.OpenShut
import Derived.SizedLaws
import Derived.Deep.Slices
namespace Go.Proofs.Ytgffgbdnbjbmoaa
open Go.RowKit
set_option linter.unusedVariables false
set_option linter.unusedSimpArgs false
section
variable {P : Program} {T : Qa} {w : World} {O : Objs} {m : Hands} {n : Nat}
mutual
def G.under (k : Nat) : G → Bool
 | .any | .val _ => true
 | .agg cs => G.unders k cs
 | .tup cs => G.unders k cs
 | .fn _ _ cs => G.unders k cs
 | .sl _ cs => G.unders k cs
 | .ip cs _ => G.unders k cs
 | .row i _ => decide (i < k)
 | .rs i _ _ => decide (i < k)
 | .rp i _ _ => decide (i < k)
 | .rl i _ _ _ => decide (i < k)
 | .ref i _ => decide (i < k)
 | .when b g => !b || g.under k
def G.unders (k : Nat) : List G → Bool
 | [] => true
 | g :: gs => g.under k && G.unders k gs
end
mutual
theorem Zlq : ∀ (g : G) (v : Value), g.rep w O m n v → g.under n = true
 | .any, _, _ => rfl
 | .val _, _, _ => rfl
 | .agg cs, v, h => by simp only [G.rep] at h; obtain ⟨vs, _, hr⟩ := h; exact Q9 cs _ hr
 | .tup cs, v, h => by simp only [G.rep] at h; obtain ⟨vs, _, hr⟩ := h; exact Q9 cs _ hr
 | .fn f k cs, v, h => by simp only [G.rep] at h; obtain ⟨vs, _, hr⟩ := h; exact Q9 cs _ hr
 | .sl k cs, v, h => by simp only [G.rep] at h; obtain ⟨_, _, _, _, vs, hr, _⟩ := h; exact Q9 cs _ hr
 | .ip cs k, v, h => by simp only [G.rep] at h; obtain ⟨_, _, _, _, _, vs, hr, _⟩ := h; exact Q9 cs _ hr
 | .row i k, v, h => by simp only [G.rep] at h; simp [G.under, h.1]
 | .rs i off k, v, h => by simp only [G.rep] at h; simp [G.under, h.1]
 | .rp i k off, v, h => by simp only [G.rep] at h; simp [G.under, h.1]
 | .rl i k off len, v, h => by simp only [G.rep] at h; simp [G.under, h.1]
 | .ref i off, v, h => by simp only [G.rep] at h; simp [G.under, h.1]
 | .when b g, v, h => by
  simp only [G.rep] at h
  cases b with
  | false => rfl
  | true => simpa [G.under] using Zlq g v (h.1 rfl)
theorem Q9 : ∀ (gs : List G) (vs : List Value), G.reps w O m n gs vs → G.unders n gs = true
 | [], _, _ => rfl
 | g :: gs, vs, h => by
  simp only [G.reps] at h
  obtain ⟨u, us, _, h1, h2⟩ := h
  simp [G.unders, Zlq g u h1, Q9 gs us h2]
end
def Zdv (T : Qa) (O : Objs) (E : Env) : List ResultVar → Option (List G)
 | [] => some []
 | .tmp t :: l => (Zdv T O E l).map fun r => Xq E.l t :: r
 | .cell a t :: l => match Zdb T O t (Xq E.l a) with
  | some g => (Zdv T O E l).map fun r => g :: r
  | none => none
def Zir : List G → G
 | [g] => g
 | gs => .tup gs
def Zyx (tmps : Array Value) : ResultVar → Sem Value
 | .tmp t => pure (tmps.getD t undef)
 | .cell a t => do loadVar t (← asAddr (tmps.getD a undef))
theorem Zfy (hT : Y8 P T) (hM : Mem w O m n) {E : Env} {a : Act} (hE : Holds w O m n E a) : ∀ (rs : List ResultVar) (gs : List G), Zdv T O E rs = some gs →
  ∃ vs : List Value, (rs.mapM (Zyx a.tmps)).run P w = .ok vs w ∧ G.reps w O m n gs vs
 | [], gs, h => by simp only [Zdv, Option.some.injEq] at h; subst h; exact ⟨[], by simp, rfl⟩
 | .tmp t :: l, gs, h => by
  simp only [Zdv] at h
  cases hq : Zdv T O E l with
  | none => simp [hq] at h
  | some r =>
   simp only [hq, Option.map_some, Option.some.injEq] at h
   subst h
   obtain ⟨vs, h1, h2⟩ := Zfy hT hM hE l r hq
   refine ⟨a.tmps.getD t undef :: vs, ?_, ⟨_, _, rfl, hE.ev (.tmp t), h2⟩⟩
   rw [List.mapM_cons]
   simp only [Zyx, Sem.run_bind, Sem.run_pure, Result.andThen_ok, h1]
 | .cell b t :: l, gs, h => by
  simp only [Zdv] at h
  split at h
  ·rename_i g hg
   cases hq : Zdv T O E l with
   | none => simp [hq] at h
   | some r =>
    simp only [hq, Option.map_some, Option.some.injEq] at h
    subst h
    obtain ⟨vs, h1, h2⟩ := Zfy hT hM hE l r hq
    have hb : (Xq E.l b).rep w O m n (a.tmps.getD b undef) := hE.ev (.tmp b)
    obtain ⟨u, hu, hgu⟩ := Zig hT hM hb hg
    refine ⟨u :: vs, ?_, ⟨_, _, rfl, hgu, h2⟩⟩
    have hrun : (do loadVar t (← asAddr (a.tmps.getD b undef)) : Sem Value).run P w = .ok u w := by
     unfold Zdb at hg
     split at hg
     ·rename_i cs off hc
      obtain ⟨x, o, ws, e, _⟩ := Zg0 hM hb hc
      rw [e] at hu ⊢
      simpa [Instr.loadAt, Instr.sureAddr, asAddr] using hu
     cases hg
    rw [List.mapM_cons, Sem.run_bind]
    have hrun' : (Zyx a.tmps (.cell b t)).run P w = .ok u w := hrun
    rw [hrun']
    simp only [Result.andThen_ok, h1, Sem.run_bind, Sem.run_pure]
  cases h
theorem Zl2 (hT : Y8 P T) (hM : Mem w O m n) {E : Env} {a : Act} (hE : Holds w O m n E a) {fn : Func} {gs : List G} (h : Zdv T O E fn.results.toList = some gs) : ∃ v, (results fn a.tmps).run P w = .ok v w ∧ (Zir gs).rep w O m n v := by
 obtain ⟨vs, h1, h2⟩ := Zfy hT hM hE _ _ h
 have hl := Xw _ _ h2
 have hrun : (results fn a.tmps).run P w = .ok (if h : vs.toArray.size = 1 then vs.toArray[0] else .tuple vs.toArray) w := by
  have e : results fn a.tmps = (do let vs ← fn.results.mapM (Zyx a.tmps); pure (if h : vs.size = 1 then vs[0] else .tuple vs)) := by
   unfold results
   congr 1
  rw [e, ← Array.toArray_toList (xs := fn.results), List.mapM_toArray]
  simp only [Sem.run_bind, Sem.run_map, h1, Result.andThen_ok, Sem.run_pure]
 refine ⟨_, hrun, ?_⟩
 match gs, vs, h2, hl with
 | [], [], h2, _ => simp [Zir, G.rep, G.reps]
 | [g], [v], h2, _ =>
  simp only [G.reps] at h2
  obtain ⟨u, us, e, h3, rfl⟩ := h2
  injection e with e1 e2
  subst e1
  simpa [Zir] using h3
 | g1 :: g2 :: gs, v1 :: v2 :: vs, h2, _ =>
  have : ¬ (v1 :: v2 :: vs).toArray.size = 1 := by simp
  rw [dif_neg this]
  simp only [Zir, G.rep]
  exact ⟨_, rfl, by simpa using h2⟩
 | [], _ :: _, _, hl => simp at hl
 | _ :: _, [], _, hl => simp at hl
 | [_], _ :: _ :: _, _, hl => simp at hl
 | _ :: _ :: _, [_], _, hl => simp at hl
def Zfs (k : Nat) : List G → List (Nat × G)
 | [] => []
 | g :: gs => (k, g) :: Zfs (k + 1) gs
end
end Go.Proofs.Ytgffgbdnbjbmoaa
