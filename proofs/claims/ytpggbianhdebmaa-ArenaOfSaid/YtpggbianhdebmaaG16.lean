/- Part G16 of the ghost memory: lemmas and contracts used by the proofs of this seat's laws; each theorem bears its own conditions. -/
import Derived.Test.YtpggbianhdebmaaG1
import Derived.Test.YtpggbianhdebmaaG2
import Derived.Test.YtpggbianhdebmaaG3
import Derived.Test.YtpggbianhdebmaaG4
import Derived.Test.YtpggbianhdebmaaG5
import Derived.Test.YtpggbianhdebmaaG6
import Derived.Test.YtpggbianhdebmaaG7
import Derived.Test.YtpggbianhdebmaaG8
import Derived.Test.YtpggbianhdebmaaG9
import Derived.Test.YtpggbianhdebmaaG10
import Derived.Test.YtpggbianhdebmaaG11
import Derived.Test.YtpggbianhdebmaaG12
import Derived.Test.YtpggbianhdebmaaG13
import Derived.Test.YtpggbianhdebmaaG14
import Derived.Test.YtpggbianhdebmaaG15
import Derived.WalkKit
import Derived.WalkSpells
import Derived.WalkLawsBesides
import Derived.Lib.Hide
import Derived.BigQuiet
import Derived.StillTailTactics
import Derived.Deep.RegionHeld3
import Derived.Deep.AppendLies
import Derived.Laws.CopyOwn
import Derived.Deep.DeepCutAuto
import Derived.Deep.QuietTactic
import Derived.Maps.AppendAt
import Derived.Great.BuildSlice
import Derived.Laws.StructEq
import Derived.ChangeKeysEq
import Derived.IntWalk
import Derived.Lib.AppendZeros
import Derived.Lib.AppendZerosOnto
import Derived.ProofKit
import Derived.OpenShut
import Derived.SizedLaws
import Derived.Deep.Slices
namespace Go.Proofs.Ytpggbianhdebmaa
open Go.RowKit
set_option linter.unusedVariables false
set_option linter.unusedSimpArgs false
section
variable {P : Program} {T : Tab} {w : World} {O : Objs} {m : Hands} {n : Nat}
def cutO (n0 : Nat) (O : Objs) : Objs := fun i => if i < n0 then O i else none
theorem owns_cut {n0 b : Nat} (h : owns (cutO n0 O) m b) : owns O m b := by
  obtain ⟨i, o, h1, h2⟩ := h
  unfold cutO at h1
  split at h1
  · exact ⟨i, o, h1, h2⟩
  · cases h1
theorem owns_less {n0 : Nat} {O2 : Objs} (h2 : ∀ i, i < n0 → O2 i = O i) (h3 : ∀ i, n0 ≤ i → O2 i = none) {b : Nat} (h : owns O2 m b) : owns O m b := by
  obtain ⟨i, o, q1, q2⟩ := h
  refine ⟨i, o, ?_, q2⟩
  rcases Nat.lt_or_ge i n0 with h | h
  · rw [← h2 i h]; exact q1
  · rw [h3 i h] at q1; cases q1
mutual
def G.under (k : Nat) : G → Bool
  | .any | .val _ => true
  | .agg cs => G.unders k cs
  | .tup cs => G.unders k cs
  | .fn _ _ cs => G.unders k cs
  | .sl _ cs => G.unders k cs
  | .ip cs _ => G.unders k cs
  | .row i _ => decide (i < k)
  | .rs i _ _ => decide (i < k)
  | .rp i _ _ => decide (i < k)
  | .rl i _ _ _ => decide (i < k)
  | .ref i _ => decide (i < k)
  | .when b g => !b || g.under k
def G.unders (k : Nat) : List G → Bool
  | [] => true
  | g :: gs => g.under k && G.unders k gs
end
mutual
theorem under_of : ∀ (g : G) (v : Value), g.rep w O m n v → g.under n = true
  | .any, _, _ => rfl
  | .val _, _, _ => rfl
  | .agg cs, v, h => by simp only [G.rep] at h; obtain ⟨vs, _, hr⟩ := h; exact unders_of cs _ hr
  | .tup cs, v, h => by simp only [G.rep] at h; obtain ⟨vs, _, hr⟩ := h; exact unders_of cs _ hr
  | .fn f k cs, v, h => by simp only [G.rep] at h; obtain ⟨vs, _, hr⟩ := h; exact unders_of cs _ hr
  | .sl k cs, v, h => by simp only [G.rep] at h; obtain ⟨_, _, _, _, vs, hr, _⟩ := h; exact unders_of cs _ hr
  | .ip cs k, v, h => by simp only [G.rep] at h; obtain ⟨_, _, _, _, _, vs, hr, _⟩ := h; exact unders_of cs _ hr
  | .row i k, v, h => by simp only [G.rep] at h; simp [G.under, h.1]
  | .rs i off k, v, h => by simp only [G.rep] at h; simp [G.under, h.1]
  | .rp i k off, v, h => by simp only [G.rep] at h; simp [G.under, h.1]
  | .rl i k off len, v, h => by simp only [G.rep] at h; simp [G.under, h.1]
  | .ref i off, v, h => by simp only [G.rep] at h; simp [G.under, h.1]
  | .when b g, v, h => by
    simp only [G.rep] at h
    cases b with
    | false => rfl
    | true => simpa [G.under] using under_of g v (h.1 rfl)
theorem unders_of : ∀ (gs : List G) (vs : List Value), G.reps w O m n gs vs → G.unders n gs = true
  | [], _, _ => rfl
  | g :: gs, vs, h => by
    simp only [G.reps] at h
    obtain ⟨u, us, _, h1, h2⟩ := h
    simp [G.unders, under_of g u h1, unders_of gs us h2]
end
mutual
theorem rep_cut {n0 : Nat} {O2 : Objs} (h2 : ∀ i, i < n0 → O2 i = O i) (h3 : ∀ i, n0 ≤ i → O2 i = none) : ∀ (g : G) (v : Value), g.rep w O m n v → g.under n0 = true → g.rep w O2 m n0 v
  | .any, _, _, _ => by simp [G.rep]
  | .val _, _, h, _ => by simpa [G.rep] using h
  | .agg cs, v, h, hu => by simp only [G.rep] at h ⊢; obtain ⟨vs, e, hr⟩ := h; exact ⟨vs, e, reps_cut h2 h3 cs _ hr hu⟩
  | .tup cs, v, h, hu => by simp only [G.rep] at h ⊢; obtain ⟨vs, e, hr⟩ := h; exact ⟨vs, e, reps_cut h2 h3 cs _ hr hu⟩
  | .fn f k cs, v, h, hu => by simp only [G.rep] at h ⊢; obtain ⟨vs, e, hr⟩ := h; exact ⟨vs, e, reps_cut h2 h3 cs _ hr hu⟩
  | .sl k cs, v, h, hu => by
    simp only [G.rep] at h ⊢
    obtain ⟨A, c, e, hc, vs, hr, ha⟩ := h
    refine ⟨A, c, e, hc, vs, reps_cut h2 h3 cs _ hr hu, fun hk => ?_⟩
    obtain ⟨g, off, e1, e2, e3, e4⟩ := ha hk
    exact ⟨g, off, e1, e2, fun q => e3 (owns_less h2 h3 q), e4⟩
  | .ip cs k, v, h, hu => by
    simp only [G.rep] at h ⊢
    obtain ⟨g, off, e, e2, e3, vs, hr, hc⟩ := h
    exact ⟨g, off, e, e2, fun q => e3 (owns_less h2 h3 q), vs, reps_cut h2 h3 cs _ hr hu, hc⟩
  | .row i k, v, h, hu => by
    have hi : i < n0 := by simpa [G.under] using hu
    simp only [G.rep] at h ⊢
    exact ⟨hi, h.2.1, fun o ho => h.2.2 o (by rw [← h2 i hi]; exact ho)⟩
  | .rs i off k, v, h, hu => by
    have hi : i < n0 := by simpa [G.under] using hu
    simp only [G.rep] at h ⊢
    exact ⟨hi, h.2.1, fun o ho => h.2.2 o (by rw [← h2 i hi]; exact ho)⟩
  | .rp i k off, v, h, hu => by
    have hi : i < n0 := by simpa [G.under] using hu
    simp only [G.rep] at h ⊢
    exact ⟨hi, h.2.1, fun o ho => h.2.2 o (by rw [← h2 i hi]; exact ho)⟩
  | .rl i k off len, v, h, hu => by
    have hi : i < n0 := by simpa [G.under] using hu
    simp only [G.rep] at h ⊢
    exact ⟨hi, h.2.1, fun o ho => h.2.2 o (by rw [← h2 i hi]; exact ho)⟩
  | .ref i off, v, h, hu => by
    have hi : i < n0 := by simpa [G.under] using hu
    simp only [G.rep] at h ⊢
    exact ⟨hi, h.2.1, fun o ho => h.2.2 o (by rw [← h2 i hi]; exact ho)⟩
  | .when b g, v, h, hu => by
    simp only [G.rep] at h ⊢
    exact ⟨fun hb => rep_cut h2 h3 g v (h.1 hb) (by subst hb; simpa [G.under] using hu), h.2⟩
theorem reps_cut {n0 : Nat} {O2 : Objs} (h2 : ∀ i, i < n0 → O2 i = O i) (h3 : ∀ i, n0 ≤ i → O2 i = none) : ∀ (gs : List G) (vs : List Value), G.reps w O m n gs vs → G.unders n0 gs = true → G.reps w O2 m n0 gs vs
  | [], _, h, _ => by simpa [G.reps] using h
  | g :: gs, vs, h, hu => by
    simp only [G.unders, Bool.and_eq_true] at hu
    simp only [G.reps] at h ⊢
    obtain ⟨u, us, e, k1, k2⟩ := h
    exact ⟨u, us, e, rep_cut h2 h3 g u k1 hu.1, reps_cut h2 h3 gs us k2 hu.2⟩
end
/-- what is handed back, the call's own rows being let go -/
def G.frz (O : Objs) (n0 : Nat) : Nat → G → G
  | 0, _ => .any
  | d + 1, g => match g with
    | .any => .any
    | .val v => .val v
    | .agg cs => .agg (cs.map (G.frz O n0 d))
    | .tup cs => .tup (cs.map (G.frz O n0 d))
    | .fn f k cs => .fn f k (cs.map (G.frz O n0 d))
    | .sl k cs => .sl k (cs.map (G.frz O n0 d))
    | .ip cs k => .ip (cs.map (G.frz O n0 d)) k
    | .row i k => if i < n0 then .row i k else match O i with
      | some o => if o.row = true ∧ k = o.n then .sl k (o.cells.map (G.frz O n0 d)) else .any
      | none => .any
    | .rs i off k => if i < n0 then .rs i off k else .any
    | .rp i k off => if i < n0 then .rp i k off else .any
    | .rl i k off len => if i < n0 then .rl i k off len else .any
    | .ref i off => if i < n0 then .ref i off else .any
    | .when _ _ => .any
theorem rep_frz (hM : Mem w O m n) {n0 : Nat} {O2 : Objs} (h2 : ∀ i, i < n0 → O2 i = O i) (h3 : ∀ i, n0 ≤ i → O2 i = none) : ∀ (d : Nat) (g : G) (v : Value), g.rep w O m n v → (G.frz O n0 d g).rep w O2 m n0 v
  | 0, g, v, h => by simp [G.frz, G.rep]
  | d + 1, g, v, h => by
    have ih : ∀ (gs : List G) (vs : List Value), G.reps w O m n gs vs → G.reps w O2 m n0 (gs.map (G.frz O n0 d)) vs := fun gs => by
      induction gs with
      | nil => intro vs h; simpa [G.reps] using h
      | cons g gs ihg =>
        intro vs h
        simp only [G.reps, List.map_cons] at h ⊢
        obtain ⟨u, us, e, k1, k2⟩ := h
        exact ⟨u, us, e, rep_frz hM h2 h3 d g u k1, ihg us k2⟩
    have own2 : ∀ b, owns O2 m b → owns O m b := fun b q => owns_less h2 h3 q
    cases g with
    | any => simp [G.frz, G.rep]
    | val u => simpa [G.frz, G.rep] using h
    | agg cs => simp only [G.frz, G.rep] at h ⊢; obtain ⟨vs, e, hr⟩ := h; exact ⟨vs, e, ih _ _ hr⟩
    | tup cs => simp only [G.frz, G.rep] at h ⊢; obtain ⟨vs, e, hr⟩ := h; exact ⟨vs, e, ih _ _ hr⟩
    | fn f k cs => simp only [G.frz, G.rep] at h ⊢; obtain ⟨vs, e, hr⟩ := h; exact ⟨vs, e, ih _ _ hr⟩
    | sl k cs =>
      simp only [G.frz, G.rep] at h ⊢
      obtain ⟨A, c, e, hc, vs, hr, ha⟩ := h
      refine ⟨A, c, e, hc, vs, ih _ _ hr, fun hk => ?_⟩
      obtain ⟨b, off, e1, e2, e3, e4⟩ := ha hk
      exact ⟨b, off, e1, e2, fun q => e3 (own2 _ q), e4⟩
    | ip cs k =>
      simp only [G.frz, G.rep] at h ⊢
      obtain ⟨b, off, e, e2, e3, vs, hr, hc⟩ := h
      exact ⟨b, off, e, e2, fun q => e3 (own2 _ q), vs, ih _ _ hr, hc⟩
    | row i k =>
      simp only [G.frz]
      split
      · rename_i hi; exact rep_cut h2 h3 (.row i k) v h (by simp [G.under, hi])
      · rename_i hi
        split
        · rename_i o ho
          split
          · rename_i hc
            simp only [G.rep] at h
            have hv := (h.2.2 o ho).2 hc.2 hc.1
            obtain ⟨vs, hr, hy⟩ := hM.obj i o ho
            rw [if_pos hc.1] at hy
            simp only [G.rep]
            rcases hy.2 with ⟨e1, e2⟩ | ⟨b, cap, cur, e1, _, hh, a1, a2, a3, a4⟩
            · rw [e1] at hv
              refine ⟨none, 0, by rw [← hv]; congr 1; omega, by omega, vs, ih _ _ hr, fun hk => by omega⟩
            · rw [e1] at hv
              refine ⟨_, cap, by rw [← hv, hc.2], by omega, vs, ih _ _ hr, fun _ => ⟨b, 0, rfl, blk_lt' hh, fun ⟨j, oj, q1, q2⟩ => ?_, fun j u hu => ?_⟩⟩
              · have hj : j < n0 := by
                  rcases Nat.lt_or_ge j n0 with h | h
                  · exact h
                  · rw [h3 j h] at q1; cases q1
                have := hM.apart j i oj o b (by rw [← h2 j hj]; exact q1) ho q2 (by rw [e1]; rfl)
                omega
              · rw [Nat.zero_add, cell_of_row w b j _ _ (0, 0) hh]
                rw [← a4, List.getElem?_take] at hu
                split at hu
                · rw [Array.getElem?_toList] at hu; exact hu
                · cases hu
          · simp [G.rep]
        · simp [G.rep]
    | rs i off k =>
      simp only [G.frz]
      split
      · rename_i hi; exact rep_cut h2 h3 (.rs i off k) v h (by simp [G.under, hi])
      · simp [G.rep]
    | rp i k off =>
      simp only [G.frz]
      split
      · rename_i hi; exact rep_cut h2 h3 (.rp i k off) v h (by simp [G.under, hi])
      · simp [G.rep]
    | rl i k off len =>
      simp only [G.frz]
      split
      · rename_i hi; exact rep_cut h2 h3 (.rl i k off len) v h (by simp [G.under, hi])
      · simp [G.rep]
    | ref i off =>
      simp only [G.frz]
      split
      · rename_i hi; exact rep_cut h2 h3 (.ref i off) v h (by simp [G.under, hi])
      · simp [G.rep]
    | when b g => simp [G.frz, G.rep]
def gres (T : Tab) (O : Objs) (E : Env) : List ResultVar → Option (List G)
  | [] => some []
  | .tmp t :: l => (gres T O E l).map fun r => look E.l t :: r
  | .cell a t :: l => match gload T O t (look E.l a) with
    | some g => (gres T O E l).map fun r => g :: r
    | none => none
def gone : List G → G
  | [g] => g
  | gs => .tup gs
/-- the end of a call: all that it leaves is told; or its own objects are let go -/
def gend (O0 : Objs) (n0 : Nat) (g : G) (O' : Objs) (n' : Nat) (Post : G → Objs → Nat → Prop) : Prop :=
  Post g O' n' ∨ ∃ d O2, (∀ i, i < n0 → O2 i = O' i) ∧ (∀ i, n0 ≤ i → O2 i = none) ∧ (∀ i o, i < n0 → O' i = some o → O0 i = some o ∨ G.unders n0 o.cells = true) ∧ Post (G.frz O' n0 d g) O2 n0
def gbody (T : Tab) (rs : List ResultVar) (O0 : Objs) (n0 : Nat) (Post : G → Objs → Nat → Prop) : GQ := fun e E' O' n' => match e with
  | .normal | .ret => match gres T O' E' rs with
    | some gs => gend O0 n0 (gone gs) O' n' Post
    | none => False
  | _ => False
def resv (tmps : Array Value) : ResultVar → Sem Value
  | .tmp t => pure (tmps.getD t undef)
  | .cell a t => do loadVar t (← asAddr (tmps.getD a undef))
theorem gres_sound (hT : TabOk P T) (hM : Mem w O m n) {E : Env} {a : Act} (hE : Holds w O m n E a) : ∀ (rs : List ResultVar) (gs : List G), gres T O E rs = some gs →
    ∃ vs : List Value, (rs.mapM (resv a.tmps)).run P w = .ok vs w ∧ G.reps w O m n gs vs
  | [], gs, h => by simp only [gres, Option.some.injEq] at h; subst h; exact ⟨[], by simp, rfl⟩
  | .tmp t :: l, gs, h => by
    simp only [gres] at h
    cases hq : gres T O E l with
    | none => simp [hq] at h
    | some r =>
      simp only [hq, Option.map_some, Option.some.injEq] at h
      subst h
      obtain ⟨vs, h1, h2⟩ := gres_sound hT hM hE l r hq
      refine ⟨a.tmps.getD t undef :: vs, ?_, ⟨_, _, rfl, hE.ev (.tmp t), h2⟩⟩
      rw [List.mapM_cons]
      simp only [resv, Sem.run_bind, Sem.run_pure, Result.andThen_ok, h1]
  | .cell b t :: l, gs, h => by
    simp only [gres] at h
    split at h
    · rename_i g hg
      cases hq : gres T O E l with
      | none => simp [hq] at h
      | some r =>
        simp only [hq, Option.map_some, Option.some.injEq] at h
        subst h
        obtain ⟨vs, h1, h2⟩ := gres_sound hT hM hE l r hq
        have hb : (look E.l b).rep w O m n (a.tmps.getD b undef) := hE.ev (.tmp b)
        obtain ⟨u, hu, hgu⟩ := gload_sound hT hM hb hg
        refine ⟨u :: vs, ?_, ⟨_, _, rfl, hgu, h2⟩⟩
        have hrun : (do loadVar t (← asAddr (a.tmps.getD b undef)) : Sem Value).run P w = .ok u w := by
          unfold gload at hg
          split at hg
          · rename_i cs off hc
            obtain ⟨x, o, ws, e, _⟩ := gcells_sound hM hb hc
            rw [e] at hu ⊢
            simpa [Instr.loadAt, Instr.sureAddr, asAddr] using hu
          · cases hg
        rw [List.mapM_cons, Sem.run_bind]
        have hrun' : (resv a.tmps (.cell b t)).run P w = .ok u w := hrun
        rw [hrun']
        simp only [Result.andThen_ok, h1, Sem.run_bind, Sem.run_pure]
    · cases h
theorem results_sound (hT : TabOk P T) (hM : Mem w O m n) {E : Env} {a : Act} (hE : Holds w O m n E a) {fn : Func} {gs : List G} (h : gres T O E fn.results.toList = some gs) : ∃ v, (results fn a.tmps).run P w = .ok v w ∧ (gone gs).rep w O m n v := by
  obtain ⟨vs, h1, h2⟩ := gres_sound hT hM hE _ _ h
  have hl := reps_len _ _ h2
  have hrun : (results fn a.tmps).run P w = .ok (if h : vs.toArray.size = 1 then vs.toArray[0] else .tuple vs.toArray) w := by
    have e : results fn a.tmps = (do let vs ← fn.results.mapM (resv a.tmps); pure (if h : vs.size = 1 then vs[0] else .tuple vs)) := by
      unfold results
      congr 1
    rw [e, ← Array.toArray_toList (xs := fn.results), List.mapM_toArray]
    simp only [Sem.run_bind, Sem.run_map, h1, Result.andThen_ok, Sem.run_pure]
  refine ⟨_, hrun, ?_⟩
  match gs, vs, h2, hl with
  | [], [], h2, _ => simp [gone, G.rep, G.reps]
  | [g], [v], h2, _ =>
    simp only [G.reps] at h2
    obtain ⟨u, us, e, h3, rfl⟩ := h2
    injection e with e1 e2
    subst e1
    simpa [gone] using h3
  | g1 :: g2 :: gs, v1 :: v2 :: vs, h2, _ =>
    have : ¬ (v1 :: v2 :: vs).toArray.size = 1 := by simp
    rw [dif_neg this]
    simp only [gone, G.rep]
    exact ⟨_, rfl, by simpa using h2⟩
  | [], _ :: _, _, hl => simp at hl
  | _ :: _, [], _, hl => simp at hl
  | [_], _ :: _ :: _, _, hl => simp at hl
  | _ :: _ :: _, [_], _, hl => simp at hl
/-- the arguments, slot by slot -/
def genv (k : Nat) : List G → List (Nat × G)
  | [] => []
  | g :: gs => (k, g) :: genv (k + 1) gs
/-- a function's contract, out of its text -/
theorem gcalls_of (hT : TabOk P T) {D : Array Oper → Env → Objs → Nat → GK → Prop} (hD : DOk P D) {f : FuncId} {fn : Func} {c : Code} (hc : ∀ args w, (callFunc f args).run P w = .ok (.enter f args) w) (hf : P.funcs[f]? = some fn) (hb : fn.body = some c)
    {gs : List G} {Post : G → Objs → Nat → Prop} (hn : gs.length ≤ fn.ntmps) (keep : List Nat) (h : (∀ i, n ≤ i → O i = none) → gwp P T D c (gbody T fn.results.toList O n Post) ⟨fn.ntmps, keep, genv 0 gs⟩ O n) : GCalls P f gs O n Post := by
  refine ⟨hc, fun w m vs hM hr => ?_⟩
  have hl := reps_len _ _ hr
  have h := h hM.fresh
  refine calls_of_wp hf hb (wp_mono (gwp_sound hT hD c _ w O m n _ { tmps := vs.toArray ++ Array.replicate (fn.ntmps - vs.toArray.size) undef, defers := [] } hM ?_ h) fun e a' w' ⟨E', O', n', m', h1, h2, h3, h4⟩ => ?_)
  · have hv : ∀ (gs : List G) (vs : List Value) (k : Nat), G.reps w O m n gs vs → ∀ t, (k ≤ t → ∀ v, vs[t - k]? = some v → (look (genv k gs) t).rep w O m n v) ∧ (t < k ∨ k + gs.length ≤ t → look (genv k gs) t = .any) := fun gs => by
      induction gs with
      | nil =>
        intro vs k hr t
        simp only [G.reps] at hr
        subst hr
        exact ⟨fun _ v hv => by simp at hv, fun _ => rfl⟩
      | cons g gs ih =>
        intro vs k hr t
        simp only [G.reps] at hr
        obtain ⟨u, us, rfl, h1, h2⟩ := hr
        have := ih us (k + 1) h2 t
        simp only [genv, look]
        refine ⟨fun hk v hv => ?_, fun ht => ?_⟩
        · by_cases e : t = k
          · subst e
            rw [if_pos rfl]
            simp at hv
            subst hv
            exact h1
          · rw [if_neg e]
            refine this.1 (by omega) v ?_
            have : t - k = t - (k + 1) + 1 := by omega
            rw [this] at hv
            simpa using hv
        · have e : ¬ t = k := by simp at ht; omega
          rw [if_neg e]
          exact this.2 (by simp at ht; omega)
    have hq := hv gs vs 0 hr
    have hsz : (vs.toArray ++ Array.replicate (fn.ntmps - vs.toArray.size) undef).size = fn.ntmps := by simp; omega
    refine ⟨hsz, fun t v hv => ?_, fun t ht => (hq t).2 (.inr (by simp only at ht; omega)), rfl⟩
    rcases Nat.lt_or_ge t vs.length with ht | ht
    · refine (hq t).1 (Nat.zero_le _) v ?_
      have : (vs.toArray ++ Array.replicate (fn.ntmps - vs.toArray.size) undef)[t]? = vs[t]? := by
        rw [Array.getElem?_append_left (by simpa using ht)]; simp
      rw [Nat.sub_zero, ← this]; exact hv
    · rw [(hq t).2 (.inr (by omega))]
      simp [G.rep]
  · have fin : (∃ gs, gres T O' E' fn.results.toList = some gs ∧ gend O n (gone gs) O' n' Post) → a'.defers = [] ∧ ∃ v, (results fn a'.tmps).run P w' = .ok v w' ∧ ∃ v_1 g O' n' m', Ending.returned v = .returned v_1 ∧ Mem w' O' m' n' ∧ Ext w O m n w' O' m' n' ∧ G.rep w' O' m' n' g v_1 ∧ Post g O' n' := fun ⟨gs, hg, hend⟩ => by
      obtain ⟨v, hv, hrep⟩ := results_sound hT h2 h3 hg
      refine ⟨h3.defers, v, hv, ?_⟩
      rcases hend with hp | ⟨d, O2, c1, c2, c3, hp⟩
      · exact ⟨v, _, O', n', m', rfl, h2, h4, hrep, hp⟩
      · have hX : Ext w O m n w' O2 m' n := by
          refine ⟨h4.os, h4.tape, h4.output, h4.size, Nat.le_refl _, fun b hb ho => ⟨(h4.keep b hb ho).1, fun ⟨i, o, q1, q2⟩ => (h4.keep b hb ho).2 ⟨i, o, ?_, q2⟩⟩, fun i hi o' ho' => h4.stay i hi o' (by rw [← c1 i hi]; exact ho')⟩
          rcases Nat.lt_or_ge i n with h | h
          · rw [← c1 i h]; exact q1
          · rw [c2 i h] at q1; cases q1
        refine ⟨v, _, O2, n, m', rfl, ?_, hX, rep_frz h2 c1 c2 d _ _ hrep, hp⟩
        refine Mem.less h2 O2 n (fun i => ?_) c2 fun i o hi us hus => ?_
        · rcases Nat.lt_or_ge i n with h | h
          · exact .inl (c1 i h)
          · exact .inr (c2 i h)
        · have hin : i < n := by
            rcases Nat.lt_or_ge i n with h | h
            · exact h
            · rw [c2 i h] at hi; cases hi
          have hi' : O' i = some o := by rw [← c1 i hin]; exact hi
          refine reps_cut c1 c2 _ _ hus ?_
          rcases c3 i o hin hi' with h | h
          · obtain ⟨xs, hxs, _⟩ := hM.obj i o h
            exact unders_of _ _ hxs
          · exact h
    cases e with
    | normal =>
      simp only [gbody] at h1
      split at h1
      · rename_i gs' hg; exact fin ⟨gs', hg, h1⟩
      · exact h1.elim
    | ret =>
      simp only [gbody] at h1
      split at h1
      · rename_i gs' hg; exact fin ⟨gs', hg, h1⟩
      · exact h1.elim
    | exit id => exact h1.elim
    | goto l => exact h1.elim
    | panic ch => exact h1.elim
    | outgrown => exact h1.elim
end

end Go.Proofs.Ytpggbianhdebmaa
