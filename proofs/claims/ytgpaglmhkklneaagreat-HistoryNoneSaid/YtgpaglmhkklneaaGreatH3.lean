/- Part H3 of the ghost memory: lemmas and contracts used by the proofs of this seat's laws; each theorem bears its own conditions. -/
import Derived.Test.YtgpaglmhkklneaaGreatH2
import Derived.WalkKit
import Derived.WalkSpells
import Derived.WalkLawsBesides
import Derived.Lib.Hide
import Derived.BigQuiet
import Derived.StillTailTactics
import Derived.Deep.RegionHeld3
import Derived.Deep.AppendLies
import Derived.Laws.CopyOwn
import Derived.Deep.DeepCutAuto
import Derived.Deep.QuietTactic
import Derived.Maps.AppendAt
import Derived.Great.BuildSlice
import Derived.Laws.StructEq
import Derived.ChangeKeysEq
import Derived.IntWalk
import Derived.Lib.AppendZeros
import Derived.Lib.AppendZerosOnto
import Derived.ProofKit
import Derived.OpenShut
import Derived.SizedLaws
import Derived.Deep.Slices
namespace Go.Proofs.YtgpaglmhkklneaaGreat
open Go.RowKit
set_option linter.unusedVariables false
set_option linter.unusedSimpArgs false
section
variable {P : Program} {T : K3} {w w' : World} {O O' X X' : Objs} {m m' : Hands} {n n' : Nat} {f : FuncId} {gs : List G} {K : G → Objs → Nat → Prop}
def GTo (P : Program) (f : FuncId) (gs : List G) (O : Objs) (n : Nat) (r : G) (O2 : Objs) (n2 : Nat) : Prop := GCalls P f gs O n fun g O' n' => g = r ∧ O' = O2 ∧ n' = n2
theorem GTo.then {r : G} {O2 : Objs} {n2 : Nat} (h : GTo P f gs O n r O2 n2) (hk : K r O2 n2) : GCalls P f gs O n K :=
 GCalls.mono h fun g O' n' ⟨a, b, c⟩ => by subst a b c; exact hk
theorem GTo.pure {r : G} (h : GTo P f gs O n r O n) : GPure P f gs O n r := h
theorem Zu9 (hM : Mem w O m n) (t : TypeId) (sz : Nat) :
  Mem w (O.upd n (some ⟨true, t, sz, 0, []⟩)) (m.upd n (.slice none 0 0)) (n + 1) ∧ Ext w O m n w (O.upd n (some ⟨true, t, sz, 0, []⟩)) (m.upd n (.slice none 0 0)) (n + 1) := by
 have hh : ∀ b, Gk (.slice none 0 0) = some b → b < w.heap.size → n < n ∧ Gk (m n) = some b := fun b hb => by simp [Gk] at hb
 have hE : Ext w O m n w (O.upd n (some ⟨true, t, sz, 0, []⟩)) (m.upd n (.slice none 0 0)) (n + 1) :=
  Ext.upd (w' := w) hM n ⟨true, t, sz, 0, []⟩ (.slice none 0 0) (Nat.le_refl _) (fun h => absurd h (Nat.lt_irrefl _)) rfl rfl rfl (Nat.le_refl _) (fun _ _ _ => rfl) hh (n + 1) (Nat.le_succ _)
 refine ⟨Mem.upd hM n _ _ (Nat.le_refl _) (fun h => absurd h (Nat.lt_irrefl _)) (fun _ _ _ => rfl) hh _ (by omega) (by omega) hE ?_, hE⟩
 refine ⟨[], rfl, ?_⟩
 simp only [if_true]
 exact ⟨by simp, .inl ⟨rfl, rfl⟩⟩
theorem Zva (t : TypeId) (sz : Nat) : (G.row n 0).rep w (O.upd n (some ⟨true, t, sz, 0, []⟩)) (m.upd n (.slice none 0 0)) (n + 1) (.slice none 0 0) :=
 Ze3 _ _ _ _ _ _ _ _ _ ⟨_, _, rfl⟩
theorem Zpe {E : Env} {ba : Nat} (s : Tmp) (t : TypeId) (sz : Nat) (hs : Ki E.l s = .val (.slice none 0 0)) (hb : ba ≤ n) : Fit2 ba E O n ⟨E.n, E.keep, (s, .row n 0) :: E.l⟩ (O.upd n (some ⟨true, t, sz, 0, []⟩)) (n + 1) := fun w m a hM hE => by
 obtain ⟨h1, h2⟩ := Zu9 hM t sz
 refine ⟨_, h1, ⟨hE.size, fun t' v hv => ?_, fun t' ht => ?_, hE.defers⟩, h2.base hb⟩
 ·simp only [Ki]
  split
  ·rename_i e
   subst e
   have := hE.at_ t' v hv
   rw [hs] at this
   simp only [G.rep] at this
   subst this
   exact Zva t sz
  exact G.rep_ext h2 _ _ (hE.at_ t' v hv)
 simp only [Ki]
 split
 ·rename_i e
  subst e
  have := hE.out t' ht
  rw [hs] at this; cases this
 exact hE.out t' ht
def Fin (T : K3) (rs : List ResultVar) (r : G) (ba : Nat) (O2 : Objs) (n2 : Nat) : GQ := fun e E' O' n' => (e = .normal ∨ e = .ret) ∧ ∃ E2 O3 n3 gs, Fit2 ba E' O' n' E2 O3 n3 ∧ Zlc T O3 E2 rs = some gs ∧ LessO O3 O2 n2 ∧ wk O3 O2 n2 (gone gs) r
theorem Zez (hT : Jd P T) {fn : Func} {c : Code} (hc : ∀ args w, (callFunc f args).run P w = .ok (.enter f args) w) (hf : P.funcs[f]? = some fn) (hb : fn.body = some c)
  {r : G} {O2 : Objs} {n2 : Nat} (hn : gs.length ≤ fn.ntmps) (h2 : n ≤ n2) (h : Und O n → W P n c (Fin T fn.results.toList r n O2 n2) ⟨fn.ntmps, [], Zaa 0 gs⟩ (Zy O n []) n) : GTo P f gs O n r O2 n2 := by
 refine ⟨hc, fun w m vs hM hr => ?_⟩
 have hl := Jx _ _ hr
 have hU : Und O n := ⟨hM.fresh, fun i o hi => by obtain ⟨vs, hv, _⟩ := hM.obj i o hi; exact Zaj _ _ hv⟩
 have h := h hU
 rw [Z8q hM.fresh] at h
 refine calls_of_wp hf hb (wp_mono (h (Nat.le_refl _) w m { tmps := vs.toArray ++ Array.replicate (fn.ntmps - vs.toArray.size) undef, defers := [] } hM ?_) fun e a' w' ⟨E', O', n', m', h1, h2', h3, h4⟩ => ?_)
 ·have hv : ∀ (gs : List G) (vs : List Value) (k : Nat), G.reps w O m n gs vs → ∀ t, (k ≤ t → ∀ v, vs[t - k]? = some v → (Ki (Zaa k gs) t).rep w O m n v) ∧ (t < k ∨ k + gs.length ≤ t → Ki (Zaa k gs) t = .any) := fun gs => by
   induction gs with
   | nil =>
    intro vs k hr t
    simp only [G.reps] at hr
    subst hr
    exact ⟨fun _ v hv => by simp at hv, fun _ => rfl⟩
   | cons g gs ih =>
    intro vs k hr t
    simp only [G.reps] at hr
    obtain ⟨u, us, rfl, h1, h2⟩ := hr
    have := ih us (k + 1) h2 t
    simp only [Zaa, Ki]
    refine ⟨fun hk v hv => ?_, fun ht => ?_⟩
    ·by_cases e : t = k
     ·subst e
      rw [if_pos rfl]
      simp at hv
      subst hv
      exact h1
     rw [if_neg e]
     refine this.1 (by omega) v ?_
     have : t - k = t - (k + 1) + 1 := by omega
     rw [this] at hv
     simpa using hv
    have e : ¬ t = k := by simp at ht; omega
    rw [if_neg e]
    exact this.2 (by simp at ht; omega)
  have hq := hv gs vs 0 hr
  have hsz : (vs.toArray ++ Array.replicate (fn.ntmps - vs.toArray.size) undef).size = fn.ntmps := by simp; omega
  refine ⟨hsz, fun t v hv => ?_, fun t ht => (hq t).2 (.inr (by simp only at ht; omega)), rfl⟩
  rcases Nat.lt_or_ge t vs.length with ht | ht
  ·refine (hq t).1 (Nat.zero_le _) v ?_
   have : (vs.toArray ++ Array.replicate (fn.ntmps - vs.toArray.size) undef)[t]? = vs[t]? := by
    rw [Array.getElem?_append_left (by simpa using ht)]; simp
   rw [Nat.sub_zero, ← this]; exact hv
  rw [(hq t).2 (.inr (by omega))]
  simp [G.rep]
 obtain ⟨he, E2, O3, n3, gs', hF2, hg, hL, hwk⟩ := h1
 obtain ⟨m3, h2', h3, hX3⟩ := hF2 w' m' a' h2' h3
 have h4 := h4.transB hX3
 obtain ⟨v, hv, hrep⟩ := Zu5 hT h2' h3 hg
 have fin : a'.defers = [] ∧ ∃ v, (results fn a'.tmps).run P w' = .ok v w' ∧ ∃ v_1 g O' n' m', Ending.returned v = .returned v_1 ∧ Mem w' O' m' n' ∧ Ext w O m n w' O' m' n' ∧ G.rep w' O' m' n' g v_1 ∧ (g = r ∧ O' = O2 ∧ n' = n2) :=
  ⟨h3.defers, v, hv, v, r, O2, n2, m3, rfl, h2'.weak hL, h4.weak hL h2, Zur h2' hL _ _ hrep _ hwk, rfl, rfl, rfl⟩
 rcases he with rfl | rfl <;> exact fin
theorem fn0 (hT : Jd P T) {fn : Func} {c : Code} (hc : ∀ args w, (callFunc f args).run P w = .ok (.enter f args) w) (hf : P.funcs[f]? = some fn) (hb : fn.body = some c)
  {r : G} {O2 : Objs} (h : Und O n → O n = none → (∀ k, O (n + k) = none) → W P n c (Fin T fn.results.toList r n O2 n) ⟨fn.ntmps, [], Zaa 0 gs⟩ (Zy O n []) n) (hn : gs.length ≤ fn.ntmps := by exact Nat.le_of_ble_eq_true rfl) : GTo P f gs O n r O2 n := Zez hT hc hf hb hn (Nat.le_refl _) fun hU => h hU (hU.fresh _ (Nat.le_refl _)) fun k => hU.fresh _ (Nat.le_add_right _ _)
theorem sI {α : Type} {a b : α} (h : some a = some b) : a = b := Option.some.inj h
end
section
variable {P : Program} {T : K3} {O O' X X' : Objs} {n n' n0 ba : Nat} {E E' : Env} {Q : GQ} {c x y : Code}
def JN (ba : Nat) (E' : Env) (O' : Objs) (n0 : Nat) : GQ := fun e E O n => e = .normal ∧ Fit2 ba E O n E' O' n0
def JX (id : Nat) (ba : Nat) (E' : Env) (O' : Objs) (n0 : Nat) : GQ := fun e E O n => e = .exit id ∧ Fit2 ba E O n E' O' n0
def JR (ba : Nat) (E' : Env) (O' : Objs) (n0 : Nat) : GQ := fun e E O n => e = .ret ∧ Fit2 ba E O n E' O' n0
theorem Zw4 {w w2 : World} {m m2 : Hands} {E2 : Env} {O2 : Objs} {n2 : Nat} {a2 : Act} {e : Exit} (hF : Fit2 ba E2 O2 n2 E' O' n0) (h2 : Mem w2 O2 m2 n2) (h3 : Holds w2 O2 m2 n2 E2 a2) (h4 : Ext w O m ba w2 O2 m2 n2) (k : Q e E' O' n0) : lift w O m ba Q e a2 w2 := by
 obtain ⟨m', g1, g2, g3⟩ := hF w2 m2 a2 h2 h3
 exact ⟨E', O', n0, m', k, g1, g2, h4.transB g3⟩
theorem X4 (h : W P ba x (JN ba E' O' n0) E O n) (k : W P ba y Q E' O' n0) : W P ba (.seq x y) Q E O n := fun hb w m a hM hE => by
 refine wp_seq (wp_mono (h hb w m a hM hE) fun e a' w' ⟨E2, O2, n2, m2, ⟨he, hF⟩, h2, h3, h4⟩ => ?_)
 subst he
 obtain ⟨m', g1, g2, g3⟩ := hF w' m2 a' h2 h3
 exact k.then g1 g2 (h4.transB g3)
theorem Yal (h : W P ba x (JR ba E' O' n0) E O n) (k : Q .ret E' O' n0) : W P ba (.seq x y) Q E O n := fun hb w m a hM hE =>
 wp_seq (wp_mono (h hb w m a hM hE) fun e a' w' ⟨E2, O2, n2, m2, ⟨he, hF⟩, h2, h3, h4⟩ => by subst he; exact Zw4 hF h2 h3 h4 k)
theorem Z5c {id : Nat} (h : W P ba x (JX id ba E' O' n0) E O n) (k : Q (.exit id) E' O' n0) : W P ba (.seq x y) Q E O n := fun hb w m a hM hE =>
 wp_seq (wp_mono (h hb w m a hM hE) fun e a' w' ⟨E2, O2, n2, m2, ⟨he, hF⟩, h2, h3, h4⟩ => by subst he; exact Zw4 hF h2 h3 h4 k)
theorem Ybk (h : W P ba x (JR ba E' O' n0) E O n) (k : Q .ret E' O' n0) : W P ba x Q E O n := fun hb w m a hM hE =>
 wp_mono (h hb w m a hM hE) fun e a' w' ⟨E2, O2, n2, m2, ⟨he, hF⟩, h2, h3, h4⟩ => by subst he; exact Zw4 hF h2 h3 h4 k
theorem Ybl {id : Nat} (h : W P ba x (JX id ba E' O' n0) E O n) (k : Q (.exit id) E' O' n0) : W P ba x Q E O n := fun hb w m a hM hE =>
 wp_mono (h hb w m a hM hE) fun e a' w' ⟨E2, O2, n2, m2, ⟨he, hF⟩, h2, h3, h4⟩ => by subst he; exact Zw4 hF h2 h3 h4 k
def Ybi {S R : Type} (ba : Nat) (F : S → Env) (H : S → Objs) (n : Nat) (J : R → GQ) : S ⊕ R → GQ
 | .inl s', e, E, O, n' => e = .normal ∧ Fit2 ba E O n' (F s') (H s') n
 | .inr r', e, E, O, n' => e ≠ .normal ∧ J r' e E O n'
theorem Q4 {S R : Type} {step : S → Option (S ⊕ R)} {r : R} {s0 : S} (hr : Ya step s0 = some r) (F : S → Env) (H : S → Objs) (J : R → GQ)
  (body : ∀ s x, step s = some x → W P ba c (Ybi ba F H n J x) (F s) (H s) n) : W P ba (.loop c) (J r) (F s0) (H s0) n :=
 Yak hr F H fun s x hx hb w m a hM hE => wp_mono (body s x hx hb w m a hM hE) fun e a' w' ⟨E2, O2, n2, m2, h1, h2, h3, h4⟩ => by
  refine ⟨E2, O2, n2, m2, ?_, h2, h3, h4⟩
  cases x with
  | inl s' => exact h1
  | inr r' => exact fun e => by subst e; exact h1
theorem Mem.less_self {w : World} {m : Hands} (hM : Mem w O m n) : LessO O O n := ⟨hM.fresh, fun i o hi => ⟨o, hi, rfl, rfl, rfl, rfl, Zdi _ (by obtain ⟨vs, hv, _⟩ := hM.obj i o hi; exact Zaj _ _ hv)⟩⟩
theorem GCalls.args {f : FuncId} {gs gs' : List G} {K : G → Objs → Nat → Prop} (h : GCalls P f gs' O n K) (hw : Uz O O n gs gs') : GCalls P f gs O n K :=
 ⟨h.1, fun w m vs hM hr => h.2 w m vs hM (Uf hM hM.less_self _ _ hr _ hw)⟩
end
end Go.Proofs.YtgpaglmhkklneaaGreat
