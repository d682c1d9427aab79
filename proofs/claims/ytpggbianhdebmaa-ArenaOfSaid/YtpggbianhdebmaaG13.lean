/- Part G13 of the ghost memory: lemmas and contracts used by the proofs of this seat's laws; each theorem bears its own conditions. -/
import Derived.Test.YtpggbianhdebmaaG1
import Derived.Test.YtpggbianhdebmaaG2
import Derived.Test.YtpggbianhdebmaaG3
import Derived.Test.YtpggbianhdebmaaG4
import Derived.Test.YtpggbianhdebmaaG5
import Derived.Test.YtpggbianhdebmaaG6
import Derived.Test.YtpggbianhdebmaaG7
import Derived.Test.YtpggbianhdebmaaG8
import Derived.Test.YtpggbianhdebmaaG9
import Derived.Test.YtpggbianhdebmaaG10
import Derived.Test.YtpggbianhdebmaaG11
import Derived.Test.YtpggbianhdebmaaG12
import Derived.WalkKit
import Derived.WalkSpells
import Derived.WalkLawsBesides
import Derived.Lib.Hide
import Derived.BigQuiet
import Derived.StillTailTactics
import Derived.Deep.RegionHeld3
import Derived.Deep.AppendLies
import Derived.Laws.CopyOwn
import Derived.Deep.DeepCutAuto
import Derived.Deep.QuietTactic
import Derived.Maps.AppendAt
import Derived.Great.BuildSlice
import Derived.Laws.StructEq
import Derived.ChangeKeysEq
import Derived.IntWalk
import Derived.Lib.AppendZeros
import Derived.Lib.AppendZerosOnto
import Derived.ProofKit
import Derived.OpenShut
import Derived.SizedLaws
import Derived.Deep.Slices
namespace Go.Proofs.Ytpggbianhdebmaa
open Go.RowKit
set_option linter.unusedVariables false
set_option linter.unusedSimpArgs false
section
variable {P : Program} {T : Tab} {w : World} {O : Objs} {m : Hands} {n : Nat}
/-- weaker: what is known there is known here -/
def leL (l : List (Nat × G)) : List (Nat × G) → Prop
  | [] => True
  | (t, g) :: l0 => look l t = g ∧ leL l l0
def leG (E0 E : Env) : Prop := E0.n = E.n ∧ leL E.l E0.l
theorem leL_look : ∀ (l l0 : List (Nat × G)), leL l l0 → ∀ t, look l0 t = .any ∨ look l0 t = look l t
  | l, [], h, t => .inl rfl
  | l, (t', g) :: l0, h, t => by
    simp only [leL] at h
    simp only [look]
    split
    · rename_i e; subst e; exact .inr h.1.symm
    · exact leL_look l l0 h.2 t
theorem Holds.le {E E' : Env} {a : Act} (h : Holds w O m n E' a) (hl : leG E E') : Holds w O m n E a := by
  refine ⟨h.size.trans hl.1.symm, fun t v hv => ?_, fun t ht => ?_, h.defers⟩
  · rcases leL_look _ _ hl.2 t with e | e
    · rw [e]; simp [G.rep]
    · rw [e]; exact h.at_ t v hv
  · rcases leL_look _ _ hl.2 t with e | e
    · exact e
    · rw [e]; exact h.out t (by rw [← hl.1]; exact ht)
theorem Holds.compact {E : Env} {a : Act} (h : Holds w O m n E a) : Holds w O m n E.compact a := by
  unfold Env.compact
  split
  · exact h
  · refine h.le ⟨rfl, ?_⟩
    have hk : ∀ (l : List (Nat × G)) (k : List Nat), leL l (keepL l k) := fun l k => by
      induction k with
      | nil => trivial
      | cons t k ih => exact ⟨rfl, ih⟩
    exact hk _ _
abbrev GK := Env → Objs → Nat → Prop
abbrev GQ := Exit → Env → Objs → Nat → Prop
def gthen (K : GK) (Q : GQ) : GQ
  | .normal, E, O, n => K E O n
  | e, E, O, n => Q e E O n
def gblock (id : Nat) (Q : GQ) : GQ
  | .exit id', E, O, n => if id' = id then Q .normal E O n else Q (.exit id') E O n
  | e, E, O, n => Q e E O n
/-- behind a round: the relation holds again, at a lesser number -/
def again (I : Nat → GK) (k : Nat) (E' : Env) (O' : Objs) (n' : Nat) : Prop := ∃ k' E0, k' < k ∧ I k' E0 O' n' ∧ leG E0 E'
def gloop (body : GQ → GK) (Q : GQ) (E : Env) (O : Objs) (n : Nat) : Prop :=
  ∃ I : Nat → GK, (∃ k E0, I k E0 O n ∧ leG E0 E) ∧ ∀ k E O n, I k E O n → body (gthen (again I k) Q) E O n
/-- a region that draws its order: 'D' says what it does -/
def gwp (P : Program) (T : Tab) (D : Array Oper → Env → Objs → Nat → GK → Prop) : Code → GQ → Env → Objs → Nat → Prop
  | .skip, Q, E, O, n => Q .normal E O n
  | .region _ ops false, Q, E, O, n => gops P T ops.toList ops.toList E O n (Q .normal)
  | .region _ ops true, Q, E, O, n => D ops E O n (Q .normal)
  | .seq x y, Q, E, O, n => gwp P T D x (gthen (fun E O n => gwp P T D y Q E.compact O n) Q) E O n
  | .cond c x y, Q, E, O, n => match ev E c with
    | .val (.bool t) => (t = true → gwp P T D x Q E O n) ∧ (t = false → gwp P T D y Q E O n)
    | _ => False
  | .block id c, Q, E, O, n => gwp P T D c (gblock id Q) E O n
  | .loop c, Q, E, O, n => gloop (gwp P T D c) Q E O n
  | .exit id, Q, E, O, n => Q (.exit id) E O n
  | .ret, Q, E, O, n => Q .ret E O n
  | _, _, _, _, _ => False
/-- on with what stands behind -/
def onC (P : Program) (T : Tab) (D : Array Oper → Env → Objs → Nat → GK → Prop) (y : Code) (Q : GQ) (E : Env) (O : Objs) (n : Nat) : Prop := gwp P T D y Q E.compact O n
/-- a loop's round -/
def inL (P : Program) (T : Tab) (D : Array Oper → Env → Objs → Nat → GK → Prop) (c : Code) (Q : GQ) (E : Env) (O : Objs) (n : Nat) : Prop := gwp P T D c Q E O n
/-- two ways: it is looked into where it is known which -/
def gcond (P : Program) (T : Tab) (D : Array Oper → Env → Objs → Nat → GK → Prop) (g : G) (x y : Code) (Q : GQ) (E : Env) (O : Objs) (n : Nat) : Prop :=
  match g with
  | .val (.bool t) => (t = true → gwp P T D x Q E O n) ∧ (t = false → gwp P T D y Q E O n)
  | _ => False
theorem gcond_t (D : Array Oper → Env → Objs → Nat → GK → Prop) (x y : Code) (Q : GQ) (E : Env) : gcond P T D (.val (.bool true)) x y Q E O n = gwp P T D x Q E O n := by simp [gcond]
theorem gcond_f (D : Array Oper → Env → Objs → Nat → GK → Prop) (x y : Code) (Q : GQ) (E : Env) : gcond P T D (.val (.bool false)) x y Q E O n = gwp P T D y Q E O n := by simp [gcond]
theorem gcond.by {D : Array Oper → Env → Objs → Nat → GK → Prop} {t : Bool} {x y : Code} {Q : GQ} {E : Env} (h1 : t = true → gwp P T D x Q E O n) (h2 : t = false → gwp P T D y Q E O n) : gcond P T D (.val (.bool t)) x y Q E O n := ⟨h1, h2⟩
section
variable (D : Array Oper → Env → Objs → Nat → GK → Prop) (Q : GQ) (E : Env)
theorem gwp_skip : gwp P T D .skip Q E O n = Q .normal E O n := rfl
theorem gwp_region (id : Nat) (ops : Array Oper) : gwp P T D (.region id ops false) Q E O n = gops P T ops.toList ops.toList E O n (Q .normal) := rfl
theorem gwp_draw (id : Nat) (ops : Array Oper) : gwp P T D (.region id ops true) Q E O n = D ops E O n (Q .normal) := rfl
theorem gwp_seq (x y : Code) : gwp P T D (.seq x y) Q E O n = gwp P T D x (gthen (onC P T D y Q) Q) E O n := rfl
theorem gwp_cond (c : Operand) (x y : Code) : gwp P T D (.cond c x y) Q E O n = gcond P T D (ev E c) x y Q E O n := rfl
theorem gwp_block (id : Nat) (c : Code) : gwp P T D (.block id c) Q E O n = gwp P T D c (gblock id Q) E O n := rfl
theorem gwp_loop (c : Code) : gwp P T D (.loop c) Q E O n = gloop (inL P T D c) Q E O n := rfl
theorem gwp_exit (id : Nat) : gwp P T D (.exit id) Q E O n = Q (.exit id) E O n := rfl
theorem gwp_ret : gwp P T D .ret Q E O n = Q .ret E O n := rfl
end
def lift (w : World) (O : Objs) (m : Hands) (n : Nat) (Q : GQ) : Exit → Act → World → Prop := fun e a' w' => ∃ E' O' n' m', Q e E' O' n' ∧ Mem w' O' m' n' ∧ Holds w' O' m' n' E' a' ∧ Ext w O m n w' O' m' n'
def DOk (P : Program) (D : Array Oper → Env → Objs → Nat → GK → Prop) : Prop := ∀ (id : Nat) (ops : Array Oper) (w : World) (O : Objs) (m : Hands) (n : Nat) (E : Env) (a : Act) (K : GK) (Q : Exit → Act → World → Prop), Mem w O m n → Holds w O m n E a → D ops E O n K →
    (∀ w' O' m' n' E' a', K E' O' n' → Mem w' O' m' n' → Holds w' O' m' n' E' a' → Ext w O m n w' O' m' n' → Q .normal a' w') → (Code.region id ops true).wp P Q a w
theorem loop_wp {c : Code} {Q : Exit → Act → World → Prop} (I : Nat → Act → World → Prop) (round : ∀ k a w, I k a w → c.wp P (Exit.then (fun a' w' => ∃ k', k' < k ∧ I k' a' w') Q) a w) : ∀ k a w, I k a w → (Code.loop c).wp P Q a w := by
  intro k0 a0 w0 h0 b k cs
  have key : ∀ i a w, I i a w → ∃ e a' w', Q e a' w' ∧ Arrives P (lone (b.at a (.code c :: .inLoop c :: k)) cs w) b k cs e a' w' := by
    intro i
    induction i using Nat.strongRecOn with
    | _ i ih =>
      intro a w hI
      obtain ⟨e, a₁, w₁, hq, harr⟩ := round i a w hI b (.inLoop c :: k) cs
      cases e with
      | normal =>
        obtain ⟨i', hlt, hI₁⟩ := hq
        obtain ⟨e₂, a₂, w₂, hq₂, harr₂⟩ := ih i' hlt a₁ w₁ hI₁
        exact ⟨e₂, a₂, w₂, hq₂, .of_steps (Steps.trans harr (.one step_inLoop)) harr₂⟩
      | exit id => exact ⟨_, a₁, w₁, hq, .pass (x := .inLoop c) rfl (fun _ _ => .inl (by simp)) harr⟩
      | goto l => exact ⟨_, a₁, w₁, hq, .pass (x := .inLoop c) rfl (fun _ _ => .inl (by simp)) harr⟩
      | ret => exact ⟨_, a₁, w₁, hq, .pass (x := .inLoop c) rfl (fun _ _ => .inl (by simp)) harr⟩
      | panic ch => exact ⟨_, a₁, w₁, hq, .pass (x := .inLoop c) rfl (fun _ _ => .inl (by simp)) harr⟩
      | outgrown => exact ⟨_, a₁, w₁, hq, .pass (x := .inLoop c) rfl (fun _ _ => .inl (by simp)) harr⟩
  obtain ⟨e, a', w', hq, harr⟩ := key k0 a0 w0 h0
  exact ⟨e, a', w', hq, .of_steps (.one step_loop) harr⟩
theorem gwp_sound (hT : TabOk P T) {D : Array Oper → Env → Objs → Nat → GK → Prop} (hD : DOk P D) : ∀ (c : Code) (Q : GQ) (w : World) (O : Objs) (m : Hands) (n : Nat) (E : Env) (a : Act), Mem w O m n → Holds w O m n E a → gwp P T D c Q E O n → c.wp P (lift w O m n Q) a w := by
  intro c
  induction c with
  | skip => intro Q w O m n E a hM hE h; exact wp_skip ⟨E, O, n, m, h, hM, hE, Ext.refl _ _ _ _⟩
  | region id ops draw =>
    intro Q w O m n E a hM hE h
    cases draw with
    | false =>
      refine wp_region_list ?_
      exact gops_sound hT ops.toList ops.toList w O m n E a _ _ hM hE h fun w' O' m' n' E' a' h1 h2 h3 h4 => ⟨E', O', n', m', h1, h2, h3, h4⟩
    | true => exact hD id ops w O m n E a _ _ hM hE h fun w' O' m' n' E' a' h1 h2 h3 h4 => ⟨E', O', n', m', h1, h2, h3, h4⟩
  | seq x y ihx ihy =>
    intro Q w O m n E a hM hE h
    refine wp_seq (wp_mono (ihx _ w O m n E a hM hE h) fun e a' w' ⟨E', O', n', m', h1, h2, h3, h4⟩ => ?_)
    cases e with
    | normal => exact wp_mono (ihy _ w' O' m' n' E'.compact a' h2 (h3.compact) h1) fun e a2 w2 ⟨E2, O2, n2, m2, g1, g2, g3, g4⟩ => ⟨E2, O2, n2, m2, g1, g2, g3, h4.trans g4⟩
    | exit id => exact ⟨E', O', n', m', h1, h2, h3, h4⟩
    | goto l => exact ⟨E', O', n', m', h1, h2, h3, h4⟩
    | ret => exact ⟨E', O', n', m', h1, h2, h3, h4⟩
    | panic ch => exact ⟨E', O', n', m', h1, h2, h3, h4⟩
    | outgrown => exact ⟨E', O', n', m', h1, h2, h3, h4⟩
  | cond c x y ihx ihy =>
    intro Q w O m n E a hM hE h
    simp only [gwp] at h
    have hc := hE.ev c
    split at h
    · rename_i t heq
      rw [heq] at hc
      simp only [G.rep] at hc
      exact wp_cond_split hc (fun ht => ihx _ w O m n E a hM hE (h.1 ht)) (fun ht => ihy _ w O m n E a hM hE (h.2 ht))
    · exact h.elim
  | block id c ih =>
    intro Q w O m n E a hM hE h
    refine wp_block (wp_mono (ih _ w O m n E a hM hE h) fun e a' w' ⟨E', O', n', m', h1, h2, h3, h4⟩ => ?_)
    cases e with
    | exit id' =>
      simp only [gblock] at h1
      simp only [Exit.inBlock]
      split
      · rename_i hid; rw [if_pos hid] at h1; exact ⟨E', O', n', m', h1, h2, h3, h4⟩
      · rename_i hid; rw [if_neg hid] at h1; exact ⟨E', O', n', m', h1, h2, h3, h4⟩
    | normal => exact ⟨E', O', n', m', h1, h2, h3, h4⟩
    | goto l => exact ⟨E', O', n', m', h1, h2, h3, h4⟩
    | ret => exact ⟨E', O', n', m', h1, h2, h3, h4⟩
    | panic ch => exact ⟨E', O', n', m', h1, h2, h3, h4⟩
    | outgrown => exact ⟨E', O', n', m', h1, h2, h3, h4⟩
  | loop c ih =>
    intro Q w O m n E a hM hE h
    obtain ⟨I, ⟨k, E0, h0, hle⟩, hround⟩ := h
    refine loop_wp (fun k a' w' => ∃ E' O' n' m', I k E' O' n' ∧ Mem w' O' m' n' ∧ Holds w' O' m' n' E' a' ∧ Ext w O m n w' O' m' n') ?_ k a w ⟨E0, O, n, m, h0, hM, hE.le hle, Ext.refl _ _ _ _⟩
    intro k a' w' ⟨E', O', n', m', h1, h2, h3, h4⟩
    refine wp_mono (ih _ w' O' m' n' E' a' h2 h3 (hround k E' O' n' h1)) fun e a2 w2 ⟨E2, O2, n2, m2, g1, g2, g3, g4⟩ => ?_
    cases e with
    | normal =>
      obtain ⟨k', E3, hk, hI, hl⟩ := g1
      exact ⟨k', hk, E3, O2, n2, m2, hI, g2, g3.le hl, h4.trans g4⟩
    | exit id => exact ⟨E2, O2, n2, m2, g1, g2, g3, h4.trans g4⟩
    | goto l => exact ⟨E2, O2, n2, m2, g1, g2, g3, h4.trans g4⟩
    | ret => exact ⟨E2, O2, n2, m2, g1, g2, g3, h4.trans g4⟩
    | panic ch => exact ⟨E2, O2, n2, m2, g1, g2, g3, h4.trans g4⟩
    | outgrown => exact ⟨E2, O2, n2, m2, g1, g2, g3, h4.trans g4⟩
  | exit id => intro Q w O m n E a hM hE h; exact wp_exit ⟨E, O, n, m, h, hM, hE, Ext.refl _ _ _ _⟩
  | ret => intro Q w O m n E a hM hE h; exact wp_ret ⟨E, O, n, m, h, hM, hE, Ext.refl _ _ _ _⟩
  | _ => intro Q w O m n E a hM hE h; simp [gwp] at h
end

end Go.Proofs.Ytpggbianhdebmaa
