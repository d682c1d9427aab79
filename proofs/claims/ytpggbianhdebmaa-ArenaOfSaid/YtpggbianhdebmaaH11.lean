/- Part H11 of the ghost memory: lemmas and contracts used by the proofs of this seat's laws; each theorem bears its own conditions. -/
import Derived.Test.YtpggbianhdebmaaH10
import Derived.WalkKit
import Derived.WalkSpells
import Derived.WalkLawsBesides
import Derived.Lib.Hide
import Derived.BigQuiet
import Derived.StillTailTactics
import Derived.Deep.RegionHeld3
import Derived.Deep.AppendLies
import Derived.Laws.CopyOwn
import Derived.Deep.DeepCutAuto
import Derived.Deep.QuietTactic
import Derived.Maps.AppendAt
import Derived.Great.BuildSlice
import Derived.Laws.StructEq
import Derived.ChangeKeysEq
import Derived.IntWalk
import Derived.Lib.AppendZeros
import Derived.Lib.AppendZerosOnto
import Derived.ProofKit
import Derived.OpenShut
import Derived.SizedLaws
import Derived.Deep.Slices
namespace Go.Proofs.Ytpggbianhdebmaa
open Go.RowKit
set_option linter.unusedVariables false
set_option linter.unusedSimpArgs false
section
variable {P : Program} {T : Tab} {O : Objs} {n : Nat}
theorem gop_mono {E : Env} {op : Op} {K K' : G → Objs → Nat → Prop} (h : gop P T E O n op K) (hk : ∀ g O' n', K g O' n' → K' g O' n') : gop P T E O n op K' := by
  unfold gop at h ⊢
  split at h
  · split at h
    · rename_i hev
      first
        | exact ⟨h.1, h.2.mono hk⟩
        | (simp only [hev]; exact ⟨h.1, h.2.mono hk⟩)
    · exact h.elim
  · split at h
    · rename_i S g O' n' hs
      exact ⟨h.1, hk _ _ _ h.2⟩
    · exact h.elim
/-- a region that draws its order, with bars, whose guards are told -/
def prunB (P : Program) (T : Tab) (ops : List Oper) : List Bool → List (Option Bool) → List Oper → Env → Objs → Nat → GK → Prop
  | _, _, [], E, O, n, K => K E O n
  | true :: bs, ds, o :: l, E, O, n, K => match o.guard with
    | none => gop P T E O n o.op fun g O' n' => prunB P T ops bs ds l (gputE E o.dst g) O' n' K
    | some g => match ds with
      | some true :: ds' => gwantB ops E (some g) = some true ∧ gop P T E O n o.op fun g O' n' => prunB P T ops bs ds' l (gputE E o.dst g) O' n' K
      | _ => False
  | false :: bs, ds, o :: l, E, O, n, K => match o.guard with
    | none => pop P T E O n o.op fun g => prunB P T ops bs ds l (gputE E o.dst g) O n K
    | some g => match ds with
      | some true :: ds' => gwantB ops E (some g) = some true ∧ pop P T E O n o.op fun g => prunB P T ops bs ds' l (gputE E o.dst g) O n K
      | some false :: ds' => gwantB ops E (some g) = some false ∧ prunB P T ops bs ds' l (gputE E o.dst (.val undef)) O n K
      | none :: ds' => match gwantB ops E (some g) with
        | some b => calmOp o.op = true ∧ gcalm T E O n o.op b fun g => prunB P T ops bs ds' l (gputE E o.dst g) O n K
        | none => False
      | [] => False
  | [], _, _ :: _, _, _, _, _ => False
def onB (P : Program) (T : Tab) (ops : List Oper) (bs : List Bool) (ds : List (Option Bool)) (l : List Oper) (E : Env) (d : Option Tmp) (K : GK) (g : G) (O' : Objs) (n' : Nat) : Prop := prunB P T ops bs ds l (gputE E d g) O' n' K
def onBP (P : Program) (T : Tab) (ops : List Oper) (bs : List Bool) (ds : List (Option Bool)) (l : List Oper) (E : Env) (d : Option Tmp) (O : Objs) (n : Nat) (K : GK) (g : G) : Prop := prunB P T ops bs ds l (gputE E d g) O n K
theorem prunB_nil (ops : List Oper) (bs : List Bool) (ds : List (Option Bool)) (E : Env) (K : GK) : prunB P T ops bs ds [] E O n K = K E O n := by cases bs <;> cases ds <;> simp only [prunB]
theorem prunB_bar (ops : List Oper) (bs : List Bool) (ds : List (Option Bool)) (d : Option Tmp) (op : Op) (ty : TypeId) (pos : String) (af : Array Edge) (l : List Oper) (E : Env) (K : GK) : prunB P T ops (true :: bs) ds (⟨d, op, ty, pos, af, none⟩ :: l) E O n K = gop P T E O n op (onB P T ops bs ds l E d K) := by cases ds <;> rfl
theorem prunB_bart (ops : List Oper) (bs : List Bool) (ds : List (Option Bool)) (d : Option Tmp) (op : Op) (ty : TypeId) (pos : String) (af : Array Edge) (g : Nat × Bool) (l : List Oper) (E : Env) (K : GK) :
    prunB P T ops (true :: bs) (some true :: ds) (⟨d, op, ty, pos, af, some g⟩ :: l) E O n K = (gwantB ops E (some g) = some true ∧ gop P T E O n op (onB P T ops bs ds l E d K)) := rfl
theorem prunB_plain (ops : List Oper) (bs : List Bool) (ds : List (Option Bool)) (d : Option Tmp) (op : Op) (ty : TypeId) (pos : String) (af : Array Edge) (l : List Oper) (E : Env) (K : GK) : prunB P T ops (false :: bs) ds (⟨d, op, ty, pos, af, none⟩ :: l) E O n K = pop P T E O n op (onBP P T ops bs ds l E d O n K) := by cases ds <;> rfl
theorem prunB_t (ops : List Oper) (bs : List Bool) (ds : List (Option Bool)) (d : Option Tmp) (op : Op) (ty : TypeId) (pos : String) (af : Array Edge) (g : Nat × Bool) (l : List Oper) (E : Env) (K : GK) :
    prunB P T ops (false :: bs) (some true :: ds) (⟨d, op, ty, pos, af, some g⟩ :: l) E O n K = (gwantB ops E (some g) = some true ∧ pop P T E O n op (onBP P T ops bs ds l E d O n K)) := rfl
theorem prunB_f (ops : List Oper) (bs : List Bool) (ds : List (Option Bool)) (d : Option Tmp) (op : Op) (ty : TypeId) (pos : String) (af : Array Edge) (g : Nat × Bool) (l : List Oper) (E : Env) (K : GK) :
    prunB P T ops (false :: bs) (some false :: ds) (⟨d, op, ty, pos, af, some g⟩ :: l) E O n K = (gwantB ops E (some g) = some false ∧ prunB P T ops bs ds l (gputE E d (.val undef)) O n K) := rfl
theorem prunB_n (ops : List Oper) (bs : List Bool) (ds : List (Option Bool)) (d : Option Tmp) (op : Op) (ty : TypeId) (pos : String) (af : Array Edge) (g : Nat × Bool) (l : List Oper) (E : Env) (K : GK) :
    prunB P T ops (false :: bs) (none :: ds) (⟨d, op, ty, pos, af, some g⟩ :: l) E O n K = match gwantB ops E (some g) with
      | some b => calmOp op = true ∧ gcalm T E O n op b (onBP P T ops bs ds l E d O n K)
      | none => False := rfl
theorem prunB_run {bs0 : List Bool} {K : GK} : ∀ (l pre : List Oper) (bs : List Bool) (ds : List (Option Bool)) (E : Env) (O : Objs) (n : Nat) (ops : List Oper), ops = pre ++ l → (∀ j, isBar bs0 (pre.length + j) = isBar bs j) → prunB P T ops bs ds l E O n K → runB P T ops bs0 (List.range' pre.length l.length) E O n K
  | [], pre, bs, ds, E, O, n, ops, hp, hb, h => by rw [prunB_nil] at h; exact h
  | o :: l, pre, bs, ds, E, O, n, ops, hp, hb, h => by
    have ho : ops[pre.length]? = some o := by rw [hp, List.getElem?_append_right (Nat.le_refl _), Nat.sub_self]; rfl
    have hp' : ops = (pre ++ [o]) ++ l := by rw [hp]; simp
    have hl : (pre ++ [o]).length = pre.length + 1 := by simp
    have next : ∀ {bs' ds' E' O' n'}, (∀ j, isBar bs (j + 1) = isBar bs' j) → prunB P T ops bs' ds' l E' O' n' K → runB P T ops bs0 (List.range' (pre.length + 1) l.length) E' O' n' K := fun {bs' ds' E' O' n'} hb' hr => by
      rw [← hl]
      exact prunB_run l (pre ++ [o]) bs' ds' E' O' n' ops hp' (fun j => by rw [hl, Nat.add_assoc, Nat.add_comm 1 j, hb (j + 1)]; exact hb' j) hr
    rw [List.length_cons, List.range'_succ]
    simp only [runB, ho]
    have hb0 := hb 0
    rw [Nat.add_zero] at hb0
    cases bs with
    | nil => simp only [prunB] at h
    | cons b bs =>
      have hbs : ∀ j, isBar (b :: bs) (j + 1) = isBar bs j := fun j => rfl
      cases b with
      | true =>
        have hbt : isBar bs0 pre.length = true := hb0
        rw [if_pos hbt]
        unfold gwant
        cases hg : o.guard with
        | none =>
          simp only [prunB, hg] at h
          refine ⟨rfl, gop_mono h fun g O' n' hk => next hbs hk⟩
        | some g =>
          simp only [prunB, hg] at h
          split at h
          · exact ⟨h.1, gop_mono h.2 fun g O' n' hk => next hbs hk⟩
          · exact h.elim
      | false =>
        have hbt : ¬ isBar bs0 pre.length = true := by rw [hb0]; exact Bool.false_ne_true
        rw [if_neg hbt]
        unfold PS gwant
        cases hg : o.guard with
        | none =>
          simp only [prunB, hg] at h
          obtain ⟨r, h1, h2⟩ := pop_one h
          exact ⟨r, .inl ⟨rfl, h1⟩, next hbs h2⟩
        | some g =>
          simp only [prunB, hg] at h
          split at h
          · obtain ⟨r, h1, h2⟩ := pop_one h.2
            exact ⟨r, .inl ⟨h.1, h1⟩, next hbs h2⟩
          · exact ⟨_, .inr (.inl ⟨h.1, rfl⟩), next hbs h.2⟩
          · split at h
            · rename_i b hwb
              obtain ⟨hcalm, hp⟩ := h
              unfold gcalm at hp
              split at hp
              · rename_i S g' O2 n2 hst
                exact ⟨_, .inr (.inr ⟨b, g', hwb, hcalm, ⟨S, O2, n2, hst, hp.1⟩, rfl⟩), next hbs hp.2⟩
              · obtain ⟨rfl, hK⟩ := hp
                exact ⟨_, .inr (.inl ⟨hwb, rfl⟩), next hbs hK⟩
            · exact h.elim
          · exact h.elim
theorem W_drawB {ba : Nat} (hT : TabOk P T) (hm : P.follows .mixedOrders = true) (bs : List Bool) (ds : List (Option Bool)) {id : Nat} {ops : Array Oper} {E : Env} {Q : GQ} (hord : orderlyB ops.toList bs = true) (h : prunB P T ops.toList bs ds ops.toList E O n (Q .normal)) : W P ba (.region id ops true) Q E O n := fun hb w m a hM hE => by
  have hr := prunB_run (bs0 := bs) (K := Q .normal) ops.toList [] bs ds E O n ops.toList rfl (fun j => by rw [List.length_nil, Nat.zero_add]) h
  rw [List.length_nil, ← List.range_eq_range'] at hr
  exact drun_okB hT hm id ops bs w O m n E a (Q .normal) _ hM hE hord hr fun w' O' m' n' E' a' h1 h2 h3 h4 => ⟨E', O', n', m', h1, h2, h3, h4.base hb⟩
end

end Go.Proofs.Ytpggbianhdebmaa
