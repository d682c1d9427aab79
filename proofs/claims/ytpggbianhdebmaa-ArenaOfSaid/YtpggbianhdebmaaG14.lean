/- Part G14 of the ghost memory: lemmas and contracts used by the proofs of this seat's laws; each theorem bears its own conditions. -/
import Derived.Test.YtpggbianhdebmaaG1
import Derived.Test.YtpggbianhdebmaaG2
import Derived.Test.YtpggbianhdebmaaG3
import Derived.Test.YtpggbianhdebmaaG4
import Derived.Test.YtpggbianhdebmaaG5
import Derived.Test.YtpggbianhdebmaaG6
import Derived.Test.YtpggbianhdebmaaG7
import Derived.Test.YtpggbianhdebmaaG8
import Derived.Test.YtpggbianhdebmaaG9
import Derived.Test.YtpggbianhdebmaaG10
import Derived.Test.YtpggbianhdebmaaG11
import Derived.Test.YtpggbianhdebmaaG12
import Derived.Test.YtpggbianhdebmaaG13
import Derived.WalkKit
import Derived.WalkSpells
import Derived.WalkLawsBesides
import Derived.Lib.Hide
import Derived.BigQuiet
import Derived.StillTailTactics
import Derived.Deep.RegionHeld3
import Derived.Deep.AppendLies
import Derived.Laws.CopyOwn
import Derived.Deep.DeepCutAuto
import Derived.Deep.QuietTactic
import Derived.Maps.AppendAt
import Derived.Great.BuildSlice
import Derived.Laws.StructEq
import Derived.ChangeKeysEq
import Derived.IntWalk
import Derived.Lib.AppendZeros
import Derived.Lib.AppendZerosOnto
import Derived.ProofKit
import Derived.OpenShut
import Derived.SizedLaws
import Derived.Deep.Slices
namespace Go.Proofs.Ytpggbianhdebmaa
open Go.RowKit
set_option linter.unusedVariables false
set_option linter.unusedSimpArgs false
section
variable {P : Program} {T : Tab} {w : World} {O : Objs} {m : Hands} {n : Nat}
/-- a call that changes nothing, and what it tells -/
def PCall (P : Program) (f : FuncId) (gs : List G) (O : Objs) (n : Nat) (K : G → Prop) : Prop := ∃ r, GPure P f gs O n r ∧ K r
/-- a step of a region that only reads: what it tells -/
def pop (P : Program) (T : Tab) (E : Env) (O : Objs) (n : Nat) (op : Op) (K : G → Prop) : Prop :=
  match op with
  | .call ⟨.value o, args, _⟩ => match ev E o with
    | .fn f k cs => wok (args.toList.map (ev E)) ∧ PCall P f (cs.take k ++ args.toList.map (evS E) ++ cs.drop k) O n K
    | _ => False
  | op => match gact T E O n op with
    | some (S, g, _, _) => S ∧ calmOp op = true ∧ K g
    | none => False
theorem pop_one {E : Env} {op : Op} {K : G → Prop} (h : pop P T E O n op K) : ∃ r, pop P T E O n op (· = r) ∧ K r := by
  unfold pop at h ⊢
  split at h
  · split at h
    · obtain ⟨h0, r, h1, h2⟩ := h
      exact ⟨r, ⟨h0, r, h1, rfl⟩, h2⟩
    · exact h.elim
  · split at h
    · rename_i S g _ _ hs
      exact ⟨g, by first | exact ⟨h.1, h.2.1, rfl⟩ | (rw [hs]; exact ⟨h.1, h.2.1, rfl⟩), h.2.2⟩
    · exact h.elim
theorem gact_congr {E E' : Env} {op : Op} (hE : ∀ x ∈ op.operands, ev E x = ev E' x) : gact T E O n op = gact T E' O n op := by
  unfold gact
  split
  · rename_i c a b
    rw [hE c (by simp [Op.operands]), hE a (by simp [Op.operands]), hE b (by simp [Op.operands])]
  · rename_i op' _
    have e1 : gstep T (evS E) O n op = gstep T (evS E') O n op := gstep_congr fun x hx => by unfold evS; rw [hE x hx]
    have e2 : op.operands.toList.map (ev E) = op.operands.toList.map (ev E') := List.map_congr_left fun x hx => hE x (by simpa using hx)
    rw [e1, e2]
theorem pop_congr {E E' : Env} {op : Op} {K : G → Prop} (hE : ∀ x ∈ op.operands, ev E x = ev E' x) (h : pop P T E O n op K) : pop P T E' O n op K := by
  unfold pop at h ⊢
  split at h
  · rename_i o args ts
    have ho : ev E o = ev E' o := hE o (by simp [Op.operands, Call.operands])
    rw [← ho]
    split at h
    case h_2 => exact h.elim
    rename_i f k cs hev
    obtain ⟨h0, r, h1, h2⟩ := h
    have hx : ∀ x ∈ args.toList, ev E x = ev E' x := fun x hx => hE x (by simp [Op.operands, Call.operands]; exact .inr (by simpa using hx))
    have e : args.toList.map (ev E) = args.toList.map (ev E') := List.map_congr_left hx
    have e2 : args.toList.map (evS E) = args.toList.map (evS E') := List.map_congr_left fun x hm => by unfold evS; rw [hx x hm]
    exact ⟨by rw [← e]; exact h0, r, by rw [← e2]; exact h1, h2⟩
  · rw [← gact_congr hE]; exact h
theorem pop_gop {E : Env} {op : Op} {r : G} (h : pop P T E O n op (· = r)) : gop P T E O n op fun g O' n' => g = r ∧ O' = O ∧ n' = n := by
  unfold pop at h
  unfold gop
  split at h
  · split at h
    · rename_i hev
      obtain ⟨h0, r', h1, rfl⟩ := h
      simp only [hev]
      exact ⟨h0, h1⟩
    · exact h.elim
  · split at h
    · rename_i S g O' n' hs
      obtain ⟨h1, h2⟩ := calm_same h.2.1 hs
      split
      · rename_i hne; exact (hne _ _ _ rfl).elim
      · rw [hs]
        exact ⟨h.1, h.2.2, h1, h2⟩
    · exact h.elim
def looks (ops : List Oper) (o : Oper) : List Tmp :=
  (o.op.operands.toList.filterMap fun | .tmp t => some t | _ => none) ++ (match o.guard with
    | some (g, _) => ((ops[g]?).bind (·.dst)).toList
    | none => [])
def indep (ops : List Oper) (x y : Oper) : Bool :=
  (match x.dst with
   | some d => !(looks ops y).contains d && y.dst != some d
   | none => true) &&
  (match y.dst with
   | some d => !(looks ops x).contains d
   | none => true)
/-- what an operation tells, wanted or not -/
def PS (P : Program) (T : Tab) (ops : List Oper) (O : Objs) (n : Nat) (E : Env) (o : Oper) (r : G) : Prop :=
  (gwant ops E o = some true ∧ pop P T E O n o.op (· = r)) ∨ (gwant ops E o = some false ∧ r = .val undef) ∨
  (∃ b g, gwant ops E o = some b ∧ calmOp o.op = true ∧ (∃ S O' n', gact T E O n o.op = some (S, g, O', n') ∧ (b = true → S)) ∧ r = .when b g)
/-- alike: the same is known -/
def EqE (E E' : Env) : Prop := E.n = E'.n ∧ ∀ t, look E.l t = look E'.l t
theorem EqE.refl (E : Env) : EqE E E := ⟨rfl, fun _ => rfl⟩
theorem EqE.trans {E E' E'' : Env} (h : EqE E E') (k : EqE E' E'') : EqE E E'' := ⟨h.1.trans k.1, fun t => (h.2 t).trans (k.2 t)⟩
theorem EqE.ev {E E' : Env} (h : EqE E E') (x : Operand) : ev E x = ev E' x := by
  cases x with
  | tmp t => exact h.2 t
  | _ => rfl
theorem look_put (E : Env) (d : Option Tmp) (g : G) (t : Nat) : look (gputE E d g).l t = if d = some t ∧ t < E.n then g else look E.l t := by
  cases d with
  | none => simp [gputE]
  | some t' =>
    unfold gputE
    simp only
    by_cases h : t' < E.n
    · rw [if_pos h]
      simp only [look]
      by_cases e : t = t'
      · subst e; rw [if_pos rfl, if_pos ⟨rfl, h⟩]
      · rw [if_neg e, if_neg (fun q => e (by have := q.1; injection this with this; exact this.symm))]
    · rw [if_neg h, if_neg (fun q => h (by have := q.1; injection this with this; rw [this]; exact q.2))]
theorem n_put (E : Env) (d : Option Tmp) (g : G) : (gputE E d g).n = E.n := by
  cases d with
  | none => rfl
  | some t => unfold gputE; simp only; split <;> rfl
theorem EqE.put {E E' : Env} (h : EqE E E') (d : Option Tmp) (g : G) : EqE (gputE E d g) (gputE E' d g) := by
  refine ⟨by rw [n_put, n_put]; exact h.1, fun t => ?_⟩
  rw [look_put, look_put, h.1, h.2 t]
theorem put_comm {E : Env} {d d' : Option Tmp} {r r' : G} (h : ∀ t, d = some t → d' ≠ some t) : EqE (gputE (gputE E d r) d' r') (gputE (gputE E d' r') d r) := by
  refine ⟨by simp only [n_put], fun t => ?_⟩
  simp only [look_put, n_put]
  by_cases h1 : d = some t
  · have h2 := h t h1
    simp [h1, h2]
  · by_cases h2 : d' = some t
    · simp [h1, h2]
    · simp [h1, h2]
theorem gwant_eq {ops : List Oper} {E E' : Env} {o : Oper} (h : ∀ g d, o.guard = some g → (ops[g.1]?).bind (·.dst) = some d → look E.l d = look E'.l d) : gwant ops E o = gwant ops E' o := by
  unfold gwant gwantB
  split
  · rfl
  · rename_i j want hg
    split
    · rfl
    · rename_i d hd
      rw [h (j, want) d hg hd]
theorem PS_eq {ops : List Oper} {E E' : Env} {o : Oper} {r : G} (hd : ∀ t ∈ looks ops o, look E.l t = look E'.l t) (h : PS P T ops O n E o r) : PS P T ops O n E' o r := by
  have hw : gwant ops E' o = gwant ops E o := by
    refine (gwant_eq fun g d hg hgd => hd d ?_).symm
    unfold looks
    rw [hg]
    obtain ⟨j, want⟩ := g
    simp only at hgd
    simp [hgd]
  have hop : ∀ x ∈ o.op.operands, ev E x = ev E' x := fun x hx => by
    cases x with
    | tmp t =>
      refine hd t ?_
      unfold looks
      exact List.mem_append.2 (.inl (List.mem_filterMap.2 ⟨.tmp t, by simpa using hx, rfl⟩))
    | _ => rfl
  rcases h with ⟨h1, h2⟩ | ⟨h1, h2⟩ | ⟨b, g, h1, h2, ⟨S, O', n', h3, h4⟩, h5⟩
  · exact .inl ⟨hw.trans h1, pop_congr hop h2⟩
  · exact .inr (.inl ⟨hw.trans h1, h2⟩)
  · exact .inr (.inr ⟨b, g, hw.trans h1, h2, ⟨S, O', n', by rw [← gact_congr hop]; exact h3, h4⟩, h5⟩)
theorem PS_put {ops : List Oper} {E : Env} {o : Oper} {r r' : G} {d : Option Tmp} (hd : ∀ t, d = some t → t ∉ looks ops o) (h : PS P T ops O n E o r) : PS P T ops O n (gputE E d r') o r :=
  PS_eq (fun t ht => by rw [look_put, if_neg (fun q => hd t q.1 ht)]) h
theorem PS_unput {ops : List Oper} {E : Env} {o : Oper} {r r' : G} {d : Option Tmp} (hd : ∀ t, d = some t → t ∉ looks ops o) (h : PS P T ops O n (gputE E d r') o r) : PS P T ops O n E o r :=
  PS_eq (fun t ht => by rw [look_put, if_neg (fun q => hd t q.1 ht)]) h
def Run (P : Program) (T : Tab) (ops : List Oper) (O : Objs) (n : Nat) : List Oper → Env → Env → Prop
  | [], E, Ef => EqE E Ef
  | o :: l, E, Ef => ∃ r, PS P T ops O n E o r ∧ Run P T ops O n l (gputE E o.dst r) Ef
theorem run_eq {ops : List Oper} : ∀ (l : List Oper) (E E' Ef : Env), EqE E E' → Run P T ops O n l E Ef → Run P T ops O n l E' Ef
  | [], E, E', Ef, h, hr => ⟨h.1.symm.trans hr.1, fun t => (h.2 t).symm.trans (hr.2 t)⟩
  | o :: l, E, E', Ef, h, hr => by
    obtain ⟨r, h1, h2⟩ := hr
    exact ⟨r, PS_eq (fun t _ => h.2 t) h1, run_eq l _ _ Ef (h.put _ _) h2⟩
theorem indep_spec {ops : List Oper} {x y : Oper} (h : indep ops x y = true) : (∀ t, x.dst = some t → t ∉ looks ops y ∧ y.dst ≠ some t) ∧ (∀ t, y.dst = some t → t ∉ looks ops x) := by
  unfold indep at h
  rw [Bool.and_eq_true] at h
  refine ⟨fun t ht => ?_, fun t ht => ?_⟩
  · have := h.1
    rw [ht] at this
    simp at this
    exact ⟨this.1, this.2⟩
  · have := h.2
    rw [ht] at this
    simpa using this
theorem run_front {ops : List Oper} {o : Oper} : ∀ (R1 R2 : List Oper) (E Ef : Env), Run P T ops O n (R1 ++ o :: R2) E Ef → (∀ y ∈ R1, indep ops o y = true) → ∃ r, PS P T ops O n E o r ∧ Run P T ops O n (R1 ++ R2) (gputE E o.dst r) Ef
  | [], R2, E, Ef, h, _ => h
  | y :: R1, R2, E, Ef, h, hi => by
    obtain ⟨ry, h1, h2⟩ := h
    obtain ⟨r, h3, h4⟩ := run_front R1 R2 _ Ef h2 fun z hz => hi z (.tail _ hz)
    obtain ⟨i1, i2⟩ := indep_spec (hi y (.head _))
    have ho : PS P T ops O n E o r := PS_unput i2 h3
    exact ⟨r, ho, ry, PS_put (fun t ht => (i1 t ht).1) h1, run_eq _ _ _ Ef (put_comm fun t ht => fun h => (i1 t h).2 ht) h4⟩
end

end Go.Proofs.Ytpggbianhdebmaa
