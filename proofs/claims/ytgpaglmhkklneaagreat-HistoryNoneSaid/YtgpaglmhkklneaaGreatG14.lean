/- Part G14 of the ghost memory: lemmas and contracts used by the proofs of this seat's laws; each theorem bears its own conditions. -/
import Derived.Test.YtgpaglmhkklneaaGreatG1
import Derived.Test.YtgpaglmhkklneaaGreatG2
import Derived.Test.YtgpaglmhkklneaaGreatG3
import Derived.Test.YtgpaglmhkklneaaGreatG4
import Derived.Test.YtgpaglmhkklneaaGreatG5
import Derived.Test.YtgpaglmhkklneaaGreatG6
import Derived.Test.YtgpaglmhkklneaaGreatG7
import Derived.Test.YtgpaglmhkklneaaGreatG8
import Derived.Test.YtgpaglmhkklneaaGreatG9
import Derived.Test.YtgpaglmhkklneaaGreatG10
import Derived.Test.YtgpaglmhkklneaaGreatG11
import Derived.Test.YtgpaglmhkklneaaGreatG12
import Derived.Test.YtgpaglmhkklneaaGreatG13
import Derived.WalkKit
import Derived.WalkSpells
import Derived.WalkLawsBesides
import Derived.Lib.Hide
import Derived.BigQuiet
import Derived.StillTailTactics
import Derived.Deep.RegionHeld3
import Derived.Deep.AppendLies
import Derived.Laws.CopyOwn
import Derived.Deep.DeepCutAuto
import Derived.Deep.QuietTactic
import Derived.Maps.AppendAt
import Derived.Great.BuildSlice
import Derived.Laws.StructEq
import Derived.ChangeKeysEq
import Derived.IntWalk
import Derived.Lib.AppendZeros
import Derived.Lib.AppendZerosOnto
import Derived.ProofKit
import Derived.OpenShut
import Derived.SizedLaws
import Derived.Deep.Slices
namespace Go.Proofs.YtgpaglmhkklneaaGreat
open Go.RowKit
set_option linter.unusedVariables false
set_option linter.unusedSimpArgs false
section
variable {P : Program} {T : K3} {w : World} {O : Objs} {m : Hands} {n : Nat}
def PCall (P : Program) (f : FuncId) (gs : List G) (O : Objs) (n : Nat) (K : G → Prop) : Prop := ∃ r, GPure P f gs O n r ∧ K r
def pop (P : Program) (T : K3) (E : Env) (O : Objs) (n : Nat) (op : Op) (K : G → Prop) : Prop :=
  match op with
  | .call ⟨.value o, args, _⟩ => match ev E o with
    | .fn f k cs => wok (args.toList.map (ev E)) ∧ PCall P f (cs.take k ++ args.toList.map (evS E) ++ cs.drop k) O n K
    | _ => False
  | op => match Zet T E O n op with
    | some (S, g, _, _) => S ∧ J7 op = true ∧ K g
    | none => False
theorem Zos {E : Env} {op : Op} {K : G → Prop} (h : pop P T E O n op K) : ∃ r, pop P T E O n op (· = r) ∧ K r := by
  unfold pop at h ⊢
  split at h
  · split at h
    · obtain ⟨h0, r, h1, h2⟩ := h
      exact ⟨r, ⟨h0, r, h1, rfl⟩, h2⟩
    exact h.elim
  split at h
  · rename_i S g _ _ hs
    exact ⟨g, by first | exact ⟨h.1, h.2.1, rfl⟩ | (rw [hs]; exact ⟨h.1, h.2.1, rfl⟩), h.2.2⟩
  exact h.elim
theorem Zmz {E E' : Env} {op : Op} (hE : ∀ x ∈ op.operands, ev E x = ev E' x) : Zet T E O n op = Zet T E' O n op := by
  unfold Zet
  split
  · rename_i c a b
    rw [hE c (by simp [Op.operands]), hE a (by simp [Op.operands]), hE b (by simp [Op.operands])]
  rename_i op' _
  have e1 : Gs T (evS E) O n op = Gs T (evS E') O n op := Zqo fun x hx => by unfold evS; rw [hE x hx]
  have e2 : op.operands.toList.map (ev E) = op.operands.toList.map (ev E') := List.map_congr_left fun x hx => hE x (by simpa using hx)
  rw [e1, e2]
theorem Z4y {E E' : Env} {op : Op} {K : G → Prop} (hE : ∀ x ∈ op.operands, ev E x = ev E' x) (h : pop P T E O n op K) : pop P T E' O n op K := by
  unfold pop at h ⊢
  split at h
  · rename_i o args ts
    have ho : ev E o = ev E' o := hE o (by simp [Op.operands, Call.operands])
    rw [← ho]
    split at h
    case h_2 => exact h.elim
    rename_i f k cs hev
    obtain ⟨h0, r, h1, h2⟩ := h
    have hx : ∀ x ∈ args.toList, ev E x = ev E' x := fun x hx => hE x (by simp [Op.operands, Call.operands]; exact .inr (by simpa using hx))
    have e : args.toList.map (ev E) = args.toList.map (ev E') := List.map_congr_left hx
    have e2 : args.toList.map (evS E) = args.toList.map (evS E') := List.map_congr_left fun x hm => by unfold evS; rw [hx x hm]
    exact ⟨by rw [← e]; exact h0, r, by rw [← e2]; exact h1, h2⟩
  rw [← Zmz hE]; exact h
theorem Zxu {E : Env} {op : Op} {r : G} (h : pop P T E O n op (· = r)) : gop P T E O n op fun g O' n' => g = r ∧ O' = O ∧ n' = n := by
  unfold pop at h
  unfold gop
  split at h
  · split at h
    · rename_i hev
      obtain ⟨h0, r', h1, rfl⟩ := h
      simp only [hev]
      exact ⟨h0, h1⟩
    exact h.elim
  split at h
  · rename_i S g O' n' hs
    obtain ⟨h1, h2⟩ := Zjj h.2.1 hs
    split
    · rename_i hne; exact (hne _ _ _ rfl).elim
    rw [hs]
    exact ⟨h.1, h.2.2, h1, h2⟩
  exact h.elim
def Zgx (ops : List Oper) (o : Oper) : List Tmp :=
  (o.op.operands.toList.filterMap fun | .tmp t => some t | _ => none) ++ (match o.guard with
    | some (g, _) => ((ops[g]?).bind (·.dst)).toList
    | none => [])
def Zjr (ops : List Oper) (x y : Oper) : Bool :=
  (match x.dst with
   | some d => !(Zgx ops y).contains d && y.dst != some d
   | none => true) &&
  (match y.dst with
   | some d => !(Zgx ops x).contains d
   | none => true)
def PS (P : Program) (T : K3) (ops : List Oper) (O : Objs) (n : Nat) (E : Env) (o : Oper) (r : G) : Prop :=
  (Qz ops E o = some true ∧ pop P T E O n o.op (· = r)) ∨ (Qz ops E o = some false ∧ r = .val undef) ∨
  (∃ b g, Qz ops E o = some b ∧ J7 o.op = true ∧ (∃ S O' n', Zet T E O n o.op = some (S, g, O', n') ∧ (b = true → S)) ∧ r = .when b g)
def EqE (E E' : Env) : Prop := E.n = E'.n ∧ ∀ t, Ki E.l t = Ki E'.l t
theorem EqE.refl (E : Env) : EqE E E := ⟨rfl, fun _ => rfl⟩
theorem EqE.trans {E E' E'' : Env} (h : EqE E E') (k : EqE E' E'') : EqE E E'' := ⟨h.1.trans k.1, fun t => (h.2 t).trans (k.2 t)⟩
theorem EqE.ev {E E' : Env} (h : EqE E E') (x : Operand) : ev E x = ev E' x := by
  cases x with
  | tmp t => exact h.2 t
  | _ => rfl
theorem Zgw (E : Env) (d : Option Tmp) (g : G) (t : Nat) : Ki (Yz E d g).l t = if d = some t ∧ t < E.n then g else Ki E.l t := by
  cases d with
  | none => simp [Yz]
  | some t' =>
    unfold Yz
    simp only
    by_cases h : t' < E.n
    · rw [if_pos h]
      simp only [Ki]
      by_cases e : t = t'
      · subst e; rw [if_pos rfl, if_pos ⟨rfl, h⟩]
      rw [if_neg e, if_neg (fun q => e (by have := q.1; injection this with this; exact this.symm))]
    rw [if_neg h, if_neg (fun q => h (by have := q.1; injection this with this; rw [this]; exact q.2))]
theorem Z3s (E : Env) (d : Option Tmp) (g : G) : (Yz E d g).n = E.n := by
  cases d with
  | none => rfl
  | some t => unfold Yz; simp only; split <;> rfl
theorem EqE.put {E E' : Env} (h : EqE E E') (d : Option Tmp) (g : G) : EqE (Yz E d g) (Yz E' d g) := by
  refine ⟨by rw [Z3s, Z3s]; exact h.1, fun t => ?_⟩
  rw [Zgw, Zgw, h.1, h.2 t]
theorem Zou {E : Env} {d d' : Option Tmp} {r r' : G} (h : ∀ t, d = some t → d' ≠ some t) : EqE (Yz (Yz E d r) d' r') (Yz (Yz E d' r') d r) := by
  refine ⟨by simp only [Z3s], fun t => ?_⟩
  simp only [Zgw, Z3s]
  by_cases h1 : d = some t
  · have h2 := h t h1
    simp [h1, h2]
  by_cases h2 : d' = some t
  · simp [h1, h2]
  simp [h1, h2]
theorem Zz6 {ops : List Oper} {E E' : Env} {o : Oper} (h : ∀ g d, o.guard = some g → (ops[g.1]?).bind (·.dst) = some d → Ki E.l d = Ki E'.l d) : Qz ops E o = Qz ops E' o := by
  unfold Qz Qw
  split
  · rfl
  rename_i j want hg
  split
  · rfl
  rename_i d hd
  rw [h (j, want) d hg hd]
theorem Ze6 {ops : List Oper} {E E' : Env} {o : Oper} {r : G} (hd : ∀ t ∈ Zgx ops o, Ki E.l t = Ki E'.l t) (h : PS P T ops O n E o r) : PS P T ops O n E' o r := by
  have hw : Qz ops E' o = Qz ops E o := by
    refine (Zz6 fun g d hg hgd => hd d ?_).symm
    unfold Zgx
    rw [hg]
    obtain ⟨j, want⟩ := g
    simp only at hgd
    simp [hgd]
  have hop : ∀ x ∈ o.op.operands, ev E x = ev E' x := fun x hx => by
    cases x with
    | tmp t =>
      refine hd t ?_
      unfold Zgx
      exact List.mem_append.2 (.inl (List.mem_filterMap.2 ⟨.tmp t, by simpa using hx, rfl⟩))
    | _ => rfl
  rcases h with ⟨h1, h2⟩ | ⟨h1, h2⟩ | ⟨b, g, h1, h2, ⟨S, O', n', h3, h4⟩, h5⟩
  · exact .inl ⟨hw.trans h1, Z4y hop h2⟩
  · exact .inr (.inl ⟨hw.trans h1, h2⟩)
  exact .inr (.inr ⟨b, g, hw.trans h1, h2, ⟨S, O', n', by rw [← Zmz hop]; exact h3, h4⟩, h5⟩)
theorem Z01 {ops : List Oper} {E : Env} {o : Oper} {r r' : G} {d : Option Tmp} (hd : ∀ t, d = some t → t ∉ Zgx ops o) (h : PS P T ops O n E o r) : PS P T ops O n (Yz E d r') o r :=
  Ze6 (fun t ht => by rw [Zgw, if_neg (fun q => hd t q.1 ht)]) h
theorem Zzn {ops : List Oper} {E : Env} {o : Oper} {r r' : G} {d : Option Tmp} (hd : ∀ t, d = some t → t ∉ Zgx ops o) (h : PS P T ops O n (Yz E d r') o r) : PS P T ops O n E o r :=
  Ze6 (fun t ht => by rw [Zgw, if_neg (fun q => hd t q.1 ht)]) h
def Run (P : Program) (T : K3) (ops : List Oper) (O : Objs) (n : Nat) : List Oper → Env → Env → Prop
  | [], E, Ef => EqE E Ef
  | o :: l, E, Ef => ∃ r, PS P T ops O n E o r ∧ Run P T ops O n l (Yz E o.dst r) Ef
theorem Z60 {ops : List Oper} : ∀ (l : List Oper) (E E' Ef : Env), EqE E E' → Run P T ops O n l E Ef → Run P T ops O n l E' Ef
  | [], E, E', Ef, h, hr => ⟨h.1.symm.trans hr.1, fun t => (h.2 t).symm.trans (hr.2 t)⟩
  | o :: l, E, E', Ef, h, hr => by
    obtain ⟨r, h1, h2⟩ := hr
    exact ⟨r, Ze6 (fun t _ => h.2 t) h1, Z60 l _ _ Ef (h.put _ _) h2⟩
theorem Zm7 {ops : List Oper} {x y : Oper} (h : Zjr ops x y = true) : (∀ t, x.dst = some t → t ∉ Zgx ops y ∧ y.dst ≠ some t) ∧ (∀ t, y.dst = some t → t ∉ Zgx ops x) := by
  unfold Zjr at h
  rw [Bool.and_eq_true] at h
  refine ⟨fun t ht => ?_, fun t ht => ?_⟩
  · have := h.1
    rw [ht] at this
    simp at this
    exact ⟨this.1, this.2⟩
  have := h.2
  rw [ht] at this
  simpa using this
theorem Zvu {ops : List Oper} {o : Oper} : ∀ (R1 R2 : List Oper) (E Ef : Env), Run P T ops O n (R1 ++ o :: R2) E Ef → (∀ y ∈ R1, Zjr ops o y = true) → ∃ r, PS P T ops O n E o r ∧ Run P T ops O n (R1 ++ R2) (Yz E o.dst r) Ef
  | [], R2, E, Ef, h, _ => h
  | y :: R1, R2, E, Ef, h, hi => by
    obtain ⟨ry, h1, h2⟩ := h
    obtain ⟨r, h3, h4⟩ := Zvu R1 R2 _ Ef h2 fun z hz => hi z (.tail _ hz)
    obtain ⟨i1, i2⟩ := Zm7 (hi y (.head _))
    have ho : PS P T ops O n E o r := Zzn i2 h3
    exact ⟨r, ho, ry, Z01 (fun t ht => (i1 t ht).1) h1, Z60 _ _ _ Ef (Zou fun t ht => fun h => (i1 t h).2 ht) h4⟩
end
end Go.Proofs.YtgpaglmhkklneaaGreat
