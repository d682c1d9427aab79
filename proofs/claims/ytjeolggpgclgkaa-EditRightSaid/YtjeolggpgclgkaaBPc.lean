/- Plain facts on this seat's mirrors (part BPc); each theorem bears its own conditions. -/
import Derived.Test.YtjeolggpgclgkaaBPb
import Derived.IntWalk
namespace Go.Proofs.Ytjeolggpgclgkaa
open Go.RowKit
set_option linter.unusedVariables false
set_option linter.unusedSimpArgs false
def okP (p : Int) (x : Int × Bool) : Bool := !(decide (x.1 ≤ p) || decide (65534 < x.1)) && x.2
theorem chk_map {α : Type} (g : α → Int × Bool) : ∀ (xs : List α) (p : Int), chk (·.1) okP p (xs.map g) = chk (fun x => (g x).1) (fun p x => okP p (g x)) p xs
  | [], _ => rfl
  | x :: xs, p => by rw [List.map_cons, chk, chk, chk_map g xs]
/-- may an edit be? -/
def rE (e : Ed) (d : Nat) : Bool :=
  if d = 0 then false
  else if e.Kind = 0 then sameE e
  else if e.Kind = 1 then (noWK e && noLO e) && ((rt e.Old 64 && e.Old.Kind != 10) && (rt e.New 64 && e.New.Kind != 10))
  else if e.Kind = 2 then (none2 e && noLO e) && (chk (·.At) okW (-1) e.Words && chk (·.1) okP (-1) (e.Kids.attach.map fun k => (k.1.At, k.1.E.Kind != 0 && rE k.1.E (d - 1))))
  else if e.Kind = 3 then (none2 e && noWK e) && ((decide (2 ≤ e.List_) && decide (e.List_ ≤ 9)) && ((e.Ops.attach.map fun o => okO e.List_ o.1 (rE o.1.E (d - 1))).all id && lensB (e.Ops.foldl stR (0, 0))))
  else false
termination_by SizeOf.sizeOf e
decreasing_by
  · exact kidE_lt k.2
  · exact opE_lt o.2
def okK (d : Nat) (p : Int) (k : S_api_KidEdit) : Bool := okP p (k.At, k.E.Kind != 0 && rE k.E d)
theorem rE_eq (e : Ed) (d : Nat) : rE e d = if d = 0 then false
  else if e.Kind = 0 then sameE e
  else if e.Kind = 1 then (noWK e && noLO e) && ((rt e.Old 64 && e.Old.Kind != 10) && (rt e.New 64 && e.New.Kind != 10))
  else if e.Kind = 2 then (none2 e && noLO e) && (chk (·.At) okW (-1) e.Words && chk (·.At) (okK (d - 1)) (-1) e.Kids)
  else if e.Kind = 3 then (none2 e && noWK e) && ((decide (2 ≤ e.List_) && decide (e.List_ ≤ 9)) && ((e.Ops.all fun o => okO e.List_ o (rE o.E (d - 1))) && lensB (e.Ops.foldl stR (0, 0))))
  else false := by
  rw [rE]
  have h1 : (e.Kids.attach.map fun k => (k.1.At, k.1.E.Kind != 0 && rE k.1.E (d - 1))) = e.Kids.map fun k => (k.At, k.E.Kind != 0 && rE k.E (d - 1)) := List.attach_map_val (f := fun k : S_api_KidEdit => (k.At, k.E.Kind != 0 && rE k.E (d - 1)))
  have h2 : (e.Ops.attach.map fun o => okO e.List_ o.1 (rE o.1.E (d - 1))) = e.Ops.map fun o => okO e.List_ o (rE o.E (d - 1)) := List.attach_map_val (f := fun o : S_api_Op => okO e.List_ o (rE o.E (d - 1)))
  rw [h1, h2, chk_map, List.all_map]
  rfl
theorem rE_same {e : Ed} (h : e.Kind = 0) {d : Nat} (hd : 0 < d) : rE e d = sameE e := by rw [rE_eq, if_neg (by omega), if_pos h]
theorem same_kind {e : Ed} (h : ¬ e.Kind = 0) : sameE e = false := by unfold sameE; rw [beq_eq_false_iff_ne.2 h]; rfl
theorem len_pos {n : Nat} : decide (0 < (n : Int)) = !(n == 0) := by rw [Bool.eq_iff_iff, Bool.not_eq_true', decide_eq_true_eq, beq_eq_false_iff_ne]; omega
theorem len_pos' {n : Nat} : decide (0 < n) = !(n == 0) := by rw [Bool.eq_iff_iff, Bool.not_eq_true', decide_eq_true_eq, beq_eq_false_iff_ne]; omega
theorem rt_of {l : Int} {L : List Tr} (h2 : 2 ≤ l) (h9 : l ≤ 9) : rt ⟨l, [], L⟩ 64 = (decide (L.length < 1048576) && L.all fun t => rt t 63 && okk l t) := by
  rw [rt_eq]
  simp only
  rw [if_neg (by omega), if_neg (by omega)]
  by_cases h : L.length < 1048576
  · rw [if_neg (by simp only [List.length_nil]; omega), decide_eq_true h, Bool.true_and]
  · rw [if_pos (by omega), decide_eq_false h, Bool.false_and]
/-- what an op bears -/
def BO (o : S_api_Op) : Prop := (o.L.length * 56 ≤ 140737488355328 ∧ ∀ t ∈ o.L, Bd t) ∧ BE o.E
theorem bd_of {l : Int} {L : List Tr} (h : L.length * 56 ≤ 140737488355328 ∧ ∀ t ∈ L, Bd t) : Bd ⟨l, [], L⟩ := .mk _ (by simp) (by simp only; omega) (fun w hw => by simp at hw) h.2
theorem eright_lv : ∀ (k : Nat), (∀ e : Ed, BE e → (4 * SizeOf.sizeOf e + 1 < k ∨ (e.Kind = 0 ∧ 2 ≤ k)) → (lv_edit_Right k).1 e = some (rE e 64)) ∧
    (∀ (e : Ed) (d : Nat), BE e → (4 * SizeOf.sizeOf e < k ∨ (e.Kind = 0 ∧ 1 ≤ k)) → d ≤ 64 → (lv_edit_Right k).2.1 e (d : Int) = some (rE e d)) ∧
    (∀ (l : List S_api_KidEdit) (d : Nat), (l.length : Int) ≤ 140737488355328 → (∀ x ∈ l, BE x.E ∧ 4 * SizeOf.sizeOf x.E + 1 < k) → 1 ≤ k → d ≤ 64 → (lv_edit_Right k).2.2.1 l (d : Int) = some (chk (·.At) (okK d) (-1) l)) ∧
    (∀ (e : Ed) (d : Nat), BE e → (∀ o ∈ e.Ops, 4 * SizeOf.sizeOf o.E + 2 < k) → 1 ≤ k → d ≤ 64 → (lv_edit_Right k).2.2.2.1 e (d : Int) = some ((decide (2 ≤ e.List_) && decide (e.List_ ≤ 9)) && ((e.Ops.all fun o => okO e.List_ o (rE o.E d)) && lensB (e.Ops.foldl stR (0, 0))))) ∧
    (∀ (l : Int) (o : S_api_Op) (d : Nat), 2 ≤ l → l ≤ 9 → BO o → 4 * SizeOf.sizeOf o.E + 1 < k → d ≤ 64 → (lv_edit_Right k).2.2.2.2.1 l o (d : Int) = some (okO l o (rE o.E d) && decide (o.L.length < 1048576))) ∧
    (∀ (a b c : Bool) (o : S_api_Op), BE o.E → 3 ≤ k → (lv_edit_Right k).2.2.2.2.2 a b c o = some ((!a || o.N == 0) && ((!b || o.L.length == 0) && (!c || sameE o.E))))
  | 0 => ⟨fun e _ h => by omega, fun e d _ h => by omega, fun l d _ _ h => by omega, fun e d _ _ h => by omega, fun l o d _ _ _ h => by omega, fun a b c o _ h => by omega⟩
  | k + 1 => by
    obtain ⟨i1, i2, i3, i4, i5, i6⟩ := eright_lv k
    refine ⟨fun e hb hk => ?_, fun e d hb hk hd => ?_, fun l d hn hl hk hd => ?_, fun e d hb ho hk hd => ?_, fun l o d h2 h9 hb hk hd => ?_, fun a b c o hb hk => ?_⟩
    · show b_edit_Right (lv_edit_Right k).1 (lv_edit_Right k).2.1 (lv_edit_Right k).2.2.1 (lv_edit_Right k).2.2.2.1 (lv_edit_Right k).2.2.2.2.1 (lv_edit_Right k).2.2.2.2.2 e = _
      unfold b_edit_Right
      have := i2 e 64 hb (by rcases hk with hk | hk; exact .inl (by omega); exact .inr ⟨hk.1, by omega⟩) (by decide)
      rw [show (64 : Int) = ((64 : Nat) : Int) from rfl, this]
      rfl
    · show b_edit_right (lv_edit_Right k).1 (lv_edit_Right k).2.1 (lv_edit_Right k).2.2.1 (lv_edit_Right k).2.2.2.1 (lv_edit_Right k).2.2.2.2.1 (lv_edit_Right k).2.2.2.2.2 e (d : Int) = _
      unfold b_edit_right
      rw [rE_eq]
      by_cases hd0 : d = 0
      · subst hd0
        rw [if_pos rfl]
        rfl
      have ed : ((d : Int) == 0) = false := by rw [beq_eq_false_iff_ne]; omega
      rw [if_neg hd0, ed, cond_false, cond_beq, cond_beq, cond_beq, cond_beq]
      by_cases h0 : e.Kind = 0
      · rw [if_pos h0, if_pos h0, right1_ok hb, Option.bind_some]
        unfold sameE
        rw [beq_iff_eq.2 h0]
        rfl
      rw [if_neg h0, if_neg h0]
      have hk' : 4 * SizeOf.sizeOf e < k + 1 := by rcases hk with hk | hk; exact hk; exact absurd hk.1 h0
      have hw : ∀ t : Tr, Bd t → m_edit_whole t = some (rt t 64 && t.Kind != 10) := fun t ht => by
        unfold m_edit_whole
        rw [right_ok ht]
        cases t.Kind != 10 <;> cases rt t 64 <;> rfl
      by_cases h1 : e.Kind = 1
      · rw [if_pos h1, if_pos h1, right1_ok hb, hw _ hb.old, hw _ hb.new]
        simp only [Option.bind_some]
        generalize none2 e = q0
        generalize noWK e = q1
        generalize noLO e = q2
        generalize (rt e.Old 64 && e.Old.Kind != 10) = q3
        generalize (rt e.New 64 && e.New.Kind != 10) = q4
        revert q0 q1 q2 q3 q4
        decide
      rw [if_neg h1, if_neg h1]
      obtain ⟨d', rfl⟩ : ∃ d', d = d' + 1 := ⟨d - 1, by omega⟩
      have ed' : IntKind.i64.wrap (((d' + 1 : Nat) : Int) - 1) = (d' : Int) := by rw [i64s (by omega) (by omega)]; omega
      rw [ed', Nat.add_sub_cancel]
      by_cases h2 : e.Kind = 2
      · rw [if_pos h2, if_pos h2, right1_ok hb, rightWords_ok hb.w hb.ws, i3 e.Kids d' hb.k (fun x hx => ⟨hb.ks x hx, by have := kidE_lt hx; omega⟩) (by have := edit_pos e; omega) (by omega)]
        simp only [Option.bind_some]
        generalize none2 e = q0
        generalize noWK e = q1
        generalize noLO e = q2
        generalize chk (·.At) okW (-1) e.Words = q3
        generalize chk (·.At) (okK d') (-1) e.Kids = q4
        revert q0 q1 q2 q3 q4
        decide
      rw [if_neg h2, if_neg h2]
      by_cases h3 : e.Kind = 3
      · rw [if_pos h3, if_pos h3, right1_ok hb, i4 e d' hb (fun o ho => by have := opE_lt ho; omega) (by have := edit_pos e; omega) (by omega)]
        simp only [Option.bind_some]
        generalize none2 e = q0
        generalize noWK e = q1
        generalize noLO e = q2
        generalize ((decide (2 ≤ e.List_) && decide (e.List_ ≤ 9)) && ((e.Ops.all fun o => okO e.List_ o (rE o.E d')) && lensB (e.Ops.foldl stR (0, 0)))) = q3
        revert q0 q1 q2 q3
        decide
      · rw [if_neg h3, if_neg h3]
    · show b_edit_rightKids (lv_edit_Right k).1 (lv_edit_Right k).2.1 (lv_edit_Right k).2.2.1 (lv_edit_Right k).2.2.2.1 (lv_edit_Right k).2.2.2.2.1 (lv_edit_Right k).2.2.2.2.2 l (d : Int) = _
      unfold b_edit_rightKids
      rw [loop_chk l (·.At) (okK d) (b_edit_rightKids_L0 (lv_edit_Right k).2.1 l (d : Int)) (.inl ()) (.inr ()) hn (fun p i x hi hx hm => by
        unfold b_edit_rightKids_L0
        simp only
        rw [lt_t hi, cond_true, getI_of hx, Option.bind_some, i2 x.E d (hl x hm).1 (.inl (by have := (hl x hm).2; omega)) hd]
        simp only [Option.bind_some]
        unfold okK okP bne
        simp only
        generalize decide (x.At ≤ p) = q1
        generalize decide (65534 < x.At) = q2
        generalize (x.E.Kind == 0) = q3
        generalize rE x.E d = q4
        cases q1 <;> cases q2 <;> cases q3 <;> cases q4 <;> rfl) (fun p => by unfold b_edit_rightKids_L0; simp only; rw [lt_f]; rfl) (-1), Option.bind_some]
      cases chk (·.At) (okK d) (-1) l <;> rfl
    · show b_edit_rightOps (lv_edit_Right k).1 (lv_edit_Right k).2.1 (lv_edit_Right k).2.2.1 (lv_edit_Right k).2.2.2.1 (lv_edit_Right k).2.2.2.2.1 (lv_edit_Right k).2.2.2.2.2 e (d : Int) = _
      unfold b_edit_rightOps
      rw [list_ok, Option.bind_some]
      by_cases hl : 2 ≤ e.List_ ∧ e.List_ ≤ 9
      · rw [decide_eq_true hl.1, decide_eq_true hl.2, (lenI_ok hb).1]
        rw [loop_all e.Ops (b_edit_rightOps_L0 (lv_edit_Right k).2.2.2.2.1 e (d : Int)) (fun o => okO e.List_ o (rE o.E d) && decide (o.L.length < 1048576)) (.inl ()) (.inr ()) hb.o (fun i x hi hx hm => by
          unfold b_edit_rightOps_L0
          rw [lt_t hi, cond_true, getI_of hx, Option.bind_some, i5 e.List_ x d hl.1 hl.2 ⟨hb.l x hm, hb.os x hm⟩ (by have := ho x hm; omega) hd, Option.bind_some]
          cases okO e.List_ x (rE x.E d) && decide (x.L.length < 1048576) <;> rfl) (by unfold b_edit_rightOps_L0; rw [lt_f]; rfl)]
        have hob := ops_both (l := e.List_) (fun o => rE o.E d) e.Ops (fun o ho => (hb.l o ho).1)
        rw [← hob]
        unfold lensB
        cases e.Ops.all fun o => okO e.List_ o (rE o.E d) && decide (o.L.length < 1048576) with
        | false => rfl
        | true =>
          simp only [Option.bind_some, Bool.and_true, Bool.not_true, cond_false, Bool.true_and, if_true]
          rw [cond_and]
      · have : (decide (2 ≤ e.List_) && decide (e.List_ ≤ 9)) = false := by rw [Bool.and_eq_false_iff, decide_eq_false_iff_not, decide_eq_false_iff_not]; omega
        rw [this]
        rfl
    · show b_edit_rightOp (lv_edit_Right k).1 (lv_edit_Right k).2.1 (lv_edit_Right k).2.2.1 (lv_edit_Right k).2.2.2.1 (lv_edit_Right k).2.2.2.2.1 (lv_edit_Right k).2.2.2.2.2 l o (d : Int) = _
      have hp := edit_pos o.E
      have j6 : ∀ a b c, (lv_edit_Right k).2.2.2.2.2 a b c o = some ((!a || o.N == 0) && ((!b || o.L.length == 0) && (!c || sameE o.E))) := fun a b c => i6 a b c o hb.2 (by omega)
      unfold b_edit_rightOp okO
      rw [j6, j6, j6, cond_beq, cond_beq, cond_beq, cond_beq]
      by_cases h0 : o.Kind = 0
      · rw [if_pos h0, if_pos h0]
        simp only [Option.bind_some, Bool.not_false, Bool.not_true, Bool.true_or, Bool.false_or, Bool.true_and]
        congr 1
        cases hL : o.L.length == 0 with
        | false => simp
        | true =>
          have : o.L.length = 0 := beq_iff_eq.1 hL
          rw [this]
          cases decide (1 ≤ o.N) <;> cases decide (o.N ≤ 1048576) <;> cases sameE o.E <;> rfl
      rw [if_neg h0, if_neg h0]
      by_cases h12 : o.Kind = 1 ∨ o.Kind = 2
      · have e12 : (if o.Kind = 1 then some (Sum.inl ()) else if o.Kind = 2 then some (Sum.inl ()) else if o.Kind = 3 then some (Sum.inr (Sum.inr (Sum.inl ()))) else some (Sum.inr (Sum.inr (Sum.inr ())))) = (some (Sum.inl ()) : Option (Unit ⊕ (Bool ⊕ (Unit ⊕ Unit)))) := by
          rcases h12 with h | h
          · rw [if_pos h]
          · rw [if_neg (by omega), if_pos h]
        rw [e12, if_pos h12, right_ok (bd_of hb.1), rt_of h2 h9, len_pos, len_pos']
        simp only [Option.bind_some]
        generalize (o.N == 0) = q1
        generalize (o.L.length == 0) = q2
        generalize sameE o.E = q3
        generalize decide (o.L.length < 1048576) = q4
        generalize (o.L.all fun t => rt t 63 && okk l t) = q5
        revert q1 q2 q3 q4 q5
        decide
      rw [if_neg h12, if_neg (by omega), if_neg (by omega)]
      by_cases h3 : o.Kind = 3
      · rw [if_pos h3, if_pos h3, desc_ok, i2 o.E d hb.2 (.inl (by omega)) hd]
        simp only [Option.bind_some]
        have hdk : descP l o.E = true → (o.E.Kind != 0) = true := fun h => by
          unfold descP at h
          by_cases k0 : o.E.Kind = 0
          · rw [k0] at h
            repeat' split at h
            all_goals simp_all
          · simp [k0]
        cases hL : o.L.length == 0 with
        | false =>
          cases (o.N == 0) <;> rfl
        | true =>
          have : o.L.length = 0 := beq_iff_eq.1 hL
          rw [this]
          cases hdp : descP l o.E with
          | false => cases (o.N == 0) <;> cases (o.E.Kind != 0) <;> rfl
          | true =>
            rw [hdk hdp]
            cases (o.N == 0) <;> cases rE o.E d <;> rfl
      · rw [if_neg h3, if_neg h3]
        rfl
    · show b_edit_rightOp_1 (lv_edit_Right k).1 (lv_edit_Right k).2.1 (lv_edit_Right k).2.2.1 (lv_edit_Right k).2.2.2.1 (lv_edit_Right k).2.2.2.2.1 (lv_edit_Right k).2.2.2.2.2 a b c o = _
      unfold b_edit_rightOp_1 bne
      rw [len_pos]
      by_cases hK : o.E.Kind = 0
      · rw [i1 o.E hb (.inr ⟨hK, by omega⟩), rE_same hK (by decide), beq_iff_eq.2 hK]
        simp only [Option.bind_some]
        generalize (o.N == 0) = q1
        generalize (o.L.length == 0) = q2
        generalize sameE o.E = q3
        revert a b c q1 q2 q3
        decide
      · rw [same_kind hK, beq_eq_false_iff_ne.2 hK]
        generalize (o.N == 0) = q1
        generalize (o.L.length == 0) = q2
        cases a <;> cases b <;> cases c <;> cases q1 <;> cases q2 <;> rfl
theorem eright_ok {e : Ed} (h : BE e) : m_edit_Right e = some (rE e 64) := lim_eq (4 * SizeOf.sizeOf e + 2) fun k hk => (eright_lv k).1 e h (.inl (by omega))

end Go.Proofs.Ytjeolggpgclgkaa
