/- Plain facts on this seat's mirrors (part BPf); each theorem bears its own conditions. -/
import Derived.Test.YtjeolggpgclgkaaBPe
import Derived.IntWalk
namespace Go.Proofs.Ytjeolggpgclgkaa
open Go.RowKit
set_option linter.unusedVariables false
set_option linter.unusedSimpArgs false
theorem rE_lens {e : Ed} (hb : BE e) {d : Nat} (h : rE e d = true) : e.Ops.foldl stR (0, 0) = e.Ops.foldl stI (0, 0) := by
  have h0 : Sm (0, 0) := by unfold Sm; simp
  have hnil : noLO e = true → e.Ops.foldl stR (0, 0) = e.Ops.foldl stI (0, 0) := fun h => by
    unfold noLO at h
    rw [Bool.and_eq_true, beq_iff_eq, beq_iff_eq] at h
    rw [List.eq_nil_of_length_eq_zero h.2]
    rfl
  rw [rE_eq] at h
  split at h
  · cases h
  split at h
  · unfold sameE at h
    simp only [Bool.and_eq_true] at h
    exact hnil h.2.2.2
  split at h
  · simp only [Bool.and_eq_true] at h
    exact hnil h.1.2
  split at h
  · simp only [Bool.and_eq_true] at h
    exact hnil h.1.2
  split at h
  · simp only [Bool.and_eq_true] at h
    exact (fold_same (fun o => rE o.E (d - 1)) e.Ops (0, 0) h0 (List.all_eq_true.1 h.2.2.1) (fun o ho => (hb.l o ho).1)).1
  · cases h
theorem bd_atom (w : Int) (h : 0 ≤ w ∧ w < 18446744073709551616) : Bd ⟨10, [w], []⟩ := .mk _ (by simp) (by simp) (by simpa using h) (fun k h => by simp at h)
theorem bd_none : Bd ⟨0, [], []⟩ := .mk _ (by simp) (by simp) (by simp) (fun k h => by simp at h)
def e0E : Ed := ⟨0, ⟨0, [], []⟩, ⟨0, [], []⟩, [], [], 0, []⟩
theorem be_none : BE e0E := .mk _ bd_none bd_none (by simp [e0E]) (by simp [e0E]) (by simp [e0E]) (by simp [e0E]) (by simp [e0E]) (by simp [e0E]) (by simp [e0E])
def eAw : Ed := ⟨3, ⟨0, [], []⟩, ⟨0, [], []⟩, [], [], 4, [⟨0, 2, [], e0E⟩, ⟨1, 0, [⟨10, [5], []⟩], e0E⟩, ⟨2, 0, [⟨10, [6], []⟩, ⟨10, [7], []⟩], e0E⟩]⟩
theorem mem3 {α : Type} {a b c : α} {P : α → Prop} (h1 : P a) (h2 : P b) (h3 : P c) : ∀ x ∈ [a, b, c], P x := fun x hx => by
  rcases List.mem_cons.1 hx with rfl | hx
  · exact h1
  rcases List.mem_cons.1 hx with rfl | hx
  · exact h2
  rw [List.mem_singleton.1 hx]
  exact h3
theorem be_aw : BE eAw := by
  refine .mk _ bd_none bd_none (by simp [eAw]) (by simp [eAw]) (by simp [eAw]) (by simp [eAw]) (by simp [eAw]) ?_ ?_
  · refine mem3 ?_ ?_ ?_
    · exact ⟨by simp, fun t h => by simp at h⟩
    · exact ⟨by simp, fun t h => by rw [List.mem_singleton.1 h]; exact bd_atom 5 (by decide)⟩
    · refine ⟨by simp, fun t h => ?_⟩
      rcases List.mem_cons.1 h with rfl | h
      · exact bd_atom 6 (by decide)
      · rw [List.mem_singleton.1 h]; exact bd_atom 7 (by decide)
  · exact mem3 be_none be_none be_none
theorem rt_one (w : Int) (d : Nat) : rt ⟨10, [w], []⟩ d = true := by rw [rt_eq]; rfl
theorem r_aw : rE eAw 64 = true := by
  rw [rE_eq]
  have hall : ((eAw.Ops.all fun o => okO eAw.List_ o (rE o.E (64 - 1))) = true) := by
    refine List.all_eq_true.2 (mem3 ?_ ?_ ?_)
    · rfl
    · unfold okO
      simp only [List.all_cons, List.all_nil, rt_one]
      rfl
    · unfold okO
      simp only [List.all_cons, List.all_nil, rt_one]
      rfl
  rw [hall]
  rfl
theorem awake20 : m_centolaw20_awake = some true := by
  have h1 := eright_ok be_aw
  have h2 := (lenI_ok be_aw).1
  rw [r_aw] at h1
  unfold m_centolaw20_awake m_centolaw20_awake_1
  simp only [Option.bind_some]
  unfold eAw e0E at h1 h2
  rw [h1, h2]
  rfl
theorem editRight_p {e : Ed} (hb : BE e) : m_centolaw20_EditRight e = some true := by
  obtain ⟨b, f1, f2⟩ := few20 hb
  have hr := eref_ok hb (d := 64) (by decide)
  rw [show ((64 : Nat) : Int) = 64 from rfl] at hr
  unfold m_centolaw20_EditRight
  rw [f1, Option.bind_some, awake20, (lenI_ok hb).1, lenR_ok hb, eright_ok hb, hr, ecount_ok hb, rcount_ok hb]
  simp only [Option.bind_some]
  have e1 : (cn e != cn e) = false := by simp
  cases b with
  | false => rfl
  | true =>
    cases hq : rE e 64 with
    | false => rw [e1]; rfl
    | true =>
      rw [rE_lens hb hq, e1, beq_iff_eq.2 rfl, beq_iff_eq.2 rfl]
      rfl
theorem chk_mem {α : Type} {pl : α → Int} {ok : Int → α → Bool} {Q : α → Prop} (h : ∀ p x, ok p x = true → Q x) : ∀ (xs : List α) (p : Int), chk pl ok p xs = true → ∀ x ∈ xs, Q x
  | [], _, _ => fun x hx => by cases hx
  | y :: xs, p, hc => fun x hx => by
    rw [chk, Bool.and_eq_true] at hc
    rcases List.mem_cons.1 hx with rfl | hx
    · exact h p _ hc.1
    · exact chk_mem h xs (pl y) hc.2 x hx
theorem chk_mono {α : Type} {pl : α → Int} {ok ok' : Int → α → Bool} : ∀ (xs : List α) (p : Int), (∀ p, ∀ x ∈ xs, ok p x = true → ok' p x = true) → chk pl ok p xs = true → chk pl ok' p xs = true
  | [], _, _, _ => rfl
  | y :: xs, p, h, hc => by
    rw [chk, Bool.and_eq_true] at hc ⊢
    exact ⟨h p y (.head _) hc.1, chk_mono xs (pl y) (fun p x hx => h p x (.tail _ hx)) hc.2⟩
theorem okO_mono {l : Int} {o : S_api_Op} {r r' : Bool} (hr : r = true → r' = true) (h : okO l o r = true) : okO l o r' = true := by
  unfold okO at h ⊢
  split
  · rename_i h0; rw [if_pos h0] at h; exact h
  rename_i h0
  rw [if_neg h0] at h
  split
  · rename_i h1; rw [if_pos h1] at h; exact h
  rename_i h1
  rw [if_neg h1] at h
  split
  · rename_i h2
    rw [if_pos h2] at h
    simp only [Bool.and_eq_true] at h ⊢
    exact ⟨h.1, h.2.1, h.2.2.1, h.2.2.2.1, hr h.2.2.2.2⟩
  · rename_i h2; rw [if_neg h2] at h; exact h
theorem rE_mono : ∀ (n : Nat) (e : Ed) (d : Nat), SizeOf.sizeOf e < n → rE e d = true → rE e (d + 1) = true
  | 0, e, _, h, _ => by omega
  | n + 1, e, d, hn, h => by
    by_cases hd : d = 0
    · rw [rE_eq, if_pos hd] at h; cases h
    obtain ⟨d', rfl⟩ : ∃ d', d = d' + 1 := ⟨d - 1, by omega⟩
    rw [rE_eq, if_neg hd, Nat.add_sub_cancel] at h
    rw [rE_eq, if_neg (by omega), Nat.add_sub_cancel]
    split
    · rename_i h0; rw [if_pos h0] at h; exact h
    rename_i h0
    rw [if_neg h0] at h
    split
    · rename_i h1; rw [if_pos h1] at h; exact h
    rename_i h1
    rw [if_neg h1] at h
    split
    · rename_i h2
      rw [if_pos h2] at h
      simp only [Bool.and_eq_true] at h ⊢
      refine ⟨h.1, h.2.1, chk_mono _ _ (fun p x hx hk => ?_) h.2.2⟩
      unfold okK okP at hk ⊢
      simp only [Bool.and_eq_true] at hk ⊢
      exact ⟨hk.1, hk.2.1, rE_mono n x.E d' (by have := kidE_lt hx; omega) hk.2.2⟩
    rename_i h2
    rw [if_neg h2] at h
    split
    · rename_i h3
      rw [if_pos h3] at h
      simp only [Bool.and_eq_true] at h ⊢
      refine ⟨h.1, h.2.1, List.all_eq_true.2 fun o ho => ?_, h.2.2.2⟩
      exact okO_mono (rE_mono n o.E d' (by have := opE_lt ho; omega)) (List.all_eq_true.1 h.2.2.1 o ho)
    · rename_i h3; rw [if_neg h3] at h; exact h
theorem rE_parts {e : Ed} (h : rE e 64 = true) : (∀ k ∈ e.Kids, k.E.Kind ≠ 0 ∧ rE k.E 64 = true) ∧ (∀ o ∈ e.Ops, (¬ (o.Kind = 3 ↔ o.E.Kind = 0)) ∧ rE o.E 64 = true) := by
  have hwk : noWK e = true → ∀ k ∈ e.Kids, k.E.Kind ≠ 0 ∧ rE k.E 64 = true := fun h => by
    unfold noWK at h
    rw [Bool.and_eq_true, beq_iff_eq, beq_iff_eq] at h
    rw [List.eq_nil_of_length_eq_zero h.2]
    intro k hk; cases hk
  have hlo : noLO e = true → ∀ o ∈ e.Ops, (¬ (o.Kind = 3 ↔ o.E.Kind = 0)) ∧ rE o.E 64 = true := fun h => by
    unfold noLO at h
    rw [Bool.and_eq_true, beq_iff_eq, beq_iff_eq] at h
    rw [List.eq_nil_of_length_eq_zero h.2]
    intro k hk; cases hk
  rw [rE_eq, if_neg (by decide)] at h
  split at h
  · unfold sameE at h
    simp only [Bool.and_eq_true] at h
    exact ⟨hwk h.2.2.1, hlo h.2.2.2⟩
  split at h
  · simp only [Bool.and_eq_true] at h
    exact ⟨hwk h.1.1, hlo h.1.2⟩
  split at h
  · simp only [Bool.and_eq_true] at h
    refine ⟨chk_mem (fun p x hk => ?_) e.Kids (-1) h.2.2, hlo h.1.2⟩
    unfold okK okP at hk
    simp only [Bool.and_eq_true, bne_iff_ne] at hk
    exact ⟨hk.2.1, rE_mono _ _ _ (Nat.lt_succ_self _) hk.2.2⟩
  split at h
  · simp only [Bool.and_eq_true] at h
    refine ⟨hwk h.1.2, fun o ho => ?_⟩
    have hk := List.all_eq_true.1 h.2.2.1 o ho
    have hs : sameE o.E = true → o.E.Kind = 0 ∧ rE o.E 64 = true := fun q => by
      have k0 : o.E.Kind = 0 := by
        unfold sameE at q
        simp only [Bool.and_eq_true, beq_iff_eq] at q
        exact q.1
      exact ⟨k0, by rw [rE_same k0 (by decide)]; exact q⟩
    unfold okO at hk
    split at hk
    · rename_i h0
      simp only [Bool.and_eq_true] at hk
      have := hs hk.2.2
      exact ⟨by omega, this.2⟩
    split at hk
    · rename_i h0 h1
      simp only [Bool.and_eq_true] at hk
      have := hs hk.2.2.2
      exact ⟨by omega, this.2⟩
    split at hk
    · rename_i h0 h1 h3
      simp only [Bool.and_eq_true, bne_iff_ne] at hk
      exact ⟨fun q => hk.2.2.1 (q.1 h3), rE_mono _ _ _ (Nat.lt_succ_self _) hk.2.2.2.2⟩
    · cases hk
  · cases h
theorem editParts_p {e : Ed} (hb : BE e) : m_centolaw20_EditParts e = some true := by
  obtain ⟨b, f1, f2⟩ := few20 hb
  unfold m_centolaw20_EditParts
  rw [f1, awake20, eright_ok hb]
  simp only [Option.bind_some]
  cases b with
  | false => rfl
  | true =>
    cases hq : rE e 64 with
    | false => rfl
    | true =>
      obtain ⟨p1, p2⟩ := rE_parts hq
      have hc := cn_ce _ e (Nat.lt_succ_self _) hb (by have := f2 rfl; omega)
      have l1 : runLoop (m_centolaw20_EditParts_L0 e) 0 = some (if (e.Kids.all fun _ => true) = true then Sum.inr () else Sum.inl ()) :=
        loop_all e.Kids _ (fun _ => true) (Sum.inl () : Unit ⊕ Unit) (Sum.inr ()) hb.k (fun i x hi hx hm => by
          unfold m_centolaw20_EditParts_L0
          rw [lt_t hi, cond_true, getI_of hx, Option.bind_some, eright_ok (hb.ks x hm), Option.bind_some, (p1 x hm).2, beq_eq_false_iff_ne.2 (p1 x hm).1]
          rfl) (by unfold m_centolaw20_EditParts_L0; rw [lt_f]; rfl)
      have l2 : runLoop (m_centolaw20_EditParts_L1 e) 0 = some (if (e.Ops.all fun _ => true) = true then Sum.inr () else Sum.inl ()) :=
        loop_all e.Ops _ (fun _ => true) (Sum.inl () : Unit ⊕ Unit) (Sum.inr ()) hb.o (fun i x hi hx hm => by
          have hne : ((x.Kind == 3) == (x.E.Kind == 0)) = false := by
            rw [beq_eq_false_iff_ne]
            intro q
            refine (p2 x hm).1 ?_
            rw [← beq_iff_eq, q, beq_iff_eq]
          unfold m_centolaw20_EditParts_L1
          rw [lt_t hi, cond_true, getI_of hx, Option.bind_some, eright_ok (hb.os x hm), Option.bind_some, (p2 x hm).2, hne]
          rfl) (by unfold m_centolaw20_EditParts_L1; rw [lt_f]; rfl)
      have a1 : (e.Kids.all fun _ => true) = true := List.all_eq_true.2 fun _ _ => rfl
      have a2 : (e.Ops.all fun _ => true) = true := List.all_eq_true.2 fun _ _ => rfl
      rw [l1, l2, a1, a2, ecount_ok hb]
      simp only [Option.bind_some]
      rw [decide_eq_true hc.1]
      rfl

end Go.Proofs.Ytjeolggpgclgkaa
