/- Plain facts on this seat's mirrors (part BPd); each theorem bears its own conditions. -/
import Derived.Test.YtjeolggpgclgkaaBPc
import Derived.IntWalk
namespace Go.Proofs.Ytjeolggpgclgkaa
open Go.RowKit
set_option linter.unusedVariables false
set_option linter.unusedSimpArgs false
theorem sub_one {α : Type} {l : List α} {i : Nat} {x : α} (hx : l[i]? = some x) (hl : (l.length : Int) ≤ 140737488355328) : subI l (i : Int) (IntKind.i64.wrap ((i : Int) + 1)) = some [x] := by
  have hi : i < l.length := by
    rcases Nat.lt_or_ge i l.length with h' | h'
    · exact h'
    · rw [List.getElem?_eq_none h'] at hx; cases hx
  rw [i64s (by omega) (by omega)]
  unfold subI
  rw [if_pos (by omega)]
  have e1 : ((i : Int) + 1 - (i : Int)).toNat = 1 := by omega
  rw [e1, Int.toNat_natCast, List.drop_eq_getElem_cons hi, List.take_succ_cons, List.take_zero]
  rw [List.getElem?_eq_getElem hi] at hx
  rw [Option.some.inj hx]
theorem eref_lv : ∀ (k : Nat), (∀ (e : Ed) (d : Nat), BE e → 2 * SizeOf.sizeOf e < k → d ≤ 64 → (lv_centoref20_Right k).1 e (d : Int) = some (rE e d)) ∧
    (∀ (l : Int) (o : S_api_Op) (d : Nat), 2 ≤ l → l ≤ 9 → BO o → 2 * SizeOf.sizeOf o.E + 1 < k → d ≤ 64 → (lv_centoref20_Right k).2 l o (d : Int) = some (okO l o (rE o.E d)))
  | 0 => ⟨fun e d _ h => by omega, fun l o d _ _ _ h => by omega⟩
  | k + 1 => by
    obtain ⟨i1, i2⟩ := eref_lv k
    refine ⟨fun e d hb hk hd => ?_, fun l o d h2 h9 hb hk hd => ?_⟩
    · show b_centoref20_Right (lv_centoref20_Right k).1 (lv_centoref20_Right k).2 e (d : Int) = _
      unfold b_centoref20_Right
      rw [rE_eq, none_ok hb.old, none_ok hb.new, wk_pos hb, lo_pos, rWords_ok hb, lenR_ok hb]
      by_cases hd0 : d = 0
      · subst hd0
        rw [if_pos rfl]
        rfl
      have ed : ((d : Int) == 0) = false := by rw [beq_eq_false_iff_ne]; omega
      rw [if_neg hd0, ed, cond_false]
      obtain ⟨d', rfl⟩ : ∃ d', d = d' + 1 := ⟨d - 1, by omega⟩
      have ed' : IntKind.i64.wrap (((d' + 1 : Nat) : Int) - 1) = (d' : Int) := by rw [i64s (by omega) (by omega)]; omega
      by_cases hbad : e.Kind < 0 ∨ 3 < e.Kind
      · have q : cond (decide (e.Kind < 0)) true (decide (3 < e.Kind)) = true := by
          rcases hbad with h | h
          · rw [decide_eq_true h]; rfl
          · rw [decide_eq_true h]; cases decide (e.Kind < 0) <;> rfl
        rw [q, cond_true, if_neg (by omega), if_neg (by omega), if_neg (by omega), if_neg (by omega)]
      have q : cond (decide (e.Kind < 0)) true (decide (3 < e.Kind)) = false := by
        rw [decide_eq_false (by omega), decide_eq_false (by omega)]
        rfl
      rw [q, cond_false]
      simp only [Option.bind_some]
      have hkids : runLoop (b_centoref20_Right_L1 (lv_centoref20_Right k).1 e ((d' + 1 : Nat) : Int)) (-1, 0) = some (if chk (·.At) (okK d') (-1) e.Kids = true then Sum.inr () else Sum.inl ()) :=
        loop_chk e.Kids (·.At) (okK d') (b_centoref20_Right_L1 (lv_centoref20_Right k).1 e ((d' + 1 : Nat) : Int)) (.inl ()) (.inr ()) hb.k (fun p i x hi hx hm => by
          unfold b_centoref20_Right_L1
          simp only
          rw [lt_t hi, cond_true, getI_of hx, Option.bind_some, ed', i1 x.E d' (hb.ks x hm) (by have := kidE_lt hm; omega) (by omega)]
          simp only [Option.bind_some]
          unfold okK okP bne
          simp only
          generalize decide (x.At ≤ p) = q1
          generalize decide (65534 < x.At) = q2
          generalize (x.E.Kind == 0) = q3
          generalize rE x.E d' = q4
          cases q1 <;> cases q2 <;> cases q3 <;> cases q4 <;> rfl) (fun p => by unfold b_centoref20_Right_L1; simp only; rw [lt_f]; rfl) (-1)
      have hnil : e.Ops = [] → runLoop (b_centoref20_Right_L2 (lv_centoref20_Right k).2 e ((d' + 1 : Nat) : Int)) 0 = some (Sum.inr ()) := fun h => runLoop_end (by
        unfold b_centoref20_Right_L2
        rw [h]
        rfl)
      have wk_nil : noWK e = true → e.Words = [] ∧ e.Kids = [] := fun h => by
        unfold noWK at h
        rw [Bool.and_eq_true, beq_iff_eq, beq_iff_eq] at h
        exact ⟨List.eq_nil_of_length_eq_zero h.1, List.eq_nil_of_length_eq_zero h.2⟩
      have lo_nil : noLO e = true → e.List_ = 0 ∧ e.Ops = [] := fun h => by
        unfold noLO at h
        rw [Bool.and_eq_true, beq_iff_eq, beq_iff_eq] at h
        exact ⟨h.1, List.eq_nil_of_length_eq_zero h.2⟩
      rw [Nat.add_sub_cancel]
      by_cases h0 : e.Kind = 0
      · rw [if_pos h0]
        unfold sameE none2
        rw [h0]
        cases hwk : noWK e with
        | false => cases noneT e.Old <;> cases noneT e.New <;> cases noLO e <;> rfl
        | true =>
          cases hlo : noLO e with
          | false => cases noneT e.Old <;> cases noneT e.New <;> rfl
          | true =>
            obtain ⟨w0, k0⟩ := wk_nil hwk
            obtain ⟨l0, o0⟩ := lo_nil hlo
            rw [hkids, hnil o0, w0, k0, o0]
            cases noneT e.Old <;> cases noneT e.New <;> rfl
      rw [if_neg h0]
      by_cases h1 : e.Kind = 1
      · have r1 := rright_ok hb.old (d := 64) (by decide)
        have r2 := rright_ok hb.new (d := 64) (by decide)
        rw [show ((64 : Nat) : Int) = 64 from rfl] at r1 r2
        rw [if_pos h1, h1, r1, r2]
        simp only [Option.bind_some]
        generalize noWK e = q1
        generalize noLO e = q2
        generalize rt e.Old 64 = q3
        generalize rt e.New 64 = q4
        generalize (e.Old.Kind != 10) = q5
        generalize (e.New.Kind != 10) = q6
        cases q1 <;> cases q2 <;> cases q3 <;> cases q4 <;> cases q5 <;> cases q6 <;> rfl
      rw [if_neg h1]
      by_cases h2 : e.Kind = 2
      · rw [if_pos h2, h2]
        unfold none2
        cases hlo : noLO e with
        | false => cases noneT e.Old <;> cases noneT e.New <;> rfl
        | true =>
          obtain ⟨l0, o0⟩ := lo_nil hlo
          rw [hkids, hnil o0, o0]
          generalize chk (·.At) okW (-1) e.Words = q1
          generalize chk (·.At) (okK d') (-1) e.Kids = q2
          cases noneT e.Old <;> cases noneT e.New <;> cases q1 <;> cases q2 <;> rfl
      have h3 : e.Kind = 3 := by omega
      rw [if_neg h2, if_pos h3, h3]
      unfold none2
      cases hwk : noWK e with
      | false => cases noneT e.Old <;> cases noneT e.New <;> rfl
      | true =>
        obtain ⟨w0, k0⟩ := wk_nil hwk
        rw [hkids, w0, k0]
        by_cases hl : 2 ≤ e.List_ ∧ e.List_ ≤ 9
        · have hops : runLoop (b_centoref20_Right_L2 (lv_centoref20_Right k).2 e ((d' + 1 : Nat) : Int)) 0 = some (if (e.Ops.all fun o => okO e.List_ o (rE o.E d')) = true then Sum.inr () else Sum.inl ()) :=
            loop_all e.Ops _ (fun o => okO e.List_ o (rE o.E d')) (Sum.inl () : Unit ⊕ Unit) (Sum.inr ()) hb.o (fun i x hi hx hm => by
              unfold b_centoref20_Right_L2
              rw [lt_t hi, cond_true, getI_of hx, Option.bind_some, ed', i2 e.List_ x d' hl.1 hl.2 ⟨hb.l x hm, hb.os x hm⟩ (by have := opE_lt hm; omega) (by omega), Option.bind_some]
              cases okO e.List_ x (rE x.E d') <;> rfl) (by unfold b_centoref20_Right_L2; rw [lt_f]; rfl)
          rw [hops, decide_eq_true hl.1, decide_eq_true hl.2, decide_eq_false (p := e.List_ < 2) (by omega), decide_eq_false (p := 9 < e.List_) (by omega)]
          unfold lensB
          generalize (e.Ops.all fun o => okO e.List_ o (rE o.E d')) = q1
          generalize decide ((e.Ops.foldl stR (0, 0)).1 < 1048576) = q2
          generalize decide ((e.Ops.foldl stR (0, 0)).2 < 1048576) = q3
          cases noneT e.Old <;> cases noneT e.New <;> cases q1 <;> cases q2 <;> cases q3 <;> rfl
        · have q : cond (decide (e.List_ < 2)) true (decide (9 < e.List_)) = true := by
            by_cases h : e.List_ < 2
            · rw [decide_eq_true h]; rfl
            · rw [decide_eq_true (p := 9 < e.List_) (by omega)]; cases decide (e.List_ < 2) <;> rfl
          have q' : (decide (2 ≤ e.List_) && decide (e.List_ ≤ 9)) = false := by rw [Bool.and_eq_false_iff, decide_eq_false_iff_not, decide_eq_false_iff_not]; omega
          rw [q, q']
          cases noneT e.Old <;> cases noneT e.New <;> rfl
    · show b_centoref20_op (lv_centoref20_Right k).1 (lv_centoref20_Right k).2 l o (d : Int) = _
      have hlen : (o.L.length : Int) ≤ 140737488355328 := by have := hb.1.1; omega
      have hloop : runLoop (b_centoref20_op_L0 l o) 0 = some (if (o.L.all fun t => rt t 63 && okk l t) = true then Sum.inr () else Sum.inl ()) :=
        loop_all o.L _ (fun t => rt t 63 && okk l t) (Sum.inl () : Unit ⊕ Unit) (Sum.inr ()) hlen (fun i x hi hx hm => by
          unfold b_centoref20_op_L0
          have hbx : Bd ⟨l, [], [x]⟩ := bd_of ⟨by simp, fun t ht => by rw [List.mem_singleton.1 ht]; exact hb.1.2 x hm⟩
          have r1 := rright_ok hbx (d := 64) (by decide)
          rw [show ((64 : Nat) : Int) = 64 from rfl, rt_of h2 h9] at r1
          rw [lt_t hi, cond_true, sub_one hx hlen, Option.bind_some, r1, Option.bind_some]
          simp only [List.all_cons, List.all_nil, Bool.and_true, List.length_singleton]
          cases rt x 63 && okk l x <;> rfl) (by unfold b_centoref20_op_L0; rw [lt_f]; rfl)
      unfold b_centoref20_op okO
      rw [same_okE hb.2, i1 o.E d hb.2 (by omega) hd, hloop, len0, len_pos, len_pos']
      simp only [Option.bind_some]
      by_cases h0 : o.Kind = 0
      · rw [if_pos h0, h0]
        generalize decide (1 ≤ o.N) = q1
        generalize decide (o.N ≤ 1048576) = q2
        generalize (o.L.length == 0) = q3
        generalize sameE o.E = q4
        cases q1 <;> cases q2 <;> cases q3 <;> cases q4 <;> rfl
      rw [if_neg h0, beq_eq_false_iff_ne.2 h0, cond_false]
      by_cases h12 : o.Kind = 1 ∨ o.Kind = 2
      · rw [if_pos h12, decide_eq_false (p := o.Kind < 0) (by omega), decide_eq_false (p := 3 < o.Kind) (by omega), decide_eq_true (p := o.Kind < 3) (by omega)]
        unfold bne
        generalize (o.N == 0) = q1
        generalize (o.L.length == 0) = q2
        generalize (o.L.all fun t => rt t 63 && okk l t) = q3
        generalize sameE o.E = q4
        cases q1 <;> cases q2 <;> cases q3 <;> cases q4 <;> rfl
      rw [if_neg h12]
      by_cases h3 : o.Kind = 3
      · rw [if_pos h3, h3]
        unfold bne descP
        by_cases k0 : o.E.Kind = 0
        · rw [k0]
          generalize (o.N == 0) = q1
          generalize (o.L.length == 0) = q2
          cases q1 <;> cases q2 <;> rfl
        rw [beq_eq_false_iff_ne.2 k0]
        by_cases l8 : l = 8
        · rw [if_pos l8, l8]
          unfold bne
          rw [beq_eq_false_iff_ne.2 k0]
          generalize (o.N == 0) = q1
          generalize (o.L.length == 0) = q2
          generalize rE o.E d = q3
          cases q1 <;> cases q2 <;> cases q3 <;> rfl
        rw [if_neg l8]
        by_cases l9 : l = 9
        · rw [if_pos l9, l9]
          generalize (o.N == 0) = q1
          generalize (o.L.length == 0) = q2
          generalize rE o.E d = q3
          generalize (o.E.Kind == 2) = q4
          generalize (o.E.Kind == 1) = q5
          generalize (o.E.Old.Kind == 1) = q6
          generalize (o.E.New.Kind == 1) = q7
          cases q1 <;> cases q2 <;> cases q3 <;> cases q4 <;> cases q5 <;> cases q6 <;> cases q7 <;> rfl
        rw [if_neg l9, decide_eq_true (p := l ≤ 7) (by omega)]
        generalize (o.N == 0) = q1
        generalize (o.L.length == 0) = q2
        cases q1 <;> cases q2 <;> rfl
      rw [if_neg h3]
      have q : cond (cond (o.N != 0) true (decide (o.Kind < 0))) true (decide (3 < o.Kind)) = true := by
        by_cases h : o.Kind < 0
        · rw [decide_eq_true h]; cases o.N != 0 <;> rfl
        · rw [decide_eq_true (p := 3 < o.Kind) (by omega)]; cases cond (o.N != 0) true (decide (o.Kind < 0)) <;> rfl
      rw [q]
      rfl
theorem eref_ok {e : Ed} (h : BE e) {d : Nat} (hd : d ≤ 64) : m_centoref20_Right e (d : Int) = some (rE e d) := lim_eq (2 * SizeOf.sizeOf e + 1) fun k hk => (eref_lv k).1 e d h (by omega) hd

end Go.Proofs.Ytjeolggpgclgkaa
