/- Plain facts on this seat's mirrors (part AP3); each theorem bears its own conditions. -/
import Derived.Test.YtbcgiaijjaocdaaAP2
import Derived.IntWalk
namespace Go.Proofs.Ytbcgiaijjaocdaa
open Go.RowKit
set_option linter.unusedVariables false
set_option linter.unusedSimpArgs false
theorem tr_eta (t : Tr) : (⟨t.Kind, t.Words, t.Kids⟩ : Tr) = t := by cases t; rfl
theorem pathGet_ok {t : Tr} (ht : Bd t) {l : List St} (hl : (l.length : Int) ≤ 140737488355328) (hB : ∀ u, getS t l = some u → Bd u) : m_path_Get t l = some (getR (getS t l)) := by
  have key : ∀ (m i : Nat) (u : Tr), i + m = l.length → runLoop (m_path_Get_L0 l) ((i : Int), u.Kind, u.Words, u.Kids) = some (match getS u (l.drop i) with | none => .inl () | some v => .inr (v.Kind, v.Words, v.Kids)) := fun m => by
    induction m with
    | zero =>
      intro i u hi
      have hi' : i = l.length := by omega
      subst hi'
      rw [List.drop_length]
      exact runLoop_end (by unfold m_path_Get_L0; simp only; rw [lt_f, cond_false]; rfl)
    | succ m ih =>
      intro i u hi
      obtain ⟨s, hs, es⟩ := drop_at (show i < l.length by omega)
      have hst : m_path_Get_L0 l ((i : Int), u.Kind, u.Words, u.Kids) = (match stp u s with | none => some (.inr (.inl ())) | some v => if s.Kind ≠ 0 ∧ l.drop (i + 1) ≠ [] then some (.inr (.inl ())) else some (.inl (((i + 1 : Nat) : Int), v.Kind, v.Words, v.Kids))) := by
        unfold m_path_Get_L0
        simp only
        rw [lt_t (show i < l.length by omega), cond_true, getI_of hs, Option.bind_some, show m_path_step ⟨u.Kind, u.Words, u.Kids⟩ s = _ from step_ok u s, Option.bind_some]
        cases hq : stp u s with
        | none => rfl
        | some v =>
          simp only [Bool.not_true, cond_false]
          rw [i64s (x := (l.length : Int) - 1) (by omega) (by omega), i64s (x := (i : Int) + 1) (by omega) (by omega)]
          have e : decide ((i : Int) < (l.length : Int) - 1) = decide (l.drop (i + 1) ≠ []) := by
            rw [decide_eq_decide]
            rw [Ne, List.drop_eq_nil_iff]
            omega
          rw [e]
          by_cases hk : s.Kind = 0
          · have e1 : (s.Kind != 0) = false := by rw [hk]; rfl
            rw [e1, if_neg (by simp [hk])]; rfl
          · rw [(bne_iff_ne (a := s.Kind) (b := 0)).2 hk]
            by_cases hd : l.drop (i + 1) = []
            · rw [if_neg (by simp [hd]), decide_eq_false (by simp [hd])]; rfl
            · rw [if_pos ⟨hk, hd⟩, decide_eq_true hd]; rfl
      rw [es, getS]
      cases hq : stp u s with
      | none => rw [hq] at hst; exact runLoop_end hst
      | some v =>
        rw [hq] at hst
        simp only at hst ⊢
        by_cases hc : s.Kind ≠ 0 ∧ l.drop (i + 1) ≠ []
        · rw [if_pos hc] at hst ⊢
          exact runLoop_end hst
        · rw [if_neg hc] at hst ⊢
          rw [runLoop_step hst]
          exact ih (i + 1) v (by omega)
  unfold m_path_Get
  have h0 := key l.length 0 t (by omega)
  rw [List.drop_zero] at h0
  rw [show ((0 : Nat) : Int) = 0 from rfl] at h0
  rw [h0, Option.bind_some]
  cases hq : getS t l with
  | none => rfl
  | some u =>
    simp only
    rw [tr_eta, norm_ok (hB u hq)]
    rfl
theorem stp_bd {t u : Tr} {s : St} (ht : Bd t) (h : stp t s = some u) : Bd u := by
  have b0 : Bd ⟨0, [], []⟩ := bd_leaf 0 [] (by simp) (fun x h => by simp at h)
  unfold stp at h
  split at h
  · injection h with h
    cases hq : t.Kids[s.At.toNat]? with
    | none => rw [hq] at h; subst h; exact b0
    | some v => rw [hq] at h; subst h; exact ht.all _ (List.mem_of_getElem? hq)
  · split at h
    · exact ht.all _ (List.mem_of_getElem? h)
    · split at h
      · injection h with h
        subst h
        refine bd_leaf 1 _ (by simp) fun x hx => ?_
        rw [List.mem_singleton.1 hx]
        cases hq : t.Words[s.At.toNat]? with
        | none => simp
        | some v => exact ht.u _ (List.mem_of_getElem? hq)
      · split at h
        · injection h with h
          subst h
          exact bd_leaf _ [] (by simp) (fun x h => by simp at h)
        · cases h
theorem getS_bd : ∀ {l : List St} {t u : Tr}, Bd t → getS t l = some u → Bd u
  | [], t, u, ht, h => by rw [getS] at h; injection h with h; subst h; exact ht
  | s :: l, t, u, ht, h => by
    rw [getS] at h
    cases hq : stp t s with
    | none => rw [hq] at h; cases h
    | some v =>
      rw [hq] at h
      simp only at h
      split at h
      · cases h
      · exact getS_bd (stp_bd ht hq) h
/-- only structs and lists have kids -/
inductive Tame : Tr → Prop
  | mk (t : Tr) (h : ¬ t.Kind = 1 → ¬ (2 ≤ t.Kind ∧ t.Kind ≤ 9) → t.Kids = []) (hk : ∀ k ∈ t.Kids, Tame k) : Tame t
theorem tame_rt : ∀ (n : Nat) (t : Tr) (d : Nat), SizeOf.sizeOf t < n → rt t d = true → Tame t
  | 0, _, _, h, _ => by omega
  | n + 1, t, d, hn, h => by
    rw [rt_eq] at h
    by_cases h0 : t.Kind = 0
    · rw [if_pos h0, Bool.and_eq_true, beq_iff_eq, beq_iff_eq] at h
      have hk := List.eq_nil_of_length_eq_zero h.2
      exact .mk _ (fun _ _ => hk) (by rw [hk]; simp)
    rw [if_neg h0] at h
    by_cases h10 : t.Kind = 10
    · rw [if_pos h10, Bool.and_eq_true, beq_iff_eq, beq_iff_eq] at h
      have hk := List.eq_nil_of_length_eq_zero h.2
      exact .mk _ (fun _ _ => hk) (by rw [hk]; simp)
    rw [if_neg h10] at h
    split at h
    · cases h
    · rename_i hc
      rw [List.all_eq_true] at h
      refine .mk _ (fun h1 h2 => by omega) fun k hk => ?_
      have := h k hk
      rw [Bool.and_eq_true] at this
      exact tame_rt n k (d - 1) (by have := kid_lt hk; omega) this.1
theorem sub_tail {α : Type} (x : α) (l : List α) : subI (x :: l) 1 ((x :: l).length : Int) = some l := by
  rw [subI_ok (by omega) (by simp; omega) (by omega)]
  simp
theorem nrm_one (w : Int) : nrm ⟨1, [w], []⟩ = ⟨1, if w = 0 then [] else [w], []⟩ := by
  rw [nrm_struct rfl]
  by_cases h : w = 0 <;> simp [tr, h]
theorem nrm_empty {k : Int} (h : 2 ≤ k ∧ k ≤ 9) : nrm ⟨k, [], []⟩ = ⟨k, [], []⟩ := by
  rw [nrm_list (by simp only; omega) (by simp only; omega)]; rfl
theorem rget_lv : ∀ (l : List St) (k : Nat) (t : Tr), l.length < k → Bd t → Tame t → lv_centoref31_Get k t l = some (getR (getS t l))
  | _, 0, _, h, _, _ => by omega
  | [], k + 1, t, _, hb, _ => by
    show b_centoref31_Get (lv_centoref31_Get k) t [] = _
    unfold b_centoref31_Get
    rw [rnorm_ok hb]
    rfl
  | s :: l, k + 1, t, hk, hb, htm => by
    have htk : ∀ x ∈ t.Kids, Tame x := by cases htm; assumption
    have hte : ¬ t.Kind = 1 → ¬ (2 ≤ t.Kind ∧ t.Kind ≤ 9) → t.Kids = [] := by cases htm; assumption
    have ih : ∀ x, Bd x → Tame x → lv_centoref31_Get k x l = some (getR (getS x l)) := fun x => rget_lv l k x (by simp at hk; omega)
    have b0 : Bd ⟨0, [], []⟩ := bd_leaf 0 [] (by simp) (fun x h => by simp at h)
    have t0 : Tame ⟨0, [], []⟩ := .mk _ (fun _ _ => rfl) (by simp)
    show b_centoref31_Get (lv_centoref31_Get k) t (s :: l) = _
    unfold b_centoref31_Get
    have e0 : (((s :: l).length : Int) == 0) = false := by rw [beq_eq_false_iff_ne]; simp; omega
    rw [e0, cond_false, show getI (s :: l) 0 = some s from rfl, Option.bind_some, getS]
    by_cases hA : s.At < 0
    · rw [decide_eq_true hA, cond_true, cond_true]
      have : stp t s = none := by unfold stp; rw [if_neg (by omega), if_neg (by omega), if_neg (by omega), if_neg (by omega)]
      rw [this]; rfl
    rw [decide_eq_false hA, cond_false]
    by_cases hS : t.Kind = 1
    · have f1 : (t.Kind == 1) = true := by rw [hS]; rfl
      rw [f1]
      by_cases hB : 65535 ≤ s.At
      · rw [decide_eq_true hB]
        have : stp t s = none := by unfold stp; rw [if_neg (by omega), if_neg (by omega), if_neg (by omega), if_neg (by omega)]
        rw [this]; rfl
      rw [decide_eq_false hB]
      simp only [cond_true, cond_false]
      by_cases k0 : s.Kind = 0
      · have g0 : (s.Kind == 0) = true := by rw [k0]; rfl
        have hstp : stp t s = some ((t.Kids[s.At.toNat]?).getD ⟨0, [], []⟩) := by unfold stp; rw [if_pos ⟨k0, hS, by omega, by omega⟩]
        rw [g0, cond_true, hstp]
        simp only
        rw [if_neg (by omega)]
        by_cases hlt : s.At < (t.Kids.length : Int)
        · obtain ⟨x, h1, h2⟩ := getI_int (xs := t.Kids) (by omega) hlt
          have hm := List.mem_of_getElem? h2
          rw [decide_eq_true hlt, cond_true, h1, h2, Option.bind_some, sub_tail, Option.bind_some, ih x (hb.all x hm) (htk x hm)]
          simp only [Option.bind_some, Option.getD_some, tr_eta]
        · rw [decide_eq_false hlt, cond_false, sub_tail, Option.bind_some, ih _ b0 t0, List.getElem?_eq_none (by omega)]
          simp only [Option.bind_some, Option.getD_none, tr_eta]
      have g0 : (s.Kind == 0) = false := by rw [beq_eq_false_iff_ne]; exact k0
      rw [g0, cond_false]
      by_cases k1 : s.Kind = 1
      · have g1 : (s.Kind == 1) = true := by rw [k1]; rfl
        have hstp : stp t s = some ⟨1, [(t.Words[s.At.toNat]?).getD 0], []⟩ := by unfold stp; rw [if_neg (by omega), if_neg (by omega), if_pos ⟨k1, hS, by omega, by omega⟩]
        rw [g1, cond_true, hstp]
        cases l with
        | nil =>
          simp only [getS, ne_eq, not_true_eq_false, and_false, if_false]
          rw [show ((([s] : List St).length : Int) == 1) = true from rfl]
          simp only [cond_true]
          unfold getR
          simp only
          rw [nrm_one]
          by_cases hlt : s.At < (t.Words.length : Int)
          · obtain ⟨x, h1, h2⟩ := getI_int (xs := t.Words) (by omega) hlt
            rw [decide_eq_true hlt, h1, h2]
            by_cases hx : x = 0
            · subst hx; rfl
            · simp only [cond_true, Option.bind_some, Option.getD_some, if_neg hx, (bne_iff_ne (a := x) (b := 0)).2 hx]
          · rw [decide_eq_false hlt, List.getElem?_eq_none (by omega)]; rfl
        | cons s' l' =>
          simp only
          rw [if_pos ⟨k0, by simp⟩]
          have e1 : (((s :: s' :: l').length : Int) == 1) = false := by rw [beq_eq_false_iff_ne]; simp; omega
          rw [e1]; rfl
      · have hstp : stp t s = none := by unfold stp; rw [if_neg (by omega), if_neg (by omega), if_neg (by omega), if_neg (by omega)]
        have e2 : (decide (2 ≤ t.Kind)) = false := by rw [hS]; rfl
        rw [beq_eq_false_iff_ne.2 k1, cond_false, hstp, e2]
        cases s.Kind == 2 <;> cases (((s :: l).length : Int) == 1) <;> rfl
    · have f1 : (t.Kind == 1) = false := by rw [beq_eq_false_iff_ne]; exact hS
      rw [f1]
      simp only [cond_false]
      by_cases k0 : s.Kind = 0
      · have g0 : (s.Kind == 0) = true := by rw [k0]; rfl
        rw [g0, cond_true]
        by_cases hlt : s.At < (t.Kids.length : Int)
        · obtain ⟨x, h1, h2⟩ := getI_int (xs := t.Kids) (by omega) hlt
          have hm := List.mem_of_getElem? h2
          have hL : 2 ≤ t.Kind ∧ t.Kind ≤ 9 := by
            refine Classical.byContradiction fun hn => ?_
            rw [hte hS hn] at hlt
            simp at hlt; omega
          have hstp : stp t s = some x := by unfold stp; rw [if_neg (by omega), if_pos ⟨k0, hL, by omega, hlt⟩, h2]
          rw [decide_eq_true hlt, cond_true, h1, Option.bind_some, sub_tail, Option.bind_some, ih x (hb.all x hm) (htk x hm), hstp]
          simp only
          rw [if_neg (by omega)]
          simp only [Option.bind_some, tr_eta]
        · have hstp : stp t s = none := by unfold stp; rw [if_neg (by omega), if_neg (by omega), if_neg (by omega), if_neg (by omega)]
          rw [decide_eq_false hlt, hstp]; rfl
      have g0 : (s.Kind == 0) = false := by rw [beq_eq_false_iff_ne]; exact k0
      rw [g0, cond_false]
      by_cases k1 : s.Kind = 1
      · have hstp : stp t s = none := by unfold stp; rw [if_neg (by omega), if_neg (by omega), if_neg (by omega), if_neg (by omega)]
        have g1 : (s.Kind == 1) = true := by rw [k1]; rfl
        rw [hstp, g1]
        cases (((s :: l).length : Int) == 1) <;> rfl
      rw [beq_eq_false_iff_ne.2 k1, cond_false]
      by_cases k2 : s.Kind = 2
      · have g2 : (s.Kind == 2) = true := by rw [k2]; rfl
        rw [g2, cond_true]
        by_cases hC : (2 ≤ t.Kind ∧ t.Kind ≤ 9) ∧ s.At ≤ (t.Kids.length : Int)
        · have hstp : stp t s = some ⟨t.Kind, [], []⟩ := by unfold stp; rw [if_neg (by omega), if_neg (by omega), if_neg (by omega), if_pos ⟨k2, hC.1, by omega, hC.2⟩]
          rw [hstp, decide_eq_true hC.1.1, decide_eq_true hC.1.2, decide_eq_true hC.2]
          cases l with
          | nil =>
            simp only [getS, ne_eq, not_true_eq_false, and_false, if_false]
            rw [show ((([s] : List St).length : Int) == 1) = true from rfl]
            unfold getR
            simp only
            rw [nrm_empty hC.1]
            rfl
          | cons s' l' =>
            simp only
            rw [if_pos ⟨k0, by simp⟩]
            have e1 : (((s :: s' :: l').length : Int) == 1) = false := by rw [beq_eq_false_iff_ne]; simp; omega
            rw [e1]; rfl
        · have hstp : stp t s = none := by unfold stp; rw [if_neg (by omega), if_neg (by omega), if_neg (by omega), if_neg (by omega)]
          rw [hstp]
          have : (cond (cond (cond (((s :: l).length : Int) == 1) (cond (decide (2 ≤ t.Kind)) (decide (t.Kind ≤ 9)) false) false) (decide (s.At ≤ (t.Kids.length : Int))) false) (some (Sum.inr (true, t.Kind, ([] : List Int), ([] : List S_api_Tree)))) (some (Sum.inl ())) : Option (Unit ⊕ (Bool × Int × (List Int) × (List S_api_Tree)))) = some (Sum.inl ()) := by
            by_cases h1 : 2 ≤ t.Kind
            · by_cases h2 : t.Kind ≤ 9
              · rw [decide_eq_false (by omega : ¬ s.At ≤ (t.Kids.length : Int))]
                cases (((s :: l).length : Int) == 1) <;> cases decide (2 ≤ t.Kind) <;> cases decide (t.Kind ≤ 9) <;> rfl
              · rw [decide_eq_false h2]
                cases (((s :: l).length : Int) == 1) <;> cases decide (2 ≤ t.Kind) <;> rfl
            · rw [decide_eq_false h1]
              cases (((s :: l).length : Int) == 1) <;> rfl
          rw [this]; rfl
      · have hstp : stp t s = none := by unfold stp; rw [if_neg (by omega), if_neg (by omega), if_neg (by omega), if_neg (by omega)]
        rw [beq_eq_false_iff_ne.2 k2, hstp]; rfl
theorem rget_ok {t : Tr} {l : List St} (hb : Bd t) (ht : Tame t) : m_centoref31_Get t l = some (getR (getS t l)) := lim_eq (l.length + 1) fun k hk => rget_lv l k t (by omega) hb ht
def t31 : Tr := ⟨1, [1], [⟨4, [], [⟨10, [5], []⟩, ⟨10, [6], []⟩]⟩]⟩
theorem awake31 : m_centolaw31_awake = some true := by
  have b5 : Bd ⟨10, [5], []⟩ := bd_leaf 10 [5] (by simp) (by simp)
  have b6 : Bd ⟨10, [6], []⟩ := bd_leaf 10 [6] (by simp) (by simp)
  have bl : Bd ⟨4, [], [⟨10, [5], []⟩, ⟨10, [6], []⟩]⟩ := .mk _ (by simp) (by simp) (by simp) (fun k h => by
    simp only [List.mem_cons, List.not_mem_nil, or_false] at h
    rcases h with h | h <;> rw [h]
    · exact b5
    · exact b6)
  have bt : Bd t31 := .mk _ (by simp [t31]) (by simp [t31]) (by simp [t31]) (fun k h => by
    simp only [t31, List.mem_cons, List.not_mem_nil, or_false] at h
    rw [h]; exact bl)
  have g1 : getS t31 [⟨0, 0⟩, ⟨0, 1⟩] = some ⟨10, [6], []⟩ := rfl
  have g2 : getS t31 [⟨1, 0⟩] = some ⟨1, [1], []⟩ := rfl
  have g3 : getS t31 [⟨0, 0⟩, ⟨2, 2⟩] = some ⟨4, [], []⟩ := rfl
  have n1 : nrm ⟨10, [6], []⟩ = ⟨10, [6], []⟩ := by rw [nrm_list (by decide) (by decide)]; rfl
  have n2 : nrm ⟨1, [1], []⟩ = ⟨1, [1], []⟩ := by rw [nrm_one]; rfl
  have n3 : nrm ⟨4, [], []⟩ = ⟨4, [], []⟩ := nrm_empty (by decide)
  have p1 := pathGet_ok bt (l := [⟨0, 0⟩, ⟨0, 1⟩]) (by simp) (fun u h => getS_bd bt h)
  have p2 := pathGet_ok bt (l := [⟨1, 0⟩]) (by simp) (fun u h => getS_bd bt h)
  have p3 := pathGet_ok bt (l := [⟨0, 0⟩, ⟨2, 2⟩]) (by simp) (fun u h => getS_bd bt h)
  rw [g1] at p1; rw [g2] at p2; rw [g3] at p3
  unfold getR at p1 p2 p3
  simp only [n1, n2, n3] at p1 p2 p3
  unfold t31 at p1 p2 p3
  unfold m_centolaw31_awake m_centolaw31_awake_1
  simp only [Option.bind_some]
  rw [p1, Option.bind_some, p2, Option.bind_some, p3, Option.bind_some]
  simp only [cond_true]
  rw [same_ok b6 b6, eqT_refl]
  rfl
theorem pathGets_p {t : Tr} (hb : Bd t) {l : List St} (hl : (l.length : Int) ≤ 140737488355328) : m_centolaw31_PathGets t l = some true := by
  obtain ⟨b, h1, _⟩ := few_ok hb
  unfold m_centolaw31_PathGets
  rw [h1, Option.bind_some]
  have r1 := rright_ok hb (d := 64) (by decide)
  rw [show ((64 : Nat) : Int) = 64 from rfl] at r1
  cases b with
  | false => rw [awake31]; rfl
  | true =>
    rw [cond_true, r1, Option.bind_some, Option.bind_some]
    cases hr : rt t 64 with
    | false => rw [awake31]; rfl
    | true =>
      simp only [Bool.not_true, cond_false]
      rw [pathGet_ok hb hl (fun u h => getS_bd hb h), Option.bind_some, rget_ok hb (tame_rt _ t 64 (Nat.lt_succ_self _) hr), Option.bind_some]
      have hB : Bd (getR (getS t l)).1 := by
        cases hq : getS t l with
        | none => exact bd_leaf 0 [] (by simp) (fun x h => by simp at h)
        | some u => exact (getS_bd hb hq).nrm
      rw [same_ok hB hB, eqT_refl, awake31]
      simp
theorem pathCompares_p {a b : List St} (ha : (a.length : Int) ≤ 140737488355328) (hb : (b.length : Int) ≤ 140737488355328) : m_centolaw31_PathCompares a b = some true := by
  unfold m_centolaw31_PathCompares
  rw [compare_ok ha, rcompare_ok ha, compare_ok hb, rsame_ok ha, awake31]
  have hw : IntKind.i64.wrap (0 - cmpL a b) = - cmpL a b := by
    rcases cmpL_cases a b with h | h | h <;> rw [h] <;> rfl
  simp only [Option.bind_some, hw, cmpL_neg a b, cmpL_zero a b]
  simp

end Go.Proofs.Ytbcgiaijjaocdaa
