/- Plain facts on this seat's mirrors (part LPc); each theorem bears its own conditions. -/
import Derived.Test.YtkdanjfmobibbaaLPb
import Derived.IntWalk
namespace Go.Proofs.Ytkdanjfmobibbaa
open Go.RowKit
set_option linter.unusedVariables false
set_option linter.unusedSimpArgs false
/-- the last one's kind is not this -/
def nl (l : List Stp) (k : Int) : Prop := ∀ t, l.getLast? = some t → t.Kind ≠ k
theorem putR_zero (l : List Stp) (k : Int) : putR l ⟨k, 0⟩ = l := by unfold putR; rw [if_pos rfl]
theorem putR_new {l : List Stp} {s : Stp} (h : nl l s.Kind) (hn : s.N ≠ 0) : putR l s = l ++ [s] := by
  unfold putR
  rw [if_neg hn]
  cases hl : l.getLast? with
  | none => rw [List.getLast?_eq_none_iff.1 hl]; rfl
  | some t => simp only; rw [if_neg (h t hl)]
theorem nl_snoc {l : List Stp} {s : Stp} {k : Int} (h : s.Kind ≠ k) : nl (l ++ [s]) k := fun t ht => by
  rw [List.getLast?_append] at ht
  simp at ht
  rw [← ht]; exact h
theorem nl_nil (k : Int) : nl [] k := fun t ht => by simp at ht
/-- how the program's and the reference's rounds stand -/
structure R17 (B : Int) (s : A3 × List Stp) (q : Int × Int × List Stp) : Prop where
  sm : sm s.1 B
  d : q.1 = at3 s.1 1
  n : q.2.1 = at3 s.1 2
  o : q.2.2 = if 0 < at3 s.1 0 then s.2 ++ [⟨0, at3 s.1 0⟩] else s.2
  k : 0 < at3 s.1 0 → at3 s.1 1 = 0 ∧ at3 s.1 2 = 0 ∧ nl s.2 0
  g : at3 s.1 0 = 0 → (0 < at3 s.1 1 + at3 s.1 2 ∨ s.2 = []) ∧ nl s.2 1 ∧ nl s.2 2
theorem fold1 (a b c : Int) (o : List Stp) : [0].foldl layF (o, a3 a b c) = (if 0 < a then o ++ [⟨0, a⟩] else o, a3 0 b c) := rfl
theorem fold2 (a b c : Int) (o : List Stp) : [1, 2].foldl layF (o, a3 a b c) = ((if 0 < c then (if 0 < b then o ++ [⟨1, b⟩] else o) ++ [⟨2, c⟩] else (if 0 < b then o ++ [⟨1, b⟩] else o)), a3 a 0 0) := rfl
theorem fold3 (a b c : Int) (o : List Stp) : ([0, 1, 2].foldl layF (o, a3 a b c)).1 = (if 0 < c then (if 0 < b then (if 0 < a then o ++ [⟨0, a⟩] else o) ++ [⟨1, b⟩] else (if 0 < a then o ++ [⟨0, a⟩] else o)) ++ [⟨2, c⟩] else (if 0 < b then (if 0 < a then o ++ [⟨0, a⟩] else o) ++ [⟨1, b⟩] else (if 0 < a then o ++ [⟨0, a⟩] else o))) := rfl
/-- what is put of a gap -/
theorem put_gap {o : List Stp} {b c : Int} (hb : 0 ≤ b) (hc : 0 ≤ c) (h1 : nl o 1) (h2 : nl o 2) : putR (putR o ⟨1, b⟩) ⟨2, c⟩ = (if 0 < c then (if 0 < b then o ++ [⟨1, b⟩] else o) ++ [⟨2, c⟩] else (if 0 < b then o ++ [⟨1, b⟩] else o)) := by
  have e1 : putR o ⟨1, b⟩ = if 0 < b then o ++ [⟨1, b⟩] else o := by
    by_cases h : 0 < b
    · rw [if_pos h]; exact putR_new h1 (by simp only; omega)
    · have : b = 0 := by omega
      subst this
      rw [if_neg h]; exact putR_zero _ _
  rw [e1]
  have h3 : nl (if 0 < b then o ++ [⟨1, b⟩] else o) 2 := by
    split
    · exact nl_snoc (by simp)
    · exact h2
  by_cases h : 0 < c
  · rw [if_pos h]; exact putR_new h3 (by simp only; omega)
  · have : c = 0 := by omega
    subst this
    rw [if_neg h]; exact putR_zero _ _
theorem nl_gap {o : List Stp} {b c : Int} (k : Int) (h : nl o k) (hk : k = 0) : nl (if 0 < c then (if 0 < b then o ++ [⟨1, b⟩] else o) ++ [(⟨2, c⟩ : Stp)] else (if 0 < b then o ++ [⟨1, b⟩] else o)) k := by
  subst hk
  split
  · exact nl_snoc (by simp)
  · split
    · exact nl_snoc (by simp)
    · exact h
theorem step17 {B : Int} {s : A3 × List Stp} {q : Int × Int × List Stp} (h : R17 B s q) (hB : 0 ≤ B ∧ B ≤ 1000000000000) (x : Stp) : R17 (B + 1048576) (stepP s x) (stepR q (some x)) := by
  obtain ⟨g, o⟩ := s
  obtain ⟨d, n, r⟩ := q
  obtain ⟨a, b, c, rfl⟩ := a3_of g
  obtain ⟨hs, hd, hn, ho, hk, hg⟩ := h
  simp only at hs hd hn ho hk hg
  have b0 : 0 ≤ a ∧ a ≤ B := hs 0 (by decide)
  have b1 : 0 ≤ b ∧ b ≤ B := hs 1 (by decide)
  have b2 : 0 ≤ c ∧ c ≤ B := hs 2 (by decide)
  have ed : b = d := hd.symm
  have en : c = n := hn.symm
  have eo : r = if 0 < a then o ++ [⟨0, a⟩] else o := ho
  have hk' : 0 < a → b = 0 ∧ c = 0 ∧ nl o 0 := hk
  have hg' : a = 0 → (0 < b + c ∨ o = []) ∧ nl o 1 ∧ nl o 2 := hg
  subst ed en eo
  unfold stepP stepR
  cases hr : rgt x with
  | false =>
    simp only [hr, Bool.false_eq_true, if_false]
    exact ⟨fun k hk => ⟨(hs k hk).1, Int.le_trans (hs k hk).2 (by omega)⟩, rfl, rfl, rfl, hk, hg⟩
  | true =>
    obtain ⟨h0, h1, h2, h3⟩ := rgt_iff.1 hr
    obtain ⟨kd, N⟩ := x
    simp only at h0 h1 h2 h3
    simp only [hr, if_true]
    have smk : ∀ a' b' c' : Int, 0 ≤ a' ∧ a' ≤ B + 1048576 → 0 ≤ b' ∧ b' ≤ B + 1048576 → 0 ≤ c' ∧ c' ≤ B + 1048576 → sm (a3 a' b' c') (B + 1048576) := fun a' b' c' q0 q1 q2 k hk => by
      rcases k3 hk with rfl | rfl | rfl
      · exact q0
      · exact q1
      · exact q2
    rcases k3 ⟨h0, h1⟩ with rfl | rfl | rfl
    · -- kept
      rw [if_pos rfl, if_neg (by decide), if_neg (by decide), fold2]
      show R17 _ (a3 (IntKind.i64.wrap (a + N)) 0 0, _) (0, 0, _)
      rw [w64 (by omega) (by omega)]
      by_cases ha : 0 < a
      · obtain ⟨rfl, rfl, hnl⟩ := hk' ha
        rw [if_pos ha, putR_zero, putR_zero, if_neg (by decide), if_neg (by decide)]
        have e : putR (o ++ [⟨0, a⟩]) ⟨0, N⟩ = o ++ [⟨0, a + N⟩] := by
          unfold putR
          rw [if_neg (by simp only; omega), List.getLast?_append]
          simp only [List.getLast?_singleton, Option.some_or, if_true, List.dropLast_concat]
          rw [w64 (by omega) (by omega)]
        rw [e]
        refine ⟨smk _ _ _ (by omega) (by omega) (by omega), rfl, rfl, ?_, fun _ => ⟨rfl, rfl, hnl⟩, fun q => ?_⟩
        · show _ = if 0 < a + N then o ++ [⟨0, a + N⟩] else o
          rw [if_pos (by omega)]
        · have : a + N = 0 := q
          omega
      · have ha0 : a = 0 := by omega
        subst ha0
        obtain ⟨hz, hl1, hl2⟩ := hg' rfl
        rw [if_neg (show ¬ (0 : Int) < 0 by decide), put_gap b1.1 b2.1 hl1 hl2, Int.zero_add]
        have hnl : nl (if 0 < c then (if 0 < b then o ++ [⟨1, b⟩] else o) ++ [(⟨2, c⟩ : Stp)] else (if 0 < b then o ++ [⟨1, b⟩] else o)) 0 := by
          rcases hz with hz | hz
          · split
            · exact nl_snoc (by simp)
            · rw [if_pos (by omega)]
              exact nl_snoc (by simp)
          · exact nl_gap 0 (by rw [hz]; exact nl_nil 0) rfl
        refine ⟨smk _ _ _ (by omega) (by omega) (by omega), rfl, rfl, ?_, fun _ => ⟨rfl, rfl, hnl⟩, fun q => ?_⟩
        · show _ = if 0 < N then _ ++ [(⟨0, N⟩ : Stp)] else _
          rw [if_pos (show 0 < N by omega)]
          exact putR_new (s := ⟨0, N⟩) hnl (show N ≠ 0 by omega)
        · have : N = 0 := q
          omega
    · -- deleted
      rw [if_neg (by decide), if_pos rfl, fold1]
      show R17 _ (a3 0 (IntKind.i64.wrap (b + N)) c, _) _
      rw [w64 (by omega) (by omega)]
      have hl : nl (if 0 < a then o ++ [(⟨0, a⟩ : Stp)] else o) 1 ∧ nl (if 0 < a then o ++ [(⟨0, a⟩ : Stp)] else o) 2 := by
        by_cases ha : 0 < a
        · rw [if_pos ha]; exact ⟨nl_snoc (by simp), nl_snoc (by simp)⟩
        · rw [if_neg ha]; exact (hg' (by omega)).2
      refine ⟨smk _ _ _ (by omega) (by omega) (by omega), rfl, rfl, ?_, fun q => ?_, fun _ => ⟨.inl ?_, hl⟩⟩
      · show _ = if (0 : Int) < 0 then _ else _
        rw [if_neg (show ¬ (0 : Int) < 0 by decide)]
      · have : (0 : Int) < 0 := q
        omega
      · show 0 < b + N + c
        omega
    · -- inserted
      rw [if_neg (by decide), if_neg (by decide), if_pos rfl, fold1]
      show R17 _ (a3 0 b (IntKind.i64.wrap (c + N)), _) _
      rw [w64 (by omega) (by omega)]
      have hl : nl (if 0 < a then o ++ [(⟨0, a⟩ : Stp)] else o) 1 ∧ nl (if 0 < a then o ++ [(⟨0, a⟩ : Stp)] else o) 2 := by
        by_cases ha : 0 < a
        · rw [if_pos ha]; exact ⟨nl_snoc (by simp), nl_snoc (by simp)⟩
        · rw [if_neg ha]; exact (hg' (by omega)).2
      refine ⟨smk _ _ _ (by omega) (by omega) (by omega), rfl, rfl, ?_, fun q => ?_, fun _ => ⟨.inl ?_, hl⟩⟩
      · show _ = if (0 : Int) < 0 then _ else _
        rw [if_neg (show ¬ (0 : Int) < 0 by decide)]
      · have : (0 : Int) < 0 := q
        omega
      · show 0 < b + (c + N)
        omega
def finP (s : A3 × List Stp) : List Stp := ([0, 1, 2].foldl layF (s.2, s.1)).1
theorem norm_eq (l : List Stp) (hl : l.length ≤ 300) : normR l = normP l := by
  have key : ∀ (r : List Stp) (i : Nat) (s : A3 × List Stp) (q : Int × Int × List Stp), i + r.length ≤ 300 → R17 ((i : Int) * 1048576) s q →
      ((r.map some ++ [none]).foldl stepR q).2.2 = finP (r.foldl stepP s) := fun r => by
    induction r with
    | nil =>
      intro i s q hi h
      rw [List.map_nil, List.nil_append, List.foldl_cons, List.foldl_nil, List.foldl_nil]
      obtain ⟨g, o⟩ := s
      obtain ⟨d, n, rr⟩ := q
      obtain ⟨a, b, c, rfl⟩ := a3_of g
      obtain ⟨hs, hd, hn, ho, hk, hg⟩ := h
      have b0 : 0 ≤ a ∧ a ≤ _ := hs 0 (by decide)
      have b1 : 0 ≤ b ∧ b ≤ _ := hs 1 (by decide)
      have b2 : 0 ≤ c ∧ c ≤ _ := hs 2 (by decide)
      have ed : b = d := hd.symm
      have en : c = n := hn.symm
      have eo : rr = if 0 < a then o ++ [⟨0, a⟩] else o := ho
      have hg' : a = 0 → (0 < b + c ∨ o = []) ∧ nl o 1 ∧ nl o 2 := hg
      subst ed en eo
      unfold finP
      rw [fold3]
      have hl : nl (if 0 < a then o ++ [(⟨0, a⟩ : Stp)] else o) 1 ∧ nl (if 0 < a then o ++ [(⟨0, a⟩ : Stp)] else o) 2 := by
        by_cases ha : 0 < a
        · rw [if_pos ha]; exact ⟨nl_snoc (by simp), nl_snoc (by simp)⟩
        · rw [if_neg ha]; exact (hg' (by omega)).2
      exact put_gap b1.1 b2.1 hl.1 hl.2
    | cons x r ih =>
      intro i s q hi h
      rw [List.length_cons] at hi
      rw [List.map_cons, List.cons_append, List.foldl_cons, List.foldl_cons]
      refine ih (i + 1) _ _ (by omega) ?_
      have := step17 h (by omega) x
      rw [show (((i + 1 : Nat) : Int)) * 1048576 = (i : Int) * 1048576 + 1048576 by omega]
      exact this
  have h0 : R17 (((0 : Nat) : Int) * 1048576) (a3 0 0 0, []) (0, 0, []) := ⟨sm0, rfl, rfl, rfl, fun h => (by have h : (0 : Int) < 0 := h; omega), fun _ => ⟨.inr rfl, nl_nil _, nl_nil _⟩⟩
  exact key l 0 _ _ (by omega) h0
/-- a step turned round -/
def turn (s : Stp) : Stp := ⟨if s.Kind = 1 ∨ s.Kind = 2 then 3 - s.Kind else s.Kind, s.N⟩
theorem rgt_turn (s : Stp) : rgt (turn s) = rgt s := by
  rw [Bool.eq_iff_iff, rgt_iff, rgt_iff]
  unfold turn
  simp only
  split <;> omega
theorem map_fold {α β : Type} (f : α → β) : ∀ (l : List α) (acc : List β), l.foldl (fun a x => a ++ [f x]) acc = acc ++ l.map f
  | [], acc => by simp
  | x :: l, acc => by rw [List.foldl_cons, map_fold f l, List.append_assoc]; rfl
theorem rback_ok (l : List Stp) (hl : l.length ≤ 300) : m_centoref17_Back l = some (normP l |> fun _ => normP (l.map turn)) := by
  have := (loop_mk l (fun i (a : List Stp) => (i, a)) (fun a x => a ++ [turn x]) id (fun a k => a.length ≤ k) (m_centoref17_Back_L0 l) (fun i a x hi hx hI => by
    unfold m_centoref17_Back_L0
    rw [show decide ((i : Int) < (l.length : Int)) = true from decide_eq_true (by omega), getI_of hx, w64 (x := (i : Int) + 1) (by omega) (by omega)]
    refine ⟨?_, by rw [List.length_append]; simp; omega⟩
    simp only [cond_true, Option.bind_some]
    have e : (bif (bif x.Kind == 1 then true else x.Kind == 2) then some (IntKind.i64.wrap (3 - x.Kind)) else some x.Kind) = some (turn x).Kind := by
      unfold turn
      simp only
      by_cases h1 : x.Kind = 1
      · rw [h1]; rfl
      · by_cases h2 : x.Kind = 2
        · rw [h2]; rfl
        · rw [if_neg (by omega), show (x.Kind == 1) = false from by simpa using h1, show (x.Kind == 2) = false from by simpa using h2]; rfl
    rw [e, Option.bind_some, app1 hI (by omega)]
    rfl) (fun a _ => by
    unfold m_centoref17_Back_L0
    rw [show decide ((l.length : Int) < (l.length : Int)) = false from decide_eq_false (by omega)]
    rfl) [] (Nat.le_refl _)).1
  unfold m_centoref17_Back
  refine (congrArg (fun z => Option.bind z _) this).trans ?_
  rw [map_fold]
  simp only [Option.bind_some, id, List.nil_append]
  rw [rnorm_ok17 _ (by rw [List.length_map]; exact hl), norm_eq _ (by rw [List.length_map]; exact hl)]
  rfl
theorem filt_fold (f : Stp → Stp) : ∀ (l acc : List Stp), l.foldl (fun a x => if rgt x = true then a ++ [f x] else a) acc = acc ++ (l.filter rgt).map f
  | [], acc => by simp
  | x :: l, acc => by
    rw [List.foldl_cons, filt_fold f l]
    cases hr : rgt x with
    | false => rw [List.filter_cons_of_neg (by rw [hr]; decide)]; rfl
    | true => rw [List.filter_cons_of_pos hr, if_pos rfl, List.append_assoc]; rfl
theorem back_ok17 (l : List Stp) (hl : l.length ≤ 300) : m_script_Back l = some (normP (l.map turn)) ∧ (normP (l.map turn)).length ≤ 990 := by
  have := (loop_mk l (fun i (a : List Stp) => (i, a)) (fun a x => if rgt x = true then a ++ [turn x] else a) id (fun a k => a.length ≤ k) (m_script_Back_L0 l ⟨[0, 2, 1], rfl⟩) (fun i a x hi hx hI => by
    unfold m_script_Back_L0
    rw [show decide ((i : Int) < (l.length : Int)) = true from decide_eq_true (by omega), getI_of hx, w64 (x := (i : Int) + 1) (by omega) (by omega)]
    simp only [cond_true, Option.bind_some, may_ok]
    cases hr : rgt x with
    | false => exact ⟨rfl, by simp only [Bool.false_eq_true, if_false]; omega⟩
    | true =>
      refine ⟨?_, by rw [if_pos rfl, List.length_append]; simp; omega⟩
      obtain ⟨h0, h1, h2, h3⟩ := rgt_iff.1 hr
      have e : getI [(0 : Int), 2, 1] x.Kind = some (turn x).Kind := by
        unfold turn
        rcases k3 ⟨h0, h1⟩ with hk | hk | hk <;> simp only [hk] <;> rfl
      simp only [cond_true]
      rw [e, Option.bind_some, app1 hI (by omega)]
      rfl) (fun a _ => by
    unfold m_script_Back_L0
    rw [show decide ((l.length : Int) < (l.length : Int)) = false from decide_eq_false (by omega)]
    rfl) [] (Nat.le_refl _)).1
  rw [filt_fold, List.nil_append] at this
  have hlen : ((l.filter rgt).map turn).length ≤ 300 := by
    rw [List.length_map]
    exact Nat.le_trans (List.length_filter_le _ _) hl
  have e : normP ((l.filter rgt).map turn) = normP (l.map turn) := by
    rw [← normP_filter (l.map turn), List.filter_map, show rgt ∘ turn = rgt from funext rgt_turn]
  obtain ⟨n1, n2⟩ := norm_ok17 ((l.filter rgt).map turn) (by omega)
  rw [e] at n1 n2
  refine ⟨?_, n2⟩
  unfold m_script_Back
  simp only [Option.bind_some]
  refine (congrArg (fun z => Option.bind z _) this).trans ?_
  simp only [Option.bind_some, id, n1]
theorem few_ok (l : List Stp) : m_centolaw17_few l = some (l.take 300) := by
  unfold m_centolaw17_few
  by_cases h : 300 < l.length
  · rw [show decide (300 < (l.length : Int)) = true from decide_eq_true (by omega), subI_ok (by decide) (by decide) (by omega)]
    rfl
  · rw [show decide (300 < (l.length : Int)) = false from decide_eq_false (by omega), List.take_of_length_le (by omega)]
    rfl
theorem normP_aw : normP [⟨2, 1⟩, ⟨1, 1⟩, ⟨1, 2⟩, ⟨0, 1⟩] = [⟨1, 3⟩, ⟨2, 1⟩, ⟨0, 1⟩] := rfl
theorem leads_aw : m_script_Leads [⟨1, 3⟩, ⟨2, 1⟩, ⟨0, 1⟩] [5, 6, 7, 8] [9, 8] = some true := by
  unfold m_script_Leads
  rw [sizes_ok _ (by decide)]
  have e : (if ([⟨1, 3⟩, ⟨2, 1⟩, ⟨0, 1⟩] : List Stp).all rgt = true then (at3 (cnt [⟨1, 3⟩, ⟨2, 1⟩, ⟨0, 1⟩]) 0 + at3 (cnt [⟨1, 3⟩, ⟨2, 1⟩, ⟨0, 1⟩]) 1, at3 (cnt [⟨1, 3⟩, ⟨2, 1⟩, ⟨0, 1⟩]) 0 + at3 (cnt [⟨1, 3⟩, ⟨2, 1⟩, ⟨0, 1⟩]) 2, true) else (0, 0, false)) = (4, 2, true) := by decide
  rw [e, Option.bind_some]
  have s0 : m_script_same [8] [8] = some true := by
    unfold m_script_same
    rw [runLoop_step (s' := 1) (by rfl), runLoop_end (r := .inr ()) (by rfl)]
    rfl
  have l1 : m_script_Leads_L0 [⟨1, 3⟩, ⟨2, 1⟩, ⟨0, 1⟩] ([5, 6, 7, 8], [9, 8], 0) = some (.inl ([8], [9, 8], 1)) := rfl
  have l2 : m_script_Leads_L0 [⟨1, 3⟩, ⟨2, 1⟩, ⟨0, 1⟩] ([8], [9, 8], 1) = some (.inl ([8], [8], 2)) := rfl
  have l3 : m_script_Leads_L0 [⟨1, 3⟩, ⟨2, 1⟩, ⟨0, 1⟩] ([8], [8], 2) = some (.inl ([], [], 3)) := by
    have e0 : subI [(8 : Int)] 0 1 = some [8] := rfl
    have e1 : subI [(8 : Int)] 1 1 = some [] := rfl
    unfold m_script_Leads_L0
    simp only [show getI ([⟨1, 3⟩, ⟨2, 1⟩, ⟨0, 1⟩] : List Stp) 2 = some ⟨0, 1⟩ from rfl, Option.bind_some, e0, s0, List.length_cons, List.length_nil]
    rfl
  have l4 : m_script_Leads_L0 [⟨1, 3⟩, ⟨2, 1⟩, ⟨0, 1⟩] ([], [], 3) = some (.inr (.inr ())) := rfl
  simp only
  rw [runLoop_step l1, runLoop_step l2, runLoop_step l3, runLoop_end l4]
  rfl
theorem awake17 : m_centolaw17_awake = some true := by
  unfold m_centolaw17_awake
  rw [(norm_ok17 _ (by decide)).1, normP_aw, Option.bind_some, theirs_ok _ (by decide), Option.bind_some, same17 _ (by decide), Option.bind_some, leads_aw]
  rfl
theorem scriptNormal_p (l : List Stp) : m_centolaw17_ScriptNormal l = some true := by
  unfold m_centolaw17_ScriptNormal
  have hl : (l.take 300).length ≤ 300 := by rw [List.length_take]; omega
  rw [few_ok, Option.bind_some]
  generalize l.take 300 = l at hl
  rw [mine_ok l (by omega), Option.bind_some, sizes_ok l (by omega), Option.bind_some, rsizes_ok l (by omega), Option.bind_some]
  have hc := count_loop l (by omega)
  obtain ⟨n1, n2⟩ := norm_ok17 l (by omega)
  obtain ⟨b1, b2⟩ := back_ok17 l (by omega)
  simp only [bne_self_eq_false, cond_false, Option.bind_some]
  refine (congrArg (fun z => Option.bind z _) hc).trans ?_
  simp only [Option.bind_some, n1, theirs_ok _ (show (normP l).length ≤ 999 by omega), rnorm_ok17 l hl, norm_eq l hl, same17 _ (show (normP l).length ≤ 2000 by omega), cond_true, b1, theirs_ok _ (show (normP (l.map turn)).length ≤ 999 by omega), rback_ok l hl, same17 _ (show (normP (l.map turn)).length ≤ 2000 by omega), (counts_ok l (by omega)).1, awake17, beq_self_eq_true]

end Go.Proofs.Ytkdanjfmobibbaa
