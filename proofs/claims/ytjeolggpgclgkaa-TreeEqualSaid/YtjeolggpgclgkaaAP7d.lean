/- Plain facts on this seat's mirrors (part AP7d); each theorem bears its own conditions. -/
import Derived.Test.YtjeolggpgclgkaaAP7c
import Derived.IntWalk
namespace Go.Proofs.Ytjeolggpgclgkaa
open Go.RowKit
set_option linter.unusedVariables false
set_option linter.unusedSimpArgs false
/-- how many parts a tree has -/
def pt (t : Tr) : Nat := 1 + t.Words.length + (t.Kids.attach.map fun k => pt k.1).sum
termination_by SizeOf.sizeOf t
decreasing_by exact kid_lt k.2
theorem pt_eq (t : Tr) : pt t = 1 + t.Words.length + (t.Kids.map pt).sum := by
  rw [pt]
  simp only [List.attach_map_val]
theorem shallow_lv : ∀ (k : Nat) (t : Tr) (d left : Int), Bd t → SizeOf.sizeOf t < k → 0 ≤ d → d ≤ 100 → 0 ≤ left → left ≤ 1000000 → ∃ r, lv_centoref07_Shallow k t d left = some r ∧ -1 ≤ r ∧ r ≤ 1000000 ∧ (0 ≤ r → r + pt t ≤ left)
  | 0, t, _, _, _, h, _, _, _, _ => by omega
  | k + 1, t, d, left, hb, hk, hd0, hd1, hl0, hl1 => by
    have ih : ∀ x ∈ t.Kids, ∀ d left : Int, 0 ≤ d → d ≤ 100 → 0 ≤ left → left ≤ 1000000 → ∃ r, lv_centoref07_Shallow k x d left = some r ∧ -1 ≤ r ∧ r ≤ 1000000 ∧ (0 ≤ r → r + pt x ≤ left) := fun x hx d left => shallow_lv k x d left (hb.all x hx) (by have := kid_lt hx; omega)
    have hw := hb.w
    have hkd := hb.k
    show ∃ r, b_centoref07_Shallow (lv_centoref07_Shallow k) t d left = some r ∧ _
    unfold b_centoref07_Shallow
    rw [i64s (x := left - 1) (by omega) (by omega), i64s (by omega) (by omega), pt_eq]
    cases hc : cond (d == 0) true (decide (left - 1 - (t.Words.length : Int) < 0)) with
    | true => exact ⟨-1, rfl, by omega, by omega, fun h => by omega⟩
    | false =>
      rw [cond_false]
      have hd : ¬ d = 0 ∧ 0 ≤ left - 1 - (t.Words.length : Int) := by
        by_cases h : d = 0
        · simp [h] at hc
        · have e : (d == 0) = false := by simp [h]
          rw [e, cond_false, decide_eq_false_iff_not] at hc
          exact ⟨h, by omega⟩
      obtain ⟨r, h1, h2⟩ := runLoop_rule (step := b_centoref07_Shallow_L0 (lv_centoref07_Shallow k) t d)
        (fun s => ∃ j : Nat, s.2 = j ∧ j ≤ t.Kids.length ∧ -1 ≤ s.1 ∧ s.1 ≤ 1000000 ∧ (0 ≤ s.1 → s.1 + (((t.Kids.take j).map pt).sum : Nat) ≤ left - 1 - (t.Words.length : Int)))
        (fun s => t.Kids.length - s.2.toNat) (fun r => -1 ≤ r ∧ r ≤ 1000000 ∧ (0 ≤ r → r + ((t.Kids.map pt).sum : Nat) ≤ left - 1 - (t.Words.length : Int))) (fun s hI => by
          obtain ⟨l, i⟩ := s
          obtain ⟨j, rfl, hj, g1, g2, g3⟩ := hI
          simp only at g1 g2 g3 ⊢
          unfold b_centoref07_Shallow_L0
          simp only
          by_cases hji : j < t.Kids.length
          · rw [lt_t hji, cond_true]
            by_cases hl : 0 ≤ l
            · have e : decide (0 ≤ l) = true := by simp [hl]
              have hx : t.Kids[j]? = some t.Kids[j] := List.getElem?_eq_getElem hji
              obtain ⟨r, q1, q2, q3, q4⟩ := ih t.Kids[j] (List.getElem_mem hji) (d - 1) l (by omega) (by omega) hl g2
              rw [e, cond_true, getI_of hx, Option.bind_some, i64s (by omega) (by omega), q1, Option.bind_some, i64s (by omega) (by omega)]
              refine .inl ⟨_, rfl, ⟨j + 1, by simp only; omega, by omega, q2, q3, fun hr => ?_⟩, by simp only; omega⟩
              have := q4 hr
              have := g3 hl
              rw [List.take_add_one, hx]
              simp only [Option.toList_some, List.map_append, List.map_cons, List.map_nil, List.sum_append, List.sum_cons, List.sum_nil]
              simp only at hr
              omega
            · have e : decide (0 ≤ l) = false := by simp [hl]
              rw [e, cond_false]
              exact .inr ⟨l, rfl, g1, g2, fun h => absurd h hl⟩
          · have hj' : j = t.Kids.length := by omega
            subst hj'
            rw [lt_f, cond_false]
            rw [List.take_length] at g3
            exact .inr ⟨l, rfl, g1, g2, g3⟩) (left - 1 - (t.Words.length : Int), 0) ⟨0, rfl, Nat.zero_le _, by simp only; omega, by simp only; omega, fun _ => by simp⟩
      rw [h1]
      refine ⟨r, rfl, h2.1, h2.2.1, fun hr => ?_⟩
      have := h2.2.2 hr
      omega
theorem getI_mem {α : Type} {xs : List α} {i : Int} {x : α} (h : getI xs i = some x) : x ∈ xs := List.mem_of_getElem? (getI_get h)
theorem shallow_same : ∀ (k k' : Nat) (t : Tr) (d left : Int), SizeOf.sizeOf t < k → SizeOf.sizeOf t < k' → lv_centoref07_Shallow k t d left = lv_centoref07_Shallow k' t d left
  | 0, _, t, _, _, h, _ => by omega
  | k + 1, 0, t, _, _, _, h => by omega
  | k + 1, k' + 1, t, d, left, h, h' => by
    show b_centoref07_Shallow (lv_centoref07_Shallow k) t d left = b_centoref07_Shallow (lv_centoref07_Shallow k') t d left
    have e : b_centoref07_Shallow_L0 (lv_centoref07_Shallow k) t d = b_centoref07_Shallow_L0 (lv_centoref07_Shallow k') t d := funext fun s => by
      unfold b_centoref07_Shallow_L0
      cases hx : getI t.Kids s.2 with
      | none => rfl
      | some x => simp only [Option.bind_some, shallow_same k k' x (IntKind.i64.wrap (d - 1)) s.1 (by have := kid_lt (getI_mem hx); omega) (by have := kid_lt (getI_mem hx); omega)]
    unfold b_centoref07_Shallow
    rw [e]
theorem few_ok {t : Tr} (h : Bd t) : ∃ b, m_centoref07_Few t = some b ∧ (b = true → pt t ≤ 3000) := by
  obtain ⟨r, h1, h2, h3, h4⟩ := shallow_lv (SizeOf.sizeOf t + 1) t 80 3000 h (by omega) (by omega) (by omega) (by omega) (by omega)
  have hr : m_centoref07_Shallow t 80 3000 = some r := lim_eq (SizeOf.sizeOf t + 1) fun k hk => by rw [shallow_same k (SizeOf.sizeOf t + 1) t 80 3000 (by omega) (by omega)]; exact h1
  unfold m_centoref07_Few
  rw [hr, Option.bind_some]
  refine ⟨_, rfl, fun hb => ?_⟩
  have := h4 (by simpa using hb)
  have : 0 ≤ r := by simpa using hb
  omega
/-- what a tree weighs -/
def wt (t : Tr) : Nat :=
  if t.Kind = 0 then 0 else if t.Kind = 10 then 1
  else (if t.Kind = 1 then 1 + (t.Words.length + t.Kids.length) else if t.Kind = 8 then 1 + t.Kids.length else 1) + (t.Kids.attach.map fun k => wt k.1).sum
termination_by SizeOf.sizeOf t
decreasing_by all_goals exact kid_lt k.2
theorem wt_eq (t : Tr) : wt t = if t.Kind = 0 then 0 else if t.Kind = 10 then 1 else (if t.Kind = 1 then 1 + (t.Words.length + t.Kids.length) else if t.Kind = 8 then 1 + t.Kids.length else 1) + (t.Kids.map wt).sum := by
  rw [wt]
  simp only [List.attach_map_val]
theorem sum_le {α : Type} {f g : α → Nat} : ∀ l : List α, (∀ x ∈ l, f x ≤ g x) → (l.map f).sum ≤ (l.map g).sum
  | [], _ => by simp
  | x :: l, h => by
    have := sum_le l fun y hy => h y (.tail _ hy)
    have := h x (.head _)
    simp only [List.map_cons, List.sum_cons]
    omega
theorem sum_add1 {α : Type} (f : α → Nat) : ∀ l : List α, (l.map fun x => f x + 1).sum = (l.map f).sum + l.length
  | [] => by simp
  | x :: l => by
    have := sum_add1 f l
    simp only [List.map_cons, List.sum_cons, List.length_cons, this]
    omega
theorem sum_mul {α : Type} (f : α → Nat) (c : Nat) : ∀ l : List α, (l.map fun x => c * f x).sum = c * (l.map f).sum
  | [] => by simp
  | x :: l => by
    have := sum_mul f c l
    simp only [List.map_cons, List.sum_cons, this, Nat.mul_add]
theorem wt_pt : ∀ (n : Nat) (t : Tr), SizeOf.sizeOf t < n → wt t + 1 ≤ 3 * pt t
  | 0, t, h => by omega
  | n + 1, t, hn => by
    have ih : ∀ x ∈ t.Kids, wt x + 1 ≤ 3 * pt x := fun x hx => wt_pt n x (by have := kid_lt hx; omega)
    have h1 := sum_le (f := fun x => wt x + 1) (g := fun x => 3 * pt x) t.Kids ih
    rw [sum_add1, sum_mul] at h1
    rw [wt_eq, pt_eq]
    split
    · omega
    · split
      · omega
      · split
        · omega
        · split <;> omega
theorem kid_sum {α : Type} {f : α → Nat} {x : α} : ∀ {l : List α}, x ∈ l → f x ≤ (l.map f).sum
  | y :: l, h => by
    simp only [List.map_cons, List.sum_cons]
    rcases List.mem_cons.1 h with rfl | h
    · omega
    · have := kid_sum (f := f) h
      omega
theorem kid_pt {t x : Tr} (h : x ∈ t.Kids) : pt x ≤ pt t := by
  rw [pt_eq t]
  have := kid_sum (f := pt) h
  omega
/-- rounds that add up -/
theorem loop_sum {α : Type} (xs : List α) (f : α → Nat) (s0 B : Nat) (step : Int × Int → Option ((Int × Int) ⊕ Int)) (hl : (xs.length : Int) ≤ 140737488355328) (hs : s0 + (xs.map f).sum ≤ B) (hB : B ≤ 140737488355328)
    (h1 : ∀ (i : Nat) (x : α) (s : Int), i < xs.length → xs[i]? = some x → x ∈ xs → step (s, (i : Int)) = some (.inl (IntKind.i64.wrap (s + f x), IntKind.i64.wrap ((i : Int) + 1))))
    (h2 : ∀ s, step (s, (xs.length : Int)) = some (.inr s)) : runLoop step ((s0 : Int), 0) = some ((s0 + (xs.map f).sum : Nat) : Int) := by
  have key : ∀ (l pre : List α) (s : Nat), xs = pre ++ l → s + (l.map f).sum ≤ B → runLoop step ((s : Int), ((pre.length : Nat) : Int)) = some ((s + (l.map f).sum : Nat) : Int) := fun l => by
    induction l with
    | nil =>
      intro pre s hp _
      rw [List.append_nil] at hp
      subst hp
      exact runLoop_end (by rw [h2]; simp)
    | cons x l ih =>
      intro pre s hp hb
      have hx : xs[pre.length]? = some x := by rw [hp, List.getElem?_append_right (Nat.le_refl _), Nat.sub_self]; rfl
      have hi : pre.length < xs.length := by rw [hp]; simp
      simp only [List.map_cons, List.sum_cons] at hb ⊢
      have h := h1 pre.length x s hi hx (List.mem_of_getElem? hx)
      rw [i64s (by omega) (by omega), i64s (by omega) (by omega)] at h
      have e : (s : Int) + (f x : Int) = ((s + f x : Nat) : Int) := by omega
      have e2 : ((pre.length : Nat) : Int) + 1 = (((pre ++ [x]).length : Nat) : Int) := by simp
      rw [e, e2] at h
      rw [runLoop_step h, ih (pre ++ [x]) (s + f x) (by rw [hp]; simp) (by omega)]
      congr 2
      omega
  exact key xs [] s0 rfl hs
theorem weight_lv : ∀ (k : Nat) (t : Tr), Bd t → pt t ≤ 1000000000 → SizeOf.sizeOf t < k → lv_tree_Weight k t = some ((wt t : Nat) : Int)
  | 0, t, _, _, h => by omega
  | k + 1, t, hb, hp, hk => by
    have ih : ∀ x ∈ t.Kids, lv_tree_Weight k x = some ((wt x : Nat) : Int) := fun x hx => weight_lv k x (hb.all x hx) (Nat.le_trans (kid_pt hx) hp) (by have := kid_lt hx; omega)
    have hw := hb.w
    have hkd := hb.k
    have hwp := wt_pt _ t (Nat.lt_succ_self _)
    show b_tree_Weight (lv_tree_Weight k) t = _
    unfold b_tree_Weight
    rw [wt_eq] at hwp ⊢
    by_cases h0 : t.Kind = 0
    · have e : (t.Kind == 0) = true := by simp [h0]
      rw [e, if_pos h0]; rfl
    have e0 : (t.Kind == 0) = false := by simp [h0]
    rw [e0, cond_false, if_neg h0]
    rw [if_neg h0] at hwp
    by_cases h10 : t.Kind = 10
    · have e : (t.Kind == 10) = true := by simp [h10]
      rw [e, if_pos h10]; rfl
    have e10 : (t.Kind == 10) = false := by simp [h10]
    rw [e10, cond_false, if_neg h10]
    rw [if_neg h10] at hwp
    have main : ∀ s0 : Nat, s0 + (t.Kids.map wt).sum ≤ 140737488355328 → runLoop (b_tree_Weight_L0 (lv_tree_Weight k) t) ((s0 : Int), 0) = some ((s0 + (t.Kids.map wt).sum : Nat) : Int) := fun s0 hs =>
      loop_sum t.Kids wt s0 _ _ (by omega) (Nat.le_refl _) hs (fun i x s hi hx hm => by
        unfold b_tree_Weight_L0
        simp only
        rw [lt_t hi, cond_true, getI_of hx, Option.bind_some, ih x hm, Option.bind_some]) (fun s => by
        unfold b_tree_Weight_L0
        simp only
        rw [lt_f, cond_false])
    by_cases h1 : t.Kind = 1
    · have e : (t.Kind == 1) = true := by simp [h1]
      rw [if_pos h1] at hwp
      rw [e, if_pos h1, cond_true, i64s (x := (t.Words.length : Int) + t.Kids.length) (by omega) (by omega), i64s (by omega) (by omega), Option.bind_some]
      have e2 : (1 : Int) + ((t.Words.length : Int) + t.Kids.length) = ((1 + (t.Words.length + t.Kids.length) : Nat) : Int) := by omega
      simp only [e2]
      rw [main _ (by omega), Option.bind_some]
    have e1 : (t.Kind == 1) = false := by simp [h1]
    rw [e1, cond_false, if_neg h1]
    rw [if_neg h1] at hwp
    by_cases h8 : t.Kind = 8
    · have e : (t.Kind == 8) = true := by simp [h8]
      rw [if_pos h8] at hwp
      rw [e, if_pos h8, cond_true, i64s (by omega) (by omega), Option.bind_some]
      have e2 : (1 : Int) + (t.Kids.length : Int) = ((1 + t.Kids.length : Nat) : Int) := by omega
      simp only [e2]
      rw [main _ (by omega), Option.bind_some]
    · have e : (t.Kind == 8) = false := by simp [h8]
      rw [if_neg h8] at hwp
      rw [e, if_neg h8, cond_false, Option.bind_some]
      have := main 1 (by omega)
      simp only
      rw [show (1 : Int) = ((1 : Nat) : Int) from rfl, this, Option.bind_some]
theorem weight_ok {t : Tr} (h : Bd t) (hp : pt t ≤ 1000000000) : m_tree_Weight t = some ((wt t : Nat) : Int) := lim_eq (SizeOf.sizeOf t + 1) fun k hk => weight_lv k t h hp (by omega)
theorem tr_sum {α : Type} (p : α → Bool) (f : α → Nat) : ∀ l : List α, ((tr p l).map f).sum ≤ (l.map f).sum
  | [] => by simp [tr]
  | x :: l => by
    have ih := tr_sum p f l
    simp only [tr]
    split
    · split <;> simp
    · rename_i y ys he
      rw [he] at ih
      simp only [List.map_cons, List.sum_cons] at ih ⊢
      omega
theorem wt_nrm : ∀ (n : Nat) (t : Tr), SizeOf.sizeOf t < n → wt (nrm t) ≤ wt t
  | 0, t, h => by omega
  | n + 1, t, hn => by
    have ih : ∀ x ∈ t.Kids, wt (nrm x) ≤ wt x := fun x hx => wt_nrm n x (by have := kid_lt hx; omega)
    have h1 : ((t.Kids.map nrm).map wt).sum ≤ (t.Kids.map wt).sum := by
      rw [List.map_map]
      exact sum_le (f := wt ∘ nrm) (g := wt) t.Kids ih
    by_cases h0 : t.Kind = 0
    · rw [nrm_null h0, wt_eq]; simp
    by_cases hk : t.Kind = 1
    · have l1 := tr_len (fun x : Int => x == 0) t.Words
      have l2 := tr_len (fun x : Tr => x.Kind == 0) (t.Kids.map nrm)
      have l3 := tr_sum (fun x : Tr => x.Kind == 0) wt (t.Kids.map nrm)
      rw [List.length_map] at l2
      rw [nrm_struct hk, wt_eq, wt_eq t]
      simp only [hk, if_true, if_neg (show ¬ (1 : Int) = 0 by decide), if_neg (show ¬ (1 : Int) = 10 by decide)]
      exact Nat.add_le_add (Nat.add_le_add (Nat.le_refl _) (Nat.add_le_add l1 l2)) (Nat.le_trans l3 h1)
    · rw [nrm_list h0 hk, wt_eq, wt_eq t]
      simp only [List.length_map]
      rw [if_neg h0, if_neg h0, if_neg hk]
      split
      · omega
      · omega
theorem pt_nrm : ∀ (n : Nat) (t : Tr), SizeOf.sizeOf t < n → pt (nrm t) ≤ pt t
  | 0, t, h => by omega
  | n + 1, t, hn => by
    have ih : ∀ x ∈ t.Kids, pt (nrm x) ≤ pt x := fun x hx => pt_nrm n x (by have := kid_lt hx; omega)
    have h1 : ((t.Kids.map nrm).map pt).sum ≤ (t.Kids.map pt).sum := by
      rw [List.map_map]
      exact sum_le (f := pt ∘ nrm) (g := pt) t.Kids ih
    by_cases h0 : t.Kind = 0
    · rw [nrm_null h0, pt_eq, pt_eq t]; simp; omega
    by_cases hk : t.Kind = 1
    · have l1 := tr_len (fun x : Int => x == 0) t.Words
      have l3 := tr_sum (fun x : Tr => x.Kind == 0) pt (t.Kids.map nrm)
      rw [nrm_struct hk, pt_eq, pt_eq t]
      exact Nat.add_le_add (Nat.add_le_add (Nat.le_refl _) l1) (Nat.le_trans l3 h1)
    · rw [nrm_list h0 hk, pt_eq, pt_eq t]
      exact Nat.add_le_add (Nat.le_refl _) h1
theorem bd_leaf (k : Int) (w : List Int) (hw : w.length ≤ 100) (hu : ∀ x ∈ w, 0 ≤ x ∧ x < 18446744073709551616) : Bd ⟨k, w, []⟩ := .mk _ (by simp only; omega) (by simp) hu (fun k h => by simp at h)
theorem awake7 : m_centolaw07_awake = some true := by
  have b0 : Bd ⟨0, [], []⟩ := bd_leaf 0 [] (by simp) (fun x h => by simp at h)
  have b1 : Bd ⟨1, [5, 0], [⟨0, [], []⟩]⟩ := .mk _ (by simp) (by simp) (by simp) (fun k h => by
    rw [List.mem_singleton.1 h]; exact b0)
  have b2 : Bd ⟨1, [5], []⟩ := bd_leaf 1 [5] (by simp) (by simp)
  have n1 : nrm ⟨1, [5, 0], [⟨0, [], []⟩]⟩ = ⟨1, [5], []⟩ := by
    rw [nrm_struct rfl]
    simp only [List.map_cons, List.map_nil, nrm_null (t := ⟨0, [], []⟩) rfl, tr]
    rfl
  have n2 : nrm ⟨1, [5], []⟩ = ⟨1, [5], []⟩ := by rw [← n1, nrm_nrm]
  have p0 : pt ⟨0, [], []⟩ = 1 := by rw [pt_eq]; rfl
  have p1 : pt ⟨1, [5, 0], [⟨0, [], []⟩]⟩ = 4 := by rw [pt_eq]; simp [p0]
  have p2 : pt ⟨1, [5], []⟩ = 2 := by rw [pt_eq]; rfl
  have w0 : wt ⟨0, [], []⟩ = 0 := by rw [wt_eq]; rfl
  have w1 : wt ⟨1, [5, 0], [⟨0, [], []⟩]⟩ = 4 := by rw [wt_eq]; simp [w0]
  have w2 : wt ⟨1, [5], []⟩ = 2 := by rw [wt_eq]; simp
  unfold m_centolaw07_awake
  rw [norm_ok b1, Option.bind_some, n1, sameW_ok (by simp), Option.bind_some, weight_ok b1 (by omega), Option.bind_some, weight_ok b2 (by omega), Option.bind_some, equal_ok b1 b2, n1, n2, eqT_refl, w1, w2]
  rfl
theorem treeNorms_p {t : Tr} (h : Bd t) : m_centolaw07_TreeNorms t = some true := by
  obtain ⟨b, h1, h2⟩ := few_ok h
  unfold m_centolaw07_TreeNorms
  rw [h1, Option.bind_some]
  cases b with
  | false => rw [awake7]; rfl
  | true =>
    have hp := h2 rfl
    have hp2 := pt_nrm _ t (Nat.lt_succ_self _)
    have hwt := wt_nrm _ t (Nat.lt_succ_self _)
    have hd : decide (((wt (nrm t) : Nat) : Int) ≤ ((wt t : Nat) : Int)) = true := by rw [decide_eq_true_eq]; omega
    rw [Bool.not_true, cond_false, rnorm_ok h, Option.bind_some, norm_ok h, Option.bind_some, same_ok h.nrm h.nrm, eqT_refl, Option.bind_some, cond_true, norm_ok h.nrm, nrm_nrm, Option.bind_some, same_ok h.nrm h.nrm, eqT_refl, Option.bind_some, cond_true,
      equal_ok h.nrm h, nrm_nrm, eqT_refl, Option.bind_some, cond_true, weight_ok h.nrm (by omega), Option.bind_some, weight_ok h (by omega), Option.bind_some, hd, cond_true, awake7]
    rfl
theorem treeEqual_p {a b : Tr} (ha : Bd a) (hb : Bd b) : m_centolaw07_TreeEqual a b = some true := by
  obtain ⟨x, h1, _⟩ := few_ok ha
  obtain ⟨y, h2, _⟩ := few_ok hb
  unfold m_centolaw07_TreeEqual
  rw [h1, Option.bind_some, h2, Option.bind_some, awake7, equal_ok ha hb, Option.bind_some, requal_ok ha hb, Option.bind_some, equal_ok hb ha, Option.bind_some, Option.bind_some, equal_ok ha ha, Option.bind_some, eqT_refl, eqT_comm (nrm b)]
  cases x <;> cases y <;> cases eqT (nrm a) (nrm b) <;> rfl

end Go.Proofs.Ytjeolggpgclgkaa
