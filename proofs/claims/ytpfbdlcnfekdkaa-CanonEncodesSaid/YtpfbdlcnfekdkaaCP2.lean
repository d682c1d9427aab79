/- Plain facts on this seat's mirrors (part CP2); each theorem bears its own conditions. -/
import Derived.Test.YtpfbdlcnfekdkaaCP1
import Derived.IntWalk
namespace Go.Proofs.Ytpfbdlcnfekdkaa
open Go.RowKit
set_option linter.unusedVariables false
set_option linter.unusedSimpArgs false
theorem right_lv : ∀ (k : Nat), (∀ t : Tr, Bd t → (2 * SizeOf.sizeOf t + 1 < k ∨ (t.Kind = 10 ∧ 0 < k)) → (lv_tree_Right k).1 t = some (rt t 64)) ∧
    (∀ (t : Tr) (d : Nat), Bd t → 2 * SizeOf.sizeOf t < k → d ≤ 64 → (lv_tree_Right k).2.1 t (d : Int) = some (rq t d)) ∧
    (∀ (l : List Tr) (d : Nat), (∀ x ∈ l, Bd x ∧ 2 * SizeOf.sizeOf x + 1 < k) → (l.length : Int) ≤ 140737488355328 → d ≤ 64 → 1 ≤ k → (lv_tree_Right k).2.2.1 l (d : Int) = some (l.all fun x => rq x d)) ∧
    (∀ (l : List Tr) (c : Int), (∀ x ∈ l, Bd x) → (l.length : Int) ≤ 140737488355328 → 0 ≤ c → c ≤ 5 → 2 ≤ k → (lv_tree_Right k).2.2.2 l c = some (l.all (ra c)))
  | 0 => ⟨fun t _ h => by omega, fun t d _ h => by omega, fun l d _ _ _ h => by omega, fun l c _ _ _ _ h => by omega⟩
  | k + 1 => by
    obtain ⟨i1, i2, i3, i4⟩ := right_lv k
    refine ⟨fun t hb hk => ?_, fun t d hb hk hd => ?_, fun l d hl hn hd hk => ?_, fun l c hl hn h0 h5 hk => ?_⟩
    · show b_tree_Right (lv_tree_Right k).1 (lv_tree_Right k).2.1 (lv_tree_Right k).2.2.1 (lv_tree_Right k).2.2.2 t = _
      unfold b_tree_Right
      rw [len0, len1]
      by_cases h10 : t.Kind = 10
      · have e : (t.Kind == 10) = true := by simp [h10]
        rw [e, cond_true, cond_and, rt_eq, if_neg (by rw [h10]; decide), if_pos h10]
      · have e : (t.Kind == 10) = false := by simp [h10]
        have e2 : (t.Kind != 10) = true := by simp [h10]
        have := i2 t 64 hb (by rcases hk with hk | hk; omega; exact absurd hk.1 h10) (by decide)
        rw [e, cond_false, show (64 : Int) = ((64 : Nat) : Int) from rfl, this, Option.bind_some]
        unfold rq
        rw [e2, Bool.and_true]
    · have hkd := hb.k
      have hw := hb.w
      show b_tree_right (lv_tree_Right k).1 (lv_tree_Right k).2.1 (lv_tree_Right k).2.2.1 (lv_tree_Right k).2.2.2 t (d : Int) = _
      unfold b_tree_right rq
      rw [len0, len0, rt_eq]
      by_cases h0 : t.Kind = 0
      · have e : (t.Kind == 0) = true := by simp [h0]
        have e2 : (t.Kind != 10) = true := by rw [h0]; rfl
        rw [e, e2, cond_true, cond_and, if_pos h0, Bool.and_true]
      have e0 : (t.Kind == 0) = false := by simp [h0]
      rw [e0, cond_false, if_neg h0]
      by_cases hd0 : d = 0
      · subst hd0
        have e : (((0 : Nat) : Int) == 0) = true := rfl
        rw [e, cond_true]
        by_cases h10 : t.Kind = 10
        · simp [h10]
        · rw [if_neg h10, if_pos (by omega), Bool.false_and]
      have ed : ((d : Int) == 0) = false := by rw [beq_eq_false_iff_ne]; omega
      rw [ed, cond_false]
      obtain ⟨d', rfl⟩ : ∃ d', d = d' + 1 := ⟨d - 1, by omega⟩
      have e3 : ((d' + 1 : Nat) : Int) - 1 = (d' : Int) := by omega
      have ih3 := i3 t.Kids d' (fun x hx => ⟨hb.all x hx, by have := kid_lt hx; omega⟩) (by omega) (by omega) (by have := size_pos t; omega)
      rw [i64s (x := ((d' + 1 : Nat) : Int) - 1) (by omega) (by omega), e3, ih3, Nat.add_sub_cancel]
      by_cases h1 : t.Kind = 1
      · have e : (t.Kind == 1) = true := by simp [h1]
        have e2 : (t.Kind != 10) = true := by rw [h1]; rfl
        have e10 : ¬ t.Kind = 10 := by omega
        have ho : ∀ x : Tr, okk t.Kind x = (x.Kind != 10) := fun x => by unfold okk; rw [h1, if_neg (by decide)]; simp
        rw [e, e2, cond_true, if_neg e10, Bool.and_true]
        simp only [ho]
        by_cases hw' : t.Words.length < 65536
        · have q1 : decide ((t.Words.length : Int) < 65536) = true := by rw [decide_eq_true_eq]; omega
          by_cases hk' : t.Kids.length < 65536
          · have q2 : decide ((t.Kids.length : Int) < 65536) = true := by rw [decide_eq_true_eq]; omega
            rw [q1, q2, if_neg (by omega)]
            rfl
          · have q2 : decide ((t.Kids.length : Int) < 65536) = false := by rw [decide_eq_false_iff_not]; omega
            rw [q1, q2, if_pos (by omega)]
            rfl
        · have q1 : decide ((t.Words.length : Int) < 65536) = false := by rw [decide_eq_false_iff_not]; omega
          rw [q1, if_pos (by omega)]
          rfl
      have e1 : (t.Kind == 1) = false := by simp [h1]
      rw [e1, cond_false, list_ok, Option.bind_some]
      by_cases hbad : ¬ (2 ≤ t.Kind ∧ t.Kind ≤ 9) ∨ 0 < t.Words.length ∨ 1048576 ≤ t.Kids.length
      · have q : cond (cond (!(decide (2 ≤ t.Kind) && decide (t.Kind ≤ 9))) true (decide (0 < (t.Words.length : Int)))) true (decide (1048576 ≤ (t.Kids.length : Int))) = true := by
          cases hq : cond (cond (!(decide (2 ≤ t.Kind) && decide (t.Kind ≤ 9))) true (decide (0 < (t.Words.length : Int)))) true (decide (1048576 ≤ (t.Kids.length : Int))) with
          | true => rfl
          | false =>
            have hc : ∀ a b c : Bool, cond (cond (!a) true b) true c = false → a = true ∧ b = false ∧ c = false := by decide
            obtain ⟨z1, z2, z3⟩ := hc _ _ _ hq
            rw [Bool.and_eq_true, decide_eq_true_eq, decide_eq_true_eq] at z1
            rw [decide_eq_false_iff_not] at z2 z3
            omega
        rw [q, cond_true]
        by_cases h10 : t.Kind = 10
        · have e2 : (t.Kind != 10) = false := by simp [h10]
          rw [e2, Bool.and_false]
        · rw [if_neg h10, if_pos (by omega), Bool.false_and]
      · have hg : 2 ≤ t.Kind ∧ t.Kind ≤ 9 ∧ ¬ 0 < t.Words.length ∧ ¬ 1048576 ≤ t.Kids.length := by omega
        have q2 : decide (0 < (t.Words.length : Int)) = false := by rw [decide_eq_false_iff_not]; omega
        have q3 : decide (1048576 ≤ (t.Kids.length : Int)) = false := by rw [decide_eq_false_iff_not]; omega
        have e10 : ¬ t.Kind = 10 := by omega
        have e2 : (t.Kind != 10) = true := by simp [e10]
        rw [decide_eq_true hg.1, decide_eq_true hg.2.1, q2, q3, e2, if_neg e10, if_neg (by omega), Bool.and_true]
        simp only [Bool.and_true, Bool.not_true, cond_false]
        by_cases h8 : t.Kind = 8
        · have e : (t.Kind == 8) = true := by simp [h8]
          have ho : ∀ x : Tr, okk t.Kind x = (x.Kind != 10) := fun x => by unfold okk; rw [h8, if_neg (by decide)]; simp
          rw [e, cond_true, Option.bind_some]
          simp only [ho]
          rfl
        have e8 : (t.Kind == 8) = false := by simp [h8]
        rw [e8, cond_false]
        by_cases h9 : t.Kind = 9
        · have e : (t.Kind == 9) = true := by simp [h9]
          have ho : ∀ x : Tr, (rt x d' && okk t.Kind x) = (rq x d' && x.Kind == 1) := fun x => by
            unfold okk rq
            rw [h9, if_neg (by decide)]
            have : ((9 : Int) != 9) = false := rfl
            rw [this, Bool.false_or, Bool.and_assoc]
          rw [e, cond_true, structs_ok (by omega), Option.bind_some]
          simp only [ho]
          rw [all_and]
          cases t.Kids.all fun x => x.Kind == 1 with
          | false => rw [Bool.and_false]; rfl
          | true => rw [Bool.and_true]; rfl
        · have e : (t.Kind == 9) = false := by simp [h9]
          have hd7 : 2 ≤ t.Kind ∧ t.Kind ≤ 7 := by omega
          rw [e, cond_false, i64s (by omega) (by omega), i4 t.Kids (t.Kind - 2) hb.all (by omega) (by omega) (by omega) (by have := size_pos t; omega), Option.bind_some]
          congr 1
          refine all_congr fun x hx => ?_
          unfold okk ra
          rw [if_pos hd7]
          by_cases hx10 : x.Kind = 10
          · rw [rt_atom hx10 d' 64]
            have : (x.Kind == 10) = true := by simp [hx10]
            rw [this, Bool.true_and, Bool.true_and]
          · have : (x.Kind == 10) = false := by simp [hx10]
            rw [this, Bool.false_and, Bool.false_and, Bool.and_false]
    · show b_tree_allRight (lv_tree_Right k).1 (lv_tree_Right k).2.1 (lv_tree_Right k).2.2.1 (lv_tree_Right k).2.2.2 l (d : Int) = _
      unfold b_tree_allRight
      rw [loop_all l (b_tree_allRight_L0 (lv_tree_Right k).2.1 l (d : Int)) (fun x => rq x d) (.inl ()) (.inr ()) hn (fun i x hi hx hm => by
        unfold b_tree_allRight_L0
        rw [lt_t hi, cond_true, getI_of hx, Option.bind_some, i2 x d (hl x hm).1 (by have := (hl x hm).2; omega) hd, Option.bind_some]
        cases rq x d <;> rfl) (by unfold b_tree_allRight_L0; rw [lt_f]; rfl), Option.bind_some]
      cases l.all fun x => rq x d <;> rfl
    · show b_tree_allAtoms (lv_tree_Right k).1 (lv_tree_Right k).2.1 (lv_tree_Right k).2.2.1 (lv_tree_Right k).2.2.2 l c = _
      unfold b_tree_allAtoms
      rw [loop_all l (b_tree_allAtoms_L0 (lv_tree_Right k).1 l c) (ra c) (.inl ()) (.inr ()) hn (fun i x hi hx hm => by
        unfold b_tree_allAtoms_L0 ra
        rw [lt_t hi, cond_true, getI_of hx, Option.bind_some]
        by_cases hx10 : x.Kind = 10
        · have e : (x.Kind == 10) = true := by simp [hx10]
          have e2 : (x.Kind != 10) = false := by simp [hx10]
          rw [e, e2, cond_false, i1 x (hl x hm) (.inr ⟨hx10, by omega⟩), Option.bind_some, Bool.true_and]
          cases hr : rt x 64 with
          | false => rfl
          | true =>
            obtain ⟨w, hw⟩ := rt_atom_w hx10 hr
            have hu := (hl x hm).u w (by rw [hw]; exact .head _)
            have hg0 : getI [w] (0 : Int) = some w := rfl
            rw [cond_true, hw, hg0, Option.bind_some, wfits_ok h0 h5 hu.1, Option.bind_some]
            simp only [cond_false, List.headD_cons, Bool.true_and, Bool.not_true]
            cases fitsP c w <;> rfl
        · have e : (x.Kind == 10) = false := by simp [hx10]
          have e2 : (x.Kind != 10) = true := by simp [hx10]
          rw [e, e2]
          rfl) (by unfold b_tree_allAtoms_L0; rw [lt_f]; rfl), Option.bind_some]
      cases l.all (ra c) <;> rfl
theorem right_ok {t : Tr} (h : Bd t) : m_tree_Right t = some (rt t 64) := lim_eq (2 * SizeOf.sizeOf t + 2) fun k hk => (right_lv k).1 t h (.inl (by omega))

/-- rounds over a list with something carried along -/
theorem loop_fold {α S R σ : Type} (xs : List α) (mk : S → Int → σ) (f : S → α → S) (out : S → R) (I : S → Prop) (step : σ → Option (σ ⊕ R)) (hl : (xs.length : Int) ≤ 140737488355328)
    (h1 : ∀ (s : S) (i : Nat) (x : α), I s → i < xs.length → xs[i]? = some x → x ∈ xs → I (f s x) ∧ step (mk s (i : Int)) = some (.inl (mk (f s x) (IntKind.i64.wrap ((i : Int) + 1))))) (h2 : ∀ s, I s → step (mk s (xs.length : Int)) = some (.inr (out s))) (s : S) (hs : I s) : runLoop step (mk s 0) = some (out (xs.foldl f s)) ∧ I (xs.foldl f s) := by
  have key : ∀ (ys : List α) (i : Nat) (s : S), I s → xs.drop i = ys → i ≤ xs.length → runLoop step (mk s (i : Int)) = some (out (ys.foldl f s)) ∧ I (ys.foldl f s) := fun ys => by
    induction ys with
    | nil =>
      intro i s hI h hi
      have : i = xs.length := by
        have := congrArg List.length h
        rw [List.length_drop, List.length_nil] at this
        omega
      subst this
      exact ⟨runLoop_end (h2 s hI), hI⟩
    | cons x ys ih =>
      intro i s hI h hi
      have hx : xs[i]? = some x := by
        have := congrArg (fun l => l[0]?) h
        simpa using this
      have hi' : i < xs.length := by
        rcases Nat.lt_or_ge i xs.length with h' | h'
        · exact h'
        · rw [List.getElem?_eq_none h'] at hx; cases hx
      obtain ⟨hI', hs⟩ := h1 s i x hI hi' hx (List.mem_of_getElem? hx)
      have hd : xs.drop (i + 1) = ys := by
        have := congrArg List.tail h
        rwa [List.tail_drop, List.tail_cons] at this
      have e1 : (i : Int) + 1 = ((i + 1 : Nat) : Int) := by omega
      rw [i64s (by omega) (by omega), e1] at hs
      rw [runLoop_step hs]
      exact ih (i + 1) (f s x) hI' hd (by omega)
  exact key xs 0 s hs rfl (Nat.zero_le _)
def n0T : Tr := ⟨0, [], []⟩
/-- rounds that tell each kid anew -/
theorem loop_map {α β : Type} (xs : List α) (f : α → β) (step : Int × List β → Option ((Int × List β) ⊕ List β)) (acc : List β) (hl : (xs.length : Int) ≤ 140737488355328)
    (h1 : ∀ (i : Nat) (x : α) (out : List β), i < xs.length → xs[i]? = some x → x ∈ xs → out.length = acc.length + i → step ((i : Int), out) = some (.inl (IntKind.i64.wrap ((i : Int) + 1), out ++ [f x])))
    (h2 : ∀ out, step ((xs.length : Int), out) = some (.inr out)) : runLoop step (0, acc) = some (acc ++ xs.map f) := by
  have key : ∀ m i, i + m = xs.length → runLoop step ((i : Int), acc ++ (xs.take i).map f) = some (acc ++ xs.map f) := fun m => by
    induction m with
    | zero =>
      intro i hi
      have hi' : i = xs.length := by omega
      subst hi'
      rw [List.take_length]
      exact runLoop_end (h2 _)
    | succ m ih =>
      intro i hi
      have hx : xs[i]? = some xs[i] := List.getElem?_eq_getElem (by omega)
      have h := h1 i _ (acc ++ (xs.take i).map f) (by omega) hx (List.mem_of_getElem? hx) (by rw [List.length_append, List.length_map, List.length_take]; omega)
      rw [i64s (by omega) (by omega)] at h
      rw [runLoop_step h]
      have e : acc ++ (xs.take i).map f ++ [f xs[i]] = acc ++ (xs.take (i + 1)).map f := by
        rw [List.take_add_one, hx, List.map_append, List.append_assoc]
        rfl
      rw [e]
      exact ih (i + 1) (by omega)
  have := key xs.length 0 (by omega)
  simpa using this
theorem okk_nrm {k : Int} {t : Tr} (h : okk k t = true) : okk k (nrm t) = true := by
  unfold okk at h ⊢
  rw [nrm_kind]
  split
  · rename_i hk
    rw [if_pos hk, Bool.and_eq_true, beq_iff_eq] at h
    rw [nrm_list (by omega) (by omega), h.1]
    simp only [BEq.rfl, Bool.true_and]
    exact h.2
  · rename_i hk
    rw [if_neg hk] at h
    exact h
theorem rt_nrm : ∀ (n : Nat) (t : Tr) (d : Nat), SizeOf.sizeOf t < n → rt t d = true → rt (nrm t) d = true
  | 0, _, _, h, _ => by omega
  | n + 1, t, d, hn, h => by
    have hk := nrm_kind t
    by_cases h0 : t.Kind = 0
    · rw [nrm_null h0, rt_eq, if_pos rfl]; rfl
    rw [rt_eq, if_neg h0] at h
    by_cases h10 : t.Kind = 10
    · rw [if_pos h10] at h
      rw [nrm_list h0 (by omega), rt_eq, if_neg h0, if_pos h10]
      simp only [List.length_map]
      exact h
    rw [if_neg h10] at h
    by_cases hc : t.Kind < 0 ∨ 10 < t.Kind ∨ d = 0 ∨ 65536 ≤ t.Words.length ∨ (t.Kind = 1 ∧ 65536 ≤ t.Kids.length) ∨ 1048576 ≤ t.Kids.length ∨ (1 < t.Kind ∧ 0 < t.Words.length)
    · rw [if_pos hc] at h; cases h
    rw [if_neg hc, List.all_eq_true] at h
    have hkid : ∀ x ∈ t.Kids, (rt (nrm x) (d - 1) && okk t.Kind (nrm x)) = true := fun x hx => by
      have := h x hx
      rw [Bool.and_eq_true] at this ⊢
      exact ⟨rt_nrm n x (d - 1) (by have := kid_lt hx; omega) this.1, okk_nrm this.2⟩
    by_cases h1 : t.Kind = 1
    · obtain ⟨W, K, e1, lW, lK, mK⟩ : ∃ W K, nrm t = ⟨1, W, K⟩ ∧ W.length ≤ t.Words.length ∧ K.length ≤ t.Kids.length ∧ ∀ x ∈ K, x ∈ t.Kids.map nrm :=
        ⟨_, _, nrm_struct h1, tr_len _ _, by have h := tr_len (fun x : Tr => x.Kind == 0) (t.Kids.map nrm); rw [List.length_map] at h; exact h, fun x hx => tr_mem hx⟩
      rw [e1, rt_eq]
      simp only
      rw [if_neg (by decide), if_neg (by decide), if_neg (by omega), List.all_eq_true]
      intro x hx
      obtain ⟨y, hy, rfl⟩ := List.mem_map.1 (mK x hx)
      rw [← h1]
      exact hkid y hy
    · rw [nrm_list h0 h1, rt_eq]
      simp only [List.length_map]
      rw [if_neg h0, if_neg h10, if_neg hc, List.all_eq_true]
      intro x hx
      obtain ⟨y, hy, rfl⟩ := List.mem_map.1 hx
      exact hkid y hy
theorem rtN {t : Tr} {d : Nat} (h : rt t d = true) : rt (nrm t) d = true := rt_nrm _ t d (Nat.lt_succ_self _) h
/-- a list's kid at a place; behind its end: nothing -/
def atD {α : Type} (z : α) (l : List α) (i : Nat) : α := (l[i]?).getD z
def p0 (x : Int) : Bool := x == 0
def pT (x : Tr) : Bool := x.Kind == 0
instance decTr : DecidableEq Tr := fun a b => decidable_of_iff (eqT a b = true) eqT_iff
/-- a tree without what is in vain -/
def NT (t : Tr) : Prop := nrm t = t
theorem NT.of (t : Tr) : NT (nrm t) := nrm_nrm t
theorem NT.z : NT n0T := nrm_null rfl
theorem NT.kids {t : Tr} (h : NT t) : ∀ k ∈ t.Kids, NT k := fun k hk => by
  unfold NT at h
  rw [← h] at hk
  by_cases h0 : t.Kind = 0
  · rw [nrm_null h0] at hk; cases hk
  by_cases h1 : t.Kind = 1
  · rw [nrm_struct h1] at hk
    obtain ⟨y, _, rfl⟩ := List.mem_map.1 (tr_mem hk)
    exact NT.of y
  · rw [nrm_list h0 h1] at hk
    obtain ⟨y, _, rfl⟩ := List.mem_map.1 hk
    exact NT.of y
theorem NT.map {l : List Tr} (h : ∀ k ∈ l, NT k) : l.map nrm = l := by
  conv => rhs; rw [← List.map_id l]
  exact List.map_congr_left fun x hx => h x hx
theorem NT.words {t : Tr} (h : NT t) (h1 : t.Kind = 1) : tr p0 t.Words = t.Words ∧ tr pT t.Kids = t.Kids := by
  have hk := NT.map h.kids
  unfold NT at h
  rw [nrm_struct h1] at h
  have hw := congrArg S_api_Tree.Words h
  have hk2 := congrArg S_api_Tree.Kids h
  simp only at hw hk2
  rw [hk] at hk2
  exact ⟨hw, hk2⟩
/-- words in range -/
inductive Rg : Tr → Prop
  | mk (t : Tr) (h3 : ∀ w ∈ t.Words, 0 ≤ w ∧ w < 18446744073709551616) (h4 : ∀ k ∈ t.Kids, Rg k) : Rg t
theorem Rg.u {t : Tr} (h : Rg t) : ∀ w ∈ t.Words, 0 ≤ w ∧ w < 18446744073709551616 := by cases h; assumption
theorem Rg.all {t : Tr} (h : Rg t) : ∀ k ∈ t.Kids, Rg k := by cases h; assumption
theorem Rg.z : Rg n0T := .mk _ (by simp [n0T]) (by simp [n0T])
theorem Rg.of : ∀ (n : Nat) (t : Tr), SizeOf.sizeOf t < n → Bd t → Rg t
  | 0, _, h, _ => by omega
  | n + 1, t, hn, h => .mk _ h.u fun k hk => Rg.of n k (by have := kid_lt hk; omega) (h.all k hk)
theorem Bd.rg {t : Tr} (h : Bd t) : Rg t := Rg.of _ t (Nat.lt_succ_self _) h
/-- right lists, and kids, as far as it matters -/
inductive TX : Tr → Prop
  | mk (t : Tr) (h1 : 2 ≤ t.Kind ∧ t.Kind ≤ 9 → t.Words = []) (h9 : t.Kind = 9 → ∀ k ∈ t.Kids, k.Kind = 1) (ih : ∀ k ∈ t.Kids, TX k) : TX t
theorem TX.w {t : Tr} (h : TX t) : 2 ≤ t.Kind ∧ t.Kind ≤ 9 → t.Words = [] := by cases h; assumption
theorem TX.s {t : Tr} (h : TX t) : t.Kind = 9 → ∀ k ∈ t.Kids, k.Kind = 1 := by cases h; assumption
theorem TX.all {t : Tr} (h : TX t) : ∀ k ∈ t.Kids, TX k := by cases h; assumption
theorem TX.z : TX n0T := .mk _ (fun _ => rfl) (fun h => by simp [n0T] at h) (by simp [n0T])
theorem TX.nn : ∀ (n : Nat) (t : Tr), SizeOf.sizeOf t < n → TX t → TX (nrm t)
  | 0, _, h, _ => by omega
  | n + 1, t, hn, h => by
    by_cases h0 : t.Kind = 0
    · rw [nrm_null h0]; exact TX.z
    by_cases h1 : t.Kind = 1
    · rw [nrm_struct h1]
      refine .mk _ (fun h => by simp only at h; omega) (fun h => by simp only at h; omega) fun k hk => ?_
      obtain ⟨y, hy, rfl⟩ := List.mem_map.1 (tr_mem hk)
      exact TX.nn n y (by have := kid_lt hy; omega) (h.all y hy)
    · rw [nrm_list h0 h1]
      refine .mk _ h.w (fun h9 k hk => ?_) fun k hk => ?_
      · obtain ⟨y, hy, rfl⟩ := List.mem_map.1 hk
        rw [nrm_kind]; exact h.s h9 y hy
      · obtain ⟨y, hy, rfl⟩ := List.mem_map.1 hk
        exact TX.nn n y (by have := kid_lt hy; omega) (h.all y hy)
theorem TX.n {t : Tr} (h : TX t) : TX (nrm t) := TX.nn _ t (Nat.lt_succ_self _) h
theorem atD_mem {α : Type} {z : α} {l : List α} {i : Nat} : atD z l i ∈ l ∨ atD z l i = z := by
  unfold atD
  cases h : l[i]? with
  | none => exact .inr rfl
  | some x => exact .inl (List.mem_of_getElem? h)
theorem atD_rg {l : List Int} (h : ∀ x ∈ l, 0 ≤ x ∧ x < 18446744073709551616) (i : Nat) : 0 ≤ atD 0 l i ∧ atD 0 l i < 18446744073709551616 := by
  rcases atD_mem (z := (0 : Int)) (l := l) (i := i) with q | q
  · exact h _ q
  · rw [q]; omega
/-- a good tree without what is in vain -/
structure GT (t : Tr) : Prop where
  n : NT t
  g : Rg t
  x : TX t
theorem GT.z : GT n0T := ⟨NT.z, Rg.z, TX.z⟩
theorem GT.all {t : Tr} (h : GT t) : ∀ k ∈ t.Kids, GT k := fun k hk => ⟨h.n.kids k hk, h.g.all k hk, h.x.all k hk⟩
theorem GT.of {t : Tr} (hb : Bd t) (hx : TX t) : GT (nrm t) := ⟨NT.of t, hb.nrm.rg, hx.n⟩
def both {α : Type} (f : α → α → Option α) : Option α → Option α → Option α
  | some x, some y => f x y
  | some x, none => some x
  | none, y => y
def Rise {α : Type} (pl : α → Int) (l : List α) : Prop := l.Pairwise (fun a b => pl a < pl b) ∧ ∀ x ∈ l, 0 ≤ pl x
theorem Rise.tail {α : Type} {pl : α → Int} {x : α} {l : List α} (h : Rise pl (x :: l)) : Rise pl l := ⟨(List.pairwise_cons.1 h.1).2, fun y hy => h.2 y (.tail _ hy)⟩
theorem GT.w {t : Tr} (h : GT t) (j : Nat) : 0 ≤ atD 0 t.Words j ∧ atD 0 t.Words j < 18446744073709551616 := atD_rg h.g.u j
theorem w_l (a b : Int) : IntKind.i64.wrap (IntKind.i64.wrap a + b) = IntKind.i64.wrap (a + b) := by rw [IntKind.wrap_i64 a, IntKind.wrap_i64, IntKind.wrap_i64]; omega
theorem w_r (a b : Int) : IntKind.i64.wrap (a + IntKind.i64.wrap b) = IntKind.i64.wrap (a + b) := by rw [IntKind.wrap_i64 b, IntKind.wrap_i64, IntKind.wrap_i64]; omega
theorem w_w (a : Int) : IntKind.i64.wrap (IntKind.i64.wrap a) = IntKind.i64.wrap a := by rw [IntKind.wrap_i64 a, IntKind.wrap_i64]; omega
theorem w_lr (a b : Int) : IntKind.i64.wrap (IntKind.i64.wrap a + IntKind.i64.wrap b) = IntKind.i64.wrap (a + b) := by rw [w_l, w_r]
theorem sum_foldl {α : Type} (g : α → Int) : ∀ (l : List α) (s : Int), l.foldl (fun s x => s + g x) s = s + (l.map g).sum
  | [], s => by simp
  | x :: l, s => by rw [List.foldl_cons, sum_foldl g l, List.map_cons, List.sum_cons]; omega
/-- how many words, and kids -/
def frS (s : Int × Int) (x : Tr) : Int × Int := (if s.1 < (x.Words.length : Int) then (x.Words.length : Int) else s.1, if s.2 < (x.Kids.length : Int) then (x.Kids.length : Int) else s.2)
def fr (l : List Tr) : Int × Int := l.foldl frS (0, 0)
theorem frame_ok {t : Tr} (hl : (t.Kids.length : Int) ≤ 140737488355328) : m_tree_Frame t = some (fr t.Kids) := by
  unfold m_tree_Frame
  rw [(loop_fold t.Kids (fun (s : Int × Int) (i : Int) => (s.1, s.2, i)) frS id (fun _ => True) (m_tree_Frame_L0 t) hl (fun s i x _ hi hx hm => ⟨trivial, by
    unfold m_tree_Frame_L0
    simp only
    rw [lt_t hi, cond_true, getI_of hx, Option.bind_some]
    rfl⟩) (fun s _ => by
    unfold m_tree_Frame_L0
    simp only
    rw [lt_f, cond_false]
    rfl) (0, 0) trivial).1, Option.bind_some]
  rfl
theorem rframe_ok {t : Tr} (hl : (t.Kids.length : Int) ≤ 140737488355328) : m_centoref07_Frame t = some (fr t.Kids) := by
  unfold m_centoref07_Frame
  rw [(loop_fold t.Kids (fun (s : Int × Int) (i : Int) => (s.1, s.2, i)) frS id (fun _ => True) (m_centoref07_Frame_L0 t) hl (fun s i x _ hi hx hm => ⟨trivial, by
    unfold m_centoref07_Frame_L0 frS
    simp only
    rw [lt_t hi, cond_true, getI_of hx, Option.bind_some]
    by_cases h1 : s.1 < (x.Words.length : Int) <;> by_cases h2 : s.2 < (x.Kids.length : Int) <;> simp [h1, h2]⟩) (fun s _ => by
    unfold m_centoref07_Frame_L0
    simp only
    rw [lt_f, cond_false]
    rfl) (0, 0) trivial).1, Option.bind_some]
  rfl
/-- a row's own words -/
def h9 (l : List Tr) : Int := IntKind.i64.wrap (1 + IntKind.i64.wrap ((l.length : Int) * IntKind.i64.wrap ((fr l).1 + (fr l).2)))
def roomZ (c : Int) (n : Nat) : Int := ((n * wid c + 63) / 64 : Nat)
/-- how many words a norm takes -/
def sz (t : Tr) : Int :=
  if t.Kind = 1 then ((t.Words.length : Int) + (t.Kids.length : Int)) + (t.Kids.attach.map fun k => sz k.1).sum
  else if 2 ≤ t.Kind ∧ t.Kind ≤ 7 then roomZ (t.Kind - 2) t.Kids.length
  else if t.Kind = 8 then (t.Kids.length : Int) + (t.Kids.attach.map fun k => sz k.1).sum
  else if t.Kind = 9 then h9 t.Kids + (t.Kids.attach.map fun k => (k.1.Kids.attach.map fun j => sz j.1).sum).sum
  else 0
termination_by SizeOf.sizeOf t
decreasing_by
  · exact kid_lt k.2
  · exact kid_lt k.2
  · exact Nat.lt_trans (kid_lt j.2) (kid_lt k.2)
theorem sz_eq (t : Tr) : sz t = if t.Kind = 1 then ((t.Words.length : Int) + (t.Kids.length : Int)) + (t.Kids.map sz).sum
  else if 2 ≤ t.Kind ∧ t.Kind ≤ 7 then roomZ (t.Kind - 2) t.Kids.length
  else if t.Kind = 8 then (t.Kids.length : Int) + (t.Kids.map sz).sum
  else if t.Kind = 9 then h9 t.Kids + (t.Kids.map fun k => (k.Kids.map sz).sum).sum
  else 0 := by
  rw [sz]
  have h1 : (t.Kids.attach.map fun k => (k.1.Kids.attach.map fun j => sz j.1).sum) = t.Kids.map fun k => (k.Kids.map sz).sum := by
    have : (fun (k : { x // x ∈ t.Kids }) => (k.1.Kids.attach.map fun j => sz j.1).sum) = fun (k : { x // x ∈ t.Kids }) => (fun k : Tr => (k.Kids.map sz).sum) k.1 := funext fun k => congrArg List.sum (List.attach_map_val (f := sz))
    rw [this]
    exact List.attach_map_val (f := fun k : Tr => (k.Kids.map sz).sum)
  rw [h1]
  simp only [List.attach_map_val]
theorem c5' {c : Int} (h : 0 ≤ c ∧ c ≤ 5) : c = 0 ∨ c = 1 ∨ c = 2 ∨ c = 3 ∨ c = 4 ∨ c = 5 := by omega
theorem rwid_ok {c : Int} (h : 0 ≤ c ∧ c ≤ 5) : m_centoref01_Width c = some ((wid c : Nat) : Int) := by
  unfold m_centoref01_Width
  rcases c5' h with rfl | rfl | rfl | rfl | rfl | rfl <;> rfl
theorem rroom_ok {c : Int} (h : 0 ≤ c ∧ c ≤ 5) {n : Nat} (hn : n ≤ 1099511627776) : m_centoref01_Room c (n : Int) = some (((n * wid c + 63) / 64 : Nat) : Int) := by
  unfold m_centoref01_Room
  rw [rwid_ok h, Option.bind_some]
  have key : ∀ (w p : Nat), (1 ≤ w ∧ w ≤ 64) → w * p = 64 → Int.tdiv 64 (w : Int) = (p : Int) → (cond (cond (cond (decide ((w : Int) < 1)) true (decide ((n : Int) < 0))) true (decide ((1099511627776 : Int) < (n : Int)))) (some 0) ((some ((w : Nat) : Int)).bind fun y5 => (guardI (y5 ≠ 0)).bind fun u6 => (guardI ((IntKind.i64.wrap (Int.tdiv 64 y5)) ≠ 0)).bind fun u8 => cond (decide (0 < (Int.tmod (n : Int) (IntKind.i64.wrap (Int.tdiv 64 y5))))) ((guardI ((IntKind.i64.wrap (Int.tdiv 64 y5)) ≠ 0)).bind fun u10 => some (IntKind.i64.wrap ((IntKind.i64.wrap (Int.tdiv (n : Int) (IntKind.i64.wrap (Int.tdiv 64 y5)))) + 1))) ((guardI ((IntKind.i64.wrap (Int.tdiv 64 y5)) ≠ 0)).bind fun u12 => some (IntKind.i64.wrap (Int.tdiv (n : Int) (IntKind.i64.wrap (Int.tdiv 64 y5))))))) = some (((n * w + 63) / 64 : Nat) : Int) := fun w p hw hp ht => by
    have hp1 : 1 ≤ p ∧ p ≤ 64 := by
      rcases Nat.eq_zero_or_pos p with q | q
      · rw [q] at hp; omega
      · exact ⟨q, by have := Nat.mul_le_mul_right p hw.1; omega⟩
    have hd : n / p ≤ n := Nat.div_le_self _ _
    have hm : p * (n / p) + n % p = n := Nat.div_add_mod n p
    have hml : n % p < p := Nat.mod_lt _ hp1.1
    have ed : (n : Int) / (p : Int) = ((n / p : Nat) : Int) := rfl
    have em : (n : Int) % (p : Int) = ((n % p : Nat) : Int) := rfl
    have enw : n * w = 64 * (n / p) + n % p * w := by
      have : n * w = (p * (n / p) + n % p) * w := by rw [hm]
      rw [this, Nat.add_mul, Nat.mul_comm p, Nat.mul_assoc, Nat.mul_comm p, hp, Nat.mul_comm (n / p)]
    rw [show decide ((w : Int) < 1) = false from by rw [decide_eq_false_iff_not]; omega, cond_false, show decide ((n : Int) < 0) = false from by rw [decide_eq_false_iff_not]; omega, cond_false, show decide ((1099511627776 : Int) < (n : Int)) = false from by rw [decide_eq_false_iff_not]; omega, cond_false, Option.bind_some, ht, i64s (x := (p : Int)) (by omega) (by omega), guardI_ok (by omega), Option.bind_some, guardI_ok (by omega), Option.bind_some, Int.tmod_eq_emod_of_nonneg (by omega), Int.tdiv_eq_ediv_of_nonneg (by omega), ed, em, i64s (x := ((n / p : Nat) : Int)) (by omega) (by omega), i64s (x := ((n / p : Nat) : Int) + 1) (by omega) (by omega)]
    by_cases q : 0 < n % p
    · have h1 : 1 * w ≤ n % p * w := Nat.mul_le_mul_right _ q
      have h2 : (n % p + 1) * w ≤ p * w := Nat.mul_le_mul_right _ hml
      rw [Nat.mul_comm p, hp, Nat.add_mul, Nat.one_mul] at h2
      rw [show decide ((0 : Int) < ((n % p : Nat) : Int)) = true from by rw [decide_eq_true_eq]; omega, cond_true, Option.bind_some]
      congr 1
      generalize n % p * w = z at *
      omega
    · have h0 : n % p = 0 := by omega
      rw [h0, Nat.zero_mul] at enw
      rw [show decide ((0 : Int) < ((n % p : Nat) : Int)) = false from by rw [decide_eq_false_iff_not]; omega, cond_false, Option.bind_some]
      congr 1
      omega
  rcases c5' h with rfl | rfl | rfl | rfl | rfl | rfl
  · rw [show decide (((wid 0 : Nat) : Int) < 1) = true from rfl, cond_true, cond_true, cond_true, show wid 0 = 0 from rfl, Nat.mul_zero]
    rfl
  · exact key 1 64 (by decide) rfl rfl
  · exact key 8 8 (by decide) rfl rfl
  · exact key 16 4 (by decide) rfl rfl
  · exact key 32 2 (by decide) rfl rfl
  · exact key 64 1 (by decide) rfl rfl
theorem wroom_ok {c : Int} (h : 0 ≤ c ∧ c ≤ 5) {n : Nat} (hn : n ≤ 1048576) : m_word_Room c (n : Int) = some (roomZ c n) := by
  have hw : m_word_Width c = some (((wid c : Nat) : Int), true) := by
    unfold m_word_Width
    rcases c5' h with rfl | rfl | rfl | rfl | rfl | rfl <;> rfl
  have hb : wid c ≤ 64 := by rcases c5' h with rfl | rfl | rfl | rfl | rfl | rfl <;> decide
  have hm : n * wid c ≤ 1048576 * 64 := Nat.mul_le_mul hn hb
  unfold m_word_Room roomZ
  rw [hw, Option.bind_some]
  simp only
  rw [Bool.not_true, cond_false, decide_eq_false (by omega), cond_false, decide_eq_false (by omega), cond_false, ← Int.natCast_mul]
  generalize n * wid c = m at hm ⊢
  rw [i64s (x := (m : Int)) (by omega) (by omega), i64s (x := (m : Int) + 63) (by omega) (by omega), Int.tdiv_eq_ediv_of_nonneg (by omega), i64s (by omega) (by omega)]
  congr 1
theorem rt_len {t : Tr} {d : Nat} (h : rt t d = true) : 0 ≤ t.Kind ∧ t.Kind ≤ 10 ∧ t.Kids.length < 1048576 ∧ (t.Kind = 0 ∨ t.Kind = 10 → t.Kids = []) ∧ ∀ k ∈ t.Kids, rt k (d - 1) = true := by
  rw [rt_eq] at h
  by_cases h0 : t.Kind = 0
  · rw [if_pos h0, Bool.and_eq_true, beq_iff_eq, beq_iff_eq] at h
    have := List.length_eq_zero_iff.1 h.2
    rw [this]
    exact ⟨by omega, by omega, by simp, fun _ => rfl, fun k hk => by cases hk⟩
  by_cases h1 : t.Kind = 10
  · rw [if_neg h0, if_pos h1, Bool.and_eq_true, beq_iff_eq, beq_iff_eq] at h
    have := List.length_eq_zero_iff.1 h.2
    rw [this]
    exact ⟨by omega, by omega, by simp, fun _ => rfl, fun k hk => by cases hk⟩
  rw [if_neg h0, if_neg h1] at h
  by_cases hb : t.Kind < 0 ∨ 10 < t.Kind ∨ d = 0 ∨ 65536 ≤ t.Words.length ∨ (t.Kind = 1 ∧ 65536 ≤ t.Kids.length) ∨ 1048576 ≤ t.Kids.length ∨ (1 < t.Kind ∧ 0 < t.Words.length)
  · rw [if_pos hb] at h; cases h
  rw [if_neg hb, List.all_eq_true] at h
  refine ⟨by omega, by omega, by omega, fun q => by omega, fun k hk => ?_⟩
  have := h k hk
  rw [Bool.and_eq_true] at this
  exact this.1
theorem sizes_loop {k : Nat} (l : List Tr) (hl : (l.length : Int) ≤ 140737488355328) (h : ∀ x ∈ l, (lv_tree_size k).1 x = some (IntKind.i64.wrap (sz x))) : runLoop (b_tree_sizes_L0 (lv_tree_size k).1 l) (0, 0) = some (IntKind.i64.wrap (l.map sz).sum) := by
  have := (loop_fold l (fun (s : Int) (i : Int) => (IntKind.i64.wrap s, i)) (fun s x => s + sz x) (fun s => IntKind.i64.wrap s) (fun _ => True) (b_tree_sizes_L0 (lv_tree_size k).1 l) hl (fun s i x _ hi hx hm => ⟨trivial, by
    unfold b_tree_sizes_L0
    simp only
    rw [lt_t hi, cond_true, getI_of hx, Option.bind_some, h x hm, Option.bind_some, w_lr]⟩) (fun s _ => by
    unfold b_tree_sizes_L0
    simp only
    rw [lt_f, cond_false]) 0 trivial).1
  rw [sum_foldl, Int.zero_add] at this
  exact this
theorem size_lv : ∀ (k : Nat), (∀ (t : Tr) (d : Nat), rt t d = true → 2 * SizeOf.sizeOf t < k → (lv_tree_size k).1 t = some (IntKind.i64.wrap (sz t))) ∧
    (∀ l : List Tr, 0 < k → (l.length : Int) ≤ 140737488355328 → (∀ x ∈ l, (∃ d, rt x d = true) ∧ 2 * SizeOf.sizeOf x + 1 < k) → (lv_tree_size k).2 l = some (IntKind.i64.wrap (l.map sz).sum))
  | 0 => ⟨fun _ _ _ h => by omega, fun _ h => by omega⟩
  | k + 1 => by
    obtain ⟨i1, i2⟩ := size_lv k
    refine ⟨fun t d hr hk => ?_, fun l _ hl h => ?_⟩
    · obtain ⟨r1, r2, r3, r4, r5⟩ := rt_len hr
      have s0 : 0 < SizeOf.sizeOf t := by
        obtain ⟨a, b, c⟩ := t
        simp only [S_api_Tree.mk.sizeOf_spec]
        omega
      have k0 : 0 < k := by omega
      have hs : ∀ x ∈ t.Kids, (∃ d, rt x d = true) ∧ 2 * SizeOf.sizeOf x + 1 < k := fun x hx => ⟨⟨_, r5 x hx⟩, by have := kid_lt hx; omega⟩
      have hk9 : ∀ y ∈ t.Kids, (lv_tree_size k).2 y.Kids = some (IntKind.i64.wrap (y.Kids.map sz).sum) := fun y hy =>
        i2 _ k0 (by have := (rt_len (r5 y hy)).2.2.1; omega) fun x hx => ⟨⟨_, (rt_len (r5 y hy)).2.2.2.2 x hx⟩, by have := kid_lt hx; have := kid_lt hy; omega⟩
      show b_tree_size (lv_tree_size k).1 (lv_tree_size k).2 t = _
      unfold b_tree_size m_tree_Data
      rw [sz_eq]
      by_cases h1 : t.Kind = 1
      · rw [if_pos h1, show (t.Kind == 1) = true from by rw [h1]; rfl, cond_true, i2 _ k0 (by omega) hs, Option.bind_some, w_lr]
      rw [if_neg h1, beq_eq_false_iff_ne.2 h1, cond_false, Option.bind_some]
      by_cases h2 : 2 ≤ t.Kind ∧ t.Kind ≤ 7
      · rw [if_pos h2, decide_eq_true h2.1, cond_true, decide_eq_true h2.2, cond_true, i64s (by omega) (by omega), wroom_ok (by omega) (by omega), Option.bind_some]
        have : IntKind.i64.wrap (roomZ (t.Kind - 2) t.Kids.length) = roomZ (t.Kind - 2) t.Kids.length := by
          have hb : wid (t.Kind - 2) ≤ 64 := by rcases c5' (c := t.Kind - 2) (by omega) with q | q | q | q | q | q <;> rw [q] <;> decide
          have hm : t.Kids.length * wid (t.Kind - 2) ≤ 1048576 * 64 := Nat.mul_le_mul (by omega) hb
          unfold roomZ
          rw [i64s (by omega) (by omega)]
        rw [this]
      rw [if_neg h2]
      have hc : cond (decide (2 ≤ t.Kind)) (decide (t.Kind ≤ 7)) false = false := by
        rw [cond_and, Bool.and_eq_false_iff, decide_eq_false_iff_not, decide_eq_false_iff_not]; omega
      rw [hc, cond_false]
      by_cases h8 : t.Kind = 8
      · rw [if_pos h8, show (t.Kind == 8) = true from by rw [h8]; rfl, cond_true, i2 _ k0 (by omega) hs, Option.bind_some, w_r]
      rw [if_neg h8, beq_eq_false_iff_ne.2 h8, cond_false]
      by_cases h9' : t.Kind = 9
      · rw [if_pos h9', show (t.Kind == 9) = true from by rw [h9']; rfl, cond_true, frame_ok (by omega), Option.bind_some]
        have := (loop_fold t.Kids (fun (s : Int) (i : Int) => (IntKind.i64.wrap s, i)) (fun s x => s + (x.Kids.map sz).sum) (fun s => IntKind.i64.wrap s) (fun _ => True) (b_tree_size_L0 (lv_tree_size k).2 t) (by omega) (fun s i x _ hi hx hm => ⟨trivial, by
          unfold b_tree_size_L0
          simp only
          rw [lt_t hi, cond_true, getI_of hx, Option.bind_some, hk9 x hm, Option.bind_some, w_lr]⟩) (fun s _ => by
          unfold b_tree_size_L0
          simp only
          rw [lt_f, cond_false]) (h9 t.Kids) trivial).1
        rw [sum_foldl, show IntKind.i64.wrap (h9 t.Kids) = h9 t.Kids from w_w _] at this
        show (runLoop (b_tree_size_L0 (lv_tree_size k).2 t) (h9 t.Kids, 0)).bind _ = _
        rw [this, Option.bind_some]
      · rw [if_neg h9', beq_eq_false_iff_ne.2 h9', cond_false]
        rfl
    · show b_tree_sizes (lv_tree_size k).1 (lv_tree_size k).2 l = _
      unfold b_tree_sizes
      rw [sizes_loop l hl (fun x hx => by obtain ⟨⟨d, hd⟩, hh⟩ := h x hx; exact i1 x d hd (by omega)), Option.bind_some]

theorem size_ok {t : Tr} {d : Nat} (h : rt t d = true) : m_tree_size t = some (IntKind.i64.wrap (sz t)) := lim_eq (2 * SizeOf.sizeOf t + 1) fun k hk => (size_lv k).1 t d h (by omega)
theorem Size_ok {t : Tr} {d : Nat} (hb : Bd t) (h : rt t d = true) : m_tree_Size t = some (IntKind.i64.wrap (sz (nrm t))) := by
  unfold m_tree_Size
  rw [norm_ok hb, Option.bind_some, size_ok (rtN h), Option.bind_some]
theorem rsize_lv : ∀ (k : Nat) (t : Tr) (d : Nat), rt t d = true → SizeOf.sizeOf t < k → lv_centoref07_Size k t = some (IntKind.i64.wrap (sz t))
  | 0, _, _, _, h => by omega
  | k + 1, t, d, hr, hk => by
    obtain ⟨r1, r2, r3, r4, r5⟩ := rt_len hr
    have ih : ∀ x ∈ t.Kids, lv_centoref07_Size k x = some (IntKind.i64.wrap (sz x)) := fun x hx => rsize_lv k x _ (r5 x hx) (by have := kid_lt hx; omega)
    have ih2 : ∀ y ∈ t.Kids, ∀ x ∈ y.Kids, lv_centoref07_Size k x = some (IntKind.i64.wrap (sz x)) := fun y hy x hx => rsize_lv k x _ ((rt_len (r5 y hy)).2.2.2.2 x hx) (by have := kid_lt hx; have := kid_lt hy; omega)
    have lp : ∀ s : Int, runLoop (b_centoref07_Size_L2 (lv_centoref07_Size k) t) (IntKind.i64.wrap s, 0) = some (IntKind.i64.wrap (s + (t.Kids.map sz).sum)) := fun s => by
      have := (loop_fold t.Kids (fun (s : Int) (i : Int) => (IntKind.i64.wrap s, i)) (fun s x => s + sz x) (fun s => IntKind.i64.wrap s) (fun _ => True) (b_centoref07_Size_L2 (lv_centoref07_Size k) t) (by omega) (fun s i x _ hi hx hm => ⟨trivial, by
        unfold b_centoref07_Size_L2
        simp only
        rw [lt_t hi, cond_true, getI_of hx, Option.bind_some, ih x hm, Option.bind_some, w_lr]⟩) (fun s _ => by
        unfold b_centoref07_Size_L2
        simp only
        rw [lt_f, cond_false]) s trivial).1
      rw [sum_foldl] at this
      exact this
    show b_centoref07_Size (lv_centoref07_Size k) t = _
    unfold b_centoref07_Size
    rw [sz_eq]
    by_cases h1 : t.Kind = 1
    · rw [if_pos h1, show (t.Kind == 1) = true from by rw [h1]; rfl, cond_true, Option.bind_some]
      simp only
      rw [lp, Option.bind_some]
    rw [if_neg h1, beq_eq_false_iff_ne.2 h1, cond_false]
    by_cases h8 : t.Kind = 8
    · rw [if_neg (by omega), if_pos h8, show (t.Kind == 8) = true from by rw [h8]; rfl, cond_true, Option.bind_some]
      simp only
      have := lp (t.Kids.length : Int)
      rw [i64s (x := (t.Kids.length : Int)) (by omega) (by omega)] at this
      rw [this, Option.bind_some]
    rw [beq_eq_false_iff_ne.2 h8, cond_false]
    have hc : (cond (t.Kind == 2) (some (t.Kind == 2)) (cond (t.Kind == 3) (some (t.Kind == 3)) (cond (t.Kind == 4) (some (t.Kind == 4)) (cond (t.Kind == 5) (some (t.Kind == 5)) (cond (t.Kind == 6) (some (t.Kind == 6)) (some (t.Kind == 7))))))) = some (decide (2 ≤ t.Kind ∧ t.Kind ≤ 7)) := by
      by_cases h2 : 2 ≤ t.Kind ∧ t.Kind ≤ 7
      · rcases (show t.Kind = 2 ∨ t.Kind = 3 ∨ t.Kind = 4 ∨ t.Kind = 5 ∨ t.Kind = 6 ∨ t.Kind = 7 by omega) with q | q | q | q | q | q <;> rw [q] <;> rfl
      · rw [decide_eq_false h2, beq_eq_false_iff_ne.2 (by omega : ¬ t.Kind = 2), beq_eq_false_iff_ne.2 (by omega : ¬ t.Kind = 3), beq_eq_false_iff_ne.2 (by omega : ¬ t.Kind = 4), beq_eq_false_iff_ne.2 (by omega : ¬ t.Kind = 5), beq_eq_false_iff_ne.2 (by omega : ¬ t.Kind = 6), beq_eq_false_iff_ne.2 (by omega : ¬ t.Kind = 7)]
        rfl
    rw [hc, Option.bind_some]
    by_cases h2 : 2 ≤ t.Kind ∧ t.Kind ≤ 7
    · have hb : wid (t.Kind - 2) ≤ 64 := by rcases c5' (c := t.Kind - 2) (by omega) with q | q | q | q | q | q <;> rw [q] <;> decide
      have hm : t.Kids.length * wid (t.Kind - 2) ≤ 1048576 * 64 := Nat.mul_le_mul (by omega) hb
      rw [decide_eq_true h2, cond_true, if_pos h2, i64s (x := t.Kind - 2) (by omega) (by omega), rroom_ok (by omega) (by omega), Option.bind_some, Option.bind_some]
      unfold roomZ
      rw [i64s (by omega) (by omega)]
    rw [decide_eq_false h2, cond_false, if_neg h2, if_neg h8]
    by_cases h9' : t.Kind = 9
    · rw [if_pos h9', show (t.Kind == 9) = true from by rw [h9']; rfl, cond_true, rframe_ok (by omega), Option.bind_some]
      have := (loop_fold t.Kids (fun (s : Int) (i : Int) => (IntKind.i64.wrap s, i)) (fun s x => s + (x.Kids.map sz).sum) (fun s => IntKind.i64.wrap s) (fun _ => True) (b_centoref07_Size_L0 (lv_centoref07_Size k) t) (by omega) (fun s i x _ hi hx hm => ⟨trivial, by
        have hxl := (rt_len (r5 x hm)).2.2.1
        have inner := (loop_fold x.Kids (fun (s : Int) (i : Int) => (IntKind.i64.wrap s, i)) (fun s x => s + sz x) (fun s => IntKind.i64.wrap s) (fun _ => True) (b_centoref07_Size_L1 (lv_centoref07_Size k) t (IntKind.i64.wrap s, (i : Int))) (by omega) (fun s j y _ hj hy hmy => ⟨trivial, by
          unfold b_centoref07_Size_L1
          simp only
          rw [getI_of hx, Option.bind_some, lt_t hj, cond_true, Option.bind_some, getI_of hy, Option.bind_some, ih2 x hm y hmy, Option.bind_some, w_lr]⟩) (fun s _ => by
          unfold b_centoref07_Size_L1
          simp only
          rw [getI_of hx, Option.bind_some, lt_f, cond_false]) s trivial).1
        rw [sum_foldl] at inner
        unfold b_centoref07_Size_L0
        simp only
        rw [lt_t hi, cond_true, inner, Option.bind_some]⟩) (fun s _ => by
        unfold b_centoref07_Size_L0
        simp only
        rw [lt_f, cond_false]) (h9 t.Kids) trivial).1
      rw [sum_foldl, show IntKind.i64.wrap (h9 t.Kids) = h9 t.Kids from w_w _] at this
      have h9e : IntKind.i64.wrap (1 + IntKind.i64.wrap ((t.Kids.length : Int) * IntKind.i64.wrap ((fr t.Kids).1 + (fr t.Kids).2))) = h9 t.Kids := rfl
      rw [h9e, this, Option.bind_some, Option.bind_some]
    · rw [if_neg h9', beq_eq_false_iff_ne.2 h9', cond_false, Option.bind_some]
      simp only
      have := lp 0
      rw [show IntKind.i64.wrap 0 = 0 from rfl, r4 (by omega)] at this
      rw [this, Option.bind_some]
      rfl
theorem rsize_ok {t : Tr} {d : Nat} (h : rt t d = true) : m_centoref07_Size t = some (IntKind.i64.wrap (sz t)) := lim_eq (SizeOf.sizeOf t + 1) fun k hk => rsize_lv k t d h (by omega)

/-- kids put to a state one after the other, each with its place -/
def foldI {α σ : Type} (f : σ → Nat → α → σ) : σ → Nat → List α → σ
  | s, _, [] => s
  | s, i, x :: xs => foldI f (f s i x) (i + 1) xs
theorem loop_I {α σ S R : Type} (xs : List α) (pack : Int → σ → S) (out : σ → R) (step : S → Option (S ⊕ R)) (f : σ → Nat → α → σ) (I : Nat → σ → Prop) (hl : (xs.length : Int) ≤ 140737488355328)
    (h1 : ∀ (i : Nat) (s : σ) (x : α), i < xs.length → xs[i]? = some x → x ∈ xs → I i s → step (pack i s) = some (.inl (pack (IntKind.i64.wrap ((i : Int) + 1)) (f s i x))) ∧ I (i + 1) (f s i x))
    (h2 : ∀ s, I xs.length s → step (pack xs.length s) = some (.inr (out s))) (s : σ) (h0 : I 0 s) : runLoop step (pack 0 s) = some (out (foldI f s 0 xs)) ∧ I xs.length (foldI f s 0 xs) := by
  have key : ∀ (l pre : List α) (s : σ), xs = pre ++ l → I pre.length s → runLoop step (pack (pre.length : Nat) s) = some (out (foldI f s pre.length l)) ∧ I xs.length (foldI f s pre.length l) := fun l => by
    induction l with
    | nil =>
      intro pre s hp hi
      rw [List.append_nil] at hp
      subst hp
      exact ⟨runLoop_end (h2 s hi), hi⟩
    | cons x l ih =>
      intro pre s hp hI
      have hx : xs[pre.length]? = some x := by rw [hp, List.getElem?_append_right (Nat.le_refl _), Nat.sub_self]; rfl
      have hi : pre.length < xs.length := by rw [hp]; simp
      obtain ⟨a, b⟩ := h1 pre.length s x hi hx (List.mem_of_getElem? hx) hI
      rw [i64s (by omega) (by omega)] at a
      have := ih (pre ++ [x]) (f s pre.length x) (by rw [hp]; simp) (by rw [List.length_append, List.length_singleton]; exact b)
      rw [List.length_append, List.length_singleton] at this
      exact ⟨(runLoop_step a).trans this.1, this.2⟩
  exact key xs [] s rfl h0
theorem isum_append : ∀ l m : List Int, (l ++ m).sum = l.sum + m.sum
  | [], m => by simp
  | x :: l, m => by simp only [List.cons_append, List.sum_cons, isum_append l m]; omega
theorem isum_nonneg : ∀ l : List Int, (∀ x ∈ l, 0 ≤ x) → 0 ≤ l.sum
  | [], _ => by simp
  | x :: l, h => by
    have := isum_nonneg l fun y hy => h y (.tail _ hy)
    have := h x (.head _)
    simp only [List.sum_cons]
    omega
theorem sum_step {α : Type} {f : α → Int} {xs : List α} {i : Nat} {x : α} (hx : xs[i]? = some x) (h : ∀ x ∈ xs, 0 ≤ f x) : ((xs.take (i + 1)).map f).sum = ((xs.take i).map f).sum + f x ∧ ((xs.take i).map f).sum + f x ≤ (xs.map f).sum := by
  have e : ((xs.take (i + 1)).map f).sum = ((xs.take i).map f).sum + f x := by
    rw [List.take_add_one, hx, List.map_append, isum_append]
    simp
  refine ⟨e, ?_⟩
  have e2 : (xs.map f).sum = ((xs.take (i + 1)).map f).sum + ((xs.drop (i + 1)).map f).sum := by
    rw [← isum_append, ← List.map_append, List.take_append_drop]
  have := isum_nonneg ((xs.drop (i + 1)).map f) fun y hy => by
    obtain ⟨z, hz, rfl⟩ := List.mem_map.1 hy
    exact h z (List.mem_of_mem_drop hz)
  omega
theorem sum_pos {α : Type} {f : α → Int} {xs : List α} (h : ∀ x ∈ xs, 0 ≤ f x) : 0 ≤ (xs.map f).sum := isum_nonneg _ fun y hy => by
  obtain ⟨z, hz, rfl⟩ := List.mem_map.1 hy
  exact h z hz
theorem encS {off data ptrs : Int} (a : -536870912 ≤ off) (b : off < 536870912) (c : 0 ≤ data) (d : data < 65536) (e : 0 ≤ ptrs) (f : ptrs < 65536) (g : ¬ (off = 0 ∧ data = 0 ∧ ptrs = 0)) :
    m_ptr_Encode (⟨1, off, data, ptrs, 0, 0, 0, false⟩ : S_ptr_Ptr) = some (off % 1073741824 * 4 + data * 4294967296 + ptrs * 281474976710656, true) := by
  have hd : decP ((off % 1073741824).toNat * 4 + data.toNat * 4294967296 + ptrs.toNat * 281474976710656) = ⟨1, off, data, ptrs, 0, 0, 0, false⟩ := by
    generalize hw : (off % 1073741824).toNat * 4 + data.toNat * 4294967296 + ptrs.toNat * 281474976710656 = w
    have h1 : ¬ w = 0 := by omega
    have h2 : w % 4 = 0 := by omega
    unfold decP
    rw [if_neg h1, if_pos h2]
    unfold offN
    simp only [S_ptr_Ptr.mk.injEq, true_and, and_true]
    refine ⟨?_, by omega, by omega⟩
    split <;> omega
  have := encode_dec ((off % 1073741824).toNat * 4 + data.toNat * 4294967296 + ptrs.toNat * 281474976710656) (by omega) (by rw [hd]; show ¬ (1 : Int) = 4; decide)
  rw [hd] at this
  rw [this]
  congr 2
  omega
theorem encL {off code count : Int} (a : -536870912 ≤ off) (b : off < 536870912) (c : 0 ≤ code) (d : code < 8) (e : 0 ≤ count) (f : count < 536870912) :
    m_ptr_Encode (⟨2, off, 0, 0, code, count, 0, false⟩ : S_ptr_Ptr) = some (off % 1073741824 * 4 + 1 + code * 4294967296 + count * 34359738368, true) := by
  have hd : decP ((off % 1073741824).toNat * 4 + 1 + code.toNat * 4294967296 + count.toNat * 34359738368) = ⟨2, off, 0, 0, code, count, 0, false⟩ := by
    generalize hw : (off % 1073741824).toNat * 4 + 1 + code.toNat * 4294967296 + count.toNat * 34359738368 = w
    have h1 : ¬ w = 0 := by omega
    have h2 : ¬ w % 4 = 0 := by omega
    have h3 : w % 4 = 1 := by omega
    unfold decP
    rw [if_neg h1, if_neg h2, if_pos h3]
    unfold offN
    simp only [S_ptr_Ptr.mk.injEq, true_and, and_true]
    refine ⟨?_, by omega, by omega⟩
    split <;> omega
  have := encode_dec ((off % 1073741824).toNat * 4 + 1 + code.toNat * 4294967296 + count.toNat * 34359738368) (by omega) (by rw [hd]; show ¬ (2 : Int) = 4; decide)
  rw [hd] at this
  rw [this]
  congr 2
  omega
theorem u64i {x : Int} (h0 : 0 ≤ x) (h1 : x < 18446744073709551616) : IntKind.u64.wrap x = x := IntWalk.u64_in _ (by omega)
theorem rpointer {a t k u : Int} (a0 : 0 ≤ a) (a1 : a ≤ 1048576) (t0 : 0 ≤ t) (t1 : t ≤ 1048576) (k0 : 0 ≤ k) (k1 : k ≤ 1) (u0 : 0 ≤ u) (u1 : u < 4294967296) :
    m_centoref12_pointer a t k u = some ((t - a - 1) % 1073741824 * 4 + k + u * 4294967296) := by
  unfold m_centoref12_pointer
  rw [i64s (x := t - a) (by omega) (by omega), i64s (x := t - a - 1) (by omega) (by omega)]
  by_cases h : t - a - 1 < 0
  · rw [decide_eq_true h, cond_true, i64s (by omega) (by omega), Option.bind_some, i64s (x := 4 * _) (by omega) (by omega), i64s (by omega) (by omega), u64i (x := u * _) (by omega) (by omega), u64i (x := _ + k) (by omega) (by omega), u64i (by omega) (by omega)]
    congr 1
    omega
  · rw [decide_eq_false h, cond_false, Option.bind_some, i64s (x := 4 * _) (by omega) (by omega), i64s (by omega) (by omega), u64i (x := u * _) (by omega) (by omega), u64i (x := _ + k) (by omega) (by omega), u64i (by omega) (by omega)]
    congr 1
    omega

/-- a number put beside the ones before it -/
def putF (w : Nat) (out : List Int) (i : Nat) (n : Int) : List Int := setI out ((i * w / 64 : Nat) : Int) (out[i * w / 64]?.getD 0 + n * 2 ^ (i * w % 64))
def putI (w N : Nat) (i : Nat) (out : List Int) : Prop := out.length = (N * w + 63) / 64 ∧ ∀ (q : Nat) (v : Int), out[q]? = some v → 0 ≤ v ∧ v < 2 ^ min 64 (i * w - q * 64)
theorem pow_lt64 {s w : Nat} {v n : Int} (h0 : 0 ≤ v) (h1 : v < 2 ^ s) (n0 : 0 ≤ n) (n1 : n < 2 ^ w) : 0 ≤ v + n * 2 ^ s ∧ v + n * 2 ^ s < 2 ^ (s + w) ∧ 0 ≤ n * 2 ^ s := by
  have p : (0 : Int) < 2 ^ s := Int.pow_pos (by decide)
  have a := Int.mul_nonneg n0 (Int.le_of_lt p)
  have b : (n + 1) * 2 ^ s ≤ 2 ^ w * 2 ^ s := Int.mul_le_mul_of_nonneg_right (by omega) (Int.le_of_lt p)
  rw [Int.add_mul, Int.one_mul, Int.mul_comm (2 ^ w), ← Int.pow_add] at b
  exact ⟨by omega, by omega, a⟩
theorem pow_mono {a b : Nat} (h : a ≤ b) : (2 : Int) ^ a ≤ 2 ^ b := by
  have := Nat.pow_le_pow_right (n := 2) (by decide) h
  exact_mod_cast this
theorem putF_I {w N i : Nat} {out : List Int} {n : Int} (hw : 0 < w) (hs : i * w % 64 + w ≤ 64) (hi : i < N) (hI : putI w N i out) (n0 : 0 ≤ n) (n1 : n < 2 ^ w) :
    ∃ v : Int, out[i * w / 64]? = some v ∧ 0 ≤ v ∧ v < 2 ^ (i * w % 64) ∧ v + n * 2 ^ (i * w % 64) < 18446744073709551616 ∧ 0 ≤ n * 2 ^ (i * w % 64) ∧ putI w N (i + 1) (putF w out i n) := by
  obtain ⟨hl, hv⟩ := hI
  have hm : i * w + w ≤ N * w := by
    have := Nat.mul_le_mul_right w (show i + 1 ≤ N by omega)
    rwa [Nat.add_mul, Nat.one_mul] at this
  have hq : i * w / 64 < out.length := by rw [hl]; omega
  have hx : out[i * w / 64]? = some out[i * w / 64] := List.getElem?_eq_getElem hq
  obtain ⟨v0, v1⟩ := hv _ _ hx
  have e : min 64 (i * w - i * w / 64 * 64) = i * w % 64 := by omega
  rw [e] at v1
  obtain ⟨a, b, c⟩ := pow_lt64 v0 v1 n0 n1
  have d := pow_mono hs
  refine ⟨_, hx, v0, v1, by omega, c, by unfold putF; rw [setI_len, hl], fun q u hu => ?_⟩
  unfold putF setI at hu
  rw [Int.toNat_natCast, hx, Option.getD_some, List.getElem?_set] at hu
  have e1 : (i + 1) * w = i * w + w := by rw [Nat.add_mul, Nat.one_mul]
  by_cases h : i * w / 64 = q
  · rw [if_pos h, if_pos hq] at hu
    cases hu
    subst h
    refine ⟨a, ?_⟩
    have : min 64 ((i + 1) * w - i * w / 64 * 64) = i * w % 64 + w := by rw [e1]; omega
    rw [this]
    exact b
  · rw [if_neg h] at hu
    obtain ⟨u0, u1⟩ := hv _ _ hu
    refine ⟨u0, Int.lt_of_lt_of_le u1 (pow_mono ?_)⟩
    rw [e1]
    omega
theorem put0_I (w N : Nat) : putI w N 0 (List.replicate ((N * w + 63) / 64) 0) := by
  refine ⟨List.length_replicate, fun q v h => ?_⟩
  have := List.mem_of_getElem? h
  rw [List.mem_replicate] at this
  rw [this.2]
  exact ⟨by decide, Int.pow_pos (by decide)⟩
def putC (c : Int) (ns : List Int) : List Int := if c = 0 then [] else foldI (putF (wid c)) (List.replicate ((ns.length * wid c + 63) / 64) 0) 0 ns
theorem wput_loop {w each : Nat} (hw : 0 < w) (hw2 : w ≤ 64) (he : 0 < each) (he2 : each ≤ 64) (hE : IntKind.i64.wrap (Int.tdiv 64 (w : Int)) = (each : Int)) (hq : ∀ i : Nat, i / each = i * w / 64) (hr : ∀ i : Nat, i % each * w = i * w % 64) (hs : ∀ i : Nat, i * w % 64 + w ≤ 64)
    {ns : List Int} (hn : ns.length ≤ 1048576) (hf : ∀ n ∈ ns, 0 ≤ n ∧ n < 2 ^ w) :
    runLoop (m_word_Put_L1 ns ((w : Int), true)) (0, List.replicate ((ns.length * w + 63) / 64) 0) = some (foldI (putF w) (List.replicate ((ns.length * w + 63) / 64) 0) 0 ns) ∧ putI w ns.length ns.length (foldI (putF w) (List.replicate ((ns.length * w + 63) / 64) 0) 0 ns) :=
  loop_I ns (fun i s => (i, s)) (fun s => s) (m_word_Put_L1 ns ((w : Int), true)) (putF w) (putI w ns.length) (by omega) (fun i s n hi hx hm hI => by
    obtain ⟨n0, n1⟩ := hf n hm
    obtain ⟨v, hv, v0, v1, v2, v3, v4⟩ := putF_I hw (hs i) hi hI n0 n1
    refine ⟨?_, v4⟩
    unfold m_word_Put_L1
    simp only
    have e1 : IntKind.i64.wrap (Int.tdiv (i : Int) (each : Int)) = ((i * w / 64 : Nat) : Int) := by
      have hb := Nat.mul_le_mul_left i hw2
      rw [Int.tdiv_eq_ediv_of_nonneg (by omega), ← Int.natCast_ediv, hq i, i64s (by omega) (by omega)]
    have e2 : IntKind.i64.wrap (Int.tmod (i : Int) (each : Int) * (w : Int)) = ((i * w % 64 : Nat) : Int) := by
      rw [Int.tmod_eq_emod_of_nonneg (by omega), ← Int.natCast_emod, ← Int.natCast_mul, hr i, i64s (by omega) (by omega)]
    have e3 : min (Int.toNat ((i * w % 64 : Nat) : Int)) 64 = i * w % 64 := by omega
    have e4 : IntKind.u64.wrap (n * 2 ^ (i * w % 64)) = n * 2 ^ (i * w % 64) := u64i v3 (by omega)
    have e5 : IntKind.u64.wrap (lorI .u64 v (n * 2 ^ (i * w % 64))) = v + n * 2 ^ (i * w % 64) := by
      obtain ⟨a, rfl⟩ := Int.eq_ofNat_of_zero_le v0
      obtain ⟨b, rfl⟩ := Int.eq_ofNat_of_zero_le n0
      have f : ((b : Nat) : Int) * 2 ^ (i * w % 64) = ((b * 2 ^ (i * w % 64) : Nat) : Int) := by simp
      have f1 : a < 2 ^ (i * w % 64) := by exact_mod_cast v1
      rw [f] at v2 v3 ⊢
      rw [lor64w _ _ (by omega) (by omega), or_add _ _ _ f1, Int.natCast_add]
    rw [lt_t hi, cond_true, getI_of hx, Option.bind_some, hE, guardI_ok (by omega), Option.bind_some, e1, getI_of hv, Option.bind_some, Option.bind_some, e2, guardI_ok (by omega), Option.bind_some, e3, e4, e5]
    unfold putF
    rw [hv]
    rfl) (fun s _ => by
    unfold m_word_Put_L1
    simp only
    rw [lt_f, cond_false]) _ (put0_I w ns.length)
theorem wput0_loop {c : Int} {ns : List Int} (h : 0 ≤ c ∧ c ≤ 5) (hn : ns.length ≤ 1048576) (hf : ∀ n ∈ ns, 0 ≤ n ∧ fitsP c n = true) : runLoop (m_word_Put_L0 c ns) (true, 0) = some true :=
  (loop_I ns (fun i s => (s, i)) (fun s => s) (m_word_Put_L0 c ns) (fun s _ _ => s) (fun _ s => s = true) (by omega) (fun i s n hi hx hm hI => by
    subst hI
    refine ⟨?_, rfl⟩
    unfold m_word_Put_L0
    simp only
    rw [lt_t hi, cond_true, getI_of hx, Option.bind_some, cond_true, wfits_ok h.1 h.2 (hf n hm).1, Option.bind_some, (hf n hm).2]
    rfl) (fun s _ => by
    unfold m_word_Put_L0
    simp only
    rw [lt_f, cond_false]) true rfl).1.trans (by
    have : ∀ (l : List Int) (k : Nat), foldI (fun (s : Bool) (_ : Nat) (_ : Int) => s) true k l = true := fun l => by
      induction l with
      | nil => intro k; rfl
      | cons x l ih => intro k; exact ih (k + 1)
    rw [this])
theorem wput_ok {c : Int} (h : 0 ≤ c ∧ c ≤ 5) {ns : List Int} (hn : ns.length ≤ 1048576) (hf : ∀ n ∈ ns, 0 ≤ n ∧ fitsP c n = true) : m_word_Put c ns = some (putC c ns, true) ∧ (putC c ns).length = (ns.length * wid c + 63) / 64 := by
  have hw : m_word_Width c = some (((wid c : Nat) : Int), true) := by
    unfold m_word_Width
    rcases c5' h with rfl | rfl | rfl | rfl | rfl | rfl <;> rfl
  have hb : wid c ≤ 64 := by rcases c5' h with rfl | rfl | rfl | rfl | rfl | rfl <;> decide
  have hm : ns.length * wid c ≤ 1048576 * 64 := Nat.mul_le_mul hn hb
  have hf' : ∀ n ∈ ns, 0 ≤ n ∧ n < 2 ^ wid c := fun n hn => ⟨(hf n hn).1, by have := (hf n hn).2; unfold fitsP at this; exact of_decide_eq_true this⟩
  unfold m_word_Put putC
  rw [hw, Option.bind_some]
  simp only
  rw [wput0_loop h hn hf, Option.bind_some, Bool.not_true, cond_false, wroom_ok h hn, Option.bind_some]
  unfold roomZ
  rw [makeI_ok (by omega) (by omega) (by omega), Option.bind_some, Int.toNat_natCast]
  have key : ∀ w each : Nat, wid c = w → 0 < w → 0 < each → each ≤ 64 → IntKind.i64.wrap (Int.tdiv 64 (w : Int)) = (each : Int) → (∀ i : Nat, i / each = i * w / 64) → (∀ i : Nat, i % each * w = i * w % 64) → (∀ i : Nat, i * w % 64 + w ≤ 64) → ¬ c = 0 →
      (cond (((wid c : Nat) : Int) == 0) (some (List.replicate ((ns.length * wid c + 63) / 64) (0 : Int), true)) ((guardI (((wid c : Nat) : Int) ≠ 0)).bind fun u14 => (runLoop (m_word_Put_L1 ns (((wid c : Nat) : Int), true)) (0, List.replicate ((ns.length * wid c + 63) / 64) 0)).bind fun (z24 : (List Int)) => some (z24, true))) = some ((if c = 0 then [] else foldI (putF (wid c)) (List.replicate ((ns.length * wid c + 63) / 64) 0) 0 ns), true) ∧ (if c = 0 then [] else foldI (putF (wid c)) (List.replicate ((ns.length * wid c + 63) / 64) 0) 0 ns).length = (ns.length * wid c + 63) / 64 := by
    intro w each ew a1 a2 a3 a4 a5 a6 a7 a8
    have := wput_loop a1 (by omega) a2 a3 a4 a5 a6 a7 hn (by rw [← ew]; exact hf')
    rw [ew, if_neg a8, ieqF (by omega), cond_false, guardI_ok (by omega), Option.bind_some, this.1, Option.bind_some]
    exact ⟨rfl, this.2.1⟩
  rcases c5' h with rfl | rfl | rfl | rfl | rfl | rfl
  · exact ⟨by simp [wid], by simp [wid]⟩
  · exact key 1 64 rfl (by decide) (by decide) (by decide) rfl (fun i => by omega) (fun i => by omega) (fun i => by omega) (by decide)
  · exact key 8 8 rfl (by decide) (by decide) (by decide) rfl (fun i => by omega) (fun i => by omega) (fun i => by omega) (by decide)
  · exact key 16 4 rfl (by decide) (by decide) (by decide) rfl (fun i => by omega) (fun i => by omega) (fun i => by omega) (by decide)
  · exact key 32 2 rfl (by decide) (by decide) (by decide) rfl (fun i => by omega) (fun i => by omega) (fun i => by omega) (by decide)
  · exact key 64 1 rfl (by decide) (by decide) (by decide) rfl (fun i => by omega) (fun i => by omega) (fun i => by omega) (by decide)

theorem dbl_loop {y2 : Int} {s0 : Int × List Int} {s : Nat} {n : Int} (hs : s < 64) (he : Int.tmod (IntKind.i64.wrap (s0.1 * y2)) 64 = (s : Int)) (n0 : 0 ≤ n) (hb : n * 2 ^ s < 18446744073709551616) : runLoop (m_centoref01_Put_L1 y2 s0) (n, 0) = some (n * 2 ^ s) := by
  refine runLoop_eq (fun st => ∃ j : Nat, j ≤ s ∧ st = (n * 2 ^ j, (j : Int))) (fun st => s - st.2.toNat) ?_ _ ⟨0, by omega, by simp⟩
  rintro st ⟨j, hj, rfl⟩
  unfold m_centoref01_Put_L1
  simp only
  rw [he]
  by_cases h : j < s
  · left
    have p : n * 2 ^ (j + 1) ≤ n * 2 ^ s := Int.mul_le_mul_of_nonneg_left (pow_mono (by omega)) n0
    have q : n * 2 ^ j * 2 = n * 2 ^ (j + 1) := by rw [Int.pow_succ, Int.mul_assoc]
    have r : 0 ≤ n * 2 ^ (j + 1) := Int.mul_nonneg n0 (Int.le_of_lt (Int.pow_pos (by decide)))
    refine ⟨(n * 2 ^ (j + 1), ((j + 1 : Nat) : Int)), ?_, ⟨j + 1, by omega, rfl⟩, by simp only; omega⟩
    rw [decide_eq_true (by omega), cond_true, q, u64i r (by omega), i64s (by omega) (by omega)]
    rfl
  · right
    obtain rfl : j = s := by omega
    rw [decide_eq_false (by omega), cond_false]
theorem rput_loop {c : Int} {w : Nat} (h : 0 ≤ c ∧ c ≤ 5) (ew : wid c = w) (hw : 0 < w) (hw2 : w ≤ 64) (hs : ∀ i : Nat, i * w % 64 + w ≤ 64)
    {ns : List Int} (hn : ns.length ≤ 1048576) (hu : ∀ n ∈ ns, 0 ≤ n ∧ n < 18446744073709551616 ∧ fitsP c n = true) :
    runLoop (m_centoref01_Put_L0 c ns (w : Int)) (0, List.replicate ((ns.length * w + 63) / 64) 0) = some (.inr (foldI (putF w) (List.replicate ((ns.length * w + 63) / 64) 0) 0 ns)) :=
  (loop_I ns (fun i s => (i, s)) (fun s => .inr s) (m_centoref01_Put_L0 c ns (w : Int)) (putF w) (putI w ns.length) (by omega) (fun i s n hi hx hm hI => by
    obtain ⟨n0, n1, n2⟩ := hu n hm
    have n3 : n < 2 ^ w := by unfold fitsP at n2; rw [← ew]; exact of_decide_eq_true n2
    obtain ⟨v, hv, v0, v1, v2, v3, v4⟩ := putF_I hw (hs i) hi hI n0 n3
    refine ⟨?_, v4⟩
    unfold m_centoref01_Put_L0
    simp only
    have hb := Nat.mul_le_mul_left i hw2
    have e1 : IntKind.i64.wrap ((i : Int) * (w : Int)) = ((i * w : Nat) : Int) := by
      rw [← Int.natCast_mul, i64s (by omega) (by omega)]
    have e2 : IntKind.i64.wrap (Int.tdiv ((i * w : Nat) : Int) 64) = ((i * w / 64 : Nat) : Int) := by
      rw [Int.tdiv_eq_ediv_of_nonneg (by omega), i64s (by omega) (by omega)]
      omega
    have e3 : Int.tmod (IntKind.i64.wrap ((i : Int) * (w : Int))) 64 = ((i * w % 64 : Nat) : Int) := by
      rw [e1, Int.tmod_eq_emod_of_nonneg (by omega)]
      omega
    have e4 := dbl_loop (y2 := (w : Int)) (s0 := ((i : Int), s)) (by omega) e3 n0 (by omega)
    rw [lt_t hi, cond_true, getI_of hx, Option.bind_some, rfits_ok h.1 h.2 n0 n1, Option.bind_some, n2, Bool.not_true, cond_false, e4, Option.bind_some, decide_eq_true (by omega), cond_true, e1, e2, getI_of hv, Option.bind_some, Option.bind_some, u64i (by omega) v2]
    unfold putF
    rw [hv]
    rfl) (fun s _ => by
    unfold m_centoref01_Put_L0
    simp only
    rw [lt_f, cond_false]) _ (put0_I w ns.length)).1
theorem rput_loop0 {ns : List Int} (hn : ns.length ≤ 1048576) (hu : ∀ n ∈ ns, 0 ≤ n ∧ n < 18446744073709551616 ∧ fitsP 0 n = true) (l0 : List Int) : runLoop (m_centoref01_Put_L0 0 ns ((0 : Nat) : Int)) (0, l0) = some (.inr l0) := by
  have := (loop_I ns (fun i s => (i, s)) (fun s => .inr s) (m_centoref01_Put_L0 0 ns ((0 : Nat) : Int)) (fun s _ _ => s) (fun _ s => s = l0) (by omega) (fun i s n hi hx hm hI => by
    obtain ⟨n0, n1, n2⟩ := hu n hm
    refine ⟨?_, hI⟩
    unfold m_centoref01_Put_L0
    simp only
    have e3 : Int.tmod (IntKind.i64.wrap ((i : Int) * ((0 : Nat) : Int))) 64 = ((0 : Nat) : Int) := by
      rw [Int.natCast_zero, Int.mul_zero]
      rfl
    have e4 := dbl_loop (y2 := ((0 : Nat) : Int)) (s0 := ((i : Int), s)) (by omega) e3 n0 (by omega)
    rw [lt_t hi, cond_true, getI_of hx, Option.bind_some, rfits_ok (by decide) (by decide) n0 n1, Option.bind_some, n2, Bool.not_true, cond_false, e4, Option.bind_some, decide_eq_false (by decide), cond_false, Option.bind_some]) (fun s _ => by
    unfold m_centoref01_Put_L0
    simp only
    rw [lt_f, cond_false]) l0 rfl)
  rw [this.1, this.2]
theorem rput_ok {c : Int} (h : 0 ≤ c ∧ c ≤ 5) {ns : List Int} (hn : ns.length ≤ 1048576) (hu : ∀ n ∈ ns, 0 ≤ n ∧ n < 18446744073709551616 ∧ fitsP c n = true) : m_centoref01_Put c ns = some (putC c ns, true) := by
  have hb : wid c ≤ 64 := by rcases c5' h with rfl | rfl | rfl | rfl | rfl | rfl <;> decide
  have hm : ns.length * wid c ≤ 1048576 * 64 := Nat.mul_le_mul hn hb
  unfold m_centoref01_Put putC
  rw [rwid_ok h, Option.bind_some, decide_eq_false (by omega), cond_false, rroom_ok h (by omega), Option.bind_some, makeI_ok (by omega) (by omega) (by omega), Option.bind_some, Int.toNat_natCast]
  have key : ∀ w : Nat, wid c = w → 0 < w → (∀ i : Nat, i * w % 64 + w ≤ 64) → ¬ c = 0 → ((runLoop (m_centoref01_Put_L0 c ns ((wid c : Nat) : Int)) (0, List.replicate ((ns.length * wid c + 63) / 64) 0)).bind fun (z20 : (Unit ⊕ (List Int))) => match z20 with | .inl z20 => some (([] : (List Int)), false) | .inr z20 => some (z20, true)) = some ((if c = 0 then [] else foldI (putF (wid c)) (List.replicate ((ns.length * wid c + 63) / 64) 0) 0 ns), true) := by
    intro w ew a1 a2 a3
    rw [if_neg a3, ew, rput_loop h ew a1 (by omega) a2 hn hu]
    rfl
  rcases c5' h with rfl | rfl | rfl | rfl | rfl | rfl
  · rw [show wid 0 = 0 from rfl, rput_loop0 hn hu, Nat.mul_zero, if_pos rfl]
    rfl
  · exact key 1 rfl (by decide) (fun i => by omega) (by decide)
  · exact key 8 rfl (by decide) (fun i => by omega) (by decide)
  · exact key 16 rfl (by decide) (fun i => by omega) (by decide)
  · exact key 32 rfl (by decide) (fun i => by omega) (by decide)
  · exact key 64 rfl (by decide) (fun i => by omega) (by decide)
/-- the atoms' numbers -/
def ato (t : Tr) : List Int := t.Kids.map fun k => k.Words.headD 0
theorem ato_len (t : Tr) : (ato t).length = t.Kids.length := by unfold ato; rw [List.length_map]
theorem numbers_ok {t : Tr} (hk : 2 ≤ t.Kind ∧ t.Kind ≤ 7) (hn : t.Kids.length ≤ 1048576) (ha : ∀ k ∈ t.Kids, ∃ w, k.Words = [w] ∧ 0 ≤ w ∧ fitsP (t.Kind - 2) w = true) : m_canon_numbers t = some (putC (t.Kind - 2) (ato t)) := by
  have l0 := loop_map t.Kids (fun k => k.Words.headD 0) (m_canon_numbers_L0 t) [] (by omega) (fun i x out hi hx hm ho => by
    obtain ⟨w, hw, _⟩ := ha x hm
    have e : m_tree_Word x 0 = some w := by
      unfold m_tree_Word
      rw [hw]
      rfl
    unfold m_canon_numbers_L0
    simp only [List.length_nil] at ho ⊢
    rw [lt_t hi, cond_true, getI_of hx, Option.bind_some, e, Option.bind_some, appI_ok (by simp only [List.length_singleton]; omega) (by simp only [List.length_singleton]; omega), Option.bind_some, hw]
    rfl) (fun out => by
    unfold m_canon_numbers_L0
    simp only
    rw [lt_f, cond_false])
  unfold m_canon_numbers
  rw [l0, Option.bind_some, i64s (by omega) (by omega)]
  have : m_word_Put (t.Kind - 2) (ato t) = some (putC (t.Kind - 2) (ato t), true) := (wput_ok (by omega) (by rw [ato_len]; omega) (fun n hn => by
    obtain ⟨k, hk, rfl⟩ := List.mem_map.1 hn
    obtain ⟨w, hw, h0, h1⟩ := ha k hk
    rw [hw]
    exact ⟨h0, h1⟩)).1
  unfold ato at this
  rw [List.nil_append, this]
  rfl

end Go.Proofs.Ytpfbdlcnfekdkaa
