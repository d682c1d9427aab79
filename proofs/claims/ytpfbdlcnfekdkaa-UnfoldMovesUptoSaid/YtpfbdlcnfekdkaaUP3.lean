/- Plain facts on this seat's mirrors (part UP3); each theorem bears its own conditions. -/
import Derived.Test.YtpfbdlcnfekdkaaUP2
import Derived.IntWalk
namespace Go.Proofs.Ytpfbdlcnfekdkaa
open Go.RowKit
set_option linter.unusedVariables false
set_option linter.unusedSimpArgs false
theorem zip_eqL : ∀ (l m : List Tr) (P : Tr → Prop) (l' : List {x // P x}), l'.map (·.1) = l → (l.length == m.length && (l'.zip m).all fun p => eqT p.1.1 p.2) = eqL l m
  | [], [], P, l', h => by cases l' <;> simp_all [eqL]
  | [], y :: m, P, l', h => by cases l' <;> simp_all [eqL]
  | x :: l, [], P, l', h => by cases l' <;> simp_all [eqL]
  | x :: l, y :: m, P, l', h => by
    cases l' with
    | nil => simp at h
    | cons z l' =>
      simp only [List.map_cons, List.cons.injEq] at h
      have ih := zip_eqL l m P l' h.2
      simp only [List.length_cons, List.zip_cons_cons, List.all_cons, eqL, h.1]
      rw [← ih]
      have : (l.length + 1 == m.length + 1) = (l.length == m.length) := by simp
      rw [this]
      cases l.length == m.length <;> cases eqT x y <;> rfl
theorem eqT_eq (a b : Tr) : eqT a b = (a.Kind == b.Kind && (a.Words == b.Words && eqL a.Kids b.Kids)) := by
  rw [eqT, zip_eqL a.Kids b.Kids (· ∈ a.Kids) a.Kids.attach (by simp)]
theorem eqL_cons (x y : Tr) (xs ys : List Tr) : eqL (x :: xs) (y :: ys) = (eqT x y && eqL xs ys) := rfl
theorem eqT_iff_n : ∀ (n : Nat) (a b : Tr), SizeOf.sizeOf a < n → (eqT a b = true ↔ a = b)
  | 0, a, b, h => by omega
  | n + 1, a, b, hn => by
    have ih : ∀ x ∈ a.Kids, ∀ y, eqT x y = true ↔ x = y := fun x hx y => eqT_iff_n n x y (by have := kid_lt hx; omega)
    have hl : ∀ (l m : List Tr), (∀ x ∈ l, x ∈ a.Kids) → (eqL l m = true ↔ l = m) := fun l => by
      induction l with
      | nil => intro m _; cases m <;> simp [eqL]
      | cons x l ihl =>
        intro m hm
        cases m with
        | nil => simp [eqL]
        | cons y m => rw [eqL_cons, Bool.and_eq_true, ih x (hm x (.head _)) y, ihl m (fun z hz => hm z (.tail _ hz)), List.cons.injEq]
    rw [eqT_eq, Bool.and_eq_true, Bool.and_eq_true, hl a.Kids b.Kids (fun x hx => hx), beq_iff_eq, beq_iff_eq]
    obtain ⟨k, w, ks⟩ := a
    obtain ⟨k', w', ks'⟩ := b
    simp
theorem eqT_iff {a b : Tr} : eqT a b = true ↔ a = b := eqT_iff_n _ a b (Nat.lt_succ_self _)
/-- two rows of numbers, held side by side -/
theorem any_ne : ∀ (a b : List Int), a.length = b.length → (a.zip b).any (fun p => p.1 != p.2) = !(a == b)
  | [], [], _ => rfl
  | [], _ :: _, h => by simp at h
  | _ :: _, [], h => by simp at h
  | x :: a, y :: b, h => by
    have ih := any_ne a b (by simpa using h)
    rw [List.zip_cons_cons, List.any_cons, ih]
    by_cases hxy : x = y
    · subst hxy; simp
    · simp [bne, hxy]
theorem loop_two {R : Type} (a b : List Int) (step : Int → Option (Int ⊕ R)) (e o : R) (hab : a.length = b.length) (hl : (a.length : Int) ≤ 140737488355328)
    (h1 : ∀ (i : Nat) (x y : Int), i < a.length → a[i]? = some x → b[i]? = some y → step i = some (if (x != y) = true then .inr e else .inl (IntKind.i64.wrap ((i : Int) + 1)))) (h2 : step a.length = some (.inr o)) :
    runLoop step 0 = some (if (a == b) = true then o else e) := by
  have hz : (a.zip b).length = a.length := by rw [List.length_zip]; omega
  have := loop_any (a.zip b) step (fun p => p.1 != p.2) e o (by rw [hz]; exact hl) (fun i p hi hp hm => by
    rw [hz] at hi
    have ha : a[i]? = some a[i] := List.getElem?_eq_getElem hi
    have hb : b[i]? = some b[i] := List.getElem?_eq_getElem (by omega)
    have : p = (a[i], b[i]) := by
      rw [List.getElem?_eq_getElem (by rw [hz]; exact hi)] at hp
      injection hp with hp
      rw [← hp, List.getElem_zip]
    subst this
    exact h1 i _ _ hi ha hb) (by rw [hz]; exact h2)
  rw [this, any_ne a b hab]
  cases a == b <;> rfl
theorem len_ne {a b : Nat} : ((a : Int) != (b : Int)) = !(a == b) := by
  rw [Bool.eq_iff_iff]; simp; omega
theorem beq_len {a b : List Int} (h : ¬ a.length = b.length) : (a == b) = false := by
  rw [beq_eq_false_iff_ne]; intro e; exact h (by rw [e])
theorem sameW_ok {a b : List Int} (h : (a.length : Int) ≤ 140737488355328) : m_centoref01_Same a b = some (a == b) := by
  unfold m_centoref01_Same
  rw [len_ne]
  by_cases hab : a.length = b.length
  · have : (!(a.length == b.length)) = false := by simp [hab]
    rw [this, cond_false, loop_two a b (m_centoref01_Same_L0 a b) (.inl ()) (.inr ()) hab h (fun i x y hi hx hy => by
      unfold m_centoref01_Same_L0
      rw [lt_t hi, cond_true, getI_of hx, Option.bind_some, getI_of hy, Option.bind_some]
      cases x != y <;> rfl) (by unfold m_centoref01_Same_L0; rw [lt_f]; rfl)]
    cases a == b <;> rfl
  · have : (!(a.length == b.length)) = true := by simp [hab]
    rw [this, cond_true, beq_len hab]
/-- two rows of trees, held side by side -/
theorem any_q (q : Tr → Tr → Bool) : ∀ (a b : List Tr), (a.zip b).any (fun p => !q p.1 p.2) = !((a.zip b).all fun p => q p.1 p.2)
  | [], b => by simp
  | x :: a, [] => by simp
  | x :: a, y :: b => by rw [List.zip_cons_cons, List.any_cons, any_q q a b, List.all_cons]; cases q x y <;> rfl
theorem loop_twoT {R : Type} (a b : List Tr) (q : Tr → Tr → Bool) (step : Int → Option (Int ⊕ R)) (e o : R) (hab : a.length = b.length) (hl : (a.length : Int) ≤ 140737488355328)
    (h1 : ∀ (i : Nat) (x y : Tr), i < a.length → a[i]? = some x → b[i]? = some y → x ∈ a → y ∈ b → step i = some (if (!q x y) = true then .inr e else .inl (IntKind.i64.wrap ((i : Int) + 1)))) (h2 : step a.length = some (.inr o)) :
    runLoop step 0 = some (if ((a.zip b).all fun p => q p.1 p.2) = true then o else e) := by
  have hz : (a.zip b).length = a.length := by rw [List.length_zip]; omega
  have := loop_any (a.zip b) step (fun p => !q p.1 p.2) e o (by rw [hz]; exact hl) (fun i p hi hp hm => by
    rw [hz] at hi
    have ha : a[i]? = some a[i] := List.getElem?_eq_getElem hi
    have hb : b[i]? = some b[i] := List.getElem?_eq_getElem (by omega)
    have : p = (a[i], b[i]) := by
      rw [List.getElem?_eq_getElem (by rw [hz]; exact hi)] at hp
      injection hp with hp
      rw [← hp, List.getElem_zip]
    subst this
    exact h1 i _ _ hi ha hb (List.getElem_mem _) (List.getElem_mem _)) (by rw [hz]; exact h2)
  rw [this, any_q q a b]
  cases (a.zip b).all fun p => q p.1 p.2 <;> rfl
theorem all_eqL0 : ∀ (a b : List Tr), a.length = b.length → ((a.zip b).all fun p => eqT p.1 p.2) = eqL a b
  | [], [], _ => rfl
  | [], _ :: _, h => by simp at h
  | _ :: _, [], h => by simp at h
  | x :: a, y :: b, h => by
    have ih := all_eqL0 a b (by simpa using h)
    rw [List.zip_cons_cons, List.all_cons, ih]; rfl
theorem eqL_len : ∀ (a b : List Tr), a.length ≠ b.length → eqL a b = false
  | [], [], h => by simp at h
  | [], _ :: _, _ => rfl
  | _ :: _, [], _ => rfl
  | x :: a, y :: b, h => by rw [eqL_cons, eqL_len a b (by simpa using h), Bool.and_false]
theorem same_lv : ∀ (k : Nat) (a b : Tr), Bd a → Bd b → SizeOf.sizeOf a < k → lv_centoref07_Same k a b = some (eqT a b)
  | 0, a, b, _, _, h => by omega
  | k + 1, a, b, ha, hb, hk => by
    have ih : ∀ x ∈ a.Kids, ∀ y ∈ b.Kids, lv_centoref07_Same k x y = some (eqT x y) := fun x hx y hy => same_lv k x y (ha.all x hx) (hb.all y hy) (by have := kid_lt hx; omega)
    have hw := ha.w
    have hkd := ha.k
    show b_centoref07_Same (lv_centoref07_Same k) a b = _
    unfold b_centoref07_Same
    rw [eqT_eq, sameW_ok (by omega), Option.bind_some, len_ne]
    by_cases h0 : a.Kind = b.Kind
    · have e0 : (a.Kind != b.Kind) = false := by simp [h0]
      have e1 : (a.Kind == b.Kind) = true := by simp [h0]
      rw [e0, e1, cond_false, cond_false, Option.bind_some, Bool.true_and]
      cases hw' : a.Words == b.Words with
      | false => rfl
      | true =>
        rw [Bool.not_true, cond_false, Bool.true_and]
        by_cases hab : a.Kids.length = b.Kids.length
        · have : (!(a.Kids.length == b.Kids.length)) = false := by simp [hab]
          rw [this, cond_false, loop_twoT a.Kids b.Kids eqT (b_centoref07_Same_L0 (lv_centoref07_Same k) a b) (.inl ()) (.inr ()) hab (by omega) (fun i x y hi hx hy hmx hmy => by
            unfold b_centoref07_Same_L0
            rw [lt_t hi, cond_true, getI_of hx, Option.bind_some, getI_of hy, Option.bind_some, ih x hmx y hmy, Option.bind_some]
            cases eqT x y <;> rfl) (by unfold b_centoref07_Same_L0; rw [lt_f]; rfl)]
          rw [all_eqL0 a.Kids b.Kids hab]
          cases eqL a.Kids b.Kids <;> rfl
        · have : (!(a.Kids.length == b.Kids.length)) = true := by simp [hab]
          rw [this, cond_true, eqL_len _ _ hab]
    · have e0 : (a.Kind != b.Kind) = true := by simp [h0]
      have e1 : (a.Kind == b.Kind) = false := by simp [h0]
      rw [e0, e1]; rfl
theorem same_ok {a b : Tr} (ha : Bd a) (hb : Bd b) : m_centoref07_Same a b = some (eqT a b) := lim_eq (SizeOf.sizeOf a + 1) fun k hk => same_lv k a b ha hb (by omega)
theorem nrm_null {t : Tr} (h : t.Kind = 0) : nrm t = ⟨0, [], []⟩ := by rw [nrm_eq, if_pos h]
theorem nrm_struct {t : Tr} (h : t.Kind = 1) : nrm t = ⟨1, tr (fun x => x == 0) t.Words, tr (fun x => x.Kind == 0) (t.Kids.map nrm)⟩ := by rw [nrm_eq, if_neg (by rw [h]; decide), if_pos h]
section
variable {A : S_arena_Arena}
theorem go_all {f : S_reader_Ref → Int → Tr × Int × Int} {g : Int → S_reader_Ref × Int} {Q : Tr → Prop} (hQ : ∀ i left, Q (f (g i).1 left).1) : ∀ (m i : Nat) (left : Int) (acc : List Tr), (∀ t ∈ acc, Q t) → (∀ t ∈ (kidsGo f g m i left acc).1, Q t) ∧ (kidsGo f g m i left acc).1.length ≤ acc.length + m
  | 0, i, left, acc, h => ⟨h, Nat.le_refl _⟩
  | m + 1, i, left, acc, h => by
    rw [kidsGo]
    split
    · exact ⟨h, by simp only; omega⟩
    split
    · exact ⟨h, by simp only; omega⟩
    · obtain ⟨h1, h2⟩ := go_all hQ m (i + 1) (f (g i).1 left).2.1 (acc ++ [(f (g i).1 left).1]) fun t ht => by
        rcases List.mem_append.1 ht with ht | ht
        · exact h t ht
        · rw [List.mem_singleton] at ht; subst ht; exact hQ i left
      exact ⟨h1, by rw [List.length_append, List.length_singleton] at h2; omega⟩
theorem numW_rg {w c j : Int} (hw : 0 ≤ w ∧ w < 18446744073709551616) : 0 ≤ numW w c j ∧ numW w c j < 18446744073709551616 := by
  unfold numW
  have h1 : w.toNat / 2 ^ (j * wdt c).toNat % 2 ^ (wdt c).toNat ≤ w.toNat / 2 ^ (j * wdt c).toNat := Nat.mod_le _ _
  have h2 : w.toNat / 2 ^ (j * wdt c).toNat ≤ w.toNat := Nat.div_le_self _ _
  omega
theorem wordsL_rg (hw : WS A.segments) (r : S_reader_Ref) : ∀ w ∈ wordsL A r, 0 ≤ w ∧ w < 18446744073709551616 := by
  unfold wordsL
  split
  · intro w hm
    rw [List.mem_singleton] at hm
    subst hm
    unfold numR
    split
    · omega
    · exact numW_rg (wd_rg hw _ _)
  split
  · exact fun w hm => seg_rg hw _ w (List.mem_of_mem_drop (List.mem_of_mem_take hm))
  · exact fun w hm => by cases hm
theorem wordsL_le {r : S_reader_Ref} (h : OKr A r) : (wordsL A r).length ≤ 65536 := by
  unfold wordsL
  cases h with
  | z => simp [r0]
  | st s a d p hd hp hin => simp only [show ¬ (1 : Int) = 10 from by decide, if_false, if_true, List.length_take]; omega
  | li k s a n hk hn hin => simp only; rw [if_neg (by omega), if_neg (by omega)]; simp
  | co => simp
  | at_ => simp
/-- trees that there can be -/
theorem mean_bd (hw : WS A.segments) : ∀ (d : Nat) r left, OKr A r → 0 ≤ left → left ≤ 65536 → Bd (mean A d r left).1 := fun d => by
  have key : ∀ (f : S_reader_Ref → Int → Tr × Int × Int), True := fun _ => trivial
  clear key
  have hst : ∀ (f : S_reader_Ref → Int → Tr × Int × Int), (∀ r left, OKr A r → Bd (f r left).1) → ∀ r left, OKr A r → r.ptrs ≤ 65536 → Bd (stK A f r left).1 := fun f hf r left hr hp => by
    unfold stK
    have := go_all (f := f) (g := kidR A r) (Q := Bd) (fun i left => hf _ left (kid_okr hr i)) r.ptrs.toNat 0 left [] (by simp)
    refine .mk _ (by simp only; have := wordsL_le hr; omega) (by simp only; have := this.2; simp only [List.length_nil] at this; omega) (wordsL_rg hw r) this.1
  have main : ∀ r left, OKr A r → Bd (mean A d r left).1 := by
    induction d using Nat.strongRecOn with
    | ind d ih =>
      intro r left hr
      have hbad : ∀ r left, Bd (bad r left).1 := fun r left => .mk _ (by simp [bad]) (by simp [bad]) (by simp [bad]) (by simp [bad])
      have hP : ∀ k, 1 ≤ k → ∀ r left, OKr A r → Bd (meanP A k d r left).1 := fun k hk r left hr => by
        unfold meanP
        split
        · exact ih _ (by omega) r left hr
        · exact hbad _ _
      rw [mean_eq]
      unfold meanB
      have hwl := wordsL_le hr
      split
      · exact .mk _ (by simp only; omega) (by simp) (wordsL_rg hw r) (by simp)
      split
      · exact .mk _ (by simp only; omega) (by simp) (wordsL_rg hw r) (by simp)
      · have hkn := kidsN_rg hr
        have hQ : ∀ (i : Int) left, Bd (kidF A (meanP A 1 d) (meanP A 2 d) r (kidR A r i).1 left).1 := fun i left => by
          unfold kidF
          split
          · rename_i k9
            have hkr := kid_okr hr i
            refine hst _ (fun r left hr => hP 2 (by omega) r left hr) _ _ hkr ?_
            cases hkr' : (kidR A r i).1 with
            | mk a b c d e f g h j =>
              rw [hkr'] at hkr
              cases hkr with
              | z => simp
              | st s a d p hd hp hin => simp only; omega
              | li k s a n hk => simp
              | co s a d p n hd hp hn => simp only; omega
              | at_ => simp
          split
          · exact hP 1 (by omega) _ _ (kid_okr hr i)
          · unfold atomK
            have := wordsL_le (kid_okr hr i)
            exact .mk _ (by simp only; omega) (by simp) (wordsL_rg hw _) (by simp)
        have := go_all (f := kidF A (meanP A 1 d) (meanP A 2 d) r) (g := kidR A r) (Q := Bd) hQ (kidsN r).toNat 0 (left - wtR r) [] (by simp)
        refine .mk _ (by simp only; omega) ?_ (wordsL_rg hw r) this.1
        have h2 := this.2
        simp only [List.length_nil] at h2 ⊢
        omega
  exact fun r left hr _ _ => main r left hr
end

/-- what a value weighs by itself -/
def uwR (r : S_reader_Ref) : Int := if r.kind = 0 then 0 else if r.kind = 1 then 1 + r.words + r.ptrs else if r.kind = 8 then 1 + r.count else 1
section
variable {A : S_arena_Arena}
theorem uweight_ok {r : S_reader_Ref} (h : OKr A r) : m_unfold_weight r = some (uwR r) := by
  have hk : m_reader_Ref_Kind r = some r.kind := rfl
  unfold m_unfold_weight uwR
  rw [hk, rWords_ok, rKids_ok, Option.bind_some]
  cases h with
  | z => rfl
  | st s a d p hd hp hin =>
    simp only [wordsN, kidsN, if_true, show ((1 : Int) == 0) = false from rfl, show ((1 : Int) == 1) = true from rfl, cond_false, cond_true, Option.bind_some, show ¬ (1 : Int) = 0 from by decide, if_false]
    rw [i64s (x := 1 + d) (by omega) (by omega), i64s (by omega) (by omega)]
  | li k s a n hk' hn hin =>
    simp only [kidsN]
    rw [show (k == 0) = false from ieqF (by omega), show (k == 1) = false from ieqF (by omega), if_neg (show ¬ k = 1 by omega), if_neg (show ¬ k = 0 by omega), if_neg (show ¬ k = 1 by omega), cond_false, cond_false]
    by_cases k8 : k = 8
    · rw [if_pos k8, show (k == 8) = true from by rw [k8]; rfl, cond_true, Option.bind_some, i64s (by omega) (by omega)]
    · rw [if_neg k8, show (k == 8) = false from ieqF k8, cond_false]
  | co s a d p n hd hp hn hwx hin => rfl
  | at_ s a c i n hc h0 h1 hn hin => rfl
theorem nests_ok (r : S_reader_Ref) : m_unfold_nests r = some (decide (1 ≤ r.kind ∧ r.kind ≤ 9)) := by
  have hk : m_reader_Ref_Kind r = some r.kind := rfl
  unfold m_unfold_nests m_tree_List
  rw [hk, Option.bind_some]
  by_cases k1 : r.kind = 1
  · rw [show (r.kind == 1) = true from by rw [k1]; rfl, cond_true, Option.bind_some, decide_eq_true (show 1 ≤ r.kind ∧ r.kind ≤ 9 by omega)]
  · rw [show (r.kind == 1) = false from ieqF k1, cond_false]
    simp only [Option.bind_some, cond_false]
    congr 1
    by_cases h2 : 2 ≤ r.kind
    · rw [decide_eq_true h2, cond_true, decide_eq_decide]; omega
    · rw [decide_eq_false h2, cond_false, decide_eq_false (show ¬ (1 ≤ r.kind ∧ r.kind ≤ 9) by omega)]
theorem uwords_ok (hw : WS A.segments) {r : S_reader_Ref} (h : OKr A r) : runLoop (b_unfold_unfolder_value_L0 r (wordsN r)) (0, ([] : List Int)) = some (wordsL A r) := by
  have hl := wordsL_len hw h
  have hle := wordsL_le h
  have key : ∀ (k i : Nat), i + k = (wordsL A r).length → runLoop (b_unfold_unfolder_value_L0 r (wordsN r)) ((i : Int), (wordsL A r).take i) = some (wordsL A r) := fun k => by
    induction k with
    | zero =>
      intro i hi
      refine runLoop_end ?_
      unfold b_unfold_unfolder_value_L0
      simp only
      rw [show decide ((i : Int) < wordsN r) = false from by rw [decide_eq_false_iff_not]; omega, cond_false, List.take_of_length_le (by omega)]
    | succ k ih =>
      intro i hi
      have h1 : i < (wordsL A r).length := by omega
      have hs : b_unfold_unfolder_value_L0 r (wordsN r) ((i : Int), (wordsL A r).take i) = some (.inl (((i + 1 : Nat) : Int), (wordsL A r).take (i + 1))) := by
        unfold b_unfold_unfolder_value_L0
        simp only
        rw [show decide ((i : Int) < wordsN r) = true from by rw [decide_eq_true_eq]; omega, cond_true, word_ok hw h, Option.bind_some, appI_ok (by simp only [List.length_singleton, List.length_take]; omega) (by simp only [List.length_singleton, List.length_take]; omega), Option.bind_some, i64s (by omega) (by omega), ← wordsL_at hw h h1, List.take_add_one, List.getElem?_eq_getElem h1]
        rfl
      rw [runLoop_step hs]
      exact ih (i + 1) (by omega)
  have := key (wordsL A r).length 0 (by omega)
  rw [List.take_zero, show (((0 : Nat) : Int)) = 0 from rfl] at this
  exact this
/-- kids, made one after the other -/
theorem ukids_ok (hw : WS A.segments) {f1 : S_unfold_unfolder → S_reader_Ref → Int → Option (Tr × Int × S_unfold_unfolder)} {f : S_reader_Ref → Int → Tr × Int × Int} (hf : Lf A f) {r : S_reader_Ref} (hr : OKr A r) (n : Nat) (hn : kidsN r = (n : Int)) (hn2 : n ≤ 1073741824) {X D : Int} (hX : 0 ≤ X) (hD : 1 ≤ D ∧ D ≤ 1000)
    (hF : ∀ (i : Nat) (l L : Int), i < n → (kidR A r i).2 = 0 → 0 ≤ l ∧ l ≤ 65536 → (f (kidR A r i).1 l).2.2 = 0 → l - (f (kidR A r i).1 l).2.1 + X ≤ L → L ≤ 65536 → f1 ⟨L⟩ (kidR A r i).1 (D - 1) = some ((f (kidR A r i).1 l).1, 0, ⟨L - (l - (f (kidR A r i).1 l).2.1 + X)⟩)) : ∀ (m i : Nat) (left L : Int) (acc : List Tr), i + m = n → acc.length = i → 0 ≤ left ∧ left ≤ 65536 → (kidsGo f (kidR A r) m i left acc).2.2 = 0 → left - (kidsGo f (kidR A r) m i left acc).2.1 + (m : Int) * X ≤ L → L ≤ 65536 →
    runLoop (b_unfold_unfolder_value_L1 f1 r D (kidsN r)) ((i : Int), acc, L) = some (.inr ((kidsGo f (kidR A r) m i left acc).1, L - (left - (kidsGo f (kidR A r) m i left acc).2.1 + (m : Int) * X)))
  | 0, i, left, L, acc, hi, ha, hl, hq, hL, hL2 => by
    refine runLoop_end ?_
    unfold b_unfold_unfolder_value_L1
    simp only
    rw [show decide ((i : Int) < kidsN r) = false from by rw [decide_eq_false_iff_not]; omega, cond_false]
    simp only [kidsGo]
    congr 4
    simp
  | m + 1, i, left, L, acc, hi, ha, hl, hq, hL, hL2 => by
    rw [kidsGo] at hq hL ⊢
    by_cases h1 : (kidR A r i).2 ≠ 0
    · rw [if_pos h1] at hq; exact absurd hq h1
    rw [if_neg h1] at hq hL ⊢
    by_cases h2 : (f (kidR A r i).1 left).2.2 ≠ 0
    · rw [if_pos h2] at hq; exact absurd hq h2
    rw [if_neg h2] at hq hL ⊢
    have h1' : (kidR A r i).2 = 0 := by omega
    have h2' : (f (kidR A r i).1 left).2.2 = 0 := by omega
    obtain ⟨b1, b2⟩ := hf _ _ (kid_okr hr i) hl.1 h2'
    obtain ⟨c1, c2⟩ := go_left hf (fun i => kid_okr hr i) m (i + 1) (f (kidR A r i).1 left).2.1 (acc ++ [(f (kidR A r i).1 left).1]) b1 hq
    have hmX : (((m + 1 : Nat) : Int)) * X = (m : Int) * X + X := by rw [show (((m + 1 : Nat) : Int)) = (m : Int) + 1 by omega, Int.add_mul, Int.one_mul]
    have hmn : 0 ≤ (m : Int) * X := Int.mul_nonneg (by omega) hX
    rw [hmX] at hL ⊢
    have hk := hF i left L (by omega) h1' hl h2' (by omega) hL2
    have hs : b_unfold_unfolder_value_L1 f1 r D (kidsN r) ((i : Int), acc, L) = some (.inl (((i + 1 : Nat) : Int), acc ++ [(f (kidR A r i).1 left).1], L - (left - (f (kidR A r i).1 left).2.1 + X))) := by
      unfold b_unfold_unfolder_value_L1
      simp only
      rw [show decide ((i : Int) < kidsN r) = true from by rw [decide_eq_true_eq]; omega, cond_true, kid_ok hw hr, Option.bind_some, bne_eq_false_iff_eq.2 h1', cond_false, i64s (x := D - 1) (by omega) (by omega), hk, Option.bind_some]
      simp only
      rw [show ((0 : Int) != 0) = false from rfl, cond_false, appI_ok (by simp only [List.length_singleton]; omega) (by simp only [List.length_singleton]; omega), Option.bind_some, i64s (by omega) (by omega)]
      rfl
    rw [runLoop_step hs, ukids_ok hw hf hr n hn hn2 hX hD hF m (i + 1) _ _ _ (by omega) (by rw [List.length_append, ha]; rfl) ⟨b1, by omega⟩ hq (by omega) (by omega)]
    refine congrArg some (congrArg Sum.inr (Prod.ext rfl ?_))
    simp only
    omega
/-- a value, its kids made likewise -/
theorem uval_ok (hw : WS A.segments) {f1 : S_unfold_unfolder → S_reader_Ref → Int → Option (Tr × Int × S_unfold_unfolder)} {f : S_reader_Ref → Int → Tr × Int × Int} (hf : Lf A f) {r : S_reader_Ref} (hr : OKr A r) {X D left L : Int} (hX : 0 ≤ X) (hD : 0 ≤ D ∧ D ≤ 1000) (hD1 : 1 ≤ r.kind ∧ r.kind ≤ 9 → 1 ≤ D) (hl : 0 ≤ left ∧ left ≤ 65536)
    (hq : (kidsGo f (kidR A r) (kidsN r).toNat 0 left []).2.2 = 0) (hL : uwR r + (left - (kidsGo f (kidR A r) (kidsN r).toNat 0 left []).2.1 + kidsN r * X) ≤ L) (hL2 : L ≤ 65536)
    (hF : 1 ≤ D → ∀ (i : Nat) (l L : Int), i < (kidsN r).toNat → (kidR A r i).2 = 0 → 0 ≤ l ∧ l ≤ 65536 → (f (kidR A r i).1 l).2.2 = 0 → l - (f (kidR A r i).1 l).2.1 + X ≤ L → L ≤ 65536 → f1 ⟨L⟩ (kidR A r i).1 (D - 1) = some ((f (kidR A r i).1 l).1, 0, ⟨L - (l - (f (kidR A r i).1 l).2.1 + X)⟩)) :
    b_unfold_unfolder_value f1 ⟨L⟩ r D = some (⟨r.kind, wordsL A r, (kidsGo f (kidR A r) (kidsN r).toNat 0 left []).1⟩, 0, ⟨L - (uwR r + (left - (kidsGo f (kidR A r) (kidsN r).toNat 0 left []).2.1 + kidsN r * X))⟩) := by
  have hkk : m_reader_Ref_Kind r = some r.kind := rfl
  have hkn := kidsN_rg hr
  have hg := go_left hf (fun i => kid_okr hr i) (kidsN r).toNat 0 left [] hl.1 hq
  have hmn : 0 ≤ kidsN r * X := Int.mul_nonneg hkn.1 hX
  have hu : 0 ≤ uwR r := by
    cases hr with
    | z => simp [uwR, r0]
    | st s a d p hd hp hin => simp [uwR]; omega
    | li k s a n hk hn hin => simp only [uwR]; rw [if_neg (by omega), if_neg (by omega)]; split <;> omega
    | co => simp [uwR]
    | at_ => simp [uwR]
  unfold b_unfold_unfolder_value
  rw [uweight_ok hr, Option.bind_some, nests_ok, i64s (x := L - uwR r) (by omega) (by omega)]
  have e1 : (cond (decide (L - uwR r < 0)) (some true) (cond (D == 0) ((some (decide (1 ≤ r.kind ∧ r.kind ≤ 9))).bind fun y6 => some (cond (decide (L - uwR r < 0)) true (cond (D == 0) y6 false))) (some (cond (decide (L - uwR r < 0)) true false)))) = some false := by
    rw [decide_eq_false (show ¬ L - uwR r < 0 by omega), cond_false]
    by_cases d0 : D = 0
    · rw [show (D == 0) = true from by rw [d0]; rfl, cond_true, Option.bind_some, cond_true, decide_eq_false (show ¬ (1 ≤ r.kind ∧ r.kind ≤ 9) from fun q => by have := hD1 q; omega)]
      rfl
    · rw [show (D == 0) = false from ieqF d0]; rfl
  rw [e1, Option.bind_some, cond_false, hkk, Option.bind_some, rWords_ok, Option.bind_some, uwords_ok hw hr, Option.bind_some, rKids_ok, Option.bind_some]
  by_cases hk0 : kidsN r = 0
  · -- no kids
    have e2 : runLoop (b_unfold_unfolder_value_L1 f1 r D (kidsN r)) (0, ([] : List Tr), L - uwR r) = some (.inr ([], L - uwR r)) := by
      refine runLoop_end ?_
      unfold b_unfold_unfolder_value_L1
      simp only
      rw [hk0]
      rfl
    rw [e2, Option.bind_some, hk0]
    simp only [show ((0 : Int).toNat) = 0 from rfl, kidsGo]
    congr 4
    omega
  · have hD' : 1 ≤ D := hD1 (by
      cases hr with
      | z => simp [kidsN, r0] at hk0
      | st => simp
      | li k s a n hk => simp only; omega
      | co => simp
      | at_ => simp [kidsN] at hk0)
    have hL1 := ukids_ok hw hf hr (kidsN r).toNat (by omega) (by omega) hX ⟨hD', hD.2⟩ (hF hD') (kidsN r).toNat 0 left (L - uwR r) [] (by omega) rfl hl hq (by rw [show (((kidsN r).toNat : Nat) : Int) = kidsN r by omega]; omega) (by omega)
    rw [show (((0 : Nat) : Int)) = 0 from rfl, show (((kidsN r).toNat : Nat) : Int) = kidsN r by omega] at hL1
    rw [hL1, Option.bind_some]
    simp only
    congr 4
    omega
theorem wt_uw {r : S_reader_Ref} (h : OKr A r) : wtR r = uwR r + kidsN r * (if r.kind = 9 then 1 + r.words + r.ptrs else if r.kind = 1 ∨ r.kind = 8 then 0 else if r.kind = 0 then 0 else 1) := by
  cases h with
  | z => simp [wtR, uwR, kidsN, r0]
  | st s a d p hd hp hin => simp [wtR, uwR]
  | co s a d p n hd hp hn hwx hin => simp [wtR, uwR, kidsN]
  | at_ => simp [wtR, uwR, kidsN]
  | li k s a n hk hn hin =>
    have : k = 2 ∨ k = 3 ∨ k = 4 ∨ k = 5 ∨ k = 6 ∨ k = 7 ∨ k = 8 := by omega
    rcases this with rfl | rfl | rfl | rfl | rfl | rfl | rfl <;> simp [wtR, uwR, kidsN]
theorem kid_struct2 {r : S_reader_Ref} (hk : r.kind = 9) {i : Int} (h : 0 ≤ i ∧ i < kidsN r) : (kidR A r i).1.words = r.words ∧ (kidR A r i).1.ptrs = r.ptrs := by
  unfold kidR
  rw [if_neg (by omega), if_neg (by omega), if_neg (by omega), if_pos hk]
  exact ⟨rfl, rfl⟩
theorem kid_atom2 {r : S_reader_Ref} (hk : 2 ≤ r.kind ∧ r.kind ≤ 7) {i : Int} (h : 0 ≤ i ∧ i < kidsN r) : (kidR A r i).1.kind = 10 ∧ kidsN (kidR A r i).1 = 0 := by
  unfold kidR
  rw [if_neg (by omega), if_neg (by omega), if_neg (by omega), if_neg (by omega)]
  exact ⟨rfl, rfl⟩
/-- what is within limits is made, and costs what it weighs -/
theorem unf_lv (hw : WS A.segments) : ∀ (K : Nat), (∀ (d : Nat) r (left L D : Int), OKr A r → 0 ≤ left ∧ left ≤ 65536 → (mean A d r left).2.2 = 0 → left - (mean A d r left).2.1 ≤ L → L ≤ 65536 → (d : Int) ≤ D → D ≤ 1000 → d + 2 ≤ K → r.kind ≠ 10 → lv_unfold_unfolder_value K ⟨L⟩ r D = some ((mean A d r left).1, 0, ⟨L - (left - (mean A d r left).2.1)⟩)) ∧
    (∀ (d : Nat) r (left L D : Int), OKr A r → r.kind = 1 → 0 ≤ left ∧ left ≤ 65536 → (stK A (mean A d) r left).2.2 = 0 → left - (stK A (mean A d) r left).2.1 + (1 + r.words + r.ptrs) ≤ L → L ≤ 65536 → (d : Int) + 1 ≤ D → D ≤ 1000 → d + 3 ≤ K → lv_unfold_unfolder_value K ⟨L⟩ r D = some ((stK A (mean A d) r left).1, 0, ⟨L - (left - (stK A (mean A d) r left).2.1 + (1 + r.words + r.ptrs))⟩)) ∧
    (∀ r (left L D : Int), OKr A r → r.kind = 10 → kidsN r = 0 → 1 ≤ L → L ≤ 65536 → 0 ≤ D → D ≤ 1000 → 1 ≤ K → lv_unfold_unfolder_value K ⟨L⟩ r D = some ((atomK A r left).1, 0, ⟨L - 1⟩))
  | 0 => ⟨fun d r left L D _ _ _ _ _ _ _ h => by omega, fun d r left L D _ _ _ _ _ _ _ _ h => by omega, fun r left L D _ _ _ _ _ _ _ h => by omega⟩
  | K + 1 => by
    obtain ⟨i1, i2, i3⟩ := unf_lv hw K
    refine ⟨fun d r left L D hr hl hq hL hL2 hdD hD hK h10 => ?_, fun d r left L D hr k1 hl hq hL hL2 hdD hD hK => ?_, fun r left L D hr k10 hk0 hL hL2 hD0 hD hK => ?_⟩
    · show b_unfold_unfolder_value (lv_unfold_unfolder_value K) ⟨L⟩ r D = _
      have hwt := wt_rg hw hr
      have hkd := kind1 hr
      have hkn := kidsN_rg hr
      have hwu := wt_uw hr
      rw [mean_eq] at hq hL ⊢
      unfold meanB at hq hL ⊢
      by_cases k0 : r.kind = 0
      · rw [if_pos k0] at hq hL ⊢
        have hz : kidsN r = 0 := by
          cases hr with
          | z => rfl
          | st => simp at k0
          | li k s a n hk => simp only at k0; omega
          | co => simp at k0
          | at_ => simp at k0
        have huz : uwR r = 0 := by unfold uwR; rw [if_pos k0]
        have := uval_ok hw (f1 := lv_unfold_unfolder_value K) (f := bad) lf_bad hr (X := 0) (D := D) (left := left) (L := L) (by omega) ⟨by omega, hD⟩ (fun q => by omega) hl (by rw [hz]; rfl) (by rw [hz, huz]; simp only [show ((0 : Int).toNat) = 0 from rfl, kidsGo]; simp only at hL; omega) hL2 (fun _ i l L hi => by rw [hz] at hi; simp at hi)
        rw [this, hz, huz]
        simp only [show ((0 : Int).toNat) = 0 from rfl, kidsGo]
        congr 4
        omega
      rw [if_neg k0] at hq hL ⊢
      by_cases hb : (d : Int) < lvR r ∨ left < wtR r
      · rw [if_pos hb] at hq; simp at hq
      rw [if_neg hb] at hq hL ⊢
      simp only at hq hL ⊢
      have hlv : 1 ≤ (d : Int) := by
        have : 1 ≤ lvR r := by unfold lvR; rw [if_neg k0]; split <;> omega
        omega
      have hlf : Lf A (kidF A (meanP A 1 d) (meanP A 2 d) r) := lf_kidF (lf_meanP hw 1 d) (lf_meanP hw 2 d) r
      obtain ⟨X, hXe⟩ : ∃ X, (if r.kind = 9 then 1 + r.words + r.ptrs else if r.kind = 1 ∨ r.kind = 8 then 0 else if r.kind = 0 then 0 else 1) = X := ⟨_, rfl⟩
      rw [hXe] at hwu
      have hX0 : 0 ≤ X := by
        rw [← hXe]
        cases hr with
        | z => simp [r0]
        | st => simp
        | li k s a n hk => simp only; repeat' split
                           all_goals omega
        | co s a d p n hd hp => simp; omega
        | at_ => simp
      have hkey := uval_ok hw (f1 := lv_unfold_unfolder_value K) hlf hr hX0 (D := D) (left := left - wtR r) (L := L) ⟨by omega, hD⟩ (fun _ => by omega) ⟨by omega, by omega⟩ hq (by omega) hL2 (fun hD1 i l L hi he hl hq2 hL hL2 => by
        by_cases k9 : r.kind = 9
        · have hkf : kidF A (meanP A 1 d) (meanP A 2 d) r = stK A (meanP A 2 d) := by unfold kidF; rw [if_pos k9]
          have hkc : kidsN r = r.count := by unfold kidsN; rw [if_neg (by omega)]
          have hd2 : 2 ≤ d := by
            have : lvR r = 2 := by unfold lvR; rw [if_neg k0, if_pos ⟨k9, by omega⟩]
            omega
          have hm2 : meanP A 2 d = mean A (d - 2) := by unfold meanP; rw [if_pos hd2]
          rw [hkf, hm2] at hq2 hL ⊢
          obtain ⟨w1, w2⟩ := kid_struct2 (A := A) k9 (i := (i : Int)) ⟨by omega, by omega⟩
          have hX : X = 1 + (kidR A r i).1.words + (kidR A r i).1.ptrs := by rw [← hXe, if_pos k9, w1, w2]
          rw [hX] at hL ⊢
          exact i2 (d - 2) _ l L (D - 1) (kid_okr hr i) (kid_struct1 k9 ⟨by omega, by omega⟩) hl hq2 hL hL2 (by omega) (by omega) (by omega)
        by_cases k18 : r.kind = 1 ∨ r.kind = 8
        · have hkf : kidF A (meanP A 1 d) (meanP A 2 d) r = meanP A 1 d := by unfold kidF; rw [if_neg k9, if_pos k18]
          have hm1 : meanP A 1 d = mean A (d - 1) := by unfold meanP; rw [if_pos (by omega)]
          have hX : X = 0 := by rw [← hXe, if_neg k9, if_pos k18]
          rw [hkf, hm1, hX, Int.add_zero] at hL ⊢
          rw [hkf, hm1] at hq2
          have hk10 : (kidR A r i).1.kind ≠ 10 := by
            unfold kidR
            rw [if_neg (by omega)]
            have hat : ∀ s a, (atR A s a).1.kind ≠ 10 := fun s a => by
              unfold atR
              rcases fol_kind A.segments s a with h | ⟨h1, hp, hk, hi⟩
              · rw [if_pos h]; simp [r0]
              · rw [if_neg (by omega)]
                have hc := hp.c
                split
                · simp
                split
                · simp only; split <;> simp [r0]
                · simp only; omega
            rcases k18 with k | k
            · rw [if_pos k]; exact hat _ _
            · rw [if_neg (by omega), if_pos k]; exact hat _ _
          exact i1 (d - 1) _ l L (D - 1) (kid_okr hr i) hl hq2 hL hL2 (by omega) (by omega) (by omega) hk10
        · have hkf : kidF A (meanP A 1 d) (meanP A 2 d) r = atomK A := by unfold kidF; rw [if_neg k9, if_neg k18]
          have hX : X = 1 := by rw [← hXe, if_neg k9, if_neg k18, if_neg k0]
          rw [hkf, hX] at hL ⊢
          obtain ⟨a1, a2⟩ := kid_atom2 (A := A) (r := r) (i := (i : Int)) (by omega) ⟨by omega, by omega⟩
          have hz : l - (atomK A (kidR A r i).1 l).2.1 + 1 = 1 := by simp only [atomK]; omega
          rw [hz] at hL ⊢
          exact i3 _ l L (D - 1) (kid_okr hr i) a1 a2 hL hL2 (by omega) (by omega) (by omega))
      rw [hkey]
      congr 4
      omega
    · show b_unfold_unfolder_value (lv_unfold_unfolder_value K) ⟨L⟩ r D = _
      have hkn : kidsN r = r.ptrs := by unfold kidsN; rw [if_pos k1]
      have hu : uwR r = 1 + r.words + r.ptrs := by unfold uwR; rw [if_neg (by omega), if_pos k1]
      unfold stK at hq hL ⊢
      simp only at hq hL ⊢
      rw [← hkn] at hq hL ⊢
      have hkey := uval_ok hw (f1 := lv_unfold_unfolder_value K) (lf_mean hw d) hr (X := 0) (D := D) (left := left) (L := L) (by omega) ⟨by omega, hD⟩ (fun _ => by omega) hl hq (by rw [hu]; omega) hL2 (fun hD1 i l L hi he hl hq2 hL hL2 => by
        rw [Int.add_zero] at hL ⊢
        have hk10 : (kidR A r i).1.kind ≠ 10 := by
          unfold kidR
          rw [if_neg (by omega), if_pos k1]
          unfold atR
          rcases fol_kind A.segments r.segment (r.at_ + r.words + i) with h | ⟨h1, hp, hk, hi⟩
          · rw [if_pos h]; simp [r0]
          · rw [if_neg (by omega)]
            have hc := hp.c
            split
            · simp
            split
            · simp only; split <;> simp [r0]
            · simp only; omega
        exact i1 d _ l L (D - 1) (kid_okr hr i) hl hq2 hL hL2 (by omega) (by omega) (by omega) hk10)
      rw [hkey, hu, k1]
      congr 4
      omega
    · show b_unfold_unfolder_value (lv_unfold_unfolder_value K) ⟨L⟩ r D = _
      have hu : uwR r = 1 := by unfold uwR; rw [if_neg (by omega), if_neg (by omega), if_neg (by omega)]
      have hkey := uval_ok hw (f1 := lv_unfold_unfolder_value K) (f := bad) lf_bad hr (X := 0) (D := D) (left := 0) (L := L) (by omega) ⟨hD0, hD⟩ (fun q => by omega) (by omega) (by rw [hk0]; rfl) (by rw [hk0, hu]; simp only [show ((0 : Int).toNat) = 0 from rfl, kidsGo]; omega) hL2 (fun _ i l L hi => by rw [hk0] at hi; simp at hi)
      rw [hkey, hk0, hu]
      simp only [show ((0 : Int).toNat) = 0 from rfl, kidsGo, atomK]
      congr 4
end

section
variable {A : S_arena_Arena}
theorem at_k10 (s a : Int) : (atR A s a).1.kind ≠ 10 := by
  unfold atR
  rcases fol_kind A.segments s a with h | ⟨h1, hp, hk, hi⟩
  · rw [if_pos h]; simp [r0]
  · rw [if_neg (by omega)]
    have hc := hp.c
    split
    · simp
    split
    · simp only; split <;> simp [r0]
    · simp only; omega
theorem value_ok (hw : WS A.segments) {d : Nat} (hd : d ≤ 64) {r : S_reader_Ref} (hr : OKr A r) (h10 : r.kind ≠ 10) {left : Int} (hl : 0 ≤ left ∧ left ≤ 65536) (hq : (mean A d r left).2.2 = 0) : m_unfold_Value r = some ((mean A d r left).1, 0) := by
  have hb := lf_mean hw d r left hr hl.1 hq
  have h : m_unfold_unfolder_value ⟨65536⟩ r 64 = some ((mean A d r left).1, 0, ⟨65536 - (left - (mean A d r left).2.1)⟩) :=
    lim_eq (d + 2) fun k hk => (unf_lv hw k).1 d r left 65536 64 hr hl hq (by omega) (by omega) (by omega) (by omega) hk h10
  unfold m_unfold_Value
  rw [h, Option.bind_some]
/-- what a message means -/
theorem unfW_or (x : S_api_Limits) : ((unfW A x).2.2 ≠ 0 ∧ (unfW A x).1 = ⟨0, [], []⟩ ∧ (chkW A x).2 = (unfW A x).2.2) ∨ ((unfW A x).2.2 = 0 ∧ (chkW A x).2 = 0 ∧ (atR A 0 0).2 = 0 ∧ (mean A (lims x).Depth.toNat (atR A 0 0).1 (lims x).Weight).2.2 = 0 ∧ (unfW A x).1 = (mean A (lims x).Depth.toNat (atR A 0 0).1 (lims x).Weight).1) := by
  have hc : (chkW A x).2 = (unfW A x).2.2 := by rw [← unf_chk]
  unfold unfW at hc ⊢
  by_cases h : (atR A 0 0).2 ≠ 0
  · rw [if_pos h] at hc ⊢
    exact .inl ⟨h, rfl, hc⟩
  rw [if_neg h] at hc ⊢
  simp only at hc ⊢
  by_cases hq : (mean A (lims x).Depth.toNat (atR A 0 0).1 (lims x).Weight).2.2 ≠ 0
  · rw [if_pos hq] at hc ⊢
    exact .inl ⟨hq, rfl, hc⟩
  · rw [if_neg hq] at hc ⊢
    exact .inr ⟨rfl, hc, by omega, by omega, rfl⟩
theorem lims_d (x : S_api_Limits) : (lims x).Depth.toNat ≤ 64 ∧ 0 ≤ (lims x).Weight ∧ (lims x).Weight ≤ 65536 := by
  have hd : 0 ≤ (lims x).Depth ∧ (lims x).Depth ≤ 64 := clamp_rg _ _ (by decide)
  have hW : 0 ≤ (lims x).Weight ∧ (lims x).Weight ≤ 65536 := clamp_rg _ _ (by decide)
  omega
theorem message_ok (hw : WS A.segments) (x : S_api_Limits) : m_unfold_Message (some A) x = some (nrm (unfW A x).1, (unfW A x).2.2) := by
  have hl := lims_d x
  unfold m_unfold_Message
  rw [check_ok hw, Option.bind_some]
  rcases unfW_or (A := A) x with ⟨h1, h2, h3⟩ | ⟨h1, h2, h3, h4, h5⟩
  · rw [h3, bne_iff_ne.2 h1, cond_true, h2, nrm_null rfl]
  · rw [h2, h1, h5, show ((0 : Int) != 0) = false from rfl, cond_false, root_ok hw, Option.bind_some, h3, show ((0 : Int) != 0) = false from rfl, cond_false, value_ok hw hl.1 (at_okr 0 0) (at_k10 0 0) ⟨hl.2.1, hl.2.2⟩ h4, Option.bind_some, norm_ok (mean_bd hw _ _ _ (at_okr 0 0) hl.2.1 hl.2.2), Option.bind_some]
theorem unfW_bd (hw : WS A.segments) (x : S_api_Limits) : Bd (unfW A x).1 := by
  have hl := lims_d x
  rcases unfW_or (A := A) x with ⟨h1, h2, h3⟩ | ⟨h1, h2, h3, h4, h5⟩
  · rw [h2]; exact .mk _ (by simp) (by simp) (by simp) (by simp)
  · rw [h5]; exact mean_bd hw _ _ _ (at_okr 0 0) hl.2.1 hl.2.2
end
def a11 : S_arena_Arena := ⟨[[4294967296, 0]], 0, 0⟩
theorem fol_a11 : fol a11.segments 0 0 = (⟨⟨1, 0, 1, 0, 0, 0, 0, false⟩, 0, 1⟩, 0) := rfl
theorem at_a11 : atR a11 0 0 = (⟨some a11, 1, 0, 1, 1, 0, 0, 0, 0⟩, 0) := by
  unfold atR
  rw [fol_a11]
  rfl
theorem unf_a11 : unfW a11 ⟨1, 2, 0, 0⟩ = (⟨1, [0], []⟩, 2, 0) := by
  unfold unfW
  rw [at_a11]
  rfl
theorem awake11_p : m_centolaw11_awake = some true := by
  have hw : WS a11.segments := ws_one _ (by simp) (by simp)
  unfold m_centolaw11_awake
  have ho : m_arena_Of ([([4294967296, 0] : List Int)] : List (List Int)) = some (some a11) := aOf_ok hw
  have hn : nrm ⟨1, [0], []⟩ = ⟨1, [], []⟩ := by rw [nrm_struct rfl]; rfl
  rw [ho, Option.bind_some, message_ok hw, unf_a11, Option.bind_some]
  simp only
  rw [hn]
  rfl
/-- the same value, where more lies behind -/
def upR (B : S_arena_Arena) (r : S_reader_Ref) : S_reader_Ref := ⟨r.a.map fun _ => B, r.kind, r.segment, r.at_, r.words, r.ptrs, r.count, r.code, r.index⟩
section
variable {A B : S_arena_Arena} {more : List (List Int)}
theorem seg_up (hx : B.segments = A.segments ++ more) {s : Int} (h0 : 0 ≤ s) (h1 : s < A.segments.length) : seg B.segments s = seg A.segments s := by
  unfold seg
  rw [hx, List.getElem?_append_left (by omega)]
theorem inB_up (hx : B.segments = A.segments ++ more) {s a n : Int} (h : inB A.segments s a n = true) : inB B.segments s a n = true := by
  rw [inB_iff] at h ⊢
  rw [seg_up hx h.1 h.2.1, hx, List.length_append]
  exact ⟨h.1, by omega, h.2.2⟩
theorem wd_up (hx : B.segments = A.segments ++ more) {s a : Int} (h0 : 0 ≤ s) (h1 : s < A.segments.length) : wd B.segments s a = wd A.segments s a := by
  unfold wd
  rw [seg_up hx h0 h1]
theorem inB_rg {l : List (List Int)} {s a n : Int} (h : inB l s a n = true) : 0 ≤ s ∧ s < l.length := by
  rw [inB_iff] at h
  exact ⟨h.1, h.2.1⟩
theorem tgt_up (hx : B.segments = A.segments ++ more) {p : S_ptr_Ptr} {s a : Int} (h : (tgt A.segments p s a).2 = 0) : tgt B.segments p s a = tgt A.segments p s a := by
  unfold tgt at h ⊢
  by_cases h4 : p.Kind = 4
  · rw [if_pos h4, if_pos h4]
  rw [if_neg h4] at h ⊢
  rw [if_neg h4]
  by_cases hk : p.Kind = 1 ∨ p.Kind = 2
  · rw [if_pos hk] at h ⊢
    rw [if_pos hk]
    by_cases hi : inB A.segments s a (pw p) = true
    · rw [if_pos hi, if_pos (inB_up hx hi)]
    · rw [if_neg hi] at h
      simp at h
  · rw [if_neg hk] at h
    simp at h
theorem fol_up (hx : B.segments = A.segments ++ more) {s a : Int} (h : (fol A.segments s a).2 = 0) : fol B.segments s a = fol A.segments s a := by
  unfold fol at h ⊢
  by_cases h1 : inB A.segments s a 1 = true
  · obtain ⟨s0, s1⟩ := inB_rg h1
    rw [if_pos h1] at h ⊢
    rw [if_pos (inB_up hx h1), wd_up hx s0 s1]
    generalize dc (wd A.segments s a) = p at h ⊢
    simp only at h ⊢
    by_cases hk0 : p.Kind = 0
    · rw [if_pos hk0, if_pos hk0]
    rw [if_neg hk0] at h ⊢
    rw [if_neg hk0]
    by_cases hd : p.Kind = 3 ∧ p.Double = true
    · rw [if_pos hd] at h ⊢
      rw [if_pos hd]
      by_cases h2 : inB A.segments p.Segment p.Off 2 = true
      · obtain ⟨q0, q1⟩ := inB_rg h2
        rw [if_pos h2] at h ⊢
        rw [if_pos (inB_up hx h2), wd_up hx q0 q1, wd_up hx q0 q1]
        split at h
        · rename_i e
          rw [if_pos e, if_pos e]
          split at h
          · simp at h
          · rename_i e2
            rw [if_neg e2, if_neg e2]
            exact tgt_up hx h
        · simp at h
      · rw [if_neg h2] at h
        simp at h
    · rw [if_neg hd] at h ⊢
      rw [if_neg hd]
      by_cases h3 : p.Kind = 3
      · rw [if_pos h3] at h ⊢
        rw [if_pos h3]
        by_cases h2 : inB A.segments p.Segment p.Off 1 = true
        · obtain ⟨q0, q1⟩ := inB_rg h2
          rw [if_pos h2] at h ⊢
          rw [if_pos (inB_up hx h2), wd_up hx q0 q1]
          exact tgt_up hx h
        · rw [if_neg h2] at h
          simp at h
      · rw [if_neg h3] at h ⊢
        rw [if_neg h3]
        exact tgt_up hx h
  · rw [if_neg h1] at h
    simp at h
theorem at_up (hx : B.segments = A.segments ++ more) {s a : Int} (h : (atR A s a).2 = 0) : atR B s a = (upR B (atR A s a).1, 0) := by
  have h0 : (fol A.segments s a).2 = 0 := by
    unfold atR at h
    by_cases q : (fol A.segments s a).2 ≠ 0
    · rw [if_pos (.inl q)] at h; exact h
    · omega
  have e := fol_up hx h0
  unfold atR at h ⊢
  rw [e]
  rcases fol_kind A.segments s a with q | ⟨q1, hp, hk, hi⟩
  · rw [if_pos q, if_pos q, h0]; rfl
  have hq : ¬ ((fol A.segments s a).2 ≠ 0 ∨ (fol A.segments s a).1.P.Kind = 0) := by omega
  simp only at h ⊢
  rw [if_neg hq] at h
  rw [if_neg hq, if_neg hq]
  obtain ⟨s0, s1⟩ := inB_rg hi
  by_cases k1 : (fol A.segments s a).1.P.Kind = 1
  · rw [if_pos k1, if_pos k1]; rfl
  rw [if_neg k1] at h
  rw [if_neg k1, if_neg k1]
  by_cases k7 : (fol A.segments s a).1.P.Code = 7
  · rw [if_pos k7] at h
    rw [if_pos k7, if_pos k7, wd_up hx s0 s1]
    try simp only at h ⊢
    split at h
    · simp at h
    · rename_i e2
      rw [if_neg e2, if_neg e2]; rfl
  · rw [if_neg k7, if_neg k7]; rfl
theorem kid_up (hx : B.segments = A.segments ++ more) {r : S_reader_Ref} {i : Int} (h : (kidR A r i).2 = 0) : kidR B (upR B r) i = (upR B (kidR A r i).1, 0) := by
  have hk : kidsN (upR B r) = kidsN r := rfl
  unfold kidR at h ⊢
  rw [hk]
  by_cases hi : i < 0 ∨ kidsN r ≤ i
  · rw [if_pos hi, if_pos hi]; rfl
  rw [if_neg hi] at h ⊢
  rw [if_neg hi]
  by_cases k1 : r.kind = 1
  · rw [if_pos k1] at h ⊢
    rw [if_pos (show (upR B r).kind = 1 from k1)]
    exact at_up hx h
  rw [if_neg k1] at h ⊢
  rw [if_neg (show ¬ (upR B r).kind = 1 from k1)]
  by_cases k8 : r.kind = 8
  · rw [if_pos k8] at h ⊢
    rw [if_pos (show (upR B r).kind = 8 from k8)]
    exact at_up hx h
  rw [if_neg k8] at h ⊢
  rw [if_neg (show ¬ (upR B r).kind = 8 from k8)]
  by_cases k9 : r.kind = 9
  · rw [if_pos k9, if_pos (show (upR B r).kind = 9 from k9)]; rfl
  · rw [if_neg k9, if_neg (show ¬ (upR B r).kind = 9 from k9)]; rfl
theorem words_up (hx : B.segments = A.segments ++ more) {r : S_reader_Ref} (h : OKr A r) : wordsL B (upR B r) = wordsL A r := by
  cases h with
  | z => rfl
  | st s a d p hd hp hi =>
    obtain ⟨s0, s1⟩ := inB_rg hi
    unfold wordsL upR
    simp only
    rw [if_neg (show ¬ (1 : Int) = 10 by decide), if_neg (show ¬ (1 : Int) = 10 by decide), seg_up hx s0 s1]
  | li k s a n hk hn hi =>
    unfold wordsL upR
    simp only
    rw [if_neg (by omega), if_neg (by omega), if_neg (by omega), if_neg (by omega)]
  | co s a d p n hd hp hn hw hi => rfl
  | at_ s a c i n hc h0 h1 hn hi =>
    obtain ⟨s0, s1⟩ := inB_rg hi
    unfold wordsL upR numR
    simp only [wd_up hx s0 s1, if_true]
/-- what is told without an error is told so of the longer one as well -/
def Up (A B : S_arena_Arena) (f f' : S_reader_Ref → Int → Tr × Int × Int) : Prop := ∀ k left, OKr A k → (f k left).2.2 = 0 → f' (upR B k) left = f k left
theorem go_up {f f' : S_reader_Ref → Int → Tr × Int × Int} (hf : Up A B f f') {g g' : Int → S_reader_Ref × Int} (hg : ∀ i, (g i).2 = 0 → g' i = (upR B (g i).1, 0)) (ho : ∀ i, OKr A (g i).1) : ∀ (m i : Nat) (left : Int) (acc : List Tr), (kidsGo f g m i left acc).2.2 = 0 → kidsGo f' g' m i left acc = kidsGo f g m i left acc
  | 0, i, left, acc, _ => rfl
  | m + 1, i, left, acc, h => by
    rw [kidsGo] at h ⊢
    rw [kidsGo]
    by_cases h1 : (g i).2 ≠ 0
    · rw [if_pos h1] at h; exact absurd h h1
    rw [if_neg h1] at h ⊢
    have h1' : (g i).2 = 0 := by omega
    by_cases h2 : (f (g i).1 left).2.2 ≠ 0
    · rw [if_pos h2] at h; exact absurd h h2
    rw [if_neg h2] at h ⊢
    have h2' : (f (g i).1 left).2.2 = 0 := by omega
    have e1 := hg i h1'
    have e2 := hf (g i).1 left (ho i) h2'
    rw [e1]
    simp only
    rw [if_neg (by omega), e2, if_neg h2]
    exact go_up hf hg ho m (i + 1) _ _ h
theorem up_stK (hx : B.segments = A.segments ++ more) {f f' : S_reader_Ref → Int → Tr × Int × Int} (hf : Up A B f f') : Up A B (stK A f) (stK B f') := fun k left hk h => by
  unfold stK at h ⊢
  simp only at h ⊢
  have e := go_up hf (g := kidR A k) (g' := kidR B (upR B k)) (fun i hi => kid_up hx hi) (fun i => kid_okr hk i) _ _ _ _ h
  rw [show (upR B k).ptrs = k.ptrs from rfl, e, words_up hx hk]
theorem up_atomK (hx : B.segments = A.segments ++ more) : Up A B (atomK A) (atomK B) := fun k left hk h => by
  unfold atomK
  rw [words_up hx hk]
  rfl
theorem up_kidF (hx : B.segments = A.segments ++ more) {f1 f2 f1' f2' : S_reader_Ref → Int → Tr × Int × Int} (h1 : Up A B f1 f1') (h2 : Up A B f2 f2') (r : S_reader_Ref) : Up A B (kidF A f1 f2 r) (kidF B f1' f2' (upR B r)) := by
  unfold kidF
  show Up A B _ (if r.kind = 9 then _ else if r.kind = 1 ∨ r.kind = 8 then _ else _)
  split
  · exact up_stK hx h2
  · split
    · exact h1
    · exact up_atomK hx
theorem up_meanB (hx : B.segments = A.segments ++ more) {f1 f2 f1' f2' : S_reader_Ref → Int → Tr × Int × Int} (h1 : Up A B f1 f1') (h2 : Up A B f2 f2') (d : Int) : Up A B (meanB A f1 f2 d) (meanB B f1' f2' d) := fun r left hr h => by
  unfold meanB at h ⊢
  rw [words_up hx hr]
  show (if r.kind = 0 then _ else if d < lvR r ∨ left < wtR r then _ else _) = _
  by_cases k0 : r.kind = 0
  · rw [if_pos k0, if_pos k0]; rfl
  rw [if_neg k0] at h ⊢
  rw [if_neg k0]
  by_cases hd : d < lvR r ∨ left < wtR r
  · rw [if_pos hd, if_pos hd]; rfl
  rw [if_neg hd] at h ⊢
  rw [if_neg hd]
  simp only at h ⊢
  have e := go_up (up_kidF hx h1 h2 r) (g := kidR A r) (g' := kidR B (upR B r)) (fun i hi => kid_up hx hi) (fun i => kid_okr hr i) _ _ _ _ h
  rw [show kidsN (upR B r) = kidsN r from rfl, show wtR (upR B r) = wtR r from rfl, e]
  rfl
theorem up_bad (g : S_reader_Ref → Int → Tr × Int × Int) : Up A B bad g := fun k left _ h => by simp [bad] at h
theorem up_mean (hx : B.segments = A.segments ++ more) : ∀ d : Nat, Up A B (mean A d) (mean B d) := fun d => by
  induction d using Nat.strongRecOn with
  | ind d ih =>
    rw [mean_eq d, mean_eq d]
    have key : ∀ k, 1 ≤ k → Up A B (meanP A k d) (meanP B k d) := fun k hk => by
      unfold meanP
      by_cases h : k ≤ d
      · rw [if_pos h, if_pos h]
        exact ih (d - k) (by omega)
      · rw [if_neg h]
        exact up_bad _
    exact up_meanB hx (key 1 (by omega)) (key 2 (by omega)) _
theorem unfW_up (hx : B.segments = A.segments ++ more) {x : S_api_Limits} (h : (unfW A x).2.2 = 0) : unfW B x = unfW A x := by
  rcases unfW_or (A := A) x with ⟨h1, _⟩ | ⟨h1, h2, h3, h4, h5⟩
  · exact absurd h h1
  · have e1 := at_up hx h3
    have e2 := up_mean hx (lims x).Depth.toNat (atR A 0 0).1 (lims x).Weight (at_okr 0 0) h4
    unfold unfW
    rw [e1]
    simp only
    rw [if_neg (show ¬ (0 : Int) ≠ 0 by omega), if_neg (show ¬ (atR A 0 0).2 ≠ 0 by omega), e2]
end
theorem unfoldMoves_p {l more : List (List Int)} (hw : WS l) (hm : WS more) (hl : (l.length + more.length) * 24 ≤ 140737488355328) (x : S_api_Limits) : m_centolaw11_UnfoldMoves l more x = some true := by
  obtain ⟨w, hx⟩ := light_ok x
  unfold m_centolaw11_UnfoldMoves
  have hb := unfW_bd (A := ⟨l, 0, 0⟩) hw
  rw [hx, Option.bind_some]
  generalize (⟨x.Depth, w, x.MaxD, x.MaxOut⟩ : S_api_Limits) = y
  rw [aOf_ok hw, Option.bind_some, message_ok (A := ⟨l, 0, 0⟩) hw, Option.bind_some]
  simp only
  have hn0 : Bd (⟨0, [], []⟩ : Tr) := .mk _ (by simp) (by simp) (by simp) (by simp)
  by_cases h : (unfW ⟨l, 0, 0⟩ y).2.2 = 0
  · have hw2 : WS (l ++ more) := ⟨by rw [List.length_append]; exact hl, fun s hs => (List.mem_append.1 hs).elim (hw.s s) (hm.s s), fun s hs => (List.mem_append.1 hs).elim (hw.w s) (hm.w s)⟩
    rw [h, show ((0 : Int) != 0) = false from rfl, cond_false, appI_ok (by simp only [List.length_nil]; omega) (by simp only [List.length_nil]; omega), Option.bind_some, List.nil_append, appI_ok (by omega) (by omega), Option.bind_some, aOf_ok hw2, Option.bind_some, message_ok (A := ⟨l ++ more, 0, 0⟩) hw2, Option.bind_some, unfW_up (A := ⟨l, 0, 0⟩) (B := ⟨l ++ more, 0, 0⟩) rfl h, h]
    simp only [beq_self_eq_true, cond_true]
    rw [same_ok (hb y).nrm (hb y).nrm, eqT_iff.2 rfl, Option.bind_some]
    simp only [cond_true]
    rw [awake11_p]
    rfl
  · rw [bne_iff_ne.2 h, cond_true]
    rcases unfW_or (A := ⟨l, 0, 0⟩) y with ⟨h1, h2, _⟩ | ⟨h1, _⟩
    · rw [h2, nrm_null rfl, same_ok hn0 hn0, eqT_iff.2 rfl, Option.bind_some]
      simp only [cond_true]
      rw [awake11_p]
      rfl
    · exact absurd h1 h



end Go.Proofs.Ytpfbdlcnfekdkaa
