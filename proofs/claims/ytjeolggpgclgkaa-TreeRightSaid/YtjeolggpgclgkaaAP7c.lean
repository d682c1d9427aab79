/- Plain facts on this seat's mirrors (part AP7c); each theorem bears its own conditions. -/
import Derived.Test.YtjeolggpgclgkaaAP7b
import Derived.IntWalk
namespace Go.Proofs.Ytjeolggpgclgkaa
open Go.RowKit
set_option linter.unusedVariables false
set_option linter.unusedSimpArgs false
/-- the same, part by part -/
def eqT (a b : Tr) : Bool := a.Kind == b.Kind && (a.Words == b.Words && (a.Kids.length == b.Kids.length && (a.Kids.attach.zip b.Kids).all fun p => eqT p.1.1 p.2))
termination_by SizeOf.sizeOf a
decreasing_by exact kid_lt p.1.2
def eqL : List Tr → List Tr → Bool
  | [], [] => true
  | x :: xs, y :: ys => eqT x y && eqL xs ys
  | _, _ => false
theorem zip_eqL : ∀ (l m : List Tr) (P : Tr → Prop) (l' : List {x // P x}), l'.map (·.1) = l → (l.length == m.length && (l'.zip m).all fun p => eqT p.1.1 p.2) = eqL l m
  | [], [], P, l', h => by cases l' <;> simp_all [eqL]
  | [], y :: m, P, l', h => by cases l' <;> simp_all [eqL]
  | x :: l, [], P, l', h => by cases l' <;> simp_all [eqL]
  | x :: l, y :: m, P, l', h => by
    cases l' with
    | nil => simp at h
    | cons z l' =>
      simp only [List.map_cons, List.cons.injEq] at h
      have ih := zip_eqL l m P l' h.2
      simp only [List.length_cons, List.zip_cons_cons, List.all_cons, eqL, h.1]
      rw [← ih]
      have : (l.length + 1 == m.length + 1) = (l.length == m.length) := by simp
      rw [this]
      cases l.length == m.length <;> cases eqT x y <;> rfl
theorem eqT_eq (a b : Tr) : eqT a b = (a.Kind == b.Kind && (a.Words == b.Words && eqL a.Kids b.Kids)) := by
  rw [eqT, zip_eqL a.Kids b.Kids (· ∈ a.Kids) a.Kids.attach (by simp)]
theorem eqL_cons (x y : Tr) (xs ys : List Tr) : eqL (x :: xs) (y :: ys) = (eqT x y && eqL xs ys) := rfl
theorem eqT_iff_n : ∀ (n : Nat) (a b : Tr), SizeOf.sizeOf a < n → (eqT a b = true ↔ a = b)
  | 0, a, b, h => by omega
  | n + 1, a, b, hn => by
    have ih : ∀ x ∈ a.Kids, ∀ y, eqT x y = true ↔ x = y := fun x hx y => eqT_iff_n n x y (by have := kid_lt hx; omega)
    have hl : ∀ (l m : List Tr), (∀ x ∈ l, x ∈ a.Kids) → (eqL l m = true ↔ l = m) := fun l => by
      induction l with
      | nil => intro m _; cases m <;> simp [eqL]
      | cons x l ihl =>
        intro m hm
        cases m with
        | nil => simp [eqL]
        | cons y m => rw [eqL_cons, Bool.and_eq_true, ih x (hm x (.head _)) y, ihl m (fun z hz => hm z (.tail _ hz)), List.cons.injEq]
    rw [eqT_eq, Bool.and_eq_true, Bool.and_eq_true, hl a.Kids b.Kids (fun x hx => hx), beq_iff_eq, beq_iff_eq]
    obtain ⟨k, w, ks⟩ := a
    obtain ⟨k', w', ks'⟩ := b
    simp
theorem eqT_iff {a b : Tr} : eqT a b = true ↔ a = b := eqT_iff_n _ a b (Nat.lt_succ_self _)
theorem eqT_refl (a : Tr) : eqT a a = true := eqT_iff.2 rfl
theorem eqT_comm (a b : Tr) : eqT a b = eqT b a := by
  rw [Bool.eq_iff_iff, eqT_iff, eqT_iff]; exact ⟨Eq.symm, Eq.symm⟩
/-- two rows of numbers, held side by side -/
theorem any_ne : ∀ (a b : List Int), a.length = b.length → (a.zip b).any (fun p => p.1 != p.2) = !(a == b)
  | [], [], _ => rfl
  | [], _ :: _, h => by simp at h
  | _ :: _, [], h => by simp at h
  | x :: a, y :: b, h => by
    have ih := any_ne a b (by simpa using h)
    rw [List.zip_cons_cons, List.any_cons, ih]
    by_cases hxy : x = y
    · subst hxy; simp
    · simp [bne, hxy]
theorem loop_two {R : Type} (a b : List Int) (step : Int → Option (Int ⊕ R)) (e o : R) (hab : a.length = b.length) (hl : (a.length : Int) ≤ 140737488355328)
    (h1 : ∀ (i : Nat) (x y : Int), i < a.length → a[i]? = some x → b[i]? = some y → step i = some (if (x != y) = true then .inr e else .inl (IntKind.i64.wrap ((i : Int) + 1)))) (h2 : step a.length = some (.inr o)) :
    runLoop step 0 = some (if (a == b) = true then o else e) := by
  have hz : (a.zip b).length = a.length := by rw [List.length_zip]; omega
  have := loop_any (a.zip b) step (fun p => p.1 != p.2) e o (by rw [hz]; exact hl) (fun i p hi hp hm => by
    rw [hz] at hi
    have ha : a[i]? = some a[i] := List.getElem?_eq_getElem hi
    have hb : b[i]? = some b[i] := List.getElem?_eq_getElem (by omega)
    have : p = (a[i], b[i]) := by
      rw [List.getElem?_eq_getElem (by rw [hz]; exact hi)] at hp
      injection hp with hp
      rw [← hp, List.getElem_zip]
    subst this
    exact h1 i _ _ hi ha hb) (by rw [hz]; exact h2)
  rw [this, any_ne a b hab]
  cases a == b <;> rfl
theorem len_ne {a b : Nat} : ((a : Int) != (b : Int)) = !(a == b) := by
  rw [Bool.eq_iff_iff]; simp; omega
theorem beq_len {a b : List Int} (h : ¬ a.length = b.length) : (a == b) = false := by
  rw [beq_eq_false_iff_ne]; intro e; exact h (by rw [e])
theorem sameW_ok {a b : List Int} (h : (a.length : Int) ≤ 140737488355328) : m_centoref01_Same a b = some (a == b) := by
  unfold m_centoref01_Same
  rw [len_ne]
  by_cases hab : a.length = b.length
  · have : (!(a.length == b.length)) = false := by simp [hab]
    rw [this, cond_false, loop_two a b (m_centoref01_Same_L0 a b) (.inl ()) (.inr ()) hab h (fun i x y hi hx hy => by
      unfold m_centoref01_Same_L0
      rw [lt_t hi, cond_true, getI_of hx, Option.bind_some, getI_of hy, Option.bind_some]
      cases x != y <;> rfl) (by unfold m_centoref01_Same_L0; rw [lt_f]; rfl)]
    cases a == b <;> rfl
  · have : (!(a.length == b.length)) = true := by simp [hab]
    rw [this, cond_true, beq_len hab]
theorem equalW_ok {a b : List Int} (h : (a.length : Int) ≤ 140737488355328) : m_slices_Equal_uint64_uint64 a b = some (a == b) := by
  unfold m_slices_Equal_uint64_uint64
  rw [len_ne]
  by_cases hab : a.length = b.length
  · have : (!(a.length == b.length)) = false := by simp [hab]
    rw [this, cond_false, loop_two a b (m_slices_Equal_uint64_uint64_L0 a b) (.inl ()) (.inr ()) hab h (fun i x y hi hx hy => by
      unfold m_slices_Equal_uint64_uint64_L0
      rw [lt_t hi, cond_true, getI_of hx, Option.bind_some, getI_of hy, Option.bind_some]
      cases x != y <;> rfl) (by unfold m_slices_Equal_uint64_uint64_L0; rw [lt_f]; rfl)]
    cases a == b <;> rfl
  · have : (!(a.length == b.length)) = true := by simp [hab]
    rw [this, cond_true, beq_len hab]
/-- two rows of trees, held side by side -/
theorem any_q (q : Tr → Tr → Bool) : ∀ (a b : List Tr), (a.zip b).any (fun p => !q p.1 p.2) = !((a.zip b).all fun p => q p.1 p.2)
  | [], b => by simp
  | x :: a, [] => by simp
  | x :: a, y :: b => by rw [List.zip_cons_cons, List.any_cons, any_q q a b, List.all_cons]; cases q x y <;> rfl
theorem loop_twoT {R : Type} (a b : List Tr) (q : Tr → Tr → Bool) (step : Int → Option (Int ⊕ R)) (e o : R) (hab : a.length = b.length) (hl : (a.length : Int) ≤ 140737488355328)
    (h1 : ∀ (i : Nat) (x y : Tr), i < a.length → a[i]? = some x → b[i]? = some y → x ∈ a → y ∈ b → step i = some (if (!q x y) = true then .inr e else .inl (IntKind.i64.wrap ((i : Int) + 1)))) (h2 : step a.length = some (.inr o)) :
    runLoop step 0 = some (if ((a.zip b).all fun p => q p.1 p.2) = true then o else e) := by
  have hz : (a.zip b).length = a.length := by rw [List.length_zip]; omega
  have := loop_any (a.zip b) step (fun p => !q p.1 p.2) e o (by rw [hz]; exact hl) (fun i p hi hp hm => by
    rw [hz] at hi
    have ha : a[i]? = some a[i] := List.getElem?_eq_getElem hi
    have hb : b[i]? = some b[i] := List.getElem?_eq_getElem (by omega)
    have : p = (a[i], b[i]) := by
      rw [List.getElem?_eq_getElem (by rw [hz]; exact hi)] at hp
      injection hp with hp
      rw [← hp, List.getElem_zip]
    subst this
    exact h1 i _ _ hi ha hb (List.getElem_mem _) (List.getElem_mem _)) (by rw [hz]; exact h2)
  rw [this, any_q q a b]
  cases (a.zip b).all fun p => q p.1 p.2 <;> rfl
theorem all_eqL (f : Tr → Tr) : ∀ (a b : List Tr), a.length = b.length → ((a.zip b).all fun p => eqT (f p.1) (f p.2)) = eqL (a.map f) (b.map f)
  | [], [], _ => rfl
  | [], _ :: _, h => by simp at h
  | _ :: _, [], h => by simp at h
  | x :: a, y :: b, h => by
    have ih := all_eqL f a b (by simpa using h)
    rw [List.zip_cons_cons, List.all_cons, ih]; rfl
theorem all_eqL0 : ∀ (a b : List Tr), a.length = b.length → ((a.zip b).all fun p => eqT p.1 p.2) = eqL a b
  | [], [], _ => rfl
  | [], _ :: _, h => by simp at h
  | _ :: _, [], h => by simp at h
  | x :: a, y :: b, h => by
    have ih := all_eqL0 a b (by simpa using h)
    rw [List.zip_cons_cons, List.all_cons, ih]; rfl
theorem eqL_len : ∀ (a b : List Tr), a.length ≠ b.length → eqL a b = false
  | [], [], h => by simp at h
  | [], _ :: _, _ => rfl
  | _ :: _, [], _ => rfl
  | x :: a, y :: b, h => by rw [eqL_cons, eqL_len a b (by simpa using h), Bool.and_false]
theorem same_lv : ∀ (k : Nat) (a b : Tr), Bd a → Bd b → SizeOf.sizeOf a < k → lv_centoref07_Same k a b = some (eqT a b)
  | 0, a, b, _, _, h => by omega
  | k + 1, a, b, ha, hb, hk => by
    have ih : ∀ x ∈ a.Kids, ∀ y ∈ b.Kids, lv_centoref07_Same k x y = some (eqT x y) := fun x hx y hy => same_lv k x y (ha.all x hx) (hb.all y hy) (by have := kid_lt hx; omega)
    have hw := ha.w
    have hkd := ha.k
    show b_centoref07_Same (lv_centoref07_Same k) a b = _
    unfold b_centoref07_Same
    rw [eqT_eq, sameW_ok (by omega), Option.bind_some, len_ne]
    by_cases h0 : a.Kind = b.Kind
    · have e0 : (a.Kind != b.Kind) = false := by simp [h0]
      have e1 : (a.Kind == b.Kind) = true := by simp [h0]
      rw [e0, e1, cond_false, cond_false, Option.bind_some, Bool.true_and]
      cases hw' : a.Words == b.Words with
      | false => rfl
      | true =>
        rw [Bool.not_true, cond_false, Bool.true_and]
        by_cases hab : a.Kids.length = b.Kids.length
        · have : (!(a.Kids.length == b.Kids.length)) = false := by simp [hab]
          rw [this, cond_false, loop_twoT a.Kids b.Kids eqT (b_centoref07_Same_L0 (lv_centoref07_Same k) a b) (.inl ()) (.inr ()) hab (by omega) (fun i x y hi hx hy hmx hmy => by
            unfold b_centoref07_Same_L0
            rw [lt_t hi, cond_true, getI_of hx, Option.bind_some, getI_of hy, Option.bind_some, ih x hmx y hmy, Option.bind_some]
            cases eqT x y <;> rfl) (by unfold b_centoref07_Same_L0; rw [lt_f]; rfl)]
          rw [all_eqL0 a.Kids b.Kids hab]
          cases eqL a.Kids b.Kids <;> rfl
        · have : (!(a.Kids.length == b.Kids.length)) = true := by simp [hab]
          rw [this, cond_true, eqL_len _ _ hab]
    · have e0 : (a.Kind != b.Kind) = true := by simp [h0]
      have e1 : (a.Kind == b.Kind) = false := by simp [h0]
      rw [e0, e1]; rfl
theorem same_ok {a b : Tr} (ha : Bd a) (hb : Bd b) : m_centoref07_Same a b = some (eqT a b) := lim_eq (SizeOf.sizeOf a + 1) fun k hk => same_lv k a b ha hb (by omega)
theorem requal_ok {a b : Tr} (ha : Bd a) (hb : Bd b) : m_centoref07_Equal a b = some (eqT (nrm a) (nrm b)) := by
  unfold m_centoref07_Equal
  rw [rnorm_ok ha, Option.bind_some, rnorm_ok hb, Option.bind_some, same_ok ha.nrm hb.nrm, Option.bind_some]
theorem nrm_null {t : Tr} (h : t.Kind = 0) : nrm t = ⟨0, [], []⟩ := by rw [nrm_eq, if_pos h]
theorem nrm_struct {t : Tr} (h : t.Kind = 1) : nrm t = ⟨1, tr (fun x => x == 0) t.Words, tr (fun x => x.Kind == 0) (t.Kids.map nrm)⟩ := by rw [nrm_eq, if_neg (by rw [h]; decide), if_pos h]
theorem nrm_list {t : Tr} (h0 : ¬ t.Kind = 0) (h1 : ¬ t.Kind = 1) : nrm t = ⟨t.Kind, t.Words, t.Kids.map nrm⟩ := by rw [nrm_eq, if_neg h0, if_neg h1]
theorem size_pos (t : Tr) : 0 < SizeOf.sizeOf t := by
  obtain ⟨k, w, ks⟩ := t
  simp only [S_api_Tree.mk.sizeOf_spec]
  omega
theorem equal_lv : ∀ (k : Nat), (∀ a b : Tr, Bd a → Bd b → 2 * SizeOf.sizeOf a < k → (lv_tree_Equal k).1 a b = some (eqT (nrm a) (nrm b))) ∧
    (∀ (l m : List Tr), (∀ x ∈ l, Bd x ∧ 2 * SizeOf.sizeOf x + 1 < k) → (∀ x ∈ m, Bd x) → (l.length : Int) ≤ 140737488355328 → 1 ≤ k → (lv_tree_Equal k).2 l m = some (eqL (l.map nrm) (m.map nrm)))
  | 0 => ⟨fun a b _ _ h => by omega, fun l m hl hm hn h => by omega⟩
  | k + 1 => by
    obtain ⟨i1, i2⟩ := equal_lv k
    refine ⟨fun a b ha hb hk => ?_, fun l m hl hm hn h => ?_⟩
    · have hp := size_pos a
      have hw := ha.w
      have hkd := ha.k
      have hw' := hb.w
      have hkd' := hb.k
      show b_tree_Equal (lv_tree_Equal k).1 (lv_tree_Equal k).2 a b = _
      unfold b_tree_Equal
      rw [eqT_eq, nrm_kind, nrm_kind]
      by_cases h0 : a.Kind = b.Kind
      · have e0 : (a.Kind != b.Kind) = false := by simp [h0]
        have e1 : (a.Kind == b.Kind) = true := by simp [h0]
        rw [e0, e1, cond_false, Bool.true_and]
        by_cases hz : a.Kind = 0
        · have e2 : (a.Kind == 0) = true := by simp [hz]
          rw [e2, cond_true, nrm_eq a, nrm_eq b, if_pos hz, if_pos (h0 ▸ hz)]
          rfl
        · have e2 : (a.Kind == 0) = false := by simp [hz]
          rw [e2, cond_false]
          have rec_ : ∀ l m : List Tr, (∀ x ∈ l, x ∈ a.Kids) → (∀ x ∈ m, x ∈ b.Kids) → l.length ≤ a.Kids.length → (lv_tree_Equal k).2 l m = some (eqL (l.map nrm) (m.map nrm)) := fun l m h1 h2 h3 =>
            i2 l m (fun x hx => ⟨ha.all x (h1 x hx), by have := kid_lt (h1 x hx); omega⟩) (fun x hx => hb.all x (h2 x hx)) (by omega) (by omega)
          by_cases h1 : a.Kind = 1
          · have e3 : (a.Kind == 1) = true := by simp [h1]
            have l1 := tr_len (fun x : Int => x == 0) a.Words
            have l2 := tr_len (fun x : Tr => x.Kind == 0) a.Kids
            have q1 : ∀ l : List Tr, tr (fun x : Tr => x.Kind == 0) (l.map nrm) = (tr (fun x : Tr => x.Kind == 0) l).map nrm := tr_map (fun x => by rw [nrm_kind])
            rw [e3, cond_true, trimWords_ok (by omega), Option.bind_some, trimWords_ok (by omega), Option.bind_some, equalW_ok (by omega), Option.bind_some, trimKids_ok (by omega), Option.bind_some, trimKids_ok (by omega), Option.bind_some,
              rec_ _ _ (fun x hx => tr_mem hx) (fun x hx => tr_mem hx) l2, Option.bind_some, nrm_struct h1, nrm_struct (h0 ▸ h1)]
            simp only [q1]
            cases tr (fun x => x == 0) a.Words == tr (fun x => x == 0) b.Words <;> rfl
          · have e3 : (a.Kind == 1) = false := by simp [h1]
            rw [e3, cond_false, equalW_ok (by omega), Option.bind_some, rec_ _ _ (fun x hx => hx) (fun x hx => hx) (Nat.le_refl _), Option.bind_some, nrm_list hz h1, nrm_list (fun q => hz (h0.trans q)) (fun q => h1 (h0.trans q))]
            simp only
            cases a.Words == b.Words <;> rfl
      · have e0 : (a.Kind != b.Kind) = true := by simp [h0]
        have e1 : (a.Kind == b.Kind) = false := by simp [h0]
        rw [e0, e1]; rfl
    · show b_slices_EqualFunc_api_Tree_api_Tree_api_Tree_api_Tree_f24 (lv_tree_Equal k).1 (lv_tree_Equal k).2 l m = _
      unfold b_slices_EqualFunc_api_Tree_api_Tree_api_Tree_api_Tree_f24
      rw [len_ne]
      by_cases hlm : l.length = m.length
      · have : (!(l.length == m.length)) = false := by simp [hlm]
        rw [this, cond_false, loop_twoT l m (fun x y => eqT (nrm x) (nrm y)) (b_slices_EqualFunc_api_Tree_api_Tree_api_Tree_api_Tree_f24_L0 (lv_tree_Equal k).1 l m) (.inl ()) (.inr ()) hlm hn (fun i x y hi hx hy hmx hmy => by
          unfold b_slices_EqualFunc_api_Tree_api_Tree_api_Tree_api_Tree_f24_L0
          rw [lt_t hi, cond_true, getI_of hx, Option.bind_some, getI_of hy, Option.bind_some, i1 x y (hl x hmx).1 (hm y hmy) (by have := (hl x hmx).2; omega), Option.bind_some]
          cases eqT (nrm x) (nrm y) <;> rfl) (by unfold b_slices_EqualFunc_api_Tree_api_Tree_api_Tree_api_Tree_f24_L0; rw [lt_f]; rfl)]
        rw [all_eqL nrm l m hlm]
        cases eqL (l.map nrm) (m.map nrm) <;> rfl
      · have : (!(l.length == m.length)) = true := by simp [hlm]
        rw [this, cond_true, eqL_len _ _ (by simpa using hlm)]
theorem equal_ok {a b : Tr} (ha : Bd a) (hb : Bd b) : m_tree_Equal a b = some (eqT (nrm a) (nrm b)) := lim_eq (2 * SizeOf.sizeOf a + 1) fun k hk => (equal_lv k).1 a b ha hb (by omega)

end Go.Proofs.Ytjeolggpgclgkaa
