/- Plain facts on this seat's mirrors (part WP1); each theorem bears its own conditions. -/
import Derived.Test.YtbcgiaijjaocdaaWM4
import Derived.IntWalk
namespace Go.Proofs.Ytbcgiaijjaocdaa
open Go.RowKit
set_option linter.unusedVariables false
set_option linter.unusedSimpArgs false
abbrev Tr := S_api_Tree
theorem i64s {x : Int} (h1 : -9223372036854775808 ≤ x) (h2 : x ≤ 9223372036854775807) : IntKind.i64.wrap x = x := i64w ⟨h1, h2⟩
theorem kid_lt {t x : Tr} (h : x ∈ t.Kids) : SizeOf.sizeOf x < SizeOf.sizeOf t := by
  obtain ⟨k, w, ks⟩ := t
  have := List.sizeOf_lt_of_mem h
  simp only [S_api_Tree.mk.sizeOf_spec]
  simp only at this
  omega
theorem loop_any {α R : Type} (xs : List α) (step : Int → Option (Int ⊕ R)) (p : α → Bool) (e o : R) (hl : (xs.length : Int) ≤ 140737488355328)
    (h1 : ∀ (i : Nat) (x : α), i < xs.length → xs[i]? = some x → x ∈ xs → step i = some (if p x = true then .inr e else .inl (IntKind.i64.wrap ((i : Int) + 1)))) (h2 : step xs.length = some (.inr o)) : runLoop step 0 = some (if xs.any p = true then e else o) := by
  have hloop := loop_each xs (fun i (_ : Unit) => i) step (fun _ x => some (if p x = true then .inr e else .inl ())) (fun _ => o) (fun i s x hi hx => by
    rw [h1 i x hi hx (List.mem_of_getElem? hx), i64s (by omega) (by omega)]
    cases p x <;> rfl) (fun _ => h2) ()
  refine hloop.trans ?_
  rw [foldE_find p (fun s _ => s) e (fun _ _ => True) xs.length xs () 0 (by omega) trivial (fun s k x _ _ _ => ⟨by cases p x <;> rfl, fun _ => trivial⟩)]
theorem lt_t {i n : Nat} (h : i < n) : decide ((i : Int) < (n : Int)) = true := by rw [decide_eq_true_eq]; omega
theorem lt_f {n : Nat} : decide ((n : Int) < (n : Int)) = false := by rw [decide_eq_false_iff_not]; omega
def tr {α : Type} (p : α → Bool) : List α → List α
  | [] => []
  | x :: xs => match tr p xs with
    | [] => if p x = true then [] else [x]
    | y :: ys => x :: y :: ys
theorem tr_len {α : Type} (p : α → Bool) : ∀ l : List α, (tr p l).length ≤ l.length
  | [] => by simp [tr]
  | x :: l => by
    have := tr_len p l
    simp only [tr]
    split
    · split <;> simp
    · rename_i y ys he
      rw [he] at this
      simp at this ⊢
      omega
theorem tr_mem {α : Type} {p : α → Bool} {x : α} : ∀ {l : List α}, x ∈ tr p l → x ∈ l
  | [], h => by simp [tr] at h
  | y :: l, h => by
    simp only [tr] at h
    split at h
    · split at h
      · simp at h
      · simp at h; simp [h]
    · rename_i z zs he
      rw [← he] at h
      rcases List.mem_cons.1 h with h | h
      · simp [h]
      · exact List.mem_cons_of_mem _ (tr_mem h)
theorem tr_tr {α : Type} {p : α → Bool} : ∀ l : List α, tr p (tr p l) = tr p l
  | [] => rfl
  | x :: l => by
    have ih := tr_tr (p := p) l
    simp only [tr]
    cases h : tr p l with
    | nil =>
      simp only
      cases hx : p x <;> simp [tr, hx]
    | cons y ys =>
      rw [h] at ih
      simp only [tr] at ih ⊢
      rw [ih]
theorem tr_map {α β : Type} {p : α → Bool} {q : β → Bool} {f : α → β} (h : ∀ x, q (f x) = p x) : ∀ l : List α, tr q (l.map f) = (tr p l).map f
  | [] => rfl
  | x :: l => by
    simp only [List.map_cons, tr, tr_map h l]
    cases tr p l with
    | nil => simp only [List.map_nil, h]; split <;> rfl
    | cons y ys => rfl
inductive Bd : Tr → Prop
  | mk (t : Tr) (h1 : t.Words.length * 8 ≤ 140737488355328) (h2 : t.Kids.length * 56 ≤ 140737488355328) (h3 : ∀ w ∈ t.Words, 0 ≤ w ∧ w < 18446744073709551616) (h4 : ∀ k ∈ t.Kids, Bd k) : Bd t
theorem Bd.w {t : Tr} (h : Bd t) : t.Words.length * 8 ≤ 140737488355328 := by cases h; assumption
theorem Bd.k {t : Tr} (h : Bd t) : t.Kids.length * 56 ≤ 140737488355328 := by cases h; assumption
theorem Bd.u {t : Tr} (h : Bd t) : ∀ w ∈ t.Words, 0 ≤ w ∧ w < 18446744073709551616 := by cases h; assumption
theorem Bd.all {t : Tr} (h : Bd t) : ∀ k ∈ t.Kids, Bd k := by cases h; assumption
def nrm (t : Tr) : Tr :=
  if t.Kind = 0 then ⟨0, [], []⟩
  else if t.Kind = 1 then ⟨1, tr (fun x => x == 0) t.Words, tr (fun x => x.Kind == 0) (t.Kids.attach.map fun k => nrm k.1)⟩
  else ⟨t.Kind, t.Words, t.Kids.attach.map fun k => nrm k.1⟩
termination_by SizeOf.sizeOf t
decreasing_by all_goals exact kid_lt k.2
theorem nrm_eq (t : Tr) : nrm t = if t.Kind = 0 then ⟨0, [], []⟩ else if t.Kind = 1 then ⟨1, tr (fun x => x == 0) t.Words, tr (fun x => x.Kind == 0) (t.Kids.map nrm)⟩ else ⟨t.Kind, t.Words, t.Kids.map nrm⟩ := by
  rw [nrm]
  simp only [List.attach_map_val]
theorem nrm_kind (t : Tr) : (nrm t).Kind = t.Kind := by
  rw [nrm_eq]
  split
  · rename_i h; exact h.symm
  · split
    · rename_i h; exact h.symm
    · rfl
theorem nrm_bd : ∀ (n : Nat) (t : Tr), SizeOf.sizeOf t < n → Bd t → Bd (nrm t)
  | 0, t, h, _ => by omega
  | n + 1, t, hn, hb => by
    have ih : ∀ x ∈ t.Kids, Bd (nrm x) := fun x hx => nrm_bd n x (by have := kid_lt hx; omega) (hb.all x hx)
    have hw := hb.w
    have hk := hb.k
    rw [nrm_eq]
    split
    · exact .mk _ (by simp) (by simp) (fun w h => by simp at h) (fun w h => by simp at h)
    · split
      · have l1 := tr_len (fun x : Int => x == 0) t.Words
        have l2 := tr_len (fun x : Tr => x.Kind == 0) (t.Kids.map nrm)
        rw [List.length_map] at l2
        refine .mk _ (by simp only; omega) (Nat.le_trans (Nat.mul_le_mul_right 56 l2) hk) (fun w h => hb.u w (tr_mem h)) (fun x h => ?_)
        obtain ⟨y, hy, rfl⟩ := List.mem_map.1 (tr_mem h)
        exact ih y hy
      · refine .mk _ hw (by simp only [List.length_map]; exact hk) hb.u (fun x h => ?_)
        obtain ⟨y, hy, rfl⟩ := List.mem_map.1 h
        exact ih y hy
theorem Bd.nrm {t : Tr} (h : Bd t) : Bd (nrm t) := nrm_bd _ t (Nat.lt_succ_self _) h
theorem nrm_nrm_n : ∀ (n : Nat) (t : Tr), SizeOf.sizeOf t < n → nrm (nrm t) = nrm t
  | 0, t, h => by omega
  | n + 1, t, hn => by
    have ih : ∀ x ∈ t.Kids, nrm (nrm x) = nrm x := fun x hx => nrm_nrm_n n x (by have := kid_lt hx; omega)
    have em : ∀ l : List Tr, (∀ x ∈ l, x ∈ t.Kids) → (l.map nrm).map nrm = l.map nrm := fun l hl => by
      rw [List.map_map]
      exact List.map_congr_left fun x hx => ih x (hl x hx)
    rw [nrm_eq t]
    by_cases h0 : t.Kind = 0
    · rw [if_pos h0, nrm_eq]; simp
    rw [if_neg h0]
    by_cases h1 : t.Kind = 1
    · rw [if_pos h1, nrm_eq]
      simp only [if_neg (show ¬ (1 : Int) = 0 by decide), if_true]
      have q1 : ∀ l : List Tr, tr (fun x : Tr => x.Kind == 0) (l.map nrm) = (tr (fun x : Tr => x.Kind == 0) l).map nrm := tr_map (fun x => by rw [nrm_kind])
      rw [tr_tr, q1, tr_tr, q1, em _ (fun x hx => tr_mem hx)]
    · rw [if_neg h1, nrm_eq]
      simp only
      rw [if_neg h0, if_neg h1, em _ (fun x hx => hx)]
theorem nrm_nrm (t : Tr) : nrm (nrm t) = nrm t := nrm_nrm_n _ t (Nat.lt_succ_self _)
def eqT (a b : Tr) : Bool := a.Kind == b.Kind && (a.Words == b.Words && (a.Kids.length == b.Kids.length && (a.Kids.attach.zip b.Kids).all fun p => eqT p.1.1 p.2))
termination_by SizeOf.sizeOf a
decreasing_by exact kid_lt p.1.2
def eqL : List Tr → List Tr → Bool
  | [], [] => true
  | x :: xs, y :: ys => eqT x y && eqL xs ys
  | _, _ => false
theorem zip_eqL : ∀ (l m : List Tr) (P : Tr → Prop) (l' : List {x // P x}), l'.map (·.1) = l → (l.length == m.length && (l'.zip m).all fun p => eqT p.1.1 p.2) = eqL l m
  | [], [], P, l', h => by cases l' <;> simp_all [eqL]
  | [], y :: m, P, l', h => by cases l' <;> simp_all [eqL]
  | x :: l, [], P, l', h => by cases l' <;> simp_all [eqL]
  | x :: l, y :: m, P, l', h => by
    cases l' with
    | nil => simp at h
    | cons z l' =>
      simp only [List.map_cons, List.cons.injEq] at h
      have ih := zip_eqL l m P l' h.2
      simp only [List.length_cons, List.zip_cons_cons, List.all_cons, eqL, h.1]
      rw [← ih]
      have : (l.length + 1 == m.length + 1) = (l.length == m.length) := by simp
      rw [this]
      cases l.length == m.length <;> cases eqT x y <;> rfl
theorem eqT_eq (a b : Tr) : eqT a b = (a.Kind == b.Kind && (a.Words == b.Words && eqL a.Kids b.Kids)) := by
  rw [eqT, zip_eqL a.Kids b.Kids (· ∈ a.Kids) a.Kids.attach (by simp)]
theorem eqL_cons (x y : Tr) (xs ys : List Tr) : eqL (x :: xs) (y :: ys) = (eqT x y && eqL xs ys) := rfl
theorem eqT_iff_n : ∀ (n : Nat) (a b : Tr), SizeOf.sizeOf a < n → (eqT a b = true ↔ a = b)
  | 0, a, b, h => by omega
  | n + 1, a, b, hn => by
    have ih : ∀ x ∈ a.Kids, ∀ y, eqT x y = true ↔ x = y := fun x hx y => eqT_iff_n n x y (by have := kid_lt hx; omega)
    have hl : ∀ (l m : List Tr), (∀ x ∈ l, x ∈ a.Kids) → (eqL l m = true ↔ l = m) := fun l => by
      induction l with
      | nil => intro m _; cases m <;> simp [eqL]
      | cons x l ihl =>
        intro m hm
        cases m with
        | nil => simp [eqL]
        | cons y m => rw [eqL_cons, Bool.and_eq_true, ih x (hm x (.head _)) y, ihl m (fun z hz => hm z (.tail _ hz)), List.cons.injEq]
    rw [eqT_eq, Bool.and_eq_true, Bool.and_eq_true, hl a.Kids b.Kids (fun x hx => hx), beq_iff_eq, beq_iff_eq]
    obtain ⟨k, w, ks⟩ := a
    obtain ⟨k', w', ks'⟩ := b
    simp
theorem eqT_iff {a b : Tr} : eqT a b = true ↔ a = b := eqT_iff_n _ a b (Nat.lt_succ_self _)
theorem eqT_refl (a : Tr) : eqT a a = true := eqT_iff.2 rfl
theorem any_ne : ∀ (a b : List Int), a.length = b.length → (a.zip b).any (fun p => p.1 != p.2) = !(a == b)
  | [], [], _ => rfl
  | [], _ :: _, h => by simp at h
  | _ :: _, [], h => by simp at h
  | x :: a, y :: b, h => by
    have ih := any_ne a b (by simpa using h)
    rw [List.zip_cons_cons, List.any_cons, ih]
    by_cases hxy : x = y
    · subst hxy; simp
    · simp [bne, hxy]
theorem loop_two {R : Type} (a b : List Int) (step : Int → Option (Int ⊕ R)) (e o : R) (hab : a.length = b.length) (hl : (a.length : Int) ≤ 140737488355328)
    (h1 : ∀ (i : Nat) (x y : Int), i < a.length → a[i]? = some x → b[i]? = some y → step i = some (if (x != y) = true then .inr e else .inl (IntKind.i64.wrap ((i : Int) + 1)))) (h2 : step a.length = some (.inr o)) :
    runLoop step 0 = some (if (a == b) = true then o else e) := by
  have hz : (a.zip b).length = a.length := by rw [List.length_zip]; omega
  have := loop_any (a.zip b) step (fun p => p.1 != p.2) e o (by rw [hz]; exact hl) (fun i p hi hp hm => by
    rw [hz] at hi
    have ha : a[i]? = some a[i] := List.getElem?_eq_getElem hi
    have hb : b[i]? = some b[i] := List.getElem?_eq_getElem (by omega)
    have : p = (a[i], b[i]) := by
      rw [List.getElem?_eq_getElem (by rw [hz]; exact hi)] at hp
      injection hp with hp
      rw [← hp, List.getElem_zip]
    subst this
    exact h1 i _ _ hi ha hb) (by rw [hz]; exact h2)
  rw [this, any_ne a b hab]
  cases a == b <;> rfl
theorem len_ne {a b : Nat} : ((a : Int) != (b : Int)) = !(a == b) := by
  rw [Bool.eq_iff_iff]; simp; omega
theorem beq_len {a b : List Int} (h : ¬ a.length = b.length) : (a == b) = false := by
  rw [beq_eq_false_iff_ne]; intro e; exact h (by rw [e])
theorem sameW_ok {a b : List Int} (h : (a.length : Int) ≤ 140737488355328) : m_centoref01_Same a b = some (a == b) := by
  unfold m_centoref01_Same
  rw [len_ne]
  by_cases hab : a.length = b.length
  · have : (!(a.length == b.length)) = false := by simp [hab]
    rw [this, cond_false, loop_two a b (m_centoref01_Same_L0 a b) (.inl ()) (.inr ()) hab h (fun i x y hi hx hy => by
      unfold m_centoref01_Same_L0
      rw [lt_t hi, cond_true, getI_of hx, Option.bind_some, getI_of hy, Option.bind_some]
      cases x != y <;> rfl) (by unfold m_centoref01_Same_L0; rw [lt_f]; rfl)]
    cases a == b <;> rfl
  · have : (!(a.length == b.length)) = true := by simp [hab]
    rw [this, cond_true, beq_len hab]
theorem any_q (q : Tr → Tr → Bool) : ∀ (a b : List Tr), (a.zip b).any (fun p => !q p.1 p.2) = !((a.zip b).all fun p => q p.1 p.2)
  | [], b => by simp
  | x :: a, [] => by simp
  | x :: a, y :: b => by rw [List.zip_cons_cons, List.any_cons, any_q q a b, List.all_cons]; cases q x y <;> rfl
theorem loop_twoT {R : Type} (a b : List Tr) (q : Tr → Tr → Bool) (step : Int → Option (Int ⊕ R)) (e o : R) (hab : a.length = b.length) (hl : (a.length : Int) ≤ 140737488355328)
    (h1 : ∀ (i : Nat) (x y : Tr), i < a.length → a[i]? = some x → b[i]? = some y → x ∈ a → y ∈ b → step i = some (if (!q x y) = true then .inr e else .inl (IntKind.i64.wrap ((i : Int) + 1)))) (h2 : step a.length = some (.inr o)) :
    runLoop step 0 = some (if ((a.zip b).all fun p => q p.1 p.2) = true then o else e) := by
  have hz : (a.zip b).length = a.length := by rw [List.length_zip]; omega
  have := loop_any (a.zip b) step (fun p => !q p.1 p.2) e o (by rw [hz]; exact hl) (fun i p hi hp hm => by
    rw [hz] at hi
    have ha : a[i]? = some a[i] := List.getElem?_eq_getElem hi
    have hb : b[i]? = some b[i] := List.getElem?_eq_getElem (by omega)
    have : p = (a[i], b[i]) := by
      rw [List.getElem?_eq_getElem (by rw [hz]; exact hi)] at hp
      injection hp with hp
      rw [← hp, List.getElem_zip]
    subst this
    exact h1 i _ _ hi ha hb (List.getElem_mem _) (List.getElem_mem _)) (by rw [hz]; exact h2)
  rw [this, any_q q a b]
  cases (a.zip b).all fun p => q p.1 p.2 <;> rfl
theorem all_eqL0 : ∀ (a b : List Tr), a.length = b.length → ((a.zip b).all fun p => eqT p.1 p.2) = eqL a b
  | [], [], _ => rfl
  | [], _ :: _, h => by simp at h
  | _ :: _, [], h => by simp at h
  | x :: a, y :: b, h => by
    have ih := all_eqL0 a b (by simpa using h)
    rw [List.zip_cons_cons, List.all_cons, ih]; rfl
theorem eqL_len : ∀ (a b : List Tr), a.length ≠ b.length → eqL a b = false
  | [], [], h => by simp at h
  | [], _ :: _, _ => rfl
  | _ :: _, [], _ => rfl
  | x :: a, y :: b, h => by rw [eqL_cons, eqL_len a b (by simpa using h), Bool.and_false]
theorem same_lv : ∀ (k : Nat) (a b : Tr), Bd a → Bd b → SizeOf.sizeOf a < k → lv_centoref07_Same k a b = some (eqT a b)
  | 0, a, b, _, _, h => by omega
  | k + 1, a, b, ha, hb, hk => by
    have ih : ∀ x ∈ a.Kids, ∀ y ∈ b.Kids, lv_centoref07_Same k x y = some (eqT x y) := fun x hx y hy => same_lv k x y (ha.all x hx) (hb.all y hy) (by have := kid_lt hx; omega)
    have hw := ha.w
    have hkd := ha.k
    show b_centoref07_Same (lv_centoref07_Same k) a b = _
    unfold b_centoref07_Same
    rw [eqT_eq, sameW_ok (by omega), Option.bind_some, len_ne]
    by_cases h0 : a.Kind = b.Kind
    · have e0 : (a.Kind != b.Kind) = false := by simp [h0]
      have e1 : (a.Kind == b.Kind) = true := by simp [h0]
      rw [e0, e1, cond_false, cond_false, Option.bind_some, Bool.true_and]
      cases hw' : a.Words == b.Words with
      | false => rfl
      | true =>
        rw [Bool.not_true, cond_false, Bool.true_and]
        by_cases hab : a.Kids.length = b.Kids.length
        · have : (!(a.Kids.length == b.Kids.length)) = false := by simp [hab]
          rw [this, cond_false, loop_twoT a.Kids b.Kids eqT (b_centoref07_Same_L0 (lv_centoref07_Same k) a b) (.inl ()) (.inr ()) hab (by omega) (fun i x y hi hx hy hmx hmy => by
            unfold b_centoref07_Same_L0
            rw [lt_t hi, cond_true, getI_of hx, Option.bind_some, getI_of hy, Option.bind_some, ih x hmx y hmy, Option.bind_some]
            cases eqT x y <;> rfl) (by unfold b_centoref07_Same_L0; rw [lt_f]; rfl)]
          rw [all_eqL0 a.Kids b.Kids hab]
          cases eqL a.Kids b.Kids <;> rfl
        · have : (!(a.Kids.length == b.Kids.length)) = true := by simp [hab]
          rw [this, cond_true, eqL_len _ _ hab]
    · have e0 : (a.Kind != b.Kind) = true := by simp [h0]
      have e1 : (a.Kind == b.Kind) = false := by simp [h0]
      rw [e0, e1]; rfl
theorem same_ok {a b : Tr} (ha : Bd a) (hb : Bd b) : m_centoref07_Same a b = some (eqT a b) := lim_eq (SizeOf.sizeOf a + 1) fun k hk => same_lv k a b ha hb (by omega)
def pt (t : Tr) : Nat := 1 + t.Words.length + (t.Kids.attach.map fun k => pt k.1).sum
termination_by SizeOf.sizeOf t
decreasing_by exact kid_lt k.2
theorem pt_eq (t : Tr) : pt t = 1 + t.Words.length + (t.Kids.map pt).sum := by
  rw [pt]
  simp only [List.attach_map_val]
theorem shallow_lv : ∀ (k : Nat) (t : Tr) (d left : Int), Bd t → SizeOf.sizeOf t < k → 0 ≤ d → d ≤ 100 → 0 ≤ left → left ≤ 1000000 → ∃ r, lv_centoref07_Shallow k t d left = some r ∧ -1 ≤ r ∧ r ≤ 1000000 ∧ (0 ≤ r → r + pt t ≤ left)
  | 0, t, _, _, _, h, _, _, _, _ => by omega
  | k + 1, t, d, left, hb, hk, hd0, hd1, hl0, hl1 => by
    have ih : ∀ x ∈ t.Kids, ∀ d left : Int, 0 ≤ d → d ≤ 100 → 0 ≤ left → left ≤ 1000000 → ∃ r, lv_centoref07_Shallow k x d left = some r ∧ -1 ≤ r ∧ r ≤ 1000000 ∧ (0 ≤ r → r + pt x ≤ left) := fun x hx d left => shallow_lv k x d left (hb.all x hx) (by have := kid_lt hx; omega)
    have hw := hb.w
    have hkd := hb.k
    show ∃ r, b_centoref07_Shallow (lv_centoref07_Shallow k) t d left = some r ∧ _
    unfold b_centoref07_Shallow
    rw [i64s (x := left - 1) (by omega) (by omega), i64s (by omega) (by omega), pt_eq]
    cases hc : cond (d == 0) true (decide (left - 1 - (t.Words.length : Int) < 0)) with
    | true => exact ⟨-1, rfl, by omega, by omega, fun h => by omega⟩
    | false =>
      rw [cond_false]
      have hd : ¬ d = 0 ∧ 0 ≤ left - 1 - (t.Words.length : Int) := by
        by_cases h : d = 0
        · simp [h] at hc
        · have e : (d == 0) = false := by simp [h]
          rw [e, cond_false, decide_eq_false_iff_not] at hc
          exact ⟨h, by omega⟩
      obtain ⟨r, h1, h2⟩ := runLoop_rule (step := b_centoref07_Shallow_L0 (lv_centoref07_Shallow k) t d)
        (fun s => ∃ j : Nat, s.2 = j ∧ j ≤ t.Kids.length ∧ -1 ≤ s.1 ∧ s.1 ≤ 1000000 ∧ (0 ≤ s.1 → s.1 + (((t.Kids.take j).map pt).sum : Nat) ≤ left - 1 - (t.Words.length : Int)))
        (fun s => t.Kids.length - s.2.toNat) (fun r => -1 ≤ r ∧ r ≤ 1000000 ∧ (0 ≤ r → r + ((t.Kids.map pt).sum : Nat) ≤ left - 1 - (t.Words.length : Int))) (fun s hI => by
          obtain ⟨l, i⟩ := s
          obtain ⟨j, rfl, hj, g1, g2, g3⟩ := hI
          simp only at g1 g2 g3 ⊢
          unfold b_centoref07_Shallow_L0
          simp only
          by_cases hji : j < t.Kids.length
          · rw [lt_t hji, cond_true]
            by_cases hl : 0 ≤ l
            · have e : decide (0 ≤ l) = true := by simp [hl]
              have hx : t.Kids[j]? = some t.Kids[j] := List.getElem?_eq_getElem hji
              obtain ⟨r, q1, q2, q3, q4⟩ := ih t.Kids[j] (List.getElem_mem hji) (d - 1) l (by omega) (by omega) hl g2
              rw [e, cond_true, getI_of hx, Option.bind_some, i64s (by omega) (by omega), q1, Option.bind_some, i64s (by omega) (by omega)]
              refine .inl ⟨_, rfl, ⟨j + 1, by simp only; omega, by omega, q2, q3, fun hr => ?_⟩, by simp only; omega⟩
              have := q4 hr
              have := g3 hl
              rw [List.take_add_one, hx]
              simp only [Option.toList_some, List.map_append, List.map_cons, List.map_nil, List.sum_append, List.sum_cons, List.sum_nil]
              simp only at hr
              omega
            · have e : decide (0 ≤ l) = false := by simp [hl]
              rw [e, cond_false]
              exact .inr ⟨l, rfl, g1, g2, fun h => absurd h hl⟩
          · have hj' : j = t.Kids.length := by omega
            subst hj'
            rw [lt_f, cond_false]
            rw [List.take_length] at g3
            exact .inr ⟨l, rfl, g1, g2, g3⟩) (left - 1 - (t.Words.length : Int), 0) ⟨0, rfl, Nat.zero_le _, by simp only; omega, by simp only; omega, fun _ => by simp⟩
      rw [h1]
      refine ⟨r, rfl, h2.1, h2.2.1, fun hr => ?_⟩
      have := h2.2.2 hr
      omega
theorem getI_mem {α : Type} {xs : List α} {i : Int} {x : α} (h : getI xs i = some x) : x ∈ xs := List.mem_of_getElem? (getI_get h)
theorem shallow_same : ∀ (k k' : Nat) (t : Tr) (d left : Int), SizeOf.sizeOf t < k → SizeOf.sizeOf t < k' → lv_centoref07_Shallow k t d left = lv_centoref07_Shallow k' t d left
  | 0, _, t, _, _, h, _ => by omega
  | k + 1, 0, t, _, _, _, h => by omega
  | k + 1, k' + 1, t, d, left, h, h' => by
    show b_centoref07_Shallow (lv_centoref07_Shallow k) t d left = b_centoref07_Shallow (lv_centoref07_Shallow k') t d left
    have e : b_centoref07_Shallow_L0 (lv_centoref07_Shallow k) t d = b_centoref07_Shallow_L0 (lv_centoref07_Shallow k') t d := funext fun s => by
      unfold b_centoref07_Shallow_L0
      cases hx : getI t.Kids s.2 with
      | none => rfl
      | some x => simp only [Option.bind_some, shallow_same k k' x (IntKind.i64.wrap (d - 1)) s.1 (by have := kid_lt (getI_mem hx); omega) (by have := kid_lt (getI_mem hx); omega)]
    unfold b_centoref07_Shallow
    rw [e]
theorem shal_ok {t : Tr} (h : Bd t) {left : Int} (h0 : 0 ≤ left) (h1 : left ≤ 1000000) : ∃ r, m_centoref07_Shallow t 80 left = some r ∧ -1 ≤ r ∧ r ≤ 1000000 ∧ (0 ≤ r → r + pt t ≤ left) := by
  obtain ⟨r, h2, h3⟩ := shallow_lv (SizeOf.sizeOf t + 1) t 80 left h (by omega) (by omega) (by omega) h0 h1
  exact ⟨r, lim_eq (SizeOf.sizeOf t + 1) fun k hk => by rw [shallow_same k (SizeOf.sizeOf t + 1) t 80 left (by omega) (by omega)]; exact h2, h3⟩
def wid (c : Int) : Nat := if c = 0 then 0 else if c = 1 then 1 else if c = 2 then 8 else if c = 3 then 16 else if c = 4 then 32 else 64
def fitsP (c w : Int) : Bool := decide (w < 2 ^ wid c)
theorem code_cases {c : Int} (h0 : 0 ≤ c) (h1 : c ≤ 5) : c = 0 ∨ c = 1 ∨ c = 2 ∨ c = 3 ∨ c = 4 ∨ c = 5 := by omega
theorem rfits_loop (n : Nat) (hn : n ≤ 64) (w : Int) (h0 : 0 ≤ w) (h1 : w < 18446744073709551616) : runLoop (m_centoref01_Fits_L0 (n : Int)) (w, 0) = some (w / 2 ^ n) := by
  have key : ∀ m i : Nat, i + m = n → runLoop (m_centoref01_Fits_L0 (n : Int)) (w / 2 ^ i, (i : Int)) = some (w / 2 ^ n) := fun m => by
    induction m with
    | zero =>
      intro i hi
      have : i = n := by omega
      subst this
      refine runLoop_end ?_
      unfold m_centoref01_Fits_L0
      simp only
      rw [lt_f, cond_false]
    | succ m ih =>
      intro i hi
      have hp : (0 : Int) < 2 ^ i := Int.pow_pos (by decide)
      have q0 : 0 ≤ w / 2 ^ i := Int.ediv_nonneg h0 (Int.le_of_lt hp)
      have q1 : w / 2 ^ i ≤ w := Int.ediv_le_self _ h0
      have hs : m_centoref01_Fits_L0 (n : Int) (w / 2 ^ i, (i : Int)) = some (.inl (w / 2 ^ (i + 1), ((i + 1 : Nat) : Int))) := by
        unfold m_centoref01_Fits_L0
        simp only
        rw [lt_t (by omega), cond_true, i64s (by omega) (by omega), Int.tdiv_eq_ediv_of_nonneg q0]
        have e : w / 2 ^ i / 2 = w / 2 ^ (i + 1) := by rw [Int.ediv_ediv_of_nonneg (Int.le_of_lt hp), Int.pow_succ]
        have q2 : 0 ≤ w / 2 ^ i / 2 := Int.ediv_nonneg q0 (by decide)
        have q3 : w / 2 ^ i / 2 ≤ w / 2 ^ i := Int.ediv_le_self _ q0
        have e3 : IntKind.u64.wrap (w / 2 ^ i / 2) = w / 2 ^ i / 2 := by
          exact u64w ⟨q2, by omega⟩
        rw [e3, e]
        rfl
      rw [runLoop_step hs]
      exact ih (i + 1) (by omega)
  have := key n 0 (by omega)
  simpa using this
theorem rfits_ok {c w : Int} (h0 : 0 ≤ c) (h1 : c ≤ 5) (hw : 0 ≤ w) (hw' : w < 18446744073709551616) : m_centoref01_Fits c w = some (fitsP c w) := by
  have e : ∀ n : Nat, n ≤ 64 → (cond (decide ((n : Int) < 0)) (some false) ((runLoop (m_centoref01_Fits_L0 (n : Int)) (w, 0)).bind fun (z4 : Int) => some (z4 == 0))) = some (decide (w < 2 ^ n)) := fun n hn => by
    have : decide ((n : Int) < 0) = false := by rw [decide_eq_false_iff_not]; omega
    have hp : (0 : Int) < 2 ^ n := Int.pow_pos (by decide)
    rw [this, cond_false, rfits_loop n hn w hw hw', Option.bind_some]
    congr 1
    rw [Bool.eq_iff_iff, beq_iff_eq, decide_eq_true_eq]
    constructor
    · intro h
      rcases Int.lt_or_le w (2 ^ n) with h2 | h2
      · exact h2
      · have := Int.ediv_le_ediv hp h2
        rw [Int.ediv_self (Int.ne_of_gt hp)] at this
        omega
    · intro h; exact Int.ediv_eq_zero_of_lt hw h
  unfold m_centoref01_Fits fitsP
  rcases code_cases h0 h1 with rfl | rfl | rfl | rfl | rfl | rfl
  · exact e 0 (by decide)
  · exact e 1 (by decide)
  · exact e 8 (by decide)
  · exact e 16 (by decide)
  · exact e 32 (by decide)
  · exact e 64 (by decide)
def okk (kind : Int) (k : Tr) : Bool := if 2 ≤ kind ∧ kind ≤ 7 then k.Kind == 10 && fitsP (kind - 2) (k.Words.headD 0) else k.Kind != 10 && (kind != 9 || k.Kind == 1)
def rt (t : Tr) (d : Nat) : Bool :=
  if t.Kind = 0 then t.Words.length == 0 && t.Kids.length == 0
  else if t.Kind = 10 then t.Words.length == 1 && t.Kids.length == 0
  else if t.Kind < 0 ∨ 10 < t.Kind ∨ d = 0 ∨ 65536 ≤ t.Words.length ∨ (t.Kind = 1 ∧ 65536 ≤ t.Kids.length) ∨ 1048576 ≤ t.Kids.length ∨ (1 < t.Kind ∧ 0 < t.Words.length) then false
  else (t.Kids.attach.map fun k => rt k.1 (d - 1) && okk t.Kind k.1).all id
termination_by SizeOf.sizeOf t
decreasing_by exact kid_lt k.2
theorem rt_eq (t : Tr) (d : Nat) : rt t d = if t.Kind = 0 then t.Words.length == 0 && t.Kids.length == 0
  else if t.Kind = 10 then t.Words.length == 1 && t.Kids.length == 0
  else if t.Kind < 0 ∨ 10 < t.Kind ∨ d = 0 ∨ 65536 ≤ t.Words.length ∨ (t.Kind = 1 ∧ 65536 ≤ t.Kids.length) ∨ 1048576 ≤ t.Kids.length ∨ (1 < t.Kind ∧ 0 < t.Words.length) then false
  else t.Kids.all fun k => rt k (d - 1) && okk t.Kind k := by
  rw [rt]
  have : (t.Kids.attach.map fun k => rt k.1 (d - 1) && okk t.Kind k.1) = t.Kids.map fun k => rt k (d - 1) && okk t.Kind k := List.attach_map_val (f := fun k => rt k (d - 1) && okk t.Kind k)
  rw [this, List.all_map]
  rfl
theorem rt_atom_w {t : Tr} (h : t.Kind = 10) {d : Nat} (hr : rt t d = true) : ∃ w, t.Words = [w] := by
  rw [rt_eq, if_neg (by omega), if_pos h, Bool.and_eq_true, beq_iff_eq] at hr
  obtain ⟨k, w, ks⟩ := t
  obtain ⟨h1, _⟩ := hr
  simp only at h1 ⊢
  exact List.length_eq_one_iff.1 h1
theorem len0 {n : Nat} : ((n : Int) == 0) = (n == 0) := by rw [Bool.eq_iff_iff, beq_iff_eq, beq_iff_eq]; omega
theorem len1 {n : Nat} : ((n : Int) == 1) = (n == 1) := by rw [Bool.eq_iff_iff, beq_iff_eq, beq_iff_eq]; omega
theorem cond_and (a b : Bool) : cond a b false = (a && b) := by cases a <;> rfl
theorem all_any {α : Type} (p : α → Bool) : ∀ l : List α, l.any (fun x => !p x) = !(l.all p)
  | [] => rfl
  | x :: l => by rw [List.any_cons, List.all_cons, all_any p l]; cases p x <;> rfl
theorem loop_all {α R : Type} (xs : List α) (step : Int → Option (Int ⊕ R)) (p : α → Bool) (e o : R) (hl : (xs.length : Int) ≤ 140737488355328)
    (h1 : ∀ (i : Nat) (x : α), i < xs.length → xs[i]? = some x → x ∈ xs → step i = some (if p x = true then .inl (IntKind.i64.wrap ((i : Int) + 1)) else .inr e)) (h2 : step xs.length = some (.inr o)) : runLoop step 0 = some (if xs.all p = true then o else e) := by
  rw [loop_any xs step (fun x => !p x) e o hl (fun i x hi hx hm => by rw [h1 i x hi hx hm]; cases p x <;> rfl) h2, all_any]
  cases xs.all p <;> rfl
theorem rright_lv : ∀ (k : Nat) (t : Tr) (d : Nat), Bd t → SizeOf.sizeOf t < k → d ≤ 64 → lv_centoref07_Right k t (d : Int) = some (rt t d)
  | 0, t, d, _, h, _ => by omega
  | k + 1, t, d, hb, hk, hd => by
    have hkd := hb.k
    show b_centoref07_Right (lv_centoref07_Right k) t (d : Int) = _
    unfold b_centoref07_Right
    rw [rt_eq, len0, len1]
    by_cases h0 : t.Kind = 0
    · rw [if_pos h0, h0]
      simp only [len0, cond_and]
      rfl
    have e0 : (t.Kind == 0) = false := by simp [h0]
    rw [if_neg h0, e0, cond_false]
    by_cases h10 : t.Kind = 10
    · rw [if_pos h10, h10]
      simp only [len0, cond_and]
      rfl
    have e10 : (t.Kind == 10) = false := by simp [h10]
    rw [if_neg h10, e10, cond_false]
    by_cases hbad : t.Kind < 0 ∨ 10 < t.Kind ∨ d = 0 ∨ 65536 ≤ t.Words.length ∨ (t.Kind = 1 ∧ 65536 ≤ t.Kids.length) ∨ 1048576 ≤ t.Kids.length ∨ (1 < t.Kind ∧ 0 < t.Words.length)
    · rw [if_pos hbad]
      have hc : ∀ c1 c2 c3 c4 c5 c6 c7 c8 : Bool, (c1 = true ∨ c2 = true ∨ c3 = true ∨ c4 = true ∨ (c5 = true ∧ c6 = true) ∨ c7 = true ∨ c8 = true) → ∀ X : Option Bool,
          cond (cond (cond (cond (cond (cond c1 true c2) true c3) true c4) true (cond c5 c6 false)) true c7) (some false) (cond c8 (some false) X) = some false := by
        intro c1 c2 c3 c4 c5 c6 c7 c8 h X
        cases c1 <;> cases c2 <;> cases c3 <;> cases c4 <;> cases c5 <;> cases c6 <;> cases c7 <;> cases c8 <;> first | rfl | (simp at h; done)
      refine hc _ _ _ _ _ _ _ _ ?_ _
      simp only [decide_eq_true_eq, beq_iff_eq, cond_and, Bool.and_eq_true]
      omega
    · rw [if_neg hbad]
      have hg : ¬ t.Kind < 0 ∧ ¬ 10 < t.Kind ∧ ¬ d = 0 ∧ ¬ 65536 ≤ t.Words.length ∧ ¬ (t.Kind = 1 ∧ 65536 ≤ t.Kids.length) ∧ ¬ 1048576 ≤ t.Kids.length ∧ ¬ (1 < t.Kind ∧ 0 < t.Words.length) := by omega
      have hc : ∀ c1 c2 c3 c4 c5 c7 c8 : Bool, c1 = false → c2 = false → c3 = false → c4 = false → c5 = false → c7 = false → c8 = false → ∀ X : Option Bool,
          cond (cond (cond (cond (cond (cond c1 true c2) true c3) true c4) true c5) true c7) (some false) (cond c8 (some false) X) = X := by
        intro c1 c2 c3 c4 c5 c7 c8 h1 h2 h3 h4 h5 h7 h8 X
        subst h1 h2 h3 h4 h5 h7 h8
        rfl
      rw [hc _ _ _ _ _ _ _ (decide_eq_false hg.1) (decide_eq_false hg.2.1) (by rw [beq_eq_false_iff_ne]; omega) (by rw [decide_eq_false_iff_not]; omega) (by rw [cond_and, Bool.and_eq_false_iff, beq_eq_false_iff_ne, decide_eq_false_iff_not]; omega) (by rw [decide_eq_false_iff_not]; omega) (by rw [cond_and, Bool.and_eq_false_iff, decide_eq_false_iff_not, decide_eq_false_iff_not]; omega)]
      obtain ⟨d', rfl⟩ : ∃ d', d = d' + 1 := ⟨d - 1, by omega⟩
      have ih : ∀ x ∈ t.Kids, lv_centoref07_Right k x (d' : Int) = some (rt x d') := fun x hx => rright_lv k x d' (hb.all x hx) (by have := kid_lt hx; omega) (by omega)
      rw [loop_all t.Kids (b_centoref07_Right_L0 (lv_centoref07_Right k) t ((d' + 1 : Nat) : Int)) (fun x => rt x d' && okk t.Kind x) (.inl ()) (.inr ()) (by omega) (fun i x hi hx hm => by
        unfold b_centoref07_Right_L0
        have ed : ((d' + 1 : Nat) : Int) - 1 = (d' : Int) := by omega
        rw [lt_t hi, cond_true, getI_of hx, Option.bind_some, i64s (x := ((d' + 1 : Nat) : Int) - 1) (by omega) (by omega), ed, ih x hm, Option.bind_some]
        cases hr : rt x d' with
        | false => rfl
        | true =>
          rw [Bool.not_true, cond_false, Bool.true_and]
          unfold okk
          by_cases hdt : 2 ≤ t.Kind ∧ t.Kind ≤ 7
          · have e2 : decide (2 ≤ t.Kind) = true := decide_eq_true hdt.1
            have e7 : decide (t.Kind ≤ 7) = true := decide_eq_true hdt.2
            have e9 : (t.Kind == 9) = false := by rw [beq_eq_false_iff_ne]; omega
            rw [e2, e7, e9, if_pos hdt]
            simp only [cond_true, cond_false]
            by_cases hx10 : x.Kind = 10
            · obtain ⟨w, hw⟩ := rt_atom_w hx10 hr
              have hu := (hb.all x hm).u w (by rw [hw]; exact .head _)
              have ex : (x.Kind == 10) = true := by simp [hx10]
              have ex2 : ((true : Bool) != true) = false := rfl
              have hg0 : getI [w] (0 : Int) = some w := rfl
              rw [ex, ex2, cond_false, hw, hg0, Option.bind_some, i64s (by omega) (by omega), rfits_ok (by omega) (by omega) hu.1 hu.2, Option.bind_some]
              simp only [cond_false, List.headD_cons, Bool.true_and]
              cases fitsP (t.Kind - 2) w <;> rfl
            · have ex : (x.Kind == 10) = false := by simp [hx10]
              rw [ex]
              rfl
          · have ed2 : cond (decide (2 ≤ t.Kind)) (decide (t.Kind ≤ 7)) false = false := by
              rw [cond_and, Bool.and_eq_false_iff, decide_eq_false_iff_not, decide_eq_false_iff_not]; omega
            rw [ed2, if_neg hdt]
            have hin : ∀ (X : Option Bool) (b : Bool), (cond (decide (2 ≤ t.Kind)) (cond (decide (t.Kind ≤ 7)) X (some b)) (some b)) = some b := fun X b => by
              by_cases h2 : 2 ≤ t.Kind
              · have h7 : decide (t.Kind ≤ 7) = false := by rw [decide_eq_false_iff_not]; omega
                rw [decide_eq_true h2, h7]; rfl
              · rw [decide_eq_false h2]; rfl
            by_cases hx10 : x.Kind = 10
            · have ex : (x.Kind == 10) = true := by simp [hx10]
              have ex2 : (x.Kind != 10) = false := by simp [hx10]
              rw [ex, ex2]
              rfl
            · have ex : (x.Kind == 10) = false := by simp [hx10]
              have ex2 : (x.Kind != 10) = true := by simp [hx10]
              have ex3 : ((false : Bool) != false) = false := rfl
              rw [ex, ex2, ex3, cond_false]
              simp only [cond_false]
              rw [hin]
              by_cases h9 : t.Kind = 9
              · have e9 : (t.Kind == 9) = true := by simp [h9]
                have e9' : (t.Kind != 9) = false := by simp [h9]
                rw [e9, e9', cond_true]
                by_cases hx1 : x.Kind = 1
                · have q1 : (x.Kind != 1) = false := by simp [hx1]
                  have q2 : (x.Kind == 1) = true := by simp [hx1]
                  rw [q1, q2, cond_false]
                  rfl
                · have q1 : (x.Kind != 1) = true := by simp [hx1]
                  have q2 : (x.Kind == 1) = false := by simp [hx1]
                  rw [q1, q2, cond_true]
                  rfl
              · have e9 : (t.Kind == 9) = false := by simp [h9]
                have e9' : (t.Kind != 9) = true := by simp [h9]
                rw [e9, e9']
                rfl) (by unfold b_centoref07_Right_L0; rw [lt_f]; rfl), Option.bind_some, Nat.add_sub_cancel]
      cases t.Kids.all fun x => rt x d' && okk t.Kind x <;> rfl
theorem rright_ok {t : Tr} (h : Bd t) {d : Nat} (hd : d ≤ 64) : m_centoref07_Right t (d : Int) = some (rt t d) := lim_eq (SizeOf.sizeOf t + 1) fun k hk => rright_lv k t d h (by omega) hd
def bitB (m i : Nat) : Bool := decide (m / 2 ^ i % 2 = 1)
theorem beq_mod2 (q : Nat) : ((q : Int) % 2 == 1) = decide (q % 2 = 1) := by rw [Bool.eq_iff_iff]; simp; omega
def bySum (f : Nat → Nat) : Nat → Nat
  | 0 => 0
  | k + 1 => 2 ^ (8 * k) * f k + bySum f k
def byteN (n k : Nat) : Nat := n / 256 ^ k % 256
theorem byteN_lt (n k : Nat) : byteN n k < 256 := Nat.mod_lt _ (by decide)
def mixF (a b m k : Nat) : Nat := if bitB m k then byteN b k else byteN a k
theorem mixF_lt (a b m k : Nat) : mixF a b m k < 256 := by unfold mixF; split <;> exact byteN_lt _ _
def mixN (a b m : Nat) : Nat := bySum (mixF a b m) 8
theorem tdiv256 (q : Nat) : Int.tdiv (q : Int) 256 = ((q / 256 : Nat) : Int) := by rw [Int.tdiv_eq_ediv_of_nonneg (Int.natCast_nonneg _)]; omega
theorem tdiv2 (q : Nat) : Int.tdiv (q : Int) 2 = ((q / 2 : Nat) : Int) := by rw [Int.tdiv_eq_ediv_of_nonneg (Int.natCast_nonneg _)]; omega
theorem tmod256 (q : Nat) : IntKind.u8.wrap (Int.tmod (q : Int) 256) = ((q % 256 : Nat) : Int) := by rw [Int.tmod_eq_emod_of_nonneg (Int.natCast_nonneg _), IntKind.wrap_u8']; omega
theorem u64n (q : Nat) (h : q < 18446744073709551616) : IntKind.u64.wrap (q : Int) = (q : Int) := u64w (by omega)
theorem u8n (q : Nat) (h : q < 256) : IntKind.u8.wrap (q : Int) = (q : Int) := by rw [IntKind.wrap_u8']; omega
theorem lt8 {k : Nat} (h : k < 8) : k = 0 ∨ k = 1 ∨ k = 2 ∨ k = 3 ∨ k = 4 ∨ k = 5 ∨ k = 6 ∨ k = 7 := by omega
def ofF (f : Nat → Nat) : Arr Int 8 := ⟨[(f 0 : Nat), (f 1 : Nat), (f 2 : Nat), (f 3 : Nat), (f 4 : Nat), (f 5 : Nat), (f 6 : Nat), (f 7 : Nat)], rfl⟩
theorem ofF_get (f : Nat → Nat) (k : Nat) (hk : k < 8) : getI (ofF f).1 (k : Int) = some ((f k : Nat) : Int) := by
  rcases lt8 hk with rfl | rfl | rfl | rfl | rfl | rfl | rfl | rfl <;> rfl
theorem ofF_put (f : Nat → Nat) (k v : Nat) (hk : k < 8) : Arr.put (ofF f) (k : Int) (v : Int) = ofF (fun i => if i = k then v else f i) := by
  rcases lt8 hk with rfl | rfl | rfl | rfl | rfl | rfl | rfl | rfl <;> rfl
theorem ofF_congr {f g : Nat → Nat} (h : ∀ k, k < 8 → f k = g k) : ofF f = ofF g := by
  unfold ofF
  simp only [h 0 (by decide), h 1 (by decide), h 2 (by decide), h 3 (by decide), h 4 (by decide), h 5 (by decide), h 6 (by decide), h 7 (by decide)]
theorem bytes_loop (n : Nat) (hn : n < 18446744073709551616) : ∀ j i : Nat, i + j = 8 → runLoop m_centoref01_Bytes_L0 (((n / 256 ^ i : Nat) : Int), (i : Int), ofF (fun q => if q < i then byteN n q else 0)) = some (ofF (byteN n))
  | 0, i, h => by
    obtain rfl : i = 8 := by omega
    refine (runLoop_end (r := ofF (fun q => if q < 8 then byteN n q else 0)) rfl).trans ?_
    rw [ofF_congr (g := byteN n) fun k hk => if_pos hk]
  | j + 1, i, h => by
    have hs : m_centoref01_Bytes_L0 (((n / 256 ^ i : Nat) : Int), (i : Int), ofF (fun q => if q < i then byteN n q else 0)) = some (.inl (((n / 256 ^ (i + 1) : Nat) : Int), ((i + 1 : Nat) : Int), ofF (fun q => if q < i + 1 then byteN n q else 0))) := by
      unfold m_centoref01_Bytes_L0
      have e : decide ((i : Int) < 8) = true := by rw [decide_eq_true_eq]; omega
      simp only
      have q1 : n / 256 ^ i ≤ n := Nat.div_le_self _ _
      have q2 : n / 256 ^ i / 256 = n / 256 ^ (i + 1) := by rw [Nat.div_div_eq_div_mul, Nat.pow_succ]
      have q3 : Int.tdiv ((n / 256 ^ i : Nat) : Int) 256 = ((n / 256 ^ (i + 1) : Nat) : Int) := by rw [← q2, tdiv256]
      have q4 : IntKind.u8.wrap (Int.tmod ((n / 256 ^ i : Nat) : Int) 256) = ((byteN n i : Nat) : Int) := by
        rw [tmod256]
        rfl
      have q5 : n / 256 ^ (i + 1) ≤ n := Nat.div_le_self _ _
      rw [e, cond_true, ofF_get _ _ (by omega), Option.bind_some, q3, q4, u64n _ (Nat.lt_of_le_of_lt q5 hn), i64w (x := (i : Int) + 1) (by omega), ofF_put _ _ _ (by omega)]
      have e5 : (fun q => if q = i then byteN n i else if q < i then byteN n q else 0) = fun q => if q < i + 1 then byteN n q else 0 := by
        funext q
        by_cases h1 : q = i
        · rw [if_pos h1, if_pos (by omega), h1]
        · rw [if_neg h1]
          by_cases h2 : q < i
          · rw [if_pos h2, if_pos (by omega)]
          · rw [if_neg h2, if_neg (by omega)]
      rw [e5]
      rfl
    rw [runLoop_step hs]
    exact bytes_loop n hn j (i + 1) (by omega)
theorem bytes_ok (n : Nat) (hn : n < 18446744073709551616) : m_centoref01_Bytes (n : Int) = some (ofF (byteN n)) := by
  unfold m_centoref01_Bytes
  have h := bytes_loop n hn 8 0 rfl
  have e : ofF (fun q => if q < 0 then byteN n q else 0) = ⟨[0, 0, 0, 0, 0, 0, 0, 0], rfl⟩ := rfl
  rw [e, Nat.pow_zero, Nat.div_one, show ((0 : Nat) : Int) = 0 from rfl] at h
  rw [Option.bind_some, Option.bind_some, h]
  rfl
theorem named_loop (m n : Nat) (hm : m < 256) (hn : n ≤ 8) : ∀ j i : Nat, i + j = n → runLoop (m_centoref01_Named_L0 (n : Int)) (((m / 2 ^ i : Nat) : Int), (i : Int)) = some ((m / 2 ^ n : Nat) : Int)
  | 0, i, h => by
    obtain rfl : i = n := by omega
    refine runLoop_end ?_
    unfold m_centoref01_Named_L0
    have e : decide ((i : Int) < (i : Int)) = false := by rw [decide_eq_false_iff_not]; omega
    simp only
    rw [e, cond_false]
  | j + 1, i, h => by
    have hs : m_centoref01_Named_L0 (n : Int) (((m / 2 ^ i : Nat) : Int), (i : Int)) = some (.inl (((m / 2 ^ (i + 1) : Nat) : Int), ((i + 1 : Nat) : Int))) := by
      unfold m_centoref01_Named_L0
      have e : decide ((i : Int) < (n : Int)) = true := by rw [decide_eq_true_eq]; omega
      have q1 : m / 2 ^ i ≤ m := Nat.div_le_self _ _
      have q2 : m / 2 ^ i / 2 = m / 2 ^ (i + 1) := by rw [Nat.div_div_eq_div_mul, Nat.pow_succ]
      have q5 : m / 2 ^ (i + 1) ≤ m := Nat.div_le_self _ _
      have q3 : Int.tdiv ((m / 2 ^ i : Nat) : Int) 2 = ((m / 2 ^ (i + 1) : Nat) : Int) := by rw [← q2, tdiv2]
      have q4 : IntKind.u8.wrap ((m / 2 ^ (i + 1) : Nat) : Int) = ((m / 2 ^ (i + 1) : Nat) : Int) := u8n _ (Nat.lt_of_le_of_lt q5 hm)
      simp only
      rw [e, cond_true, q3, q4, i64w (x := (i : Int) + 1) (by omega)]
      rfl
    rw [runLoop_step hs]
    exact named_loop m n hm hn j (i + 1) (by omega)
theorem named_ok (m n : Nat) (hm : m < 256) (hn : n ≤ 8) : m_centoref01_Named (m : Int) (n : Int) = some (bitB m n) := by
  unfold m_centoref01_Named
  have h := named_loop m n hm hn n 0 (by omega)
  rw [Nat.pow_zero, Nat.div_one, show ((0 : Nat) : Int) = 0 from rfl] at h
  rw [h, Option.bind_some, Int.tmod_eq_emod_of_nonneg (Int.natCast_nonneg _), beq_mod2]
  rfl
theorem mix_loop (a b m : Nat) (hm : m < 256) : ∀ j i : Nat, i + j = 8 → runLoop (m_centoref01_Mix_L0 (m : Int) (ofF (byteN b))) ((i : Int), ofF (fun q => if q < i then mixF a b m q else byteN a q)) = some (ofF (mixF a b m))
  | 0, i, h => by
    obtain rfl : i = 8 := by omega
    refine (runLoop_end (r := ofF (fun q => if q < 8 then mixF a b m q else byteN a q)) rfl).trans ?_
    rw [ofF_congr (g := mixF a b m) fun k hk => if_pos hk]
  | j + 1, i, h => by
    have hs : m_centoref01_Mix_L0 (m : Int) (ofF (byteN b)) ((i : Int), ofF (fun q => if q < i then mixF a b m q else byteN a q)) = some (.inl (((i + 1 : Nat) : Int), ofF (fun q => if q < i + 1 then mixF a b m q else byteN a q))) := by
      unfold m_centoref01_Mix_L0
      have e : decide ((i : Int) < 8) = true := by rw [decide_eq_true_eq]; omega
      simp only
      rw [e, cond_true, named_ok m i hm (by omega), Option.bind_some, i64w (x := (i : Int) + 1) (by omega)]
      have hne : ∀ v, v = mixF a b m i → (fun q => if q = i then v else if q < i then mixF a b m q else byteN a q) = fun q => if q < i + 1 then mixF a b m q else byteN a q := fun v hv => by
        funext q
        by_cases h1 : q = i
        · rw [if_pos h1, if_pos (by omega), h1, hv]
        · rw [if_neg h1]
          by_cases h2 : q < i
          · rw [if_pos h2, if_pos (by omega)]
          · rw [if_neg h2, if_neg (by omega)]
      cases hb : bitB m i with
      | true =>
        rw [cond_true, ofF_get _ _ (by omega), Option.bind_some, ofF_get _ _ (by omega), Option.bind_some, Option.bind_some, ofF_put _ _ _ (by omega), hne _ (by unfold mixF; rw [hb, if_pos rfl])]
        rfl
      | false =>
        have e6 : (fun q => if q < i then mixF a b m q else byteN a q) = fun q => if q < i + 1 then mixF a b m q else byteN a q := by
          funext q
          by_cases h1 : q = i
          · rw [if_neg (by omega), if_pos (by omega), h1]
            unfold mixF
            rw [hb]
            rfl
          · by_cases h2 : q < i
            · rw [if_pos h2, if_pos (by omega)]
            · rw [if_neg h2, if_neg (by omega)]
        rw [cond_false, Option.bind_some, e6]
        rfl
    rw [runLoop_step hs]
    exact mix_loop a b m hm j (i + 1) (by omega)
def hiN (f : Nat → Nat) : Nat → Nat → Nat
  | _, 0 => 0
  | i, n + 1 => hiN f (i + 1) n * 256 + f i
theorem hiN_lt (f : Nat → Nat) (hf : ∀ k, f k < 256) : ∀ n i, hiN f i n < 256 ^ n
  | 0, _ => by simp [hiN]
  | n + 1, i => by
    have h1 := hiN_lt f hf n (i + 1)
    have h2 := hf i
    have h3 : 256 ^ (n + 1) = 256 * 256 ^ n := by rw [Nat.pow_succ, Nat.mul_comm]
    simp only [hiN]
    omega
theorem hiN_sum (f : Nat → Nat) : hiN f 0 8 = bySum f 8 := by simp only [hiN, bySum, Nat.reduceMul, Nat.reducePow, Nat.reduceAdd]; omega
theorem of_loop (f : Nat → Nat) (hf : ∀ k, f k < 256) : ∀ i n : Nat, i + n = 8 → runLoop (m_centoref01_Of_L0 (ofF f).1 0) (((hiN f i n : Nat) : Int), (i : Int) - 1) = some ((hiN f 0 8 : Nat) : Int)
  | 0, n, h => by
    obtain rfl : n = 8 := by omega
    exact runLoop_end rfl
  | i + 1, n, h => by
    have hs : m_centoref01_Of_L0 (ofF f).1 0 (((hiN f (i + 1) n : Nat) : Int), ((i + 1 : Nat) : Int) - 1) = some (.inl (((hiN f i (n + 1) : Nat) : Int), (i : Int) - 1)) := by
      unfold m_centoref01_Of_L0
      have e0 : ((i + 1 : Nat) : Int) - 1 = (i : Int) := by omega
      have e : decide (0 ≤ (i : Int)) = true := by rw [decide_eq_true_eq]; omega
      have h1 := hiN_lt f hf n (i + 1)
      have h2 := hf i
      have h3 : 256 ^ n ≤ 256 ^ 7 := Nat.pow_le_pow_right (by decide) (by omega)
      have h4 : (256 : Nat) ^ 7 = 72057594037927936 := by decide
      simp only
      rw [e0, e, cond_true, Int.zero_add, i64w (x := (i : Int)) (by omega), ofF_get _ _ (by omega), Option.bind_some, u64w (x := ((hiN f (i + 1) n : Nat) : Int) * 256) (by omega), u64w (x := ((f i : Nat) : Int)) (by omega), u64w (by omega), i64w (by omega)]
      have e7 : ((hiN f (i + 1) n : Nat) : Int) * 256 + ((f i : Nat) : Int) = ((hiN f i (n + 1) : Nat) : Int) := by simp only [hiN]; omega
      rw [e7]
    rw [runLoop_step hs]
    exact of_loop f hf i (n + 1) (by omega)
theorem mix_ok (a b m : Nat) (ha : a < 18446744073709551616) (hb : b < 18446744073709551616) (hm : m < 256) : m_centoref01_Mix (a : Int) (b : Int) (m : Int) = some ((mixN a b m : Nat) : Int) := by
  unfold m_centoref01_Mix
  have h := mix_loop a b m hm 8 0 rfl
  have e : ofF (fun q => if q < 0 then mixF a b m q else byteN a q) = ofF (byteN a) := rfl
  rw [e, show ((0 : Nat) : Int) = 0 from rfl] at h
  have h2 := of_loop (mixF a b m) (mixF_lt a b m) 8 0 rfl
  rw [hiN_sum, show ((8 : Nat) : Int) - 1 = 7 from rfl, show ((hiN (mixF a b m) 8 0 : Nat) : Int) = 0 from rfl] at h2
  rw [bytes_ok a ha, Option.bind_some, bytes_ok b hb, Option.bind_some, Option.bind_some, h, Option.bind_some]
  unfold m_centoref01_Of
  rw [h2]
  rfl
def wi (x m : Int) : Bool := mixN x.toNat 0 m.toNat == 0
theorem within_ok {x m : Int} (h0 : 0 ≤ x) (h1 : x < 18446744073709551616) (m0 : 0 ≤ m) (m1 : m < 256) : m_centoref20_within x m = some (wi x m) := by
  obtain ⟨a, rfl⟩ := Int.eq_ofNat_of_zero_le h0
  obtain ⟨k, rfl⟩ := Int.eq_ofNat_of_zero_le m0
  unfold m_centoref20_within wi
  rw [show (0 : Int) = ((0 : Nat) : Int) from rfl, mix_ok a 0 k (by omega) (by decide) (by omega), Option.bind_some]
  congr 1
  rw [Bool.eq_iff_iff, beq_iff_eq, beq_iff_eq]
  simp only [Int.toNat_natCast]
  omega
abbrev Ed := S_api_Edit
theorem kidE_lt {e : Ed} {k : S_api_KidEdit} (h : k ∈ e.Kids) : SizeOf.sizeOf k.E < SizeOf.sizeOf e := by
  obtain ⟨a, b, c, d, ks, f, g⟩ := e
  obtain ⟨i, x⟩ := k
  have h1 := List.sizeOf_lt_of_mem h
  simp only [S_api_Edit.mk.sizeOf_spec, S_api_KidEdit.mk.sizeOf_spec] at h1 ⊢
  omega
theorem opE_lt {e : Ed} {o : S_api_Op} (h : o ∈ e.Ops) : SizeOf.sizeOf o.E < SizeOf.sizeOf e := by
  obtain ⟨a, b, c, d, ks, f, os⟩ := e
  obtain ⟨i, n, l, x⟩ := o
  have h1 := List.sizeOf_lt_of_mem h
  simp only [S_api_Edit.mk.sizeOf_spec, S_api_Op.mk.sizeOf_spec] at h1 ⊢
  omega
inductive BE : Ed → Prop
  | mk (e : Ed) (h1 : Bd e.Old) (h2 : Bd e.New) (h3 : (e.Words.length : Int) ≤ 140737488355328) (h4 : ∀ w ∈ e.Words, (0 ≤ w.Mask ∧ w.Mask < 256) ∧ (0 ≤ w.Old ∧ w.Old < 18446744073709551616) ∧ (0 ≤ w.New ∧ w.New < 18446744073709551616))
      (h5 : (e.Kids.length : Int) ≤ 140737488355328) (h6 : ∀ k ∈ e.Kids, BE k.E) (h7 : (e.Ops.length : Int) ≤ 140737488355328) (h8 : ∀ o ∈ e.Ops, o.L.length * 56 ≤ 140737488355328 ∧ ∀ t ∈ o.L, Bd t) (h9 : ∀ o ∈ e.Ops, BE o.E) : BE e
theorem BE.old {e : Ed} (h : BE e) : Bd e.Old := by cases h; assumption
theorem BE.new {e : Ed} (h : BE e) : Bd e.New := by cases h; assumption
theorem BE.w {e : Ed} (h : BE e) : (e.Words.length : Int) ≤ 140737488355328 := by cases h; assumption
theorem BE.ws {e : Ed} (h : BE e) : ∀ w ∈ e.Words, (0 ≤ w.Mask ∧ w.Mask < 256) ∧ (0 ≤ w.Old ∧ w.Old < 18446744073709551616) ∧ (0 ≤ w.New ∧ w.New < 18446744073709551616) := by cases h; assumption
theorem BE.k {e : Ed} (h : BE e) : (e.Kids.length : Int) ≤ 140737488355328 := by cases h; assumption
theorem BE.ks {e : Ed} (h : BE e) : ∀ k ∈ e.Kids, BE k.E := by cases h; assumption
theorem BE.o {e : Ed} (h : BE e) : (e.Ops.length : Int) ≤ 140737488355328 := by cases h; assumption
theorem BE.l {e : Ed} (h : BE e) : ∀ o ∈ e.Ops, o.L.length * 56 ≤ 140737488355328 ∧ ∀ t ∈ o.L, Bd t := by cases h; assumption
theorem BE.os {e : Ed} (h : BE e) : ∀ o ∈ e.Ops, BE o.E := by cases h; assumption
theorem cond_beq {α : Type} (a b : Int) (x y : α) : cond (a == b) x y = if a = b then x else y := by
  by_cases h : a = b
  · rw [beq_iff_eq.2 h, if_pos h]; rfl
  · rw [beq_eq_false_iff_ne.2 h, if_neg h]; rfl
theorem cond_bne {α : Type} (a b : Int) (x y : α) : cond (a != b) x y = if a = b then y else x := by
  by_cases h : a = b
  · have : (a != b) = false := by simp [h]
    rw [this, if_pos h]; rfl
  · have : (a != b) = true := by simp [h]
    rw [this, if_neg h]; rfl
def chk {α : Type} (pl : α → Int) (ok : Int → α → Bool) : Int → List α → Bool
  | _, [] => true
  | p, x :: xs => ok p x && chk pl ok (pl x) xs
theorem loop_chk {α R : Type} (xs : List α) (pl : α → Int) (ok : Int → α → Bool) (step : Int × Int → Option ((Int × Int) ⊕ R)) (e o : R) (hl : (xs.length : Int) ≤ 140737488355328)
    (h1 : ∀ (p : Int) (i : Nat) (x : α), i < xs.length → xs[i]? = some x → x ∈ xs → step (p, (i : Int)) = some (if ok p x = true then .inl (pl x, IntKind.i64.wrap ((i : Int) + 1)) else .inr e)) (h2 : ∀ p, step (p, (xs.length : Int)) = some (.inr o)) (p : Int) : runLoop step (p, 0) = some (if chk pl ok p xs = true then o else e) := by
  have key : ∀ (ys : List α) (i : Nat) (p : Int), xs.drop i = ys → i ≤ xs.length → runLoop step (p, (i : Int)) = some (if chk pl ok p ys = true then o else e) := fun ys => by
    induction ys with
    | nil =>
      intro i p h hi
      have : i = xs.length := by
        have := congrArg List.length h
        rw [List.length_drop, List.length_nil] at this
        omega
      subst this
      exact runLoop_end (h2 p)
    | cons x ys ih =>
      intro i p h hi
      have hx : xs[i]? = some x := by
        have := congrArg (fun l => l[0]?) h
        simpa using this
      have hi' : i < xs.length := by
        rcases Nat.lt_or_ge i xs.length with h' | h'
        · exact h'
        · rw [List.getElem?_eq_none h'] at hx; cases hx
      have hs := h1 p i x hi' hx (List.mem_of_getElem? hx)
      have hd : xs.drop (i + 1) = ys := by
        have := congrArg List.tail h
        rwa [List.tail_drop, List.tail_cons] at this
      cases hk : ok p x with
      | false =>
        rw [hk] at hs
        rw [runLoop_end (by simpa using hs)]
        simp [chk, hk]
      | true =>
        rw [hk, if_pos rfl, i64s (by omega) (by omega)] at hs
        have e1 : (i : Int) + 1 = ((i + 1 : Nat) : Int) := by omega
        rw [e1] at hs
        rw [runLoop_step hs, ih (i + 1) (pl x) hd (by omega)]
        simp [chk, hk]
  exact key xs 0 p rfl (Nat.zero_le _)
def noneT (t : Tr) : Bool := t.Kind == 0 && (t.Words.length == 0 && t.Kids.length == 0)
theorem none_ok {t : Tr} (h : Bd t) : m_centoref20_none t = some (noneT t) := by
  have := h.w
  have := h.k
  unfold m_centoref20_none noneT
  rw [i64s (by omega) (by omega), cond_and]
  congr 2
  rw [Bool.eq_iff_iff, Bool.and_eq_true, beq_iff_eq, beq_iff_eq, beq_iff_eq]
  omega
def noWK (e : Ed) : Bool := e.Words.length == 0 && e.Kids.length == 0
def noLO (e : Ed) : Bool := e.List_ == 0 && e.Ops.length == 0
theorem wk_pos {e : Ed} (h : BE e) : decide (0 < IntKind.i64.wrap ((e.Words.length : Int) + (e.Kids.length : Int))) = !noWK e := by
  have := h.w
  have := h.k
  unfold noWK
  rw [i64s (by omega) (by omega), Bool.eq_iff_iff, Bool.not_eq_true', decide_eq_true_eq, Bool.and_eq_false_iff, beq_eq_false_iff_ne, beq_eq_false_iff_ne]
  omega
theorem lo_pos (e : Ed) : cond (e.List_ != 0) true (decide (0 < (e.Ops.length : Int))) = !noLO e := by
  unfold noLO
  cases h0 : e.List_ == 0 with
  | false => simp only [bne, h0]; rfl
  | true =>
    simp only [bne, h0, Bool.not_true, cond_false, Bool.true_and]
    rw [Bool.eq_iff_iff, Bool.not_eq_true', decide_eq_true_eq, beq_eq_false_iff_ne]
    omega
def none2 (e : Ed) : Bool := noneT e.Old && noneT e.New
def sameE (e : Ed) : Bool := e.Kind == 0 && (none2 e && (noWK e && noLO e))
theorem same_okE {e : Ed} (h : BE e) : m_centoref20_same e = some (sameE e) := by
  have := h.w
  have := h.k
  have := h.o
  unfold m_centoref20_same sameE
  rw [none_ok h.old, none_ok h.new]
  simp only [Option.bind_some]
  have e1 : (IntKind.i64.wrap (IntKind.i64.wrap ((e.Words.length : Int) + (e.Kids.length : Int)) + (e.Ops.length : Int)) == 0) = (noWK e && e.Ops.length == 0) := by
    unfold noWK
    rw [i64s (x := (e.Words.length : Int) + (e.Kids.length : Int)) (by omega) (by omega), i64s (by omega) (by omega), Bool.eq_iff_iff, Bool.and_eq_true, Bool.and_eq_true, beq_iff_eq, beq_iff_eq, beq_iff_eq, beq_iff_eq]
    omega
  rw [e1]
  unfold none2 noLO
  generalize noneT e.Old = p
  generalize noneT e.New = q
  generalize noWK e = r
  generalize (e.List_ == 0) = s
  generalize (e.Ops.length == 0) = u
  generalize (e.Kind == 0) = v
  revert p q r s u v
  decide
def okW (p : Int) (w : S_api_WordEdit) : Bool := !(((((decide (w.At ≤ p) || decide (65534 < w.At)) || w.Mask == 0) || !(wi w.Old w.Mask)) || !(wi w.New w.Mask)))
theorem rWords_ok {e : Ed} (h : BE e) : runLoop (b_centoref20_Right_L0 e) (-1, 0) = some (if chk (·.At) okW (-1) e.Words = true then Sum.inr () else Sum.inl ()) :=
  loop_chk e.Words (·.At) okW (b_centoref20_Right_L0 e) (.inl ()) (.inr ()) h.w (fun p i x hi hx hm => by
    obtain ⟨h1, h2, h3⟩ := h.ws x hm
    unfold b_centoref20_Right_L0
    simp only
    rw [lt_t hi, cond_true, getI_of hx, Option.bind_some, within_ok h2.1 h2.2 h1.1 h1.2, within_ok h3.1 h3.2 h1.1 h1.2]
    simp only [Option.bind_some]
    unfold okW
    generalize decide (x.At ≤ p) = q1
    generalize decide (65534 < x.At) = q2
    generalize (x.Mask == 0) = q3
    generalize wi x.Old x.Mask = q4
    generalize wi x.New x.Mask = q5
    cases q1 <;> cases q2 <;> cases q3 <;> cases q4 <;> cases q5 <;> rfl) (fun p => by unfold b_centoref20_Right_L0; simp only; rw [lt_f]; rfl) (-1)
theorem loop_fold {α S R σ : Type} (xs : List α) (mk : S → Int → σ) (f : S → α → S) (out : S → R) (I : S → Prop) (step : σ → Option (σ ⊕ R)) (hl : (xs.length : Int) ≤ 140737488355328)
    (h1 : ∀ (s : S) (i : Nat) (x : α), I s → i < xs.length → xs[i]? = some x → x ∈ xs → I (f s x) ∧ step (mk s (i : Int)) = some (.inl (mk (f s x) (IntKind.i64.wrap ((i : Int) + 1))))) (h2 : ∀ s, I s → step (mk s (xs.length : Int)) = some (.inr (out s))) (s : S) (hs : I s) : runLoop step (mk s 0) = some (out (xs.foldl f s)) ∧ I (xs.foldl f s) := by
  have key : ∀ (ys : List α) (i : Nat) (s : S), I s → xs.drop i = ys → i ≤ xs.length → runLoop step (mk s (i : Int)) = some (out (ys.foldl f s)) ∧ I (ys.foldl f s) := fun ys => by
    induction ys with
    | nil =>
      intro i s hI h hi
      have : i = xs.length := by
        have := congrArg List.length h
        rw [List.length_drop, List.length_nil] at this
        omega
      subst this
      exact ⟨runLoop_end (h2 s hI), hI⟩
    | cons x ys ih =>
      intro i s hI h hi
      have hx : xs[i]? = some x := by
        have := congrArg (fun l => l[0]?) h
        simpa using this
      have hi' : i < xs.length := by
        rcases Nat.lt_or_ge i xs.length with h' | h'
        · exact h'
        · rw [List.getElem?_eq_none h'] at hx; cases hx
      obtain ⟨hI', hs⟩ := h1 s i x hI hi' hx (List.mem_of_getElem? hx)
      have hd : xs.drop (i + 1) = ys := by
        have := congrArg List.tail h
        rwa [List.tail_drop, List.tail_cons] at this
      have e1 : (i : Int) + 1 = ((i + 1 : Nat) : Int) := by omega
      rw [i64s (by omega) (by omega), e1] at hs
      rw [runLoop_step hs]
      exact ih (i + 1) (f s x) hI' hd (by omega)
  exact key xs 0 s hs rfl (Nat.zero_le _)
def thr (o : S_api_Op) : Int := if o.Kind = 0 then (if 1048576 < (if o.N < 0 then 0 else o.N) then 1048576 else (if o.N < 0 then 0 else o.N)) else if o.Kind = 1 ∨ o.Kind = 2 then (o.L.length : Int) else if o.Kind = 3 then 1 else 0
theorem thr_bd {o : S_api_Op} (h : o.L.length * 56 ≤ 140737488355328) : 0 ≤ thr o ∧ thr o ≤ 140737488355328 := by
  unfold thr
  repeat' split
  all_goals omega
def capI (x : Int) : Int := if 1048576 < x then 1048576 else x
def stI (s : Int × Int) (o : S_api_Op) : Int × Int := (if o.Kind = 2 then s.1 else capI (s.1 + thr o), if o.Kind = 1 then s.2 else capI (s.2 + thr o))
def Sm (s : Int × Int) : Prop := (0 ≤ s.1 ∧ s.1 ≤ 1048576) ∧ (0 ≤ s.2 ∧ s.2 ≤ 1048576)
theorem stI_sm {s : Int × Int} {o : S_api_Op} (hs : Sm s) (h : o.L.length * 56 ≤ 140737488355328) : Sm (stI s o) := by
  have := thr_bd h
  unfold Sm at hs ⊢
  unfold stI capI
  refine ⟨?_, ?_⟩
  · simp only
    split
    · omega
    · split <;> omega
  · simp only
    split
    · omega
    · split <;> omega
def incR (o : S_api_Op) : Int := if o.Kind = 3 then 1 else IntKind.i64.wrap (o.N + (o.L.length : Int))
def stR (s : Int × Int) (o : S_api_Op) : Int × Int := (capI (if o.Kind = 2 then s.1 else IntKind.i64.wrap (s.1 + incR o)), capI (if o.Kind = 1 then s.2 else IntKind.i64.wrap (s.2 + incR o)))
theorem lenR_ok {e : Ed} (h : BE e) : m_centoref20_Lengths e = some (e.Ops.foldl stR (0, 0)) := by
  obtain ⟨h1, _⟩ := loop_fold e.Ops (fun (s : Int × Int) i => (s.1, s.2, i)) stR (fun s => (s.1, s.2)) (fun _ => True) (m_centoref20_Lengths_L0 e) h.o (fun s i x hs hi hx hm => by
    refine ⟨trivial, ?_⟩
    have hc : ∀ a b : Int, ((cond (decide (1048576 < a)) (some 1048576) (some a)).bind fun (z10 : Int) => cond (decide (1048576 < b)) (some (z10, 1048576)) (some (z10, b))) = some (capI a, capI b) := fun a b => by
      unfold capI
      by_cases q1 : 1048576 < a <;> by_cases q2 : 1048576 < b <;> simp [q1, q2]
    unfold m_centoref20_Lengths_L0
    simp only
    rw [lt_t hi, cond_true, getI_of hx, Option.bind_some]
    have e1 : cond (x.Kind == 3) (some 1) (some (IntKind.i64.wrap (x.N + (x.L.length : Int)))) = some (incR x) := by
      unfold incR
      rw [cond_beq]
      split <;> rfl
    rw [e1, Option.bind_some]
    have e2 : cond (x.Kind != 2) (some (IntKind.i64.wrap (s.1 + incR x))) (some s.1) = some (if x.Kind = 2 then s.1 else IntKind.i64.wrap (s.1 + incR x)) := by
      rw [cond_bne]; split <;> rfl
    have e3 : cond (x.Kind != 1) (some (IntKind.i64.wrap (s.2 + incR x))) (some s.2) = some (if x.Kind = 1 then s.2 else IntKind.i64.wrap (s.2 + incR x)) := by
      rw [cond_bne]; split <;> rfl
    rw [e2, Option.bind_some, e3, Option.bind_some, hc]
    rfl) (fun s _ => by unfold m_centoref20_Lengths_L0; simp only; rw [lt_f]; rfl) (0, 0) trivial
  unfold m_centoref20_Lengths
  rw [h1]
  rfl
def descP (l : Int) (e : Ed) : Bool := if l = 8 then e.Kind != 0 else if l = 9 then e.Kind == 2 || (e.Kind == 1 && (e.Old.Kind == 1 && e.New.Kind == 1)) else false
def okO (l : Int) (o : S_api_Op) (r : Bool) : Bool :=
  if o.Kind = 0 then (decide (1 ≤ o.N) && decide (o.N ≤ 1048576)) && (o.L.length == 0 && sameE o.E)
  else if o.Kind = 1 ∨ o.Kind = 2 then o.N == 0 && (decide (0 < o.L.length) && ((o.L.all fun t => rt t 63 && okk l t) && sameE o.E))
  else if o.Kind = 3 then o.N == 0 && (o.L.length == 0 && (o.E.Kind != 0 && (descP l o.E && r)))
  else false
def lensB (s : Int × Int) : Bool := decide (s.1 < 1048576) && decide (s.2 < 1048576)
theorem ok_thr {l : Int} {o : S_api_Op} {r : Bool} (h : okO l o r = true) : o.N + (o.L.length : Int) = (if o.Kind = 3 then 0 else thr o) ∧ 0 ≤ thr o := by
  unfold okO at h
  unfold thr
  by_cases h0 : o.Kind = 0
  · rw [if_pos h0] at h
    simp only [Bool.and_eq_true, decide_eq_true_eq, beq_iff_eq] at h
    simp only [h0, if_pos]
    refine ⟨?_, ?_⟩
    · rw [if_neg (by decide)]
      repeat' split
      all_goals omega
    · repeat' split
      all_goals omega
  rw [if_neg h0] at h
  by_cases h12 : o.Kind = 1 ∨ o.Kind = 2
  · rw [if_pos h12] at h
    simp only [Bool.and_eq_true, beq_iff_eq] at h
    rw [if_neg h0, if_pos h12, if_neg (by omega)]
    omega
  rw [if_neg h12] at h
  by_cases h3 : o.Kind = 3
  · rw [if_pos h3] at h
    simp only [Bool.and_eq_true, beq_iff_eq] at h
    rw [if_neg h0, if_neg h12, if_pos h3, if_pos h3]
    omega
  · rw [if_neg h3] at h
    cases h
theorem stR_stI {l : Int} {o : S_api_Op} {r : Bool} {s : Int × Int} (h : okO l o r = true) (hs : Sm s) (hl : o.L.length * 56 ≤ 140737488355328) : stR s o = stI s o := by
  have ht := thr_bd hl
  have hk := ok_thr h
  have hi : incR o = thr o := by
    unfold incR
    by_cases h3 : o.Kind = 3
    · rw [if_pos h3]
      unfold thr
      rw [if_neg (by omega), if_neg (by omega), if_pos h3]
    · rw [if_neg h3] at hk ⊢
      rw [i64s (by omega) (by omega)]
      exact hk.1
  unfold Sm at hs
  unfold stR stI
  rw [hi, i64s (by omega) (by omega), i64s (by omega) (by omega)]
  have hc : ∀ x : Int, x ≤ 1048576 → capI x = x := fun x hx => by unfold capI; rw [if_neg (by omega)]
  refine Prod.ext ?_ ?_
  · simp only
    split
    · exact hc _ hs.1.2
    · rfl
  · simp only
    split
    · exact hc _ hs.2.2
    · rfl
theorem fold_same {l : Int} (r : S_api_Op → Bool) : ∀ (os : List S_api_Op) (s : Int × Int), Sm s → (∀ o ∈ os, okO l o (r o) = true) → (∀ o ∈ os, o.L.length * 56 ≤ 140737488355328) → os.foldl stR s = os.foldl stI s ∧ Sm (os.foldl stI s)
  | [], s, hs, _, _ => ⟨rfl, hs⟩
  | o :: os, s, hs, h, hl => by
    have h1 := stR_stI (h o (.head _)) hs (hl o (.head _))
    have := fold_same r os (stI s o) (stI_sm hs (hl o (.head _))) (fun x hx => h x (.tail _ hx)) (fun x hx => hl x (.tail _ hx))
    rw [List.foldl_cons, List.foldl_cons, h1]
    exact this
theorem fold_up : ∀ (os : List S_api_Op) (s : Int × Int), Sm s → (∀ o ∈ os, o.L.length * 56 ≤ 140737488355328) → (s.1 = 1048576 → (os.foldl stI s).1 = 1048576) ∧ (s.2 = 1048576 → (os.foldl stI s).2 = 1048576)
  | [], s, _, _ => ⟨id, id⟩
  | o :: os, s, hs, hl => by
    have ht := thr_bd (hl o (.head _))
    have := fold_up os (stI s o) (stI_sm hs (hl o (.head _))) (fun x hx => hl x (.tail _ hx))
    rw [List.foldl_cons]
    refine ⟨fun h => this.1 ?_, fun h => this.2 ?_⟩
    · unfold stI capI
      simp only
      repeat' split
      all_goals omega
    · unfold stI capI
      simp only
      repeat' split
      all_goals omega
def okP (p : Int) (x : Int × Bool) : Bool := !(decide (x.1 ≤ p) || decide (65534 < x.1)) && x.2
theorem chk_map {α : Type} (g : α → Int × Bool) : ∀ (xs : List α) (p : Int), chk (·.1) okP p (xs.map g) = chk (fun x => (g x).1) (fun p x => okP p (g x)) p xs
  | [], _ => rfl
  | x :: xs, p => by rw [List.map_cons, chk, chk, chk_map g xs]
def rE (e : Ed) (d : Nat) : Bool :=
  if d = 0 then false
  else if e.Kind = 0 then sameE e
  else if e.Kind = 1 then (noWK e && noLO e) && ((rt e.Old 64 && e.Old.Kind != 10) && (rt e.New 64 && e.New.Kind != 10))
  else if e.Kind = 2 then (none2 e && noLO e) && (chk (·.At) okW (-1) e.Words && chk (·.1) okP (-1) (e.Kids.attach.map fun k => (k.1.At, k.1.E.Kind != 0 && rE k.1.E (d - 1))))
  else if e.Kind = 3 then (none2 e && noWK e) && ((decide (2 ≤ e.List_) && decide (e.List_ ≤ 9)) && ((e.Ops.attach.map fun o => okO e.List_ o.1 (rE o.1.E (d - 1))).all id && lensB (e.Ops.foldl stR (0, 0))))
  else false
termination_by SizeOf.sizeOf e
decreasing_by
  · exact kidE_lt k.2
  · exact opE_lt o.2
def okK (d : Nat) (p : Int) (k : S_api_KidEdit) : Bool := okP p (k.At, k.E.Kind != 0 && rE k.E d)
theorem rE_eq (e : Ed) (d : Nat) : rE e d = if d = 0 then false
  else if e.Kind = 0 then sameE e
  else if e.Kind = 1 then (noWK e && noLO e) && ((rt e.Old 64 && e.Old.Kind != 10) && (rt e.New 64 && e.New.Kind != 10))
  else if e.Kind = 2 then (none2 e && noLO e) && (chk (·.At) okW (-1) e.Words && chk (·.At) (okK (d - 1)) (-1) e.Kids)
  else if e.Kind = 3 then (none2 e && noWK e) && ((decide (2 ≤ e.List_) && decide (e.List_ ≤ 9)) && ((e.Ops.all fun o => okO e.List_ o (rE o.E (d - 1))) && lensB (e.Ops.foldl stR (0, 0))))
  else false := by
  rw [rE]
  have h1 : (e.Kids.attach.map fun k => (k.1.At, k.1.E.Kind != 0 && rE k.1.E (d - 1))) = e.Kids.map fun k => (k.At, k.E.Kind != 0 && rE k.E (d - 1)) := List.attach_map_val (f := fun k : S_api_KidEdit => (k.At, k.E.Kind != 0 && rE k.E (d - 1)))
  have h2 : (e.Ops.attach.map fun o => okO e.List_ o.1 (rE o.1.E (d - 1))) = e.Ops.map fun o => okO e.List_ o (rE o.E (d - 1)) := List.attach_map_val (f := fun o : S_api_Op => okO e.List_ o (rE o.E (d - 1)))
  rw [h1, h2, chk_map, List.all_map]
  rfl
theorem len_pos {n : Nat} : decide (0 < (n : Int)) = !(n == 0) := by rw [Bool.eq_iff_iff, Bool.not_eq_true', decide_eq_true_eq, beq_eq_false_iff_ne]; omega
theorem len_pos' {n : Nat} : decide (0 < n) = !(n == 0) := by rw [Bool.eq_iff_iff, Bool.not_eq_true', decide_eq_true_eq, beq_eq_false_iff_ne]; omega
theorem rt_of {l : Int} {L : List Tr} (h2 : 2 ≤ l) (h9 : l ≤ 9) : rt ⟨l, [], L⟩ 64 = (decide (L.length < 1048576) && L.all fun t => rt t 63 && okk l t) := by
  rw [rt_eq]
  simp only
  rw [if_neg (by omega), if_neg (by omega)]
  by_cases h : L.length < 1048576
  · rw [if_neg (by simp only [List.length_nil]; omega), decide_eq_true h, Bool.true_and]
  · rw [if_pos (by omega), decide_eq_false h, Bool.false_and]
def BO (o : S_api_Op) : Prop := (o.L.length * 56 ≤ 140737488355328 ∧ ∀ t ∈ o.L, Bd t) ∧ BE o.E
theorem bd_of {l : Int} {L : List Tr} (h : L.length * 56 ≤ 140737488355328 ∧ ∀ t ∈ L, Bd t) : Bd ⟨l, [], L⟩ := .mk _ (by simp) (by simp only; omega) (fun w hw => by simp at hw) h.2
theorem sub_one {α : Type} {l : List α} {i : Nat} {x : α} (hx : l[i]? = some x) (hl : (l.length : Int) ≤ 140737488355328) : subI l (i : Int) (IntKind.i64.wrap ((i : Int) + 1)) = some [x] := by
  have hi : i < l.length := by
    rcases Nat.lt_or_ge i l.length with h' | h'
    · exact h'
    · rw [List.getElem?_eq_none h'] at hx; cases hx
  rw [i64s (by omega) (by omega)]
  unfold subI
  rw [if_pos (by omega)]
  have e1 : ((i : Int) + 1 - (i : Int)).toNat = 1 := by omega
  rw [e1, Int.toNat_natCast, List.drop_eq_getElem_cons hi, List.take_succ_cons, List.take_zero]
  rw [List.getElem?_eq_getElem hi] at hx
  rw [Option.some.inj hx]
theorem eref_lv : ∀ (k : Nat), (∀ (e : Ed) (d : Nat), BE e → 2 * SizeOf.sizeOf e < k → d ≤ 64 → (lv_centoref20_Right k).1 e (d : Int) = some (rE e d)) ∧
    (∀ (l : Int) (o : S_api_Op) (d : Nat), 2 ≤ l → l ≤ 9 → BO o → 2 * SizeOf.sizeOf o.E + 1 < k → d ≤ 64 → (lv_centoref20_Right k).2 l o (d : Int) = some (okO l o (rE o.E d)))
  | 0 => ⟨fun e d _ h => by omega, fun l o d _ _ _ h => by omega⟩
  | k + 1 => by
    obtain ⟨i1, i2⟩ := eref_lv k
    refine ⟨fun e d hb hk hd => ?_, fun l o d h2 h9 hb hk hd => ?_⟩
    · show b_centoref20_Right (lv_centoref20_Right k).1 (lv_centoref20_Right k).2 e (d : Int) = _
      unfold b_centoref20_Right
      rw [rE_eq, none_ok hb.old, none_ok hb.new, wk_pos hb, lo_pos, rWords_ok hb, lenR_ok hb]
      by_cases hd0 : d = 0
      · subst hd0
        rw [if_pos rfl]
        rfl
      have ed : ((d : Int) == 0) = false := by rw [beq_eq_false_iff_ne]; omega
      rw [if_neg hd0, ed, cond_false]
      obtain ⟨d', rfl⟩ : ∃ d', d = d' + 1 := ⟨d - 1, by omega⟩
      have ed' : IntKind.i64.wrap (((d' + 1 : Nat) : Int) - 1) = (d' : Int) := by rw [i64s (by omega) (by omega)]; omega
      by_cases hbad : e.Kind < 0 ∨ 3 < e.Kind
      · have q : cond (decide (e.Kind < 0)) true (decide (3 < e.Kind)) = true := by
          rcases hbad with h | h
          · rw [decide_eq_true h]; rfl
          · rw [decide_eq_true h]; cases decide (e.Kind < 0) <;> rfl
        rw [q, cond_true, if_neg (by omega), if_neg (by omega), if_neg (by omega), if_neg (by omega)]
      have q : cond (decide (e.Kind < 0)) true (decide (3 < e.Kind)) = false := by
        rw [decide_eq_false (by omega), decide_eq_false (by omega)]
        rfl
      rw [q, cond_false]
      simp only [Option.bind_some]
      have hkids : runLoop (b_centoref20_Right_L1 (lv_centoref20_Right k).1 e ((d' + 1 : Nat) : Int)) (-1, 0) = some (if chk (·.At) (okK d') (-1) e.Kids = true then Sum.inr () else Sum.inl ()) :=
        loop_chk e.Kids (·.At) (okK d') (b_centoref20_Right_L1 (lv_centoref20_Right k).1 e ((d' + 1 : Nat) : Int)) (.inl ()) (.inr ()) hb.k (fun p i x hi hx hm => by
          unfold b_centoref20_Right_L1
          simp only
          rw [lt_t hi, cond_true, getI_of hx, Option.bind_some, ed', i1 x.E d' (hb.ks x hm) (by have := kidE_lt hm; omega) (by omega)]
          simp only [Option.bind_some]
          unfold okK okP bne
          simp only
          generalize decide (x.At ≤ p) = q1
          generalize decide (65534 < x.At) = q2
          generalize (x.E.Kind == 0) = q3
          generalize rE x.E d' = q4
          cases q1 <;> cases q2 <;> cases q3 <;> cases q4 <;> rfl) (fun p => by unfold b_centoref20_Right_L1; simp only; rw [lt_f]; rfl) (-1)
      have hnil : e.Ops = [] → runLoop (b_centoref20_Right_L2 (lv_centoref20_Right k).2 e ((d' + 1 : Nat) : Int)) 0 = some (Sum.inr ()) := fun h => runLoop_end (by
        unfold b_centoref20_Right_L2
        rw [h]
        rfl)
      have wk_nil : noWK e = true → e.Words = [] ∧ e.Kids = [] := fun h => by
        unfold noWK at h
        rw [Bool.and_eq_true, beq_iff_eq, beq_iff_eq] at h
        exact ⟨List.eq_nil_of_length_eq_zero h.1, List.eq_nil_of_length_eq_zero h.2⟩
      have lo_nil : noLO e = true → e.List_ = 0 ∧ e.Ops = [] := fun h => by
        unfold noLO at h
        rw [Bool.and_eq_true, beq_iff_eq, beq_iff_eq] at h
        exact ⟨h.1, List.eq_nil_of_length_eq_zero h.2⟩
      rw [Nat.add_sub_cancel]
      by_cases h0 : e.Kind = 0
      · rw [if_pos h0]
        unfold sameE none2
        rw [h0]
        cases hwk : noWK e with
        | false => cases noneT e.Old <;> cases noneT e.New <;> cases noLO e <;> rfl
        | true =>
          cases hlo : noLO e with
          | false => cases noneT e.Old <;> cases noneT e.New <;> rfl
          | true =>
            obtain ⟨w0, k0⟩ := wk_nil hwk
            obtain ⟨l0, o0⟩ := lo_nil hlo
            rw [hkids, hnil o0, w0, k0, o0]
            cases noneT e.Old <;> cases noneT e.New <;> rfl
      rw [if_neg h0]
      by_cases h1 : e.Kind = 1
      · have r1 := rright_ok hb.old (d := 64) (by decide)
        have r2 := rright_ok hb.new (d := 64) (by decide)
        rw [show ((64 : Nat) : Int) = 64 from rfl] at r1 r2
        rw [if_pos h1, h1, r1, r2]
        simp only [Option.bind_some]
        generalize noWK e = q1
        generalize noLO e = q2
        generalize rt e.Old 64 = q3
        generalize rt e.New 64 = q4
        generalize (e.Old.Kind != 10) = q5
        generalize (e.New.Kind != 10) = q6
        cases q1 <;> cases q2 <;> cases q3 <;> cases q4 <;> cases q5 <;> cases q6 <;> rfl
      rw [if_neg h1]
      by_cases h2 : e.Kind = 2
      · rw [if_pos h2, h2]
        unfold none2
        cases hlo : noLO e with
        | false => cases noneT e.Old <;> cases noneT e.New <;> rfl
        | true =>
          obtain ⟨l0, o0⟩ := lo_nil hlo
          rw [hkids, hnil o0, o0]
          generalize chk (·.At) okW (-1) e.Words = q1
          generalize chk (·.At) (okK d') (-1) e.Kids = q2
          cases noneT e.Old <;> cases noneT e.New <;> cases q1 <;> cases q2 <;> rfl
      have h3 : e.Kind = 3 := by omega
      rw [if_neg h2, if_pos h3, h3]
      unfold none2
      cases hwk : noWK e with
      | false => cases noneT e.Old <;> cases noneT e.New <;> rfl
      | true =>
        obtain ⟨w0, k0⟩ := wk_nil hwk
        rw [hkids, w0, k0]
        by_cases hl : 2 ≤ e.List_ ∧ e.List_ ≤ 9
        · have hops : runLoop (b_centoref20_Right_L2 (lv_centoref20_Right k).2 e ((d' + 1 : Nat) : Int)) 0 = some (if (e.Ops.all fun o => okO e.List_ o (rE o.E d')) = true then Sum.inr () else Sum.inl ()) :=
            loop_all e.Ops _ (fun o => okO e.List_ o (rE o.E d')) (Sum.inl () : Unit ⊕ Unit) (Sum.inr ()) hb.o (fun i x hi hx hm => by
              unfold b_centoref20_Right_L2
              rw [lt_t hi, cond_true, getI_of hx, Option.bind_some, ed', i2 e.List_ x d' hl.1 hl.2 ⟨hb.l x hm, hb.os x hm⟩ (by have := opE_lt hm; omega) (by omega), Option.bind_some]
              cases okO e.List_ x (rE x.E d') <;> rfl) (by unfold b_centoref20_Right_L2; rw [lt_f]; rfl)
          rw [hops, decide_eq_true hl.1, decide_eq_true hl.2, decide_eq_false (p := e.List_ < 2) (by omega), decide_eq_false (p := 9 < e.List_) (by omega)]
          unfold lensB
          generalize (e.Ops.all fun o => okO e.List_ o (rE o.E d')) = q1
          generalize decide ((e.Ops.foldl stR (0, 0)).1 < 1048576) = q2
          generalize decide ((e.Ops.foldl stR (0, 0)).2 < 1048576) = q3
          cases noneT e.Old <;> cases noneT e.New <;> cases q1 <;> cases q2 <;> cases q3 <;> rfl
        · have q : cond (decide (e.List_ < 2)) true (decide (9 < e.List_)) = true := by
            by_cases h : e.List_ < 2
            · rw [decide_eq_true h]; rfl
            · rw [decide_eq_true (p := 9 < e.List_) (by omega)]; cases decide (e.List_ < 2) <;> rfl
          have q' : (decide (2 ≤ e.List_) && decide (e.List_ ≤ 9)) = false := by rw [Bool.and_eq_false_iff, decide_eq_false_iff_not, decide_eq_false_iff_not]; omega
          rw [q, q']
          cases noneT e.Old <;> cases noneT e.New <;> rfl
    · show b_centoref20_op (lv_centoref20_Right k).1 (lv_centoref20_Right k).2 l o (d : Int) = _
      have hlen : (o.L.length : Int) ≤ 140737488355328 := by have := hb.1.1; omega
      have hloop : runLoop (b_centoref20_op_L0 l o) 0 = some (if (o.L.all fun t => rt t 63 && okk l t) = true then Sum.inr () else Sum.inl ()) :=
        loop_all o.L _ (fun t => rt t 63 && okk l t) (Sum.inl () : Unit ⊕ Unit) (Sum.inr ()) hlen (fun i x hi hx hm => by
          unfold b_centoref20_op_L0
          have hbx : Bd ⟨l, [], [x]⟩ := bd_of ⟨by simp, fun t ht => by rw [List.mem_singleton.1 ht]; exact hb.1.2 x hm⟩
          have r1 := rright_ok hbx (d := 64) (by decide)
          rw [show ((64 : Nat) : Int) = 64 from rfl, rt_of h2 h9] at r1
          rw [lt_t hi, cond_true, sub_one hx hlen, Option.bind_some, r1, Option.bind_some]
          simp only [List.all_cons, List.all_nil, Bool.and_true, List.length_singleton]
          cases rt x 63 && okk l x <;> rfl) (by unfold b_centoref20_op_L0; rw [lt_f]; rfl)
      unfold b_centoref20_op okO
      rw [same_okE hb.2, i1 o.E d hb.2 (by omega) hd, hloop, len0, len_pos, len_pos']
      simp only [Option.bind_some]
      by_cases h0 : o.Kind = 0
      · rw [if_pos h0, h0]
        generalize decide (1 ≤ o.N) = q1
        generalize decide (o.N ≤ 1048576) = q2
        generalize (o.L.length == 0) = q3
        generalize sameE o.E = q4
        cases q1 <;> cases q2 <;> cases q3 <;> cases q4 <;> rfl
      rw [if_neg h0, beq_eq_false_iff_ne.2 h0, cond_false]
      by_cases h12 : o.Kind = 1 ∨ o.Kind = 2
      · rw [if_pos h12, decide_eq_false (p := o.Kind < 0) (by omega), decide_eq_false (p := 3 < o.Kind) (by omega), decide_eq_true (p := o.Kind < 3) (by omega)]
        unfold bne
        generalize (o.N == 0) = q1
        generalize (o.L.length == 0) = q2
        generalize (o.L.all fun t => rt t 63 && okk l t) = q3
        generalize sameE o.E = q4
        cases q1 <;> cases q2 <;> cases q3 <;> cases q4 <;> rfl
      rw [if_neg h12]
      by_cases h3 : o.Kind = 3
      · rw [if_pos h3, h3]
        unfold bne descP
        by_cases k0 : o.E.Kind = 0
        · rw [k0]
          generalize (o.N == 0) = q1
          generalize (o.L.length == 0) = q2
          cases q1 <;> cases q2 <;> rfl
        rw [beq_eq_false_iff_ne.2 k0]
        by_cases l8 : l = 8
        · rw [if_pos l8, l8]
          unfold bne
          rw [beq_eq_false_iff_ne.2 k0]
          generalize (o.N == 0) = q1
          generalize (o.L.length == 0) = q2
          generalize rE o.E d = q3
          cases q1 <;> cases q2 <;> cases q3 <;> rfl
        rw [if_neg l8]
        by_cases l9 : l = 9
        · rw [if_pos l9, l9]
          generalize (o.N == 0) = q1
          generalize (o.L.length == 0) = q2
          generalize rE o.E d = q3
          generalize (o.E.Kind == 2) = q4
          generalize (o.E.Kind == 1) = q5
          generalize (o.E.Old.Kind == 1) = q6
          generalize (o.E.New.Kind == 1) = q7
          cases q1 <;> cases q2 <;> cases q3 <;> cases q4 <;> cases q5 <;> cases q6 <;> cases q7 <;> rfl
        rw [if_neg l9, decide_eq_true (p := l ≤ 7) (by omega)]
        generalize (o.N == 0) = q1
        generalize (o.L.length == 0) = q2
        cases q1 <;> cases q2 <;> rfl
      rw [if_neg h3]
      have q : cond (cond (o.N != 0) true (decide (o.Kind < 0))) true (decide (3 < o.Kind)) = true := by
        by_cases h : o.Kind < 0
        · rw [decide_eq_true h]; cases o.N != 0 <;> rfl
        · rw [decide_eq_true (p := 3 < o.Kind) (by omega)]; cases cond (o.N != 0) true (decide (o.Kind < 0)) <;> rfl
      rw [q]
      rfl
theorem eref_ok {e : Ed} (h : BE e) {d : Nat} (hd : d ≤ 64) : m_centoref20_Right e (d : Int) = some (rE e d) := lim_eq (2 * SizeOf.sizeOf e + 1) fun k hk => (eref_lv k).1 e d h (by omega) hd
def ce (e : Ed) : Nat := 1 + e.Words.length + e.Ops.length + (e.Kids.attach.map fun k => ce k.1.E).sum + (e.Ops.attach.map fun o => ce o.1.E).sum
termination_by SizeOf.sizeOf e
decreasing_by
  · exact kidE_lt k.2
  · exact opE_lt o.2
theorem ce_eq (e : Ed) : ce e = 1 + e.Words.length + e.Ops.length + (e.Kids.map fun k => ce k.E).sum + (e.Ops.map fun o => ce o.E).sum := by
  rw [ce]
  have h1 : (e.Kids.attach.map fun k => ce k.1.E) = e.Kids.map fun k => ce k.E := List.attach_map_val (f := fun k : S_api_KidEdit => ce k.E)
  have h2 : (e.Ops.attach.map fun o => ce o.1.E) = e.Ops.map fun o => ce o.E := List.attach_map_val (f := fun o : S_api_Op => ce o.E)
  rw [h1, h2]
theorem left_lv : ∀ (k : Nat) (e : Ed) (d left : Int), BE e → SizeOf.sizeOf e < k → 0 ≤ d → d ≤ 100 → 0 ≤ left → left ≤ 1000000 → ∃ r, lv_centoref20_left k e d left = some r ∧ -1 ≤ r ∧ r ≤ 1000000 ∧ (0 ≤ r → r + (ce e : Nat) ≤ left)
  | 0, e, _, _, _, h, _, _, _, _ => by omega
  | k + 1, e, d, left, hb, hk, hd0, hd1, hl0, hl1 => by
    have hw := hb.w
    have ho := hb.o
    show ∃ r, b_centoref20_left (lv_centoref20_left k) e d left = some r ∧ _
    unfold b_centoref20_left
    rw [i64s (x := left - 1) (by omega) (by omega), i64s (x := left - 1 - (e.Words.length : Int)) (by omega) (by omega), i64s (by omega) (by omega), ce_eq]
    cases hc : cond (d == 0) true (decide (left - 1 - (e.Words.length : Int) - (e.Ops.length : Int) < 0)) with
    | true => exact ⟨-1, rfl, by omega, by omega, fun h => by omega⟩
    | false =>
      rw [cond_false]
      have hd : ¬ d = 0 ∧ 0 ≤ left - 1 - (e.Words.length : Int) - (e.Ops.length : Int) := by
        by_cases h : d = 0
        · simp [h] at hc
        · have e : (d == 0) = false := by simp [h]
          rw [e, cond_false, decide_eq_false_iff_not] at hc
          exact ⟨h, by omega⟩
      obtain ⟨r1, g1, g2, g3, g4⟩ := shal_ok hb.old hd.2 (by omega)
      have hz : ∃ z, cond (decide (0 ≤ r1)) ((m_centoref07_Shallow e.New 80 r1).bind fun y4 => some y4) (some r1) = some z ∧ -1 ≤ z ∧ z ≤ 1000000 ∧ (0 ≤ z → z ≤ left - 1 - (e.Words.length : Int) - (e.Ops.length : Int)) := by
        by_cases h : 0 ≤ r1
        · obtain ⟨r2, f1, f2, f3, f4⟩ := shal_ok hb.new h g3
          refine ⟨r2, by rw [decide_eq_true h, f1]; rfl, f2, f3, fun h2 => ?_⟩
          have := f4 h2
          have := g4 h
          omega
        · exact ⟨r1, by rw [decide_eq_false h]; rfl, g2, g3, fun h2 => absurd h2 h⟩
      obtain ⟨z, z1, z2, z3, z4⟩ := hz
      rw [g1, Option.bind_some, z1, Option.bind_some]
      obtain ⟨r, h1, h2⟩ := runLoop_rule (step := b_centoref20_left_L0 (lv_centoref20_left k) e d)
        (fun s => ∃ j : Nat, s.2 = j ∧ j ≤ e.Kids.length ∧ -1 ≤ s.1 ∧ s.1 ≤ 1000000 ∧ (0 ≤ s.1 → s.1 + ((((e.Kids.take j).map fun k => ce k.E)).sum : Nat) ≤ left - 1 - (e.Words.length : Int) - (e.Ops.length : Int)))
        (fun s => e.Kids.length - s.2.toNat) (fun r => -1 ≤ r ∧ r ≤ 1000000 ∧ (0 ≤ r → r + ((e.Kids.map fun k => ce k.E).sum : Nat) ≤ left - 1 - (e.Words.length : Int) - (e.Ops.length : Int))) (fun s hI => by
          obtain ⟨l, i⟩ := s
          obtain ⟨j, rfl, hj, g1, g2, g3⟩ := hI
          have hkl := hb.k
          simp only at g1 g2 g3 ⊢
          unfold b_centoref20_left_L0
          simp only
          by_cases hji : j < e.Kids.length
          · rw [lt_t hji, cond_true]
            by_cases hl : 0 ≤ l
            · have e1 : decide (0 ≤ l) = true := by simp [hl]
              have hx : e.Kids[j]? = some e.Kids[j] := List.getElem?_eq_getElem hji
              have hm : e.Kids[j] ∈ e.Kids := List.getElem_mem hji
              obtain ⟨r, q1, q2, q3, q4⟩ := left_lv k e.Kids[j].E (d - 1) l (hb.ks _ hm) (by have := kidE_lt hm; omega) (by omega) (by omega) hl g2
              rw [e1, cond_true, getI_of hx, Option.bind_some, i64s (x := d - 1) (by omega) (by omega), q1, Option.bind_some, i64s (by omega) (by omega)]
              refine .inl ⟨_, rfl, ⟨j + 1, by simp only; omega, by omega, q2, q3, fun hr => ?_⟩, by simp only; omega⟩
              have := q4 hr
              have := g3 hl
              rw [List.take_add_one, hx]
              simp only [Option.toList_some, List.map_append, List.map_cons, List.map_nil, List.sum_append, List.sum_cons, List.sum_nil]
              simp only at hr
              omega
            · have e1 : decide (0 ≤ l) = false := by simp [hl]
              rw [e1, cond_false]
              exact .inr ⟨l, rfl, g1, g2, fun h => absurd h hl⟩
          · have hj' : j = e.Kids.length := by omega
            subst hj'
            rw [lt_f, cond_false]
            rw [List.take_length] at g3
            exact .inr ⟨l, rfl, g1, g2, g3⟩) (z, 0) ⟨0, rfl, Nat.zero_le _, z2, z3, fun h => by simpa using z4 h⟩
      rw [h1, Option.bind_some]
      have inner : ∀ (j : Nat) (hj : j < e.Ops.length) (l : Int), 0 ≤ l → l ≤ 1000000 → ∃ r, runLoop (b_centoref20_left_L2 e (l, (j : Int))) (l, 0) = some r ∧ -1 ≤ r ∧ r ≤ 1000000 ∧ r ≤ l := fun j hj l hl hl' => by
        have hx : e.Ops[j]? = some e.Ops[j] := List.getElem?_eq_getElem hj
        have hm : e.Ops[j] ∈ e.Ops := List.getElem_mem hj
        have hL := (hb.l _ hm).1
        obtain ⟨r, h1, h2⟩ := runLoop_rule (step := b_centoref20_left_L2 e (l, (j : Int)))
          (fun s => ∃ i : Nat, s.2 = i ∧ i ≤ e.Ops[j].L.length ∧ -1 ≤ s.1 ∧ s.1 ≤ 1000000 ∧ s.1 ≤ l)
          (fun s => e.Ops[j].L.length - s.2.toNat) (fun r => -1 ≤ r ∧ r ≤ 1000000 ∧ r ≤ l) (fun s hI => by
            obtain ⟨l', i'⟩ := s
            obtain ⟨i, rfl, hi, g1, g2, g3⟩ := hI
            simp only at g1 g2 g3 ⊢
            unfold b_centoref20_left_L2
            simp only
            rw [getI_of hx, Option.bind_some, Option.bind_some]
            by_cases hii : i < e.Ops[j].L.length
            · rw [lt_t hii, cond_true]
              by_cases hl2 : 0 ≤ l'
              · have e1 : decide (0 ≤ l') = true := by simp [hl2]
                have hx2 : e.Ops[j].L[i]? = some e.Ops[j].L[i] := List.getElem?_eq_getElem hii
                have hm2 : e.Ops[j].L[i] ∈ e.Ops[j].L := List.getElem_mem hii
                obtain ⟨r, q1, q2, q3, q4⟩ := shal_ok ((hb.l _ hm).2 _ hm2) hl2 g2
                rw [e1, cond_true, getI_of hx2, Option.bind_some, q1, Option.bind_some, i64s (by omega) (by omega)]
                refine .inl ⟨_, rfl, ⟨i + 1, by simp only; omega, by omega, q2, q3, ?_⟩, by simp only; omega⟩
                simp only
                by_cases hr : 0 ≤ r
                · have := q4 hr; omega
                · omega
              · have e1 : decide (0 ≤ l') = false := by simp [hl2]
                rw [e1, cond_false]
                exact .inr ⟨l', rfl, g1, g2, g3⟩
            · have hi' : i = e.Ops[j].L.length := by omega
              subst hi'
              rw [lt_f, cond_false]
              exact .inr ⟨l', rfl, g1, g2, g3⟩) (l, 0) ⟨0, rfl, Nat.zero_le _, by simp only; omega, by simp only; omega, by simp only; omega⟩
        exact ⟨r, h1, h2⟩
      obtain ⟨r', h1', h2'⟩ := runLoop_rule (step := b_centoref20_left_L1 (lv_centoref20_left k) e d)
        (fun s => ∃ j : Nat, s.2 = j ∧ j ≤ e.Ops.length ∧ -1 ≤ s.1 ∧ s.1 ≤ 1000000 ∧ (0 ≤ s.1 → 0 ≤ r ∧ s.1 + ((((e.Ops.take j).map fun o => ce o.E)).sum : Nat) ≤ r))
        (fun s => e.Ops.length - s.2.toNat) (fun q => -1 ≤ q ∧ q ≤ 1000000 ∧ (0 ≤ q → 0 ≤ r ∧ q + ((e.Ops.map fun o => ce o.E).sum : Nat) ≤ r)) (fun s hI => by
          obtain ⟨l, i⟩ := s
          obtain ⟨j, rfl, hj, g1, g2, g3⟩ := hI
          simp only at g1 g2 g3 ⊢
          unfold b_centoref20_left_L1
          simp only
          by_cases hji : j < e.Ops.length
          · rw [lt_t hji, cond_true]
            by_cases hl : 0 ≤ l
            · have e1 : decide (0 ≤ l) = true := by simp [hl]
              have hx : e.Ops[j]? = some e.Ops[j] := List.getElem?_eq_getElem hji
              have hm : e.Ops[j] ∈ e.Ops := List.getElem_mem hji
              obtain ⟨t, t1, t2, t3, t4⟩ := inner j hji l hl g2
              rw [e1, cond_true, t1, Option.bind_some, i64s (x := (j : Int) + 1) (by omega) (by omega)]
              by_cases ht : 0 ≤ t
              · obtain ⟨r, q1, q2, q3, q4⟩ := left_lv k e.Ops[j].E (d - 1) t (hb.os _ hm) (by have := opE_lt hm; omega) (by omega) (by omega) ht t3
                rw [decide_eq_true ht, cond_true, getI_of hx, Option.bind_some, i64s (x := d - 1) (by omega) (by omega), q1]
                refine .inl ⟨_, rfl, ⟨j + 1, by simp only; omega, by omega, q2, q3, fun hr => ?_⟩, by simp only; omega⟩
                have := q4 hr
                have := g3 hl
                rw [List.take_add_one, hx]
                simp only [Option.toList_some, List.map_append, List.map_cons, List.map_nil, List.sum_append, List.sum_cons, List.sum_nil]
                simp only at hr
                omega
              · rw [decide_eq_false ht]
                exact .inl ⟨_, rfl, ⟨j + 1, by simp only; omega, by omega, t2, t3, fun hr => absurd hr ht⟩, by simp only; omega⟩
            · have e1 : decide (0 ≤ l) = false := by simp [hl]
              rw [e1, cond_false]
              exact .inr ⟨l, rfl, g1, g2, fun h => absurd h hl⟩
          · have hj' : j = e.Ops.length := by omega
            subst hj'
            rw [lt_f, cond_false]
            rw [List.take_length] at g3
            exact .inr ⟨l, rfl, g1, g2, g3⟩) (r, 0) ⟨0, rfl, Nat.zero_le _, h2.1, h2.2.1, fun h => ⟨h, by simp⟩⟩
      rw [h1']
      refine ⟨r', rfl, h2'.1, h2'.2.1, fun hr => ?_⟩
      have p1 := h2'.2.2 hr
      have p2 := h2.2.2 p1.1
      omega
theorem left_same : ∀ (k k' : Nat) (e : Ed) (d left : Int), SizeOf.sizeOf e < k → SizeOf.sizeOf e < k' → lv_centoref20_left k e d left = lv_centoref20_left k' e d left
  | 0, _, e, _, _, h, _ => by omega
  | k + 1, 0, e, _, _, _, h => by omega
  | k + 1, k' + 1, e, d, left, h, h' => by
    show b_centoref20_left (lv_centoref20_left k) e d left = b_centoref20_left (lv_centoref20_left k') e d left
    have e1 : b_centoref20_left_L0 (lv_centoref20_left k) e d = b_centoref20_left_L0 (lv_centoref20_left k') e d := funext fun s => by
      unfold b_centoref20_left_L0
      cases hx : getI e.Kids s.2 with
      | none => rfl
      | some x => simp only [Option.bind_some, left_same k k' x.E (IntKind.i64.wrap (d - 1)) s.1 (by have := kidE_lt (getI_mem hx); omega) (by have := kidE_lt (getI_mem hx); omega)]
    have e2 : b_centoref20_left_L1 (lv_centoref20_left k) e d = b_centoref20_left_L1 (lv_centoref20_left k') e d := funext fun s => by
      unfold b_centoref20_left_L1
      cases hx : getI e.Ops s.2 with
      | none => rfl
      | some x => 
        have : ∀ z, lv_centoref20_left k x.E (IntKind.i64.wrap (d - 1)) z = lv_centoref20_left k' x.E (IntKind.i64.wrap (d - 1)) z := fun z => left_same k k' x.E _ z (by have := opE_lt (getI_mem hx); omega) (by have := opE_lt (getI_mem hx); omega)
        simp only [Option.bind_some, this]
    unfold b_centoref20_left
    rw [e1, e2]
theorem few20 {e : Ed} (h : BE e) : ∃ b, m_centoref20_Few e = some b ∧ (b = true → ce e ≤ 3000) := by
  obtain ⟨r, h1, h2, h3, h4⟩ := left_lv (SizeOf.sizeOf e + 1) e 80 3000 h (by omega) (by omega) (by omega) (by omega) (by omega)
  have hr : m_centoref20_left e 80 3000 = some r := lim_eq (SizeOf.sizeOf e + 1) fun k hk => by rw [left_same k (SizeOf.sizeOf e + 1) e 80 3000 (by omega) (by omega)]; exact h1
  unfold m_centoref20_Few
  rw [hr, Option.bind_some]
  refine ⟨_, rfl, fun hb => ?_⟩
  have := h4 (by simpa using hb)
  have : 0 ≤ r := by simpa using hb
  omega
theorem rE_lens {e : Ed} (hb : BE e) {d : Nat} (h : rE e d = true) : e.Ops.foldl stR (0, 0) = e.Ops.foldl stI (0, 0) := by
  have h0 : Sm (0, 0) := by unfold Sm; simp
  have hnil : noLO e = true → e.Ops.foldl stR (0, 0) = e.Ops.foldl stI (0, 0) := fun h => by
    unfold noLO at h
    rw [Bool.and_eq_true, beq_iff_eq, beq_iff_eq] at h
    rw [List.eq_nil_of_length_eq_zero h.2]
    rfl
  rw [rE_eq] at h
  split at h
  · cases h
  split at h
  · unfold sameE at h
    simp only [Bool.and_eq_true] at h
    exact hnil h.2.2.2
  split at h
  · simp only [Bool.and_eq_true] at h
    exact hnil h.1.2
  split at h
  · simp only [Bool.and_eq_true] at h
    exact hnil h.1.2
  split at h
  · simp only [Bool.and_eq_true] at h
    exact (fold_same (fun o => rE o.E (d - 1)) e.Ops (0, 0) h0 (List.all_eq_true.1 h.2.2.1) (fun o ho => (hb.l o ho).1)).1
  · cases h
theorem chk_mem {α : Type} {pl : α → Int} {ok : Int → α → Bool} {Q : α → Prop} (h : ∀ p x, ok p x = true → Q x) : ∀ (xs : List α) (p : Int), chk pl ok p xs = true → ∀ x ∈ xs, Q x
  | [], _, _ => fun x hx => by cases hx
  | y :: xs, p, hc => fun x hx => by
    rw [chk, Bool.and_eq_true] at hc
    rcases List.mem_cons.1 hx with rfl | hx
    · exact h p _ hc.1
    · exact chk_mem h xs (pl y) hc.2 x hx
abbrev EO := S_api_Op
def n0T : Tr := ⟨0, [], []⟩
structure NW where
  out : List EO
  gone : List Tr
  come : List Tr
def eS0 : Ed := ⟨0, ⟨0, [], []⟩, ⟨0, [], []⟩, [], [], 0, []⟩
def idleE (l : Int) (e : Ed) : Bool := e.Kind == 0 || (l == 9 && (e.Kind == 2 && (e.Words.length == 0 && e.Kids.length == 0)))
def delO (g : List Tr) : List EO := if g = [] then [] else [⟨1, 0, g, eS0⟩]
def insO (g : List Tr) : List EO := if g = [] then [] else [⟨2, 0, g, eS0⟩]
def NW.flush (s : NW) : List EO := s.out ++ (delO s.gone ++ insO s.come)
def pushK (out : List EO) (n : Int) : List EO := match out.getLast? with
  | some o => if o.Kind = 0 then out.dropLast ++ [⟨0, o.N + n, o.L, o.E⟩] else out ++ [⟨0, n, [], eS0⟩]
  | none => [⟨0, n, [], eS0⟩]
def stN (l : Int) (s : NW) (p : EO × Ed) : NW :=
  if p.1.Kind = 1 then ⟨s.out, s.gone ++ p.1.L.map nrm, s.come⟩
  else if p.1.Kind = 2 then ⟨s.out, s.gone, s.come ++ p.1.L.map nrm⟩
  else if p.1.Kind = 0 then ⟨pushK s.flush p.1.N, [], []⟩
  else if idleE l p.2 = true then ⟨pushK s.flush 1, [], []⟩ else ⟨s.flush ++ [⟨3, 0, [], p.2⟩], [], []⟩
def s0N : NW := ⟨[], [], []⟩
def nOps (l : Int) (ps : List (EO × Ed)) : List EO := (ps.foldl (stN l) s0N).flush
def nE (e : Ed) : Ed :=
  if e.Kind = 1 then ⟨1, nrm e.Old, nrm e.New, [], [], 0, []⟩
  else if e.Kind = 2 then ⟨2, n0T, n0T, e.Words, e.Kids.attach.map fun k => ⟨k.1.At, nE k.1.E⟩, 0, []⟩
  else if e.Kind = 3 then ⟨3, n0T, n0T, [], [], e.List_, nOps e.List_ (e.Ops.attach.map fun o => (o.1, nE o.1.E))⟩
  else eS0
termination_by SizeOf.sizeOf e
decreasing_by
  · exact kidE_lt k.2
  · exact opE_lt o.2
def withE (l : List EO) : List (EO × Ed) := l.map fun o => (o, nE o.E)
theorem nE_eq (e : Ed) : nE e = if e.Kind = 1 then ⟨1, nrm e.Old, nrm e.New, [], [], 0, []⟩
  else if e.Kind = 2 then ⟨2, n0T, n0T, e.Words, e.Kids.map fun k => ⟨k.At, nE k.E⟩, 0, []⟩
  else if e.Kind = 3 then ⟨3, n0T, n0T, [], [], e.List_, nOps e.List_ (withE e.Ops)⟩
  else eS0 := by
  have h1 : (e.Kids.attach.map fun k => (⟨k.1.At, nE k.1.E⟩ : S_api_KidEdit)) = e.Kids.map fun k => ⟨k.At, nE k.E⟩ := List.attach_map_val (f := fun k : S_api_KidEdit => (⟨k.At, nE k.E⟩ : S_api_KidEdit))
  have h2 : (e.Ops.attach.map fun o => ((o.1, nE o.1.E) : EO × Ed)) = withE e.Ops := List.attach_map_val (f := fun o : EO => ((o, nE o.E) : EO × Ed))
  rw [nE, h1, h2]
theorem pushK_snoc (o' : List EO) (k n : Int) (L : List Tr) (E : Ed) : pushK (o' ++ [⟨0, k, L, E⟩]) n = o' ++ [⟨0, k + n, L, E⟩] := by
  unfold pushK
  simp
theorem pushK_nk {out : List EO} {n : Int} (h : ∀ o, out.getLast? = some o → o.Kind ≠ 0) : pushK out n = out ++ [⟨0, n, [], eS0⟩] := by
  unfold pushK
  cases hl : out.getLast? with
  | none => rw [List.getLast?_eq_none_iff.1 hl]; rfl
  | some o => simp only [if_neg (h o hl)]
theorem insO_nil : insO [] = [] := rfl
theorem delO_ne {g : List Tr} (h : g ≠ []) : delO g = [⟨1, 0, g, eS0⟩] := if_neg h
theorem insO_ne {g : List Tr} (h : g ≠ []) : insO g = [⟨2, 0, g, eS0⟩] := if_neg h
theorem gap_last {a b : List Tr} {o : EO} (h : (delO a ++ insO b).getLast? = some o) : o.Kind = 1 ∨ o.Kind = 2 := by
  by_cases hb : b = []
  · subst hb
    by_cases ha : a = []
    · subst ha; simp [delO, insO] at h
    · rw [delO_ne ha, insO_nil] at h; simp at h; subst h; exact .inl rfl
  · rw [insO_ne hb] at h
    simp at h
    subst h
    exact .inr rfl
theorem gap_nil {a b : List Tr} (h : delO a ++ insO b = []) : a = [] ∧ b = [] := by
  rw [List.append_eq_nil_iff] at h
  refine ⟨?_, ?_⟩
  · by_cases ha : a = []
    · exact ha
    · rw [delO_ne ha] at h; simp at h
  · by_cases hb : b = []
    · exact hb
    · rw [insO_ne hb] at h; simp at h
theorem flush_last {s : NW} {o : EO} (h : s.flush.getLast? = some o) : (o.Kind = 1 ∨ o.Kind = 2) ∨ (s.gone = [] ∧ s.come = [] ∧ s.out.getLast? = some o) := by
  unfold NW.flush at h
  by_cases hD : delO s.gone ++ insO s.come = []
  · obtain ⟨h1, h2⟩ := gap_nil hD
    rw [hD, List.append_nil] at h
    exact .inr ⟨h1, h2, h⟩
  · rw [List.getLast?_append] at h
    cases hq : (delO s.gone ++ insO s.come).getLast? with
    | none => exact absurd (List.getLast?_eq_none_iff.1 hq) hD
    | some x =>
      rw [hq] at h
      injection h with h
      subst h
      exact .inl (gap_last hq)
structure NInv (l : Int) (s : NW) : Prop where
  again : (withE s.out).foldl (stN l) s0N = ⟨s.out, [], []⟩
  last : ∀ o' o, s.out = o' ++ [o] → o.Kind = 0 → o.L = [] ∧ o.E = eS0 ∧ (∀ x, o'.getLast? = some x → x.Kind ≠ 0) ∧ ((withE o').foldl (stN l) s0N).flush = o'
  gone : s.gone.map nrm = s.gone
  come : s.come.map nrm = s.come
theorem withE_app (a b : List EO) : withE (a ++ b) = withE a ++ withE b := by simp [withE]
theorem stN_keep {l : Int} {s : NW} {n : Int} {L : List Tr} {E r : Ed} : stN l s (⟨0, n, L, E⟩, r) = ⟨pushK s.flush n, [], []⟩ := by
  unfold stN
  simp
theorem gap_again {l : Int} {s : NW} (h : NInv l s) : (withE s.flush).foldl (stN l) s0N = s := by
  unfold NW.flush
  rw [withE_app, List.foldl_append, h.again, withE_app, List.foldl_append]
  have e1 : (withE (delO s.gone)).foldl (stN l) ⟨s.out, [], []⟩ = ⟨s.out, s.gone, []⟩ := by
    by_cases hg : s.gone = []
    · rw [hg]; rfl
    · rw [delO_ne hg]; simp [withE, stN, h.gone]
  have e2 : (withE (insO s.come)).foldl (stN l) ⟨s.out, s.gone, []⟩ = ⟨s.out, s.gone, s.come⟩ := by
    by_cases hg : s.come = []
    · rw [hg]; rfl
    · rw [insO_ne hg]; simp [withE, stN, h.come]
  rw [e1, e2]
theorem snoc_inj {α : Type} {a b : List α} {x y : α} (h : a ++ [x] = b ++ [y]) : a = b ∧ x = y := by
  have := List.append_inj' h rfl
  exact ⟨this.1, by simpa using this.2⟩
theorem NInv.keep {l : Int} {s : NW} (h : NInv l s) (n : Int) : NInv l ⟨pushK s.flush n, [], []⟩ := by
  by_cases hk : ∃ o, s.flush.getLast? = some o ∧ o.Kind = 0
  · obtain ⟨o, ho, hk0⟩ := hk
    rcases flush_last ho with h12 | ⟨g1, g2, g3⟩
    · omega
    · have hfl : s.flush = s.out := by unfold NW.flush; rw [g1, g2]; simp [delO, insO]
      obtain ⟨o', ho'⟩ := List.getLast?_eq_some_iff.1 g3
      obtain ⟨a1, a2, a3, a4⟩ := h.last o' o ho' hk0
      obtain ⟨k, N, L, E⟩ := o
      simp only at hk0 a1 a2
      subst hk0 a1 a2
      rw [hfl, ho', pushK_snoc]
      have key : ∀ N' : Int, (withE (o' ++ [⟨0, N', [], eS0⟩])).foldl (stN l) s0N = ⟨o' ++ [⟨0, N', [], eS0⟩], [], []⟩ := fun N' => by
        rw [withE_app, List.foldl_append]
        show stN l _ (⟨0, N', [], eS0⟩, nE eS0) = _
        rw [stN_keep, a4, pushK_nk a3]
      refine ⟨key _, fun o1 o2 he hk2 => ?_, rfl, rfl⟩
      obtain ⟨e1, e2⟩ := snoc_inj he
      subst e1 e2
      exact ⟨rfl, rfl, a3, a4⟩
  · have hk' : ∀ o, s.flush.getLast? = some o → o.Kind ≠ 0 := fun o ho h0 => hk ⟨o, ho, h0⟩
    rw [pushK_nk hk']
    refine ⟨?_, fun o1 o2 he hk2 => ?_, rfl, rfl⟩
    · rw [withE_app, List.foldl_append, gap_again h]
      show stN l _ (⟨0, n, [], eS0⟩, nE eS0) = _
      rw [stN_keep, pushK_nk hk']
    · simp only at he
      obtain ⟨e1, e2⟩ := snoc_inj he
      subst e1 e2
      exact ⟨rfl, rfl, hk', by rw [gap_again h]⟩
theorem NInv.step {l : Int} {s : NW} (h : NInv l s) {p : EO × Ed} (hp : nE p.2 = p.2) : NInv l (stN l s p) := by
  unfold stN
  split
  · exact ⟨h.again, h.last, by simp only [List.map_append, h.gone, List.map_map]; congr 1; exact List.map_congr_left fun x _ => nrm_nrm x, h.come⟩
  · split
    · exact ⟨h.again, h.last, h.gone, by simp only [List.map_append, h.come, List.map_map]; congr 1; exact List.map_congr_left fun x _ => nrm_nrm x⟩
    · split
      · exact h.keep _
      · split
        · exact h.keep _
        · rename_i h1 h2 h0 hi
          refine ⟨?_, fun o1 o2 he hk2 => ?_, rfl, rfl⟩
          · simp only
            rw [withE_app, List.foldl_append, gap_again h]
            show stN l s (⟨3, 0, [], p.2⟩, nE p.2) = _
            rw [hp]
            unfold stN
            simp only [show ¬ (3 : Int) = 1 from by decide, show ¬ (3 : Int) = 2 from by decide, show ¬ (3 : Int) = 0 from by decide, if_false]
            rw [if_neg hi]
          · simp only at he
            obtain ⟨_, e2⟩ := snoc_inj he
            subst e2
            simp at hk2
theorem loop_map {α β : Type} (xs : List α) (f : α → β) (step : Int × List β → Option ((Int × List β) ⊕ List β)) (acc : List β) (hl : (xs.length : Int) ≤ 140737488355328)
    (h1 : ∀ (i : Nat) (x : α) (out : List β), i < xs.length → xs[i]? = some x → x ∈ xs → out.length = acc.length + i → step ((i : Int), out) = some (.inl (IntKind.i64.wrap ((i : Int) + 1), out ++ [f x])))
    (h2 : ∀ out, step ((xs.length : Int), out) = some (.inr out)) : runLoop step (0, acc) = some (acc ++ xs.map f) := by
  have key : ∀ m i, i + m = xs.length → runLoop step ((i : Int), acc ++ (xs.take i).map f) = some (acc ++ xs.map f) := fun m => by
    induction m with
    | zero =>
      intro i hi
      have hi' : i = xs.length := by omega
      subst hi'
      rw [List.take_length]
      exact runLoop_end (h2 _)
    | succ m ih =>
      intro i hi
      have hx : xs[i]? = some xs[i] := List.getElem?_eq_getElem (by omega)
      have h := h1 i _ (acc ++ (xs.take i).map f) (by omega) hx (List.mem_of_getElem? hx) (by rw [List.length_append, List.length_map, List.length_take]; omega)
      rw [i64s (by omega) (by omega)] at h
      rw [runLoop_step h]
      have e : acc ++ (xs.take i).map f ++ [f xs[i]] = acc ++ (xs.take (i + 1)).map f := by
        rw [List.take_add_one, hx, List.map_append, List.append_assoc]
        rfl
      rw [e]
      exact ih (i + 1) (by omega)
  have := key xs.length 0 (by omega)
  simpa using this
def thN (o : EO) : Nat := if o.Kind = 0 then o.N.toNat else if o.Kind = 3 then 1 else o.L.length
def opk (o : EO) : Prop := (o.Kind = 0 ∧ 1 ≤ o.N) ∨ (o.Kind = 1 ∧ o.L ≠ []) ∨ (o.Kind = 2 ∧ o.L ≠ []) ∨ o.Kind = 3
def sumT (l : List EO) : Nat := (l.map thN).sum
theorem pushK_len (out : List EO) (n : Int) : (pushK out n).length ≤ out.length + 1 := by
  unfold pushK
  split
  · split <;> simp
  · simp
inductive GN : Ed → Prop
  | mk (e : Ed) (hw : e.Words.length ≤ 1048576) (hk : e.Kids.length ≤ 1048576) (ho : e.Ops.length ≤ 1048576) (hs : sumT e.Ops ≤ 1073741824) (hp : ∀ o ∈ e.Ops, opk o) (ik : ∀ k ∈ e.Kids, GN k.E) (io : ∀ o ∈ e.Ops, GN o.E) : GN e
theorem GN.w {e : Ed} (h : GN e) : e.Words.length ≤ 1048576 := by cases h; assumption
theorem GN.k {e : Ed} (h : GN e) : e.Kids.length ≤ 1048576 := by cases h; assumption
theorem GN.o {e : Ed} (h : GN e) : e.Ops.length ≤ 1048576 := by cases h; assumption
theorem GN.s {e : Ed} (h : GN e) : sumT e.Ops ≤ 1073741824 := by cases h; assumption
theorem GN.p {e : Ed} (h : GN e) : ∀ o ∈ e.Ops, opk o := by cases h; assumption
theorem GN.ks {e : Ed} (h : GN e) : ∀ k ∈ e.Kids, GN k.E := by cases h; assumption
theorem GN.os {e : Ed} (h : GN e) : ∀ o ∈ e.Ops, GN o.E := by cases h; assumption
theorem gn_same {e : Ed} (h : sameE e = true) : GN e := by
  unfold sameE noWK noLO at h
  simp only [Bool.and_eq_true, beq_iff_eq] at h
  obtain ⟨_, _, ⟨h1, h2⟩, _, h3⟩ := h
  have w := List.eq_nil_of_length_eq_zero h1
  have k := List.eq_nil_of_length_eq_zero h2
  have o := List.eq_nil_of_length_eq_zero h3
  exact .mk _ (by rw [w]; simp) (by rw [k]; simp) (by rw [o]; simp) (by rw [o]; simp [sumT]) (by rw [o]; simp) (by rw [k]; simp) (by rw [o]; simp)
theorem gn_s0 : GN eS0 := .mk _ (by simp [eS0]) (by simp [eS0]) (by simp [eS0]) (by simp [eS0, sumT]) (by simp [eS0]) (by simp [eS0]) (by simp [eS0])
theorem bd_n0 : Bd n0T := .mk _ (by simp [n0T]) (by simp [n0T]) (by simp [n0T]) (by simp [n0T])
theorem be_s0 : BE eS0 := .mk _ bd_n0 bd_n0 (by simp [eS0]) (by simp [eS0]) (by simp [eS0]) (by simp [eS0]) (by simp [eS0]) (by simp [eS0]) (by simp [eS0])
theorem thN_thr {l : Int} {o : EO} {r : Bool} (h : okO l o r = true) : ((thN o : Nat) : Int) = thr o := by
  unfold okO at h
  unfold thN thr
  by_cases h0 : o.Kind = 0
  · rw [if_pos h0] at h
    simp only [Bool.and_eq_true, decide_eq_true_eq] at h
    rw [if_pos h0, if_pos h0]
    split <;> split at * <;> omega
  · rw [if_neg h0] at h ⊢
    rw [if_neg h0]
    by_cases h12 : o.Kind = 1 ∨ o.Kind = 2
    · rw [if_pos h12, if_neg (by omega)]
    · rw [if_neg h12] at h ⊢
      by_cases h3 : o.Kind = 3
      · rw [if_pos h3, if_pos h3]; rfl
      · rw [if_neg h3] at h; cases h
theorem okO_opk {l : Int} {o : EO} {r : Bool} (h : okO l o r = true) : opk o := by
  unfold okO at h
  unfold opk
  by_cases h0 : o.Kind = 0
  · rw [if_pos h0] at h
    simp only [Bool.and_eq_true, decide_eq_true_eq] at h
    exact .inl ⟨h0, h.1.1⟩
  rw [if_neg h0] at h
  by_cases h12 : o.Kind = 1 ∨ o.Kind = 2
  · rw [if_pos h12] at h
    simp only [Bool.and_eq_true, decide_eq_true_eq] at h
    have hne : o.L ≠ [] := by
      intro he
      rw [he] at h
      simp at h
    rcases h12 with h1 | h2
    · exact .inr (.inl ⟨h1, hne⟩)
    · exact .inr (.inr (.inl ⟨h2, hne⟩))
  · rw [if_neg h12] at h
    by_cases h3 : o.Kind = 3
    · exact .inr (.inr (.inr h3))
    · rw [if_neg h3] at h; cases h
theorem sum_lens {l : Int} (r : EO → Bool) : ∀ (os : List EO) (s : Int × Int), Sm s → (∀ o ∈ os, okO l o (r o) = true) → (∀ o ∈ os, o.L.length * 56 ≤ 140737488355328) → lensB (os.foldl stI s) = true → s.1 + s.2 + ((sumT os : Nat) : Int) ≤ (os.foldl stI s).1 + (os.foldl stI s).2
  | [], s, _, _, _, _ => by simp [sumT]
  | o :: os, s, hs, h, hl, hb => by
    have hsm := stI_sm hs (hl o (.head _))
    have hup := fold_up os (stI s o) hsm (fun x hx => hl x (.tail _ hx))
    have ih := sum_lens r os (stI s o) hsm (fun x hx => h x (.tail _ hx)) (fun x hx => hl x (.tail _ hx)) hb
    have hso : sumT (o :: os) = thN o + sumT os := by unfold sumT; simp
    have ht := thN_thr (h o (.head _))
    rw [List.foldl_cons] at hb ⊢
    unfold lensB at hb
    rw [Bool.and_eq_true, decide_eq_true_eq, decide_eq_true_eq] at hb
    have n1 : (stI s o).1 ≠ 1048576 := fun he => by have := hup.1 he; omega
    have n2 : (stI s o).2 ≠ 1048576 := fun he => by have := hup.2 he; omega
    have key : s.1 + s.2 + thr o ≤ (stI s o).1 + (stI s o).2 := by
      have hth : 0 ≤ thr o := by omega
      unfold stI capI at n1 n2 ⊢
      simp only at n1 n2 ⊢
      by_cases k2 : o.Kind = 2
      · rw [if_neg (by omega : ¬ o.Kind = 1)] at n2 ⊢
        rw [if_pos k2]
        split at n2
        · omega
        · rename_i h5; rw [if_neg h5]; omega
      · rw [if_neg k2] at n1 ⊢
        split at n1
        · omega
        · rename_i h5
          rw [if_neg h5]
          by_cases k1 : o.Kind = 1
          · rw [if_pos k1]; omega
          · rw [if_neg k1] at n2 ⊢
            split at n2
            · omega
            · rename_i h6; rw [if_neg h6]; omega
    rw [hso]
    omega
theorem kid_sumN {α : Type} {f : α → Nat} {x : α} : ∀ {l : List α}, x ∈ l → f x ≤ (l.map f).sum
  | y :: l, h => by
    rw [List.map_cons, List.sum_cons]
    rcases List.mem_cons.1 h with rfl | h
    · omega
    · have := kid_sumN (f := f) h; omega
theorem len_sumN {α : Type} {f : α → Nat} : ∀ {l : List α}, (∀ x ∈ l, 1 ≤ f x) → l.length ≤ (l.map f).sum
  | [], _ => Nat.le_refl _
  | y :: l, h => by
    rw [List.map_cons, List.sum_cons, List.length_cons]
    have := len_sumN (f := f) (l := l) fun x hx => h x (by simp [hx])
    have := h y (by simp)
    omega
theorem ce_pos (e : Ed) : 1 ≤ ce e := by rw [ce_eq]; omega
theorem gn_rE : ∀ (n : Nat) (e : Ed) (d : Nat), SizeOf.sizeOf e < n → BE e → ce e ≤ 1000000 → rE e d = true → GN e
  | 0, _, _, h, _, _, _ => by omega
  | n + 1, e, d, hn, hb, hc, h => by
    have hc' := hc
    rw [ce_eq] at hc'
    have hk1 : e.Kids.length ≤ (e.Kids.map fun k => ce k.E).sum := len_sumN fun x _ => ce_pos _
    have hlens := rE_lens hb h
    have hparts : (∀ k ∈ e.Kids, ∃ d', rE k.E d' = true) ∧ (∀ o ∈ e.Ops, opk o ∧ (sameE o.E = true ∨ ∃ d', rE o.E d' = true)) ∧ sumT e.Ops ≤ 2097152 := by
      rw [rE_eq] at h
      by_cases hd : d = 0
      · rw [if_pos hd] at h; cases h
      rw [if_neg hd] at h
      by_cases h0 : e.Kind = 0
      · rw [if_pos h0] at h
        unfold sameE noWK noLO at h
        simp only [Bool.and_eq_true, beq_iff_eq] at h
        obtain ⟨_, _, ⟨h1, h2⟩, _, h3⟩ := h
        rw [List.eq_nil_of_length_eq_zero h2, List.eq_nil_of_length_eq_zero h3]
        simp [sumT]
      rw [if_neg h0] at h
      by_cases h1 : e.Kind = 1
      · rw [if_pos h1] at h
        unfold noWK noLO at h
        simp only [Bool.and_eq_true, beq_iff_eq] at h
        rw [List.eq_nil_of_length_eq_zero h.1.1.2, List.eq_nil_of_length_eq_zero h.1.2.2]
        simp [sumT]
      rw [if_neg h1] at h
      by_cases h2 : e.Kind = 2
      · rw [if_pos h2] at h
        unfold noLO at h
        simp only [Bool.and_eq_true, beq_iff_eq] at h
        rw [List.eq_nil_of_length_eq_zero h.1.2.2]
        refine ⟨fun k hk => ⟨d - 1, ?_⟩, by simp, by simp [sumT]⟩
        exact chk_mem (Q := fun k : S_api_KidEdit => rE k.E (d - 1) = true) (fun p x hx => by
          unfold okK okP at hx
          simp only [Bool.and_eq_true] at hx
          exact hx.2.2) e.Kids (-1) h.2.2 k hk
      rw [if_neg h2] at h
      by_cases h3 : e.Kind = 3
      · rw [if_pos h3] at h
        unfold noWK at h
        rw [Bool.and_eq_true, Bool.and_eq_true, Bool.and_eq_true, Bool.and_eq_true, Bool.and_eq_true, Bool.and_eq_true, beq_iff_eq, beq_iff_eq, List.all_eq_true] at h
        obtain ⟨⟨_, _, hk⟩, _, hall, hB⟩ := h
        rw [List.eq_nil_of_length_eq_zero hk]
        refine ⟨by simp, fun o ho => ⟨okO_opk (hall o ho), ?_⟩, ?_⟩
        · have := hall o ho
          unfold okO at this
          by_cases k0 : o.Kind = 0
          · rw [if_pos k0] at this
            simp only [Bool.and_eq_true] at this
            exact .inl this.2.2
          rw [if_neg k0] at this
          by_cases k12 : o.Kind = 1 ∨ o.Kind = 2
          · rw [if_pos k12] at this
            simp only [Bool.and_eq_true] at this
            exact .inl this.2.2.2
          rw [if_neg k12] at this
          by_cases k3 : o.Kind = 3
          · rw [if_pos k3] at this
            simp only [Bool.and_eq_true] at this
            exact .inr ⟨d - 1, this.2.2.2.2⟩
          · rw [if_neg k3] at this; cases this
        · rw [hlens] at hB
          have := sum_lens (l := e.List_) (fun o => rE o.E (d - 1)) e.Ops (0, 0) ⟨⟨by decide, by decide⟩, by decide, by decide⟩ hall (fun o ho => (hb.l o ho).1) hB
          unfold lensB at hB
          rw [Bool.and_eq_true, decide_eq_true_eq, decide_eq_true_eq] at hB
          simp only at this
          omega
      · rw [if_neg h3] at h; cases h
    refine .mk _ (by omega) (by omega) (by omega) (by omega) (fun o ho => (hparts.2.1 o ho).1) (fun k hk => ?_) (fun o ho => ?_)
    · obtain ⟨d', hd'⟩ := hparts.1 k hk
      have := kid_sumN (f := fun k : S_api_KidEdit => ce k.E) hk
      exact gn_rE n k.E d' (by have := kidE_lt hk; omega) (hb.ks k hk) (by omega) hd'
    · rcases (hparts.2.1 o ho).2 with hs | ⟨d', hd'⟩
      · exact gn_same hs
      · have := kid_sumN (f := fun o : S_api_Op => ce o.E) ho
        exact gn_rE n o.E d' (by have := opE_lt ho; omega) (hb.os o ho) (by omega) hd'
def OQ (S : Nat) (o : EO) : Prop := opk o ∧ o.L.length ≤ S ∧ (∀ t ∈ o.L, Bd t) ∧ BE o.E ∧ GN o.E
structure OB (s : NW) (i S : Nat) : Prop where
  out : ∀ o ∈ s.out, OQ S o
  gone : ∀ t ∈ s.gone, Bd t
  come : ∀ t ∈ s.come, Bd t
  cnt : s.flush.length ≤ i
  sum : sumT s.flush ≤ S
theorem OQ.mono {S S' : Nat} {o : EO} (h : OQ S o) (hS : S ≤ S') : OQ S' o := ⟨h.1, Nat.le_trans h.2.1 hS, h.2.2⟩
theorem sumT_app (a b : List EO) : sumT (a ++ b) = sumT a + sumT b := by unfold sumT; rw [List.map_append, List.sum_append]
theorem sumT_del (g : List Tr) : sumT (delO g) = g.length := by
  by_cases h : g = []
  · subst h; rfl
  · rw [delO_ne h]; simp [sumT, thN]
theorem sumT_ins (g : List Tr) : sumT (insO g) = g.length := by
  by_cases h : g = []
  · subst h; rfl
  · rw [insO_ne h]; simp [sumT, thN]
theorem sumT_flush (s : NW) : sumT s.flush = sumT s.out + (s.gone.length + s.come.length) := by
  unfold NW.flush
  rw [sumT_app, sumT_app, sumT_del, sumT_ins]
theorem OB.fl {s : NW} {i S : Nat} (h : OB s i S) : ∀ o ∈ s.flush, OQ S o := fun o ho => by
  have hs := h.sum
  rw [sumT_flush] at hs
  unfold NW.flush at ho
  rw [List.mem_append, List.mem_append] at ho
  rcases ho with ho | ho | ho
  · exact h.out o ho
  · by_cases hg : s.gone = []
    · rw [hg] at ho; simp [delO] at ho
    · rw [delO_ne hg, List.mem_singleton] at ho
      subst ho
      exact ⟨.inr (.inl ⟨rfl, hg⟩), by simp only; omega, h.gone, be_s0, gn_s0⟩
  · by_cases hg : s.come = []
    · rw [hg] at ho; simp [insO] at ho
    · rw [insO_ne hg, List.mem_singleton] at ho
      subst ho
      exact ⟨.inr (.inr (.inl ⟨rfl, hg⟩)), by simp only; omega, h.come, be_s0, gn_s0⟩
theorem pushK_OQ {F : List EO} {S : Nat} {n : Int} (hn : 1 ≤ n) (hF : ∀ o ∈ F, OQ S o) : (∀ o ∈ pushK F n, OQ S o) ∧ sumT (pushK F n) = sumT F + n.toNat := by
  have hq : OQ S (⟨0, n, [], eS0⟩ : EO) := ⟨.inl ⟨rfl, hn⟩, Nat.zero_le _, by simp, be_s0, gn_s0⟩
  by_cases hk : ∃ o, F.getLast? = some o ∧ o.Kind = 0
  · obtain ⟨o, ho, hk0⟩ := hk
    obtain ⟨o', ho'⟩ := List.getLast?_eq_some_iff.1 ho
    subst ho'
    have hoq := hF o (by simp)
    obtain ⟨k, N, L, E⟩ := o
    simp only at hk0
    subst hk0
    have hN : 1 ≤ N := by
      rcases hoq.1 with ⟨_, h⟩ | ⟨h, _⟩ | ⟨h, _⟩ | h
      · exact h
      · simp at h
      · simp at h
      · simp at h
    rw [pushK_snoc]
    refine ⟨fun x hx => ?_, ?_⟩
    · rcases List.mem_append.1 hx with hx | hx
      · exact hF x (by simp [hx])
      · rw [List.mem_singleton.1 hx]
        exact ⟨.inl ⟨rfl, by simp only; omega⟩, hoq.2⟩
    · rw [sumT_app, sumT_app]
      simp only [sumT, List.map_cons, List.map_nil, List.sum_cons, List.sum_nil, thN, if_true]
      omega
  · rw [pushK_nk fun o ho h0 => hk ⟨o, ho, h0⟩]
    refine ⟨fun x hx => ?_, ?_⟩
    · rcases List.mem_append.1 hx with hx | hx
      · exact hF x hx
      · rw [List.mem_singleton.1 hx]; exact hq
    · rw [sumT_app]
      simp [sumT, thN]
theorem flush_plain (out : List EO) : (⟨out, [], []⟩ : NW).flush = out := by unfold NW.flush; simp [delO, insO]
theorem delO_len (g : List Tr) : (delO g).length ≤ 1 := by unfold delO; split <;> simp
theorem insO_len (g : List Tr) : (insO g).length ≤ 1 := by unfold insO; split <;> simp
theorem OB.step {s : NW} {i S : Nat} (h : OB s i S) {l : Int} {p : EO × Ed} (hp : opk p.1) (hL : ∀ t ∈ p.1.L, Bd t) (hb : BE p.2) (hg : GN p.2) : OB (stN l s p) (i + 1) (S + thN p.1) := by
  have hfs := h.sum
  have hfc := h.cnt
  have hpush : ∀ n : Int, 1 ≤ n → n.toNat ≤ thN p.1 → OB ⟨pushK s.flush n, [], []⟩ (i + 1) (S + thN p.1) := fun n hn hnt => by
    obtain ⟨q1, q2⟩ := pushK_OQ hn h.fl
    have ql := pushK_len s.flush n
    refine ⟨fun o ho => (q1 o ho).mono (by omega), by simp, by simp, ?_, ?_⟩
    · rw [flush_plain]; omega
    · rw [flush_plain, q2]; omega
  unfold stN
  by_cases k1 : p.1.Kind = 1
  · have ht : thN p.1 = p.1.L.length := by unfold thN; rw [if_neg (by omega), if_neg (by omega)]
    rw [if_pos k1, ht]
    refine ⟨fun o ho => (h.out o ho).mono (by omega), fun t ht => ?_, h.come, ?_, ?_⟩
    · rcases List.mem_append.1 ht with ht | ht
      · exact h.gone t ht
      · obtain ⟨x, hx, rfl⟩ := List.mem_map.1 ht
        exact (hL x hx).nrm
    · unfold NW.flush at hfc ⊢
      have := delO_len (s.gone ++ p.1.L.map nrm)
      simp only [List.length_append] at hfc ⊢
      omega
    · rw [sumT_flush] at hfs ⊢
      simp only [List.length_append, List.length_map]
      omega
  rw [if_neg k1]
  by_cases k2 : p.1.Kind = 2
  · have ht : thN p.1 = p.1.L.length := by unfold thN; rw [if_neg (by omega), if_neg (by omega)]
    rw [if_pos k2, ht]
    refine ⟨fun o ho => (h.out o ho).mono (by omega), h.gone, fun t ht => ?_, ?_, ?_⟩
    · rcases List.mem_append.1 ht with ht | ht
      · exact h.come t ht
      · obtain ⟨x, hx, rfl⟩ := List.mem_map.1 ht
        exact (hL x hx).nrm
    · unfold NW.flush at hfc ⊢
      have := insO_len (s.come ++ p.1.L.map nrm)
      simp only [List.length_append] at hfc ⊢
      omega
    · rw [sumT_flush] at hfs ⊢
      simp only [List.length_append, List.length_map]
      omega
  rw [if_neg k2]
  by_cases k0 : p.1.Kind = 0
  · rw [if_pos k0]
    have hN : 1 ≤ p.1.N := by
      rcases hp with ⟨_, h⟩ | ⟨h, _⟩ | ⟨h, _⟩ | h
      · exact h
      · omega
      · omega
      · omega
    exact hpush _ hN (by unfold thN; rw [if_pos k0]; exact Nat.le_refl _)
  rw [if_neg k0]
  have k3 : p.1.Kind = 3 := by
    rcases hp with ⟨h, _⟩ | ⟨h, _⟩ | ⟨h, _⟩ | h
    · omega
    · omega
    · omega
    · exact h
  have ht : thN p.1 = 1 := by unfold thN; rw [if_neg k0, if_pos k3]
  split
  · exact hpush 1 (by omega) (by omega)
  · refine ⟨fun o ho => ?_, by simp, by simp, ?_, ?_⟩
    · rcases List.mem_append.1 ho with ho | ho
      · exact (h.fl o ho).mono (by omega)
      · rw [List.mem_singleton.1 ho]
        exact ⟨.inr (.inr (.inr rfl)), Nat.zero_le _, by simp, hb, hg⟩
    · rw [flush_plain, List.length_append]; simp; omega
    · rw [flush_plain, sumT_app, ht]
      have : sumT [(⟨3, 0, [], p.2⟩ : EO)] = 1 := by simp [sumT, thN]
      omega
theorem ob_fold {l : Int} : ∀ (os : List EO) (s : NW) (i S : Nat), OB s i S → (∀ o ∈ os, opk o ∧ (∀ t ∈ o.L, Bd t) ∧ BE (nE o.E) ∧ GN (nE o.E)) → OB ((withE os).foldl (stN l) s) (i + os.length) (S + sumT os)
  | [], s, i, S, h, _ => by simpa [withE, sumT] using h
  | o :: os, s, i, S, h, hq => by
    obtain ⟨q1, q2, q3, q4⟩ := hq o (by simp)
    have := ob_fold (l := l) os _ _ _ (h.step (l := l) (p := (o, nE o.E)) q1 q2 q3 q4) fun x hx => hq x (by simp [hx])
    have e1 : i + 1 + os.length = i + (o :: os).length := by simp; omega
    have e2 : S + thN o + sumT os = S + sumT (o :: os) := by unfold sumT; simp; omega
    rw [e1, e2] at this
    exact this
theorem nE_good : ∀ (n : Nat) (e : Ed), SizeOf.sizeOf e < n → BE e → GN e → BE (nE e) ∧ GN (nE e)
  | 0, _, h, _, _ => by omega
  | n + 1, e, hn, hb, hg => by
    have ik : ∀ k ∈ e.Kids, BE (nE k.E) ∧ GN (nE k.E) := fun k hk => nE_good n k.E (by have := kidE_lt hk; omega) (hb.ks k hk) (hg.ks k hk)
    have io : ∀ o ∈ e.Ops, BE (nE o.E) ∧ GN (nE o.E) := fun o ho => nE_good n o.E (by have := opE_lt ho; omega) (hb.os o ho) (hg.os o ho)
    have hw := hg.w
    have hk := hg.k
    rw [nE_eq]
    by_cases h1 : e.Kind = 1
    · rw [if_pos h1]
      exact ⟨.mk _ hb.old.nrm hb.new.nrm (by simp) (by simp) (by simp) (by simp) (by simp) (by simp) (by simp), .mk _ (by simp) (by simp) (by simp) (by simp [sumT]) (by simp) (by simp) (by simp)⟩
    rw [if_neg h1]
    by_cases h2 : e.Kind = 2
    · rw [if_pos h2]
      refine ⟨.mk _ bd_n0 bd_n0 hb.w hb.ws (by simp only [List.length_map]; omega) (fun k hk => ?_) (by simp) (by simp) (by simp), .mk _ hg.w (by simp only [List.length_map]; omega) (by simp) (by simp [sumT]) (by simp) (fun k hk => ?_) (by simp)⟩
      · obtain ⟨x, hx, rfl⟩ := List.mem_map.1 hk
        exact (ik x hx).1
      · obtain ⟨x, hx, rfl⟩ := List.mem_map.1 hk
        exact (ik x hx).2
    rw [if_neg h2]
    by_cases h3 : e.Kind = 3
    · rw [if_pos h3]
      have hob := ob_fold (l := e.List_) e.Ops s0N 0 0 ⟨by simp [s0N], by simp [s0N], by simp [s0N], Nat.le_refl _, Nat.le_refl _⟩ fun o ho => ⟨hg.p o ho, (hb.l o ho).2, (io o ho).1, (io o ho).2⟩
      have h5 := hob.cnt
      have h6 := hob.sum
      have h7 := hg.o
      have h8 := hg.s
      have hall := hob.fl
      refine ⟨.mk _ bd_n0 bd_n0 (by simp) (by simp) (by simp) (by simp) ?_ (fun o ho => ?_) (fun o ho => (hall o ho).2.2.2.1), .mk _ (by simp) (by simp) ?_ ?_ (fun o ho => (hall o ho).1) (by simp) (fun o ho => (hall o ho).2.2.2.2)⟩
      · show ((nOps e.List_ (withE e.Ops)).length : Int) ≤ _
        unfold nOps
        omega
      · have := (hall o ho).2.1
        exact ⟨by omega, (hall o ho).2.2.1⟩
      · show (nOps e.List_ (withE e.Ops)).length ≤ _
        unfold nOps
        omega
      · show sumT (nOps e.List_ (withE e.Ops)) ≤ _
        unfold nOps
        omega
    · rw [if_neg h3]
      exact ⟨be_s0, gn_s0⟩
theorem BE.nE {e : Ed} (hb : BE e) (hg : GN e) : BE (nE e) := (nE_good _ e (Nat.lt_succ_self _) hb hg).1
theorem GN.nE {e : Ed} (hb : BE e) (hg : GN e) : GN (nE e) := (nE_good _ e (Nat.lt_succ_self _) hb hg).2
theorem sameTrees_refl {L : List Tr} (hl : (L.length : Int) ≤ 140737488355328) (hL : ∀ t ∈ L, Bd t) : m_centoref22_sameTrees L L = some true := by
  unfold m_centoref22_sameTrees
  have e : ((L.length : Int) != (L.length : Int)) = false := by simp
  rw [e, cond_false, loop_all L _ (fun _ => true) (Sum.inl () : Unit ⊕ Unit) (Sum.inr ()) hl (fun i x hi hx hm => by
    unfold m_centoref22_sameTrees_L0
    rw [lt_t hi, cond_true, getI_of hx, Option.bind_some, Option.bind_some, same_ok (hL x hm) (hL x hm), eqT_refl]
    rfl) (by unfold m_centoref22_sameTrees_L0; rw [lt_f]; rfl)]
  simp
theorem esame_lv : ∀ (k : Nat) (e : Ed), BE e → SizeOf.sizeOf e < k → lv_centoref22_Same k e e = some true
  | 0, _, _, h => by omega
  | k + 1, e, hb, hk => by
    show b_centoref22_Same (lv_centoref22_Same k) e e = _
    unfold b_centoref22_Same
    have ne : ∀ x : Int, (x != x) = false := fun x => by simp
    have l0 : runLoop (b_centoref22_Same_L0 e e) 0 = some (if (e.Words.all fun _ => true) = true then Sum.inr () else Sum.inl ()) :=
      loop_all e.Words _ (fun _ => true) (Sum.inl () : Unit ⊕ Unit) (Sum.inr ()) hb.w (fun i x hi hx hm => by
        unfold b_centoref22_Same_L0
        rw [lt_t hi, cond_true, getI_of hx, Option.bind_some, Option.bind_some]
        simp) (by unfold b_centoref22_Same_L0; rw [lt_f]; rfl)
    have l1 : runLoop (b_centoref22_Same_L1 (lv_centoref22_Same k) e e) 0 = some (if (e.Kids.all fun _ => true) = true then Sum.inr () else Sum.inl ()) :=
      loop_all e.Kids _ (fun _ => true) (Sum.inl () : Unit ⊕ Unit) (Sum.inr ()) hb.k (fun i x hi hx hm => by
        unfold b_centoref22_Same_L1
        rw [lt_t hi, cond_true, getI_of hx, Option.bind_some, Option.bind_some, ne, cond_false, esame_lv k x.E (hb.ks x hm) (by have := kidE_lt hm; omega)]
        simp) (by unfold b_centoref22_Same_L1; rw [lt_f]; rfl)
    have l2 : runLoop (b_centoref22_Same_L2 (lv_centoref22_Same k) e e) 0 = some (if (e.Ops.all fun _ => true) = true then Sum.inr () else Sum.inl ()) :=
      loop_all e.Ops _ (fun _ => true) (Sum.inl () : Unit ⊕ Unit) (Sum.inr ()) hb.o (fun i x hi hx hm => by
        have hL := hb.l x hm
        unfold b_centoref22_Same_L2
        rw [lt_t hi, cond_true, getI_of hx, Option.bind_some, Option.bind_some, ne, ne, cond_false, cond_false, sameTrees_refl (by omega) hL.2, Option.bind_some, cond_true, esame_lv k x.E (hb.os x hm) (by have := opE_lt hm; omega)]
        simp) (by unfold b_centoref22_Same_L2; rw [lt_f]; rfl)
    rw [ne, ne, same_ok hb.old hb.old, same_ok hb.new hb.new, eqT_refl, eqT_refl, l0, l1, l2]
    simp
theorem esame_ok {e : Ed} (hb : BE e) : m_centoref22_Same e e = some true := lim_eq (SizeOf.sizeOf e + 1) fun k hk => esame_lv k e hb (by omega)
def lgt (e : Ed) : Bool := (!(decide (2000 < (e.Ops.foldl stR (0, 0)).1) || decide (2000 < (e.Ops.foldl stR (0, 0)).2))) && ((e.Kids.attach.map fun k => lgt k.1.E).all id && (e.Ops.attach.map fun o => lgt o.1.E).all id)
termination_by SizeOf.sizeOf e
decreasing_by
  · exact kidE_lt k.2
  · exact opE_lt o.2
theorem lgt_eq (e : Ed) : lgt e = ((!(decide (2000 < (e.Ops.foldl stR (0, 0)).1) || decide (2000 < (e.Ops.foldl stR (0, 0)).2))) && ((e.Kids.all fun k => lgt k.E) && (e.Ops.all fun o => lgt o.E))) := by
  have h1 : (e.Kids.attach.map fun k => lgt k.1.E) = e.Kids.map fun k => lgt k.E := List.attach_map_val (f := fun k : S_api_KidEdit => lgt k.E)
  have h2 : (e.Ops.attach.map fun o => lgt o.1.E) = e.Ops.map fun o => lgt o.E := List.attach_map_val (f := fun o : EO => lgt o.E)
  rw [lgt, h1, h2, List.all_map, List.all_map]
  rfl
theorem light_lv : ∀ (k : Nat) (e : Ed), BE e → SizeOf.sizeOf e < k → lv_centoref20_Light k e = some (lgt e)
  | 0, _, _, h => by omega
  | k + 1, e, hb, hk => by
    show b_centoref20_Light (lv_centoref20_Light k) e = _
    unfold b_centoref20_Light
    have l0 : runLoop (b_centoref20_Light_L0 (lv_centoref20_Light k) e) 0 = some (if (e.Kids.all fun x => lgt x.E) = true then Sum.inr () else Sum.inl ()) :=
      loop_all e.Kids _ (fun x => lgt x.E) (Sum.inl () : Unit ⊕ Unit) (Sum.inr ()) hb.k (fun i x hi hx hm => by
        unfold b_centoref20_Light_L0
        rw [lt_t hi, cond_true, getI_of hx, Option.bind_some, light_lv k x.E (hb.ks x hm) (by have := kidE_lt hm; omega), Option.bind_some]
        cases lgt x.E <;> rfl) (by unfold b_centoref20_Light_L0; rw [lt_f]; rfl)
    have l1 : runLoop (b_centoref20_Light_L1 (lv_centoref20_Light k) e) 0 = some (if (e.Ops.all fun x => lgt x.E) = true then Sum.inr () else Sum.inl ()) :=
      loop_all e.Ops _ (fun x => lgt x.E) (Sum.inl () : Unit ⊕ Unit) (Sum.inr ()) hb.o (fun i x hi hx hm => by
        unfold b_centoref20_Light_L1
        rw [lt_t hi, cond_true, getI_of hx, Option.bind_some, light_lv k x.E (hb.os x hm) (by have := opE_lt hm; omega), Option.bind_some]
        cases lgt x.E <;> rfl) (by unfold b_centoref20_Light_L1; rw [lt_f]; rfl)
    rw [lgt_eq, lenR_ok hb, Option.bind_some, l0, l1]
    generalize decide (2000 < (e.Ops.foldl stR (0, 0)).1) = q1
    generalize decide (2000 < (e.Ops.foldl stR (0, 0)).2) = q2
    generalize (e.Kids.all fun x => lgt x.E) = q3
    generalize (e.Ops.all fun x => lgt x.E) = q4
    cases q1 <;> cases q2 <;> cases q3 <;> cases q4 <;> rfl
theorem light_ok {e : Ed} (hb : BE e) : m_centoref20_Light e = some (lgt e) := lim_eq (SizeOf.sizeOf e + 1) fun k hk => light_lv k e hb (by omega)
theorem good20 {e : Ed} (hb : BE e) : ∃ b, m_centoref20_Good e = some b ∧ (b = true → rE e 64 = true ∧ ce e ≤ 3000) := by
  obtain ⟨b, h1, h2⟩ := few20 hb
  have h3 := eref_ok hb (d := 64) (by decide)
  rw [show ((64 : Nat) : Int) = 64 from rfl] at h3
  unfold m_centoref20_Good
  rw [h1, Option.bind_some, h3, light_ok hb]
  refine ⟨b && (rE e 64 && lgt e), ?_, fun h => ?_⟩
  · cases b <;> cases rE e 64 <;> cases lgt e <;> rfl
  · simp only [Bool.and_eq_true] at h
    exact ⟨h.2.1, h2 h.1⟩
theorem kids_ok {o : EO} (h : opk o) : m_align_kids o = some ((thN o : Nat) : Int) ∧ 1 ≤ thN o := by
  unfold m_align_kids thN
  rcases h with ⟨k, h⟩ | ⟨k, h⟩ | ⟨k, h⟩ | k
  · rw [if_pos k, show (o.Kind == 0) = true from by rw [k]; rfl, cond_true]
    exact ⟨by congr 1; omega, by omega⟩
  · have := List.length_pos_iff.2 h
    rw [if_neg (by omega), if_neg (by omega), show (o.Kind == 0) = false from by rw [k]; rfl, show (o.Kind == 1) = true from by rw [k]; rfl]
    exact ⟨rfl, by omega⟩
  · have := List.length_pos_iff.2 h
    rw [if_neg (by omega), if_neg (by omega), show (o.Kind == 0) = false from by rw [k]; rfl, show (o.Kind == 1) = false from by rw [k]; rfl, show (o.Kind == 2) = true from by rw [k]; rfl]
    exact ⟨rfl, by omega⟩
  · rw [if_neg (by omega), if_pos k, show (o.Kind == 0) = false from by rw [k]; rfl, show (o.Kind == 1) = false from by rw [k]; rfl, show (o.Kind == 2) = false from by rw [k]; rfl]
    exact ⟨rfl, by omega⟩
def atHead (a : List EO) (g : Nat) : Prop := match a with
  | [] => g = 0
  | o :: _ => g ≤ thN o
structure CI (a : List EO) (g : Nat) : Prop where
  p : ∀ o ∈ a, opk o
  s : sumT a ≤ 1073741824
  g : atHead a g
def nxA (a : List EO) (g : Nat) : List EO := match a with
  | [] => []
  | o :: r => if g < thN o then o :: r else r
def nxG (a : List EO) (g : Nat) : Nat := match a with
  | [] => 0
  | o :: _ => if g < thN o then g else 0
def kdA (a : List EO) : Int := match a with
  | [] => 0
  | o :: _ => o.Kind
def lfA (a : List EO) (g : Nat) : Int := match a with
  | [] => 0
  | o :: _ => ((thN o - g : Nat) : Int)
def mu (a : List EO) (g : Nat) : Nat := match a with
  | [] => 0
  | o :: r => r.length + (if g < thN o then 1 else 0)
theorem sumT_cons (o : EO) (r : List EO) : sumT (o :: r) = thN o + sumT r := by unfold sumT; rw [List.map_cons, List.sum_cons]
theorem mu_le (a : List EO) (g : Nat) : mu a g ≤ a.length := by
  unfold mu
  split
  · simp
  · rename_i o r
    rw [List.length_cons]
    split <;> omega
theorem nx_CI {a : List EO} {g : Nat} (h : CI a g) : CI (nxA a g) (nxG a g) ∧ (∀ o r, nxA a g = o :: r → nxG a g < thN o) ∧ mu (nxA a g) (nxG a g) = mu a g := by
  cases a with
  | nil => exact ⟨⟨h.p, h.s, rfl⟩, fun o r e => by simp [nxA] at e, rfl⟩
  | cons o r =>
    have hs := h.s
    rw [sumT_cons] at hs
    by_cases hg : g < thN o
    · have e1 : nxA (o :: r) g = o :: r := if_pos hg
      have e2 : nxG (o :: r) g = g := if_pos hg
      rw [e1, e2]
      exact ⟨h, fun o' r' e => by injection e with e _; rw [← e]; exact hg, rfl⟩
    · have e1 : nxA (o :: r) g = r := if_neg hg
      have e2 : nxG (o :: r) g = 0 := if_neg hg
      have e3 : mu (o :: r) g = r.length := by show r.length + (if g < thN o then 1 else 0) = _; rw [if_neg hg, Nat.add_zero]
      rw [e1, e2, e3]
      have hp : ∀ x ∈ r, opk x := fun x hx => h.p x (by simp [hx])
      cases r with
      | nil => exact ⟨⟨hp, by omega, rfl⟩, fun o' r' e => by simp at e, rfl⟩
      | cons o' r' =>
        have := (kids_ok (hp o' (by simp))).2
        refine ⟨⟨hp, by omega, Nat.zero_le _⟩, fun x y e => by injection e with e _; rw [← e]; omega, ?_⟩
        show r'.length + (if 0 < thN o' then 1 else 0) = _
        rw [if_pos (by omega)]; rfl
theorem l0_nil (g : Int) : m_align_cursor_next_L0 ([], g) = some (.inr (.inr ([], g))) := rfl
theorem l0_more {o : EO} {r : List EO} {g : Nat} (ho : opk o) (hs : thN o ≤ 1073741824) (hg : g < thN o) : m_align_cursor_next_L0 (o :: r, ((g : Nat) : Int)) = some (.inr (.inl (o.Kind, ((thN o - g : Nat) : Int), o :: r, ((g : Nat) : Int)))) := by
  unfold m_align_cursor_next_L0
  have e0 : getI (o :: r) 0 = some o := getI_of (i := 0) rfl
  have e1 : decide (0 < ((o :: r).length : Int)) = true := by rw [decide_eq_true_eq, List.length_cons]; omega
  have e2 : IntKind.i64.wrap (((thN o : Nat) : Int) - ((g : Nat) : Int)) = ((thN o - g : Nat) : Int) := by rw [i64s (by omega) (by omega)]; omega
  have e3 : decide (0 < ((thN o - g : Nat) : Int)) = true := by rw [decide_eq_true_eq]; omega
  simp only
  rw [e1, cond_true, e0, Option.bind_some, (kids_ok ho).1, Option.bind_some, e2, e3, cond_true, Option.bind_some]
theorem l0_gone {o : EO} {r : List EO} (ho : opk o) (hs : thN o ≤ 1073741824) : m_align_cursor_next_L0 (o :: r, ((thN o : Nat) : Int)) = some (.inl (r, 0)) := by
  unfold m_align_cursor_next_L0
  have e0 : getI (o :: r) 0 = some o := getI_of (i := 0) rfl
  have e1 : decide (0 < ((o :: r).length : Int)) = true := by rw [decide_eq_true_eq, List.length_cons]; omega
  have e2 : IntKind.i64.wrap (((thN o : Nat) : Int) - ((thN o : Nat) : Int)) = 0 := by rw [Int.sub_self]; rfl
  have e4 : subI (o :: r) 1 ((o :: r).length : Int) = some r := by
    rw [subI_ok (by omega) (by rw [List.length_cons]; omega) (Int.le_refl _)]
    simp
  simp only
  rw [e1, cond_true, e0, Option.bind_some, (kids_ok ho).1, Option.bind_some, e2, show decide ((0 : Int) < 0) = false from rfl, cond_false, e4, Option.bind_some]
theorem next_ok {a : List EO} {g : Nat} (h : CI a g) : m_align_cursor_next ⟨a, ((g : Nat) : Int)⟩ = some (kdA (nxA a g), lfA (nxA a g) (nxG a g), ⟨nxA a g, ((nxG a g : Nat) : Int)⟩) := by
  unfold m_align_cursor_next
  simp only
  cases a with
  | nil =>
    have hg : g = 0 := h.g
    subst hg
    rw [runLoop_end (l0_nil _), Option.bind_some]
    rfl
  | cons o r =>
    have hs := h.s
    rw [sumT_cons] at hs
    have ho := h.p o (by simp)
    by_cases hg : g < thN o
    · have e1 : nxA (o :: r) g = o :: r := if_pos hg
      have e2 : nxG (o :: r) g = g := if_pos hg
      rw [e1, e2, runLoop_end (l0_more ho (by omega) hg), Option.bind_some]
      rfl
    · have hgg : g = thN o := by have : g ≤ thN o := h.g; omega
      have e1 : nxA (o :: r) g = r := if_neg hg
      have e2 : nxG (o :: r) g = 0 := if_neg hg
      rw [e1, e2, hgg, runLoop_step (l0_gone ho (by omega))]
      cases r with
      | nil => rw [runLoop_end (l0_nil _), Option.bind_some]; rfl
      | cons o' r' =>
        have ho' := h.p o' (by simp)
        have := (kids_ok ho').2
        rw [sumT_cons] at hs
        have := runLoop_end (l0_more (r := r') (g := 0) ho' (by omega) (by omega))
        rw [show (((0 : Nat) : Int)) = 0 from rfl] at this
        rw [this, Option.bind_some]
        rfl
theorem eat {o : EO} {r : List EO} {g n : Nat} (h : CI (o :: r) g) (hn : g + n ≤ thN o) : CI (o :: r) (g + n) ∧ mu (o :: r) (g + n) ≤ mu (o :: r) g ∧ (g < thN o → g + n = thN o → mu (o :: r) (g + n) + 1 ≤ mu (o :: r) g) := by
  refine ⟨⟨h.p, h.s, hn⟩, ?_, fun h1 h2 => ?_⟩
  · show r.length + (if g + n < thN o then 1 else 0) ≤ r.length + (if g < thN o then 1 else 0)
    split <;> split <;> omega
  · show r.length + (if g + n < thN o then 1 else 0) + 1 ≤ r.length + (if g < thN o then 1 else 0)
    rw [if_neg (by omega), if_pos h1]; omega
theorem ci_of {l : Int} {a : List EO} (h : GN ⟨3, n0T, n0T, [], [], l, a⟩) : CI a 0 := ⟨h.p, h.s, by unfold atHead; split <;> omega⟩
def BL (a : List EO) : Prop := (a.length : Int) ≤ 140737488355328 ∧ ∀ o ∈ a, BO o
theorem BL.be {a : List EO} (h : BL a) (l : Int) : BE ⟨3, n0T, n0T, [], [], l, a⟩ := .mk _ bd_n0 bd_n0 (by simp) (by simp) (by simp) (by simp) h.1 (fun o ho => (h.2 o ho).1) fun o ho => (h.2 o ho).2
def q24 : List EO := [⟨2, 0, [⟨10, [1], []⟩], eS0⟩, ⟨0, 2, [], eS0⟩]
set_option maxRecDepth 20000 in
theorem awake24 : m_centolaw24_awake = some true := by
  have a1 : m_align_cursor_next ⟨[⟨0, 3, [], eS0⟩], 0⟩ = some (0, 3, ⟨[⟨0, 3, [], eS0⟩], 0⟩) := Option.bind_eq_some_iff.2 ⟨.inl (0, 3, [⟨0, 3, [], eS0⟩], 0), runLoop_end rfl, rfl⟩
  have a2 : m_align_cursor_next ⟨[⟨0, 3, [], eS0⟩], 1⟩ = some (0, 2, ⟨[⟨0, 3, [], eS0⟩], 1⟩) := Option.bind_eq_some_iff.2 ⟨.inl (0, 2, [⟨0, 3, [], eS0⟩], 1), runLoop_end rfl, rfl⟩
  have a3 : m_align_cursor_next ⟨[⟨0, 3, [], eS0⟩], 3⟩ = some (0, 0, ⟨[], 0⟩) := Option.bind_eq_some_iff.2 ⟨.inr ([], 0), (runLoop_step (s' := ([], 0)) rfl).trans (runLoop_end rfl), rfl⟩
  have b1 : m_align_cursor_next ⟨⟨0, 1, [], eS0⟩ :: q24, 0⟩ = some (0, 1, ⟨⟨0, 1, [], eS0⟩ :: q24, 0⟩) := Option.bind_eq_some_iff.2 ⟨.inl (0, 1, ⟨0, 1, [], eS0⟩ :: q24, 0), runLoop_end rfl, rfl⟩
  have b2 : m_align_cursor_next ⟨⟨0, 1, [], eS0⟩ :: q24, 1⟩ = some (2, 1, ⟨q24, 0⟩) := Option.bind_eq_some_iff.2 ⟨.inl (2, 1, q24, 0), (runLoop_step (s' := (q24, 0)) rfl).trans (runLoop_end rfl), rfl⟩
  have b3 : m_align_cursor_next ⟨q24, 1⟩ = some (0, 2, ⟨[⟨0, 2, [], eS0⟩], 0⟩) := Option.bind_eq_some_iff.2 ⟨.inl (0, 2, [⟨0, 2, [], eS0⟩], 0), (runLoop_step (s' := ([⟨0, 2, [], eS0⟩], 0)) rfl).trans (runLoop_end rfl), rfl⟩
  have b4 : m_align_cursor_next ⟨[⟨0, 2, [], eS0⟩], 2⟩ = some (0, 0, ⟨[], 0⟩) := Option.bind_eq_some_iff.2 ⟨.inr ([], 0), (runLoop_step (s' := ([], 0)) rfl).trans (runLoop_end rfl), rfl⟩
  let x1 : S_align_Piece := ⟨0, ⟨0, 1, [], eS0⟩, ⟨0, 1, [], eS0⟩⟩
  let x2 : S_align_Piece := ⟨2, ⟨0, 0, [], eS0⟩, ⟨2, 0, [⟨10, [1], []⟩], eS0⟩⟩
  let x3 : S_align_Piece := ⟨0, ⟨0, 2, [], eS0⟩, ⟨0, 2, [], eS0⟩⟩
  have s1 : m_align_pieces_L0 2 2 ([⟨0, 3, [], eS0⟩], 0, ⟨0, 1, [], eS0⟩ :: q24, 0, []) = some (.inl ([⟨0, 3, [], eS0⟩], 1, ⟨0, 1, [], eS0⟩ :: q24, 1, [x1])) :=
    Option.bind_eq_some_iff.2 ⟨_, a1, Option.bind_eq_some_iff.2 ⟨_, b1, rfl⟩⟩
  have s2 : m_align_pieces_L0 2 2 ([⟨0, 3, [], eS0⟩], 1, ⟨0, 1, [], eS0⟩ :: q24, 1, [x1]) = some (.inl ([⟨0, 3, [], eS0⟩], 1, q24, 1, [x1, x2])) :=
    Option.bind_eq_some_iff.2 ⟨_, a2, Option.bind_eq_some_iff.2 ⟨_, b2, rfl⟩⟩
  have s3 : m_align_pieces_L0 2 2 ([⟨0, 3, [], eS0⟩], 1, q24, 1, [x1, x2]) = some (.inl ([⟨0, 3, [], eS0⟩], 3, [⟨0, 2, [], eS0⟩], 2, [x1, x2, x3])) :=
    Option.bind_eq_some_iff.2 ⟨_, a2, Option.bind_eq_some_iff.2 ⟨_, b3, rfl⟩⟩
  have s4 : m_align_pieces_L0 2 2 ([⟨0, 3, [], eS0⟩], 3, [⟨0, 2, [], eS0⟩], 2, [x1, x2, x3]) = some (.inr ([x1, x2, x3], true)) :=
    Option.bind_eq_some_iff.2 ⟨_, a3, Option.bind_eq_some_iff.2 ⟨_, b4, rfl⟩⟩
  have hl : runLoop (m_align_pieces_L0 2 2) ([⟨0, 3, [], eS0⟩], 0, ⟨0, 1, [], eS0⟩ :: q24, 0, []) = some ([x1, x2, x3], true) := by
    rw [runLoop_step s1, runLoop_step s2, runLoop_step s3, runLoop_end s4]
  have ht : m_align_Through [⟨0, 3, [], eS0⟩] (⟨0, 1, [], eS0⟩ :: q24) = some ([x1, x2, x3], true) :=
    Option.bind_eq_some_iff.2 ⟨_, Option.bind_eq_some_iff.2 ⟨_, hl, rfl⟩, rfl⟩
  exact Option.bind_eq_some_iff.2 ⟨_, ht, rfl⟩
end Go.Proofs.Ytbcgiaijjaocdaa
