/- Plain facts on this seat's mirrors (part AP2); each theorem bears its own conditions. -/
import Derived.Test.YtbcgiaijjaocdaaAP1
import Derived.IntWalk
namespace Go.Proofs.Ytbcgiaijjaocdaa
open Go.RowKit
set_option linter.unusedVariables false
set_option linter.unusedSimpArgs false
abbrev St := S_api_Step
/-- rounds with an index alone: what each tells -/
theorem loop_idx {R : Type} (n : Nat) (step : Int → Option (Int ⊕ R)) (F : Nat → R) (hn : (n : Int) ≤ 140737488355328)
    (h : ∀ i : Nat, i ≤ n → (i < n ∧ step (i : Int) = some (.inl (IntKind.i64.wrap ((i : Int) + 1))) ∧ F i = F (i + 1)) ∨ step (i : Int) = some (.inr (F i))) : runLoop step 0 = some (F 0) := by
  have key : ∀ m i, i + m = n → runLoop step (i : Int) = some (F i) := fun m => by
    induction m with
    | zero =>
      intro i hi
      rcases h i (by omega) with ⟨h1, _⟩ | h1
      · omega
      · exact runLoop_end h1
    | succ m ih =>
      intro i hi
      rcases h i (by omega) with ⟨h1, h2, h3⟩ | h1
      · rw [i64s (by omega) (by omega)] at h2
        rw [runLoop_step h2, h3]
        exact ih (i + 1) (by omega)
      · exact runLoop_end h1
  exact key n 0 (by omega)
def c1 (x y : St) : Int := if x.Kind < y.Kind then -1 else if y.Kind < x.Kind then 1 else if x.At < y.At then -1 else if y.At < x.At then 1 else 0
def cmpL : List St → List St → Int
  | [], [] => 0
  | [], _ :: _ => -1
  | _ :: _, [] => 1
  | x :: xs, y :: ys => if c1 x y = 0 then cmpL xs ys else c1 x y
theorem c1_cases (x y : St) : c1 x y = -1 ∨ c1 x y = 0 ∨ c1 x y = 1 := by
  unfold c1
  split
  · exact .inl rfl
  · split
    · exact .inr (.inr rfl)
    · split
      · exact .inl rfl
      · split
        · exact .inr (.inr rfl)
        · exact .inr (.inl rfl)
theorem c1_neg (x y : St) : c1 y x = - c1 x y := by
  unfold c1
  by_cases h1 : x.Kind < y.Kind
  · rw [if_neg (by omega), if_pos h1, if_pos h1]; rfl
  · by_cases h2 : y.Kind < x.Kind
    · rw [if_pos h2, if_neg h1, if_pos h2]
    · rw [if_neg h2, if_neg h1, if_neg h1, if_neg h2]
      by_cases h3 : x.At < y.At
      · rw [if_neg (by omega), if_pos h3, if_pos h3]; rfl
      · by_cases h4 : y.At < x.At
        · rw [if_pos h4, if_neg h3, if_pos h4]
        · rw [if_neg h4, if_neg h3, if_neg h3, if_neg h4]; rfl
theorem c1_zero {x y : St} : c1 x y = 0 ↔ x.Kind = y.Kind ∧ x.At = y.At := by
  unfold c1
  by_cases h1 : x.Kind < y.Kind
  · rw [if_pos h1]; omega
  · by_cases h2 : y.Kind < x.Kind
    · rw [if_neg h1, if_pos h2]; omega
    · rw [if_neg h1, if_neg h2]
      by_cases h3 : x.At < y.At
      · rw [if_pos h3]; omega
      · by_cases h4 : y.At < x.At
        · rw [if_neg h3, if_pos h4]; omega
        · rw [if_neg h3, if_neg h4]; omega
theorem cmpL_cases : ∀ a b : List St, cmpL a b = -1 ∨ cmpL a b = 0 ∨ cmpL a b = 1
  | [], [] => .inr (.inl rfl)
  | [], _ :: _ => .inl rfl
  | _ :: _, [] => .inr (.inr rfl)
  | x :: xs, y :: ys => by
    rw [cmpL]
    split
    · exact cmpL_cases xs ys
    · exact c1_cases x y
theorem cmpL_neg : ∀ a b : List St, cmpL b a = - cmpL a b
  | [], [] => rfl
  | [], _ :: _ => rfl
  | _ :: _, [] => rfl
  | x :: xs, y :: ys => by
    rw [cmpL, cmpL, c1_neg x y]
    by_cases h : c1 x y = 0
    · rw [if_pos (by omega), if_pos h]; exact cmpL_neg xs ys
    · rw [if_neg (by omega), if_neg h]
def stEq (a b : St) : Bool := a.Kind == b.Kind && a.At == b.At
def seqL : List St → List St → Bool
  | [], [] => true
  | x :: xs, y :: ys => stEq x y && seqL xs ys
  | _, _ => false
theorem cmpL_zero : ∀ a b : List St, (cmpL a b == 0) = seqL a b
  | [], [] => rfl
  | [], _ :: _ => rfl
  | _ :: _, [] => rfl
  | x :: xs, y :: ys => by
    rw [cmpL, seqL]
    by_cases h : c1 x y = 0
    · obtain ⟨h1, h2⟩ := c1_zero.1 h
      rw [if_pos h, cmpL_zero xs ys]
      unfold stEq
      rw [h1, h2]
      simp
    · rw [if_neg h]
      have : stEq x y = false := by
        rw [Bool.eq_false_iff]
        intro hs
        unfold stEq at hs
        rw [Bool.and_eq_true, beq_iff_eq, beq_iff_eq] at hs
        exact h (c1_zero.2 hs)
      rw [this, Bool.false_and, beq_eq_false_iff_ne]
      exact h
theorem cmp_ok (x y : Int) : m_cmp_Compare_int x y = some (if x < y then -1 else if y < x then 1 else 0) := by
  unfold m_cmp_Compare_int m_cmp_isNaN_int
  have e : ∀ z : Int, (z != z) = false := fun z => by simp
  rw [e, e]
  simp only [Option.bind_some, cond_false]
  by_cases h1 : x < y
  · rw [decide_eq_true h1, if_pos h1]; rfl
  · rw [decide_eq_false h1, if_neg h1]
    by_cases h2 : y < x
    · rw [decide_eq_true h2, if_pos h2]; rfl
    · rw [decide_eq_false h2, if_neg h2]; rfl
theorem or_ok (x y : Int) : m_cmp_Or_int [x, y] = some (if x = 0 then y else x) := by
  unfold m_cmp_Or_int
  have h0 : getI [x, y] 0 = some x := rfl
  have h1 : getI [x, y] 1 = some y := rfl
  by_cases hx : x = 0
  · subst hx
    have s0 : m_cmp_Or_int_L0 [0, y] 0 = some (.inl 1) := rfl
    rw [runLoop_step s0, if_pos rfl]
    by_cases hy : y = 0
    · subst hy
      have s1 : m_cmp_Or_int_L0 [0, 0] 1 = some (.inl 2) := rfl
      rw [runLoop_step s1, runLoop_end (show m_cmp_Or_int_L0 [0, 0] 2 = some (.inr (.inr ())) from rfl)]
      rfl
    · have s1 : m_cmp_Or_int_L0 [0, y] 1 = some (.inr (.inl y)) := by
        unfold m_cmp_Or_int_L0
        rw [show getI [0, y] 1 = some y from rfl, Option.bind_some, (bne_iff_ne (a := y) (b := 0)).2 hy]
        rfl
      rw [runLoop_end s1]
      rfl
  · have s0 : m_cmp_Or_int_L0 [x, y] 0 = some (.inr (.inl x)) := by
      unfold m_cmp_Or_int_L0
      rw [h0, Option.bind_some, (bne_iff_ne (a := x) (b := 0)).2 hx]
      rfl
    rw [runLoop_end s0, if_neg hx]
    rfl
theorem compare1_ok (x y : St) : m_path_Compare_1 x y = some (c1 x y) := by
  unfold m_path_Compare_1
  rw [cmp_ok, cmp_ok]
  simp only [Option.bind_some]
  rw [or_ok, Option.bind_some]
  unfold c1
  by_cases hk : x.Kind = y.Kind
  · rw [hk, if_neg (Int.lt_irrefl _), if_neg (Int.lt_irrefl _), if_pos rfl]
    by_cases ha : x.At = y.At
    · rw [ha]; simp
    · rw [beq_eq_false_iff_ne.2 ha]; simp
  · rw [beq_eq_false_iff_ne.2 hk]
    simp only [Bool.false_and, cond_false]
    by_cases h1 : x.Kind < y.Kind
    · rw [if_pos h1, if_pos h1]; rfl
    · rw [if_neg h1, if_neg h1, if_pos (show y.Kind < x.Kind by omega), if_pos (show y.Kind < x.Kind by omega)]; rfl
def cfR : List St → List St → Int ⊕ Unit
  | [], _ => .inr ()
  | _ :: _, [] => .inl 1
  | x :: xs, y :: ys => if c1 x y = 0 then cfR xs ys else .inl (c1 x y)
theorem cfR_cmp : ∀ a b : List St, (match cfR a b with | .inl v => v | .inr _ => if a.length < b.length then -1 else 0) = cmpL a b
  | [], [] => rfl
  | [], _ :: _ => by simp [cfR, cmpL]
  | _ :: _, [] => rfl
  | x :: xs, y :: ys => by
    have ih := cfR_cmp xs ys
    rw [cfR, cmpL]
    by_cases h : c1 x y = 0
    · rw [if_pos h, if_pos h, ← ih]
      simp only [List.length_cons, Nat.add_lt_add_iff_right]
    · rw [if_neg h, if_neg h]
def crR : List St → List St → Int ⊕ Unit
  | [], _ => .inr ()
  | _ :: _, [] => .inr ()
  | x :: xs, y :: ys => if c1 x y = 0 then crR xs ys else .inl (c1 x y)
theorem crR_cmp : ∀ a b : List St, (match crR a b with | .inl v => v | .inr _ => if a.length = b.length then 0 else if a.length < b.length then -1 else 1) = cmpL a b
  | [], [] => rfl
  | [], _ :: _ => by simp [crR, cmpL]
  | _ :: _, [] => by simp [crR, cmpL]
  | x :: xs, y :: ys => by
    have ih := crR_cmp xs ys
    rw [crR, cmpL]
    by_cases h : c1 x y = 0
    · rw [if_pos h, if_pos h, ← ih]
      simp only [List.length_cons, Nat.add_lt_add_iff_right, Nat.add_right_cancel_iff]
    · rw [if_neg h, if_neg h]
theorem drop_at {α : Type} {l : List α} {i : Nat} (h : i < l.length) : ∃ x, l[i]? = some x ∧ l.drop i = x :: l.drop (i + 1) := ⟨l[i], List.getElem?_eq_getElem h, List.drop_eq_getElem_cons h⟩
theorem drop_end {α : Type} {l : List α} {i : Nat} (h : l.length ≤ i) : l.drop i = [] := List.drop_eq_nil_of_le h
theorem compare_ok {a b : List St} (ha : (a.length : Int) ≤ 140737488355328) : m_path_Compare a b = some (cmpL a b) := by
  unfold m_path_Compare m_slices_CompareFunc_api_Step_api_Step_api_Step_api_Step_f80
  rw [loop_idx a.length _ (fun i => cfR (a.drop i) (b.drop i)) ha (fun i hi => by
    unfold m_slices_CompareFunc_api_Step_api_Step_api_Step_api_Step_f80_L0
    by_cases h : i < a.length
    · obtain ⟨x, hx, ex⟩ := drop_at h
      rw [lt_t h, cond_true, getI_of hx, Option.bind_some]
      by_cases hb : i < b.length
      · obtain ⟨y, hy, ey⟩ := drop_at hb
        have e : decide ((b.length : Int) ≤ (i : Int)) = false := decide_eq_false (by omega)
        rw [e, cond_false, getI_of hy, Option.bind_some, compare1_ok, Option.bind_some]
        simp only [ex, ey, cfR]
        by_cases hc : c1 x y = 0
        · refine .inl ⟨h, ?_, ?_⟩
          · rw [hc]; rfl
          · rw [if_pos hc]
        · refine .inr ?_
          rw [if_neg hc, (bne_iff_ne (a := c1 x y) (b := 0)).2 hc, cond_true]
      · have e : decide ((b.length : Int) ≤ (i : Int)) = true := decide_eq_true (by omega)
        refine .inr ?_
        simp only [ex, drop_end (show b.length ≤ i by omega), cfR]
        rw [e, cond_true]
    · have hi' : i = a.length := by omega
      subst hi'
      refine .inr ?_
      rw [lt_f, cond_false]
      simp only [drop_end (Nat.le_refl a.length), cfR]), Option.bind_some]
  simp only [List.drop_zero]
  have h := cfR_cmp a b
  cases hc : cfR a b with
  | inl v => rw [hc] at h; simp only at h ⊢; rw [← h]; rfl
  | inr u =>
    rw [hc] at h
    simp only at h ⊢
    rw [← h]
    by_cases hl : a.length < b.length
    · rw [if_pos hl, decide_eq_true (by omega : (a.length : Int) < (b.length : Int))]; rfl
    · rw [if_neg hl, decide_eq_false (by omega : ¬ (a.length : Int) < (b.length : Int))]; rfl
theorem rcompare_ok {a b : List St} (ha : (a.length : Int) ≤ 140737488355328) : m_centoref31_Compare a b = some (cmpL a b) := by
  unfold m_centoref31_Compare
  rw [loop_idx a.length _ (fun i => crR (a.drop i) (b.drop i)) ha (fun i hi => by
    unfold m_centoref31_Compare_L0
    by_cases h : i < a.length
    · obtain ⟨x, hx, ex⟩ := drop_at h
      rw [lt_t h, cond_true]
      by_cases hb : i < b.length
      · obtain ⟨y, hy, ey⟩ := drop_at hb
        rw [lt_t hb, cond_true, getI_of hx, getI_of hy]
        simp only [Option.bind_some, ex, ey, crR]
        by_cases hk : x.Kind = y.Kind
        · have e1 : (x.Kind != y.Kind) = false := by rw [hk]; simp
          rw [e1, cond_false]
          by_cases hA : x.At = y.At
          · have e2 : (x.At != y.At) = false := by rw [hA]; simp
            rw [e2, cond_false]
            refine .inl ⟨h, rfl, ?_⟩
            rw [if_pos (c1_zero.2 ⟨hk, hA⟩)]
          · rw [(bne_iff_ne (a := x.At) (b := y.At)).2 hA, cond_true]
            refine .inr ?_
            by_cases h1 : x.At < y.At
            · have hv : c1 x y = -1 := by unfold c1; rw [if_neg (by omega), if_neg (by omega), if_pos h1]
              rw [decide_eq_true h1, hv]; rfl
            · have hv : c1 x y = 1 := by unfold c1; rw [if_neg (by omega), if_neg (by omega), if_neg h1, if_pos (by omega)]
              rw [decide_eq_false h1, hv]; rfl
        · rw [(bne_iff_ne (a := x.Kind) (b := y.Kind)).2 hk, cond_true]
          refine .inr ?_
          by_cases h1 : x.Kind < y.Kind
          · have hv : c1 x y = -1 := by unfold c1; rw [if_pos h1]
            rw [decide_eq_true h1, hv]; rfl
          · have hv : c1 x y = 1 := by unfold c1; rw [if_neg h1, if_pos (by omega)]
            rw [decide_eq_false h1, hv]; rfl
      · have e : decide ((i : Int) < (b.length : Int)) = false := decide_eq_false (by omega)
        rw [e, cond_false]
        refine .inr ?_
        simp only [ex, drop_end (show b.length ≤ i by omega), crR]
    · have hi' : i = a.length := by omega
      subst hi'
      refine .inr ?_
      rw [lt_f, cond_false, cond_false]
      simp only [drop_end (Nat.le_refl a.length), crR]), Option.bind_some]
  simp only [List.drop_zero]
  have h := crR_cmp a b
  cases hc : crR a b with
  | inl v => rw [hc] at h; simp only at h ⊢; rw [← h]
  | inr u =>
    rw [hc] at h
    simp only at h ⊢
    rw [← h]
    by_cases he : a.length = b.length
    · rw [if_pos he, he]; simp
    · have e1 : ((a.length : Int) == (b.length : Int)) = false := by rw [beq_eq_false_iff_ne]; omega
      rw [if_neg he, e1, cond_false]
      by_cases hl : a.length < b.length
      · rw [if_pos hl, decide_eq_true (by omega : (a.length : Int) < (b.length : Int))]; rfl
      · rw [if_neg hl, decide_eq_false (by omega : ¬ (a.length : Int) < (b.length : Int))]; rfl
theorem seqL_len : ∀ {a b : List St}, a.length ≠ b.length → seqL a b = false
  | [], [], h => by simp at h
  | [], _ :: _, _ => rfl
  | _ :: _, [], _ => rfl
  | x :: xs, y :: ys, h => by rw [seqL, seqL_len (by simpa using h), Bool.and_false]
def seqR : List St → List St → Unit ⊕ Unit
  | x :: xs, y :: ys => if stEq x y = true then seqR xs ys else .inl ()
  | _, _ => .inr ()
theorem seqR_eq : ∀ {a b : List St}, a.length = b.length → seqR a b = if seqL a b = true then .inr () else .inl ()
  | [], [], _ => rfl
  | [], _ :: _, h => by simp at h
  | _ :: _, [], h => by simp at h
  | x :: xs, y :: ys, h => by
    rw [seqR, seqL, seqR_eq (by simpa using h)]
    cases stEq x y <;> simp
theorem rsame_ok {a b : List St} (ha : (a.length : Int) ≤ 140737488355328) : m_centoref31_Same a b = some (seqL a b) := by
  unfold m_centoref31_Same
  rw [len_ne]
  by_cases hl : a.length = b.length
  · have e : (!(a.length == b.length)) = false := by rw [hl]; simp
    rw [e, cond_false]
    rw [loop_idx a.length _ (fun i => seqR (a.drop i) (b.drop i)) ha (fun i hi => by
      unfold m_centoref31_Same_L0
      by_cases h : i < a.length
      · obtain ⟨x, hx, ex⟩ := drop_at h
        obtain ⟨y, hy, ey⟩ := drop_at (show i < b.length by omega)
        rw [lt_t h, cond_true, getI_of hx, Option.bind_some, getI_of hy, Option.bind_some]
        simp only [ex, ey, seqR]
        show (_ ∧ cond (!(stEq x y)) _ _ = _ ∧ _) ∨ cond (!(stEq x y)) _ _ = _
        cases hs : stEq x y with
        | true => exact .inl ⟨h, rfl, by rw [if_pos rfl]⟩
        | false => exact .inr rfl
      · have hi' : i = a.length := by omega
        subst hi'
        refine .inr ?_
        rw [lt_f, cond_false]
        simp only [drop_end (Nat.le_refl a.length), seqR]), Option.bind_some]
    simp only [List.drop_zero]
    rw [seqR_eq hl]
    cases seqL a b <;> rfl
  · have e : (!(a.length == b.length)) = true := by simp [hl]
    rw [e, cond_true, seqL_len hl]
/-- one step of a path -/
def stp (t : Tr) (s : St) : Option Tr :=
  if s.Kind = 0 ∧ t.Kind = 1 ∧ 0 ≤ s.At ∧ s.At ≤ 65534 then some ((t.Kids[s.At.toNat]?).getD ⟨0, [], []⟩)
  else if s.Kind = 0 ∧ (2 ≤ t.Kind ∧ t.Kind ≤ 9) ∧ 0 ≤ s.At ∧ s.At < t.Kids.length then t.Kids[s.At.toNat]?
  else if s.Kind = 1 ∧ t.Kind = 1 ∧ 0 ≤ s.At ∧ s.At ≤ 65534 then some ⟨1, [(t.Words[s.At.toNat]?).getD 0], []⟩
  else if s.Kind = 2 ∧ (2 ≤ t.Kind ∧ t.Kind ≤ 9) ∧ 0 ≤ s.At ∧ s.At ≤ t.Kids.length then some ⟨t.Kind, [], []⟩
  else none
def getS : Tr → List St → Option Tr
  | t, [] => some t
  | t, s :: l => match stp t s with
    | none => none
    | some u => if s.Kind ≠ 0 ∧ l ≠ [] then none else getS u l
def getR (o : Option Tr) : Tr × Bool := match o with
  | none => (⟨0, [], []⟩, false)
  | some u => (nrm u, true)
theorem kid_at {t : Tr} {i : Int} (h0 : 0 ≤ i) : m_tree_Kid t i = some ((t.Kids[i.toNat]?).getD ⟨0, [], []⟩) := by
  unfold m_tree_Kid
  rw [decide_eq_false (by omega : ¬ i < 0), cond_false]
  by_cases h : (t.Kids.length : Int) ≤ i
  · rw [decide_eq_true h, cond_true, List.getElem?_eq_none (by omega)]; rfl
  · have hx : t.Kids[i.toNat]? = some t.Kids[i.toNat] := List.getElem?_eq_getElem (by omega)
    have hg := getI_of hx
    rw [Int.toNat_of_nonneg h0] at hg
    rw [decide_eq_false h, cond_false, hg, hx]; rfl
theorem word_at {t : Tr} {i : Int} (h0 : 0 ≤ i) : m_tree_Word t i = some ((t.Words[i.toNat]?).getD 0) := by
  unfold m_tree_Word
  rw [decide_eq_false (by omega : ¬ i < 0), cond_false]
  by_cases h : (t.Words.length : Int) ≤ i
  · rw [decide_eq_true h, cond_true, List.getElem?_eq_none (by omega)]; rfl
  · have hx : t.Words[i.toNat]? = some t.Words[i.toNat] := List.getElem?_eq_getElem (by omega)
    have hg := getI_of hx
    rw [Int.toNat_of_nonneg h0] at hg
    rw [decide_eq_false h, cond_false, hg, hx]; rfl
theorem getI_int {α : Type} {xs : List α} {i : Int} (h0 : 0 ≤ i) (h : i < xs.length) : ∃ x, getI xs i = some x ∧ xs[i.toNat]? = some x := by
  have hx : xs[i.toNat]? = some xs[i.toNat] := List.getElem?_eq_getElem (by omega)
  have hg := getI_of hx
  rw [Int.toNat_of_nonneg h0] at hg
  exact ⟨_, hg, hx⟩
theorem step_ok (t : Tr) (s : St) : m_path_step t s = some (match stp t s with | none => (⟨0, [], []⟩, false) | some u => (u, true)) := by
  unfold m_path_step stp
  rw [list_ok, Option.bind_some]
  by_cases k0 : s.Kind = 0
  · have e0 : (s.Kind == 0) = true := by rw [k0]; rfl
    have e1 : (s.Kind == 1) = false := by rw [k0]; rfl
    have e2 : (s.Kind == 2) = false := by rw [k0]; rfl
    rw [e0, e1, e2]
    by_cases t1 : t.Kind = 1
    · have f1 : (t.Kind == 1) = true := by rw [t1]; rfl
      have f2 : (decide (2 ≤ t.Kind) && decide (t.Kind ≤ 9)) = false := by rw [t1]; rfl
      rw [f1, f2]
      by_cases hA : 0 ≤ s.At ∧ s.At ≤ 65534
      · rw [if_pos ⟨k0, t1, hA⟩, decide_eq_true hA.1, decide_eq_true hA.2, kid_at hA.1]; rfl
      · have : (cond (cond true (decide (0 ≤ s.At)) false) (decide (s.At ≤ 65534)) false) = false := by
          by_cases h : 0 ≤ s.At
          · rw [decide_eq_true h, decide_eq_false (by omega : ¬ s.At ≤ 65534)]; rfl
          · rw [decide_eq_false h]; rfl
        rw [this, if_neg (by omega), if_neg (by omega), if_neg (by omega), if_neg (by omega)]; rfl
    · have f1 : (t.Kind == 1) = false := by rw [beq_eq_false_iff_ne]; exact t1
      rw [f1]
      by_cases hL : 2 ≤ t.Kind ∧ t.Kind ≤ 9
      · rw [decide_eq_true hL.1, decide_eq_true hL.2]
        by_cases hA : 0 ≤ s.At ∧ s.At < t.Kids.length
        · obtain ⟨x, h1, h2⟩ := getI_int hA.1 hA.2
          rw [if_neg (by omega), if_pos ⟨k0, hL, hA⟩, decide_eq_true hA.1, decide_eq_true (by omega : s.At ≤ (t.Kids.length : Int)), decide_eq_true hA.2, h1, h2]; rfl
        · rw [if_neg (by omega), if_neg (by omega), if_neg (by omega), if_neg (by omega)]
          by_cases h : 0 ≤ s.At
          · rw [decide_eq_true h, decide_eq_false (by omega : ¬ s.At < (t.Kids.length : Int))]
            by_cases h3 : s.At ≤ (t.Kids.length : Int)
            · rw [decide_eq_true h3]; rfl
            · rw [decide_eq_false h3]; rfl
          · rw [decide_eq_false h]; rfl
      · have f2 : (decide (2 ≤ t.Kind) && decide (t.Kind ≤ 9)) = false := by rw [Bool.and_eq_false_iff, decide_eq_false_iff_not, decide_eq_false_iff_not]; omega
        rw [f2, if_neg (by omega), if_neg (by omega), if_neg (by omega), if_neg (by omega)]; rfl
  have e0 : (s.Kind == 0) = false := by rw [beq_eq_false_iff_ne]; exact k0
  rw [e0, if_neg (by omega), if_neg (by omega)]
  by_cases k1 : s.Kind = 1
  · have e1 : (s.Kind == 1) = true := by rw [k1]; rfl
    have e2 : (s.Kind == 2) = false := by rw [k1]; rfl
    rw [e1, e2]
    by_cases hA : t.Kind = 1 ∧ 0 ≤ s.At ∧ s.At ≤ 65534
    · have f1 : (t.Kind == 1) = true := by rw [hA.1]; rfl
      rw [if_pos ⟨k1, hA⟩, f1, decide_eq_true hA.2.1, decide_eq_true hA.2.2, word_at hA.2.1]; rfl
    · rw [if_neg (by omega), if_neg (by omega)]
      have : (cond (cond (t.Kind == 1) (decide (0 ≤ s.At)) false) (decide (s.At ≤ 65534)) false) = false := by
        by_cases h : t.Kind = 1
        · by_cases h2 : 0 ≤ s.At
          · rw [decide_eq_false (by omega : ¬ s.At ≤ 65534)]; cases t.Kind == 1 <;> cases decide (0 ≤ s.At) <;> rfl
          · rw [decide_eq_false h2]; cases t.Kind == 1 <;> rfl
        · rw [beq_eq_false_iff_ne.2 h]; rfl
      rw [this]; rfl
  have e1 : (s.Kind == 1) = false := by rw [beq_eq_false_iff_ne]; exact k1
  rw [e1, if_neg (by omega)]
  by_cases k2 : s.Kind = 2
  · have e2 : (s.Kind == 2) = true := by rw [k2]; rfl
    rw [e2]
    by_cases hA : (2 ≤ t.Kind ∧ t.Kind ≤ 9) ∧ 0 ≤ s.At ∧ s.At ≤ t.Kids.length
    · rw [if_pos ⟨k2, hA⟩, decide_eq_true hA.1.1, decide_eq_true hA.1.2, decide_eq_true hA.2.1, decide_eq_true hA.2.2]; rfl
    · rw [if_neg (by omega)]
      have : (cond (cond (decide (2 ≤ t.Kind) && decide (t.Kind ≤ 9)) (decide (0 ≤ s.At)) false) (decide (s.At ≤ (t.Kids.length : Int))) false) = false := by
        by_cases h : 2 ≤ t.Kind ∧ t.Kind ≤ 9
        · by_cases h2 : 0 ≤ s.At
          · rw [decide_eq_false (by omega : ¬ s.At ≤ (t.Kids.length : Int))]; cases (decide (2 ≤ t.Kind) && decide (t.Kind ≤ 9)) <;> cases decide (0 ≤ s.At) <;> rfl
          · rw [decide_eq_false h2]; cases (decide (2 ≤ t.Kind) && decide (t.Kind ≤ 9)) <;> rfl
        · have : (decide (2 ≤ t.Kind) && decide (t.Kind ≤ 9)) = false := by rw [Bool.and_eq_false_iff, decide_eq_false_iff_not, decide_eq_false_iff_not]; omega
          rw [this]; rfl
      rw [this]; rfl
  · rw [beq_eq_false_iff_ne.2 k2, if_neg (by omega)]; rfl

end Go.Proofs.Ytbcgiaijjaocdaa
