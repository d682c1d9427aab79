/- Plain facts on this seat's mirrors (part WP1); each theorem bears its own conditions. -/
import Derived.Test.YtbcgiaijjaocdaaWD
import Derived.Test.YtbcgiaijjaocdaaWE
import Derived.IntWalk
namespace Go.Proofs.Ytbcgiaijjaocdaa
open Go.RowKit
set_option linter.unusedVariables false
set_option linter.unusedSimpArgs false
abbrev Tr := S_api_Tree
theorem i64s {x : Int} (h1 : -9223372036854775808 ≤ x) (h2 : x ≤ 9223372036854775807) : IntKind.i64.wrap x = x := i64w ⟨h1, h2⟩
/-- what an index counts up to -/
theorem kid_lt {t x : Tr} (h : x ∈ t.Kids) : SizeOf.sizeOf x < SizeOf.sizeOf t := by
  obtain ⟨k, w, ks⟩ := t
  have := List.sizeOf_lt_of_mem h
  simp only [S_api_Tree.mk.sizeOf_spec]
  simp only at this
  omega
/-- rounds over a list's kids with an index alone -/
theorem loop_any {α R : Type} (xs : List α) (step : Int → Option (Int ⊕ R)) (p : α → Bool) (e o : R) (hl : (xs.length : Int) ≤ 140737488355328)
    (h1 : ∀ (i : Nat) (x : α), i < xs.length → xs[i]? = some x → x ∈ xs → step i = some (if p x = true then .inr e else .inl (IntKind.i64.wrap ((i : Int) + 1)))) (h2 : step xs.length = some (.inr o)) : runLoop step 0 = some (if xs.any p = true then e else o) := by
  have hloop := loop_each xs (fun i (_ : Unit) => i) step (fun _ x => some (if p x = true then .inr e else .inl ())) (fun _ => o) (fun i s x hi hx => by
    rw [h1 i x hi hx (List.mem_of_getElem? hx), i64s (by omega) (by omega)]
    cases p x <;> rfl) (fun _ => h2) ()
  refine hloop.trans ?_
  rw [foldE_find p (fun s _ => s) e (fun _ _ => True) xs.length xs () 0 (by omega) trivial (fun s k x _ _ _ => ⟨by cases p x <;> rfl, fun _ => trivial⟩)]
theorem lt_t {i n : Nat} (h : i < n) : decide ((i : Int) < (n : Int)) = true := by rw [decide_eq_true_eq]; omega
theorem lt_f {n : Nat} : decide ((n : Int) < (n : Int)) = false := by rw [decide_eq_false_iff_not]; omega
/-- without such as are of a kind, at the end -/
def tr {α : Type} (p : α → Bool) : List α → List α
  | [] => []
  | x :: xs => match tr p xs with
    | [] => if p x = true then [] else [x]
    | y :: ys => x :: y :: ys
def trN {α : Type} (p : α → Bool) (l : List α) : Nat → Nat
  | 0 => 0
  | n + 1 => match l[n]? with
    | some x => if p x = true then trN p l n else n + 1
    | none => 0
theorem tr_append_t {α : Type} {p : α → Bool} {x : α} (h : p x = true) : ∀ l : List α, tr p (l ++ [x]) = tr p l
  | [] => by simp [tr, h]
  | y :: l => by simp only [List.cons_append, tr, tr_append_t h l]
theorem tr_append_f {α : Type} {p : α → Bool} {x : α} (h : p x = false) : ∀ l : List α, tr p (l ++ [x]) = l ++ [x]
  | [] => by simp [tr, h]
  | y :: l => by
    simp only [List.cons_append, tr, tr_append_f h l]
    cases hl : l ++ [x] with
    | nil => simp at hl
    | cons a b => rfl
theorem trN_tr {α : Type} {p : α → Bool} {l : List α} : ∀ n, n ≤ l.length → l.take (trN p l n) = tr p (l.take n) ∧ trN p l n ≤ n
  | 0, _ => by simp [trN, tr]
  | n + 1, h => by
    have hn : l[n]? = some l[n] := List.getElem?_eq_getElem (by omega)
    have e : l.take (n + 1) = l.take n ++ [l[n]] := by rw [List.take_add_one, hn]; rfl
    obtain ⟨h1, h2⟩ := trN_tr (p := p) (l := l) n (by omega)
    unfold trN
    rw [hn]
    simp only
    split
    · rename_i hp
      rw [e, tr_append_t hp]
      exact ⟨h1, by omega⟩
    · rename_i hp
      rw [e, tr_append_f (by simpa using hp), ← e]
      exact ⟨rfl, Nat.le_refl _⟩
theorem tr_len {α : Type} (p : α → Bool) : ∀ l : List α, (tr p l).length ≤ l.length
  | [] => by simp [tr]
  | x :: l => by
    have := tr_len p l
    simp only [tr]
    split
    · split <;> simp
    · rename_i y ys he
      rw [he] at this
      simp at this ⊢
      omega
theorem tr_mem {α : Type} {p : α → Bool} {x : α} : ∀ {l : List α}, x ∈ tr p l → x ∈ l
  | [], h => by simp [tr] at h
  | y :: l, h => by
    simp only [tr] at h
    split at h
    · split at h
      · simp at h
      · simp at h; simp [h]
    · rename_i z zs he
      rw [← he] at h
      rcases List.mem_cons.1 h with h | h
      · simp [h]
      · exact List.mem_cons_of_mem _ (tr_mem h)
theorem tr_tr {α : Type} {p : α → Bool} : ∀ l : List α, tr p (tr p l) = tr p l
  | [] => rfl
  | x :: l => by
    have ih := tr_tr (p := p) l
    simp only [tr]
    cases h : tr p l with
    | nil =>
      simp only
      cases hx : p x <;> simp [tr, hx]
    | cons y ys =>
      rw [h] at ih
      simp only [tr] at ih ⊢
      rw [ih]
theorem tr_map {α β : Type} {p : α → Bool} {q : β → Bool} {f : α → β} (h : ∀ x, q (f x) = p x) : ∀ l : List α, tr q (l.map f) = (tr p l).map f
  | [] => rfl
  | x :: l => by
    simp only [List.map_cons, tr, tr_map h l]
    cases tr p l with
    | nil => simp only [List.map_nil, h]; split <;> rfl
    | cons y ys => rfl
/-- the rounds that look for the end -/
theorem loop_tr {α : Type} (l : List α) (p : α → Bool) (step : Int → Option (Int ⊕ Int)) (hl : (l.length : Int) ≤ 140737488355328)
    (h0 : step 0 = some (.inr 0)) (h1 : ∀ (n : Nat) (x : α), l[n]? = some x → n < l.length → step ((n + 1 : Nat) : Int) = some (if p x = true then .inl (n : Int) else .inr ((n + 1 : Nat) : Int))) : runLoop step (l.length : Int) = some (trN p l l.length : Int) := by
  have key : ∀ n : Nat, n ≤ l.length → runLoop step (n : Int) = some (trN p l n : Int) := fun n => by
    induction n with
    | zero => intro _; exact runLoop_end h0
    | succ n ih =>
      intro hn
      have hx : l[n]? = some l[n] := List.getElem?_eq_getElem (by omega)
      have h := h1 n _ hx (by omega)
      unfold trN
      rw [hx]
      simp only
      split
      · rename_i hp
        rw [if_pos hp] at h
        rw [runLoop_step h]
        exact ih (by omega)
      · rename_i hp
        rw [if_neg hp] at h
        exact runLoop_end h
  exact key l.length (Nat.le_refl _)
theorem sub_take {α : Type} {l : List α} {n : Nat} (h : n ≤ l.length) : subI l 0 (n : Int) = some (l.take n) := by
  rw [subI_ok (by omega) (by omega) (by omega)]
  simp
theorem gt_t {n : Nat} : decide (0 < ((n + 1 : Nat) : Int)) = true := by rw [decide_eq_true_eq]; omega
/-- lengths and words as memory has them, all the way down -/
inductive Bd : Tr → Prop
  | mk (t : Tr) (h1 : t.Words.length * 8 ≤ 140737488355328) (h2 : t.Kids.length * 56 ≤ 140737488355328) (h3 : ∀ w ∈ t.Words, 0 ≤ w ∧ w < 18446744073709551616) (h4 : ∀ k ∈ t.Kids, Bd k) : Bd t
theorem Bd.w {t : Tr} (h : Bd t) : t.Words.length * 8 ≤ 140737488355328 := by cases h; assumption
theorem Bd.k {t : Tr} (h : Bd t) : t.Kids.length * 56 ≤ 140737488355328 := by cases h; assumption
theorem Bd.u {t : Tr} (h : Bd t) : ∀ w ∈ t.Words, 0 ≤ w ∧ w < 18446744073709551616 := by cases h; assumption
theorem Bd.all {t : Tr} (h : Bd t) : ∀ k ∈ t.Kids, Bd k := by cases h; assumption
/-- what means the same, without what is in vain -/
def nrm (t : Tr) : Tr :=
  if t.Kind = 0 then ⟨0, [], []⟩
  else if t.Kind = 1 then ⟨1, tr (fun x => x == 0) t.Words, tr (fun x => x.Kind == 0) (t.Kids.attach.map fun k => nrm k.1)⟩
  else ⟨t.Kind, t.Words, t.Kids.attach.map fun k => nrm k.1⟩
termination_by SizeOf.sizeOf t
decreasing_by all_goals exact kid_lt k.2
theorem nrm_eq (t : Tr) : nrm t = if t.Kind = 0 then ⟨0, [], []⟩ else if t.Kind = 1 then ⟨1, tr (fun x => x == 0) t.Words, tr (fun x => x.Kind == 0) (t.Kids.map nrm)⟩ else ⟨t.Kind, t.Words, t.Kids.map nrm⟩ := by
  rw [nrm]
  simp only [List.attach_map_val]
theorem nrm_kind (t : Tr) : (nrm t).Kind = t.Kind := by
  rw [nrm_eq]
  split
  · rename_i h; exact h.symm
  · split
    · rename_i h; exact h.symm
    · rfl

/-- how many parts a tree has -/
def pt (t : Tr) : Nat := 1 + t.Words.length + (t.Kids.attach.map fun k => pt k.1).sum
termination_by SizeOf.sizeOf t
decreasing_by exact kid_lt k.2
theorem pt_eq (t : Tr) : pt t = 1 + t.Words.length + (t.Kids.map pt).sum := by
  rw [pt]
  simp only [List.attach_map_val]
theorem shallow_lv : ∀ (k : Nat) (t : Tr) (d left : Int), Bd t → SizeOf.sizeOf t < k → 0 ≤ d → d ≤ 100 → 0 ≤ left → left ≤ 1000000 → ∃ r, lv_centoref07_Shallow k t d left = some r ∧ -1 ≤ r ∧ r ≤ 1000000 ∧ (0 ≤ r → r + pt t ≤ left)
  | 0, t, _, _, _, h, _, _, _, _ => by omega
  | k + 1, t, d, left, hb, hk, hd0, hd1, hl0, hl1 => by
    have ih : ∀ x ∈ t.Kids, ∀ d left : Int, 0 ≤ d → d ≤ 100 → 0 ≤ left → left ≤ 1000000 → ∃ r, lv_centoref07_Shallow k x d left = some r ∧ -1 ≤ r ∧ r ≤ 1000000 ∧ (0 ≤ r → r + pt x ≤ left) := fun x hx d left => shallow_lv k x d left (hb.all x hx) (by have := kid_lt hx; omega)
    have hw := hb.w
    have hkd := hb.k
    show ∃ r, b_centoref07_Shallow (lv_centoref07_Shallow k) t d left = some r ∧ _
    unfold b_centoref07_Shallow
    rw [i64s (x := left - 1) (by omega) (by omega), i64s (by omega) (by omega), pt_eq]
    cases hc : cond (d == 0) true (decide (left - 1 - (t.Words.length : Int) < 0)) with
    | true => exact ⟨-1, rfl, by omega, by omega, fun h => by omega⟩
    | false =>
      rw [cond_false]
      have hd : ¬ d = 0 ∧ 0 ≤ left - 1 - (t.Words.length : Int) := by
        by_cases h : d = 0
        · simp [h] at hc
        · have e : (d == 0) = false := by simp [h]
          rw [e, cond_false, decide_eq_false_iff_not] at hc
          exact ⟨h, by omega⟩
      obtain ⟨r, h1, h2⟩ := runLoop_rule (step := b_centoref07_Shallow_L0 (lv_centoref07_Shallow k) t d)
        (fun s => ∃ j : Nat, s.2 = j ∧ j ≤ t.Kids.length ∧ -1 ≤ s.1 ∧ s.1 ≤ 1000000 ∧ (0 ≤ s.1 → s.1 + (((t.Kids.take j).map pt).sum : Nat) ≤ left - 1 - (t.Words.length : Int)))
        (fun s => t.Kids.length - s.2.toNat) (fun r => -1 ≤ r ∧ r ≤ 1000000 ∧ (0 ≤ r → r + ((t.Kids.map pt).sum : Nat) ≤ left - 1 - (t.Words.length : Int))) (fun s hI => by
          obtain ⟨l, i⟩ := s
          obtain ⟨j, rfl, hj, g1, g2, g3⟩ := hI
          simp only at g1 g2 g3 ⊢
          unfold b_centoref07_Shallow_L0
          simp only
          by_cases hji : j < t.Kids.length
          · rw [lt_t hji, cond_true]
            by_cases hl : 0 ≤ l
            · have e : decide (0 ≤ l) = true := by simp [hl]
              have hx : t.Kids[j]? = some t.Kids[j] := List.getElem?_eq_getElem hji
              obtain ⟨r, q1, q2, q3, q4⟩ := ih t.Kids[j] (List.getElem_mem hji) (d - 1) l (by omega) (by omega) hl g2
              rw [e, cond_true, getI_of hx, Option.bind_some, i64s (by omega) (by omega), q1, Option.bind_some, i64s (by omega) (by omega)]
              refine .inl ⟨_, rfl, ⟨j + 1, by simp only; omega, by omega, q2, q3, fun hr => ?_⟩, by simp only; omega⟩
              have := q4 hr
              have := g3 hl
              rw [List.take_add_one, hx]
              simp only [Option.toList_some, List.map_append, List.map_cons, List.map_nil, List.sum_append, List.sum_cons, List.sum_nil]
              simp only at hr
              omega
            · have e : decide (0 ≤ l) = false := by simp [hl]
              rw [e, cond_false]
              exact .inr ⟨l, rfl, g1, g2, fun h => absurd h hl⟩
          · have hj' : j = t.Kids.length := by omega
            subst hj'
            rw [lt_f, cond_false]
            rw [List.take_length] at g3
            exact .inr ⟨l, rfl, g1, g2, g3⟩) (left - 1 - (t.Words.length : Int), 0) ⟨0, rfl, Nat.zero_le _, by simp only; omega, by simp only; omega, fun _ => by simp⟩
      rw [h1]
      refine ⟨r, rfl, h2.1, h2.2.1, fun hr => ?_⟩
      have := h2.2.2 hr
      omega
theorem getI_mem {α : Type} {xs : List α} {i : Int} {x : α} (h : getI xs i = some x) : x ∈ xs := List.mem_of_getElem? (getI_get h)
theorem shallow_same : ∀ (k k' : Nat) (t : Tr) (d left : Int), SizeOf.sizeOf t < k → SizeOf.sizeOf t < k' → lv_centoref07_Shallow k t d left = lv_centoref07_Shallow k' t d left
  | 0, _, t, _, _, h, _ => by omega
  | k + 1, 0, t, _, _, _, h => by omega
  | k + 1, k' + 1, t, d, left, h, h' => by
    show b_centoref07_Shallow (lv_centoref07_Shallow k) t d left = b_centoref07_Shallow (lv_centoref07_Shallow k') t d left
    have e : b_centoref07_Shallow_L0 (lv_centoref07_Shallow k) t d = b_centoref07_Shallow_L0 (lv_centoref07_Shallow k') t d := funext fun s => by
      unfold b_centoref07_Shallow_L0
      cases hx : getI t.Kids s.2 with
      | none => rfl
      | some x => simp only [Option.bind_some, shallow_same k k' x (IntKind.i64.wrap (d - 1)) s.1 (by have := kid_lt (getI_mem hx); omega) (by have := kid_lt (getI_mem hx); omega)]
    unfold b_centoref07_Shallow
    rw [e]
theorem shal_ok {t : Tr} (h : Bd t) {left : Int} (h0 : 0 ≤ left) (h1 : left ≤ 1000000) : ∃ r, m_centoref07_Shallow t 80 left = some r ∧ -1 ≤ r ∧ r ≤ 1000000 ∧ (0 ≤ r → r + pt t ≤ left) := by
  obtain ⟨r, h2, h3⟩ := shallow_lv (SizeOf.sizeOf t + 1) t 80 left h (by omega) (by omega) (by omega) h0 h1
  exact ⟨r, lim_eq (SizeOf.sizeOf t + 1) fun k hk => by rw [shallow_same k (SizeOf.sizeOf t + 1) t 80 left (by omega) (by omega)]; exact h2, h3⟩
def wid (c : Int) : Nat := if c = 0 then 0 else if c = 1 then 1 else if c = 2 then 8 else if c = 3 then 16 else if c = 4 then 32 else 64
def fitsP (c w : Int) : Bool := decide (w < 2 ^ wid c)
theorem code_cases {c : Int} (h0 : 0 ≤ c) (h1 : c ≤ 5) : c = 0 ∨ c = 1 ∨ c = 2 ∨ c = 3 ∨ c = 4 ∨ c = 5 := by omega
theorem rfits_loop (n : Nat) (hn : n ≤ 64) (w : Int) (h0 : 0 ≤ w) (h1 : w < 18446744073709551616) : runLoop (m_centoref01_Fits_L0 (n : Int)) (w, 0) = some (w / 2 ^ n) := by
  have key : ∀ m i : Nat, i + m = n → runLoop (m_centoref01_Fits_L0 (n : Int)) (w / 2 ^ i, (i : Int)) = some (w / 2 ^ n) := fun m => by
    induction m with
    | zero =>
      intro i hi
      have : i = n := by omega
      subst this
      refine runLoop_end ?_
      unfold m_centoref01_Fits_L0
      simp only
      rw [lt_f, cond_false]
    | succ m ih =>
      intro i hi
      have hp : (0 : Int) < 2 ^ i := Int.pow_pos (by decide)
      have q0 : 0 ≤ w / 2 ^ i := Int.ediv_nonneg h0 (Int.le_of_lt hp)
      have q1 : w / 2 ^ i ≤ w := Int.ediv_le_self _ h0
      have hs : m_centoref01_Fits_L0 (n : Int) (w / 2 ^ i, (i : Int)) = some (.inl (w / 2 ^ (i + 1), ((i + 1 : Nat) : Int))) := by
        unfold m_centoref01_Fits_L0
        simp only
        rw [lt_t (by omega), cond_true, i64s (by omega) (by omega), Int.tdiv_eq_ediv_of_nonneg q0]
        have e : w / 2 ^ i / 2 = w / 2 ^ (i + 1) := by rw [Int.ediv_ediv_of_nonneg (Int.le_of_lt hp), Int.pow_succ]
        have q2 : 0 ≤ w / 2 ^ i / 2 := Int.ediv_nonneg q0 (by decide)
        have q3 : w / 2 ^ i / 2 ≤ w / 2 ^ i := Int.ediv_le_self _ q0
        have e3 : IntKind.u64.wrap (w / 2 ^ i / 2) = w / 2 ^ i / 2 := by
          exact u64w ⟨q2, by omega⟩
        rw [e3, e]
        rfl
      rw [runLoop_step hs]
      exact ih (i + 1) (by omega)
  have := key n 0 (by omega)
  simpa using this
theorem rfits_ok {c w : Int} (h0 : 0 ≤ c) (h1 : c ≤ 5) (hw : 0 ≤ w) (hw' : w < 18446744073709551616) : m_centoref01_Fits c w = some (fitsP c w) := by
  have e : ∀ n : Nat, n ≤ 64 → (cond (decide ((n : Int) < 0)) (some false) ((runLoop (m_centoref01_Fits_L0 (n : Int)) (w, 0)).bind fun (z4 : Int) => some (z4 == 0))) = some (decide (w < 2 ^ n)) := fun n hn => by
    have : decide ((n : Int) < 0) = false := by rw [decide_eq_false_iff_not]; omega
    have hp : (0 : Int) < 2 ^ n := Int.pow_pos (by decide)
    rw [this, cond_false, rfits_loop n hn w hw hw', Option.bind_some]
    congr 1
    rw [Bool.eq_iff_iff, beq_iff_eq, decide_eq_true_eq]
    constructor
    · intro h
      rcases Int.lt_or_le w (2 ^ n) with h2 | h2
      · exact h2
      · have := Int.ediv_le_ediv hp h2
        rw [Int.ediv_self (Int.ne_of_gt hp)] at this
        omega
    · intro h; exact Int.ediv_eq_zero_of_lt hw h
  unfold m_centoref01_Fits fitsP
  rcases code_cases h0 h1 with rfl | rfl | rfl | rfl | rfl | rfl
  · exact e 0 (by decide)
  · exact e 1 (by decide)
  · exact e 8 (by decide)
  · exact e 16 (by decide)
  · exact e 32 (by decide)
  · exact e 64 (by decide)
/-- may a kid stand in a tree of a kind? -/
def okk (kind : Int) (k : Tr) : Bool := if 2 ≤ kind ∧ kind ≤ 7 then k.Kind == 10 && fitsP (kind - 2) (k.Words.headD 0) else k.Kind != 10 && (kind != 9 || k.Kind == 1)
/-- may a tree be? -/
def rt (t : Tr) (d : Nat) : Bool :=
  if t.Kind = 0 then t.Words.length == 0 && t.Kids.length == 0
  else if t.Kind = 10 then t.Words.length == 1 && t.Kids.length == 0
  else if t.Kind < 0 ∨ 10 < t.Kind ∨ d = 0 ∨ 65536 ≤ t.Words.length ∨ (t.Kind = 1 ∧ 65536 ≤ t.Kids.length) ∨ 1048576 ≤ t.Kids.length ∨ (1 < t.Kind ∧ 0 < t.Words.length) then false
  else (t.Kids.attach.map fun k => rt k.1 (d - 1) && okk t.Kind k.1).all id
termination_by SizeOf.sizeOf t
decreasing_by exact kid_lt k.2
theorem rt_eq (t : Tr) (d : Nat) : rt t d = if t.Kind = 0 then t.Words.length == 0 && t.Kids.length == 0
  else if t.Kind = 10 then t.Words.length == 1 && t.Kids.length == 0
  else if t.Kind < 0 ∨ 10 < t.Kind ∨ d = 0 ∨ 65536 ≤ t.Words.length ∨ (t.Kind = 1 ∧ 65536 ≤ t.Kids.length) ∨ 1048576 ≤ t.Kids.length ∨ (1 < t.Kind ∧ 0 < t.Words.length) then false
  else t.Kids.all fun k => rt k (d - 1) && okk t.Kind k := by
  rw [rt]
  have : (t.Kids.attach.map fun k => rt k.1 (d - 1) && okk t.Kind k.1) = t.Kids.map fun k => rt k (d - 1) && okk t.Kind k := List.attach_map_val (f := fun k => rt k (d - 1) && okk t.Kind k)
  rw [this, List.all_map]
  rfl
theorem rt_atom {t : Tr} (h : t.Kind = 10) (d d' : Nat) : rt t d = rt t d' := by
  have h0 : ¬ t.Kind = 0 := by rw [h]; decide
  rw [rt_eq t d, rt_eq t d']
  simp only [if_neg h0, if_pos h]
theorem rt_atom_w {t : Tr} (h : t.Kind = 10) {d : Nat} (hr : rt t d = true) : ∃ w, t.Words = [w] := by
  rw [rt_eq, if_neg (by omega), if_pos h, Bool.and_eq_true, beq_iff_eq] at hr
  obtain ⟨k, w, ks⟩ := t
  obtain ⟨h1, _⟩ := hr
  simp only at h1 ⊢
  exact List.length_eq_one_iff.1 h1
theorem len0 {n : Nat} : ((n : Int) == 0) = (n == 0) := by rw [Bool.eq_iff_iff, beq_iff_eq, beq_iff_eq]; omega
theorem len1 {n : Nat} : ((n : Int) == 1) = (n == 1) := by rw [Bool.eq_iff_iff, beq_iff_eq, beq_iff_eq]; omega
theorem cond_and (a b : Bool) : cond a b false = (a && b) := by cases a <;> rfl
theorem all_any {α : Type} (p : α → Bool) : ∀ l : List α, l.any (fun x => !p x) = !(l.all p)
  | [] => rfl
  | x :: l => by rw [List.any_cons, List.all_cons, all_any p l]; cases p x <;> rfl
theorem loop_all {α R : Type} (xs : List α) (step : Int → Option (Int ⊕ R)) (p : α → Bool) (e o : R) (hl : (xs.length : Int) ≤ 140737488355328)
    (h1 : ∀ (i : Nat) (x : α), i < xs.length → xs[i]? = some x → x ∈ xs → step i = some (if p x = true then .inl (IntKind.i64.wrap ((i : Int) + 1)) else .inr e)) (h2 : step xs.length = some (.inr o)) : runLoop step 0 = some (if xs.all p = true then o else e) := by
  rw [loop_any xs step (fun x => !p x) e o hl (fun i x hi hx hm => by rw [h1 i x hi hx hm]; cases p x <;> rfl) h2, all_any]
  cases xs.all p <;> rfl
theorem rright_lv : ∀ (k : Nat) (t : Tr) (d : Nat), Bd t → SizeOf.sizeOf t < k → d ≤ 64 → lv_centoref07_Right k t (d : Int) = some (rt t d)
  | 0, t, d, _, h, _ => by omega
  | k + 1, t, d, hb, hk, hd => by
    have hkd := hb.k
    show b_centoref07_Right (lv_centoref07_Right k) t (d : Int) = _
    unfold b_centoref07_Right
    rw [rt_eq, len0, len1]
    by_cases h0 : t.Kind = 0
    · rw [if_pos h0, h0]
      simp only [len0, cond_and]
      rfl
    have e0 : (t.Kind == 0) = false := by simp [h0]
    rw [if_neg h0, e0, cond_false]
    by_cases h10 : t.Kind = 10
    · rw [if_pos h10, h10]
      simp only [len0, cond_and]
      rfl
    have e10 : (t.Kind == 10) = false := by simp [h10]
    rw [if_neg h10, e10, cond_false]
    by_cases hbad : t.Kind < 0 ∨ 10 < t.Kind ∨ d = 0 ∨ 65536 ≤ t.Words.length ∨ (t.Kind = 1 ∧ 65536 ≤ t.Kids.length) ∨ 1048576 ≤ t.Kids.length ∨ (1 < t.Kind ∧ 0 < t.Words.length)
    · rw [if_pos hbad]
      have hc : ∀ c1 c2 c3 c4 c5 c6 c7 c8 : Bool, (c1 = true ∨ c2 = true ∨ c3 = true ∨ c4 = true ∨ (c5 = true ∧ c6 = true) ∨ c7 = true ∨ c8 = true) → ∀ X : Option Bool,
          cond (cond (cond (cond (cond (cond c1 true c2) true c3) true c4) true (cond c5 c6 false)) true c7) (some false) (cond c8 (some false) X) = some false := by
        intro c1 c2 c3 c4 c5 c6 c7 c8 h X
        cases c1 <;> cases c2 <;> cases c3 <;> cases c4 <;> cases c5 <;> cases c6 <;> cases c7 <;> cases c8 <;> first | rfl | (simp at h; done)
      refine hc _ _ _ _ _ _ _ _ ?_ _
      simp only [decide_eq_true_eq, beq_iff_eq, cond_and, Bool.and_eq_true]
      omega
    · rw [if_neg hbad]
      have hg : ¬ t.Kind < 0 ∧ ¬ 10 < t.Kind ∧ ¬ d = 0 ∧ ¬ 65536 ≤ t.Words.length ∧ ¬ (t.Kind = 1 ∧ 65536 ≤ t.Kids.length) ∧ ¬ 1048576 ≤ t.Kids.length ∧ ¬ (1 < t.Kind ∧ 0 < t.Words.length) := by omega
      have hc : ∀ c1 c2 c3 c4 c5 c7 c8 : Bool, c1 = false → c2 = false → c3 = false → c4 = false → c5 = false → c7 = false → c8 = false → ∀ X : Option Bool,
          cond (cond (cond (cond (cond (cond c1 true c2) true c3) true c4) true c5) true c7) (some false) (cond c8 (some false) X) = X := by
        intro c1 c2 c3 c4 c5 c7 c8 h1 h2 h3 h4 h5 h7 h8 X
        subst h1 h2 h3 h4 h5 h7 h8
        rfl
      rw [hc _ _ _ _ _ _ _ (decide_eq_false hg.1) (decide_eq_false hg.2.1) (by rw [beq_eq_false_iff_ne]; omega) (by rw [decide_eq_false_iff_not]; omega) (by rw [cond_and, Bool.and_eq_false_iff, beq_eq_false_iff_ne, decide_eq_false_iff_not]; omega) (by rw [decide_eq_false_iff_not]; omega) (by rw [cond_and, Bool.and_eq_false_iff, decide_eq_false_iff_not, decide_eq_false_iff_not]; omega)]
      obtain ⟨d', rfl⟩ : ∃ d', d = d' + 1 := ⟨d - 1, by omega⟩
      have ih : ∀ x ∈ t.Kids, lv_centoref07_Right k x (d' : Int) = some (rt x d') := fun x hx => rright_lv k x d' (hb.all x hx) (by have := kid_lt hx; omega) (by omega)
      rw [loop_all t.Kids (b_centoref07_Right_L0 (lv_centoref07_Right k) t ((d' + 1 : Nat) : Int)) (fun x => rt x d' && okk t.Kind x) (.inl ()) (.inr ()) (by omega) (fun i x hi hx hm => by
        unfold b_centoref07_Right_L0
        have ed : ((d' + 1 : Nat) : Int) - 1 = (d' : Int) := by omega
        rw [lt_t hi, cond_true, getI_of hx, Option.bind_some, i64s (x := ((d' + 1 : Nat) : Int) - 1) (by omega) (by omega), ed, ih x hm, Option.bind_some]
        cases hr : rt x d' with
        | false => rfl
        | true =>
          rw [Bool.not_true, cond_false, Bool.true_and]
          unfold okk
          by_cases hdt : 2 ≤ t.Kind ∧ t.Kind ≤ 7
          · have e2 : decide (2 ≤ t.Kind) = true := decide_eq_true hdt.1
            have e7 : decide (t.Kind ≤ 7) = true := decide_eq_true hdt.2
            have e9 : (t.Kind == 9) = false := by rw [beq_eq_false_iff_ne]; omega
            rw [e2, e7, e9, if_pos hdt]
            simp only [cond_true, cond_false]
            by_cases hx10 : x.Kind = 10
            · obtain ⟨w, hw⟩ := rt_atom_w hx10 hr
              have hu := (hb.all x hm).u w (by rw [hw]; exact .head _)
              have ex : (x.Kind == 10) = true := by simp [hx10]
              have ex2 : ((true : Bool) != true) = false := rfl
              have hg0 : getI [w] (0 : Int) = some w := rfl
              rw [ex, ex2, cond_false, hw, hg0, Option.bind_some, i64s (by omega) (by omega), rfits_ok (by omega) (by omega) hu.1 hu.2, Option.bind_some]
              simp only [cond_false, List.headD_cons, Bool.true_and]
              cases fitsP (t.Kind - 2) w <;> rfl
            · have ex : (x.Kind == 10) = false := by simp [hx10]
              rw [ex]
              rfl
          · have ed2 : cond (decide (2 ≤ t.Kind)) (decide (t.Kind ≤ 7)) false = false := by
              rw [cond_and, Bool.and_eq_false_iff, decide_eq_false_iff_not, decide_eq_false_iff_not]; omega
            rw [ed2, if_neg hdt]
            have hin : ∀ (X : Option Bool) (b : Bool), (cond (decide (2 ≤ t.Kind)) (cond (decide (t.Kind ≤ 7)) X (some b)) (some b)) = some b := fun X b => by
              by_cases h2 : 2 ≤ t.Kind
              · have h7 : decide (t.Kind ≤ 7) = false := by rw [decide_eq_false_iff_not]; omega
                rw [decide_eq_true h2, h7]; rfl
              · rw [decide_eq_false h2]; rfl
            by_cases hx10 : x.Kind = 10
            · have ex : (x.Kind == 10) = true := by simp [hx10]
              have ex2 : (x.Kind != 10) = false := by simp [hx10]
              rw [ex, ex2]
              rfl
            · have ex : (x.Kind == 10) = false := by simp [hx10]
              have ex2 : (x.Kind != 10) = true := by simp [hx10]
              have ex3 : ((false : Bool) != false) = false := rfl
              rw [ex, ex2, ex3, cond_false]
              simp only [cond_false]
              rw [hin]
              by_cases h9 : t.Kind = 9
              · have e9 : (t.Kind == 9) = true := by simp [h9]
                have e9' : (t.Kind != 9) = false := by simp [h9]
                rw [e9, e9', cond_true]
                by_cases hx1 : x.Kind = 1
                · have q1 : (x.Kind != 1) = false := by simp [hx1]
                  have q2 : (x.Kind == 1) = true := by simp [hx1]
                  rw [q1, q2, cond_false]
                  rfl
                · have q1 : (x.Kind != 1) = true := by simp [hx1]
                  have q2 : (x.Kind == 1) = false := by simp [hx1]
                  rw [q1, q2, cond_true]
                  rfl
              · have e9 : (t.Kind == 9) = false := by simp [h9]
                have e9' : (t.Kind != 9) = true := by simp [h9]
                rw [e9, e9']
                rfl) (by unfold b_centoref07_Right_L0; rw [lt_f]; rfl), Option.bind_some, Nat.add_sub_cancel]
      cases t.Kids.all fun x => rt x d' && okk t.Kind x <;> rfl
theorem rright_ok {t : Tr} (h : Bd t) {d : Nat} (hd : d ≤ 64) : m_centoref07_Right t (d : Int) = some (rt t d) := lim_eq (SizeOf.sizeOf t + 1) fun k hk => rright_lv k t d h (by omega) hd
theorem all_and {α : Type} (p q : α → Bool) : ∀ l : List α, (l.all fun x => p x && q x) = (l.all p && l.all q)
  | [] => rfl
  | x :: l => by rw [List.all_cons, List.all_cons, List.all_cons, all_and p q l]; cases p x <;> cases q x <;> cases l.all p <;> cases l.all q <;> rfl
theorem all_congr {α : Type} {p q : α → Bool} : ∀ {l : List α}, (∀ x ∈ l, p x = q x) → l.all p = l.all q
  | [], _ => rfl
  | x :: l, h => by rw [List.all_cons, List.all_cons, h x (.head _), all_congr fun y hy => h y (.tail _ hy)]

end Go.Proofs.Ytbcgiaijjaocdaa
