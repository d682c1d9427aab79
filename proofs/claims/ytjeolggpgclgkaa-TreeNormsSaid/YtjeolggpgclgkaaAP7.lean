/- Plain facts on this seat's mirrors (part AP7); each theorem bears its own conditions. -/
import Derived.Test.YtjeolggpgclgkaaAD
import Derived.IntWalk
namespace Go.Proofs.Ytjeolggpgclgkaa
open Go.RowKit
set_option linter.unusedVariables false
set_option linter.unusedSimpArgs false
abbrev Tr := S_api_Tree
theorem i64s {x : Int} (h1 : -9223372036854775808 ≤ x) (h2 : x ≤ 9223372036854775807) : IntKind.i64.wrap x = x := i64w ⟨h1, h2⟩
/-- what an index counts up to -/
theorem kid_lt {t x : Tr} (h : x ∈ t.Kids) : SizeOf.sizeOf x < SizeOf.sizeOf t := by
  obtain ⟨k, w, ks⟩ := t
  have := List.sizeOf_lt_of_mem h
  simp only [S_api_Tree.mk.sizeOf_spec]
  simp only at this
  omega
/-- rounds over a list's kids with an index alone -/
theorem loop_any {α R : Type} (xs : List α) (step : Int → Option (Int ⊕ R)) (p : α → Bool) (e o : R) (hl : (xs.length : Int) ≤ 140737488355328)
    (h1 : ∀ (i : Nat) (x : α), i < xs.length → xs[i]? = some x → x ∈ xs → step i = some (if p x = true then .inr e else .inl (IntKind.i64.wrap ((i : Int) + 1)))) (h2 : step xs.length = some (.inr o)) : runLoop step 0 = some (if xs.any p = true then e else o) := by
  have hloop := loop_each xs (fun i (_ : Unit) => i) step (fun _ x => some (if p x = true then .inr e else .inl ())) (fun _ => o) (fun i s x hi hx => by
    rw [h1 i x hi hx (List.mem_of_getElem? hx), i64s (by omega) (by omega)]
    cases p x <;> rfl) (fun _ => h2) ()
  refine hloop.trans ?_
  rw [foldE_find p (fun s _ => s) e (fun _ _ => True) xs.length xs () 0 (by omega) trivial (fun s k x _ _ _ => ⟨by cases p x <;> rfl, fun _ => trivial⟩)]
theorem lt_t {i n : Nat} (h : i < n) : decide ((i : Int) < (n : Int)) = true := by rw [decide_eq_true_eq]; omega
theorem lt_f {n : Nat} : decide ((n : Int) < (n : Int)) = false := by rw [decide_eq_false_iff_not]; omega
/-- without such as are of a kind, at the end -/
def tr {α : Type} (p : α → Bool) : List α → List α
  | [] => []
  | x :: xs => match tr p xs with
    | [] => if p x = true then [] else [x]
    | y :: ys => x :: y :: ys
def trN {α : Type} (p : α → Bool) (l : List α) : Nat → Nat
  | 0 => 0
  | n + 1 => match l[n]? with
    | some x => if p x = true then trN p l n else n + 1
    | none => 0
theorem tr_append_t {α : Type} {p : α → Bool} {x : α} (h : p x = true) : ∀ l : List α, tr p (l ++ [x]) = tr p l
  | [] => by simp [tr, h]
  | y :: l => by simp only [List.cons_append, tr, tr_append_t h l]
theorem tr_append_f {α : Type} {p : α → Bool} {x : α} (h : p x = false) : ∀ l : List α, tr p (l ++ [x]) = l ++ [x]
  | [] => by simp [tr, h]
  | y :: l => by
    simp only [List.cons_append, tr, tr_append_f h l]
    cases hl : l ++ [x] with
    | nil => simp at hl
    | cons a b => rfl
theorem trN_tr {α : Type} {p : α → Bool} {l : List α} : ∀ n, n ≤ l.length → l.take (trN p l n) = tr p (l.take n) ∧ trN p l n ≤ n
  | 0, _ => by simp [trN, tr]
  | n + 1, h => by
    have hn : l[n]? = some l[n] := List.getElem?_eq_getElem (by omega)
    have e : l.take (n + 1) = l.take n ++ [l[n]] := by rw [List.take_add_one, hn]; rfl
    obtain ⟨h1, h2⟩ := trN_tr (p := p) (l := l) n (by omega)
    unfold trN
    rw [hn]
    simp only
    split
    · rename_i hp
      rw [e, tr_append_t hp]
      exact ⟨h1, by omega⟩
    · rename_i hp
      rw [e, tr_append_f (by simpa using hp), ← e]
      exact ⟨rfl, Nat.le_refl _⟩
theorem tr_len {α : Type} (p : α → Bool) : ∀ l : List α, (tr p l).length ≤ l.length
  | [] => by simp [tr]
  | x :: l => by
    have := tr_len p l
    simp only [tr]
    split
    · split <;> simp
    · rename_i y ys he
      rw [he] at this
      simp at this ⊢
      omega
theorem tr_mem {α : Type} {p : α → Bool} {x : α} : ∀ {l : List α}, x ∈ tr p l → x ∈ l
  | [], h => by simp [tr] at h
  | y :: l, h => by
    simp only [tr] at h
    split at h
    · split at h
      · simp at h
      · simp at h; simp [h]
    · rename_i z zs he
      rw [← he] at h
      rcases List.mem_cons.1 h with h | h
      · simp [h]
      · exact List.mem_cons_of_mem _ (tr_mem h)
theorem tr_tr {α : Type} {p : α → Bool} : ∀ l : List α, tr p (tr p l) = tr p l
  | [] => rfl
  | x :: l => by
    have ih := tr_tr (p := p) l
    simp only [tr]
    cases h : tr p l with
    | nil =>
      simp only
      cases hx : p x <;> simp [tr, hx]
    | cons y ys =>
      rw [h] at ih
      simp only [tr] at ih ⊢
      rw [ih]
theorem tr_map {α β : Type} {p : α → Bool} {q : β → Bool} {f : α → β} (h : ∀ x, q (f x) = p x) : ∀ l : List α, tr q (l.map f) = (tr p l).map f
  | [] => rfl
  | x :: l => by
    simp only [List.map_cons, tr, tr_map h l]
    cases tr p l with
    | nil => simp only [List.map_nil, h]; split <;> rfl
    | cons y ys => rfl
/-- the rounds that look for the end -/
theorem loop_tr {α : Type} (l : List α) (p : α → Bool) (step : Int → Option (Int ⊕ Int)) (hl : (l.length : Int) ≤ 140737488355328)
    (h0 : step 0 = some (.inr 0)) (h1 : ∀ (n : Nat) (x : α), l[n]? = some x → n < l.length → step ((n + 1 : Nat) : Int) = some (if p x = true then .inl (n : Int) else .inr ((n + 1 : Nat) : Int))) : runLoop step (l.length : Int) = some (trN p l l.length : Int) := by
  have key : ∀ n : Nat, n ≤ l.length → runLoop step (n : Int) = some (trN p l n : Int) := fun n => by
    induction n with
    | zero => intro _; exact runLoop_end h0
    | succ n ih =>
      intro hn
      have hx : l[n]? = some l[n] := List.getElem?_eq_getElem (by omega)
      have h := h1 n _ hx (by omega)
      unfold trN
      rw [hx]
      simp only
      split
      · rename_i hp
        rw [if_pos hp] at h
        rw [runLoop_step h]
        exact ih (by omega)
      · rename_i hp
        rw [if_neg hp] at h
        exact runLoop_end h
  exact key l.length (Nat.le_refl _)
theorem sub_take {α : Type} {l : List α} {n : Nat} (h : n ≤ l.length) : subI l 0 (n : Int) = some (l.take n) := by
  rw [subI_ok (by omega) (by omega) (by omega)]
  simp
theorem gt_t {n : Nat} : decide (0 < ((n + 1 : Nat) : Int)) = true := by rw [decide_eq_true_eq]; omega
theorem trimWords_ok {l : List Int} (hl : (l.length : Int) ≤ 140737488355328) : m_tree_trimWords l = some (tr (fun x => x == 0) l) := by
  have hloop := loop_tr l (fun x => x == 0) (m_tree_trimWords_L0 l) hl (by unfold m_tree_trimWords_L0; rfl) (fun n x hx hn => by
    unfold m_tree_trimWords_L0
    rw [gt_t, cond_true, i64s (by omega) (by omega)]
    have e : ((n + 1 : Nat) : Int) - 1 = (n : Int) := by omega
    rw [e, getI_of hx]
    simp only [Option.bind_some, cond_true]
    cases x == 0 <;> rfl)
  obtain ⟨h1, h2⟩ := trN_tr (p := fun x => x == 0) (l := l) l.length (Nat.le_refl _)
  unfold m_tree_trimWords
  rw [hloop, Option.bind_some, sub_take h2, Option.bind_some, h1, List.take_length]
theorem trimKids_ok {l : List Tr} (hl : (l.length : Int) ≤ 140737488355328) : m_tree_trimKids l = some (tr (fun x => x.Kind == 0) l) := by
  have hloop := loop_tr l (fun x => x.Kind == 0) (m_tree_trimKids_L0 l) hl (by unfold m_tree_trimKids_L0; rfl) (fun n x hx hn => by
    unfold m_tree_trimKids_L0
    rw [gt_t, cond_true, i64s (by omega) (by omega)]
    have e : ((n + 1 : Nat) : Int) - 1 = (n : Int) := by omega
    rw [e, getI_of hx]
    simp only [Option.bind_some, cond_true]
    cases x.Kind == 0 <;> rfl)
  obtain ⟨h1, h2⟩ := trN_tr (p := fun x => x.Kind == 0) (l := l) l.length (Nat.le_refl _)
  unfold m_tree_trimKids
  rw [hloop, Option.bind_some, sub_take h2, Option.bind_some, h1, List.take_length]
theorem rTrim_ok {l : List Int} (hl : l.length * 8 ≤ 140737488355328) : m_centoref07_Trim l = some (tr (fun x => x == 0) l) := by
  have hloop := loop_tr l (fun x => x == 0) (m_centoref07_Trim_L0 l) (by omega) (by unfold m_centoref07_Trim_L0; rfl) (fun n x hx hn => by
    unfold m_centoref07_Trim_L0
    rw [gt_t, cond_true, i64s (by omega) (by omega)]
    have e : ((n + 1 : Nat) : Int) - 1 = (n : Int) := by omega
    rw [e, getI_of hx]
    simp only [Option.bind_some, cond_true]
    cases x == 0 <;> rfl)
  obtain ⟨h1, h2⟩ := trN_tr (p := fun x => x == 0) (l := l) l.length (Nat.le_refl _)
  have h3 := tr_len (fun x => x == 0) l
  unfold m_centoref07_Trim
  rw [hloop, Option.bind_some, sub_take h2, Option.bind_some, h1, List.take_length, appI_ok (by rw [List.length_nil]; omega) (by rw [List.length_nil]; omega)]
  rfl
/-- lengths and words as memory has them, all the way down -/
inductive Bd : Tr → Prop
  | mk (t : Tr) (h1 : t.Words.length * 8 ≤ 140737488355328) (h2 : t.Kids.length * 56 ≤ 140737488355328) (h3 : ∀ w ∈ t.Words, 0 ≤ w ∧ w < 18446744073709551616) (h4 : ∀ k ∈ t.Kids, Bd k) : Bd t
theorem Bd.w {t : Tr} (h : Bd t) : t.Words.length * 8 ≤ 140737488355328 := by cases h; assumption
theorem Bd.k {t : Tr} (h : Bd t) : t.Kids.length * 56 ≤ 140737488355328 := by cases h; assumption
theorem Bd.u {t : Tr} (h : Bd t) : ∀ w ∈ t.Words, 0 ≤ w ∧ w < 18446744073709551616 := by cases h; assumption
theorem Bd.all {t : Tr} (h : Bd t) : ∀ k ∈ t.Kids, Bd k := by cases h; assumption
/-- what means the same, without what is in vain -/
def nrm (t : Tr) : Tr :=
  if t.Kind = 0 then ⟨0, [], []⟩
  else if t.Kind = 1 then ⟨1, tr (fun x => x == 0) t.Words, tr (fun x => x.Kind == 0) (t.Kids.attach.map fun k => nrm k.1)⟩
  else ⟨t.Kind, t.Words, t.Kids.attach.map fun k => nrm k.1⟩
termination_by SizeOf.sizeOf t
decreasing_by all_goals exact kid_lt k.2
theorem nrm_eq (t : Tr) : nrm t = if t.Kind = 0 then ⟨0, [], []⟩ else if t.Kind = 1 then ⟨1, tr (fun x => x == 0) t.Words, tr (fun x => x.Kind == 0) (t.Kids.map nrm)⟩ else ⟨t.Kind, t.Words, t.Kids.map nrm⟩ := by
  rw [nrm]
  simp only [List.attach_map_val]
theorem nrm_kind (t : Tr) : (nrm t).Kind = t.Kind := by
  rw [nrm_eq]
  split
  · rename_i h; exact h.symm
  · split
    · rename_i h; exact h.symm
    · rfl

end Go.Proofs.Ytjeolggpgclgkaa
