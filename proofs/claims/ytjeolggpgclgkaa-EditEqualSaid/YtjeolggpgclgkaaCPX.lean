/- Plain facts on this seat's mirrors (part CPX); each theorem bears its own conditions. -/
import Derived.Test.YtjeolggpgclgkaaCD
import Derived.Test.YtjeolggpgclgkaaCE
import Derived.IntWalk
namespace Go.Proofs.Ytjeolggpgclgkaa
open Go.RowKit
set_option linter.unusedVariables false
set_option linter.unusedSimpArgs false
abbrev Tr := S_api_Tree
theorem i64s {x : Int} (h1 : -9223372036854775808 ≤ x) (h2 : x ≤ 9223372036854775807) : IntKind.i64.wrap x = x := i64w ⟨h1, h2⟩
/-- what an index counts up to -/
theorem kid_lt {t x : Tr} (h : x ∈ t.Kids) : SizeOf.sizeOf x < SizeOf.sizeOf t := by
  obtain ⟨k, w, ks⟩ := t
  have := List.sizeOf_lt_of_mem h
  simp only [S_api_Tree.mk.sizeOf_spec]
  simp only at this
  omega
/-- rounds over a list's kids with an index alone -/
theorem loop_any {α R : Type} (xs : List α) (step : Int → Option (Int ⊕ R)) (p : α → Bool) (e o : R) (hl : (xs.length : Int) ≤ 140737488355328)
    (h1 : ∀ (i : Nat) (x : α), i < xs.length → xs[i]? = some x → x ∈ xs → step i = some (if p x = true then .inr e else .inl (IntKind.i64.wrap ((i : Int) + 1)))) (h2 : step xs.length = some (.inr o)) : runLoop step 0 = some (if xs.any p = true then e else o) := by
  have hloop := loop_each xs (fun i (_ : Unit) => i) step (fun _ x => some (if p x = true then .inr e else .inl ())) (fun _ => o) (fun i s x hi hx => by
    rw [h1 i x hi hx (List.mem_of_getElem? hx), i64s (by omega) (by omega)]
    cases p x <;> rfl) (fun _ => h2) ()
  refine hloop.trans ?_
  rw [foldE_find p (fun s _ => s) e (fun _ _ => True) xs.length xs () 0 (by omega) trivial (fun s k x _ _ _ => ⟨by cases p x <;> rfl, fun _ => trivial⟩)]
theorem lt_t {i n : Nat} (h : i < n) : decide ((i : Int) < (n : Int)) = true := by rw [decide_eq_true_eq]; omega
theorem lt_f {n : Nat} : decide ((n : Int) < (n : Int)) = false := by rw [decide_eq_false_iff_not]; omega
/-- without such as are of a kind, at the end -/
def tr {α : Type} (p : α → Bool) : List α → List α
  | [] => []
  | x :: xs => match tr p xs with
    | [] => if p x = true then [] else [x]
    | y :: ys => x :: y :: ys
def trN {α : Type} (p : α → Bool) (l : List α) : Nat → Nat
  | 0 => 0
  | n + 1 => match l[n]? with
    | some x => if p x = true then trN p l n else n + 1
    | none => 0
theorem tr_append_t {α : Type} {p : α → Bool} {x : α} (h : p x = true) : ∀ l : List α, tr p (l ++ [x]) = tr p l
  | [] => by simp [tr, h]
  | y :: l => by simp only [List.cons_append, tr, tr_append_t h l]
theorem tr_append_f {α : Type} {p : α → Bool} {x : α} (h : p x = false) : ∀ l : List α, tr p (l ++ [x]) = l ++ [x]
  | [] => by simp [tr, h]
  | y :: l => by
    simp only [List.cons_append, tr, tr_append_f h l]
    cases hl : l ++ [x] with
    | nil => simp at hl
    | cons a b => rfl
theorem trN_tr {α : Type} {p : α → Bool} {l : List α} : ∀ n, n ≤ l.length → l.take (trN p l n) = tr p (l.take n) ∧ trN p l n ≤ n
  | 0, _ => by simp [trN, tr]
  | n + 1, h => by
    have hn : l[n]? = some l[n] := List.getElem?_eq_getElem (by omega)
    have e : l.take (n + 1) = l.take n ++ [l[n]] := by rw [List.take_add_one, hn]; rfl
    obtain ⟨h1, h2⟩ := trN_tr (p := p) (l := l) n (by omega)
    unfold trN
    rw [hn]
    simp only
    split
    · rename_i hp
      rw [e, tr_append_t hp]
      exact ⟨h1, by omega⟩
    · rename_i hp
      rw [e, tr_append_f (by simpa using hp), ← e]
      exact ⟨rfl, Nat.le_refl _⟩
theorem tr_len {α : Type} (p : α → Bool) : ∀ l : List α, (tr p l).length ≤ l.length
  | [] => by simp [tr]
  | x :: l => by
    have := tr_len p l
    simp only [tr]
    split
    · split <;> simp
    · rename_i y ys he
      rw [he] at this
      simp at this ⊢
      omega
theorem tr_mem {α : Type} {p : α → Bool} {x : α} : ∀ {l : List α}, x ∈ tr p l → x ∈ l
  | [], h => by simp [tr] at h
  | y :: l, h => by
    simp only [tr] at h
    split at h
    · split at h
      · simp at h
      · simp at h; simp [h]
    · rename_i z zs he
      rw [← he] at h
      rcases List.mem_cons.1 h with h | h
      · simp [h]
      · exact List.mem_cons_of_mem _ (tr_mem h)
theorem tr_tr {α : Type} {p : α → Bool} : ∀ l : List α, tr p (tr p l) = tr p l
  | [] => rfl
  | x :: l => by
    have ih := tr_tr (p := p) l
    simp only [tr]
    cases h : tr p l with
    | nil =>
      simp only
      cases hx : p x <;> simp [tr, hx]
    | cons y ys =>
      rw [h] at ih
      simp only [tr] at ih ⊢
      rw [ih]
theorem tr_map {α β : Type} {p : α → Bool} {q : β → Bool} {f : α → β} (h : ∀ x, q (f x) = p x) : ∀ l : List α, tr q (l.map f) = (tr p l).map f
  | [] => rfl
  | x :: l => by
    simp only [List.map_cons, tr, tr_map h l]
    cases tr p l with
    | nil => simp only [List.map_nil, h]; split <;> rfl
    | cons y ys => rfl
/-- the rounds that look for the end -/
theorem loop_tr {α : Type} (l : List α) (p : α → Bool) (step : Int → Option (Int ⊕ Int)) (hl : (l.length : Int) ≤ 140737488355328)
    (h0 : step 0 = some (.inr 0)) (h1 : ∀ (n : Nat) (x : α), l[n]? = some x → n < l.length → step ((n + 1 : Nat) : Int) = some (if p x = true then .inl (n : Int) else .inr ((n + 1 : Nat) : Int))) : runLoop step (l.length : Int) = some (trN p l l.length : Int) := by
  have key : ∀ n : Nat, n ≤ l.length → runLoop step (n : Int) = some (trN p l n : Int) := fun n => by
    induction n with
    | zero => intro _; exact runLoop_end h0
    | succ n ih =>
      intro hn
      have hx : l[n]? = some l[n] := List.getElem?_eq_getElem (by omega)
      have h := h1 n _ hx (by omega)
      unfold trN
      rw [hx]
      simp only
      split
      · rename_i hp
        rw [if_pos hp] at h
        rw [runLoop_step h]
        exact ih (by omega)
      · rename_i hp
        rw [if_neg hp] at h
        exact runLoop_end h
  exact key l.length (Nat.le_refl _)
theorem sub_take {α : Type} {l : List α} {n : Nat} (h : n ≤ l.length) : subI l 0 (n : Int) = some (l.take n) := by
  rw [subI_ok (by omega) (by omega) (by omega)]
  simp
theorem gt_t {n : Nat} : decide (0 < ((n + 1 : Nat) : Int)) = true := by rw [decide_eq_true_eq]; omega
theorem trimWords_ok {l : List Int} (hl : (l.length : Int) ≤ 140737488355328) : m_tree_trimWords l = some (tr (fun x => x == 0) l) := by
  have hloop := loop_tr l (fun x => x == 0) (m_tree_trimWords_L0 l) hl (by unfold m_tree_trimWords_L0; rfl) (fun n x hx hn => by
    unfold m_tree_trimWords_L0
    rw [gt_t, cond_true, i64s (by omega) (by omega)]
    have e : ((n + 1 : Nat) : Int) - 1 = (n : Int) := by omega
    rw [e, getI_of hx]
    simp only [Option.bind_some, cond_true]
    cases x == 0 <;> rfl)
  obtain ⟨h1, h2⟩ := trN_tr (p := fun x => x == 0) (l := l) l.length (Nat.le_refl _)
  unfold m_tree_trimWords
  rw [hloop, Option.bind_some, sub_take h2, Option.bind_some, h1, List.take_length]
theorem trimKids_ok {l : List Tr} (hl : (l.length : Int) ≤ 140737488355328) : m_tree_trimKids l = some (tr (fun x => x.Kind == 0) l) := by
  have hloop := loop_tr l (fun x => x.Kind == 0) (m_tree_trimKids_L0 l) hl (by unfold m_tree_trimKids_L0; rfl) (fun n x hx hn => by
    unfold m_tree_trimKids_L0
    rw [gt_t, cond_true, i64s (by omega) (by omega)]
    have e : ((n + 1 : Nat) : Int) - 1 = (n : Int) := by omega
    rw [e, getI_of hx]
    simp only [Option.bind_some, cond_true]
    cases x.Kind == 0 <;> rfl)
  obtain ⟨h1, h2⟩ := trN_tr (p := fun x => x.Kind == 0) (l := l) l.length (Nat.le_refl _)
  unfold m_tree_trimKids
  rw [hloop, Option.bind_some, sub_take h2, Option.bind_some, h1, List.take_length]
theorem rTrim_ok {l : List Int} (hl : l.length * 8 ≤ 140737488355328) : m_centoref07_Trim l = some (tr (fun x => x == 0) l) := by
  have hloop := loop_tr l (fun x => x == 0) (m_centoref07_Trim_L0 l) (by omega) (by unfold m_centoref07_Trim_L0; rfl) (fun n x hx hn => by
    unfold m_centoref07_Trim_L0
    rw [gt_t, cond_true, i64s (by omega) (by omega)]
    have e : ((n + 1 : Nat) : Int) - 1 = (n : Int) := by omega
    rw [e, getI_of hx]
    simp only [Option.bind_some, cond_true]
    cases x == 0 <;> rfl)
  obtain ⟨h1, h2⟩ := trN_tr (p := fun x => x == 0) (l := l) l.length (Nat.le_refl _)
  have h3 := tr_len (fun x => x == 0) l
  unfold m_centoref07_Trim
  rw [hloop, Option.bind_some, sub_take h2, Option.bind_some, h1, List.take_length, appI_ok (by rw [List.length_nil]; omega) (by rw [List.length_nil]; omega)]
  rfl
/-- lengths and words as memory has them, all the way down -/
inductive Bd : Tr → Prop
  | mk (t : Tr) (h1 : t.Words.length * 8 ≤ 140737488355328) (h2 : t.Kids.length * 56 ≤ 140737488355328) (h3 : ∀ w ∈ t.Words, 0 ≤ w ∧ w < 18446744073709551616) (h4 : ∀ k ∈ t.Kids, Bd k) : Bd t
theorem Bd.w {t : Tr} (h : Bd t) : t.Words.length * 8 ≤ 140737488355328 := by cases h; assumption
theorem Bd.k {t : Tr} (h : Bd t) : t.Kids.length * 56 ≤ 140737488355328 := by cases h; assumption
theorem Bd.u {t : Tr} (h : Bd t) : ∀ w ∈ t.Words, 0 ≤ w ∧ w < 18446744073709551616 := by cases h; assumption
theorem Bd.all {t : Tr} (h : Bd t) : ∀ k ∈ t.Kids, Bd k := by cases h; assumption
/-- what means the same, without what is in vain -/
def nrm (t : Tr) : Tr :=
  if t.Kind = 0 then ⟨0, [], []⟩
  else if t.Kind = 1 then ⟨1, tr (fun x => x == 0) t.Words, tr (fun x => x.Kind == 0) (t.Kids.attach.map fun k => nrm k.1)⟩
  else ⟨t.Kind, t.Words, t.Kids.attach.map fun k => nrm k.1⟩
termination_by SizeOf.sizeOf t
decreasing_by all_goals exact kid_lt k.2
theorem nrm_eq (t : Tr) : nrm t = if t.Kind = 0 then ⟨0, [], []⟩ else if t.Kind = 1 then ⟨1, tr (fun x => x == 0) t.Words, tr (fun x => x.Kind == 0) (t.Kids.map nrm)⟩ else ⟨t.Kind, t.Words, t.Kids.map nrm⟩ := by
  rw [nrm]
  simp only [List.attach_map_val]
theorem nrm_kind (t : Tr) : (nrm t).Kind = t.Kind := by
  rw [nrm_eq]
  split
  · rename_i h; exact h.symm
  · split
    · rename_i h; exact h.symm
    · rfl

theorem set_next {α β : Type} {xs : List α} {f : α → β} {z : β} {i m : Nat} {x : α} (hi : i + (m + 1) = xs.length) (hx : xs[i]? = some x) :
    ((xs.take i).map f ++ List.replicate (m + 1) z).set i (f x) = (xs.take (i + 1)).map f ++ List.replicate m z := by
  have hl : ((xs.take i).map f).length = i := by rw [List.length_map, List.length_take]; omega
  rw [List.set_append, if_neg (by omega), hl, Nat.sub_self, List.replicate_succ, List.set_cons_zero, List.take_add_one, hx]
  simp
/-- rounds that fill a row -/
theorem loop_set {α β : Type} (xs : List α) (f : α → β) (z : β) (step : Int × List β → Option ((Int × List β) ⊕ List β)) (hl : (xs.length : Int) ≤ 140737488355328)
    (h1 : ∀ (i : Nat) (x : α) (out : List β) (y : β), i < xs.length → xs[i]? = some x → x ∈ xs → out[i]? = some y → step ((i : Int), out) = some (.inl (IntKind.i64.wrap ((i : Int) + 1), setI out (i : Int) (f x))))
    (h2 : ∀ out, step ((xs.length : Int), out) = some (.inr out)) : runLoop step (0, List.replicate xs.length z) = some (xs.map f) := by
  have key : ∀ m i, i + m = xs.length → runLoop step ((i : Int), (xs.take i).map f ++ List.replicate m z) = some (xs.map f) := fun m => by
    induction m with
    | zero =>
      intro i hi
      have hi' : i = xs.length := by omega
      subst hi'
      rw [List.take_length, List.replicate_zero, List.append_nil]
      exact runLoop_end (h2 _)
    | succ m ih =>
      intro i hi
      have hx : xs[i]? = some xs[i] := List.getElem?_eq_getElem (by omega)
      have hl' : ((xs.take i).map f).length = i := by rw [List.length_map, List.length_take]; omega
      have hy : ((xs.take i).map f ++ List.replicate (m + 1) z)[i]? = some z := by
        rw [List.getElem?_append_right (by omega), hl', Nat.sub_self, List.replicate_succ]; rfl
      have h := h1 i _ _ z (by omega) hx (List.mem_of_getElem? hx) hy
      rw [i64s (by omega) (by omega)] at h
      rw [runLoop_step h]
      unfold setI
      rw [Int.toNat_natCast, set_next (by omega) hx]
      exact ih (i + 1) (by omega)
  have := key xs.length 0 (by omega)
  simpa using this
/-- the kids' norms, and where the last one stands that is something -/
theorem tr_cons_nil {α : Type} {p : α → Bool} {x : α} {l : List α} (h : tr p l = []) : tr p (x :: l) = if p x = true then [] else [x] := by simp only [tr, h]
theorem tr_cons_ne {α : Type} {p : α → Bool} {x : α} {l : List α} (h : tr p l ≠ []) : tr p (x :: l) = x :: tr p l := by
  simp only [tr]
  split
  · rename_i h'; exact absurd h' h
  · rename_i h'; rw [h']
theorem last_tr : ∀ (l : List Tr) (n : Nat) (acc : Int), (l.zipIdx n).foldl (fun a p => if p.1.Kind = 0 then a else ((p.2 + 1 : Nat) : Int)) acc = if (tr (fun x => x.Kind == 0) l).length = 0 then acc else ((n + (tr (fun x => x.Kind == 0) l).length : Nat) : Int)
  | [], n, acc => by simp [tr]
  | x :: l, n, acc => by
    rw [List.zipIdx_cons, List.foldl_cons, last_tr l (n + 1)]
    by_cases h : tr (fun x => x.Kind == 0) l = []
    · rw [tr_cons_nil h, h]
      by_cases hx : x.Kind = 0
      · simp [hx]
      · simp [hx]
    · have h' : (tr (fun x => x.Kind == 0) l).length ≠ 0 := by simpa using h
      rw [tr_cons_ne h, if_neg h', List.length_cons, if_neg (by omega)]
      congr 1
      omega
theorem tr_take {α : Type} (p : α → Bool) (l : List α) : l.take (tr p l).length = tr p l := by
  obtain ⟨h1, h2⟩ := trN_tr (p := p) (l := l) l.length (Nat.le_refl _)
  rw [List.take_length] at h1
  rw [← h1, List.length_take]
  congr 1
  omega
theorem rnorm_l0 {k : Nat} {t : Tr} (hl : t.Kids.length * 56 ≤ 140737488355328) (ih : ∀ x ∈ t.Kids, lv_centoref07_Norm k x = some (nrm x)) :
    runLoop (b_centoref07_Norm_L0 (lv_centoref07_Norm k) t) (0, 0, []) = some (if (tr (fun x => x.Kind == 0) (t.Kids.map nrm)).length = 0 then 0 else ((tr (fun x => x.Kind == 0) (t.Kids.map nrm)).length : Int), t.Kids.map nrm) := by
  have key : ∀ (l pre : List Tr) (a : Int), t.Kids = pre ++ l → runLoop (b_centoref07_Norm_L0 (lv_centoref07_Norm k) t) (a, ((pre.length : Nat) : Int), pre.map nrm) = some (((l.map nrm).zipIdx pre.length).foldl (fun a p => if p.1.Kind = 0 then a else ((p.2 + 1 : Nat) : Int)) a, t.Kids.map nrm) := fun l => by
    induction l with
    | nil =>
      intro pre a hp
      rw [List.append_nil] at hp
      refine runLoop_end ?_
      unfold b_centoref07_Norm_L0
      simp only
      rw [hp, lt_f, cond_false]
      rfl
    | cons x l ihl =>
      intro pre a hp
      have hx : t.Kids[pre.length]? = some x := by rw [hp, List.getElem?_append_right (Nat.le_refl _), Nat.sub_self]; rfl
      have hi : pre.length < t.Kids.length := by rw [hp]; simp
      have hm : x ∈ t.Kids := List.mem_of_getElem? hx
      have hs : b_centoref07_Norm_L0 (lv_centoref07_Norm k) t (a, ((pre.length : Nat) : Int), pre.map nrm) = some (.inl (if x.Kind = 0 then a else ((pre.length + 1 : Nat) : Int), (((pre ++ [x]).length : Nat) : Int), (pre ++ [x]).map nrm)) := by
        unfold b_centoref07_Norm_L0
        simp only
        rw [lt_t hi, cond_true, getI_of hx, Option.bind_some, ih x hm, Option.bind_some, appI_ok (by simp; omega) (by simp; omega), Option.bind_some, i64s (by omega) (by omega), nrm_kind]
        have e : ((pre.length : Nat) : Int) + 1 = ((pre.length + 1 : Nat) : Int) := by omega
        rw [e]
        by_cases h0 : x.Kind = 0
        · simp [h0]
        · have : (x.Kind != 0) = true := by simp [h0]
          rw [this, cond_true]
          simp [h0]
      rw [runLoop_step hs, ihl (pre ++ [x]) _ (by rw [hp]; simp)]
      simp only [List.map_cons, List.zipIdx_cons, List.foldl_cons, List.length_append, List.length_singleton, nrm_kind]
  have := key t.Kids [] 0 rfl
  rw [last_tr] at this
  simpa using this
theorem rnorm_lv : ∀ (k : Nat) (t : Tr), Bd t → SizeOf.sizeOf t < k → lv_centoref07_Norm k t = some (nrm t)
  | 0, t, _, h => by omega
  | k + 1, t, hb, hk => by
    have ih : ∀ x ∈ t.Kids, lv_centoref07_Norm k x = some (nrm x) := fun x hx => rnorm_lv k x (hb.all x hx) (by have := kid_lt hx; omega)
    have hw := hb.w
    have hkd := hb.k
    show b_centoref07_Norm (lv_centoref07_Norm k) t = _
    unfold b_centoref07_Norm
    rw [nrm_eq]
    by_cases h0 : t.Kind = 0
    · rw [if_pos h0, h0]; rfl
    have e0 : (t.Kind == 0) = false := by rw [beq_eq_false_iff_ne]; exact h0
    rw [if_neg h0, e0, cond_false, rnorm_l0 hkd ih, Option.bind_some]
    by_cases h1 : t.Kind = 1
    · have e1 : (t.Kind == 1) = true := by rw [beq_iff_eq]; exact h1
      rw [if_pos h1, e1, cond_true, rTrim_ok hw, Option.bind_some]
      have l1 := tr_len (fun x : Tr => x.Kind == 0) (t.Kids.map nrm)
      have l2 : (if (tr (fun x => x.Kind == 0) (t.Kids.map nrm)).length = 0 then (0 : Int) else ((tr (fun x => x.Kind == 0) (t.Kids.map nrm)).length : Int)) = ((tr (fun x => x.Kind == 0) (t.Kids.map nrm)).length : Int) := by
        split
        · rename_i h; rw [h]; rfl
        · rfl
      simp only [l2]
      rw [sub_take l1, Option.bind_some, tr_take]
    · have e1 : (t.Kind == 1) = false := by rw [beq_eq_false_iff_ne]; exact h1
      rw [if_neg h1, e1, cond_false, appI_ok (by rw [List.length_nil]; omega) (by rw [List.length_nil]; omega)]
      rfl
theorem rnorm_ok {t : Tr} (h : Bd t) : m_centoref07_Norm t = some (nrm t) := lim_eq (SizeOf.sizeOf t + 1) fun k hk => rnorm_lv k t h (by omega)
theorem nrm_bd : ∀ (n : Nat) (t : Tr), SizeOf.sizeOf t < n → Bd t → Bd (nrm t)
  | 0, t, h, _ => by omega
  | n + 1, t, hn, hb => by
    have ih : ∀ x ∈ t.Kids, Bd (nrm x) := fun x hx => nrm_bd n x (by have := kid_lt hx; omega) (hb.all x hx)
    have hw := hb.w
    have hk := hb.k
    rw [nrm_eq]
    split
    · exact .mk _ (by simp) (by simp) (fun w h => by simp at h) (fun w h => by simp at h)
    · split
      · have l1 := tr_len (fun x : Int => x == 0) t.Words
        have l2 := tr_len (fun x : Tr => x.Kind == 0) (t.Kids.map nrm)
        rw [List.length_map] at l2
        refine .mk _ (by simp only; omega) (Nat.le_trans (Nat.mul_le_mul_right 56 l2) hk) (fun w h => hb.u w (tr_mem h)) (fun x h => ?_)
        obtain ⟨y, hy, rfl⟩ := List.mem_map.1 (tr_mem h)
        exact ih y hy
      · refine .mk _ hw (by simp only [List.length_map]; exact hk) hb.u (fun x h => ?_)
        obtain ⟨y, hy, rfl⟩ := List.mem_map.1 h
        exact ih y hy
theorem Bd.nrm {t : Tr} (h : Bd t) : Bd (nrm t) := nrm_bd _ t (Nat.lt_succ_self _) h
theorem nrm_nrm_n : ∀ (n : Nat) (t : Tr), SizeOf.sizeOf t < n → nrm (nrm t) = nrm t
  | 0, t, h => by omega
  | n + 1, t, hn => by
    have ih : ∀ x ∈ t.Kids, nrm (nrm x) = nrm x := fun x hx => nrm_nrm_n n x (by have := kid_lt hx; omega)
    have em : ∀ l : List Tr, (∀ x ∈ l, x ∈ t.Kids) → (l.map nrm).map nrm = l.map nrm := fun l hl => by
      rw [List.map_map]
      exact List.map_congr_left fun x hx => ih x (hl x hx)
    rw [nrm_eq t]
    by_cases h0 : t.Kind = 0
    · rw [if_pos h0, nrm_eq]; simp
    rw [if_neg h0]
    by_cases h1 : t.Kind = 1
    · rw [if_pos h1, nrm_eq]
      simp only [if_neg (show ¬ (1 : Int) = 0 by decide), if_true]
      have q1 : ∀ l : List Tr, tr (fun x : Tr => x.Kind == 0) (l.map nrm) = (tr (fun x : Tr => x.Kind == 0) l).map nrm := tr_map (fun x => by rw [nrm_kind])
      rw [tr_tr, q1, tr_tr, q1, em _ (fun x hx => tr_mem hx)]
    · rw [if_neg h1, nrm_eq]
      simp only
      rw [if_neg h0, if_neg h1, em _ (fun x hx => hx)]
theorem nrm_nrm (t : Tr) : nrm (nrm t) = nrm t := nrm_nrm_n _ t (Nat.lt_succ_self _)

/-- the same, part by part -/
def eqT (a b : Tr) : Bool := a.Kind == b.Kind && (a.Words == b.Words && (a.Kids.length == b.Kids.length && (a.Kids.attach.zip b.Kids).all fun p => eqT p.1.1 p.2))
termination_by SizeOf.sizeOf a
decreasing_by exact kid_lt p.1.2
def eqL : List Tr → List Tr → Bool
  | [], [] => true
  | x :: xs, y :: ys => eqT x y && eqL xs ys
  | _, _ => false
theorem zip_eqL : ∀ (l m : List Tr) (P : Tr → Prop) (l' : List {x // P x}), l'.map (·.1) = l → (l.length == m.length && (l'.zip m).all fun p => eqT p.1.1 p.2) = eqL l m
  | [], [], P, l', h => by cases l' <;> simp_all [eqL]
  | [], y :: m, P, l', h => by cases l' <;> simp_all [eqL]
  | x :: l, [], P, l', h => by cases l' <;> simp_all [eqL]
  | x :: l, y :: m, P, l', h => by
    cases l' with
    | nil => simp at h
    | cons z l' =>
      simp only [List.map_cons, List.cons.injEq] at h
      have ih := zip_eqL l m P l' h.2
      simp only [List.length_cons, List.zip_cons_cons, List.all_cons, eqL, h.1]
      rw [← ih]
      have : (l.length + 1 == m.length + 1) = (l.length == m.length) := by simp
      rw [this]
      cases l.length == m.length <;> cases eqT x y <;> rfl
theorem eqT_eq (a b : Tr) : eqT a b = (a.Kind == b.Kind && (a.Words == b.Words && eqL a.Kids b.Kids)) := by
  rw [eqT, zip_eqL a.Kids b.Kids (· ∈ a.Kids) a.Kids.attach (by simp)]
theorem eqL_cons (x y : Tr) (xs ys : List Tr) : eqL (x :: xs) (y :: ys) = (eqT x y && eqL xs ys) := rfl
theorem eqT_iff_n : ∀ (n : Nat) (a b : Tr), SizeOf.sizeOf a < n → (eqT a b = true ↔ a = b)
  | 0, a, b, h => by omega
  | n + 1, a, b, hn => by
    have ih : ∀ x ∈ a.Kids, ∀ y, eqT x y = true ↔ x = y := fun x hx y => eqT_iff_n n x y (by have := kid_lt hx; omega)
    have hl : ∀ (l m : List Tr), (∀ x ∈ l, x ∈ a.Kids) → (eqL l m = true ↔ l = m) := fun l => by
      induction l with
      | nil => intro m _; cases m <;> simp [eqL]
      | cons x l ihl =>
        intro m hm
        cases m with
        | nil => simp [eqL]
        | cons y m => rw [eqL_cons, Bool.and_eq_true, ih x (hm x (.head _)) y, ihl m (fun z hz => hm z (.tail _ hz)), List.cons.injEq]
    rw [eqT_eq, Bool.and_eq_true, Bool.and_eq_true, hl a.Kids b.Kids (fun x hx => hx), beq_iff_eq, beq_iff_eq]
    obtain ⟨k, w, ks⟩ := a
    obtain ⟨k', w', ks'⟩ := b
    simp
theorem eqT_iff {a b : Tr} : eqT a b = true ↔ a = b := eqT_iff_n _ a b (Nat.lt_succ_self _)
theorem eqT_refl (a : Tr) : eqT a a = true := eqT_iff.2 rfl
theorem eqT_comm (a b : Tr) : eqT a b = eqT b a := by
  rw [Bool.eq_iff_iff, eqT_iff, eqT_iff]; exact ⟨Eq.symm, Eq.symm⟩
/-- two rows of numbers, held side by side -/
theorem any_ne : ∀ (a b : List Int), a.length = b.length → (a.zip b).any (fun p => p.1 != p.2) = !(a == b)
  | [], [], _ => rfl
  | [], _ :: _, h => by simp at h
  | _ :: _, [], h => by simp at h
  | x :: a, y :: b, h => by
    have ih := any_ne a b (by simpa using h)
    rw [List.zip_cons_cons, List.any_cons, ih]
    by_cases hxy : x = y
    · subst hxy; simp
    · simp [bne, hxy]
theorem loop_two {R : Type} (a b : List Int) (step : Int → Option (Int ⊕ R)) (e o : R) (hab : a.length = b.length) (hl : (a.length : Int) ≤ 140737488355328)
    (h1 : ∀ (i : Nat) (x y : Int), i < a.length → a[i]? = some x → b[i]? = some y → step i = some (if (x != y) = true then .inr e else .inl (IntKind.i64.wrap ((i : Int) + 1)))) (h2 : step a.length = some (.inr o)) :
    runLoop step 0 = some (if (a == b) = true then o else e) := by
  have hz : (a.zip b).length = a.length := by rw [List.length_zip]; omega
  have := loop_any (a.zip b) step (fun p => p.1 != p.2) e o (by rw [hz]; exact hl) (fun i p hi hp hm => by
    rw [hz] at hi
    have ha : a[i]? = some a[i] := List.getElem?_eq_getElem hi
    have hb : b[i]? = some b[i] := List.getElem?_eq_getElem (by omega)
    have : p = (a[i], b[i]) := by
      rw [List.getElem?_eq_getElem (by rw [hz]; exact hi)] at hp
      injection hp with hp
      rw [← hp, List.getElem_zip]
    subst this
    exact h1 i _ _ hi ha hb) (by rw [hz]; exact h2)
  rw [this, any_ne a b hab]
  cases a == b <;> rfl
theorem len_ne {a b : Nat} : ((a : Int) != (b : Int)) = !(a == b) := by
  rw [Bool.eq_iff_iff]; simp; omega
theorem beq_len {a b : List Int} (h : ¬ a.length = b.length) : (a == b) = false := by
  rw [beq_eq_false_iff_ne]; intro e; exact h (by rw [e])
theorem sameW_ok {a b : List Int} (h : (a.length : Int) ≤ 140737488355328) : m_centoref01_Same a b = some (a == b) := by
  unfold m_centoref01_Same
  rw [len_ne]
  by_cases hab : a.length = b.length
  · have : (!(a.length == b.length)) = false := by simp [hab]
    rw [this, cond_false, loop_two a b (m_centoref01_Same_L0 a b) (.inl ()) (.inr ()) hab h (fun i x y hi hx hy => by
      unfold m_centoref01_Same_L0
      rw [lt_t hi, cond_true, getI_of hx, Option.bind_some, getI_of hy, Option.bind_some]
      cases x != y <;> rfl) (by unfold m_centoref01_Same_L0; rw [lt_f]; rfl)]
    cases a == b <;> rfl
  · have : (!(a.length == b.length)) = true := by simp [hab]
    rw [this, cond_true, beq_len hab]
theorem equalW_ok {a b : List Int} (h : (a.length : Int) ≤ 140737488355328) : m_slices_Equal_uint64_uint64 a b = some (a == b) := by
  unfold m_slices_Equal_uint64_uint64
  rw [len_ne]
  by_cases hab : a.length = b.length
  · have : (!(a.length == b.length)) = false := by simp [hab]
    rw [this, cond_false, loop_two a b (m_slices_Equal_uint64_uint64_L0 a b) (.inl ()) (.inr ()) hab h (fun i x y hi hx hy => by
      unfold m_slices_Equal_uint64_uint64_L0
      rw [lt_t hi, cond_true, getI_of hx, Option.bind_some, getI_of hy, Option.bind_some]
      cases x != y <;> rfl) (by unfold m_slices_Equal_uint64_uint64_L0; rw [lt_f]; rfl)]
    cases a == b <;> rfl
  · have : (!(a.length == b.length)) = true := by simp [hab]
    rw [this, cond_true, beq_len hab]
/-- two rows of trees, held side by side -/
theorem any_q (q : Tr → Tr → Bool) : ∀ (a b : List Tr), (a.zip b).any (fun p => !q p.1 p.2) = !((a.zip b).all fun p => q p.1 p.2)
  | [], b => by simp
  | x :: a, [] => by simp
  | x :: a, y :: b => by rw [List.zip_cons_cons, List.any_cons, any_q q a b, List.all_cons]; cases q x y <;> rfl
theorem loop_twoT {R : Type} (a b : List Tr) (q : Tr → Tr → Bool) (step : Int → Option (Int ⊕ R)) (e o : R) (hab : a.length = b.length) (hl : (a.length : Int) ≤ 140737488355328)
    (h1 : ∀ (i : Nat) (x y : Tr), i < a.length → a[i]? = some x → b[i]? = some y → x ∈ a → y ∈ b → step i = some (if (!q x y) = true then .inr e else .inl (IntKind.i64.wrap ((i : Int) + 1)))) (h2 : step a.length = some (.inr o)) :
    runLoop step 0 = some (if ((a.zip b).all fun p => q p.1 p.2) = true then o else e) := by
  have hz : (a.zip b).length = a.length := by rw [List.length_zip]; omega
  have := loop_any (a.zip b) step (fun p => !q p.1 p.2) e o (by rw [hz]; exact hl) (fun i p hi hp hm => by
    rw [hz] at hi
    have ha : a[i]? = some a[i] := List.getElem?_eq_getElem hi
    have hb : b[i]? = some b[i] := List.getElem?_eq_getElem (by omega)
    have : p = (a[i], b[i]) := by
      rw [List.getElem?_eq_getElem (by rw [hz]; exact hi)] at hp
      injection hp with hp
      rw [← hp, List.getElem_zip]
    subst this
    exact h1 i _ _ hi ha hb (List.getElem_mem _) (List.getElem_mem _)) (by rw [hz]; exact h2)
  rw [this, any_q q a b]
  cases (a.zip b).all fun p => q p.1 p.2 <;> rfl
theorem all_eqL (f : Tr → Tr) : ∀ (a b : List Tr), a.length = b.length → ((a.zip b).all fun p => eqT (f p.1) (f p.2)) = eqL (a.map f) (b.map f)
  | [], [], _ => rfl
  | [], _ :: _, h => by simp at h
  | _ :: _, [], h => by simp at h
  | x :: a, y :: b, h => by
    have ih := all_eqL f a b (by simpa using h)
    rw [List.zip_cons_cons, List.all_cons, ih]; rfl
theorem all_eqL0 : ∀ (a b : List Tr), a.length = b.length → ((a.zip b).all fun p => eqT p.1 p.2) = eqL a b
  | [], [], _ => rfl
  | [], _ :: _, h => by simp at h
  | _ :: _, [], h => by simp at h
  | x :: a, y :: b, h => by
    have ih := all_eqL0 a b (by simpa using h)
    rw [List.zip_cons_cons, List.all_cons, ih]; rfl
theorem eqL_len : ∀ (a b : List Tr), a.length ≠ b.length → eqL a b = false
  | [], [], h => by simp at h
  | [], _ :: _, _ => rfl
  | _ :: _, [], _ => rfl
  | x :: a, y :: b, h => by rw [eqL_cons, eqL_len a b (by simpa using h), Bool.and_false]
theorem same_lv : ∀ (k : Nat) (a b : Tr), Bd a → Bd b → SizeOf.sizeOf a < k → lv_centoref07_Same k a b = some (eqT a b)
  | 0, a, b, _, _, h => by omega
  | k + 1, a, b, ha, hb, hk => by
    have ih : ∀ x ∈ a.Kids, ∀ y ∈ b.Kids, lv_centoref07_Same k x y = some (eqT x y) := fun x hx y hy => same_lv k x y (ha.all x hx) (hb.all y hy) (by have := kid_lt hx; omega)
    have hw := ha.w
    have hkd := ha.k
    show b_centoref07_Same (lv_centoref07_Same k) a b = _
    unfold b_centoref07_Same
    rw [eqT_eq, sameW_ok (by omega), Option.bind_some, len_ne]
    by_cases h0 : a.Kind = b.Kind
    · have e0 : (a.Kind != b.Kind) = false := by simp [h0]
      have e1 : (a.Kind == b.Kind) = true := by simp [h0]
      rw [e0, e1, cond_false, cond_false, Option.bind_some, Bool.true_and]
      cases hw' : a.Words == b.Words with
      | false => rfl
      | true =>
        rw [Bool.not_true, cond_false, Bool.true_and]
        by_cases hab : a.Kids.length = b.Kids.length
        · have : (!(a.Kids.length == b.Kids.length)) = false := by simp [hab]
          rw [this, cond_false, loop_twoT a.Kids b.Kids eqT (b_centoref07_Same_L0 (lv_centoref07_Same k) a b) (.inl ()) (.inr ()) hab (by omega) (fun i x y hi hx hy hmx hmy => by
            unfold b_centoref07_Same_L0
            rw [lt_t hi, cond_true, getI_of hx, Option.bind_some, getI_of hy, Option.bind_some, ih x hmx y hmy, Option.bind_some]
            cases eqT x y <;> rfl) (by unfold b_centoref07_Same_L0; rw [lt_f]; rfl)]
          rw [all_eqL0 a.Kids b.Kids hab]
          cases eqL a.Kids b.Kids <;> rfl
        · have : (!(a.Kids.length == b.Kids.length)) = true := by simp [hab]
          rw [this, cond_true, eqL_len _ _ hab]
    · have e0 : (a.Kind != b.Kind) = true := by simp [h0]
      have e1 : (a.Kind == b.Kind) = false := by simp [h0]
      rw [e0, e1]; rfl
theorem same_ok {a b : Tr} (ha : Bd a) (hb : Bd b) : m_centoref07_Same a b = some (eqT a b) := lim_eq (SizeOf.sizeOf a + 1) fun k hk => same_lv k a b ha hb (by omega)
theorem requal_ok {a b : Tr} (ha : Bd a) (hb : Bd b) : m_centoref07_Equal a b = some (eqT (nrm a) (nrm b)) := by
  unfold m_centoref07_Equal
  rw [rnorm_ok ha, Option.bind_some, rnorm_ok hb, Option.bind_some, same_ok ha.nrm hb.nrm, Option.bind_some]
theorem nrm_null {t : Tr} (h : t.Kind = 0) : nrm t = ⟨0, [], []⟩ := by rw [nrm_eq, if_pos h]
theorem nrm_struct {t : Tr} (h : t.Kind = 1) : nrm t = ⟨1, tr (fun x => x == 0) t.Words, tr (fun x => x.Kind == 0) (t.Kids.map nrm)⟩ := by rw [nrm_eq, if_neg (by rw [h]; decide), if_pos h]
theorem nrm_list {t : Tr} (h0 : ¬ t.Kind = 0) (h1 : ¬ t.Kind = 1) : nrm t = ⟨t.Kind, t.Words, t.Kids.map nrm⟩ := by rw [nrm_eq, if_neg h0, if_neg h1]
theorem size_pos (t : Tr) : 0 < SizeOf.sizeOf t := by
  obtain ⟨k, w, ks⟩ := t
  simp only [S_api_Tree.mk.sizeOf_spec]
  omega
theorem equal_lv : ∀ (k : Nat), (∀ a b : Tr, Bd a → Bd b → 2 * SizeOf.sizeOf a < k → (lv_tree_Equal k).1 a b = some (eqT (nrm a) (nrm b))) ∧
    (∀ (l m : List Tr), (∀ x ∈ l, Bd x ∧ 2 * SizeOf.sizeOf x + 1 < k) → (∀ x ∈ m, Bd x) → (l.length : Int) ≤ 140737488355328 → 1 ≤ k → (lv_tree_Equal k).2 l m = some (eqL (l.map nrm) (m.map nrm)))
  | 0 => ⟨fun a b _ _ h => by omega, fun l m hl hm hn h => by omega⟩
  | k + 1 => by
    obtain ⟨i1, i2⟩ := equal_lv k
    refine ⟨fun a b ha hb hk => ?_, fun l m hl hm hn h => ?_⟩
    · have hp := size_pos a
      have hw := ha.w
      have hkd := ha.k
      have hw' := hb.w
      have hkd' := hb.k
      show b_tree_Equal (lv_tree_Equal k).1 (lv_tree_Equal k).2 a b = _
      unfold b_tree_Equal
      rw [eqT_eq, nrm_kind, nrm_kind]
      by_cases h0 : a.Kind = b.Kind
      · have e0 : (a.Kind != b.Kind) = false := by simp [h0]
        have e1 : (a.Kind == b.Kind) = true := by simp [h0]
        rw [e0, e1, cond_false, Bool.true_and]
        by_cases hz : a.Kind = 0
        · have e2 : (a.Kind == 0) = true := by simp [hz]
          rw [e2, cond_true, nrm_eq a, nrm_eq b, if_pos hz, if_pos (h0 ▸ hz)]
          rfl
        · have e2 : (a.Kind == 0) = false := by simp [hz]
          rw [e2, cond_false]
          have rec_ : ∀ l m : List Tr, (∀ x ∈ l, x ∈ a.Kids) → (∀ x ∈ m, x ∈ b.Kids) → l.length ≤ a.Kids.length → (lv_tree_Equal k).2 l m = some (eqL (l.map nrm) (m.map nrm)) := fun l m h1 h2 h3 =>
            i2 l m (fun x hx => ⟨ha.all x (h1 x hx), by have := kid_lt (h1 x hx); omega⟩) (fun x hx => hb.all x (h2 x hx)) (by omega) (by omega)
          by_cases h1 : a.Kind = 1
          · have e3 : (a.Kind == 1) = true := by simp [h1]
            have l1 := tr_len (fun x : Int => x == 0) a.Words
            have l2 := tr_len (fun x : Tr => x.Kind == 0) a.Kids
            have q1 : ∀ l : List Tr, tr (fun x : Tr => x.Kind == 0) (l.map nrm) = (tr (fun x : Tr => x.Kind == 0) l).map nrm := tr_map (fun x => by rw [nrm_kind])
            rw [e3, cond_true, trimWords_ok (by omega), Option.bind_some, trimWords_ok (by omega), Option.bind_some, equalW_ok (by omega), Option.bind_some, trimKids_ok (by omega), Option.bind_some, trimKids_ok (by omega), Option.bind_some,
              rec_ _ _ (fun x hx => tr_mem hx) (fun x hx => tr_mem hx) l2, Option.bind_some, nrm_struct h1, nrm_struct (h0 ▸ h1)]
            simp only [q1]
            cases tr (fun x => x == 0) a.Words == tr (fun x => x == 0) b.Words <;> rfl
          · have e3 : (a.Kind == 1) = false := by simp [h1]
            rw [e3, cond_false, equalW_ok (by omega), Option.bind_some, rec_ _ _ (fun x hx => hx) (fun x hx => hx) (Nat.le_refl _), Option.bind_some, nrm_list hz h1, nrm_list (fun q => hz (h0.trans q)) (fun q => h1 (h0.trans q))]
            simp only
            cases a.Words == b.Words <;> rfl
      · have e0 : (a.Kind != b.Kind) = true := by simp [h0]
        have e1 : (a.Kind == b.Kind) = false := by simp [h0]
        rw [e0, e1]; rfl
    · show b_slices_EqualFunc_api_Tree_api_Tree_api_Tree_api_Tree_f24 (lv_tree_Equal k).1 (lv_tree_Equal k).2 l m = _
      unfold b_slices_EqualFunc_api_Tree_api_Tree_api_Tree_api_Tree_f24
      rw [len_ne]
      by_cases hlm : l.length = m.length
      · have : (!(l.length == m.length)) = false := by simp [hlm]
        rw [this, cond_false, loop_twoT l m (fun x y => eqT (nrm x) (nrm y)) (b_slices_EqualFunc_api_Tree_api_Tree_api_Tree_api_Tree_f24_L0 (lv_tree_Equal k).1 l m) (.inl ()) (.inr ()) hlm hn (fun i x y hi hx hy hmx hmy => by
          unfold b_slices_EqualFunc_api_Tree_api_Tree_api_Tree_api_Tree_f24_L0
          rw [lt_t hi, cond_true, getI_of hx, Option.bind_some, getI_of hy, Option.bind_some, i1 x y (hl x hmx).1 (hm y hmy) (by have := (hl x hmx).2; omega), Option.bind_some]
          cases eqT (nrm x) (nrm y) <;> rfl) (by unfold b_slices_EqualFunc_api_Tree_api_Tree_api_Tree_api_Tree_f24_L0; rw [lt_f]; rfl)]
        rw [all_eqL nrm l m hlm]
        cases eqL (l.map nrm) (m.map nrm) <;> rfl
      · have : (!(l.length == m.length)) = true := by simp [hlm]
        rw [this, cond_true, eqL_len _ _ (by simpa using hlm)]
theorem equal_ok {a b : Tr} (ha : Bd a) (hb : Bd b) : m_tree_Equal a b = some (eqT (nrm a) (nrm b)) := lim_eq (2 * SizeOf.sizeOf a + 1) fun k hk => (equal_lv k).1 a b ha hb (by omega)

/-- how many parts a tree has -/
def pt (t : Tr) : Nat := 1 + t.Words.length + (t.Kids.attach.map fun k => pt k.1).sum
termination_by SizeOf.sizeOf t
decreasing_by exact kid_lt k.2
theorem pt_eq (t : Tr) : pt t = 1 + t.Words.length + (t.Kids.map pt).sum := by
  rw [pt]
  simp only [List.attach_map_val]
theorem shallow_lv : ∀ (k : Nat) (t : Tr) (d left : Int), Bd t → SizeOf.sizeOf t < k → 0 ≤ d → d ≤ 100 → 0 ≤ left → left ≤ 1000000 → ∃ r, lv_centoref07_Shallow k t d left = some r ∧ -1 ≤ r ∧ r ≤ 1000000 ∧ (0 ≤ r → r + pt t ≤ left)
  | 0, t, _, _, _, h, _, _, _, _ => by omega
  | k + 1, t, d, left, hb, hk, hd0, hd1, hl0, hl1 => by
    have ih : ∀ x ∈ t.Kids, ∀ d left : Int, 0 ≤ d → d ≤ 100 → 0 ≤ left → left ≤ 1000000 → ∃ r, lv_centoref07_Shallow k x d left = some r ∧ -1 ≤ r ∧ r ≤ 1000000 ∧ (0 ≤ r → r + pt x ≤ left) := fun x hx d left => shallow_lv k x d left (hb.all x hx) (by have := kid_lt hx; omega)
    have hw := hb.w
    have hkd := hb.k
    show ∃ r, b_centoref07_Shallow (lv_centoref07_Shallow k) t d left = some r ∧ _
    unfold b_centoref07_Shallow
    rw [i64s (x := left - 1) (by omega) (by omega), i64s (by omega) (by omega), pt_eq]
    cases hc : cond (d == 0) true (decide (left - 1 - (t.Words.length : Int) < 0)) with
    | true => exact ⟨-1, rfl, by omega, by omega, fun h => by omega⟩
    | false =>
      rw [cond_false]
      have hd : ¬ d = 0 ∧ 0 ≤ left - 1 - (t.Words.length : Int) := by
        by_cases h : d = 0
        · simp [h] at hc
        · have e : (d == 0) = false := by simp [h]
          rw [e, cond_false, decide_eq_false_iff_not] at hc
          exact ⟨h, by omega⟩
      obtain ⟨r, h1, h2⟩ := runLoop_rule (step := b_centoref07_Shallow_L0 (lv_centoref07_Shallow k) t d)
        (fun s => ∃ j : Nat, s.2 = j ∧ j ≤ t.Kids.length ∧ -1 ≤ s.1 ∧ s.1 ≤ 1000000 ∧ (0 ≤ s.1 → s.1 + (((t.Kids.take j).map pt).sum : Nat) ≤ left - 1 - (t.Words.length : Int)))
        (fun s => t.Kids.length - s.2.toNat) (fun r => -1 ≤ r ∧ r ≤ 1000000 ∧ (0 ≤ r → r + ((t.Kids.map pt).sum : Nat) ≤ left - 1 - (t.Words.length : Int))) (fun s hI => by
          obtain ⟨l, i⟩ := s
          obtain ⟨j, rfl, hj, g1, g2, g3⟩ := hI
          simp only at g1 g2 g3 ⊢
          unfold b_centoref07_Shallow_L0
          simp only
          by_cases hji : j < t.Kids.length
          · rw [lt_t hji, cond_true]
            by_cases hl : 0 ≤ l
            · have e : decide (0 ≤ l) = true := by simp [hl]
              have hx : t.Kids[j]? = some t.Kids[j] := List.getElem?_eq_getElem hji
              obtain ⟨r, q1, q2, q3, q4⟩ := ih t.Kids[j] (List.getElem_mem hji) (d - 1) l (by omega) (by omega) hl g2
              rw [e, cond_true, getI_of hx, Option.bind_some, i64s (by omega) (by omega), q1, Option.bind_some, i64s (by omega) (by omega)]
              refine .inl ⟨_, rfl, ⟨j + 1, by simp only; omega, by omega, q2, q3, fun hr => ?_⟩, by simp only; omega⟩
              have := q4 hr
              have := g3 hl
              rw [List.take_add_one, hx]
              simp only [Option.toList_some, List.map_append, List.map_cons, List.map_nil, List.sum_append, List.sum_cons, List.sum_nil]
              simp only at hr
              omega
            · have e : decide (0 ≤ l) = false := by simp [hl]
              rw [e, cond_false]
              exact .inr ⟨l, rfl, g1, g2, fun h => absurd h hl⟩
          · have hj' : j = t.Kids.length := by omega
            subst hj'
            rw [lt_f, cond_false]
            rw [List.take_length] at g3
            exact .inr ⟨l, rfl, g1, g2, g3⟩) (left - 1 - (t.Words.length : Int), 0) ⟨0, rfl, Nat.zero_le _, by simp only; omega, by simp only; omega, fun _ => by simp⟩
      rw [h1]
      refine ⟨r, rfl, h2.1, h2.2.1, fun hr => ?_⟩
      have := h2.2.2 hr
      omega
theorem getI_mem {α : Type} {xs : List α} {i : Int} {x : α} (h : getI xs i = some x) : x ∈ xs := List.mem_of_getElem? (getI_get h)
theorem shallow_same : ∀ (k k' : Nat) (t : Tr) (d left : Int), SizeOf.sizeOf t < k → SizeOf.sizeOf t < k' → lv_centoref07_Shallow k t d left = lv_centoref07_Shallow k' t d left
  | 0, _, t, _, _, h, _ => by omega
  | k + 1, 0, t, _, _, _, h => by omega
  | k + 1, k' + 1, t, d, left, h, h' => by
    show b_centoref07_Shallow (lv_centoref07_Shallow k) t d left = b_centoref07_Shallow (lv_centoref07_Shallow k') t d left
    have e : b_centoref07_Shallow_L0 (lv_centoref07_Shallow k) t d = b_centoref07_Shallow_L0 (lv_centoref07_Shallow k') t d := funext fun s => by
      unfold b_centoref07_Shallow_L0
      cases hx : getI t.Kids s.2 with
      | none => rfl
      | some x => simp only [Option.bind_some, shallow_same k k' x (IntKind.i64.wrap (d - 1)) s.1 (by have := kid_lt (getI_mem hx); omega) (by have := kid_lt (getI_mem hx); omega)]
    unfold b_centoref07_Shallow
    rw [e]
theorem shal_ok {t : Tr} (h : Bd t) {left : Int} (h0 : 0 ≤ left) (h1 : left ≤ 1000000) : ∃ r, m_centoref07_Shallow t 80 left = some r ∧ -1 ≤ r ∧ r ≤ 1000000 ∧ (0 ≤ r → r + pt t ≤ left) := by
  obtain ⟨r, h2, h3⟩ := shallow_lv (SizeOf.sizeOf t + 1) t 80 left h (by omega) (by omega) (by omega) h0 h1
  exact ⟨r, lim_eq (SizeOf.sizeOf t + 1) fun k hk => by rw [shallow_same k (SizeOf.sizeOf t + 1) t 80 left (by omega) (by omega)]; exact h2, h3⟩
def wid (c : Int) : Nat := if c = 0 then 0 else if c = 1 then 1 else if c = 2 then 8 else if c = 3 then 16 else if c = 4 then 32 else 64
def fitsP (c w : Int) : Bool := decide (w < 2 ^ wid c)
theorem code_cases {c : Int} (h0 : 0 ≤ c) (h1 : c ≤ 5) : c = 0 ∨ c = 1 ∨ c = 2 ∨ c = 3 ∨ c = 4 ∨ c = 5 := by omega
theorem wfits_ok {c w : Int} (h0 : 0 ≤ c) (h1 : c ≤ 5) (hw : 0 ≤ w) : m_word_Fits c w = some (fitsP c w) := by
  have key : ∀ n : Nat, n ≤ 64 → (Int.fdiv w (2 ^ min (Int.toNat (n : Int)) 64) == 0) = decide (w < 2 ^ n) := fun n hn => by
    rw [Int.toNat_natCast, Nat.min_eq_left hn, Int.fdiv_eq_ediv_of_nonneg _ (Int.le_of_lt (Int.pow_pos (by decide)))]
    have hp : (0 : Int) < 2 ^ n := Int.pow_pos (by decide)
    rw [Bool.eq_iff_iff, beq_iff_eq, decide_eq_true_eq]
    constructor
    · intro h
      rcases Int.lt_or_le w (2 ^ n) with h2 | h2
      · exact h2
      · have := Int.ediv_le_ediv hp h2
        rw [Int.ediv_self (Int.ne_of_gt hp)] at this
        omega
    · intro h; exact Int.ediv_eq_zero_of_lt hw h
  have e : ∀ n : Nat, n ≤ 64 → (some (((n : Int), true) : Int × Bool)).bind (fun y2 => (cond y2.2 ((guardI (0 ≤ y2.1)).bind fun u5 => some (cond y2.2 ((Int.fdiv w (2 ^ min (Int.toNat y2.1) 64)) == 0) false)) (some false)).bind fun (z4 : Bool) => some z4) = some (decide (w < 2 ^ n)) := fun n hn => by
    rw [Option.bind_some]
    simp only [cond_true]
    rw [guardI_ok (by omega), Option.bind_some, Option.bind_some, key n hn]
  unfold m_word_Fits fitsP
  rcases code_cases h0 h1 with rfl | rfl | rfl | rfl | rfl | rfl
  · exact e 0 (by decide)
  · exact e 1 (by decide)
  · exact e 8 (by decide)
  · exact e 16 (by decide)
  · exact e 32 (by decide)
  · exact e 64 (by decide)
/-- may a kid stand in a tree of a kind? -/
def okk (kind : Int) (k : Tr) : Bool := if 2 ≤ kind ∧ kind ≤ 7 then k.Kind == 10 && fitsP (kind - 2) (k.Words.headD 0) else k.Kind != 10 && (kind != 9 || k.Kind == 1)
/-- may a tree be? -/
def rt (t : Tr) (d : Nat) : Bool :=
  if t.Kind = 0 then t.Words.length == 0 && t.Kids.length == 0
  else if t.Kind = 10 then t.Words.length == 1 && t.Kids.length == 0
  else if t.Kind < 0 ∨ 10 < t.Kind ∨ d = 0 ∨ 65536 ≤ t.Words.length ∨ (t.Kind = 1 ∧ 65536 ≤ t.Kids.length) ∨ 1048576 ≤ t.Kids.length ∨ (1 < t.Kind ∧ 0 < t.Words.length) then false
  else (t.Kids.attach.map fun k => rt k.1 (d - 1) && okk t.Kind k.1).all id
termination_by SizeOf.sizeOf t
decreasing_by exact kid_lt k.2
theorem rt_eq (t : Tr) (d : Nat) : rt t d = if t.Kind = 0 then t.Words.length == 0 && t.Kids.length == 0
  else if t.Kind = 10 then t.Words.length == 1 && t.Kids.length == 0
  else if t.Kind < 0 ∨ 10 < t.Kind ∨ d = 0 ∨ 65536 ≤ t.Words.length ∨ (t.Kind = 1 ∧ 65536 ≤ t.Kids.length) ∨ 1048576 ≤ t.Kids.length ∨ (1 < t.Kind ∧ 0 < t.Words.length) then false
  else t.Kids.all fun k => rt k (d - 1) && okk t.Kind k := by
  rw [rt]
  have : (t.Kids.attach.map fun k => rt k.1 (d - 1) && okk t.Kind k.1) = t.Kids.map fun k => rt k (d - 1) && okk t.Kind k := List.attach_map_val (f := fun k => rt k (d - 1) && okk t.Kind k)
  rw [this, List.all_map]
  rfl
theorem rt_atom {t : Tr} (h : t.Kind = 10) (d d' : Nat) : rt t d = rt t d' := by
  have h0 : ¬ t.Kind = 0 := by rw [h]; decide
  rw [rt_eq t d, rt_eq t d']
  simp only [if_neg h0, if_pos h]
theorem rt_atom_w {t : Tr} (h : t.Kind = 10) {d : Nat} (hr : rt t d = true) : ∃ w, t.Words = [w] := by
  rw [rt_eq, if_neg (by omega), if_pos h, Bool.and_eq_true, beq_iff_eq] at hr
  obtain ⟨k, w, ks⟩ := t
  obtain ⟨h1, _⟩ := hr
  simp only at h1 ⊢
  exact List.length_eq_one_iff.1 h1
theorem len0 {n : Nat} : ((n : Int) == 0) = (n == 0) := by rw [Bool.eq_iff_iff, beq_iff_eq, beq_iff_eq]; omega
theorem len1 {n : Nat} : ((n : Int) == 1) = (n == 1) := by rw [Bool.eq_iff_iff, beq_iff_eq, beq_iff_eq]; omega
theorem cond_and (a b : Bool) : cond a b false = (a && b) := by cases a <;> rfl
theorem all_any {α : Type} (p : α → Bool) : ∀ l : List α, l.any (fun x => !p x) = !(l.all p)
  | [] => rfl
  | x :: l => by rw [List.any_cons, List.all_cons, all_any p l]; cases p x <;> rfl
theorem loop_all {α R : Type} (xs : List α) (step : Int → Option (Int ⊕ R)) (p : α → Bool) (e o : R) (hl : (xs.length : Int) ≤ 140737488355328)
    (h1 : ∀ (i : Nat) (x : α), i < xs.length → xs[i]? = some x → x ∈ xs → step i = some (if p x = true then .inl (IntKind.i64.wrap ((i : Int) + 1)) else .inr e)) (h2 : step xs.length = some (.inr o)) : runLoop step 0 = some (if xs.all p = true then o else e) := by
  rw [loop_any xs step (fun x => !p x) e o hl (fun i x hi hx hm => by rw [h1 i x hi hx hm]; cases p x <;> rfl) h2, all_any]
  cases xs.all p <;> rfl
theorem list_ok (n : Int) : m_tree_List n = some (decide (2 ≤ n) && decide (n ≤ 9)) := by unfold m_tree_List; rw [cond_and]
theorem structs_ok {l : List Tr} (hl : (l.length : Int) ≤ 140737488355328) : m_tree_allStructs l = some (l.all fun x => x.Kind == 1) := by
  unfold m_tree_allStructs
  rw [loop_all l (m_tree_allStructs_L0 l) (fun x => x.Kind == 1) (.inl ()) (.inr ()) hl (fun i x hi hx hm => by
    unfold m_tree_allStructs_L0
    rw [lt_t hi, cond_true, getI_of hx, Option.bind_some]
    simp only [bne]
    cases x.Kind == 1 <;> rfl) (by unfold m_tree_allStructs_L0; rw [lt_f]; rfl), Option.bind_some]
  cases l.all fun x => x.Kind == 1 <;> rfl
theorem all_and {α : Type} (p q : α → Bool) : ∀ l : List α, (l.all fun x => p x && q x) = (l.all p && l.all q)
  | [] => rfl
  | x :: l => by rw [List.all_cons, List.all_cons, List.all_cons, all_and p q l]; cases p x <;> cases q x <;> cases l.all p <;> cases l.all q <;> rfl
theorem all_congr {α : Type} {p q : α → Bool} : ∀ {l : List α}, (∀ x ∈ l, p x = q x) → l.all p = l.all q
  | [], _ => rfl
  | x :: l, h => by rw [List.all_cons, List.all_cons, h x (.head _), all_congr fun y hy => h y (.tail _ hy)]
/-- the program's: no atom may stand where a tree may -/
def rq (t : Tr) (d : Nat) : Bool := rt t d && t.Kind != 10
def ra (c : Int) (x : Tr) : Bool := x.Kind == 10 && (rt x 64 && fitsP c (x.Words.headD 0))
theorem right_lv : ∀ (k : Nat), (∀ t : Tr, Bd t → (2 * SizeOf.sizeOf t + 1 < k ∨ (t.Kind = 10 ∧ 0 < k)) → (lv_tree_Right k).1 t = some (rt t 64)) ∧
    (∀ (t : Tr) (d : Nat), Bd t → 2 * SizeOf.sizeOf t < k → d ≤ 64 → (lv_tree_Right k).2.1 t (d : Int) = some (rq t d)) ∧
    (∀ (l : List Tr) (d : Nat), (∀ x ∈ l, Bd x ∧ 2 * SizeOf.sizeOf x + 1 < k) → (l.length : Int) ≤ 140737488355328 → d ≤ 64 → 1 ≤ k → (lv_tree_Right k).2.2.1 l (d : Int) = some (l.all fun x => rq x d)) ∧
    (∀ (l : List Tr) (c : Int), (∀ x ∈ l, Bd x) → (l.length : Int) ≤ 140737488355328 → 0 ≤ c → c ≤ 5 → 2 ≤ k → (lv_tree_Right k).2.2.2 l c = some (l.all (ra c)))
  | 0 => ⟨fun t _ h => by omega, fun t d _ h => by omega, fun l d _ _ _ h => by omega, fun l c _ _ _ _ h => by omega⟩
  | k + 1 => by
    obtain ⟨i1, i2, i3, i4⟩ := right_lv k
    refine ⟨fun t hb hk => ?_, fun t d hb hk hd => ?_, fun l d hl hn hd hk => ?_, fun l c hl hn h0 h5 hk => ?_⟩
    · show b_tree_Right (lv_tree_Right k).1 (lv_tree_Right k).2.1 (lv_tree_Right k).2.2.1 (lv_tree_Right k).2.2.2 t = _
      unfold b_tree_Right
      rw [len0, len1]
      by_cases h10 : t.Kind = 10
      · have e : (t.Kind == 10) = true := by simp [h10]
        rw [e, cond_true, cond_and, rt_eq, if_neg (by rw [h10]; decide), if_pos h10]
      · have e : (t.Kind == 10) = false := by simp [h10]
        have e2 : (t.Kind != 10) = true := by simp [h10]
        have := i2 t 64 hb (by rcases hk with hk | hk; omega; exact absurd hk.1 h10) (by decide)
        rw [e, cond_false, show (64 : Int) = ((64 : Nat) : Int) from rfl, this, Option.bind_some]
        unfold rq
        rw [e2, Bool.and_true]
    · have hkd := hb.k
      have hw := hb.w
      show b_tree_right (lv_tree_Right k).1 (lv_tree_Right k).2.1 (lv_tree_Right k).2.2.1 (lv_tree_Right k).2.2.2 t (d : Int) = _
      unfold b_tree_right rq
      rw [len0, len0, rt_eq]
      by_cases h0 : t.Kind = 0
      · have e : (t.Kind == 0) = true := by simp [h0]
        have e2 : (t.Kind != 10) = true := by rw [h0]; rfl
        rw [e, e2, cond_true, cond_and, if_pos h0, Bool.and_true]
      have e0 : (t.Kind == 0) = false := by simp [h0]
      rw [e0, cond_false, if_neg h0]
      by_cases hd0 : d = 0
      · subst hd0
        have e : (((0 : Nat) : Int) == 0) = true := rfl
        rw [e, cond_true]
        by_cases h10 : t.Kind = 10
        · simp [h10]
        · rw [if_neg h10, if_pos (by omega), Bool.false_and]
      have ed : ((d : Int) == 0) = false := by rw [beq_eq_false_iff_ne]; omega
      rw [ed, cond_false]
      obtain ⟨d', rfl⟩ : ∃ d', d = d' + 1 := ⟨d - 1, by omega⟩
      have e3 : ((d' + 1 : Nat) : Int) - 1 = (d' : Int) := by omega
      have ih3 := i3 t.Kids d' (fun x hx => ⟨hb.all x hx, by have := kid_lt hx; omega⟩) (by omega) (by omega) (by have := size_pos t; omega)
      rw [i64s (x := ((d' + 1 : Nat) : Int) - 1) (by omega) (by omega), e3, ih3, Nat.add_sub_cancel]
      by_cases h1 : t.Kind = 1
      · have e : (t.Kind == 1) = true := by simp [h1]
        have e2 : (t.Kind != 10) = true := by rw [h1]; rfl
        have e10 : ¬ t.Kind = 10 := by omega
        have ho : ∀ x : Tr, okk t.Kind x = (x.Kind != 10) := fun x => by unfold okk; rw [h1, if_neg (by decide)]; simp
        rw [e, e2, cond_true, if_neg e10, Bool.and_true]
        simp only [ho]
        by_cases hw' : t.Words.length < 65536
        · have q1 : decide ((t.Words.length : Int) < 65536) = true := by rw [decide_eq_true_eq]; omega
          by_cases hk' : t.Kids.length < 65536
          · have q2 : decide ((t.Kids.length : Int) < 65536) = true := by rw [decide_eq_true_eq]; omega
            rw [q1, q2, if_neg (by omega)]
            rfl
          · have q2 : decide ((t.Kids.length : Int) < 65536) = false := by rw [decide_eq_false_iff_not]; omega
            rw [q1, q2, if_pos (by omega)]
            rfl
        · have q1 : decide ((t.Words.length : Int) < 65536) = false := by rw [decide_eq_false_iff_not]; omega
          rw [q1, if_pos (by omega)]
          rfl
      have e1 : (t.Kind == 1) = false := by simp [h1]
      rw [e1, cond_false, list_ok, Option.bind_some]
      by_cases hbad : ¬ (2 ≤ t.Kind ∧ t.Kind ≤ 9) ∨ 0 < t.Words.length ∨ 1048576 ≤ t.Kids.length
      · have q : cond (cond (!(decide (2 ≤ t.Kind) && decide (t.Kind ≤ 9))) true (decide (0 < (t.Words.length : Int)))) true (decide (1048576 ≤ (t.Kids.length : Int))) = true := by
          cases hq : cond (cond (!(decide (2 ≤ t.Kind) && decide (t.Kind ≤ 9))) true (decide (0 < (t.Words.length : Int)))) true (decide (1048576 ≤ (t.Kids.length : Int))) with
          | true => rfl
          | false =>
            have hc : ∀ a b c : Bool, cond (cond (!a) true b) true c = false → a = true ∧ b = false ∧ c = false := by decide
            obtain ⟨z1, z2, z3⟩ := hc _ _ _ hq
            rw [Bool.and_eq_true, decide_eq_true_eq, decide_eq_true_eq] at z1
            rw [decide_eq_false_iff_not] at z2 z3
            omega
        rw [q, cond_true]
        by_cases h10 : t.Kind = 10
        · have e2 : (t.Kind != 10) = false := by simp [h10]
          rw [e2, Bool.and_false]
        · rw [if_neg h10, if_pos (by omega), Bool.false_and]
      · have hg : 2 ≤ t.Kind ∧ t.Kind ≤ 9 ∧ ¬ 0 < t.Words.length ∧ ¬ 1048576 ≤ t.Kids.length := by omega
        have q2 : decide (0 < (t.Words.length : Int)) = false := by rw [decide_eq_false_iff_not]; omega
        have q3 : decide (1048576 ≤ (t.Kids.length : Int)) = false := by rw [decide_eq_false_iff_not]; omega
        have e10 : ¬ t.Kind = 10 := by omega
        have e2 : (t.Kind != 10) = true := by simp [e10]
        rw [decide_eq_true hg.1, decide_eq_true hg.2.1, q2, q3, e2, if_neg e10, if_neg (by omega), Bool.and_true]
        simp only [Bool.and_true, Bool.not_true, cond_false]
        by_cases h8 : t.Kind = 8
        · have e : (t.Kind == 8) = true := by simp [h8]
          have ho : ∀ x : Tr, okk t.Kind x = (x.Kind != 10) := fun x => by unfold okk; rw [h8, if_neg (by decide)]; simp
          rw [e, cond_true, Option.bind_some]
          simp only [ho]
          rfl
        have e8 : (t.Kind == 8) = false := by simp [h8]
        rw [e8, cond_false]
        by_cases h9 : t.Kind = 9
        · have e : (t.Kind == 9) = true := by simp [h9]
          have ho : ∀ x : Tr, (rt x d' && okk t.Kind x) = (rq x d' && x.Kind == 1) := fun x => by
            unfold okk rq
            rw [h9, if_neg (by decide)]
            have : ((9 : Int) != 9) = false := rfl
            rw [this, Bool.false_or, Bool.and_assoc]
          rw [e, cond_true, structs_ok (by omega), Option.bind_some]
          simp only [ho]
          rw [all_and]
          cases t.Kids.all fun x => x.Kind == 1 with
          | false => rw [Bool.and_false]; rfl
          | true => rw [Bool.and_true]; rfl
        · have e : (t.Kind == 9) = false := by simp [h9]
          have hd7 : 2 ≤ t.Kind ∧ t.Kind ≤ 7 := by omega
          rw [e, cond_false, i64s (by omega) (by omega), i4 t.Kids (t.Kind - 2) hb.all (by omega) (by omega) (by omega) (by have := size_pos t; omega), Option.bind_some]
          congr 1
          refine all_congr fun x hx => ?_
          unfold okk ra
          rw [if_pos hd7]
          by_cases hx10 : x.Kind = 10
          · rw [rt_atom hx10 d' 64]
            have : (x.Kind == 10) = true := by simp [hx10]
            rw [this, Bool.true_and, Bool.true_and]
          · have : (x.Kind == 10) = false := by simp [hx10]
            rw [this, Bool.false_and, Bool.false_and, Bool.and_false]
    · show b_tree_allRight (lv_tree_Right k).1 (lv_tree_Right k).2.1 (lv_tree_Right k).2.2.1 (lv_tree_Right k).2.2.2 l (d : Int) = _
      unfold b_tree_allRight
      rw [loop_all l (b_tree_allRight_L0 (lv_tree_Right k).2.1 l (d : Int)) (fun x => rq x d) (.inl ()) (.inr ()) hn (fun i x hi hx hm => by
        unfold b_tree_allRight_L0
        rw [lt_t hi, cond_true, getI_of hx, Option.bind_some, i2 x d (hl x hm).1 (by have := (hl x hm).2; omega) hd, Option.bind_some]
        cases rq x d <;> rfl) (by unfold b_tree_allRight_L0; rw [lt_f]; rfl), Option.bind_some]
      cases l.all fun x => rq x d <;> rfl
    · show b_tree_allAtoms (lv_tree_Right k).1 (lv_tree_Right k).2.1 (lv_tree_Right k).2.2.1 (lv_tree_Right k).2.2.2 l c = _
      unfold b_tree_allAtoms
      rw [loop_all l (b_tree_allAtoms_L0 (lv_tree_Right k).1 l c) (ra c) (.inl ()) (.inr ()) hn (fun i x hi hx hm => by
        unfold b_tree_allAtoms_L0 ra
        rw [lt_t hi, cond_true, getI_of hx, Option.bind_some]
        by_cases hx10 : x.Kind = 10
        · have e : (x.Kind == 10) = true := by simp [hx10]
          have e2 : (x.Kind != 10) = false := by simp [hx10]
          rw [e, e2, cond_false, i1 x (hl x hm) (.inr ⟨hx10, by omega⟩), Option.bind_some, Bool.true_and]
          cases hr : rt x 64 with
          | false => rfl
          | true =>
            obtain ⟨w, hw⟩ := rt_atom_w hx10 hr
            have hu := (hl x hm).u w (by rw [hw]; exact .head _)
            have hg0 : getI [w] (0 : Int) = some w := rfl
            rw [cond_true, hw, hg0, Option.bind_some, wfits_ok h0 h5 hu.1, Option.bind_some]
            simp only [cond_false, List.headD_cons, Bool.true_and, Bool.not_true]
            cases fitsP c w <;> rfl
        · have e : (x.Kind == 10) = false := by simp [hx10]
          have e2 : (x.Kind != 10) = true := by simp [hx10]
          rw [e, e2]
          rfl) (by unfold b_tree_allAtoms_L0; rw [lt_f]; rfl), Option.bind_some]
      cases l.all (ra c) <;> rfl
theorem right_ok {t : Tr} (h : Bd t) : m_tree_Right t = some (rt t 64) := lim_eq (2 * SizeOf.sizeOf t + 2) fun k hk => (right_lv k).1 t h (.inl (by omega))

theorem pow256 (k : Nat) : 256 ^ k = 2 ^ (8 * k) := by rw [Nat.pow_mul]
def wideN (m : Nat) : Nat → Nat
  | 0 => 0
  | k + 1 => wideN m k + (if m / 2 ^ k % 2 = 1 then 255 * 256 ^ k else 0)
theorem wideN_lt (m : Nat) : ∀ k, wideN m k < 256 ^ k
  | 0 => by simp [wideN]
  | k + 1 => by
    have := wideN_lt m k
    have h : 256 ^ (k + 1) = 256 * 256 ^ k := by rw [Nat.pow_succ, Nat.mul_comm]
    simp only [wideN]
    split <;> omega
theorem pow256_le {k : Nat} (hk : k < 8) : 256 ^ (k + 1) ≤ 2 ^ 64 := by
  rw [pow256]; exact Nat.pow_le_pow_right (by decide) (by omega)
def bitB (m i : Nat) : Bool := decide (m / 2 ^ i % 2 = 1)
theorem bitB_t {m i : Nat} (h : bitB m i = true) : m / 2 ^ i % 2 = 1 := of_decide_eq_true h
theorem bitB_f {m i : Nat} (h : bitB m i = false) : ¬ m / 2 ^ i % 2 = 1 := of_decide_eq_false h
theorem div_pow_succ (m k : Nat) : m / 2 ^ k / 2 = m / 2 ^ (k + 1) := by rw [Nat.div_div_eq_div_mul, Nat.pow_succ]
theorem beq_mod2 (q : Nat) : ((q : Int) % 2 == 1) = decide (q % 2 = 1) := by rw [Bool.eq_iff_iff]; simp; omega
/-- a word of bytes f 0, f 1, .. -/
def bySum (f : Nat → Nat) : Nat → Nat
  | 0 => 0
  | k + 1 => 2 ^ (8 * k) * f k + bySum f k
theorem bySum_lt (f : Nat → Nat) (hf : ∀ k, f k < 256) : ∀ k, bySum f k < 2 ^ (8 * k)
  | 0 => by simp [bySum]
  | k + 1 => by
    have h1 := bySum_lt f hf k
    have h2 := hf k
    have h3 : 2 ^ (8 * (k + 1)) = 2 ^ (8 * k) * 256 := by rw [Nat.mul_add, Nat.pow_add]
    have h4 : 2 ^ (8 * k) * f k ≤ 2 ^ (8 * k) * 255 := Nat.mul_le_mul_left _ (by omega)
    simp only [bySum]
    omega
theorem bySum_bit (f : Nat → Nat) (hf : ∀ k, f k < 256) (i : Nat) : ∀ k, Nat.testBit (bySum f k) i = (decide (i < 8 * k) && Nat.testBit (f (i / 8)) (i % 8))
  | 0 => by simp [bySum]
  | k + 1 => by
    have h := bySum_bit f hf i k
    simp only [bySum]
    rw [Nat.testBit_two_pow_mul_add _ (bySum_lt f hf k)]
    by_cases h1 : i < 8 * k
    · rw [if_pos h1, h]
      simp [h1, show i < 8 * (k + 1) by omega]
    · rw [if_neg h1]
      by_cases h2 : i < 8 * (k + 1)
      · have h3 : i / 8 = k := by omega
        have h4 : i - 8 * k = i % 8 := by omega
        rw [h3, h4]
        simp [h2]
      · have h5 : f k < 2 ^ (i - 8 * k) := Nat.lt_of_lt_of_le (hf k) (Nat.pow_le_pow_right (n := 2) (by decide) (show 8 ≤ i - 8 * k by omega))
        rw [Nat.testBit_lt_two_pow h5]
        simp [h2]
def byteN (n k : Nat) : Nat := n / 256 ^ k % 256
theorem byteN_lt (n k : Nat) : byteN n k < 256 := Nat.mod_lt _ (by decide)
theorem byteN_bit (n k j : Nat) (hj : j < 8) : Nat.testBit (byteN n k) j = Nat.testBit n (8 * k + j) := by
  unfold byteN
  rw [pow256, show (256 : Nat) = 2 ^ 8 from rfl, Nat.testBit_mod_two_pow, Nat.testBit_div_two_pow]
  simp [hj, Nat.add_comm]
theorem sum_bytes (n : Nat) (h : n < 2 ^ 64) : bySum (byteN n) 8 = n := by
  refine Nat.eq_of_testBit_eq fun i => ?_
  rw [bySum_bit _ (byteN_lt n)]
  by_cases hi : i < 64
  · rw [byteN_bit _ _ _ (Nat.mod_lt _ (by decide))]
    simp [hi, show 8 * (i / 8) + i % 8 = i by omega]
  · rw [Nat.testBit_lt_two_pow (Nat.lt_of_lt_of_le h (Nat.pow_le_pow_right (by decide) (by omega)))]
    simp [hi]
/-- two words mixed by a mask of bytes -/
def mixF (a b m k : Nat) : Nat := if bitB m k then byteN b k else byteN a k
theorem mixF_lt (a b m k : Nat) : mixF a b m k < 256 := by unfold mixF; split <;> exact byteN_lt _ _
def mixN (a b m : Nat) : Nat := bySum (mixF a b m) 8
def wideF (m k : Nat) : Nat := if bitB m k then 255 else 0
theorem wideF_lt (m k : Nat) : wideF m k < 256 := by unfold wideF; split <;> decide
theorem wideN_sum (m : Nat) : ∀ k, wideN m k = bySum (wideF m) k
  | 0 => rfl
  | k + 1 => by
    simp only [wideN, bySum, wideN_sum m k, wideF, bitB, decide_eq_true_eq]
    rw [pow256]
    split <;> omega
theorem bit255 (j : Nat) (hj : j < 8) : Nat.testBit 255 j = true := by
  rw [show (255 : Nat) = 2 ^ 8 - 1 from rfl, Nat.testBit_two_pow_sub_one]; simp [hj]
theorem wideN_bit (m i : Nat) (hi : i < 64) : Nat.testBit (wideN m 8) i = bitB m (i / 8) := by
  rw [wideN_sum, bySum_bit _ (wideF_lt m)]
  unfold wideF
  have := bit255 (i % 8) (Nat.mod_lt _ (by decide))
  cases bitB m (i / 8) <;> simp [hi, this]
theorem wideN_lt64 (m : Nat) : wideN m 8 < 2 ^ 64 := by rw [wideN_sum]; exact bySum_lt _ (wideF_lt m) 8
theorem mix_bits (a b m : Nat) (ha : a < 2 ^ 64) (hb : b < 2 ^ 64) : (a &&& (18446744073709551615 - wideN m 8)) ||| (b &&& wideN m 8) = mixN a b m := by
  refine Nat.eq_of_testBit_eq fun i => ?_
  unfold mixN
  rw [bySum_bit _ (mixF_lt a b m), Nat.testBit_or, Nat.testBit_and, Nat.testBit_and, show (18446744073709551615 - wideN m 8) = 2 ^ 64 - (wideN m 8 + 1) by have := wideN_lt64 m; omega, Nat.testBit_two_pow_sub_succ (wideN_lt64 m)]
  by_cases hi : i < 64
  · have h := wideN_bit m i hi
    have hs : 8 * (i / 8) + i % 8 = i := by omega
    have hj : i % 8 < 8 := Nat.mod_lt _ (by decide)
    rw [h]
    unfold mixF
    cases bitB m (i / 8) <;> simp [hi, byteN_bit _ _ _ hj, hs]
  · have h1 : ∀ n, n < 2 ^ 64 → Nat.testBit n i = false := fun n hn => Nat.testBit_lt_two_pow (Nat.lt_of_lt_of_le hn (Nat.pow_le_pow_right (by decide) (by omega)))
    simp [h1 a ha, h1 b hb, hi]
theorem mixN_congr (f : Nat → Nat) (g : Nat → Nat) : ∀ n, (∀ k, k < n → f k = g k) → bySum f n = bySum g n
  | 0, _ => rfl
  | n + 1, h => by simp only [bySum]; rw [h n (by omega), mixN_congr f g n fun k hk => h k (by omega)]
theorem u64n (q : Nat) (h : q < 18446744073709551616) : IntKind.u64.wrap (q : Int) = (q : Int) := u64w (by omega)
theorem bit_cond (m k : Nat) (hm : m < 256) (hk : k < 8) : (IntKind.u8.wrap (landI .u8 (Int.fdiv (m : Int) (2 ^ min (Int.toNat (k : Int)) 8)) 1) == 1) = bitB m k := by
  have e1 : Int.fdiv (m : Int) (2 ^ min (Int.toNat (k : Int)) 8) = ((m / 2 ^ k : Nat) : Int) := by
    rw [Int.toNat_natCast, Nat.min_eq_left (by omega), Int.fdiv_eq_ediv_of_nonneg _ (Int.le_of_lt (Int.pow_pos (by decide)))]
    simp only [Int.natCast_ediv, Int.natCast_pow]
    rfl
  have hq : m / 2 ^ k < 256 := Nat.lt_of_le_of_lt (Nat.div_le_self _ _) hm
  have e2 := land_nat .u8 (m / 2 ^ k) 1 (by simpa [IntKind.bits] using hq) (by simp [IntKind.bits])
  have e3 : (m / 2 ^ k) &&& 1 = m / 2 ^ k % 2 := Nat.and_one_is_mod _
  have e4 : ((1 : Nat) : Int) = 1 := rfl
  rw [e4] at e2
  rw [e1, e2, e3, IntKind.wrap_u8']
  unfold bitB
  rw [Bool.eq_iff_iff, beq_iff_eq, decide_eq_true_eq]
  omega
theorem or_add {a b i : Nat} (ha : a < 2 ^ i) (hb : b % 2 ^ i = 0) : a ||| b = a + b := by
  obtain ⟨q, rfl⟩ : ∃ q, b = 2 ^ i * q := ⟨b / 2 ^ i, by have := Nat.div_add_mod b (2 ^ i); omega⟩
  rw [Nat.or_comm, Nat.add_comm, Nat.two_pow_add_eq_or_of_lt ha]
theorem wide_or (m k : Nat) (hk : k < 8) : IntKind.u64.wrap (lorI .u64 (wideN m k : Nat) (IntKind.u64.wrap (255 * 2 ^ min (Int.toNat (IntKind.i64.wrap (8 * (k : Int)))) 64))) = ((wideN m k + 255 * 256 ^ k : Nat) : Int) := by
  have h1 := wideN_lt m k
  have h2 := pow256_le hk
  have h3 : 256 ^ (k + 1) = 256 * 256 ^ k := by rw [Nat.pow_succ, Nat.mul_comm]
  have e0 : (IntKind.i64.wrap (8 * (k : Int))).toNat = 8 * k := by rw [i64w (by omega)]; omega
  have e : (255 * 2 ^ (8 * k) : Int) = ((255 * 256 ^ k : Nat) : Int) := by rw [pow256]; simp only [Int.natCast_mul, Int.natCast_pow]; rfl
  have e2 : wideN m k ||| 255 * 256 ^ k = wideN m k + 255 * 256 ^ k := or_add (i := 8 * k) (by rw [← pow256]; exact h1) (by rw [← pow256]; exact Nat.mul_mod_left _ _)
  rw [e0, Nat.min_eq_left (by omega), e, u64n (255 * 256 ^ k) (by omega), lor64 _ _ (by omega) (by omega), e2, u64n _ (by omega)]
theorem wide_loop (m : Nat) (hm : m < 256) : ∀ j i : Nat, i + j = 8 → runLoop (m_word_Wide_L0 (m : Int)) (((wideN m i : Nat) : Int), (i : Int)) = some ((wideN m 8 : Nat) : Int)
  | 0, i, h => by
    obtain rfl : i = 8 := by omega
    exact runLoop_end rfl
  | j + 1, i, h => by
    have hs : m_word_Wide_L0 (m : Int) (((wideN m i : Nat) : Int), (i : Int)) = some (.inl (((wideN m (i + 1) : Nat) : Int), ((i + 1 : Nat) : Int))) := by
      unfold m_word_Wide_L0
      have e : decide ((i : Int) < 8) = true := by rw [decide_eq_true_eq]; omega
      simp only
      rw [e, cond_true, guardI_ok (by omega), Option.bind_some, bit_cond m i hm (by omega), i64w (x := (i : Int) + 1) (by omega)]
      have hw : wideN m (i + 1) = wideN m i + (if m / 2 ^ i % 2 = 1 then 255 * 256 ^ i else 0) := rfl
      cases hb : bitB m i with
      | true =>
        rw [cond_true, guardI_ok (by rw [i64w (by omega)]; omega), Option.bind_some, wide_or m i (by omega), hw, if_pos (bitB_t hb)]
        rfl
      | false =>
        rw [cond_false, hw, if_neg (bitB_f hb)]
        rfl
    rw [runLoop_step hs]
    exact wide_loop m hm j (i + 1) (by omega)
theorem wide_ok (m : Nat) (hm : m < 256) : m_word_Wide (m : Int) = some ((wideN m 8 : Nat) : Int) := by
  unfold m_word_Wide
  have := wide_loop m hm 8 0 rfl
  rw [show ((wideN m 0 : Nat) : Int) = 0 from rfl, show ((0 : Nat) : Int) = 0 from rfl] at this
  rw [this]
  rfl
/-- does a word stay within a mask's bytes? -/
def wi (x m : Int) : Bool := mixN x.toNat 0 m.toNat == 0
theorem outside_ok {x m : Int} (h0 : 0 ≤ x) (h1 : x < 18446744073709551616) (m0 : 0 ≤ m) (m1 : m < 256) : (IntKind.u64.wrap (landI .u64 x (IntKind.u64.wrap (lxorI .u64 (if IntKind.signed .u64 = true then -1 else IntKind.max .u64) ((wideN m.toNat 8 : Nat) : Int)))) != 0) = !(wi x m) := by
  obtain ⟨a, rfl⟩ := Int.eq_ofNat_of_zero_le h0
  obtain ⟨k, rfl⟩ := Int.eq_ofNat_of_zero_le m0
  have hw := wideN_lt64 k
  have e0 : (if IntKind.signed .u64 = true then -1 else IntKind.max .u64) = ((18446744073709551615 : Nat) : Int) := by decide
  have e1 : 18446744073709551615 ^^^ wideN k 8 = 18446744073709551615 - wideN k 8 := by
    refine Nat.eq_of_testBit_eq fun i => ?_
    rw [Nat.testBit_xor, show (18446744073709551615 - wideN k 8) = 2 ^ 64 - (wideN k 8 + 1) by omega, Nat.testBit_two_pow_sub_succ hw, show (18446744073709551615 : Nat) = 2 ^ 64 - 1 from rfl, Nat.testBit_two_pow_sub_one]
    by_cases hi : i < 64
    · simp [hi]
    · rw [Nat.testBit_lt_two_pow (Nat.lt_of_lt_of_le hw (Nat.pow_le_pow_right (by decide) (by omega)))]
      simp [hi]
  have e2 := mix_bits a 0 k (by omega) (by decide)
  rw [Nat.zero_and, Nat.or_zero] at e2
  have e3 : a &&& (18446744073709551615 - wideN k 8) ≤ a := Nat.and_le_left
  unfold wi
  simp only [Int.toNat_natCast]
  rw [e0, lxor64 _ _ (by decide) (by omega), e1, u64n (18446744073709551615 - wideN k 8) (by omega), land64 _ _ (by omega) (by omega), u64n _ (by omega), e2, bne]
  congr 1
  rw [Bool.eq_iff_iff, beq_iff_eq, beq_iff_eq]
  omega

abbrev Ed := S_api_Edit
theorem kidE_lt {e : Ed} {k : S_api_KidEdit} (h : k ∈ e.Kids) : SizeOf.sizeOf k.E < SizeOf.sizeOf e := by
  obtain ⟨a, b, c, d, ks, f, g⟩ := e
  obtain ⟨i, x⟩ := k
  have h1 := List.sizeOf_lt_of_mem h
  simp only [S_api_Edit.mk.sizeOf_spec, S_api_KidEdit.mk.sizeOf_spec] at h1 ⊢
  omega
theorem opE_lt {e : Ed} {o : S_api_Op} (h : o ∈ e.Ops) : SizeOf.sizeOf o.E < SizeOf.sizeOf e := by
  obtain ⟨a, b, c, d, ks, f, os⟩ := e
  obtain ⟨i, n, l, x⟩ := o
  have h1 := List.sizeOf_lt_of_mem h
  simp only [S_api_Edit.mk.sizeOf_spec, S_api_Op.mk.sizeOf_spec] at h1 ⊢
  omega
theorem edit_pos (e : Ed) : 0 < SizeOf.sizeOf e := by
  obtain ⟨a, b, c, d, ks, f, g⟩ := e
  simp only [S_api_Edit.mk.sizeOf_spec]
  omega
/-- an edit's lists are as long as may be, its words are words -/
inductive BE : Ed → Prop
  | mk (e : Ed) (h1 : Bd e.Old) (h2 : Bd e.New) (h3 : (e.Words.length : Int) ≤ 140737488355328) (h4 : ∀ w ∈ e.Words, (0 ≤ w.Mask ∧ w.Mask < 256) ∧ (0 ≤ w.Old ∧ w.Old < 18446744073709551616) ∧ (0 ≤ w.New ∧ w.New < 18446744073709551616))
      (h5 : (e.Kids.length : Int) ≤ 140737488355328) (h6 : ∀ k ∈ e.Kids, BE k.E) (h7 : (e.Ops.length : Int) ≤ 140737488355328) (h8 : ∀ o ∈ e.Ops, o.L.length * 56 ≤ 140737488355328 ∧ ∀ t ∈ o.L, Bd t) (h9 : ∀ o ∈ e.Ops, BE o.E) : BE e
theorem BE.old {e : Ed} (h : BE e) : Bd e.Old := by cases h; assumption
theorem BE.new {e : Ed} (h : BE e) : Bd e.New := by cases h; assumption
theorem BE.w {e : Ed} (h : BE e) : (e.Words.length : Int) ≤ 140737488355328 := by cases h; assumption
theorem BE.ws {e : Ed} (h : BE e) : ∀ w ∈ e.Words, (0 ≤ w.Mask ∧ w.Mask < 256) ∧ (0 ≤ w.Old ∧ w.Old < 18446744073709551616) ∧ (0 ≤ w.New ∧ w.New < 18446744073709551616) := by cases h; assumption
theorem BE.k {e : Ed} (h : BE e) : (e.Kids.length : Int) ≤ 140737488355328 := by cases h; assumption
theorem BE.ks {e : Ed} (h : BE e) : ∀ k ∈ e.Kids, BE k.E := by cases h; assumption
theorem BE.o {e : Ed} (h : BE e) : (e.Ops.length : Int) ≤ 140737488355328 := by cases h; assumption
theorem BE.l {e : Ed} (h : BE e) : ∀ o ∈ e.Ops, o.L.length * 56 ≤ 140737488355328 ∧ ∀ t ∈ o.L, Bd t := by cases h; assumption
theorem BE.os {e : Ed} (h : BE e) : ∀ o ∈ e.Ops, BE o.E := by cases h; assumption
theorem cond_beq {α : Type} (a b : Int) (x y : α) : cond (a == b) x y = if a = b then x else y := by
  by_cases h : a = b
  · rw [beq_iff_eq.2 h, if_pos h]; rfl
  · rw [beq_eq_false_iff_ne.2 h, if_neg h]; rfl
theorem cond_bne {α : Type} (a b : Int) (x y : α) : cond (a != b) x y = if a = b then y else x := by
  by_cases h : a = b
  · have : (a != b) = false := by simp [h]
    rw [this, if_pos h]; rfl
  · have : (a != b) = true := by simp [h]
    rw [this, if_neg h]; rfl
/-- one after another, each looked at beside the place of the one ahead -/
def chk {α : Type} (pl : α → Int) (ok : Int → α → Bool) : Int → List α → Bool
  | _, [] => true
  | p, x :: xs => ok p x && chk pl ok (pl x) xs
theorem loop_chk {α R : Type} (xs : List α) (pl : α → Int) (ok : Int → α → Bool) (step : Int × Int → Option ((Int × Int) ⊕ R)) (e o : R) (hl : (xs.length : Int) ≤ 140737488355328)
    (h1 : ∀ (p : Int) (i : Nat) (x : α), i < xs.length → xs[i]? = some x → x ∈ xs → step (p, (i : Int)) = some (if ok p x = true then .inl (pl x, IntKind.i64.wrap ((i : Int) + 1)) else .inr e)) (h2 : ∀ p, step (p, (xs.length : Int)) = some (.inr o)) (p : Int) : runLoop step (p, 0) = some (if chk pl ok p xs = true then o else e) := by
  have key : ∀ (ys : List α) (i : Nat) (p : Int), xs.drop i = ys → i ≤ xs.length → runLoop step (p, (i : Int)) = some (if chk pl ok p ys = true then o else e) := fun ys => by
    induction ys with
    | nil =>
      intro i p h hi
      have : i = xs.length := by
        have := congrArg List.length h
        rw [List.length_drop, List.length_nil] at this
        omega
      subst this
      exact runLoop_end (h2 p)
    | cons x ys ih =>
      intro i p h hi
      have hx : xs[i]? = some x := by
        have := congrArg (fun l => l[0]?) h
        simpa using this
      have hi' : i < xs.length := by
        rcases Nat.lt_or_ge i xs.length with h' | h'
        · exact h'
        · rw [List.getElem?_eq_none h'] at hx; cases hx
      have hs := h1 p i x hi' hx (List.mem_of_getElem? hx)
      have hd : xs.drop (i + 1) = ys := by
        have := congrArg List.tail h
        rwa [List.tail_drop, List.tail_cons] at this
      cases hk : ok p x with
      | false =>
        rw [hk] at hs
        rw [runLoop_end (by simpa using hs)]
        simp [chk, hk]
      | true =>
        rw [hk, if_pos rfl, i64s (by omega) (by omega)] at hs
        have e1 : (i : Int) + 1 = ((i + 1 : Nat) : Int) := by omega
        rw [e1] at hs
        rw [runLoop_step hs, ih (i + 1) (pl x) hd (by omega)]
        simp [chk, hk]
  exact key xs 0 p rfl (Nat.zero_le _)
/-- is a tree none? -/
def noneT (t : Tr) : Bool := t.Kind == 0 && (t.Words.length == 0 && t.Kids.length == 0)
theorem something_ok {t : Tr} (h : Bd t) : m_edit_something t = some (!noneT t) := by
  have := h.w
  have := h.k
  unfold m_edit_something noneT
  rw [i64s (by omega) (by omega)]
  congr 1
  cases h0 : t.Kind == 0 with
  | false => simp only [bne, h0]; rfl
  | true =>
    simp only [bne, h0, Bool.not_true, cond_false, Bool.true_and]
    rw [Bool.eq_iff_iff, Bool.not_eq_true', decide_eq_true_eq, Bool.and_eq_false_iff, beq_eq_false_iff_ne, beq_eq_false_iff_ne]
    omega
def noWK (e : Ed) : Bool := e.Words.length == 0 && e.Kids.length == 0
def noLO (e : Ed) : Bool := e.List_ == 0 && e.Ops.length == 0
theorem wk_pos {e : Ed} (h : BE e) : decide (0 < IntKind.i64.wrap ((e.Words.length : Int) + (e.Kids.length : Int))) = !noWK e := by
  have := h.w
  have := h.k
  unfold noWK
  rw [i64s (by omega) (by omega), Bool.eq_iff_iff, Bool.not_eq_true', decide_eq_true_eq, Bool.and_eq_false_iff, beq_eq_false_iff_ne, beq_eq_false_iff_ne]
  omega
theorem lo_pos (e : Ed) : cond (e.List_ != 0) true (decide (0 < (e.Ops.length : Int))) = !noLO e := by
  unfold noLO
  cases h0 : e.List_ == 0 with
  | false => simp only [bne, h0]; rfl
  | true =>
    simp only [bne, h0, Bool.not_true, cond_false, Bool.true_and]
    rw [Bool.eq_iff_iff, Bool.not_eq_true', decide_eq_true_eq, beq_eq_false_iff_ne]
    omega
def none2 (e : Ed) : Bool := noneT e.Old && noneT e.New
/-- an edit that changes nothing -/
def sameE (e : Ed) : Bool := e.Kind == 0 && (none2 e && (noWK e && noLO e))
theorem right1_ok {e : Ed} (h : BE e) (a b c : Bool) : m_edit_right_1 a b c e = some ((!a || none2 e) && ((!b || noWK e) && (!c || noLO e))) := by
  unfold m_edit_right_1
  rw [something_ok h.old, something_ok h.new, wk_pos h, lo_pos]
  unfold none2
  simp only [Option.bind_some]
  generalize noneT e.Old = p
  generalize noneT e.New = q
  generalize noWK e = r
  generalize noLO e = s
  revert a b c p q r s
  decide
/-- may one edit of a word stand? -/
def okW (p : Int) (w : S_api_WordEdit) : Bool := !(((((decide (w.At ≤ p) || decide (65534 < w.At)) || w.Mask == 0) || !(wi w.Old w.Mask)) || !(wi w.New w.Mask)))
theorem rightWords_ok {l : List S_api_WordEdit} (hl : (l.length : Int) ≤ 140737488355328) (h : ∀ w ∈ l, (0 ≤ w.Mask ∧ w.Mask < 256) ∧ (0 ≤ w.Old ∧ w.Old < 18446744073709551616) ∧ (0 ≤ w.New ∧ w.New < 18446744073709551616)) : m_edit_rightWords l = some (chk (·.At) okW (-1) l) := by
  unfold m_edit_rightWords
  rw [loop_chk l (·.At) okW (m_edit_rightWords_L0 l) (.inl ()) (.inr ()) hl (fun p i x hi hx hm => by
    obtain ⟨h1, h2, h3⟩ := h x hm
    have ew : m_word_Wide x.Mask = some ((wideN x.Mask.toNat 8 : Nat) : Int) := by
      have := wide_ok x.Mask.toNat (by omega)
      rwa [Int.toNat_of_nonneg h1.1] at this
    unfold m_edit_rightWords_L0
    simp only
    rw [lt_t hi, cond_true, getI_of hx, Option.bind_some, ew, Option.bind_some, outside_ok h2.1 h2.2 h1.1 h1.2, outside_ok h3.1 h3.2 h1.1 h1.2]
    unfold okW
    generalize decide (x.At ≤ p) = q1
    generalize decide (65534 < x.At) = q2
    generalize (x.Mask == 0) = q3
    generalize wi x.Old x.Mask = q4
    generalize wi x.New x.Mask = q5
    cases q1 <;> cases q2 <;> cases q3 <;> cases q4 <;> cases q5 <;> rfl) (fun p => by unfold m_edit_rightWords_L0; simp only; rw [lt_f]; rfl) (-1), Option.bind_some]
  cases chk (·.At) okW (-1) l <;> rfl
/-- rounds over a list with something carried along -/
theorem loop_fold {α S R σ : Type} (xs : List α) (mk : S → Int → σ) (f : S → α → S) (out : S → R) (I : S → Prop) (step : σ → Option (σ ⊕ R)) (hl : (xs.length : Int) ≤ 140737488355328)
    (h1 : ∀ (s : S) (i : Nat) (x : α), I s → i < xs.length → xs[i]? = some x → x ∈ xs → I (f s x) ∧ step (mk s (i : Int)) = some (.inl (mk (f s x) (IntKind.i64.wrap ((i : Int) + 1))))) (h2 : ∀ s, I s → step (mk s (xs.length : Int)) = some (.inr (out s))) (s : S) (hs : I s) : runLoop step (mk s 0) = some (out (xs.foldl f s)) ∧ I (xs.foldl f s) := by
  have key : ∀ (ys : List α) (i : Nat) (s : S), I s → xs.drop i = ys → i ≤ xs.length → runLoop step (mk s (i : Int)) = some (out (ys.foldl f s)) ∧ I (ys.foldl f s) := fun ys => by
    induction ys with
    | nil =>
      intro i s hI h hi
      have : i = xs.length := by
        have := congrArg List.length h
        rw [List.length_drop, List.length_nil] at this
        omega
      subst this
      exact ⟨runLoop_end (h2 s hI), hI⟩
    | cons x ys ih =>
      intro i s hI h hi
      have hx : xs[i]? = some x := by
        have := congrArg (fun l => l[0]?) h
        simpa using this
      have hi' : i < xs.length := by
        rcases Nat.lt_or_ge i xs.length with h' | h'
        · exact h'
        · rw [List.getElem?_eq_none h'] at hx; cases hx
      obtain ⟨hI', hs⟩ := h1 s i x hI hi' hx (List.mem_of_getElem? hx)
      have hd : xs.drop (i + 1) = ys := by
        have := congrArg List.tail h
        rwa [List.tail_drop, List.tail_cons] at this
      have e1 : (i : Int) + 1 = ((i + 1 : Nat) : Int) := by omega
      rw [i64s (by omega) (by omega), e1] at hs
      rw [runLoop_step hs]
      exact ih (i + 1) (f s x) hI' hd (by omega)
  exact key xs 0 s hs rfl (Nat.zero_le _)
def thr (o : S_api_Op) : Int := if o.Kind = 0 then (if 1048576 < (if o.N < 0 then 0 else o.N) then 1048576 else (if o.N < 0 then 0 else o.N)) else if o.Kind = 1 ∨ o.Kind = 2 then (o.L.length : Int) else if o.Kind = 3 then 1 else 0
theorem thr_ok (o : S_api_Op) : m_edit_through o = some (thr o) := by
  unfold m_edit_through thr
  by_cases h0 : o.Kind = 0
  · simp [h0]
  by_cases h1 : o.Kind = 1
  · simp [h1]
  by_cases h2 : o.Kind = 2
  · simp [h2]
  by_cases h3 : o.Kind = 3
  · simp [h3]
  · have e0 : (o.Kind == 0) = false := by simp [h0]
    have e1 : (o.Kind == 1) = false := by simp [h1]
    have e2 : (o.Kind == 2) = false := by simp [h2]
    have e3 : (o.Kind == 3) = false := by simp [h3]
    have h12 : ¬ (o.Kind = 1 ∨ o.Kind = 2) := by omega
    rw [e0, e1, e2, e3, if_neg h0, if_neg h12, if_neg h3]
    rfl
theorem thr_bd {o : S_api_Op} (h : o.L.length * 56 ≤ 140737488355328) : 0 ≤ thr o ∧ thr o ≤ 140737488355328 := by
  unfold thr
  repeat' split
  all_goals omega
def capI (x : Int) : Int := if 1048576 < x then 1048576 else x
def stI (s : Int × Int) (o : S_api_Op) : Int × Int := (if o.Kind = 2 then s.1 else capI (s.1 + thr o), if o.Kind = 1 then s.2 else capI (s.2 + thr o))
def Sm (s : Int × Int) : Prop := (0 ≤ s.1 ∧ s.1 ≤ 1048576) ∧ (0 ≤ s.2 ∧ s.2 ≤ 1048576)
theorem stI_sm {s : Int × Int} {o : S_api_Op} (hs : Sm s) (h : o.L.length * 56 ≤ 140737488355328) : Sm (stI s o) := by
  have := thr_bd h
  unfold Sm at hs ⊢
  unfold stI capI
  refine ⟨?_, ?_⟩
  · simp only
    split
    · omega
    · split <;> omega
  · simp only
    split
    · omega
    · split <;> omega
theorem lenI_ok {e : Ed} (h : BE e) : m_edit_Lengths e = some (e.Ops.foldl stI (0, 0)) ∧ Sm (e.Ops.foldl stI (0, 0)) := by
  obtain ⟨h1, h2⟩ := loop_fold e.Ops (fun (s : Int × Int) i => (s.1, s.2, i)) stI (fun s => (s.1, s.2)) Sm (m_edit_Lengths_L0 e) h.o (fun s i x hs hi hx hm => by
    have hb := (h.l x hm).1
    have ht := thr_bd hb
    refine ⟨stI_sm hs hb, ?_⟩
    unfold Sm at hs
    unfold m_edit_Lengths_L0
    simp only
    rw [lt_t hi, cond_true, getI_of hx, Option.bind_some, thr_ok]
    simp only [Option.bind_some]
    rw [i64s (x := s.1 + thr x) (by omega) (by omega), i64s (x := s.2 + thr x) (by omega) (by omega)]
    unfold stI capI
    rw [cond_bne]
    by_cases k2 : x.Kind = 2
    · simp [k2]
    · by_cases k1 : x.Kind = 1
      · simp [k1]
      · simp [k1, k2, cond_bne]) (fun s _ => by unfold m_edit_Lengths_L0; simp only; rw [lt_f]; rfl) (0, 0) (by unfold Sm; simp)
  refine ⟨?_, h2⟩
  unfold m_edit_Lengths
  rw [h1]
  rfl
def incR (o : S_api_Op) : Int := if o.Kind = 3 then 1 else IntKind.i64.wrap (o.N + (o.L.length : Int))
def stR (s : Int × Int) (o : S_api_Op) : Int × Int := (capI (if o.Kind = 2 then s.1 else IntKind.i64.wrap (s.1 + incR o)), capI (if o.Kind = 1 then s.2 else IntKind.i64.wrap (s.2 + incR o)))
/-- may an edit descend to a kid of such a list? -/
def descP (l : Int) (e : Ed) : Bool := if l = 8 then e.Kind != 0 else if l = 9 then e.Kind == 2 || (e.Kind == 1 && (e.Old.Kind == 1 && e.New.Kind == 1)) else false
theorem desc_ok (l : Int) (e : Ed) : m_edit_descends l e = some (descP l e) := by
  unfold m_edit_descends descP
  by_cases h8 : l = 8
  · simp [h8]
  by_cases h9 : l = 9
  · subst h9
    generalize (e.Kind == 2) = a
    generalize (e.Kind == 1) = b
    generalize (e.Old.Kind == 1) = c
    generalize (e.New.Kind == 1) = d
    have k8 : ((9 : Int) == 8) = false := rfl
    have k9 : ((9 : Int) == 9) = true := rfl
    rw [k8, k9, if_neg (by decide), if_pos rfl]
    cases a <;> cases b <;> cases c <;> cases d <;> rfl
  · have k8 : (l == 8) = false := by simp [h8]
    have k9 : (l == 9) = false := by simp [h9]
    rw [k8, k9, if_neg h8, if_neg h9]
    rfl
/-- may an op stand in an edit of a list? -/
def okO (l : Int) (o : S_api_Op) (r : Bool) : Bool :=
  if o.Kind = 0 then (decide (1 ≤ o.N) && decide (o.N ≤ 1048576)) && (o.L.length == 0 && sameE o.E)
  else if o.Kind = 1 ∨ o.Kind = 2 then o.N == 0 && (decide (0 < o.L.length) && ((o.L.all fun t => rt t 63 && okk l t) && sameE o.E))
  else if o.Kind = 3 then o.N == 0 && (o.L.length == 0 && (o.E.Kind != 0 && (descP l o.E && r)))
  else false
def lensB (s : Int × Int) : Bool := decide (s.1 < 1048576) && decide (s.2 < 1048576)
theorem ok_thr {l : Int} {o : S_api_Op} {r : Bool} (h : okO l o r = true) : o.N + (o.L.length : Int) = (if o.Kind = 3 then 0 else thr o) ∧ 0 ≤ thr o := by
  unfold okO at h
  unfold thr
  by_cases h0 : o.Kind = 0
  · rw [if_pos h0] at h
    simp only [Bool.and_eq_true, decide_eq_true_eq, beq_iff_eq] at h
    simp only [h0, if_pos]
    refine ⟨?_, ?_⟩
    · rw [if_neg (by decide)]
      repeat' split
      all_goals omega
    · repeat' split
      all_goals omega
  rw [if_neg h0] at h
  by_cases h12 : o.Kind = 1 ∨ o.Kind = 2
  · rw [if_pos h12] at h
    simp only [Bool.and_eq_true, beq_iff_eq] at h
    rw [if_neg h0, if_pos h12, if_neg (by omega)]
    omega
  rw [if_neg h12] at h
  by_cases h3 : o.Kind = 3
  · rw [if_pos h3] at h
    simp only [Bool.and_eq_true, beq_iff_eq] at h
    rw [if_neg h0, if_neg h12, if_pos h3, if_pos h3]
    omega
  · rw [if_neg h3] at h
    cases h
theorem stR_stI {l : Int} {o : S_api_Op} {r : Bool} {s : Int × Int} (h : okO l o r = true) (hs : Sm s) (hl : o.L.length * 56 ≤ 140737488355328) : stR s o = stI s o := by
  have ht := thr_bd hl
  have hk := ok_thr h
  have hi : incR o = thr o := by
    unfold incR
    by_cases h3 : o.Kind = 3
    · rw [if_pos h3]
      unfold thr
      rw [if_neg (by omega), if_neg (by omega), if_pos h3]
    · rw [if_neg h3] at hk ⊢
      rw [i64s (by omega) (by omega)]
      exact hk.1
  unfold Sm at hs
  unfold stR stI
  rw [hi, i64s (by omega) (by omega), i64s (by omega) (by omega)]
  have hc : ∀ x : Int, x ≤ 1048576 → capI x = x := fun x hx => by unfold capI; rw [if_neg (by omega)]
  refine Prod.ext ?_ ?_
  · simp only
    split
    · exact hc _ hs.1.2
    · rfl
  · simp only
    split
    · exact hc _ hs.2.2
    · rfl
theorem fold_same {l : Int} (r : S_api_Op → Bool) : ∀ (os : List S_api_Op) (s : Int × Int), Sm s → (∀ o ∈ os, okO l o (r o) = true) → (∀ o ∈ os, o.L.length * 56 ≤ 140737488355328) → os.foldl stR s = os.foldl stI s ∧ Sm (os.foldl stI s)
  | [], s, hs, _, _ => ⟨rfl, hs⟩
  | o :: os, s, hs, h, hl => by
    have h1 := stR_stI (h o (.head _)) hs (hl o (.head _))
    have := fold_same r os (stI s o) (stI_sm hs (hl o (.head _))) (fun x hx => h x (.tail _ hx)) (fun x hx => hl x (.tail _ hx))
    rw [List.foldl_cons, List.foldl_cons, h1]
    exact this
theorem fold_up : ∀ (os : List S_api_Op) (s : Int × Int), Sm s → (∀ o ∈ os, o.L.length * 56 ≤ 140737488355328) → (s.1 = 1048576 → (os.foldl stI s).1 = 1048576) ∧ (s.2 = 1048576 → (os.foldl stI s).2 = 1048576)
  | [], s, _, _ => ⟨id, id⟩
  | o :: os, s, hs, hl => by
    have ht := thr_bd (hl o (.head _))
    have := fold_up os (stI s o) (stI_sm hs (hl o (.head _))) (fun x hx => hl x (.tail _ hx))
    rw [List.foldl_cons]
    refine ⟨fun h => this.1 ?_, fun h => this.2 ?_⟩
    · unfold stI capI
      simp only
      repeat' split
      all_goals omega
    · unfold stI capI
      simp only
      repeat' split
      all_goals omega
theorem fold_len {l : Int} (r : S_api_Op → Bool) : ∀ (os : List S_api_Op) (s : Int × Int), Sm s → (∀ o ∈ os, okO l o (r o) = true) → (∀ o ∈ os, o.L.length * 56 ≤ 140737488355328) → lensB (os.foldl stI s) = true → ∀ o ∈ os, o.L.length < 1048576
  | [], s, hs, _, _, _ => fun o h => by simp at h
  | o :: os, s, hs, h, hl, hb => by
    have hsm := stI_sm hs (hl o (.head _))
    have hup := fold_up os (stI s o) hsm (fun x hx => hl x (.tail _ hx))
    rw [List.foldl_cons] at hb
    intro x hx
    rcases List.mem_cons.1 hx with rfl | hx
    · have hb' := hb
      unfold lensB at hb'
      rw [Bool.and_eq_true, decide_eq_true_eq, decide_eq_true_eq] at hb'
      have n1 : (stI s x).1 ≠ 1048576 := fun q => by have := hup.1 q; omega
      have n2 : (stI s x).2 ≠ 1048576 := fun q => by have := hup.2 q; omega
      have hk := ok_thr (h x (.head _))
      have ht := thr_bd (hl x (.head _))
      have ho := h x (.head _)
      unfold Sm at hs
      unfold okO at ho
      unfold stI capI at n1 n2
      simp only at n1 n2
      by_cases h0 : x.Kind = 0
      · rw [if_pos h0] at ho
        simp only [Bool.and_eq_true, decide_eq_true_eq, beq_iff_eq] at ho
        omega
      rw [if_neg h0] at ho
      by_cases h1 : x.Kind = 1
      · rw [if_pos (.inl h1)] at ho
        rw [if_neg (by omega)] at hk n1
        simp only [Bool.and_eq_true, beq_iff_eq] at ho
        split at n1 <;> omega
      by_cases h2 : x.Kind = 2
      · rw [if_pos (.inr h2)] at ho
        rw [if_neg (by omega)] at hk n2
        simp only [Bool.and_eq_true, beq_iff_eq] at ho
        split at n2 <;> omega
      rw [if_neg (by omega)] at ho
      by_cases h3 : x.Kind = 3
      · rw [if_pos h3] at ho
        simp only [Bool.and_eq_true, beq_iff_eq] at ho
        omega
      · rw [if_neg h3] at ho
        cases ho
    · exact fold_len r os (stI s o) hsm (fun x hx => h x (.tail _ hx)) (fun x hx => hl x (.tail _ hx)) hb x hx
/-- the program's reading of an op and the reference's, where the lengths are no longer than may be -/
theorem ops_both {l : Int} (r : S_api_Op → Bool) (os : List S_api_Op) (hl : ∀ o ∈ os, o.L.length * 56 ≤ 140737488355328) :
    ((os.all fun o => okO l o (r o) && decide (o.L.length < 1048576)) && lensB (os.foldl stI (0, 0))) = ((os.all fun o => okO l o (r o)) && lensB (os.foldl stR (0, 0))) := by
  have h0 : Sm (0, 0) := by unfold Sm; simp
  cases ha : os.all fun o => okO l o (r o) with
  | false =>
    rw [all_and, ha, Bool.false_and, Bool.false_and, Bool.false_and]
  | true =>
    have hall : ∀ o ∈ os, okO l o (r o) = true := List.all_eq_true.1 ha
    have h1 := fold_same r os (0, 0) h0 hall hl
    rw [all_and, ha, h1.1, Bool.true_and, Bool.true_and]
    cases hb : lensB (os.foldl stI (0, 0)) with
    | false => rw [Bool.and_false]
    | true =>
      have := fold_len r os (0, 0) h0 hall hl hb
      rw [Bool.and_true]
      exact List.all_eq_true.2 fun o ho => decide_eq_true (this o ho)

def okP (p : Int) (x : Int × Bool) : Bool := !(decide (x.1 ≤ p) || decide (65534 < x.1)) && x.2
theorem chk_map {α : Type} (g : α → Int × Bool) : ∀ (xs : List α) (p : Int), chk (·.1) okP p (xs.map g) = chk (fun x => (g x).1) (fun p x => okP p (g x)) p xs
  | [], _ => rfl
  | x :: xs, p => by rw [List.map_cons, chk, chk, chk_map g xs]
/-- may an edit be? -/
def rE (e : Ed) (d : Nat) : Bool :=
  if d = 0 then false
  else if e.Kind = 0 then sameE e
  else if e.Kind = 1 then (noWK e && noLO e) && ((rt e.Old 64 && e.Old.Kind != 10) && (rt e.New 64 && e.New.Kind != 10))
  else if e.Kind = 2 then (none2 e && noLO e) && (chk (·.At) okW (-1) e.Words && chk (·.1) okP (-1) (e.Kids.attach.map fun k => (k.1.At, k.1.E.Kind != 0 && rE k.1.E (d - 1))))
  else if e.Kind = 3 then (none2 e && noWK e) && ((decide (2 ≤ e.List_) && decide (e.List_ ≤ 9)) && ((e.Ops.attach.map fun o => okO e.List_ o.1 (rE o.1.E (d - 1))).all id && lensB (e.Ops.foldl stR (0, 0))))
  else false
termination_by SizeOf.sizeOf e
decreasing_by
  · exact kidE_lt k.2
  · exact opE_lt o.2
def okK (d : Nat) (p : Int) (k : S_api_KidEdit) : Bool := okP p (k.At, k.E.Kind != 0 && rE k.E d)
theorem rE_eq (e : Ed) (d : Nat) : rE e d = if d = 0 then false
  else if e.Kind = 0 then sameE e
  else if e.Kind = 1 then (noWK e && noLO e) && ((rt e.Old 64 && e.Old.Kind != 10) && (rt e.New 64 && e.New.Kind != 10))
  else if e.Kind = 2 then (none2 e && noLO e) && (chk (·.At) okW (-1) e.Words && chk (·.At) (okK (d - 1)) (-1) e.Kids)
  else if e.Kind = 3 then (none2 e && noWK e) && ((decide (2 ≤ e.List_) && decide (e.List_ ≤ 9)) && ((e.Ops.all fun o => okO e.List_ o (rE o.E (d - 1))) && lensB (e.Ops.foldl stR (0, 0))))
  else false := by
  rw [rE]
  have h1 : (e.Kids.attach.map fun k => (k.1.At, k.1.E.Kind != 0 && rE k.1.E (d - 1))) = e.Kids.map fun k => (k.At, k.E.Kind != 0 && rE k.E (d - 1)) := List.attach_map_val (f := fun k : S_api_KidEdit => (k.At, k.E.Kind != 0 && rE k.E (d - 1)))
  have h2 : (e.Ops.attach.map fun o => okO e.List_ o.1 (rE o.1.E (d - 1))) = e.Ops.map fun o => okO e.List_ o (rE o.E (d - 1)) := List.attach_map_val (f := fun o : S_api_Op => okO e.List_ o (rE o.E (d - 1)))
  rw [h1, h2, chk_map, List.all_map]
  rfl
theorem rE_same {e : Ed} (h : e.Kind = 0) {d : Nat} (hd : 0 < d) : rE e d = sameE e := by rw [rE_eq, if_neg (by omega), if_pos h]
theorem same_kind {e : Ed} (h : ¬ e.Kind = 0) : sameE e = false := by unfold sameE; rw [beq_eq_false_iff_ne.2 h]; rfl
theorem len_pos {n : Nat} : decide (0 < (n : Int)) = !(n == 0) := by rw [Bool.eq_iff_iff, Bool.not_eq_true', decide_eq_true_eq, beq_eq_false_iff_ne]; omega
theorem len_pos' {n : Nat} : decide (0 < n) = !(n == 0) := by rw [Bool.eq_iff_iff, Bool.not_eq_true', decide_eq_true_eq, beq_eq_false_iff_ne]; omega
theorem rt_of {l : Int} {L : List Tr} (h2 : 2 ≤ l) (h9 : l ≤ 9) : rt ⟨l, [], L⟩ 64 = (decide (L.length < 1048576) && L.all fun t => rt t 63 && okk l t) := by
  rw [rt_eq]
  simp only
  rw [if_neg (by omega), if_neg (by omega)]
  by_cases h : L.length < 1048576
  · rw [if_neg (by simp only [List.length_nil]; omega), decide_eq_true h, Bool.true_and]
  · rw [if_pos (by omega), decide_eq_false h, Bool.false_and]
/-- what an op bears -/
def BO (o : S_api_Op) : Prop := (o.L.length * 56 ≤ 140737488355328 ∧ ∀ t ∈ o.L, Bd t) ∧ BE o.E
theorem bd_of {l : Int} {L : List Tr} (h : L.length * 56 ≤ 140737488355328 ∧ ∀ t ∈ L, Bd t) : Bd ⟨l, [], L⟩ := .mk _ (by simp) (by simp only; omega) (fun w hw => by simp at hw) h.2
theorem eright_lv : ∀ (k : Nat), (∀ e : Ed, BE e → (4 * SizeOf.sizeOf e + 1 < k ∨ (e.Kind = 0 ∧ 2 ≤ k)) → (lv_edit_Right k).1 e = some (rE e 64)) ∧
    (∀ (e : Ed) (d : Nat), BE e → (4 * SizeOf.sizeOf e < k ∨ (e.Kind = 0 ∧ 1 ≤ k)) → d ≤ 64 → (lv_edit_Right k).2.1 e (d : Int) = some (rE e d)) ∧
    (∀ (l : List S_api_KidEdit) (d : Nat), (l.length : Int) ≤ 140737488355328 → (∀ x ∈ l, BE x.E ∧ 4 * SizeOf.sizeOf x.E + 1 < k) → 1 ≤ k → d ≤ 64 → (lv_edit_Right k).2.2.1 l (d : Int) = some (chk (·.At) (okK d) (-1) l)) ∧
    (∀ (e : Ed) (d : Nat), BE e → (∀ o ∈ e.Ops, 4 * SizeOf.sizeOf o.E + 2 < k) → 1 ≤ k → d ≤ 64 → (lv_edit_Right k).2.2.2.1 e (d : Int) = some ((decide (2 ≤ e.List_) && decide (e.List_ ≤ 9)) && ((e.Ops.all fun o => okO e.List_ o (rE o.E d)) && lensB (e.Ops.foldl stR (0, 0))))) ∧
    (∀ (l : Int) (o : S_api_Op) (d : Nat), 2 ≤ l → l ≤ 9 → BO o → 4 * SizeOf.sizeOf o.E + 1 < k → d ≤ 64 → (lv_edit_Right k).2.2.2.2.1 l o (d : Int) = some (okO l o (rE o.E d) && decide (o.L.length < 1048576))) ∧
    (∀ (a b c : Bool) (o : S_api_Op), BE o.E → 3 ≤ k → (lv_edit_Right k).2.2.2.2.2 a b c o = some ((!a || o.N == 0) && ((!b || o.L.length == 0) && (!c || sameE o.E))))
  | 0 => ⟨fun e _ h => by omega, fun e d _ h => by omega, fun l d _ _ h => by omega, fun e d _ _ h => by omega, fun l o d _ _ _ h => by omega, fun a b c o _ h => by omega⟩
  | k + 1 => by
    obtain ⟨i1, i2, i3, i4, i5, i6⟩ := eright_lv k
    refine ⟨fun e hb hk => ?_, fun e d hb hk hd => ?_, fun l d hn hl hk hd => ?_, fun e d hb ho hk hd => ?_, fun l o d h2 h9 hb hk hd => ?_, fun a b c o hb hk => ?_⟩
    · show b_edit_Right (lv_edit_Right k).1 (lv_edit_Right k).2.1 (lv_edit_Right k).2.2.1 (lv_edit_Right k).2.2.2.1 (lv_edit_Right k).2.2.2.2.1 (lv_edit_Right k).2.2.2.2.2 e = _
      unfold b_edit_Right
      have := i2 e 64 hb (by rcases hk with hk | hk; exact .inl (by omega); exact .inr ⟨hk.1, by omega⟩) (by decide)
      rw [show (64 : Int) = ((64 : Nat) : Int) from rfl, this]
      rfl
    · show b_edit_right (lv_edit_Right k).1 (lv_edit_Right k).2.1 (lv_edit_Right k).2.2.1 (lv_edit_Right k).2.2.2.1 (lv_edit_Right k).2.2.2.2.1 (lv_edit_Right k).2.2.2.2.2 e (d : Int) = _
      unfold b_edit_right
      rw [rE_eq]
      by_cases hd0 : d = 0
      · subst hd0
        rw [if_pos rfl]
        rfl
      have ed : ((d : Int) == 0) = false := by rw [beq_eq_false_iff_ne]; omega
      rw [if_neg hd0, ed, cond_false, cond_beq, cond_beq, cond_beq, cond_beq]
      by_cases h0 : e.Kind = 0
      · rw [if_pos h0, if_pos h0, right1_ok hb, Option.bind_some]
        unfold sameE
        rw [beq_iff_eq.2 h0]
        rfl
      rw [if_neg h0, if_neg h0]
      have hk' : 4 * SizeOf.sizeOf e < k + 1 := by rcases hk with hk | hk; exact hk; exact absurd hk.1 h0
      have hw : ∀ t : Tr, Bd t → m_edit_whole t = some (rt t 64 && t.Kind != 10) := fun t ht => by
        unfold m_edit_whole
        rw [right_ok ht]
        cases t.Kind != 10 <;> cases rt t 64 <;> rfl
      by_cases h1 : e.Kind = 1
      · rw [if_pos h1, if_pos h1, right1_ok hb, hw _ hb.old, hw _ hb.new]
        simp only [Option.bind_some]
        generalize none2 e = q0
        generalize noWK e = q1
        generalize noLO e = q2
        generalize (rt e.Old 64 && e.Old.Kind != 10) = q3
        generalize (rt e.New 64 && e.New.Kind != 10) = q4
        revert q0 q1 q2 q3 q4
        decide
      rw [if_neg h1, if_neg h1]
      obtain ⟨d', rfl⟩ : ∃ d', d = d' + 1 := ⟨d - 1, by omega⟩
      have ed' : IntKind.i64.wrap (((d' + 1 : Nat) : Int) - 1) = (d' : Int) := by rw [i64s (by omega) (by omega)]; omega
      rw [ed', Nat.add_sub_cancel]
      by_cases h2 : e.Kind = 2
      · rw [if_pos h2, if_pos h2, right1_ok hb, rightWords_ok hb.w hb.ws, i3 e.Kids d' hb.k (fun x hx => ⟨hb.ks x hx, by have := kidE_lt hx; omega⟩) (by have := edit_pos e; omega) (by omega)]
        simp only [Option.bind_some]
        generalize none2 e = q0
        generalize noWK e = q1
        generalize noLO e = q2
        generalize chk (·.At) okW (-1) e.Words = q3
        generalize chk (·.At) (okK d') (-1) e.Kids = q4
        revert q0 q1 q2 q3 q4
        decide
      rw [if_neg h2, if_neg h2]
      by_cases h3 : e.Kind = 3
      · rw [if_pos h3, if_pos h3, right1_ok hb, i4 e d' hb (fun o ho => by have := opE_lt ho; omega) (by have := edit_pos e; omega) (by omega)]
        simp only [Option.bind_some]
        generalize none2 e = q0
        generalize noWK e = q1
        generalize noLO e = q2
        generalize ((decide (2 ≤ e.List_) && decide (e.List_ ≤ 9)) && ((e.Ops.all fun o => okO e.List_ o (rE o.E d')) && lensB (e.Ops.foldl stR (0, 0)))) = q3
        revert q0 q1 q2 q3
        decide
      · rw [if_neg h3, if_neg h3]
    · show b_edit_rightKids (lv_edit_Right k).1 (lv_edit_Right k).2.1 (lv_edit_Right k).2.2.1 (lv_edit_Right k).2.2.2.1 (lv_edit_Right k).2.2.2.2.1 (lv_edit_Right k).2.2.2.2.2 l (d : Int) = _
      unfold b_edit_rightKids
      rw [loop_chk l (·.At) (okK d) (b_edit_rightKids_L0 (lv_edit_Right k).2.1 l (d : Int)) (.inl ()) (.inr ()) hn (fun p i x hi hx hm => by
        unfold b_edit_rightKids_L0
        simp only
        rw [lt_t hi, cond_true, getI_of hx, Option.bind_some, i2 x.E d (hl x hm).1 (.inl (by have := (hl x hm).2; omega)) hd]
        simp only [Option.bind_some]
        unfold okK okP bne
        simp only
        generalize decide (x.At ≤ p) = q1
        generalize decide (65534 < x.At) = q2
        generalize (x.E.Kind == 0) = q3
        generalize rE x.E d = q4
        cases q1 <;> cases q2 <;> cases q3 <;> cases q4 <;> rfl) (fun p => by unfold b_edit_rightKids_L0; simp only; rw [lt_f]; rfl) (-1), Option.bind_some]
      cases chk (·.At) (okK d) (-1) l <;> rfl
    · show b_edit_rightOps (lv_edit_Right k).1 (lv_edit_Right k).2.1 (lv_edit_Right k).2.2.1 (lv_edit_Right k).2.2.2.1 (lv_edit_Right k).2.2.2.2.1 (lv_edit_Right k).2.2.2.2.2 e (d : Int) = _
      unfold b_edit_rightOps
      rw [list_ok, Option.bind_some]
      by_cases hl : 2 ≤ e.List_ ∧ e.List_ ≤ 9
      · rw [decide_eq_true hl.1, decide_eq_true hl.2, (lenI_ok hb).1]
        rw [loop_all e.Ops (b_edit_rightOps_L0 (lv_edit_Right k).2.2.2.2.1 e (d : Int)) (fun o => okO e.List_ o (rE o.E d) && decide (o.L.length < 1048576)) (.inl ()) (.inr ()) hb.o (fun i x hi hx hm => by
          unfold b_edit_rightOps_L0
          rw [lt_t hi, cond_true, getI_of hx, Option.bind_some, i5 e.List_ x d hl.1 hl.2 ⟨hb.l x hm, hb.os x hm⟩ (by have := ho x hm; omega) hd, Option.bind_some]
          cases okO e.List_ x (rE x.E d) && decide (x.L.length < 1048576) <;> rfl) (by unfold b_edit_rightOps_L0; rw [lt_f]; rfl)]
        have hob := ops_both (l := e.List_) (fun o => rE o.E d) e.Ops (fun o ho => (hb.l o ho).1)
        rw [← hob]
        unfold lensB
        cases e.Ops.all fun o => okO e.List_ o (rE o.E d) && decide (o.L.length < 1048576) with
        | false => rfl
        | true =>
          simp only [Option.bind_some, Bool.and_true, Bool.not_true, cond_false, Bool.true_and, if_true]
          rw [cond_and]
      · have : (decide (2 ≤ e.List_) && decide (e.List_ ≤ 9)) = false := by rw [Bool.and_eq_false_iff, decide_eq_false_iff_not, decide_eq_false_iff_not]; omega
        rw [this]
        rfl
    · show b_edit_rightOp (lv_edit_Right k).1 (lv_edit_Right k).2.1 (lv_edit_Right k).2.2.1 (lv_edit_Right k).2.2.2.1 (lv_edit_Right k).2.2.2.2.1 (lv_edit_Right k).2.2.2.2.2 l o (d : Int) = _
      have hp := edit_pos o.E
      have j6 : ∀ a b c, (lv_edit_Right k).2.2.2.2.2 a b c o = some ((!a || o.N == 0) && ((!b || o.L.length == 0) && (!c || sameE o.E))) := fun a b c => i6 a b c o hb.2 (by omega)
      unfold b_edit_rightOp okO
      rw [j6, j6, j6, cond_beq, cond_beq, cond_beq, cond_beq]
      by_cases h0 : o.Kind = 0
      · rw [if_pos h0, if_pos h0]
        simp only [Option.bind_some, Bool.not_false, Bool.not_true, Bool.true_or, Bool.false_or, Bool.true_and]
        congr 1
        cases hL : o.L.length == 0 with
        | false => simp
        | true =>
          have : o.L.length = 0 := beq_iff_eq.1 hL
          rw [this]
          cases decide (1 ≤ o.N) <;> cases decide (o.N ≤ 1048576) <;> cases sameE o.E <;> rfl
      rw [if_neg h0, if_neg h0]
      by_cases h12 : o.Kind = 1 ∨ o.Kind = 2
      · have e12 : (if o.Kind = 1 then some (Sum.inl ()) else if o.Kind = 2 then some (Sum.inl ()) else if o.Kind = 3 then some (Sum.inr (Sum.inr (Sum.inl ()))) else some (Sum.inr (Sum.inr (Sum.inr ())))) = (some (Sum.inl ()) : Option (Unit ⊕ (Bool ⊕ (Unit ⊕ Unit)))) := by
          rcases h12 with h | h
          · rw [if_pos h]
          · rw [if_neg (by omega), if_pos h]
        rw [e12, if_pos h12, right_ok (bd_of hb.1), rt_of h2 h9, len_pos, len_pos']
        simp only [Option.bind_some]
        generalize (o.N == 0) = q1
        generalize (o.L.length == 0) = q2
        generalize sameE o.E = q3
        generalize decide (o.L.length < 1048576) = q4
        generalize (o.L.all fun t => rt t 63 && okk l t) = q5
        revert q1 q2 q3 q4 q5
        decide
      rw [if_neg h12, if_neg (by omega), if_neg (by omega)]
      by_cases h3 : o.Kind = 3
      · rw [if_pos h3, if_pos h3, desc_ok, i2 o.E d hb.2 (.inl (by omega)) hd]
        simp only [Option.bind_some]
        have hdk : descP l o.E = true → (o.E.Kind != 0) = true := fun h => by
          unfold descP at h
          by_cases k0 : o.E.Kind = 0
          · rw [k0] at h
            repeat' split at h
            all_goals simp_all
          · simp [k0]
        cases hL : o.L.length == 0 with
        | false =>
          cases (o.N == 0) <;> rfl
        | true =>
          have : o.L.length = 0 := beq_iff_eq.1 hL
          rw [this]
          cases hdp : descP l o.E with
          | false => cases (o.N == 0) <;> cases (o.E.Kind != 0) <;> rfl
          | true =>
            rw [hdk hdp]
            cases (o.N == 0) <;> cases rE o.E d <;> rfl
      · rw [if_neg h3, if_neg h3]
        rfl
    · show b_edit_rightOp_1 (lv_edit_Right k).1 (lv_edit_Right k).2.1 (lv_edit_Right k).2.2.1 (lv_edit_Right k).2.2.2.1 (lv_edit_Right k).2.2.2.2.1 (lv_edit_Right k).2.2.2.2.2 a b c o = _
      unfold b_edit_rightOp_1 bne
      rw [len_pos]
      by_cases hK : o.E.Kind = 0
      · rw [i1 o.E hb (.inr ⟨hK, by omega⟩), rE_same hK (by decide), beq_iff_eq.2 hK]
        simp only [Option.bind_some]
        generalize (o.N == 0) = q1
        generalize (o.L.length == 0) = q2
        generalize sameE o.E = q3
        revert a b c q1 q2 q3
        decide
      · rw [same_kind hK, beq_eq_false_iff_ne.2 hK]
        generalize (o.N == 0) = q1
        generalize (o.L.length == 0) = q2
        cases a <;> cases b <;> cases c <;> cases q1 <;> cases q2 <;> rfl
theorem eright_ok {e : Ed} (h : BE e) : m_edit_Right e = some (rE e 64) := lim_eq (4 * SizeOf.sizeOf e + 2) fun k hk => (eright_lv k).1 e h (.inl (by omega))

/-- how many parts an edit has at the least -/
def ce (e : Ed) : Nat := 1 + e.Words.length + e.Ops.length + (e.Kids.attach.map fun k => ce k.1.E).sum + (e.Ops.attach.map fun o => ce o.1.E).sum
termination_by SizeOf.sizeOf e
decreasing_by
  · exact kidE_lt k.2
  · exact opE_lt o.2
theorem ce_eq (e : Ed) : ce e = 1 + e.Words.length + e.Ops.length + (e.Kids.map fun k => ce k.E).sum + (e.Ops.map fun o => ce o.E).sum := by
  rw [ce]
  have h1 : (e.Kids.attach.map fun k => ce k.1.E) = e.Kids.map fun k => ce k.E := List.attach_map_val (f := fun k : S_api_KidEdit => ce k.E)
  have h2 : (e.Ops.attach.map fun o => ce o.1.E) = e.Ops.map fun o => ce o.E := List.attach_map_val (f := fun o : S_api_Op => ce o.E)
  rw [h1, h2]
theorem left_lv : ∀ (k : Nat) (e : Ed) (d left : Int), BE e → SizeOf.sizeOf e < k → 0 ≤ d → d ≤ 100 → 0 ≤ left → left ≤ 1000000 → ∃ r, lv_centoref20_left k e d left = some r ∧ -1 ≤ r ∧ r ≤ 1000000 ∧ (0 ≤ r → r + (ce e : Nat) ≤ left)
  | 0, e, _, _, _, h, _, _, _, _ => by omega
  | k + 1, e, d, left, hb, hk, hd0, hd1, hl0, hl1 => by
    have hw := hb.w
    have ho := hb.o
    show ∃ r, b_centoref20_left (lv_centoref20_left k) e d left = some r ∧ _
    unfold b_centoref20_left
    rw [i64s (x := left - 1) (by omega) (by omega), i64s (x := left - 1 - (e.Words.length : Int)) (by omega) (by omega), i64s (by omega) (by omega), ce_eq]
    cases hc : cond (d == 0) true (decide (left - 1 - (e.Words.length : Int) - (e.Ops.length : Int) < 0)) with
    | true => exact ⟨-1, rfl, by omega, by omega, fun h => by omega⟩
    | false =>
      rw [cond_false]
      have hd : ¬ d = 0 ∧ 0 ≤ left - 1 - (e.Words.length : Int) - (e.Ops.length : Int) := by
        by_cases h : d = 0
        · simp [h] at hc
        · have e : (d == 0) = false := by simp [h]
          rw [e, cond_false, decide_eq_false_iff_not] at hc
          exact ⟨h, by omega⟩
      obtain ⟨r1, g1, g2, g3, g4⟩ := shal_ok hb.old hd.2 (by omega)
      have hz : ∃ z, cond (decide (0 ≤ r1)) ((m_centoref07_Shallow e.New 80 r1).bind fun y4 => some y4) (some r1) = some z ∧ -1 ≤ z ∧ z ≤ 1000000 ∧ (0 ≤ z → z ≤ left - 1 - (e.Words.length : Int) - (e.Ops.length : Int)) := by
        by_cases h : 0 ≤ r1
        · obtain ⟨r2, f1, f2, f3, f4⟩ := shal_ok hb.new h g3
          refine ⟨r2, by rw [decide_eq_true h, f1]; rfl, f2, f3, fun h2 => ?_⟩
          have := f4 h2
          have := g4 h
          omega
        · exact ⟨r1, by rw [decide_eq_false h]; rfl, g2, g3, fun h2 => absurd h2 h⟩
      obtain ⟨z, z1, z2, z3, z4⟩ := hz
      rw [g1, Option.bind_some, z1, Option.bind_some]
      obtain ⟨r, h1, h2⟩ := runLoop_rule (step := b_centoref20_left_L0 (lv_centoref20_left k) e d)
        (fun s => ∃ j : Nat, s.2 = j ∧ j ≤ e.Kids.length ∧ -1 ≤ s.1 ∧ s.1 ≤ 1000000 ∧ (0 ≤ s.1 → s.1 + ((((e.Kids.take j).map fun k => ce k.E)).sum : Nat) ≤ left - 1 - (e.Words.length : Int) - (e.Ops.length : Int)))
        (fun s => e.Kids.length - s.2.toNat) (fun r => -1 ≤ r ∧ r ≤ 1000000 ∧ (0 ≤ r → r + ((e.Kids.map fun k => ce k.E).sum : Nat) ≤ left - 1 - (e.Words.length : Int) - (e.Ops.length : Int))) (fun s hI => by
          obtain ⟨l, i⟩ := s
          obtain ⟨j, rfl, hj, g1, g2, g3⟩ := hI
          have hkl := hb.k
          simp only at g1 g2 g3 ⊢
          unfold b_centoref20_left_L0
          simp only
          by_cases hji : j < e.Kids.length
          · rw [lt_t hji, cond_true]
            by_cases hl : 0 ≤ l
            · have e1 : decide (0 ≤ l) = true := by simp [hl]
              have hx : e.Kids[j]? = some e.Kids[j] := List.getElem?_eq_getElem hji
              have hm : e.Kids[j] ∈ e.Kids := List.getElem_mem hji
              obtain ⟨r, q1, q2, q3, q4⟩ := left_lv k e.Kids[j].E (d - 1) l (hb.ks _ hm) (by have := kidE_lt hm; omega) (by omega) (by omega) hl g2
              rw [e1, cond_true, getI_of hx, Option.bind_some, i64s (x := d - 1) (by omega) (by omega), q1, Option.bind_some, i64s (by omega) (by omega)]
              refine .inl ⟨_, rfl, ⟨j + 1, by simp only; omega, by omega, q2, q3, fun hr => ?_⟩, by simp only; omega⟩
              have := q4 hr
              have := g3 hl
              rw [List.take_add_one, hx]
              simp only [Option.toList_some, List.map_append, List.map_cons, List.map_nil, List.sum_append, List.sum_cons, List.sum_nil]
              simp only at hr
              omega
            · have e1 : decide (0 ≤ l) = false := by simp [hl]
              rw [e1, cond_false]
              exact .inr ⟨l, rfl, g1, g2, fun h => absurd h hl⟩
          · have hj' : j = e.Kids.length := by omega
            subst hj'
            rw [lt_f, cond_false]
            rw [List.take_length] at g3
            exact .inr ⟨l, rfl, g1, g2, g3⟩) (z, 0) ⟨0, rfl, Nat.zero_le _, z2, z3, fun h => by simpa using z4 h⟩
      rw [h1, Option.bind_some]
      have inner : ∀ (j : Nat) (hj : j < e.Ops.length) (l : Int), 0 ≤ l → l ≤ 1000000 → ∃ r, runLoop (b_centoref20_left_L2 e (l, (j : Int))) (l, 0) = some r ∧ -1 ≤ r ∧ r ≤ 1000000 ∧ r ≤ l := fun j hj l hl hl' => by
        have hx : e.Ops[j]? = some e.Ops[j] := List.getElem?_eq_getElem hj
        have hm : e.Ops[j] ∈ e.Ops := List.getElem_mem hj
        have hL := (hb.l _ hm).1
        obtain ⟨r, h1, h2⟩ := runLoop_rule (step := b_centoref20_left_L2 e (l, (j : Int)))
          (fun s => ∃ i : Nat, s.2 = i ∧ i ≤ e.Ops[j].L.length ∧ -1 ≤ s.1 ∧ s.1 ≤ 1000000 ∧ s.1 ≤ l)
          (fun s => e.Ops[j].L.length - s.2.toNat) (fun r => -1 ≤ r ∧ r ≤ 1000000 ∧ r ≤ l) (fun s hI => by
            obtain ⟨l', i'⟩ := s
            obtain ⟨i, rfl, hi, g1, g2, g3⟩ := hI
            simp only at g1 g2 g3 ⊢
            unfold b_centoref20_left_L2
            simp only
            rw [getI_of hx, Option.bind_some, Option.bind_some]
            by_cases hii : i < e.Ops[j].L.length
            · rw [lt_t hii, cond_true]
              by_cases hl2 : 0 ≤ l'
              · have e1 : decide (0 ≤ l') = true := by simp [hl2]
                have hx2 : e.Ops[j].L[i]? = some e.Ops[j].L[i] := List.getElem?_eq_getElem hii
                have hm2 : e.Ops[j].L[i] ∈ e.Ops[j].L := List.getElem_mem hii
                obtain ⟨r, q1, q2, q3, q4⟩ := shal_ok ((hb.l _ hm).2 _ hm2) hl2 g2
                rw [e1, cond_true, getI_of hx2, Option.bind_some, q1, Option.bind_some, i64s (by omega) (by omega)]
                refine .inl ⟨_, rfl, ⟨i + 1, by simp only; omega, by omega, q2, q3, ?_⟩, by simp only; omega⟩
                simp only
                by_cases hr : 0 ≤ r
                · have := q4 hr; omega
                · omega
              · have e1 : decide (0 ≤ l') = false := by simp [hl2]
                rw [e1, cond_false]
                exact .inr ⟨l', rfl, g1, g2, g3⟩
            · have hi' : i = e.Ops[j].L.length := by omega
              subst hi'
              rw [lt_f, cond_false]
              exact .inr ⟨l', rfl, g1, g2, g3⟩) (l, 0) ⟨0, rfl, Nat.zero_le _, by simp only; omega, by simp only; omega, by simp only; omega⟩
        exact ⟨r, h1, h2⟩
      obtain ⟨r', h1', h2'⟩ := runLoop_rule (step := b_centoref20_left_L1 (lv_centoref20_left k) e d)
        (fun s => ∃ j : Nat, s.2 = j ∧ j ≤ e.Ops.length ∧ -1 ≤ s.1 ∧ s.1 ≤ 1000000 ∧ (0 ≤ s.1 → 0 ≤ r ∧ s.1 + ((((e.Ops.take j).map fun o => ce o.E)).sum : Nat) ≤ r))
        (fun s => e.Ops.length - s.2.toNat) (fun q => -1 ≤ q ∧ q ≤ 1000000 ∧ (0 ≤ q → 0 ≤ r ∧ q + ((e.Ops.map fun o => ce o.E).sum : Nat) ≤ r)) (fun s hI => by
          obtain ⟨l, i⟩ := s
          obtain ⟨j, rfl, hj, g1, g2, g3⟩ := hI
          simp only at g1 g2 g3 ⊢
          unfold b_centoref20_left_L1
          simp only
          by_cases hji : j < e.Ops.length
          · rw [lt_t hji, cond_true]
            by_cases hl : 0 ≤ l
            · have e1 : decide (0 ≤ l) = true := by simp [hl]
              have hx : e.Ops[j]? = some e.Ops[j] := List.getElem?_eq_getElem hji
              have hm : e.Ops[j] ∈ e.Ops := List.getElem_mem hji
              obtain ⟨t, t1, t2, t3, t4⟩ := inner j hji l hl g2
              rw [e1, cond_true, t1, Option.bind_some, i64s (x := (j : Int) + 1) (by omega) (by omega)]
              by_cases ht : 0 ≤ t
              · obtain ⟨r, q1, q2, q3, q4⟩ := left_lv k e.Ops[j].E (d - 1) t (hb.os _ hm) (by have := opE_lt hm; omega) (by omega) (by omega) ht t3
                rw [decide_eq_true ht, cond_true, getI_of hx, Option.bind_some, i64s (x := d - 1) (by omega) (by omega), q1]
                refine .inl ⟨_, rfl, ⟨j + 1, by simp only; omega, by omega, q2, q3, fun hr => ?_⟩, by simp only; omega⟩
                have := q4 hr
                have := g3 hl
                rw [List.take_add_one, hx]
                simp only [Option.toList_some, List.map_append, List.map_cons, List.map_nil, List.sum_append, List.sum_cons, List.sum_nil]
                simp only at hr
                omega
              · rw [decide_eq_false ht]
                exact .inl ⟨_, rfl, ⟨j + 1, by simp only; omega, by omega, t2, t3, fun hr => absurd hr ht⟩, by simp only; omega⟩
            · have e1 : decide (0 ≤ l) = false := by simp [hl]
              rw [e1, cond_false]
              exact .inr ⟨l, rfl, g1, g2, fun h => absurd h hl⟩
          · have hj' : j = e.Ops.length := by omega
            subst hj'
            rw [lt_f, cond_false]
            rw [List.take_length] at g3
            exact .inr ⟨l, rfl, g1, g2, g3⟩) (r, 0) ⟨0, rfl, Nat.zero_le _, h2.1, h2.2.1, fun h => ⟨h, by simp⟩⟩
      rw [h1']
      refine ⟨r', rfl, h2'.1, h2'.2.1, fun hr => ?_⟩
      have p1 := h2'.2.2 hr
      have p2 := h2.2.2 p1.1
      omega
theorem left_same : ∀ (k k' : Nat) (e : Ed) (d left : Int), SizeOf.sizeOf e < k → SizeOf.sizeOf e < k' → lv_centoref20_left k e d left = lv_centoref20_left k' e d left
  | 0, _, e, _, _, h, _ => by omega
  | k + 1, 0, e, _, _, _, h => by omega
  | k + 1, k' + 1, e, d, left, h, h' => by
    show b_centoref20_left (lv_centoref20_left k) e d left = b_centoref20_left (lv_centoref20_left k') e d left
    have e1 : b_centoref20_left_L0 (lv_centoref20_left k) e d = b_centoref20_left_L0 (lv_centoref20_left k') e d := funext fun s => by
      unfold b_centoref20_left_L0
      cases hx : getI e.Kids s.2 with
      | none => rfl
      | some x => simp only [Option.bind_some, left_same k k' x.E (IntKind.i64.wrap (d - 1)) s.1 (by have := kidE_lt (getI_mem hx); omega) (by have := kidE_lt (getI_mem hx); omega)]
    have e2 : b_centoref20_left_L1 (lv_centoref20_left k) e d = b_centoref20_left_L1 (lv_centoref20_left k') e d := funext fun s => by
      unfold b_centoref20_left_L1
      cases hx : getI e.Ops s.2 with
      | none => rfl
      | some x => 
        have : ∀ z, lv_centoref20_left k x.E (IntKind.i64.wrap (d - 1)) z = lv_centoref20_left k' x.E (IntKind.i64.wrap (d - 1)) z := fun z => left_same k k' x.E _ z (by have := opE_lt (getI_mem hx); omega) (by have := opE_lt (getI_mem hx); omega)
        simp only [Option.bind_some, this]
    unfold b_centoref20_left
    rw [e1, e2]
theorem few20 {e : Ed} (h : BE e) : ∃ b, m_centoref20_Few e = some b ∧ (b = true → ce e ≤ 3000) := by
  obtain ⟨r, h1, h2, h3, h4⟩ := left_lv (SizeOf.sizeOf e + 1) e 80 3000 h (by omega) (by omega) (by omega) (by omega) (by omega)
  have hr : m_centoref20_left e 80 3000 = some r := lim_eq (SizeOf.sizeOf e + 1) fun k hk => by rw [left_same k (SizeOf.sizeOf e + 1) e 80 3000 (by omega) (by omega)]; exact h1
  unfold m_centoref20_Few
  rw [hr, Option.bind_some]
  refine ⟨_, rfl, fun hb => ?_⟩
  have := h4 (by simpa using hb)
  have : 0 ≤ r := by simpa using hb
  omega

theorem bd_atom (w : Int) (h : 0 ≤ w ∧ w < 18446744073709551616) : Bd ⟨10, [w], []⟩ := .mk _ (by simp) (by simp) (by simpa using h) (fun k h => by simp at h)
theorem bd_none : Bd ⟨0, [], []⟩ := .mk _ (by simp) (by simp) (by simp) (fun k h => by simp at h)
def e0E : Ed := ⟨0, ⟨0, [], []⟩, ⟨0, [], []⟩, [], [], 0, []⟩
theorem be_none : BE e0E := .mk _ bd_none bd_none (by simp [e0E]) (by simp [e0E]) (by simp [e0E]) (by simp [e0E]) (by simp [e0E]) (by simp [e0E]) (by simp [e0E])
def eAw : Ed := ⟨3, ⟨0, [], []⟩, ⟨0, [], []⟩, [], [], 4, [⟨0, 2, [], e0E⟩, ⟨1, 0, [⟨10, [5], []⟩], e0E⟩, ⟨2, 0, [⟨10, [6], []⟩, ⟨10, [7], []⟩], e0E⟩]⟩
theorem mem3 {α : Type} {a b c : α} {P : α → Prop} (h1 : P a) (h2 : P b) (h3 : P c) : ∀ x ∈ [a, b, c], P x := fun x hx => by
  rcases List.mem_cons.1 hx with rfl | hx
  · exact h1
  rcases List.mem_cons.1 hx with rfl | hx
  · exact h2
  rw [List.mem_singleton.1 hx]
  exact h3
theorem be_aw : BE eAw := by
  refine .mk _ bd_none bd_none (by simp [eAw]) (by simp [eAw]) (by simp [eAw]) (by simp [eAw]) (by simp [eAw]) ?_ ?_
  · refine mem3 ?_ ?_ ?_
    · exact ⟨by simp, fun t h => by simp at h⟩
    · exact ⟨by simp, fun t h => by rw [List.mem_singleton.1 h]; exact bd_atom 5 (by decide)⟩
    · refine ⟨by simp, fun t h => ?_⟩
      rcases List.mem_cons.1 h with rfl | h
      · exact bd_atom 6 (by decide)
      · rw [List.mem_singleton.1 h]; exact bd_atom 7 (by decide)
  · exact mem3 be_none be_none be_none
theorem rt_one (w : Int) (d : Nat) : rt ⟨10, [w], []⟩ d = true := by rw [rt_eq]; rfl
theorem r_aw : rE eAw 64 = true := by
  rw [rE_eq]
  have hall : ((eAw.Ops.all fun o => okO eAw.List_ o (rE o.E (64 - 1))) = true) := by
    refine List.all_eq_true.2 (mem3 ?_ ?_ ?_)
    · rfl
    · unfold okO
      simp only [List.all_cons, List.all_nil, rt_one]
      rfl
    · unfold okO
      simp only [List.all_cons, List.all_nil, rt_one]
      rfl
  rw [hall]
  rfl
theorem awake20 : m_centolaw20_awake = some true := by
  have h1 := eright_ok be_aw
  have h2 := (lenI_ok be_aw).1
  rw [r_aw] at h1
  unfold m_centolaw20_awake m_centolaw20_awake_1
  simp only [Option.bind_some]
  unfold eAw e0E at h1 h2
  rw [h1, h2]
  rfl
/-- lists alike, kid by kid -/
def eqLs {α : Type} (q : α → α → Bool) : List α → List α → Bool
  | [], [] => true
  | x :: xs, y :: ys => q x y && eqLs q xs ys
  | _, _ => false
theorem eqLs_len {α : Type} {q : α → α → Bool} : ∀ {xs ys : List α}, xs.length ≠ ys.length → eqLs q xs ys = false
  | [], [], h => absurd rfl h
  | [], _ :: _, _ => rfl
  | _ :: _, [], _ => rfl
  | x :: xs, y :: ys, h => by rw [eqLs, eqLs_len (xs := xs) (ys := ys) (fun e => h (by simp [e])), Bool.and_false]
theorem eqLs_zip {α : Type} {q : α → α → Bool} : ∀ {xs ys : List α}, xs.length = ys.length → eqLs q xs ys = (xs.zip ys).all fun p => q p.1 p.2
  | [], [], _ => rfl
  | [], _ :: _, h => by simp at h
  | _ :: _, [], h => by simp at h
  | x :: xs, y :: ys, h => by rw [eqLs, List.zip_cons_cons, List.all_cons, eqLs_zip (xs := xs) (ys := ys) (by simpa using h)]
theorem eqLs_congr {α : Type} {q q' : α → α → Bool} : ∀ {xs ys : List α}, (∀ x ∈ xs, ∀ y, q x y = q' x y) → eqLs q xs ys = eqLs q' xs ys
  | [], [], _ => rfl
  | [], _ :: _, _ => rfl
  | _ :: _, [], _ => rfl
  | x :: xs, y :: ys, h => by rw [eqLs, eqLs, h x (.head _) y, eqLs_congr (xs := xs) (ys := ys) fun z hz => h z (.tail _ hz)]
theorem eqLs_comm {α : Type} {q q' : α → α → Bool} (h : ∀ x y, q x y = q' y x) : ∀ xs ys : List α, eqLs q xs ys = eqLs q' ys xs
  | [], [] => rfl
  | [], _ :: _ => rfl
  | _ :: _, [] => rfl
  | x :: xs, y :: ys => by rw [eqLs, eqLs, h x y, eqLs_comm h xs ys]
theorem eqLs_refl {α : Type} {q : α → α → Bool} : ∀ {xs : List α}, (∀ x ∈ xs, q x x = true) → eqLs q xs xs = true
  | [], _ => rfl
  | x :: xs, h => by rw [eqLs, h x (.head _), eqLs_refl (xs := xs) fun z hz => h z (.tail _ hz)]; rfl
theorem loop_zip {α R : Type} (xs ys : List α) (q : α → α → Bool) (step : Int → Option (Int ⊕ R)) (e o : R) (hl : (xs.length : Int) ≤ 140737488355328) (hlen : xs.length = ys.length)
    (h1 : ∀ (i : Nat) (x y : α), i < xs.length → xs[i]? = some x → ys[i]? = some y → x ∈ xs → y ∈ ys → step i = some (if q x y = true then .inl (IntKind.i64.wrap ((i : Int) + 1)) else .inr e)) (h2 : step xs.length = some (.inr o)) : runLoop step 0 = some (if eqLs q xs ys = true then o else e) := by
  have hz : (xs.zip ys).length = xs.length := by rw [List.length_zip]; omega
  rw [eqLs_zip hlen]
  refine loop_all (xs.zip ys) step (fun p => q p.1 p.2) e o (by rw [hz]; exact hl) (fun i p hi hp hm => ?_) (by rw [hz]; exact h2)
  rw [hz] at hi
  have e1 : xs[i]? = some xs[i] := List.getElem?_eq_getElem hi
  have hi2 : i < ys.length := by omega
  have e2 : ys[i]? = some ys[i] := List.getElem?_eq_getElem hi2
  have e3 : p = (xs[i], ys[i]) := by
    rw [List.getElem?_eq_getElem (by rw [hz]; exact hi), List.getElem_zip] at hp
    exact (Option.some.inj hp).symm
  rw [h1 i _ _ hi e1 e2 (List.getElem_mem hi) (List.getElem_mem hi2), e3]
def wEq (x y : S_api_WordEdit) : Bool := (x.At == y.At) && ((x.Mask == y.Mask) && ((x.Old == y.Old) && (x.New == y.New)))
def eqTT (t u : Tr) : Bool := eqT (nrm t) (nrm u)
def kEq (q : Ed → Ed → Bool) (x y : S_api_KidEdit) : Bool := x.At == y.At && q x.E y.E
def oEq (q : Ed → Ed → Bool) (x y : S_api_Op) : Bool := x.Kind == y.Kind && (x.N == y.N && (eqLs eqTT x.L y.L && q x.E y.E))
def eqF : Nat → Ed → Ed → Bool
  | 0, _, _ => false
  | k + 1, a, b => a.Kind == b.Kind && (a.List_ == b.List_ && (eqTT a.Old b.Old && (eqTT a.New b.New && (eqLs wEq a.Words b.Words && (eqLs (kEq (eqF k)) a.Kids b.Kids && eqLs (oEq (eqF k)) a.Ops b.Ops)))))
theorem eqF_same : ∀ (k k' : Nat) (a b : Ed), SizeOf.sizeOf a < k → SizeOf.sizeOf a < k' → eqF k a b = eqF k' a b
  | 0, _, a, _, h, _ => by omega
  | k + 1, 0, a, _, _, h => by omega
  | k + 1, k' + 1, a, b, h, h' => by
    have h1 : eqLs (kEq (eqF k)) a.Kids b.Kids = eqLs (kEq (eqF k')) a.Kids b.Kids := eqLs_congr fun x hx y => by
      unfold kEq
      rw [eqF_same k k' x.E y.E (by have := kidE_lt hx; omega) (by have := kidE_lt hx; omega)]
    have h2 : eqLs (oEq (eqF k)) a.Ops b.Ops = eqLs (oEq (eqF k')) a.Ops b.Ops := eqLs_congr fun x hx y => by
      unfold oEq
      rw [eqF_same k k' x.E y.E (by have := opE_lt hx; omega) (by have := opE_lt hx; omega)]
    rw [eqF, eqF, h1, h2]
/-- are two edits the same? -/
noncomputable def eqE (a b : Ed) : Bool := eqF (SizeOf.sizeOf a + 1) a b
theorem eqE_eq (a b : Ed) : eqE a b = (a.Kind == b.Kind && (a.List_ == b.List_ && (eqTT a.Old b.Old && (eqTT a.New b.New && (eqLs wEq a.Words b.Words && (eqLs (kEq eqE) a.Kids b.Kids && eqLs (oEq eqE) a.Ops b.Ops)))))) := by
  have h1 : eqLs (kEq (eqF (SizeOf.sizeOf a))) a.Kids b.Kids = eqLs (kEq eqE) a.Kids b.Kids := eqLs_congr fun x hx y => by
    unfold kEq eqE
    rw [eqF_same (SizeOf.sizeOf a) (SizeOf.sizeOf x.E + 1) x.E y.E (by have := kidE_lt hx; omega) (by omega)]
  have h2 : eqLs (oEq (eqF (SizeOf.sizeOf a))) a.Ops b.Ops = eqLs (oEq eqE) a.Ops b.Ops := eqLs_congr fun x hx y => by
    unfold oEq eqE
    rw [eqF_same (SizeOf.sizeOf a) (SizeOf.sizeOf x.E + 1) x.E y.E (by have := opE_lt hx; omega) (by omega)]
  rw [← h1, ← h2]
  rfl
theorem ibeq_comm (a b : Int) : (a == b) = (b == a) := by rw [Bool.eq_iff_iff, beq_iff_eq, beq_iff_eq]; exact eq_comm
theorem eqF_comm : ∀ (k : Nat) (a b : Ed), eqF k a b = eqF k b a
  | 0, _, _ => rfl
  | k + 1, a, b => by
    have ih := eqF_comm k
    have ht : ∀ t u, eqTT t u = eqTT u t := fun t u => eqT_comm _ _
    rw [eqF, eqF, ibeq_comm a.Kind, ibeq_comm a.List_, ht a.Old, ht a.New, eqLs_comm (q' := wEq) (fun x y => by unfold wEq; rw [ibeq_comm x.At, ibeq_comm x.Mask, ibeq_comm x.Old, ibeq_comm x.New]) a.Words, eqLs_comm (q' := kEq (eqF k)) (fun x y => by unfold kEq; rw [ibeq_comm x.At, ih x.E]) a.Kids,
      eqLs_comm (q' := oEq (eqF k)) (fun x y => by unfold oEq; rw [ibeq_comm x.Kind, ibeq_comm x.N, ih x.E, eqLs_comm (q' := eqTT) ht x.L]) a.Ops]
theorem eqE_comm (a b : Ed) : eqE a b = eqE b a := by
  unfold eqE
  rw [eqF_same (SizeOf.sizeOf a + 1) (SizeOf.sizeOf a + SizeOf.sizeOf b + 1) a b (by omega) (by omega), eqF_comm, eqF_same (SizeOf.sizeOf a + SizeOf.sizeOf b + 1) (SizeOf.sizeOf b + 1) b a (by omega) (by omega)]
theorem eqF_refl : ∀ (k : Nat) (a : Ed), SizeOf.sizeOf a < k → eqF k a a = true
  | 0, a, h => by omega
  | k + 1, a, h => by
    have ht : ∀ t, eqTT t t = true := fun t => eqT_refl _
    rw [eqF, beq_iff_eq.2 rfl, beq_iff_eq.2 rfl, ht, ht, eqLs_refl (fun x _ => by unfold wEq; simp), eqLs_refl (fun x hx => by unfold kEq; rw [eqF_refl k x.E (by have := kidE_lt hx; omega)]; simp), eqLs_refl (fun x hx => by unfold oEq; rw [eqF_refl k x.E (by have := opE_lt hx; omega), eqLs_refl fun t _ => ht t]; simp)]
    rfl
theorem ne_len {a b : Nat} : ((a : Int) != (b : Int)) = !(a == b) := len_ne
theorem wordsEq_ok {a b : List S_api_WordEdit} (h : (a.length : Int) ≤ 140737488355328) : m_slices_Equal_api_WordEdit_api_WordEdit a b = some (eqLs wEq a b) := by
  unfold m_slices_Equal_api_WordEdit_api_WordEdit
  rw [ne_len]
  by_cases hl : a.length = b.length
  · rw [loop_zip a b wEq (m_slices_Equal_api_WordEdit_api_WordEdit_L0 a b) (.inl ()) (.inr ()) h hl (fun i x y hi hx hy _ _ => by
      unfold m_slices_Equal_api_WordEdit_api_WordEdit_L0
      rw [lt_t hi, cond_true, getI_of hx, Option.bind_some, getI_of hy, Option.bind_some]
      show cond (!(wEq x y)) _ _ = _
      cases wEq x y <;> rfl) (by unfold m_slices_Equal_api_WordEdit_api_WordEdit_L0; rw [lt_f]; rfl), hl, beq_self_eq_true]
    cases eqLs wEq a b <;> rfl
  · rw [eqLs_len hl, beq_eq_false_iff_ne.2 hl]
    rfl
theorem eqL_eqLs : ∀ a b : List Tr, eqL (a.map nrm) (b.map nrm) = eqLs eqTT a b
  | [], [] => rfl
  | [], _ :: _ => rfl
  | _ :: _, [] => rfl
  | x :: a, y :: b => by rw [List.map_cons, List.map_cons, eqL_cons, eqL_eqLs a b]; rfl

theorem treesEq_ok {a b : List Tr} (ha : a.length * 56 ≤ 140737488355328 ∧ ∀ t ∈ a, Bd t) (hb : ∀ t ∈ b, Bd t) : m_slices_EqualFunc_api_Tree_api_Tree_api_Tree_api_Tree_f24 a b = some (eqLs eqTT a b) := by
  rw [← eqL_eqLs]
  refine lim_eq (2 * SizeOf.sizeOf a + 2) fun k hk => (equal_lv k).2 a b (fun x hx => ⟨ha.2 x hx, ?_⟩) hb (by have := ha.1; omega) (by omega)
  have := List.sizeOf_lt_of_mem hx
  omega
theorem sameTrees_ok {a b : List Tr} (ha : a.length * 56 ≤ 140737488355328 ∧ ∀ t ∈ a, Bd t) (hb : ∀ t ∈ b, Bd t) : m_centoref20_sameTrees a b = some (eqLs eqTT a b) := by
  unfold m_centoref20_sameTrees
  rw [ne_len]
  by_cases hl : a.length = b.length
  · rw [loop_zip a b eqTT (m_centoref20_sameTrees_L0 a b) (.inl ()) (.inr ()) (by have := ha.1; omega) hl (fun i x y hi hx hy hm hm2 => by
      unfold m_centoref20_sameTrees_L0
      rw [lt_t hi, cond_true, getI_of hx, Option.bind_some, getI_of hy, Option.bind_some, requal_ok (ha.2 x hm) (hb y hm2), Option.bind_some]
      show cond (!(eqTT x y)) _ _ = _
      cases eqTT x y <;> rfl) (by unfold m_centoref20_sameTrees_L0; rw [lt_f]; rfl), hl, beq_self_eq_true]
    cases eqLs eqTT a b <;> rfl
  · rw [eqLs_len hl, beq_eq_false_iff_ne.2 hl]
    rfl
theorem eedit_lv : ∀ (k : Nat), (∀ a b : Ed, BE a → BE b → 3 * SizeOf.sizeOf a < k → (lv_edit_Equal k).1 a b = some (eqE a b)) ∧
    (∀ a b : List S_api_KidEdit, (a.length : Int) ≤ 140737488355328 → (∀ x ∈ a, BE x.E ∧ 3 * SizeOf.sizeOf x.E + 2 < k) → (∀ x ∈ b, BE x.E) → 1 ≤ k → (lv_edit_Equal k).2.1 a b = some (eqLs (kEq eqE) a b)) ∧
    (∀ a b : S_api_KidEdit, BE a.E → BE b.E → 3 * SizeOf.sizeOf a.E + 1 < k → (lv_edit_Equal k).2.2.1 a b = some (kEq eqE a b)) ∧
    (∀ a b : List S_api_Op, (a.length : Int) ≤ 140737488355328 → (∀ x ∈ a, BO x ∧ 3 * SizeOf.sizeOf x.E + 2 < k) → (∀ x ∈ b, BO x) → 1 ≤ k → (lv_edit_Equal k).2.2.2.1 a b = some (eqLs (oEq eqE) a b)) ∧
    (∀ a b : S_api_Op, BO a → BO b → 3 * SizeOf.sizeOf a.E + 1 < k → (lv_edit_Equal k).2.2.2.2 a b = some (oEq eqE a b))
  | 0 => ⟨fun a b _ _ h => by omega, fun a b _ _ _ h => by omega, fun a b _ _ h => by omega, fun a b _ _ _ h => by omega, fun a b _ _ h => by omega⟩
  | k + 1 => by
    obtain ⟨i1, i2, i3, i4, i5⟩ := eedit_lv k
    refine ⟨fun a b ha hb hk => ?_, fun a b hl ha hb hk => ?_, fun a b ha hb hk => ?_, fun a b hl ha hb hk => ?_, fun a b ha hb hk => ?_⟩
    · have hp := edit_pos a
      show b_edit_Equal (lv_edit_Equal k).1 (lv_edit_Equal k).2.1 (lv_edit_Equal k).2.2.1 (lv_edit_Equal k).2.2.2.1 (lv_edit_Equal k).2.2.2.2 a b = _
      unfold b_edit_Equal
      rw [eqE_eq, equal_ok ha.old hb.old, equal_ok ha.new hb.new, wordsEq_ok ha.w, i2 a.Kids b.Kids ha.k (fun x hx => ⟨ha.ks x hx, by have := kidE_lt hx; omega⟩) hb.ks (by omega), i4 a.Ops b.Ops ha.o (fun x hx => ⟨⟨ha.l x hx, ha.os x hx⟩, by have := opE_lt hx; omega⟩) (fun x hx => ⟨hb.l x hx, hb.os x hx⟩) (by omega)]
      simp only [Option.bind_some]
      unfold eqTT
      generalize (a.Kind == b.Kind) = q1
      generalize (a.List_ == b.List_) = q2
      generalize eqT (nrm a.Old) (nrm b.Old) = q3
      generalize eqT (nrm a.New) (nrm b.New) = q4
      generalize eqLs wEq a.Words b.Words = q5
      generalize eqLs (kEq eqE) a.Kids b.Kids = q6
      generalize eqLs (oEq eqE) a.Ops b.Ops = q7
      revert q1 q2 q3 q4 q5 q6 q7
      decide
    · show b_slices_EqualFunc_api_KidEdit_api_KidEdit_api_KidEdit_api_KidEdit_f80 (lv_edit_Equal k).1 (lv_edit_Equal k).2.1 (lv_edit_Equal k).2.2.1 (lv_edit_Equal k).2.2.2.1 (lv_edit_Equal k).2.2.2.2 a b = _
      unfold b_slices_EqualFunc_api_KidEdit_api_KidEdit_api_KidEdit_api_KidEdit_f80
      rw [ne_len]
      by_cases hlen : a.length = b.length
      · rw [loop_zip a b (kEq eqE) (b_slices_EqualFunc_api_KidEdit_api_KidEdit_api_KidEdit_api_KidEdit_f80_L0 (lv_edit_Equal k).2.2.1 a b) (.inl ()) (.inr ()) hl hlen (fun i x y hi hx hy hm hm2 => by
          unfold b_slices_EqualFunc_api_KidEdit_api_KidEdit_api_KidEdit_api_KidEdit_f80_L0
          rw [lt_t hi, cond_true, getI_of hx, Option.bind_some, getI_of hy, Option.bind_some, i3 x y (ha x hm).1 (hb y hm2) (by have := (ha x hm).2; omega), Option.bind_some]
          cases kEq eqE x y <;> rfl) (by unfold b_slices_EqualFunc_api_KidEdit_api_KidEdit_api_KidEdit_api_KidEdit_f80_L0; rw [lt_f]; rfl), hlen, beq_self_eq_true]
        cases eqLs (kEq eqE) a b <;> rfl
      · rw [eqLs_len hlen, beq_eq_false_iff_ne.2 hlen]
        rfl
    · show b_edit_equalKids (lv_edit_Equal k).1 (lv_edit_Equal k).2.1 (lv_edit_Equal k).2.2.1 (lv_edit_Equal k).2.2.2.1 (lv_edit_Equal k).2.2.2.2 a b = _
      unfold b_edit_equalKids kEq
      rw [i1 a.E b.E ha hb (by omega)]
      cases (a.At == b.At) <;> cases eqE a.E b.E <;> rfl
    · show b_slices_EqualFunc_api_Op_api_Op_api_Op_api_Op_f82 (lv_edit_Equal k).1 (lv_edit_Equal k).2.1 (lv_edit_Equal k).2.2.1 (lv_edit_Equal k).2.2.2.1 (lv_edit_Equal k).2.2.2.2 a b = _
      unfold b_slices_EqualFunc_api_Op_api_Op_api_Op_api_Op_f82
      rw [ne_len]
      by_cases hlen : a.length = b.length
      · rw [loop_zip a b (oEq eqE) (b_slices_EqualFunc_api_Op_api_Op_api_Op_api_Op_f82_L0 (lv_edit_Equal k).2.2.2.2 a b) (.inl ()) (.inr ()) hl hlen (fun i x y hi hx hy hm hm2 => by
          unfold b_slices_EqualFunc_api_Op_api_Op_api_Op_api_Op_f82_L0
          rw [lt_t hi, cond_true, getI_of hx, Option.bind_some, getI_of hy, Option.bind_some, i5 x y (ha x hm).1 (hb y hm2) (by have := (ha x hm).2; omega), Option.bind_some]
          cases oEq eqE x y <;> rfl) (by unfold b_slices_EqualFunc_api_Op_api_Op_api_Op_api_Op_f82_L0; rw [lt_f]; rfl), hlen, beq_self_eq_true]
        cases eqLs (oEq eqE) a b <;> rfl
      · rw [eqLs_len hlen, beq_eq_false_iff_ne.2 hlen]
        rfl
    · show b_edit_equalOps (lv_edit_Equal k).1 (lv_edit_Equal k).2.1 (lv_edit_Equal k).2.2.1 (lv_edit_Equal k).2.2.2.1 (lv_edit_Equal k).2.2.2.2 a b = _
      unfold b_edit_equalOps oEq
      rw [i1 a.E b.E ha.2 hb.2 (by omega), treesEq_ok ha.1 hb.1.2]
      simp only [Option.bind_some]
      generalize (a.Kind == b.Kind) = q1
      generalize (a.N == b.N) = q2
      generalize eqLs eqTT a.L b.L = q3
      generalize eqE a.E b.E = q4
      revert q1 q2 q3 q4
      decide
theorem eedit_ok {a b : Ed} (ha : BE a) (hb : BE b) : m_edit_Equal a b = some (eqE a b) := lim_eq (3 * SizeOf.sizeOf a + 1) fun k hk => (eedit_lv k).1 a b ha hb (by omega)
theorem redit_lv : ∀ (k : Nat) (a b : Ed), BE a → BE b → SizeOf.sizeOf a < k → lv_centoref20_Equal k a b = some (eqE a b)
  | 0, a, _, _, _, h => by omega
  | k + 1, a, b, ha, hb, hk => by
    show b_centoref20_Equal (lv_centoref20_Equal k) a b = _
    unfold b_centoref20_Equal
    rw [eqE_eq, requal_ok ha.old hb.old, requal_ok ha.new hb.new, ne_len, ne_len, ne_len]
    simp only [Option.bind_some]
    unfold bne
    show _ = some ((a.Kind == b.Kind) && ((a.List_ == b.List_) && (eqT (nrm a.Old) (nrm b.Old) && (eqT (nrm a.New) (nrm b.New) && (eqLs wEq a.Words b.Words && (eqLs (kEq eqE) a.Kids b.Kids && eqLs (oEq eqE) a.Ops b.Ops))))))
    cases (a.Kind == b.Kind) with
    | false => rfl
    | true =>
    cases (a.List_ == b.List_) with
    | false => rfl
    | true =>
    cases eqT (nrm a.Old) (nrm b.Old) with
    | false => rfl
    | true =>
    cases eqT (nrm a.New) (nrm b.New) with
    | false => rfl
    | true =>
    by_cases lw : a.Words.length = b.Words.length
    · by_cases lk : a.Kids.length = b.Kids.length
      · by_cases lo : a.Ops.length = b.Ops.length
        · rw [loop_zip a.Words b.Words wEq (b_centoref20_Equal_L0 a b) (.inl ()) (.inr ()) ha.w lw (fun i x y hi hx hy _ _ => by
            unfold b_centoref20_Equal_L0
            rw [lt_t hi, cond_true, getI_of hx, Option.bind_some, getI_of hy, Option.bind_some]
            show cond (!(wEq x y)) _ _ = _
            cases wEq x y <;> rfl) (by unfold b_centoref20_Equal_L0; rw [lt_f]; rfl),
            loop_zip a.Kids b.Kids (kEq eqE) (b_centoref20_Equal_L1 (lv_centoref20_Equal k) a b) (.inl ()) (.inr ()) ha.k lk (fun i x y hi hx hy hm hm2 => by
            unfold b_centoref20_Equal_L1 kEq bne
            rw [lt_t hi, cond_true, getI_of hx, Option.bind_some, getI_of hy, Option.bind_some, redit_lv k x.E y.E (ha.ks x hm) (hb.ks y hm2) (by have := kidE_lt hm; omega)]
            cases (x.At == y.At) <;> cases eqE x.E y.E <;> rfl) (by unfold b_centoref20_Equal_L1; rw [lt_f]; rfl),
            loop_zip a.Ops b.Ops (oEq eqE) (b_centoref20_Equal_L2 (lv_centoref20_Equal k) a b) (.inl ()) (.inr ()) ha.o lo (fun i x y hi hx hy hm hm2 => by
            unfold b_centoref20_Equal_L2 oEq bne
            rw [lt_t hi, cond_true, getI_of hx, Option.bind_some, getI_of hy, Option.bind_some, redit_lv k x.E y.E (ha.os x hm) (hb.os y hm2) (by have := opE_lt hm; omega), sameTrees_ok (ha.l x hm) (hb.l y hm2).2]
            simp only [Option.bind_some]
            cases (x.Kind == y.Kind) <;> cases (x.N == y.N) <;> cases eqLs eqTT x.L y.L <;> cases eqE x.E y.E <;> rfl) (by unfold b_centoref20_Equal_L2; rw [lt_f]; rfl), lw, lk, lo, beq_self_eq_true, beq_self_eq_true, beq_self_eq_true]
          cases eqLs wEq a.Words b.Words <;> cases eqLs (kEq eqE) a.Kids b.Kids <;> cases eqLs (oEq eqE) a.Ops b.Ops <;> rfl
        · rw [eqLs_len lo, beq_eq_false_iff_ne.2 lo]
          cases (a.Words.length == b.Words.length) <;> cases (a.Kids.length == b.Kids.length) <;> cases eqLs wEq a.Words b.Words <;> cases eqLs (kEq eqE) a.Kids b.Kids <;> rfl
      · rw [eqLs_len lk, beq_eq_false_iff_ne.2 lk]
        cases (a.Words.length == b.Words.length) <;> cases eqLs wEq a.Words b.Words <;> rfl
    · rw [eqLs_len lw, beq_eq_false_iff_ne.2 lw]
      rfl
theorem redit_ok {a b : Ed} (ha : BE a) (hb : BE b) : m_centoref20_Equal a b = some (eqE a b) := lim_eq (SizeOf.sizeOf a + 1) fun k hk => redit_lv k a b ha hb (by omega)
theorem editEqual_p {a b : Ed} (ha : BE a) (hb : BE b) : m_centolaw20_EditEqual a b = some true := by
  obtain ⟨u, f1, _⟩ := few20 ha
  obtain ⟨v, f2, _⟩ := few20 hb
  have hr : eqE a a = true := eqF_refl _ a (by omega)
  unfold m_centolaw20_EditEqual
  rw [f1, f2, awake20, eedit_ok ha hb, redit_ok ha hb, eedit_ok hb ha, eedit_ok ha ha, hr, eqE_comm b a]
  simp only [Option.bind_some]
  cases u <;> cases v <;> cases eqE a b <;> rfl


end Go.Proofs.Ytjeolggpgclgkaa
