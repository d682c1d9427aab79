/- Plain facts on this seat's mirrors (part AP7b); each theorem bears its own conditions. -/
import Derived.Test.YtjeolggpgclgkaaAP7
import Derived.IntWalk
namespace Go.Proofs.Ytjeolggpgclgkaa
open Go.RowKit
set_option linter.unusedVariables false
set_option linter.unusedSimpArgs false
theorem set_next {α β : Type} {xs : List α} {f : α → β} {z : β} {i m : Nat} {x : α} (hi : i + (m + 1) = xs.length) (hx : xs[i]? = some x) :
    ((xs.take i).map f ++ List.replicate (m + 1) z).set i (f x) = (xs.take (i + 1)).map f ++ List.replicate m z := by
  have hl : ((xs.take i).map f).length = i := by rw [List.length_map, List.length_take]; omega
  rw [List.set_append, if_neg (by omega), hl, Nat.sub_self, List.replicate_succ, List.set_cons_zero, List.take_add_one, hx]
  simp
/-- rounds that fill a row -/
theorem loop_set {α β : Type} (xs : List α) (f : α → β) (z : β) (step : Int × List β → Option ((Int × List β) ⊕ List β)) (hl : (xs.length : Int) ≤ 140737488355328)
    (h1 : ∀ (i : Nat) (x : α) (out : List β) (y : β), i < xs.length → xs[i]? = some x → x ∈ xs → out[i]? = some y → step ((i : Int), out) = some (.inl (IntKind.i64.wrap ((i : Int) + 1), setI out (i : Int) (f x))))
    (h2 : ∀ out, step ((xs.length : Int), out) = some (.inr out)) : runLoop step (0, List.replicate xs.length z) = some (xs.map f) := by
  have key : ∀ m i, i + m = xs.length → runLoop step ((i : Int), (xs.take i).map f ++ List.replicate m z) = some (xs.map f) := fun m => by
    induction m with
    | zero =>
      intro i hi
      have hi' : i = xs.length := by omega
      subst hi'
      rw [List.take_length, List.replicate_zero, List.append_nil]
      exact runLoop_end (h2 _)
    | succ m ih =>
      intro i hi
      have hx : xs[i]? = some xs[i] := List.getElem?_eq_getElem (by omega)
      have hl' : ((xs.take i).map f).length = i := by rw [List.length_map, List.length_take]; omega
      have hy : ((xs.take i).map f ++ List.replicate (m + 1) z)[i]? = some z := by
        rw [List.getElem?_append_right (by omega), hl', Nat.sub_self, List.replicate_succ]; rfl
      have h := h1 i _ _ z (by omega) hx (List.mem_of_getElem? hx) hy
      rw [i64s (by omega) (by omega)] at h
      rw [runLoop_step h]
      unfold setI
      rw [Int.toNat_natCast, set_next (by omega) hx]
      exact ih (i + 1) (by omega)
  have := key xs.length 0 (by omega)
  simpa using this
theorem norm_lv : ∀ (k : Nat) (t : Tr), Bd t → SizeOf.sizeOf t < k → lv_tree_Norm k t = some (nrm t)
  | 0, t, _, h => by omega
  | k + 1, t, hb, hk => by
    have ih : ∀ x ∈ t.Kids, lv_tree_Norm k x = some (nrm x) := fun x hx => norm_lv k x (hb.all x hx) (by have := kid_lt hx; omega)
    have hw := hb.w
    have hkd := hb.k
    show b_tree_Norm (lv_tree_Norm k) t = _
    unfold b_tree_Norm
    rw [nrm_eq]
    by_cases h0 : t.Kind = 0
    · rw [if_pos h0, h0]; rfl
    have e0 : (t.Kind == 0) = false := by rw [beq_eq_false_iff_ne]; exact h0
    rw [if_neg h0, e0, cond_false]
    have main : ∀ (w : List Int) (ks : List Tr), (ks.length : Int) ≤ 140737488355328 → (56 : Int) * ks.length ≤ 140737488355328 → (∀ x ∈ ks, lv_tree_Norm k x = some (nrm x)) →
        (cond (decide (0 < ((w, ks).2.length : Int))) ((makeI 56 ((w, ks).2.length : Int) (⟨(0 : Int), ([] : (List Int)), ([] : (List S_api_Tree))⟩ : S_api_Tree)).bind fun l5 => (runLoop (b_tree_Norm_L0 (lv_tree_Norm k) (w, ks)) (0, l5)).bind fun (z12 : (List S_api_Tree)) => some (⟨t.Kind, (w, ks).1, z12⟩ : S_api_Tree)) ((runLoop (b_tree_Norm_L1 (lv_tree_Norm k) (w, ks)) ()).bind fun (z17 : Unit) => some (⟨t.Kind, (w, ks).1, ([] : (List S_api_Tree))⟩ : S_api_Tree))) = some ⟨t.Kind, w, ks.map nrm⟩ := fun w ks h1 h2 hks => by
      cases ks with
      | nil =>
        have : decide (0 < (((w, ([] : List Tr)).2.length : Nat) : Int)) = false := rfl
        rw [this, cond_false, runLoop_end (r := ()) (by unfold b_tree_Norm_L1; rfl)]
        rfl
      | cons y ys =>
        have : decide (0 < (((w, y :: ys).2.length : Nat) : Int)) = true := by rw [decide_eq_true_eq]; simp
        rw [this, cond_true, makeI_ok (Int.natCast_nonneg _) h2 h1, Option.bind_some, Int.toNat_natCast]
        rw [loop_set (y :: ys) nrm _ (b_tree_Norm_L0 (lv_tree_Norm k) (w, y :: ys)) h1 (fun i x out z hi hx hm hz => by
          unfold b_tree_Norm_L0
          simp only
          rw [lt_t hi, cond_true, getI_of hx, Option.bind_some, hks x hm, Option.bind_some, getI_of hz, Option.bind_some]) (fun out => by
          unfold b_tree_Norm_L0
          simp only
          rw [lt_f, cond_false]), Option.bind_some]
    by_cases h1 : t.Kind = 1
    · have e1 : (t.Kind == 1) = true := by rw [beq_iff_eq]; exact h1
      have l1 := tr_len (fun x : Tr => x.Kind == 0) t.Kids
      rw [if_pos h1, e1, cond_true, trimWords_ok (by omega), Option.bind_some, trimKids_ok (by omega), Option.bind_some, Option.bind_some]
      rw [main _ _ (by omega) (by omega) (fun x hx => ih x (tr_mem hx)), tr_map (fun x => by rw [nrm_kind]), h1]
    · have e1 : (t.Kind == 1) = false := by rw [beq_eq_false_iff_ne]; exact h1
      rw [if_neg h1, e1, cond_false, Option.bind_some]
      exact main _ _ (by omega) (by omega) ih
theorem norm_ok {t : Tr} (h : Bd t) : m_tree_Norm t = some (nrm t) := lim_eq (SizeOf.sizeOf t + 1) fun k hk => norm_lv k t h (by omega)
/-- the kids' norms, and where the last one stands that is something -/
theorem tr_cons_nil {α : Type} {p : α → Bool} {x : α} {l : List α} (h : tr p l = []) : tr p (x :: l) = if p x = true then [] else [x] := by simp only [tr, h]
theorem tr_cons_ne {α : Type} {p : α → Bool} {x : α} {l : List α} (h : tr p l ≠ []) : tr p (x :: l) = x :: tr p l := by
  simp only [tr]
  split
  · rename_i h'; exact absurd h' h
  · rename_i h'; rw [h']
theorem last_tr : ∀ (l : List Tr) (n : Nat) (acc : Int), (l.zipIdx n).foldl (fun a p => if p.1.Kind = 0 then a else ((p.2 + 1 : Nat) : Int)) acc = if (tr (fun x => x.Kind == 0) l).length = 0 then acc else ((n + (tr (fun x => x.Kind == 0) l).length : Nat) : Int)
  | [], n, acc => by simp [tr]
  | x :: l, n, acc => by
    rw [List.zipIdx_cons, List.foldl_cons, last_tr l (n + 1)]
    by_cases h : tr (fun x => x.Kind == 0) l = []
    · rw [tr_cons_nil h, h]
      by_cases hx : x.Kind = 0
      · simp [hx]
      · simp [hx]
    · have h' : (tr (fun x => x.Kind == 0) l).length ≠ 0 := by simpa using h
      rw [tr_cons_ne h, if_neg h', List.length_cons, if_neg (by omega)]
      congr 1
      omega
theorem tr_take {α : Type} (p : α → Bool) (l : List α) : l.take (tr p l).length = tr p l := by
  obtain ⟨h1, h2⟩ := trN_tr (p := p) (l := l) l.length (Nat.le_refl _)
  rw [List.take_length] at h1
  rw [← h1, List.length_take]
  congr 1
  omega
theorem rnorm_l0 {k : Nat} {t : Tr} (hl : t.Kids.length * 56 ≤ 140737488355328) (ih : ∀ x ∈ t.Kids, lv_centoref07_Norm k x = some (nrm x)) :
    runLoop (b_centoref07_Norm_L0 (lv_centoref07_Norm k) t) (0, 0, []) = some (if (tr (fun x => x.Kind == 0) (t.Kids.map nrm)).length = 0 then 0 else ((tr (fun x => x.Kind == 0) (t.Kids.map nrm)).length : Int), t.Kids.map nrm) := by
  have key : ∀ (l pre : List Tr) (a : Int), t.Kids = pre ++ l → runLoop (b_centoref07_Norm_L0 (lv_centoref07_Norm k) t) (a, ((pre.length : Nat) : Int), pre.map nrm) = some (((l.map nrm).zipIdx pre.length).foldl (fun a p => if p.1.Kind = 0 then a else ((p.2 + 1 : Nat) : Int)) a, t.Kids.map nrm) := fun l => by
    induction l with
    | nil =>
      intro pre a hp
      rw [List.append_nil] at hp
      refine runLoop_end ?_
      unfold b_centoref07_Norm_L0
      simp only
      rw [hp, lt_f, cond_false]
      rfl
    | cons x l ihl =>
      intro pre a hp
      have hx : t.Kids[pre.length]? = some x := by rw [hp, List.getElem?_append_right (Nat.le_refl _), Nat.sub_self]; rfl
      have hi : pre.length < t.Kids.length := by rw [hp]; simp
      have hm : x ∈ t.Kids := List.mem_of_getElem? hx
      have hs : b_centoref07_Norm_L0 (lv_centoref07_Norm k) t (a, ((pre.length : Nat) : Int), pre.map nrm) = some (.inl (if x.Kind = 0 then a else ((pre.length + 1 : Nat) : Int), (((pre ++ [x]).length : Nat) : Int), (pre ++ [x]).map nrm)) := by
        unfold b_centoref07_Norm_L0
        simp only
        rw [lt_t hi, cond_true, getI_of hx, Option.bind_some, ih x hm, Option.bind_some, appI_ok (by simp; omega) (by simp; omega), Option.bind_some, i64s (by omega) (by omega), nrm_kind]
        have e : ((pre.length : Nat) : Int) + 1 = ((pre.length + 1 : Nat) : Int) := by omega
        rw [e]
        by_cases h0 : x.Kind = 0
        · simp [h0]
        · have : (x.Kind != 0) = true := by simp [h0]
          rw [this, cond_true]
          simp [h0]
      rw [runLoop_step hs, ihl (pre ++ [x]) _ (by rw [hp]; simp)]
      simp only [List.map_cons, List.zipIdx_cons, List.foldl_cons, List.length_append, List.length_singleton, nrm_kind]
  have := key t.Kids [] 0 rfl
  rw [last_tr] at this
  simpa using this
theorem rnorm_lv : ∀ (k : Nat) (t : Tr), Bd t → SizeOf.sizeOf t < k → lv_centoref07_Norm k t = some (nrm t)
  | 0, t, _, h => by omega
  | k + 1, t, hb, hk => by
    have ih : ∀ x ∈ t.Kids, lv_centoref07_Norm k x = some (nrm x) := fun x hx => rnorm_lv k x (hb.all x hx) (by have := kid_lt hx; omega)
    have hw := hb.w
    have hkd := hb.k
    show b_centoref07_Norm (lv_centoref07_Norm k) t = _
    unfold b_centoref07_Norm
    rw [nrm_eq]
    by_cases h0 : t.Kind = 0
    · rw [if_pos h0, h0]; rfl
    have e0 : (t.Kind == 0) = false := by rw [beq_eq_false_iff_ne]; exact h0
    rw [if_neg h0, e0, cond_false, rnorm_l0 hkd ih, Option.bind_some]
    by_cases h1 : t.Kind = 1
    · have e1 : (t.Kind == 1) = true := by rw [beq_iff_eq]; exact h1
      rw [if_pos h1, e1, cond_true, rTrim_ok hw, Option.bind_some]
      have l1 := tr_len (fun x : Tr => x.Kind == 0) (t.Kids.map nrm)
      have l2 : (if (tr (fun x => x.Kind == 0) (t.Kids.map nrm)).length = 0 then (0 : Int) else ((tr (fun x => x.Kind == 0) (t.Kids.map nrm)).length : Int)) = ((tr (fun x => x.Kind == 0) (t.Kids.map nrm)).length : Int) := by
        split
        · rename_i h; rw [h]; rfl
        · rfl
      simp only [l2]
      rw [sub_take l1, Option.bind_some, tr_take]
    · have e1 : (t.Kind == 1) = false := by rw [beq_eq_false_iff_ne]; exact h1
      rw [if_neg h1, e1, cond_false, appI_ok (by rw [List.length_nil]; omega) (by rw [List.length_nil]; omega)]
      rfl
theorem rnorm_ok {t : Tr} (h : Bd t) : m_centoref07_Norm t = some (nrm t) := lim_eq (SizeOf.sizeOf t + 1) fun k hk => rnorm_lv k t h (by omega)
theorem nrm_bd : ∀ (n : Nat) (t : Tr), SizeOf.sizeOf t < n → Bd t → Bd (nrm t)
  | 0, t, h, _ => by omega
  | n + 1, t, hn, hb => by
    have ih : ∀ x ∈ t.Kids, Bd (nrm x) := fun x hx => nrm_bd n x (by have := kid_lt hx; omega) (hb.all x hx)
    have hw := hb.w
    have hk := hb.k
    rw [nrm_eq]
    split
    · exact .mk _ (by simp) (by simp) (fun w h => by simp at h) (fun w h => by simp at h)
    · split
      · have l1 := tr_len (fun x : Int => x == 0) t.Words
        have l2 := tr_len (fun x : Tr => x.Kind == 0) (t.Kids.map nrm)
        rw [List.length_map] at l2
        refine .mk _ (by simp only; omega) (Nat.le_trans (Nat.mul_le_mul_right 56 l2) hk) (fun w h => hb.u w (tr_mem h)) (fun x h => ?_)
        obtain ⟨y, hy, rfl⟩ := List.mem_map.1 (tr_mem h)
        exact ih y hy
      · refine .mk _ hw (by simp only [List.length_map]; exact hk) hb.u (fun x h => ?_)
        obtain ⟨y, hy, rfl⟩ := List.mem_map.1 h
        exact ih y hy
theorem Bd.nrm {t : Tr} (h : Bd t) : Bd (nrm t) := nrm_bd _ t (Nat.lt_succ_self _) h
theorem nrm_nrm_n : ∀ (n : Nat) (t : Tr), SizeOf.sizeOf t < n → nrm (nrm t) = nrm t
  | 0, t, h => by omega
  | n + 1, t, hn => by
    have ih : ∀ x ∈ t.Kids, nrm (nrm x) = nrm x := fun x hx => nrm_nrm_n n x (by have := kid_lt hx; omega)
    have em : ∀ l : List Tr, (∀ x ∈ l, x ∈ t.Kids) → (l.map nrm).map nrm = l.map nrm := fun l hl => by
      rw [List.map_map]
      exact List.map_congr_left fun x hx => ih x (hl x hx)
    rw [nrm_eq t]
    by_cases h0 : t.Kind = 0
    · rw [if_pos h0, nrm_eq]; simp
    rw [if_neg h0]
    by_cases h1 : t.Kind = 1
    · rw [if_pos h1, nrm_eq]
      simp only [if_neg (show ¬ (1 : Int) = 0 by decide), if_true]
      have q1 : ∀ l : List Tr, tr (fun x : Tr => x.Kind == 0) (l.map nrm) = (tr (fun x : Tr => x.Kind == 0) l).map nrm := tr_map (fun x => by rw [nrm_kind])
      rw [tr_tr, q1, tr_tr, q1, em _ (fun x hx => tr_mem hx)]
    · rw [if_neg h1, nrm_eq]
      simp only
      rw [if_neg h0, if_neg h1, em _ (fun x hx => hx)]
theorem nrm_nrm (t : Tr) : nrm (nrm t) = nrm t := nrm_nrm_n _ t (Nat.lt_succ_self _)

end Go.Proofs.Ytjeolggpgclgkaa
