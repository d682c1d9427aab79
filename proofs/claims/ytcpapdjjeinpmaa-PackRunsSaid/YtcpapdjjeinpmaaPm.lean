/- Lemmas used by the proofs of this seat's laws (part Pm); each theorem bears its own conditions. -/
import Derived.Test.YtcpapdjjeinpmaaNum
import Derived.Test.YtcpapdjjeinpmaaMem
import Derived.Test.YtcpapdjjeinpmaaPk
import Derived.WalkKit
import Derived.WalkSpells
import Derived.WalkLawsBesides
import Derived.Lib.Hide
import Derived.BigQuiet
import Derived.Deep.QuietTactic
import Derived.ProofKit
import Derived.OpenShut
import Derived.SizedLaws
namespace Go.Proofs.Ytcpapdjjeinpmaa
open Go.RowKit
set_option linter.unusedVariables false
theorem selN_len (t x : Nat) : (selN t x).length = popN t := by unfold selN popN; rw [List.length_map]
theorem selK_rank (t x k : Nat) : (selK t x k).length = rankN t k := by unfold selK rankN; rw [List.length_map]
theorem selK_pre (t x : Nat) {i j : Nat} (h : i ≤ j) : ∃ z, selK t x j = selK t x i ++ z := by
  induction h with
  | refl => exact ⟨[], by simp⟩
  | step _ ih =>
    rename_i m _
    obtain ⟨z, hz⟩ := ih
    cases hb : bitB t m
    · exact ⟨z, by rw [selK_no hb, hz]⟩
    · exact ⟨z ++ [byteN x m], by rw [selK_yes hb, hz, List.append_assoc]⟩
theorem sel_at (t x k : Nat) (hk : k < 8) (hb : bitB t k = true) : (selN t x).getD (rankN t k) 0 = byteN x k := by
  obtain ⟨z, hz⟩ := selK_pre t x (show k + 1 ≤ 8 by omega)
  rw [← selK_full, hz, selK_yes hb]
  simp only [List.getD]
  rw [List.append_assoc, List.getElem?_append_right (by rw [selK_rank]; exact Nat.le_refl _), selK_rank, Nat.sub_self]
  rfl
theorem spr_sel (x : Nat) (hx : W64 x) : sprN (unl x 0 8) (selN (unl x 0 8) x) = x := by
  have h : ∀ k, k < 8 → sprF (unl x 0 8) (selN (unl x 0 8) x) k = byteN x k := fun k hk => by
    unfold sprF
    have hbu := bit_unl0 x k hk
    split
    · rename_i h; exact sel_at _ x k hk h
    · rename_i h
      rw [hbu] at h
      simp at h
      exact h.symm
  unfold sprN
  rw [mixN_congr _ _ 8 h]
  exact sum_bytes x hx
theorem runN_take (r : List Nat) : r.take (runN p0 r) = List.replicate (runN p0 r) 0 := by
  have key : ∀ (m : Nat) (r : List Nat), r.take ((r.take m).takeWhile p0).length = List.replicate ((r.take m).takeWhile p0).length 0 := by
    intro m
    induction m with
    | zero => intro r; simp
    | succ m ih =>
      intro r
      cases r with
      | nil => simp
      | cons a r =>
        rw [List.take_succ_cons]
        cases ha : p0 a
        · simp [ha]
        · have h0 : a = 0 := of_decide_eq_true ha
          rw [List.takeWhile_cons, if_pos ha, List.length_cons, List.take_succ_cons, ih r, h0]
          rfl
  exact key 255 r
/-- one step over what was packed -/
theorem next_pack (t : Nat) (s rest words : List Nat) (most : Nat) (hs : s.length = popN t) : nextM t (s ++ rest) words most = if most < words.length + 1 then (3, [], []) else if t = 0 ∨ t = 255 then runM t rest (words ++ [sprN t s]) most else (0, rest, words ++ [sprN t s]) := by
  unfold nextM
  rw [if_neg (by rw [List.length_append]; omega), ← hs, List.take_left, List.drop_left]
theorem unp_pack : ∀ (n : Nat) (l words : List Nat) (most : Nat), l.length ≤ n → (∀ m ∈ l, W64 m) → words.length + l.length ≤ most → unpG (packN l) words most = (words ++ l, 0) := by
  intro n
  induction n with
  | zero => intro l words most hl _ _; have : l = [] := List.eq_nil_of_length_eq_zero (by omega); subst this; rw [packN_nil, unpG_nil, List.append_nil]
  | succ n ih =>
    intro l words most hl h64 hm
    cases l with
    | nil => rw [packN_nil, unpG_nil, List.append_nil]
    | cons x r =>
      have hx := h64 x (.head _)
      have hr : ∀ m ∈ r, W64 m := fun m hm => h64 m (.tail _ hm)
      simp only [List.length_cons] at hl hm
      have hsp := spr_sel x hx
      rw [packN_cons]
      generalize hT : unl x 0 8 = t at *
      have hsl := selN_len t x
      rw [List.cons_append, unpG_cons, next_pack t _ _ _ _ hsl, if_neg (show ¬ most < words.length + 1 by omega), hsp]
      by_cases h0 : t = 0
      · subst h0
        have hrn := (runN_le p0 r).1
        have htk := runN_take r
        simp only [if_true, true_or]
        generalize runN p0 r = k at *
        have hrm : runM 0 (k :: packN (r.drop k)) (words ++ [x]) most = (0, packN (r.drop k), (words ++ [x]) ++ r.take k) := by
          unfold runM
          simp only [runW, if_neg (show ¬ (0 : Nat) = 255 by decide), List.length_replicate, List.length_append, List.length_cons, List.length_nil]
          rw [htk]
          have hne : ¬ most < words.length + (0 + 1) + k := by omega
          simp only [if_neg hne]
          simp
        rw [hrm]
        dsimp only
        rw [if_pos rfl, ih (r.drop k) _ most (by rw [List.length_drop]; omega) (fun m hm => hr m (List.mem_of_mem_drop hm)) (by rw [List.length_append, List.length_append, List.length_take, List.length_drop]; simp only [List.length_cons, List.length_nil]; omega)]
        rw [List.append_assoc, List.append_assoc, List.take_append_drop]
        rfl
      · by_cases h255 : t = 255
        · subst h255
          have hrn := (runN_le p7 r).1
          simp only [if_neg (show ¬ (255 : Nat) = 0 by decide), if_true, or_true]
          generalize runN p7 r = k at *
          have hfl : (flatN (r.take k)).length = 8 * k := by rw [flatN_len, List.length_take]; omega
          have hrm : runM 255 (k :: (flatN (r.take k) ++ packN (r.drop k))) (words ++ [x]) most = (0, packN (r.drop k), (words ++ [x]) ++ r.take k) := by
            have hw : runW 255 k (flatN (r.take k) ++ packN (r.drop k)) = r.take k := by
              unfold runW
              rw [if_pos rfl, ← hfl, List.take_left, words_flat _ (fun m hm => hr m (List.mem_of_mem_take hm))]
            have hd : (flatN (r.take k) ++ packN (r.drop k)).drop (8 * k) = packN (r.drop k) := by rw [← hfl, List.drop_left]
            unfold runM
            simp only [hw, hd, List.length_append, hfl, List.length_cons, List.length_nil, if_true]
            rw [if_neg (by omega), if_neg (by rw [List.length_take]; omega)]
          rw [hrm]
          dsimp only
          rw [if_pos rfl, ih (r.drop k) _ most (by rw [List.length_drop]; omega) (fun m hm => hr m (List.mem_of_mem_drop hm)) (by rw [List.length_append, List.length_append, List.length_take, List.length_drop]; simp only [List.length_cons, List.length_nil]; omega)]
          rw [List.append_assoc, List.append_assoc, List.take_append_drop]
          rfl
        · simp only [h0, h255, or_self, if_false, if_true]
          rw [ih r _ most (by omega) hr (by rw [List.length_append]; simp only [List.length_cons, List.length_nil]; omega), List.append_assoc]
          rfl
theorem unp_limit : ∀ (n : Nat) (l words : List Nat) (most : Nat), l.length ≤ n → (∀ m ∈ l, W64 m) → words.length ≤ most → most < words.length + l.length → unpG (packN l) words most = ([], 3) := by
  intro n
  induction n with
  | zero => intro l words most hl _ h1 h2; omega
  | succ n ih =>
    intro l words most hl h64 hw hm
    cases l with
    | nil => simp at hm; omega
    | cons x r =>
      have hx := h64 x (.head _)
      have hr : ∀ m ∈ r, W64 m := fun m hm => h64 m (.tail _ hm)
      simp only [List.length_cons] at hl hm
      have hsp := spr_sel x hx
      rw [packN_cons]
      generalize hT : unl x 0 8 = t at *
      have hsl := selN_len t x
      rw [List.cons_append, unpG_cons, next_pack t _ _ _ _ hsl, hsp]
      by_cases hfull : most < words.length + 1
      · rw [if_pos hfull]; rfl
      · rw [if_neg hfull]
        by_cases h0 : t = 0
        · subst h0
          have hrn := (runN_le p0 r).1
          have htk := runN_take r
          simp only [if_true, true_or]
          generalize runN p0 r = k at *
          by_cases hlim : most < words.length + (0 + 1) + k
          · have hrm : runM 0 (k :: packN (r.drop k)) (words ++ [x]) most = (3, [], []) := by
              unfold runM
              simp only [runW, if_neg (show ¬ (0 : Nat) = 255 by decide), List.length_replicate, List.length_append, List.length_cons, List.length_nil]
              simp only [if_pos hlim]
              simp
            rw [hrm]; rfl
          · have hrm : runM 0 (k :: packN (r.drop k)) (words ++ [x]) most = (0, packN (r.drop k), (words ++ [x]) ++ r.take k) := by
              unfold runM
              simp only [runW, if_neg (show ¬ (0 : Nat) = 255 by decide), List.length_replicate, List.length_append, List.length_cons, List.length_nil]
              rw [htk]
              simp only [if_neg hlim]
              simp
            rw [hrm]
            dsimp only
            rw [if_pos rfl]
            exact ih (r.drop k) _ most (by rw [List.length_drop]; omega) (fun m hm => hr m (List.mem_of_mem_drop hm)) (by rw [List.length_append, List.length_append, List.length_take]; simp only [List.length_cons, List.length_nil]; omega) (by rw [List.length_append, List.length_append, List.length_take, List.length_drop]; simp only [List.length_cons, List.length_nil]; omega)
        · by_cases h255 : t = 255
          · subst h255
            have hrn := (runN_le p7 r).1
            simp only [if_neg (show ¬ (255 : Nat) = 0 by decide), if_true, or_true]
            generalize runN p7 r = k at *
            have hfl : (flatN (r.take k)).length = 8 * k := by rw [flatN_len, List.length_take]; omega
            have hw' : runW 255 k (flatN (r.take k) ++ packN (r.drop k)) = r.take k := by
              unfold runW
              rw [if_pos rfl, ← hfl, List.take_left, words_flat _ (fun m hm => hr m (List.mem_of_mem_take hm))]
            have hd : (flatN (r.take k) ++ packN (r.drop k)).drop (8 * k) = packN (r.drop k) := by rw [← hfl, List.drop_left]
            by_cases hlim : most < words.length + (0 + 1) + (r.take k).length
            · have hrm : runM 255 (k :: (flatN (r.take k) ++ packN (r.drop k))) (words ++ [x]) most = (3, [], []) := by
                unfold runM
                simp only [hw', hd, List.length_append, hfl, List.length_cons, List.length_nil, if_true]
                rw [if_neg (by omega), if_pos hlim]
              rw [hrm]; rfl
            · have hrm : runM 255 (k :: (flatN (r.take k) ++ packN (r.drop k))) (words ++ [x]) most = (0, packN (r.drop k), (words ++ [x]) ++ r.take k) := by
                unfold runM
                simp only [hw', hd, List.length_append, hfl, List.length_cons, List.length_nil, if_true]
                rw [if_neg (by omega), if_neg hlim]
              rw [hrm]
              dsimp only
              rw [if_pos rfl]
              rw [List.length_take] at hlim
              exact ih (r.drop k) _ most (by rw [List.length_drop]; omega) (fun m hm => hr m (List.mem_of_mem_drop hm)) (by rw [List.length_append, List.length_append, List.length_take]; simp only [List.length_cons, List.length_nil]; omega) (by rw [List.length_append, List.length_append, List.length_take, List.length_drop]; simp only [List.length_cons, List.length_nil]; omega)
          · simp only [h0, h255, or_self, if_false, if_true]
            exact ih r _ most (by omega) hr (by rw [List.length_append]; simp only [List.length_cons, List.length_nil]; omega) (by rw [List.length_append]; simp only [List.length_cons, List.length_nil]; omega)
theorem unp_cut : ∀ (n : Nat) (l words : List Nat) (most c : Nat), l.length ≤ n → (∀ m ∈ l, W64 m) → words.length + l.length ≤ most → c < (packN l).length →
    unpG ((packN l).take c) words most = ([], 4) ∨ ∃ ws, unpG ((packN l).take c) words most = (ws, 0) ∧ ws.length < words.length + l.length := by
  intro n
  induction n with
  | zero => intro l words most c hl _ _ hc; have : l = [] := List.eq_nil_of_length_eq_zero (by omega); subst this; rw [packN_nil] at hc; simp at hc
  | succ n ih =>
    intro l words most c hl h64 hm hc
    cases l with
    | nil => rw [packN_nil] at hc; simp at hc
    | cons x r =>
      have hx := h64 x (.head _)
      have hr : ∀ m ∈ r, W64 m := fun m hm => h64 m (.tail _ hm)
      simp only [List.length_cons] at hl hm ⊢
      have hsp := spr_sel x hx
      rw [packN_cons] at hc ⊢
      generalize hT : unl x 0 8 = t at *
      have hsl := selN_len t x
      cases c with
      | zero => right; exact ⟨words, by rw [List.take_zero, unpG_nil], by omega⟩
      | succ c =>
        rw [List.cons_append, List.take_succ_cons, unpG_cons]
        rw [List.cons_append, List.length_cons, List.length_append] at hc
        by_cases hshort : c < popN t
        · left
          have e : ∀ rest, nextM t ((selN t x ++ rest).take c) words most = (4, [], []) := fun rest => by
            unfold nextM
            rw [if_pos (by rw [List.length_take, List.length_append]; omega)]
          rw [e]; rfl
        · have htk : ∀ rest : List Nat, (selN t x ++ rest).take c = selN t x ++ rest.take (c - popN t) := fun rest => by
            rw [List.take_append, List.take_of_length_le (by omega), hsl]
          rw [htk, next_pack t _ _ _ _ hsl, hsp, if_neg (show ¬ most < words.length + 1 by omega)]
          have hc2 : c - popN t < ((if t = 0 then runN p0 r :: packN (r.drop (runN p0 r)) else if t = 255 then runN p7 r :: (flatN (r.take (runN p7 r)) ++ packN (r.drop (runN p7 r))) else packN r)).length := by omega
          generalize c - popN t = d at *
          clear hc hshort htk
          by_cases h0 : t = 0
          · subst h0
            have hrn := (runN_le p0 r).1
            have htk := runN_take r
            simp only [if_true, true_or] at hc2 ⊢
            generalize runN p0 r = k at *
            cases d with
            | zero => left; rfl
            | succ d =>
              rw [List.take_succ_cons]
              rw [List.length_cons] at hc2
              have hne : ¬ most < words.length + (0 + 1) + k := by omega
              have hrm : runM 0 (k :: (packN (r.drop k)).take d) (words ++ [x]) most = (0, (packN (r.drop k)).take d, (words ++ [x]) ++ r.take k) := by
                unfold runM
                simp only [runW, if_neg (show ¬ (0 : Nat) = 255 by decide), List.length_replicate, List.length_append, List.length_cons, List.length_nil]
                rw [htk]
                simp only [if_neg hne]
                simp
              rw [hrm]
              dsimp only
              rw [if_pos rfl]
              have hx2 : ((words ++ [x]) ++ r.take k).length = words.length + 1 + k := by rw [List.length_append, List.length_append, List.length_take]; simp only [List.length_cons, List.length_nil]; omega
              have hx3 : (r.drop k).length = r.length - k := List.length_drop
              rcases ih (r.drop k) ((words ++ [x]) ++ r.take k) most d (by omega) (fun m hm => hr m (List.mem_of_mem_drop hm)) (by omega) (by omega) with h | ⟨ws, h, hlt⟩
              · exact .inl h
              · exact .inr ⟨ws, h, by omega⟩
          · by_cases h255 : t = 255
            · subst h255
              have hrn := (runN_le p7 r).1
              simp only [if_neg (show ¬ (255 : Nat) = 0 by decide), if_true, or_true] at hc2 ⊢
              generalize runN p7 r = k at *
              have hfl : (flatN (r.take k)).length = 8 * k := by rw [flatN_len, List.length_take]; omega
              cases d with
              | zero => left; rfl
              | succ d =>
                rw [List.take_succ_cons]
                rw [List.length_cons, List.length_append, hfl] at hc2
                by_cases hs8 : d < 8 * k
                · left
                  have hrm : runM 255 (k :: (flatN (r.take k) ++ packN (r.drop k)).take d) (words ++ [x]) most = (4, [], []) := by
                    unfold runM
                    dsimp only
                    rw [if_pos ⟨rfl, by rw [List.length_take, List.length_append, hfl]; omega⟩]
                  rw [hrm]; rfl
                · have htk2 : (flatN (r.take k) ++ packN (r.drop k)).take d = flatN (r.take k) ++ (packN (r.drop k)).take (d - 8 * k) := by
                    rw [List.take_append, List.take_of_length_le (by omega), hfl]
                  rw [htk2]
                  have hw' : runW 255 k (flatN (r.take k) ++ (packN (r.drop k)).take (d - 8 * k)) = r.take k := by
                    unfold runW
                    rw [if_pos rfl, ← hfl, List.take_left, words_flat _ (fun m hm => hr m (List.mem_of_mem_take hm))]
                  have hd : (flatN (r.take k) ++ (packN (r.drop k)).take (d - 8 * k)).drop (8 * k) = (packN (r.drop k)).take (d - 8 * k) := by
                    have h := List.drop_left (l₁ := flatN (r.take k)) (l₂ := (packN (r.drop k)).take (d - 8 * k))
                    rw [hfl] at h; exact h
                  have hrm : runM 255 (k :: (flatN (r.take k) ++ (packN (r.drop k)).take (d - 8 * k))) (words ++ [x]) most = (0, (packN (r.drop k)).take (d - 8 * k), (words ++ [x]) ++ r.take k) := by
                    unfold runM
                    simp only [hw', hd, List.length_append, hfl, List.length_cons, List.length_nil, if_true]
                    rw [if_neg (by omega), if_neg (by rw [List.length_take]; omega)]
                  rw [hrm]
                  dsimp only
                  rw [if_pos rfl]
                  have hx2 : ((words ++ [x]) ++ r.take k).length = words.length + 1 + k := by rw [List.length_append, List.length_append, List.length_take]; simp only [List.length_cons, List.length_nil]; omega
                  have hx3 : (r.drop k).length = r.length - k := List.length_drop
                  rcases ih (r.drop k) ((words ++ [x]) ++ r.take k) most (d - 8 * k) (by omega) (fun m hm => hr m (List.mem_of_mem_drop hm)) (by omega) (by omega) with h | ⟨ws, h, hlt⟩
                  · exact .inl h
                  · exact .inr ⟨ws, h, by omega⟩
            · simp only [h0, h255, or_self, if_false, if_true] at hc2 ⊢
              have hx2 : (words ++ [x]).length = words.length + 1 := by simp
              rcases ih r (words ++ [x]) most d (by omega) hr (by omega) hc2 with h | ⟨ws, h, hlt⟩
              · exact .inl h
              · exact .inr ⟨ws, h, by omega⟩
theorem pack_zeros : ∀ (n m : Nat), m ≤ n → (packN (List.replicate m 0)).length = 2 * ((m + 255) / 256) := by
  intro n
  induction n with
  | zero => intro m hm; have : m = 0 := by omega
            subst this; rfl
  | succ n ih =>
    intro m hm
    cases m with
    | zero => rfl
    | succ m =>
      rw [List.replicate_succ, packN_cons]
      have ht : unl 0 0 8 = 0 := by decide
      have hs : selN 0 0 = [] := by decide
      have hrun : runN p0 (List.replicate m 0) = min m 255 := by
        refine runN_at p0 _ _ (fun i hi => ?_) (by rw [List.length_replicate]; omega) (by omega) (by rw [List.length_replicate]; omega)
        have : (List.replicate m 0).getD i 0 = 0 := by
          simp only [List.getD, List.getElem?_replicate]
          split <;> rfl
        rw [this]; rfl
      rw [ht, hs, if_pos rfl, hrun, List.drop_replicate]
      have := ih (m - min m 255) (by omega)
      simp only [List.length_append, List.length_cons, List.length_nil, this]
      omega
theorem packN_byte : ∀ (l : List Nat), (∀ m ∈ l, W64 m) → ∀ n ∈ packN l, n < 256 := by
  have key : ∀ (k : Nat) (l : List Nat), l.length ≤ k → ∀ n ∈ packN l, n < 256 := by
    intro k
    induction k with
    | zero => intro l hl n hn; have : l = [] := List.eq_nil_of_length_eq_zero (by omega); subst this; cases hn
    | succ k ih =>
      intro l hl n hn
      cases l with
      | nil => cases hn
      | cons x r =>
        simp only [List.length_cons] at hl
        rw [packN_cons] at hn
        rcases List.mem_append.1 hn with h | h
        · rcases List.mem_cons.1 h with rfl | h
          · exact unl_lt x 0 8
          · unfold selN at h
            obtain ⟨i, _, rfl⟩ := List.mem_map.1 h
            exact byteN_lt _ _
        · split at h
          · rcases List.mem_cons.1 h with rfl | h
            · have := (runN_le p0 r).2; omega
            · exact ih _ (by rw [List.length_drop]; omega) n h
          · split at h
            · rcases List.mem_cons.1 h with rfl | h
              · have := (runN_le p7 r).2; omega
              · rcases List.mem_append.1 h with h | h
                · exact flatN_byte _ n h
                · exact ih _ (by rw [List.length_drop]; omega) n h
            · exact ih r (by omega) n h
  exact fun l _ => key l.length l (Nat.le_refl _)

end Go.Proofs.Ytcpapdjjeinpmaa
