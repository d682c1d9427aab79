/- Plain facts on this seat's mirrors (part EP2); each theorem bears its own conditions. -/
import Derived.Test.YtgffgbdnbjbmoaaEP1
import Derived.IntWalk
namespace Go.Proofs.Ytgffgbdnbjbmoaa
open Go.RowKit
set_option linter.unusedVariables false
set_option linter.unusedSimpArgs false
theorem tr_mk (t : Tr) : (⟨t.Kind, t.Words, t.Kids⟩ : Tr) = t := by cases t; rfl
section
variable {A : S_arena_Arena}
/-- rounds over kids, each told as a tree -/
theorem mean_loop {step : Int × Int × List Tr → Option ((Int × Int × List Tr) ⊕ ((Int × Int × List Tr) ⊕ (Int × List Tr)))} {f : S_reader_Ref → Int → Tr × Int × Int} {r : S_reader_Ref} (hr : OKr A r) (n : Nat) (hn : n ≤ 1073741824)
    (hs : ∀ (i : Nat) (left : Int) (acc : List Tr), i < n → acc.length = i → 0 ≤ left ∧ left ≤ 65536 → step (left, (i : Int), acc) = some (if (kidR A r i).2 ≠ 0 then .inr (.inl (left, (kidR A r i).2, acc)) else if (f (kidR A r i).1 left).2.2 ≠ 0 then .inr (.inl ((f (kidR A r i).1 left).2.1, (f (kidR A r i).1 left).2.2, acc)) else .inl ((f (kidR A r i).1 left).2.1, ((i + 1 : Nat) : Int), acc ++ [(f (kidR A r i).1 left).1])))
    (he : ∀ left acc, step (left, (n : Int), acc) = some (.inr (.inr (left, acc))))
    (hf : Lf A f) : ∀ (m i : Nat) (left : Int) (acc : List Tr), i + m = n → acc.length = i → 0 ≤ left ∧ left ≤ 65536 →
    runLoop step (left, (i : Int), acc) = some (if (kidsGo f (kidR A r) m i left acc).2.2 = 0 then .inr ((kidsGo f (kidR A r) m i left acc).2.1, (kidsGo f (kidR A r) m i left acc).1) else .inl ((kidsGo f (kidR A r) m i left acc).2.1, (kidsGo f (kidR A r) m i left acc).2.2, (kidsGo f (kidR A r) m i left acc).1))
  | 0, i, left, acc, hi, ha, hl => by
    have : i = n := by omega
    subst this
    exact runLoop_end (he left acc)
  | m + 1, i, left, acc, hi, ha, hl => by
    have hst := hs i left acc (by omega) ha hl
    rw [kidsGo]
    by_cases h1 : (kidR A r i).2 ≠ 0
    · rw [if_pos h1] at hst ⊢
      rw [if_neg h1]
      exact runLoop_end hst
    rw [if_neg h1] at hst ⊢
    by_cases h2 : (f (kidR A r i).1 left).2.2 ≠ 0
    · rw [if_pos h2] at hst ⊢
      rw [if_neg h2]
      exact runLoop_end hst
    rw [if_neg h2] at hst ⊢
    have hb := hf _ left (kid_okr hr i) hl.1 (by omega)
    rw [runLoop_step hst]
    exact mean_loop hr n hn hs he hf m (i + 1) _ _ (by omega) (by rw [List.length_append, ha]; rfl) ⟨hb.1, by omega⟩
abbrev MF := List (List Int) → S_centoref09_Ref → Int → Int → Option (Tr × Int × Int)
theorem rKidsFn_ok (hw : WS A.segments) {f1 f2 : MF} {f : S_reader_Ref → Int → Tr × Int × Int} (hf : Lf A f) {r : S_reader_Ref} (hr : OKr A r) (h1 : r.kind = 1) {d left : Int} (hl : 0 ≤ left ∧ left ≤ 65536)
    (hF : ∀ (k : S_reader_Ref) (l : Int), OKr A k → 0 ≤ l ∧ l ≤ 65536 → f1 A.segments (toRR A k) d l = some (f k l)) : b_centoref10_kids f1 f2 A.segments (toRR A r) d left = some (stK A f r left) := by
  have hp : (toRR A r).Ptrs = r.ptrs := by unfold toRR; rw [if_neg (by omega), if_pos h1]
  have hpr : 0 ≤ r.ptrs ∧ r.ptrs < 65536 := by
    cases hr with
    | z => simp [r0] at h1
    | st s a d p hd hp2 hin => exact hp2
    | li k s a n hk => simp only at h1; omega
    | co => simp at h1
    | at_ => simp at h1
  unfold b_centoref10_kids stK
  rw [rrWords_ok hw hr, Option.bind_some]
  have hL := mean_loop (step := b_centoref10_kids_L0 f1 A.segments (toRR A r) d) (f := f) hr r.ptrs.toNat (by omega) (fun i l acc hi ha hl => by
    unfold b_centoref10_kids_L0
    simp only
    rw [hp, show decide ((i : Int) < r.ptrs) = true from by rw [decide_eq_true_eq]; omega, cond_true, rkid_ok' hw hr, Option.bind_some]
    simp only [toRR2]
    by_cases h1 : (kidR A r i).2 ≠ 0
    · rw [if_pos h1, bne_iff_ne.2 h1, cond_true]
    rw [if_neg h1, bne_eq_false_iff_eq.2 (show (kidR A r i).2 = 0 by omega), cond_false, hF _ l (kid_okr hr i) hl, Option.bind_some]
    by_cases h2 : (f (kidR A r i).1 l).2.2 ≠ 0
    · rw [if_pos h2, bne_iff_ne.2 h2, cond_true]
    rw [if_neg h2, bne_eq_false_iff_eq.2 (show (f (kidR A r i).1 l).2.2 = 0 by omega), cond_false, appI_ok (by simp only [List.length_singleton]; omega) (by simp only [List.length_singleton]; omega), Option.bind_some, i64s (by omega) (by omega)]
    rfl) (fun l acc => by
    unfold b_centoref10_kids_L0
    simp only
    rw [hp, show decide (((r.ptrs.toNat : Nat) : Int) < r.ptrs) = false from by rw [decide_eq_false_iff_not]; omega, cond_false]) hf r.ptrs.toNat 0 left [] (by omega) rfl hl
  rw [show (((0 : Nat) : Int)) = 0 from rfl] at hL
  rw [hL, Option.bind_some]
  by_cases hq : (kidsGo f (kidR A r) r.ptrs.toNat 0 left []).2.2 = 0
  · rw [if_pos hq]
    simp only
    rw [show (kidsGo f (kidR A r) r.ptrs.toNat 0 left []).2 = ((kidsGo f (kidR A r) r.ptrs.toNat 0 left []).2.1, 0) from by rw [← hq]]
  · rw [if_neg hq]
theorem toRR_frame {r : S_reader_Ref} (hr : OKr A r) : (r.kind = 1 → (toRR A r).Data = r.words ∧ (toRR A r).Ptrs = r.ptrs) ∧ (r.kind = 9 → (toRR A r).Data = r.words ∧ (toRR A r).Ptrs = r.ptrs ∧ (toRR A r).Count = r.count) := by
  refine ⟨fun h => ?_, fun h => ?_⟩
  · unfold toRR
    rw [if_neg (by omega), if_pos h]
    exact ⟨rfl, rfl⟩
  · unfold toRR
    rw [if_neg (by omega), if_neg (by omega), if_pos h]
    exact ⟨rfl, rfl, rfl⟩
theorem rMean_ok (hw : WS A.segments) {f1 f2 : MF} {g1 g2 : S_reader_Ref → Int → Tr × Int × Int} (l1 : Lf A g1) (l2 : Lf A g2) {r : S_reader_Ref} (hr : OKr A r) {d left : Int} (hd : 0 ≤ d ∧ d ≤ 1000) (hl : 0 ≤ left ∧ left ≤ 65536)
    (h1 : 1 ≤ d → ∀ (k : S_reader_Ref) (l : Int), OKr A k → 0 ≤ l ∧ l ≤ 65536 → f1 A.segments (toRR A k) (d - 1) l = some (g1 k l))
    (h2 : 2 ≤ d → ∀ (k : S_reader_Ref) (l : Int), OKr A k → k.kind = 1 → 0 ≤ l ∧ l ≤ 65536 → f2 A.segments (toRR A k) (d - 2) l = some (stK A g2 k l)) : b_centoref10_Meaning f1 f2 A.segments (toRR A r) d left = some (meanB A g1 g2 d r left) := by
  have hwt := wt_rg hw hr
  have hkn := kidsN_rg hr
  obtain ⟨fr1, fr9⟩ := toRR_frame hr
  unfold b_centoref10_Meaning meanB
  rw [rrWords_ok hw hr, Option.bind_some, toRR_kind, rrKids_ok hr]
  by_cases k0 : r.kind = 0
  · rw [if_pos k0, show (r.kind == 0) = true from by rw [k0]; rfl, cond_true]
  rw [if_neg k0, show (r.kind == 0) = false from ieqF k0, cond_false]
  have hlv : (cond (decide (d < 1)) true (cond (cond (r.kind == 9) (decide (0 < (toRR A r).Count)) false) (decide (d < 2)) false)) = decide (d < lvR r) := by
    unfold lvR
    rw [if_neg k0]
    by_cases k9 : r.kind = 9
    · rw [show (r.kind == 9) = true from by rw [k9]; rfl, (fr9 k9).2.2, cond_true]
      by_cases hc : 0 < r.count
      · rw [if_pos ⟨k9, hc⟩, decide_eq_true hc, cond_true]
        by_cases hd1 : d < 1
        · rw [decide_eq_true hd1, cond_true, decide_eq_true (show d < 2 by omega)]
        · rw [decide_eq_false hd1, cond_false]
      · rw [if_neg (fun q => hc q.2), decide_eq_false hc, cond_false]
        cases decide (d < 1) <;> rfl
    · rw [show (r.kind == 9) = false from ieqF k9, cond_false, cond_false, if_neg (fun q => k9 q.1)]
      cases decide (d < 1) <;> rfl
  rw [hlv]
  have hwx : ((cond (r.kind == 1) (some (IntKind.i64.wrap ((IntKind.i64.wrap (1 + (toRR A r).Data)) + (toRR A r).Ptrs))) (some (IntKind.i64.wrap (1 + kidsN r)))).bind fun (z5 : Int) => (cond (r.kind == 9) (some (IntKind.i64.wrap (1 + (IntKind.i64.wrap ((toRR A r).Count * (IntKind.i64.wrap ((IntKind.i64.wrap (1 + (toRR A r).Data)) + (toRR A r).Ptrs))))))) (some z5))) = some (wtR r) := by
    unfold wtR
    rw [if_neg k0]
    by_cases k1 : r.kind = 1
    · rw [if_pos k1, show (r.kind == 1) = true from by rw [k1]; rfl, cond_true, Option.bind_some, show (r.kind == 9) = false from ieqF (by omega), cond_false, (fr1 k1).1, (fr1 k1).2]
      cases hr with
      | z => simp [r0] at k1
      | st s a d p hd hp hin => simp only; rw [i64s (x := 1 + d) (by omega) (by omega), i64s (by omega) (by omega)]
      | li k s a n hk => simp only at k1; omega
      | co => simp at k1
      | at_ => simp at k1
    rw [if_neg k1, show (r.kind == 1) = false from ieqF k1, cond_false, Option.bind_some]
    by_cases k9 : r.kind = 9
    · rw [if_pos k9, show (r.kind == 9) = true from by rw [k9]; rfl, cond_true, (fr9 k9).1, (fr9 k9).2.1, (fr9 k9).2.2]
      cases hr with
      | z => simp [r0] at k9
      | st => simp at k9
      | li k s a n hk => simp only at k9; omega
      | at_ => simp at k9
      | co s a d p n hd hp hn hwx hin =>
        have : n * (1 + d + p) = n + n * (d + p) := by rw [Int.add_assoc, Int.mul_add, Int.mul_one]
        simp only
        rw [i64s (x := 1 + d) (by omega) (by omega), i64s (x := 1 + d + p) (by omega) (by omega), i64s (x := n * (1 + d + p)) (by omega) (by omega), i64s (by omega) (by omega)]
    · have hkc : kidsN r = r.count := by unfold kidsN; rw [if_neg k1]
      rw [if_neg k9, show (r.kind == 9) = false from ieqF k9, cond_false, i64s (by omega) (by omega), hkc]
  by_cases hb1 : d < lvR r
  · rw [decide_eq_true hb1, cond_true, if_pos (.inl hb1)]
  rw [decide_eq_false hb1, cond_false, Option.bind_some]
  have hstep2 : ∀ {K : Int → Option (Tr × Int × Int)}, ((cond (r.kind == 1) (some (IntKind.i64.wrap ((IntKind.i64.wrap (1 + (toRR A r).Data)) + (toRR A r).Ptrs))) (some (IntKind.i64.wrap (1 + kidsN r)))).bind fun (z5 : Int) => (cond (r.kind == 9) (some (IntKind.i64.wrap (1 + (IntKind.i64.wrap ((toRR A r).Count * (IntKind.i64.wrap ((IntKind.i64.wrap (1 + (toRR A r).Data)) + (toRR A r).Ptrs))))))) (some z5)).bind K) = K (wtR r) := fun {K} => by
    rw [← Option.bind_assoc, hwx, Option.bind_some]
  rw [hstep2]
  by_cases hb2 : left < wtR r
  · rw [decide_eq_true hb2, cond_true, if_pos (.inr hb2)]
  rw [decide_eq_false hb2, cond_false, if_neg (by omega), i64s (x := left - wtR r) (by omega) (by omega)]
  have hlvd : 1 ≤ d := by
    have : 1 ≤ lvR r := by unfold lvR; rw [if_neg k0]; split <;> omega
    omega
  have hN : kidsN r = (((kidsN r).toNat : Nat) : Int) := by omega
  -- one kid
  have hkf : ∀ (i : Nat) (l : Int), i < (kidsN r).toNat → (kidR A r i).2 = 0 → 0 ≤ l ∧ l ≤ 65536 → (cond (r.kind == 9) ((f2 A.segments (toRR A (kidR A r i).1) (IntKind.i64.wrap (d - 2)) l).bind fun y16 => some (y16.2.1, y16.2.2, y16.1.Kind, y16.1.Words, y16.1.Kids)) (cond (cond (r.kind == 1) true (r.kind == 8)) ((f1 A.segments (toRR A (kidR A r i).1) (IntKind.i64.wrap (d - 1)) l).bind fun y17 => some (y17.2.1, y17.2.2, y17.1.Kind, y17.1.Words, y17.1.Kids)) (some (l, (kidR A r i).2, (kidR A r i).1.kind, wordsL A (kidR A r i).1, ([] : List Tr))))) = some ((kidF A g1 g2 r (kidR A r i).1 l).2.1, (kidF A g1 g2 r (kidR A r i).1 l).2.2, (kidF A g1 g2 r (kidR A r i).1 l).1.Kind, (kidF A g1 g2 r (kidR A r i).1 l).1.Words, (kidF A g1 g2 r (kidR A r i).1 l).1.Kids) := fun i l hi he hl => by
    rw [i64s (x := d - 2) (by omega) (by omega), i64s (x := d - 1) (by omega) (by omega)]
    unfold kidF
    by_cases k9 : r.kind = 9
    · have hkc : kidsN r = r.count := by unfold kidsN; rw [if_neg (by omega)]
      have hd2 : 2 ≤ d := by
        have : lvR r = 2 := by unfold lvR; rw [if_neg k0, if_pos ⟨k9, by omega⟩]
        omega
      rw [if_pos k9, show (r.kind == 9) = true from by rw [k9]; rfl, cond_true, h2 hd2 _ l (kid_okr hr i) (kid_struct1 k9 ⟨by omega, by omega⟩) hl, Option.bind_some]
    rw [if_neg k9, show (r.kind == 9) = false from ieqF k9, cond_false]
    by_cases k18 : r.kind = 1 ∨ r.kind = 8
    · have e1 : cond (r.kind == 1) true (r.kind == 8) = true := by rcases k18 with k | k <;> rw [k] <;> rfl
      rw [if_pos k18, e1, cond_true, h1 hlvd _ l (kid_okr hr i) hl, Option.bind_some]
    · rw [if_neg k18, show (r.kind == 1) = false from ieqF (by omega), show (r.kind == 8) = false from ieqF (by omega), cond_false, cond_false, he]
      rfl
  have hL := mean_loop (step := b_centoref10_Meaning_L0 f1 f2 A.segments (toRR A r) d) (f := kidF A g1 g2 r) hr (kidsN r).toNat (by omega) (fun i l acc hi ha hl => by
    unfold b_centoref10_Meaning_L0
    simp only
    rw [rrKids_ok hr, Option.bind_some, show decide ((i : Int) < kidsN r) = true from by rw [decide_eq_true_eq]; omega, cond_true, rkid_ok' hw hr, Option.bind_some]
    simp only [toRR2]
    by_cases q1 : (kidR A r i).2 ≠ 0
    · rw [if_pos q1, bne_iff_ne.2 q1, cond_true]
    rw [if_neg q1, bne_eq_false_iff_eq.2 (show (kidR A r i).2 = 0 by omega), cond_false, rrWords_ok hw (kid_okr hr i), Option.bind_some, toRR_kind, toRR_kind, hkf i l hi (by omega) hl, Option.bind_some]
    simp only [tr_mk]
    by_cases q2 : (kidF A g1 g2 r (kidR A r i).1 l).2.2 ≠ 0
    · rw [if_pos q2, bne_iff_ne.2 q2, cond_true]
    rw [if_neg q2, bne_eq_false_iff_eq.2 (show (kidF A g1 g2 r (kidR A r i).1 l).2.2 = 0 by omega), cond_false, appI_ok (by simp only [List.length_singleton]; omega) (by simp only [List.length_singleton]; omega), Option.bind_some, i64s (by omega) (by omega)]
    rfl) (fun l acc => by
    unfold b_centoref10_Meaning_L0
    simp only
    rw [rrKids_ok hr, Option.bind_some, show decide ((((kidsN r).toNat : Nat) : Int) < kidsN r) = false from by rw [decide_eq_false_iff_not]; omega, cond_false]) (lf_kidF l1 l2 r) (kidsN r).toNat 0 (left - wtR r) [] (by omega) rfl (by omega)
  rw [show (((0 : Nat) : Int)) = 0 from rfl] at hL
  rw [hL, Option.bind_some]
  simp only
  by_cases hq : (kidsGo (kidF A g1 g2 r) (kidR A r) (kidsN r).toNat 0 (left - wtR r) []).2.2 = 0
  · rw [if_pos hq]
    simp only
    rw [show (kidsGo (kidF A g1 g2 r) (kidR A r) (kidsN r).toNat 0 (left - wtR r) []).2 = ((kidsGo (kidF A g1 g2 r) (kidR A r) (kidsN r).toNat 0 (left - wtR r) []).2.1, 0) from by rw [← hq]]
  · rw [if_neg hq]
theorem lf_meanP (hw : WS A.segments) (k d : Nat) : Lf A (meanP A k d) := by
  unfold meanP
  split
  · exact lf_mean hw _
  · exact lf_bad
theorem rmean_lv (hw : WS A.segments) : ∀ (K : Nat), (∀ (d : Nat) r left, d ≤ 1000 → OKr A r → 0 ≤ left ∧ left ≤ 65536 → 2 * d + 1 ≤ K → (lv_centoref10_Meaning K).1 A.segments (toRR A r) d left = some (mean A d r left)) ∧
    (∀ (d : Nat) r left, d ≤ 1000 → OKr A r → r.kind = 1 → 0 ≤ left ∧ left ≤ 65536 → 2 * d + 2 ≤ K → (lv_centoref10_Meaning K).2 A.segments (toRR A r) d left = some (stK A (mean A d) r left))
  | 0 => ⟨fun d r left _ _ _ h => by omega, fun d r left _ _ _ _ h => by omega⟩
  | K + 1 => by
    obtain ⟨i1, i2⟩ := rmean_lv hw K
    refine ⟨fun d r left hd hr hl hK => ?_, fun d r left hd hr h1 hl hK => ?_⟩
    · show b_centoref10_Meaning (lv_centoref10_Meaning K).1 (lv_centoref10_Meaning K).2 A.segments (toRR A r) d left = _
      rw [mean_eq]
      refine rMean_ok hw (lf_meanP hw 1 d) (lf_meanP hw 2 d) hr (by omega) hl (fun hd1 k l hk hl => ?_) (fun hd2 k l hk k1 hl => ?_)
      · have := i1 (d - 1) k l (by omega) hk hl (by omega)
        rw [show (((d - 1 : Nat) : Int)) = (d : Int) - 1 by omega] at this
        unfold meanP
        rw [if_pos (by omega)]
        exact this
      · have := i2 (d - 2) k l (by omega) hk k1 hl (by omega)
        rw [show (((d - 2 : Nat) : Int)) = (d : Int) - 2 by omega] at this
        unfold meanP
        rw [if_pos (by omega)]
        exact this
    · show b_centoref10_kids (lv_centoref10_Meaning K).1 (lv_centoref10_Meaning K).2 A.segments (toRR A r) d left = _
      exact rKidsFn_ok hw (lf_mean hw d) hr h1 hl fun k l hk hl => i1 d k l hd hk hl (by omega)
theorem rmean_ok (hw : WS A.segments) {d : Nat} (hd : d ≤ 1000) {r : S_reader_Ref} (hr : OKr A r) {left : Int} (hl : 0 ≤ left ∧ left ≤ 65536) : m_centoref10_Meaning A.segments (toRR A r) d left = some (mean A d r left) :=
  lim_eq (2 * d + 1) fun k hk => (rmean_lv hw k).1 d r left hd hr hl hk
/-- what a message means, and weighs -/
def unfW (A : S_arena_Arena) (x : S_api_Limits) : Tr × Int × Int :=
  if (atR A 0 0).2 ≠ 0 then (⟨0, [], []⟩, 0, (atR A 0 0).2)
  else
    let q := mean A (lims x).Depth.toNat (atR A 0 0).1 (lims x).Weight
    if q.2.2 ≠ 0 then (⟨0, [], []⟩, 0, q.2.2) else (q.1, (lims x).Weight - q.2.1, 0)
theorem unfold_ok (hw : WS A.segments) (x : S_api_Limits) : m_centoref10_Unfold A.segments x = some (unfW A x) := by
  unfold m_centoref10_Unfold unfW
  rw [rlimits_ok, Option.bind_some, rat_ok hw, Option.bind_some]
  simp only [toRR2]
  have hd : 0 ≤ (lims x).Depth ∧ (lims x).Depth ≤ 64 := clamp_rg _ _ (by decide)
  have hW : 0 ≤ (lims x).Weight ∧ (lims x).Weight ≤ 65536 := clamp_rg _ _ (by decide)
  by_cases h : (atR A 0 0).2 ≠ 0
  · rw [if_pos h, show ((atR A 0 0).2 != 0) = true from bne_iff_ne.2 h, cond_true]
  · rw [if_neg h, show ((atR A 0 0).2 != 0) = false from bne_eq_false_iff_eq.2 (by omega), cond_false]
    have hm := rmean_ok hw (d := (lims x).Depth.toNat) (by omega) (at_okr (A := A) 0 0) hW
    rw [show (((lims x).Depth.toNat : Nat) : Int) = (lims x).Depth by omega] at hm
    rw [hm, Option.bind_some]
    by_cases hq : (mean A (lims x).Depth.toNat (atR A 0 0).1 (lims x).Weight).2.2 ≠ 0
    · rw [if_pos hq, show ((mean A (lims x).Depth.toNat (atR A 0 0).1 (lims x).Weight).2.2 != 0) = true from bne_iff_ne.2 hq, cond_true]
    · have h0 : (mean A (lims x).Depth.toNat (atR A 0 0).1 (lims x).Weight).2.2 = 0 := by omega
      have hb := lf_mean hw _ _ _ (at_okr (A := A) 0 0) hW.1 h0
      rw [if_neg hq, show ((mean A (lims x).Depth.toNat (atR A 0 0).1 (lims x).Weight).2.2 != 0) = false from bne_eq_false_iff_eq.2 h0, cond_false, i64s (by omega) (by omega)]
theorem unf_chk (x : S_api_Limits) : (unfW A x).2 = chkW A x := by
  unfold unfW chkW
  by_cases h : (atR A 0 0).2 ≠ 0
  · rw [if_pos h, if_pos h]
  rw [if_neg h, if_neg h]
  simp only
  by_cases hq : (mean A (lims x).Depth.toNat (atR A 0 0).1 (lims x).Weight).2.2 ≠ 0
  · rw [if_pos hq, if_pos hq]
  · rw [if_neg hq, if_neg hq]
end
section
variable {A : S_arena_Arena}
theorem wordsL_len (hw : WS A.segments) {r : S_reader_Ref} (h : OKr A r) : ((wordsL A r).length : Int) = wordsN r := by
  unfold wordsL wordsN
  cases h with
  | z => rfl
  | li k s a n hk hn hin => simp only; rw [if_neg (by omega), if_neg (by omega), if_neg (by omega), if_neg (by omega)]; rfl
  | co => rfl
  | at_ => rfl
  | st s a d p hd hp hin =>
    have hi' := inB_iff.1 hin
    simp only [show ¬ (1 : Int) = 10 from by decide, if_false, if_true, List.length_take, List.length_drop]
    omega
theorem wordsL_at (hw : WS A.segments) {r : S_reader_Ref} (h : OKr A r) {i : Nat} (hi : i < (wordsL A r).length) : (wordsL A r)[i] = wordR A r (i : Int) := by
  have hl := wordsL_len hw h
  unfold wordR
  rw [if_neg (by omega)]
  cases h with
  | z => simp [wordsL, r0] at hi
  | li k s a n hk hn hin =>
    have : wordsL A ⟨some A, k, s, a, 0, 0, n, 0, 0⟩ = [] := by unfold wordsL; rw [if_neg (by simp only; omega), if_neg (by simp only; omega)]
    simp [this] at hi
  | co => simp [wordsL] at hi
  | at_ s a c j n hc h0 h1 hn hin =>
    have : i = 0 := by
      simp [wordsL] at hi; exact hi
    subst this
    rfl
  | st s a d p hd hp hin =>
    have hi' := inB_iff.1 hin
    have hid : (i : Int) < d := by simp [wordsN] at hl; omega
    simp only [wordsL, show ¬ (1 : Int) = 10 from by decide, if_false, if_true, List.getElem_take, List.getElem_drop]
    unfold wd
    rw [show (a + (i : Int)).toNat = a.toNat + i by omega, List.getElem?_eq_getElem (by omega)]
    rfl
end
/-- what an index counts up to -/
theorem kid_lt {t x : Tr} (h : x ∈ t.Kids) : SizeOf.sizeOf x < SizeOf.sizeOf t := by
  obtain ⟨k, w, ks⟩ := t
  have := List.sizeOf_lt_of_mem h
  simp only [S_api_Tree.mk.sizeOf_spec]
  simp only at this
  omega
/-- rounds over a list's kids with an index alone -/
theorem loop_any {α R : Type} (xs : List α) (step : Int → Option (Int ⊕ R)) (p : α → Bool) (e o : R) (hl : (xs.length : Int) ≤ 140737488355328)
    (h1 : ∀ (i : Nat) (x : α), i < xs.length → xs[i]? = some x → x ∈ xs → step i = some (if p x = true then .inr e else .inl (IntKind.i64.wrap ((i : Int) + 1)))) (h2 : step xs.length = some (.inr o)) : runLoop step 0 = some (if xs.any p = true then e else o) := by
  have hloop := loop_each xs (fun i (_ : Unit) => i) step (fun _ x => some (if p x = true then .inr e else .inl ())) (fun _ => o) (fun i s x hi hx => by
    rw [h1 i x hi hx (List.mem_of_getElem? hx), i64s (by omega) (by omega)]
    cases p x <;> rfl) (fun _ => h2) ()
  refine hloop.trans ?_
  rw [foldE_find p (fun s _ => s) e (fun _ _ => True) xs.length xs () 0 (by omega) trivial (fun s k x _ _ _ => ⟨by cases p x <;> rfl, fun _ => trivial⟩)]
/-- without such as are of a kind, at the end -/
def tr {α : Type} (p : α → Bool) : List α → List α
  | [] => []
  | x :: xs => match tr p xs with
    | [] => if p x = true then [] else [x]
    | y :: ys => x :: y :: ys
def trN {α : Type} (p : α → Bool) (l : List α) : Nat → Nat
  | 0 => 0
  | n + 1 => match l[n]? with
    | some x => if p x = true then trN p l n else n + 1
    | none => 0
theorem tr_append_t {α : Type} {p : α → Bool} {x : α} (h : p x = true) : ∀ l : List α, tr p (l ++ [x]) = tr p l
  | [] => by simp [tr, h]
  | y :: l => by simp only [List.cons_append, tr, tr_append_t h l]
theorem tr_append_f {α : Type} {p : α → Bool} {x : α} (h : p x = false) : ∀ l : List α, tr p (l ++ [x]) = l ++ [x]
  | [] => by simp [tr, h]
  | y :: l => by
    simp only [List.cons_append, tr, tr_append_f h l]
    cases hl : l ++ [x] with
    | nil => simp at hl
    | cons a b => rfl
theorem trN_tr {α : Type} {p : α → Bool} {l : List α} : ∀ n, n ≤ l.length → l.take (trN p l n) = tr p (l.take n) ∧ trN p l n ≤ n
  | 0, _ => by simp [trN, tr]
  | n + 1, h => by
    have hn : l[n]? = some l[n] := List.getElem?_eq_getElem (by omega)
    have e : l.take (n + 1) = l.take n ++ [l[n]] := by rw [List.take_add_one, hn]; rfl
    obtain ⟨h1, h2⟩ := trN_tr (p := p) (l := l) n (by omega)
    unfold trN
    rw [hn]
    simp only
    split
    · rename_i hp
      rw [e, tr_append_t hp]
      exact ⟨h1, by omega⟩
    · rename_i hp
      rw [e, tr_append_f (by simpa using hp), ← e]
      exact ⟨rfl, Nat.le_refl _⟩
theorem tr_len {α : Type} (p : α → Bool) : ∀ l : List α, (tr p l).length ≤ l.length
  | [] => by simp [tr]
  | x :: l => by
    have := tr_len p l
    simp only [tr]
    split
    · split <;> simp
    · rename_i y ys he
      rw [he] at this
      simp at this ⊢
      omega
theorem tr_mem {α : Type} {p : α → Bool} {x : α} : ∀ {l : List α}, x ∈ tr p l → x ∈ l
  | [], h => by simp [tr] at h
  | y :: l, h => by
    simp only [tr] at h
    split at h
    · split at h
      · simp at h
      · simp at h; simp [h]
    · rename_i z zs he
      rw [← he] at h
      rcases List.mem_cons.1 h with h | h
      · simp [h]
      · exact List.mem_cons_of_mem _ (tr_mem h)
theorem tr_tr {α : Type} {p : α → Bool} : ∀ l : List α, tr p (tr p l) = tr p l
  | [] => rfl
  | x :: l => by
    have ih := tr_tr (p := p) l
    simp only [tr]
    cases h : tr p l with
    | nil =>
      simp only
      cases hx : p x <;> simp [tr, hx]
    | cons y ys =>
      rw [h] at ih
      simp only [tr] at ih ⊢
      rw [ih]
theorem tr_map {α β : Type} {p : α → Bool} {q : β → Bool} {f : α → β} (h : ∀ x, q (f x) = p x) : ∀ l : List α, tr q (l.map f) = (tr p l).map f
  | [] => rfl
  | x :: l => by
    simp only [List.map_cons, tr, tr_map h l]
    cases tr p l with
    | nil => simp only [List.map_nil, h]; split <;> rfl
    | cons y ys => rfl
/-- the rounds that look for the end -/
theorem loop_tr {α : Type} (l : List α) (p : α → Bool) (step : Int → Option (Int ⊕ Int)) (hl : (l.length : Int) ≤ 140737488355328)
    (h0 : step 0 = some (.inr 0)) (h1 : ∀ (n : Nat) (x : α), l[n]? = some x → n < l.length → step ((n + 1 : Nat) : Int) = some (if p x = true then .inl (n : Int) else .inr ((n + 1 : Nat) : Int))) : runLoop step (l.length : Int) = some (trN p l l.length : Int) := by
  have key : ∀ n : Nat, n ≤ l.length → runLoop step (n : Int) = some (trN p l n : Int) := fun n => by
    induction n with
    | zero => intro _; exact runLoop_end h0
    | succ n ih =>
      intro hn
      have hx : l[n]? = some l[n] := List.getElem?_eq_getElem (by omega)
      have h := h1 n _ hx (by omega)
      unfold trN
      rw [hx]
      simp only
      split
      · rename_i hp
        rw [if_pos hp] at h
        rw [runLoop_step h]
        exact ih (by omega)
      · rename_i hp
        rw [if_neg hp] at h
        exact runLoop_end h
  exact key l.length (Nat.le_refl _)
theorem sub_take {α : Type} {l : List α} {n : Nat} (h : n ≤ l.length) : subI l 0 (n : Int) = some (l.take n) := by
  rw [subI_ok (by omega) (by omega) (by omega)]
  simp
theorem gt_t {n : Nat} : decide (0 < ((n + 1 : Nat) : Int)) = true := by rw [decide_eq_true_eq]; omega
theorem rTrim_ok {l : List Int} (hl : l.length * 8 ≤ 140737488355328) : m_centoref07_Trim l = some (tr (fun x => x == 0) l) := by
  have hloop := loop_tr l (fun x => x == 0) (m_centoref07_Trim_L0 l) (by omega) (by unfold m_centoref07_Trim_L0; rfl) (fun n x hx hn => by
    unfold m_centoref07_Trim_L0
    rw [gt_t, cond_true, i64s (by omega) (by omega)]
    have e : ((n + 1 : Nat) : Int) - 1 = (n : Int) := by omega
    rw [e, getI_of hx]
    simp only [Option.bind_some, cond_true]
    cases x == 0 <;> rfl)
  obtain ⟨h1, h2⟩ := trN_tr (p := fun x => x == 0) (l := l) l.length (Nat.le_refl _)
  have h3 := tr_len (fun x => x == 0) l
  unfold m_centoref07_Trim
  rw [hloop, Option.bind_some, sub_take h2, Option.bind_some, h1, List.take_length, appI_ok (by rw [List.length_nil]; omega) (by rw [List.length_nil]; omega)]
  rfl
/-- lengths and words as memory has them, all the way down -/
inductive Bd : Tr → Prop
  | mk (t : Tr) (h1 : t.Words.length * 8 ≤ 140737488355328) (h2 : t.Kids.length * 56 ≤ 140737488355328) (h3 : ∀ w ∈ t.Words, 0 ≤ w ∧ w < 18446744073709551616) (h4 : ∀ k ∈ t.Kids, Bd k) : Bd t
theorem Bd.w {t : Tr} (h : Bd t) : t.Words.length * 8 ≤ 140737488355328 := by cases h; assumption
theorem Bd.k {t : Tr} (h : Bd t) : t.Kids.length * 56 ≤ 140737488355328 := by cases h; assumption
theorem Bd.u {t : Tr} (h : Bd t) : ∀ w ∈ t.Words, 0 ≤ w ∧ w < 18446744073709551616 := by cases h; assumption
theorem Bd.all {t : Tr} (h : Bd t) : ∀ k ∈ t.Kids, Bd k := by cases h; assumption
/-- what means the same, without what is in vain -/
def nrm (t : Tr) : Tr :=
  if t.Kind = 0 then ⟨0, [], []⟩
  else if t.Kind = 1 then ⟨1, tr (fun x => x == 0) t.Words, tr (fun x => x.Kind == 0) (t.Kids.attach.map fun k => nrm k.1)⟩
  else ⟨t.Kind, t.Words, t.Kids.attach.map fun k => nrm k.1⟩
termination_by SizeOf.sizeOf t
decreasing_by all_goals exact kid_lt k.2
theorem nrm_eq (t : Tr) : nrm t = if t.Kind = 0 then ⟨0, [], []⟩ else if t.Kind = 1 then ⟨1, tr (fun x => x == 0) t.Words, tr (fun x => x.Kind == 0) (t.Kids.map nrm)⟩ else ⟨t.Kind, t.Words, t.Kids.map nrm⟩ := by
  rw [nrm]
  simp only [List.attach_map_val]
theorem nrm_kind (t : Tr) : (nrm t).Kind = t.Kind := by
  rw [nrm_eq]
  split
  · rename_i h; exact h.symm
  · split
    · rename_i h; exact h.symm
    · rfl

/-- the kids' norms, and where the last one stands that is something -/
theorem tr_cons_nil {α : Type} {p : α → Bool} {x : α} {l : List α} (h : tr p l = []) : tr p (x :: l) = if p x = true then [] else [x] := by simp only [tr, h]
theorem tr_cons_ne {α : Type} {p : α → Bool} {x : α} {l : List α} (h : tr p l ≠ []) : tr p (x :: l) = x :: tr p l := by
  simp only [tr]
  split
  · rename_i h'; exact absurd h' h
  · rename_i h'; rw [h']
theorem last_tr : ∀ (l : List Tr) (n : Nat) (acc : Int), (l.zipIdx n).foldl (fun a p => if p.1.Kind = 0 then a else ((p.2 + 1 : Nat) : Int)) acc = if (tr (fun x => x.Kind == 0) l).length = 0 then acc else ((n + (tr (fun x => x.Kind == 0) l).length : Nat) : Int)
  | [], n, acc => by simp [tr]
  | x :: l, n, acc => by
    rw [List.zipIdx_cons, List.foldl_cons, last_tr l (n + 1)]
    by_cases h : tr (fun x => x.Kind == 0) l = []
    · rw [tr_cons_nil h, h]
      by_cases hx : x.Kind = 0
      · simp [hx]
      · simp [hx]
    · have h' : (tr (fun x => x.Kind == 0) l).length ≠ 0 := by simpa using h
      rw [tr_cons_ne h, if_neg h', List.length_cons, if_neg (by omega)]
      congr 1
      omega
theorem tr_take {α : Type} (p : α → Bool) (l : List α) : l.take (tr p l).length = tr p l := by
  obtain ⟨h1, h2⟩ := trN_tr (p := p) (l := l) l.length (Nat.le_refl _)
  rw [List.take_length] at h1
  rw [← h1, List.length_take]
  congr 1
  omega
theorem rnorm_l0 {k : Nat} {t : Tr} (hl : t.Kids.length * 56 ≤ 140737488355328) (ih : ∀ x ∈ t.Kids, lv_centoref07_Norm k x = some (nrm x)) :
    runLoop (b_centoref07_Norm_L0 (lv_centoref07_Norm k) t) (0, 0, []) = some (if (tr (fun x => x.Kind == 0) (t.Kids.map nrm)).length = 0 then 0 else ((tr (fun x => x.Kind == 0) (t.Kids.map nrm)).length : Int), t.Kids.map nrm) := by
  have key : ∀ (l pre : List Tr) (a : Int), t.Kids = pre ++ l → runLoop (b_centoref07_Norm_L0 (lv_centoref07_Norm k) t) (a, ((pre.length : Nat) : Int), pre.map nrm) = some (((l.map nrm).zipIdx pre.length).foldl (fun a p => if p.1.Kind = 0 then a else ((p.2 + 1 : Nat) : Int)) a, t.Kids.map nrm) := fun l => by
    induction l with
    | nil =>
      intro pre a hp
      rw [List.append_nil] at hp
      refine runLoop_end ?_
      unfold b_centoref07_Norm_L0
      simp only
      rw [hp, lt_f, cond_false]
      rfl
    | cons x l ihl =>
      intro pre a hp
      have hx : t.Kids[pre.length]? = some x := by rw [hp, List.getElem?_append_right (Nat.le_refl _), Nat.sub_self]; rfl
      have hi : pre.length < t.Kids.length := by rw [hp]; simp
      have hm : x ∈ t.Kids := List.mem_of_getElem? hx
      have hs : b_centoref07_Norm_L0 (lv_centoref07_Norm k) t (a, ((pre.length : Nat) : Int), pre.map nrm) = some (.inl (if x.Kind = 0 then a else ((pre.length + 1 : Nat) : Int), (((pre ++ [x]).length : Nat) : Int), (pre ++ [x]).map nrm)) := by
        unfold b_centoref07_Norm_L0
        simp only
        rw [lt_t hi, cond_true, getI_of hx, Option.bind_some, ih x hm, Option.bind_some, appI_ok (by simp; omega) (by simp; omega), Option.bind_some, i64s (by omega) (by omega), nrm_kind]
        have e : ((pre.length : Nat) : Int) + 1 = ((pre.length + 1 : Nat) : Int) := by omega
        rw [e]
        by_cases h0 : x.Kind = 0
        · simp [h0]
        · have : (x.Kind != 0) = true := by simp [h0]
          rw [this, cond_true]
          simp [h0]
      rw [runLoop_step hs, ihl (pre ++ [x]) _ (by rw [hp]; simp)]
      simp only [List.map_cons, List.zipIdx_cons, List.foldl_cons, List.length_append, List.length_singleton, nrm_kind]
  have := key t.Kids [] 0 rfl
  rw [last_tr] at this
  simpa using this
theorem rnorm_lv : ∀ (k : Nat) (t : Tr), Bd t → SizeOf.sizeOf t < k → lv_centoref07_Norm k t = some (nrm t)
  | 0, t, _, h => by omega
  | k + 1, t, hb, hk => by
    have ih : ∀ x ∈ t.Kids, lv_centoref07_Norm k x = some (nrm x) := fun x hx => rnorm_lv k x (hb.all x hx) (by have := kid_lt hx; omega)
    have hw := hb.w
    have hkd := hb.k
    show b_centoref07_Norm (lv_centoref07_Norm k) t = _
    unfold b_centoref07_Norm
    rw [nrm_eq]
    by_cases h0 : t.Kind = 0
    · rw [if_pos h0, h0]; rfl
    have e0 : (t.Kind == 0) = false := by rw [beq_eq_false_iff_ne]; exact h0
    rw [if_neg h0, e0, cond_false, rnorm_l0 hkd ih, Option.bind_some]
    by_cases h1 : t.Kind = 1
    · have e1 : (t.Kind == 1) = true := by rw [beq_iff_eq]; exact h1
      rw [if_pos h1, e1, cond_true, rTrim_ok hw, Option.bind_some]
      have l1 := tr_len (fun x : Tr => x.Kind == 0) (t.Kids.map nrm)
      have l2 : (if (tr (fun x => x.Kind == 0) (t.Kids.map nrm)).length = 0 then (0 : Int) else ((tr (fun x => x.Kind == 0) (t.Kids.map nrm)).length : Int)) = ((tr (fun x => x.Kind == 0) (t.Kids.map nrm)).length : Int) := by
        split
        · rename_i h; rw [h]; rfl
        · rfl
      simp only [l2]
      rw [sub_take l1, Option.bind_some, tr_take]
    · have e1 : (t.Kind == 1) = false := by rw [beq_eq_false_iff_ne]; exact h1
      rw [if_neg h1, e1, cond_false, appI_ok (by rw [List.length_nil]; omega) (by rw [List.length_nil]; omega)]
      rfl
theorem rnorm_ok {t : Tr} (h : Bd t) : m_centoref07_Norm t = some (nrm t) := lim_eq (SizeOf.sizeOf t + 1) fun k hk => rnorm_lv k t h (by omega)
theorem nrm_bd : ∀ (n : Nat) (t : Tr), SizeOf.sizeOf t < n → Bd t → Bd (nrm t)
  | 0, t, h, _ => by omega
  | n + 1, t, hn, hb => by
    have ih : ∀ x ∈ t.Kids, Bd (nrm x) := fun x hx => nrm_bd n x (by have := kid_lt hx; omega) (hb.all x hx)
    have hw := hb.w
    have hk := hb.k
    rw [nrm_eq]
    split
    · exact .mk _ (by simp) (by simp) (fun w h => by simp at h) (fun w h => by simp at h)
    · split
      · have l1 := tr_len (fun x : Int => x == 0) t.Words
        have l2 := tr_len (fun x : Tr => x.Kind == 0) (t.Kids.map nrm)
        rw [List.length_map] at l2
        refine .mk _ (by simp only; omega) (Nat.le_trans (Nat.mul_le_mul_right 56 l2) hk) (fun w h => hb.u w (tr_mem h)) (fun x h => ?_)
        obtain ⟨y, hy, rfl⟩ := List.mem_map.1 (tr_mem h)
        exact ih y hy
      · refine .mk _ hw (by simp only [List.length_map]; exact hk) hb.u (fun x h => ?_)
        obtain ⟨y, hy, rfl⟩ := List.mem_map.1 h
        exact ih y hy
theorem Bd.nrm {t : Tr} (h : Bd t) : Bd (nrm t) := nrm_bd _ t (Nat.lt_succ_self _) h
/-- the same, part by part -/
def eqT (a b : Tr) : Bool := a.Kind == b.Kind && (a.Words == b.Words && (a.Kids.length == b.Kids.length && (a.Kids.attach.zip b.Kids).all fun p => eqT p.1.1 p.2))
termination_by SizeOf.sizeOf a
decreasing_by exact kid_lt p.1.2
def eqL : List Tr → List Tr → Bool
  | [], [] => true
  | x :: xs, y :: ys => eqT x y && eqL xs ys
  | _, _ => false
theorem zip_eqL : ∀ (l m : List Tr) (P : Tr → Prop) (l' : List {x // P x}), l'.map (·.1) = l → (l.length == m.length && (l'.zip m).all fun p => eqT p.1.1 p.2) = eqL l m
  | [], [], P, l', h => by cases l' <;> simp_all [eqL]
  | [], y :: m, P, l', h => by cases l' <;> simp_all [eqL]
  | x :: l, [], P, l', h => by cases l' <;> simp_all [eqL]
  | x :: l, y :: m, P, l', h => by
    cases l' with
    | nil => simp at h
    | cons z l' =>
      simp only [List.map_cons, List.cons.injEq] at h
      have ih := zip_eqL l m P l' h.2
      simp only [List.length_cons, List.zip_cons_cons, List.all_cons, eqL, h.1]
      rw [← ih]
      have : (l.length + 1 == m.length + 1) = (l.length == m.length) := by simp
      rw [this]
      cases l.length == m.length <;> cases eqT x y <;> rfl
theorem eqT_eq (a b : Tr) : eqT a b = (a.Kind == b.Kind && (a.Words == b.Words && eqL a.Kids b.Kids)) := by
  rw [eqT, zip_eqL a.Kids b.Kids (· ∈ a.Kids) a.Kids.attach (by simp)]
theorem eqL_cons (x y : Tr) (xs ys : List Tr) : eqL (x :: xs) (y :: ys) = (eqT x y && eqL xs ys) := rfl
theorem eqT_iff_n : ∀ (n : Nat) (a b : Tr), SizeOf.sizeOf a < n → (eqT a b = true ↔ a = b)
  | 0, a, b, h => by omega
  | n + 1, a, b, hn => by
    have ih : ∀ x ∈ a.Kids, ∀ y, eqT x y = true ↔ x = y := fun x hx y => eqT_iff_n n x y (by have := kid_lt hx; omega)
    have hl : ∀ (l m : List Tr), (∀ x ∈ l, x ∈ a.Kids) → (eqL l m = true ↔ l = m) := fun l => by
      induction l with
      | nil => intro m _; cases m <;> simp [eqL]
      | cons x l ihl =>
        intro m hm
        cases m with
        | nil => simp [eqL]
        | cons y m => rw [eqL_cons, Bool.and_eq_true, ih x (hm x (.head _)) y, ihl m (fun z hz => hm z (.tail _ hz)), List.cons.injEq]
    rw [eqT_eq, Bool.and_eq_true, Bool.and_eq_true, hl a.Kids b.Kids (fun x hx => hx), beq_iff_eq, beq_iff_eq]
    obtain ⟨k, w, ks⟩ := a
    obtain ⟨k', w', ks'⟩ := b
    simp
theorem eqT_iff {a b : Tr} : eqT a b = true ↔ a = b := eqT_iff_n _ a b (Nat.lt_succ_self _)
/-- two rows of numbers, held side by side -/
theorem any_ne : ∀ (a b : List Int), a.length = b.length → (a.zip b).any (fun p => p.1 != p.2) = !(a == b)
  | [], [], _ => rfl
  | [], _ :: _, h => by simp at h
  | _ :: _, [], h => by simp at h
  | x :: a, y :: b, h => by
    have ih := any_ne a b (by simpa using h)
    rw [List.zip_cons_cons, List.any_cons, ih]
    by_cases hxy : x = y
    · subst hxy; simp
    · simp [bne, hxy]
theorem loop_two {R : Type} (a b : List Int) (step : Int → Option (Int ⊕ R)) (e o : R) (hab : a.length = b.length) (hl : (a.length : Int) ≤ 140737488355328)
    (h1 : ∀ (i : Nat) (x y : Int), i < a.length → a[i]? = some x → b[i]? = some y → step i = some (if (x != y) = true then .inr e else .inl (IntKind.i64.wrap ((i : Int) + 1)))) (h2 : step a.length = some (.inr o)) :
    runLoop step 0 = some (if (a == b) = true then o else e) := by
  have hz : (a.zip b).length = a.length := by rw [List.length_zip]; omega
  have := loop_any (a.zip b) step (fun p => p.1 != p.2) e o (by rw [hz]; exact hl) (fun i p hi hp hm => by
    rw [hz] at hi
    have ha : a[i]? = some a[i] := List.getElem?_eq_getElem hi
    have hb : b[i]? = some b[i] := List.getElem?_eq_getElem (by omega)
    have : p = (a[i], b[i]) := by
      rw [List.getElem?_eq_getElem (by rw [hz]; exact hi)] at hp
      injection hp with hp
      rw [← hp, List.getElem_zip]
    subst this
    exact h1 i _ _ hi ha hb) (by rw [hz]; exact h2)
  rw [this, any_ne a b hab]
  cases a == b <;> rfl
theorem len_ne {a b : Nat} : ((a : Int) != (b : Int)) = !(a == b) := by
  rw [Bool.eq_iff_iff]; simp; omega
theorem beq_len {a b : List Int} (h : ¬ a.length = b.length) : (a == b) = false := by
  rw [beq_eq_false_iff_ne]; intro e; exact h (by rw [e])
theorem sameW_ok {a b : List Int} (h : (a.length : Int) ≤ 140737488355328) : m_centoref01_Same a b = some (a == b) := by
  unfold m_centoref01_Same
  rw [len_ne]
  by_cases hab : a.length = b.length
  · have : (!(a.length == b.length)) = false := by simp [hab]
    rw [this, cond_false, loop_two a b (m_centoref01_Same_L0 a b) (.inl ()) (.inr ()) hab h (fun i x y hi hx hy => by
      unfold m_centoref01_Same_L0
      rw [lt_t hi, cond_true, getI_of hx, Option.bind_some, getI_of hy, Option.bind_some]
      cases x != y <;> rfl) (by unfold m_centoref01_Same_L0; rw [lt_f]; rfl)]
    cases a == b <;> rfl
  · have : (!(a.length == b.length)) = true := by simp [hab]
    rw [this, cond_true, beq_len hab]
/-- two rows of trees, held side by side -/
theorem any_q (q : Tr → Tr → Bool) : ∀ (a b : List Tr), (a.zip b).any (fun p => !q p.1 p.2) = !((a.zip b).all fun p => q p.1 p.2)
  | [], b => by simp
  | x :: a, [] => by simp
  | x :: a, y :: b => by rw [List.zip_cons_cons, List.any_cons, any_q q a b, List.all_cons]; cases q x y <;> rfl
theorem loop_twoT {R : Type} (a b : List Tr) (q : Tr → Tr → Bool) (step : Int → Option (Int ⊕ R)) (e o : R) (hab : a.length = b.length) (hl : (a.length : Int) ≤ 140737488355328)
    (h1 : ∀ (i : Nat) (x y : Tr), i < a.length → a[i]? = some x → b[i]? = some y → x ∈ a → y ∈ b → step i = some (if (!q x y) = true then .inr e else .inl (IntKind.i64.wrap ((i : Int) + 1)))) (h2 : step a.length = some (.inr o)) :
    runLoop step 0 = some (if ((a.zip b).all fun p => q p.1 p.2) = true then o else e) := by
  have hz : (a.zip b).length = a.length := by rw [List.length_zip]; omega
  have := loop_any (a.zip b) step (fun p => !q p.1 p.2) e o (by rw [hz]; exact hl) (fun i p hi hp hm => by
    rw [hz] at hi
    have ha : a[i]? = some a[i] := List.getElem?_eq_getElem hi
    have hb : b[i]? = some b[i] := List.getElem?_eq_getElem (by omega)
    have : p = (a[i], b[i]) := by
      rw [List.getElem?_eq_getElem (by rw [hz]; exact hi)] at hp
      injection hp with hp
      rw [← hp, List.getElem_zip]
    subst this
    exact h1 i _ _ hi ha hb (List.getElem_mem _) (List.getElem_mem _)) (by rw [hz]; exact h2)
  rw [this, any_q q a b]
  cases (a.zip b).all fun p => q p.1 p.2 <;> rfl
theorem all_eqL0 : ∀ (a b : List Tr), a.length = b.length → ((a.zip b).all fun p => eqT p.1 p.2) = eqL a b
  | [], [], _ => rfl
  | [], _ :: _, h => by simp at h
  | _ :: _, [], h => by simp at h
  | x :: a, y :: b, h => by
    have ih := all_eqL0 a b (by simpa using h)
    rw [List.zip_cons_cons, List.all_cons, ih]; rfl
theorem eqL_len : ∀ (a b : List Tr), a.length ≠ b.length → eqL a b = false
  | [], [], h => by simp at h
  | [], _ :: _, _ => rfl
  | _ :: _, [], _ => rfl
  | x :: a, y :: b, h => by rw [eqL_cons, eqL_len a b (by simpa using h), Bool.and_false]
theorem same_lv : ∀ (k : Nat) (a b : Tr), Bd a → Bd b → SizeOf.sizeOf a < k → lv_centoref07_Same k a b = some (eqT a b)
  | 0, a, b, _, _, h => by omega
  | k + 1, a, b, ha, hb, hk => by
    have ih : ∀ x ∈ a.Kids, ∀ y ∈ b.Kids, lv_centoref07_Same k x y = some (eqT x y) := fun x hx y hy => same_lv k x y (ha.all x hx) (hb.all y hy) (by have := kid_lt hx; omega)
    have hw := ha.w
    have hkd := ha.k
    show b_centoref07_Same (lv_centoref07_Same k) a b = _
    unfold b_centoref07_Same
    rw [eqT_eq, sameW_ok (by omega), Option.bind_some, len_ne]
    by_cases h0 : a.Kind = b.Kind
    · have e0 : (a.Kind != b.Kind) = false := by simp [h0]
      have e1 : (a.Kind == b.Kind) = true := by simp [h0]
      rw [e0, e1, cond_false, cond_false, Option.bind_some, Bool.true_and]
      cases hw' : a.Words == b.Words with
      | false => rfl
      | true =>
        rw [Bool.not_true, cond_false, Bool.true_and]
        by_cases hab : a.Kids.length = b.Kids.length
        · have : (!(a.Kids.length == b.Kids.length)) = false := by simp [hab]
          rw [this, cond_false, loop_twoT a.Kids b.Kids eqT (b_centoref07_Same_L0 (lv_centoref07_Same k) a b) (.inl ()) (.inr ()) hab (by omega) (fun i x y hi hx hy hmx hmy => by
            unfold b_centoref07_Same_L0
            rw [lt_t hi, cond_true, getI_of hx, Option.bind_some, getI_of hy, Option.bind_some, ih x hmx y hmy, Option.bind_some]
            cases eqT x y <;> rfl) (by unfold b_centoref07_Same_L0; rw [lt_f]; rfl)]
          rw [all_eqL0 a.Kids b.Kids hab]
          cases eqL a.Kids b.Kids <;> rfl
        · have : (!(a.Kids.length == b.Kids.length)) = true := by simp [hab]
          rw [this, cond_true, eqL_len _ _ hab]
    · have e0 : (a.Kind != b.Kind) = true := by simp [h0]
      have e1 : (a.Kind == b.Kind) = false := by simp [h0]
      rw [e0, e1]; rfl
theorem same_ok {a b : Tr} (ha : Bd a) (hb : Bd b) : m_centoref07_Same a b = some (eqT a b) := lim_eq (SizeOf.sizeOf a + 1) fun k hk => same_lv k a b ha hb (by omega)
theorem requal_ok {a b : Tr} (ha : Bd a) (hb : Bd b) : m_centoref07_Equal a b = some (eqT (nrm a) (nrm b)) := by
  unfold m_centoref07_Equal
  rw [rnorm_ok ha, Option.bind_some, rnorm_ok hb, Option.bind_some, same_ok ha.nrm hb.nrm, Option.bind_some]
theorem nrm_null {t : Tr} (h : t.Kind = 0) : nrm t = ⟨0, [], []⟩ := by rw [nrm_eq, if_pos h]
theorem nrm_struct {t : Tr} (h : t.Kind = 1) : nrm t = ⟨1, tr (fun x => x == 0) t.Words, tr (fun x => x.Kind == 0) (t.Kids.map nrm)⟩ := by rw [nrm_eq, if_neg (by rw [h]; decide), if_pos h]
theorem nrm_list {t : Tr} (h0 : ¬ t.Kind = 0) (h1 : ¬ t.Kind = 1) : nrm t = ⟨t.Kind, t.Words, t.Kids.map nrm⟩ := by rw [nrm_eq, if_neg h0, if_neg h1]
theorem tr_sum {α : Type} (p : α → Bool) (f : α → Nat) : ∀ l : List α, ((tr p l).map f).sum ≤ (l.map f).sum
  | [] => by simp [tr]
  | x :: l => by
    have ih := tr_sum p f l
    simp only [tr]
    split
    · split <;> simp
    · rename_i y ys he
      rw [he] at ih
      simp only [List.map_cons, List.sum_cons] at ih ⊢
      omega
section
variable {A : S_arena_Arena}
theorem go_all {f : S_reader_Ref → Int → Tr × Int × Int} {g : Int → S_reader_Ref × Int} {Q : Tr → Prop} (hQ : ∀ i left, Q (f (g i).1 left).1) : ∀ (m i : Nat) (left : Int) (acc : List Tr), (∀ t ∈ acc, Q t) → (∀ t ∈ (kidsGo f g m i left acc).1, Q t) ∧ (kidsGo f g m i left acc).1.length ≤ acc.length + m
  | 0, i, left, acc, h => ⟨h, Nat.le_refl _⟩
  | m + 1, i, left, acc, h => by
    rw [kidsGo]
    split
    · exact ⟨h, by simp only; omega⟩
    split
    · exact ⟨h, by simp only; omega⟩
    · obtain ⟨h1, h2⟩ := go_all hQ m (i + 1) (f (g i).1 left).2.1 (acc ++ [(f (g i).1 left).1]) fun t ht => by
        rcases List.mem_append.1 ht with ht | ht
        · exact h t ht
        · rw [List.mem_singleton] at ht; subst ht; exact hQ i left
      exact ⟨h1, by rw [List.length_append, List.length_singleton] at h2; omega⟩
theorem numW_rg {w c j : Int} (hw : 0 ≤ w ∧ w < 18446744073709551616) : 0 ≤ numW w c j ∧ numW w c j < 18446744073709551616 := by
  unfold numW
  have h1 : w.toNat / 2 ^ (j * wdt c).toNat % 2 ^ (wdt c).toNat ≤ w.toNat / 2 ^ (j * wdt c).toNat := Nat.mod_le _ _
  have h2 : w.toNat / 2 ^ (j * wdt c).toNat ≤ w.toNat := Nat.div_le_self _ _
  omega
theorem wordsL_rg (hw : WS A.segments) (r : S_reader_Ref) : ∀ w ∈ wordsL A r, 0 ≤ w ∧ w < 18446744073709551616 := by
  unfold wordsL
  split
  · intro w hm
    rw [List.mem_singleton] at hm
    subst hm
    unfold numR
    split
    · omega
    · exact numW_rg (wd_rg hw _ _)
  split
  · exact fun w hm => seg_rg hw _ w (List.mem_of_mem_drop (List.mem_of_mem_take hm))
  · exact fun w hm => by cases hm
theorem wordsL_le {r : S_reader_Ref} (h : OKr A r) : (wordsL A r).length ≤ 65536 := by
  unfold wordsL
  cases h with
  | z => simp [r0]
  | st s a d p hd hp hin => simp only [show ¬ (1 : Int) = 10 from by decide, if_false, if_true, List.length_take]; omega
  | li k s a n hk hn hin => simp only; rw [if_neg (by omega), if_neg (by omega)]; simp
  | co => simp
  | at_ => simp
/-- trees that there can be -/
theorem mean_bd (hw : WS A.segments) : ∀ (d : Nat) r left, OKr A r → 0 ≤ left → left ≤ 65536 → Bd (mean A d r left).1 := fun d => by
  have key : ∀ (f : S_reader_Ref → Int → Tr × Int × Int), True := fun _ => trivial
  clear key
  have hst : ∀ (f : S_reader_Ref → Int → Tr × Int × Int), (∀ r left, OKr A r → Bd (f r left).1) → ∀ r left, OKr A r → r.ptrs ≤ 65536 → Bd (stK A f r left).1 := fun f hf r left hr hp => by
    unfold stK
    have := go_all (f := f) (g := kidR A r) (Q := Bd) (fun i left => hf _ left (kid_okr hr i)) r.ptrs.toNat 0 left [] (by simp)
    refine .mk _ (by simp only; have := wordsL_le hr; omega) (by simp only; have := this.2; simp only [List.length_nil] at this; omega) (wordsL_rg hw r) this.1
  have main : ∀ r left, OKr A r → Bd (mean A d r left).1 := by
    induction d using Nat.strongRecOn with
    | ind d ih =>
      intro r left hr
      have hbad : ∀ r left, Bd (bad r left).1 := fun r left => .mk _ (by simp [bad]) (by simp [bad]) (by simp [bad]) (by simp [bad])
      have hP : ∀ k, 1 ≤ k → ∀ r left, OKr A r → Bd (meanP A k d r left).1 := fun k hk r left hr => by
        unfold meanP
        split
        · exact ih _ (by omega) r left hr
        · exact hbad _ _
      rw [mean_eq]
      unfold meanB
      have hwl := wordsL_le hr
      split
      · exact .mk _ (by simp only; omega) (by simp) (wordsL_rg hw r) (by simp)
      split
      · exact .mk _ (by simp only; omega) (by simp) (wordsL_rg hw r) (by simp)
      · have hkn := kidsN_rg hr
        have hQ : ∀ (i : Int) left, Bd (kidF A (meanP A 1 d) (meanP A 2 d) r (kidR A r i).1 left).1 := fun i left => by
          unfold kidF
          split
          · rename_i k9
            have hkr := kid_okr hr i
            refine hst _ (fun r left hr => hP 2 (by omega) r left hr) _ _ hkr ?_
            cases hkr' : (kidR A r i).1 with
            | mk a b c d e f g h j =>
              rw [hkr'] at hkr
              cases hkr with
              | z => simp
              | st s a d p hd hp hin => simp only; omega
              | li k s a n hk => simp
              | co s a d p n hd hp hn => simp only; omega
              | at_ => simp
          split
          · exact hP 1 (by omega) _ _ (kid_okr hr i)
          · unfold atomK
            have := wordsL_le (kid_okr hr i)
            exact .mk _ (by simp only; omega) (by simp) (wordsL_rg hw _) (by simp)
        have := go_all (f := kidF A (meanP A 1 d) (meanP A 2 d) r) (g := kidR A r) (Q := Bd) hQ (kidsN r).toNat 0 (left - wtR r) [] (by simp)
        refine .mk _ (by simp only; omega) ?_ (wordsL_rg hw r) this.1
        have h2 := this.2
        simp only [List.length_nil] at h2 ⊢
        omega
  exact fun r left hr _ _ => main r left hr
end

section
variable {A : S_arena_Arena}
end

section
variable {A : S_arena_Arena}
/-- what a message means -/
theorem unfW_or (x : S_api_Limits) : ((unfW A x).2.2 ≠ 0 ∧ (unfW A x).1 = ⟨0, [], []⟩ ∧ (chkW A x).2 = (unfW A x).2.2) ∨ ((unfW A x).2.2 = 0 ∧ (chkW A x).2 = 0 ∧ (atR A 0 0).2 = 0 ∧ (mean A (lims x).Depth.toNat (atR A 0 0).1 (lims x).Weight).2.2 = 0 ∧ (unfW A x).1 = (mean A (lims x).Depth.toNat (atR A 0 0).1 (lims x).Weight).1) := by
  have hc : (chkW A x).2 = (unfW A x).2.2 := by rw [← unf_chk]
  unfold unfW at hc ⊢
  by_cases h : (atR A 0 0).2 ≠ 0
  · rw [if_pos h] at hc ⊢
    exact .inl ⟨h, rfl, hc⟩
  rw [if_neg h] at hc ⊢
  simp only at hc ⊢
  by_cases hq : (mean A (lims x).Depth.toNat (atR A 0 0).1 (lims x).Weight).2.2 ≠ 0
  · rw [if_pos hq] at hc ⊢
    exact .inl ⟨hq, rfl, hc⟩
  · rw [if_neg hq] at hc ⊢
    exact .inr ⟨rfl, hc, by omega, by omega, rfl⟩
theorem lims_d (x : S_api_Limits) : (lims x).Depth.toNat ≤ 64 ∧ 0 ≤ (lims x).Weight ∧ (lims x).Weight ≤ 65536 := by
  have hd : 0 ≤ (lims x).Depth ∧ (lims x).Depth ≤ 64 := clamp_rg _ _ (by decide)
  have hW : 0 ≤ (lims x).Weight ∧ (lims x).Weight ≤ 65536 := clamp_rg _ _ (by decide)
  omega
theorem unfW_bd (hw : WS A.segments) (x : S_api_Limits) : Bd (unfW A x).1 := by
  have hl := lims_d x
  rcases unfW_or (A := A) x with ⟨h1, h2, h3⟩ | ⟨h1, h2, h3, h4, h5⟩
  · rw [h2]; exact .mk _ (by simp) (by simp) (by simp) (by simp)
  · rw [h5]; exact mean_bd hw _ _ _ (at_okr 0 0) hl.2.1 hl.2.2
end
section
variable {A : S_arena_Arena}
theorem kid_st {r : S_reader_Ref} (h : r.kind = 9) {i : Int} (hi : 0 ≤ i ∧ i < kidsN r) : kidR A r i = (⟨some A, 1, r.segment, r.at_ + 1 + i * (r.words + r.ptrs), r.words, r.ptrs, 0, 0, 0⟩, 0) := by
  unfold kidR
  rw [if_neg (by omega), if_neg (by omega), if_neg (by omega), if_pos h]
theorem kid_at {r : S_reader_Ref} (h : 2 ≤ r.kind ∧ r.kind ≤ 7) {i : Int} (hi : 0 ≤ i ∧ i < kidsN r) : kidR A r i = (⟨some A, 10, r.segment, r.at_, 0, 0, 0, r.kind - 2, i⟩, 0) := by
  unfold kidR
  rw [if_neg (by omega), if_neg (by omega), if_neg (by omega), if_neg (by omega)]
end

/-- kids put to a state one after the other, each with its place -/
def foldI {α σ : Type} (f : σ → Nat → α → σ) : σ → Nat → List α → σ
  | s, _, [] => s
  | s, i, x :: xs => foldI f (f s i x) (i + 1) xs
theorem loop_I {α σ S R : Type} (xs : List α) (pack : Int → σ → S) (out : σ → R) (step : S → Option (S ⊕ R)) (f : σ → Nat → α → σ) (I : Nat → σ → Prop) (hl : (xs.length : Int) ≤ 140737488355328)
    (h1 : ∀ (i : Nat) (s : σ) (x : α), i < xs.length → xs[i]? = some x → x ∈ xs → I i s → step (pack i s) = some (.inl (pack (IntKind.i64.wrap ((i : Int) + 1)) (f s i x))) ∧ I (i + 1) (f s i x))
    (h2 : ∀ s, I xs.length s → step (pack xs.length s) = some (.inr (out s))) (s : σ) (h0 : I 0 s) : runLoop step (pack 0 s) = some (out (foldI f s 0 xs)) ∧ I xs.length (foldI f s 0 xs) := by
  have key : ∀ (l pre : List α) (s : σ), xs = pre ++ l → I pre.length s → runLoop step (pack (pre.length : Nat) s) = some (out (foldI f s pre.length l)) ∧ I xs.length (foldI f s pre.length l) := fun l => by
    induction l with
    | nil =>
      intro pre s hp hi
      rw [List.append_nil] at hp
      subst hp
      exact ⟨runLoop_end (h2 s hi), hi⟩
    | cons x l ih =>
      intro pre s hp hI
      have hx : xs[pre.length]? = some x := by rw [hp, List.getElem?_append_right (Nat.le_refl _), Nat.sub_self]; rfl
      have hi : pre.length < xs.length := by rw [hp]; simp
      obtain ⟨a, b⟩ := h1 pre.length s x hi hx (List.mem_of_getElem? hx) hI
      rw [i64s (by omega) (by omega)] at a
      have := ih (pre ++ [x]) (f s pre.length x) (by rw [hp]; simp) (by rw [List.length_append, List.length_singleton]; exact b)
      rw [List.length_append, List.length_singleton] at this
      exact ⟨(runLoop_step a).trans this.1, this.2⟩
  exact key xs [] s rfl h0
/-- parts of a tree -/
def nd (t : Tr) : Nat := 1 + (t.Kids.attach.map fun k => nd k.1).sum
termination_by SizeOf.sizeOf t
decreasing_by exact kid_lt k.2
theorem nd_eq (t : Tr) : nd t = 1 + (t.Kids.map nd).sum := by
  rw [nd]
  simp
def ndl (l : List Tr) : Nat := (l.map nd).sum
theorem ndl_app (l : List Tr) (x : Tr) : ndl (l ++ [x]) = ndl l + nd x := by simp [ndl]
/-- a value means a tree -/
inductive Mn (A : S_arena_Arena) : S_reader_Ref → Tr → Prop
  | mk {r : S_reader_Ref} {t : Tr} (hr : OKr A r) (hk : t.Kind = r.kind) (hw : t.Words = wordsL A r) (hl : (t.Kids.length : Int) = kidsN r) (he : ∀ (i : Nat) (x : Tr), t.Kids[i]? = some x → (kidR A r i).2 = 0) (h : ∀ (i : Nat) (x : Tr), t.Kids[i]? = some x → Mn A (kidR A r i).1 x) : Mn A r t
section
variable {A : S_arena_Arena}
theorem go_mn {f : S_reader_Ref → Int → Tr × Int × Int} {g : Int → S_reader_Ref × Int} {e : Int} {n : Nat}
    (hQ : ∀ (i : Nat) (l : Int), i < n → 0 ≤ l → (g i).2 = 0 → (f (g i).1 l).2.2 = 0 → Mn A (g i).1 (f (g i).1 l).1 ∧ (nd (f (g i).1 l).1 : Int) ≤ e + (l - (f (g i).1 l).2.1) ∧ 0 ≤ (f (g i).1 l).2.1) :
    ∀ (m i : Nat) (left : Int) (acc : List Tr), i + m = n → 0 ≤ left → acc.length = i → (∀ (j : Nat) x, acc[j]? = some x → (g j).2 = 0 ∧ Mn A (g j).1 x) → (kidsGo f g m i left acc).2.2 = 0 →
      (kidsGo f g m i left acc).1.length = n ∧ (∀ (j : Nat) x, (kidsGo f g m i left acc).1[j]? = some x → (g j).2 = 0 ∧ Mn A (g j).1 x) ∧ (ndl (kidsGo f g m i left acc).1 : Int) ≤ ndl acc + (m : Int) * e + (left - (kidsGo f g m i left acc).2.1)
  | 0, i, left, acc, hi, h0, ha, hA, h => by
    refine ⟨by simp only [kidsGo]; omega, by simp only [kidsGo]; exact hA, ?_⟩
    simp only [kidsGo]
    omega
  | m + 1, i, left, acc, hi, h0, ha, hA, h => by
    rw [kidsGo] at h ⊢
    by_cases h1 : (g i).2 ≠ 0
    · rw [if_pos h1] at h; exact absurd h h1
    rw [if_neg h1] at h ⊢
    by_cases h2 : (f (g i).1 left).2.2 ≠ 0
    · rw [if_pos h2] at h; exact absurd h h2
    rw [if_neg h2] at h ⊢
    obtain ⟨a1, a2, a3⟩ := hQ i left (by omega) h0 (by omega) (by omega)
    obtain ⟨b1, b2, b3⟩ := go_mn hQ m (i + 1) _ _ (by omega) a3 (by rw [List.length_append, ha]; rfl) (fun j x hx => by
      rcases Nat.lt_or_ge j acc.length with hj | hj
      · rw [List.getElem?_append_left hj] at hx; exact hA j x hx
      · rw [List.getElem?_append_right hj] at hx
        have hj0 : j - acc.length = 0 := by
          rcases Nat.eq_zero_or_pos (j - acc.length) with q | q
          · exact q
          · rw [List.getElem?_eq_none (by simp; omega)] at hx; cases hx
        rw [hj0] at hx
        simp only [List.getElem?_cons_zero, Option.some.injEq] at hx
        subst hx
        have : j = i := by omega
        subst this
        exact ⟨by omega, a1⟩) h
    refine ⟨b1, b2, ?_⟩
    rw [ndl_app] at b3
    have : (((m + 1 : Nat)) : Int) * e = (m : Int) * e + e := by rw [show ((m + 1 : Nat) : Int) = (m : Int) + 1 from rfl, Int.add_mul, Int.one_mul]
    rw [this]
    omega
/-- what stands for a value means it -/
def HM (A : S_arena_Arena) (f : S_reader_Ref → Int → Tr × Int × Int) : Prop := ∀ k left, OKr A k → 0 ≤ left → (f k left).2.2 = 0 → Mn A k (f k left).1 ∧ (nd (f k left).1 : Int) ≤ 1 + (left - (f k left).2.1) ∧ 0 ≤ (f k left).2.1
theorem hm_bad : HM A bad := fun k left _ _ h => by simp [bad] at h
theorem mn_kids {f : S_reader_Ref → Int → Tr × Int × Int} {e : Int} {r : S_reader_Ref} (hr : OKr A r) {left : Int} (h0 : 0 ≤ left)
    (hQ : ∀ (i : Nat) (l : Int), i < (kidsN r).toNat → 0 ≤ l → (kidR A r i).2 = 0 → (f (kidR A r i).1 l).2.2 = 0 → Mn A (kidR A r i).1 (f (kidR A r i).1 l).1 ∧ (nd (f (kidR A r i).1 l).1 : Int) ≤ e + (l - (f (kidR A r i).1 l).2.1) ∧ 0 ≤ (f (kidR A r i).1 l).2.1)
    (h : (kidsGo f (kidR A r) (kidsN r).toNat 0 left []).2.2 = 0) :
    Mn A r ⟨r.kind, wordsL A r, (kidsGo f (kidR A r) (kidsN r).toNat 0 left []).1⟩ ∧ (nd ⟨r.kind, wordsL A r, (kidsGo f (kidR A r) (kidsN r).toNat 0 left []).1⟩ : Int) ≤ 1 + kidsN r * e + (left - (kidsGo f (kidR A r) (kidsN r).toNat 0 left []).2.1) := by
  have hkn := kidsN_rg hr
  obtain ⟨a1, a2, a3⟩ := go_mn hQ (kidsN r).toNat 0 left [] (by omega) h0 rfl (fun j x hx => by simp at hx) h
  refine ⟨.mk hr rfl rfl ?_ (fun i x hx => (a2 i x hx).1) (fun i x hx => (a2 i x hx).2), ?_⟩
  · show ((kidsGo f (kidR A r) (kidsN r).toNat 0 left []).1.length : Int) = kidsN r
    rw [a1]
    omega
  · rw [nd_eq]
    simp only
    rw [show (((kidsN r).toNat : Nat) : Int) = kidsN r by omega] at a3
    unfold ndl at a3
    simp only [List.map_nil, List.sum_nil] at a3
    omega
theorem hm_mean (hw : WS A.segments) : ∀ d, HM A (mean A d) := fun d => by
  induction d using Nat.strongRecOn with
  | ind d ih =>
    intro r left hr h0 h
    have hP : ∀ k, 1 ≤ k → HM A (meanP A k d) := fun k hk => by
      unfold meanP
      split
      · exact ih _ (by omega)
      · exact hm_bad
    have hlf := lf_mean hw d r left hr h0 h
    refine (fun (q : Mn A r (mean A d r left).1 ∧ (nd (mean A d r left).1 : Int) ≤ 1 + (left - (mean A d r left).2.1)) => ⟨q.1, q.2, hlf.1⟩) ?_
    have hwt := wt_rg hw hr
    have hkn := kidsN_rg hr
    rw [mean_eq] at h hlf ⊢
    unfold meanB at h hlf ⊢
    by_cases k0 : r.kind = 0
    · rw [if_pos k0]
      have hz : kidsN r = 0 := by
        cases hr with
        | z => rfl
        | st => simp at k0
        | li k s a n hk => simp only at k0; omega
        | co => simp at k0
        | at_ => simp at k0
      refine ⟨.mk hr rfl rfl (by simp [hz]) (fun i x hx => by simp at hx) (fun i x hx => by simp at hx), ?_⟩
      rw [nd_eq]
      simp
    rw [if_neg k0] at h hlf ⊢
    by_cases hb : d < lvR r ∨ left < wtR r
    · rw [if_pos hb] at h; simp at h
    rw [if_neg hb] at h hlf ⊢
    simp only at h hlf ⊢
    by_cases k9 : r.kind = 9
    · have ef : kidF A (meanP A 1 d) (meanP A 2 d) r = stK A (meanP A 2 d) := by unfold kidF; rw [if_pos k9]
      rw [ef] at h hlf ⊢
      have ew : wtR r = 1 + r.count * (1 + r.words + r.ptrs) := by unfold wtR; rw [if_neg k0, if_neg (by omega), if_pos k9]
      have ekn : kidsN r = r.count := by unfold kidsN; rw [if_neg (by omega)]
      have hrg : 0 ≤ r.words ∧ 0 ≤ r.ptrs := by
        cases hr with
        | z => simp [r0] at k0
        | st => simp at k9
        | li k s a n hk => simp only at k9; omega
        | co s a d' p n hd hp => simp only; omega
        | at_ => simp at k9
      obtain ⟨m1, m2⟩ := mn_kids (e := 1 + r.ptrs) hr (left := left - wtR r) (by omega) (fun i l hi hl g0 e0 => by
        have hks := kid_st (A := A) k9 (i := (i : Int)) (by omega)
        have hko := kid_okr hr (i : Int)
        have e1 : (kidR A r (i : Int)).1.kind = 1 := by rw [hks]
        have e3 : (kidR A r (i : Int)).1.ptrs = r.ptrs := by rw [hks]
        have ek : kidsN (kidR A r (i : Int)).1 = r.ptrs := by unfold kidsN; rw [if_pos e1, e3]
        unfold stK at e0 ⊢
        simp only at e0 ⊢
        rw [e3, ← ek] at e0 ⊢
        have hgl := go_left (lf_meanP hw 2 d) (fun i' => kid_okr hko i') _ _ _ [] hl e0
        obtain ⟨n1, n2⟩ := mn_kids (f := meanP A 2 d) (e := 1) hko hl (fun i' l' hi' hl' g0' e0' => hP 2 (by omega) _ _ (kid_okr hko i') hl' e0') e0
        rw [e1] at n1 n2
        rw [ek] at n1 n2 hgl ⊢
        exact ⟨n1, by omega, hgl.1⟩) h
      refine ⟨m1, ?_⟩
      have : kidsN r * (1 + r.ptrs) ≤ r.count * (1 + r.words + r.ptrs) := by
        rw [ekn]
        exact Int.mul_le_mul_of_nonneg_left (by omega) (by omega)
      omega
    · by_cases k18 : r.kind = 1 ∨ r.kind = 8
      · have ef : kidF A (meanP A 1 d) (meanP A 2 d) r = meanP A 1 d := by unfold kidF; rw [if_neg k9, if_pos k18]
        rw [ef] at h hlf ⊢
        obtain ⟨m1, m2⟩ := mn_kids (e := 1) hr (left := left - wtR r) (by omega) (fun i l hi hl g0 e0 => hP 1 (by omega) _ _ (kid_okr hr i) hl e0) h
        refine ⟨m1, ?_⟩
        have : 1 + kidsN r ≤ wtR r := by
          unfold wtR kidsN
          rw [if_neg k0]
          by_cases k1 : r.kind = 1
          · rw [if_pos k1, if_pos k1]
            cases hr with
            | z => simp [r0] at k0
            | st s a d' p hd hp => simp only; omega
            | li k s a n hk => simp only at k1; omega
            | co s a d' p n hd hp => simp at k1
            | at_ => simp at k1
          · rw [if_neg k1, if_neg k9, if_neg k1]
            omega
        omega
      · have ef : kidF A (meanP A 1 d) (meanP A 2 d) r = atomK A := by unfold kidF; rw [if_neg k9, if_neg k18]
        rw [ef] at h hlf ⊢
        have hnn : kidsN r = 0 ∨ 2 ≤ r.kind ∧ r.kind ≤ 7 := by
          cases hr with
          | z => exact .inl rfl
          | st => simp at k18
          | li k s a n hk => simp only at k18 ⊢; exact .inr (by omega)
          | co => simp at k9
          | at_ => exact .inl rfl
        obtain ⟨m1, m2⟩ := mn_kids (f := atomK A) (e := 1) hr (left := left - wtR r) (by omega) (fun i l hi hl g0 e0 => by
          have hks := kid_at (A := A) (r := r) (by omega) (i := (i : Int)) (by omega)
          have e2 : kidsN (kidR A r (i : Int)).1 = 0 := by rw [hks]; rfl
          refine ⟨.mk (kid_okr hr i) rfl rfl (by simp [atomK, e2]) (fun i x hx => by simp [atomK] at hx) (fun i x hx => by simp [atomK] at hx), ?_, hl⟩
          rw [nd_eq]
          simp [atomK]) h
        refine ⟨m1, ?_⟩
        have : 1 + kidsN r ≤ wtR r := by
          unfold wtR kidsN
          rw [if_neg k0, if_neg (by omega), if_neg (by omega), if_neg k9]
          omega
        omega
end

theorem trN_len {α : Type} (p : α → Bool) (l : List α) : trN p l l.length = (tr p l).length := by
  obtain ⟨h1, h2⟩ := trN_tr (p := p) (l := l) l.length (Nat.le_refl _)
  rw [List.take_length] at h1
  rw [← h1, List.length_take]
  omega
theorem loop_trG {α R : Type} (l : List α) (p : α → Bool) (step : Int → Option (Int ⊕ R)) (g : Nat → R)
    (h0 : step 0 = some (.inr (g 0))) (h1 : ∀ (n : Nat) (x : α), l[n]? = some x → n < l.length → step ((n + 1 : Nat) : Int) = some (if p x = true then .inl (n : Int) else .inr (g (n + 1)))) : runLoop step (l.length : Int) = some (g (tr p l).length) := by
  have key : ∀ n : Nat, n ≤ l.length → runLoop step (n : Int) = some (g (trN p l n)) := fun n => by
    induction n with
    | zero => intro _; exact runLoop_end h0
    | succ n ih =>
      intro hn
      have hx : l[n]? = some l[n] := List.getElem?_eq_getElem (by omega)
      have h := h1 n _ hx (by omega)
      unfold trN
      rw [hx]
      simp only
      split
      · rename_i hp
        rw [if_pos hp] at h
        rw [runLoop_step h]
        exact ih (by omega)
      · rename_i hp
        rw [if_neg hp] at h
        exact runLoop_end h
  rw [← trN_len]
  exact key l.length (Nat.le_refl _)
section
variable {A B : S_arena_Arena}
theorem Mn.ok {r : S_reader_Ref} {t : Tr} (h : Mn A r t) : OKr A r := by cases h; assumption
theorem Mn.kd {r : S_reader_Ref} {t : Tr} (h : Mn A r t) : t.Kind = r.kind := by cases h; assumption
theorem Mn.wd {r : S_reader_Ref} {t : Tr} (h : Mn A r t) : t.Words = wordsL A r := by cases h; assumption
theorem Mn.ln {r : S_reader_Ref} {t : Tr} (h : Mn A r t) : (t.Kids.length : Int) = kidsN r := by cases h; assumption
theorem Mn.er {r : S_reader_Ref} {t : Tr} (h : Mn A r t) : ∀ (i : Nat) (x : Tr), t.Kids[i]? = some x → (kidR A r i).2 = 0 := by cases h; assumption
theorem Mn.kid {r : S_reader_Ref} {t : Tr} (h : Mn A r t) : ∀ (i : Nat) (x : Tr), t.Kids[i]? = some x → Mn A (kidR A r i).1 x := by cases h; assumption
theorem long_ok (hw : WS A.segments) {r : S_reader_Ref} (h : OKr A r) : m_copy_Long r = some ((tr (fun x => x == 0) (wordsL A r)).length : Int) := by
  have hl := wordsL_len hw h
  have hle := wordsL_le h
  have hloop := loop_trG (wordsL A r) (fun x => x == 0) (m_copy_Long_L0 r) (fun n => (n : Int)) rfl (fun n x hx hn => by
    unfold m_copy_Long_L0
    rw [gt_t, cond_true, i64s (by omega) (by omega), show ((n + 1 : Nat) : Int) - 1 = (n : Int) by omega, word_ok hw h, Option.bind_some]
    have : wordR A r n = x := by
      rw [← wordsL_at hw h hn]
      rw [List.getElem?_eq_getElem hn] at hx
      injection hx
    rw [this]
    simp only [Option.bind_some, cond_true]
    cases x == 0 <;> rfl)
  unfold m_copy_Long
  rw [rWords_ok, ← hl, Option.bind_some, hloop]
  rfl
theorem tr_getw {p : Int → Bool} {l : List Int} {i : Nat} (hi : i < (tr p l).length) : ∃ h : i < l.length, (tr p l)[i]? = some (l[i]'h) := by
  have h := tr_take p l
  have hl := tr_len p l
  refine ⟨by omega, ?_⟩
  rw [← h, List.getElem?_take, if_pos hi, List.getElem?_eq_getElem (by omega)]
theorem sameWords_ok (hA : WS A.segments) (hB : WS B.segments) {a b : S_reader_Ref} (ha : OKr A a) (hb : OKr B b) : m_equal_sameWords a b = some (tr (fun x => x == 0) (wordsL A a) == tr (fun x => x == 0) (wordsL B b)) := by
  have hle := wordsL_le ha
  have htl := tr_len (fun x : Int => x == 0) (wordsL A a)
  unfold m_equal_sameWords
  rw [long_ok hA ha, Option.bind_some, long_ok hB hb, Option.bind_some, len_ne]
  by_cases hl : (tr (fun x => x == 0) (wordsL B b)).length = (tr (fun x => x == 0) (wordsL A a)).length
  · rw [show (!((tr (fun x => x == 0) (wordsL B b)).length == (tr (fun x => x == 0) (wordsL A a)).length)) = false by simp [hl], cond_false]
    rw [loop_two (tr (fun x => x == 0) (wordsL A a)) (tr (fun x => x == 0) (wordsL B b)) (m_equal_sameWords_L0 a b ((tr (fun x => x == 0) (wordsL A a)).length : Int)) (.inl ()) (.inr ()) hl.symm (by omega) (fun i x y hi hx hy => by
      unfold m_equal_sameWords_L0
      obtain ⟨i1, e1⟩ := tr_getw hi
      obtain ⟨i2, e2⟩ := tr_getw (l := wordsL B b) (p := fun x => x == 0) (i := i) (by omega)
      rw [e1] at hx
      rw [e2] at hy
      injection hx with hx
      injection hy with hy
      rw [lt_t hi, cond_true, word_ok hA ha, Option.bind_some, word_ok hB hb, Option.bind_some, ← wordsL_at hA ha i1, ← wordsL_at hB hb i2, hx, hy]
      cases x != y <;> rfl) (by unfold m_equal_sameWords_L0; rw [lt_f]; rfl)]
    cases tr (fun x => x == 0) (wordsL A a) == tr (fun x => x == 0) (wordsL B b) <;> rfl
  · rw [show (!((tr (fun x => x == 0) (wordsL B b)).length == (tr (fun x => x == 0) (wordsL A a)).length)) = true by simp [hl], cond_true, beq_len (fun q => hl q.symm)]
theorem wide_okR (hw : WS A.segments) {r : S_reader_Ref} {t : Tr} (h : Mn A r t) : m_copy_Wide r = some (((tr (fun x => x.Kind == 0) t.Kids).length : Int), 0) := by
  have hl := h.ln
  have hkn := kidsN_rg h.ok
  have hloop := loop_trG (R := (Int × Int) ⊕ Unit) t.Kids (fun x => x.Kind == 0) (m_copy_Wide_L0 r) (fun n => match n with | 0 => .inr () | n + 1 => .inl (((n + 1 : Nat) : Int), 0)) rfl (fun n x hx hn => by
    have e1 := h.er n x hx
    have e2 := (h.kid n x hx).kd
    unfold m_copy_Wide_L0
    rw [gt_t, cond_true, i64s (by omega) (by omega), show ((n + 1 : Nat) : Int) - 1 = (n : Int) by omega, kid_ok hw h.ok, Option.bind_some, e1, show ((0 : Int) != 0) = false from rfl, cond_false, show m_reader_Ref_Kind (kidR A r n).1 = some (kidR A r n).1.kind from rfl, Option.bind_some, cond_false, Option.bind_some, ← e2]
    rcases Bool.eq_false_or_eq_true (x.Kind == 0) with q | q
    · rw [show (x.Kind != 0) = false by unfold bne; rw [q]; rfl, cond_false, if_pos q]
    · rw [show (x.Kind != 0) = true by unfold bne; rw [q]; rfl, cond_true, if_neg (by rw [q]; decide)])
  unfold m_copy_Wide
  rw [rKids_ok, ← hl, Option.bind_some, hloop]
  cases (tr (fun x => x.Kind == 0) t.Kids).length <;> rfl
/-- kids that count -/
def tk (t : Tr) : List Tr := if t.Kind = 1 then tr (fun x => x.Kind == 0) t.Kids else t.Kids
theorem tk_pre (t : Tr) {i : Nat} {x : Tr} (h : (tk t)[i]? = some x) : t.Kids[i]? = some x := by
  unfold tk at h
  split at h
  · rw [← tr_take, List.getElem?_take] at h
    split at h
    · exact h
    · cases h
  · exact h
theorem tk_mem {t x : Tr} (h : x ∈ tk t) : x ∈ t.Kids := by
  unfold tk at h
  split at h
  · exact tr_mem h
  · exact h
theorem ndl_tk (t : Tr) : ndl (tk t) + 1 ≤ nd t := by
  rw [nd_eq]
  unfold ndl tk
  split
  · have := tr_sum (fun x : Tr => x.Kind == 0) nd t.Kids
    omega
  · omega
theorem ekids_ok (hw : WS A.segments) {r : S_reader_Ref} {t : Tr} (h : Mn A r t) : m_equal_kids r = some (((tk t).length : Int), 0) := by
  have hk := h.kd
  unfold m_equal_kids tk
  rw [show m_reader_Ref_Kind r = some r.kind from rfl, Option.bind_some, ← hk]
  by_cases h1 : t.Kind = 1
  · rw [show (t.Kind != 1) = false from by rw [h1]; rfl, cond_false, wide_okR hw h, if_pos h1]
    rfl
  · rw [show (t.Kind != 1) = true from bne_iff_ne.2 h1, cond_true, rKids_ok, if_neg h1, h.ln]
    rfl
/-- do both mean the same? -/
def eqv (t u : Tr) : Bool := eqT (nrm t) (nrm u)
theorem eqv_kind {t u : Tr} (h : t.Kind ≠ u.Kind) : eqv t u = false := by
  unfold eqv
  rw [eqT_eq, nrm_kind, nrm_kind, beq_eq_false_iff_ne.2 h]
  rfl
theorem Mn.w0 {r : S_reader_Ref} {t : Tr} (h : Mn A r t) (h1 : t.Kind ≠ 1) (h10 : t.Kind ≠ 10) : t.Words = [] := by
  rw [h.wd]
  unfold wordsL
  rw [← h.kd, if_neg h10, if_neg h1]
theorem Mn.w1 {r : S_reader_Ref} {t : Tr} (h : Mn A r t) (h10 : t.Kind = 10) : ∃ x, t.Words = [x] := by
  rw [h.wd]
  unfold wordsL
  rw [← h.kd, if_pos h10]
  exact ⟨_, rfl⟩
theorem Mn.k0 {r : S_reader_Ref} {t : Tr} (h : Mn A r t) (h0 : t.Kind = 0) : t.Kids = [] := by
  have hl := h.ln
  have hz : kidsN r = 0 := by
    have hk := h.kd
    have hr := h.ok
    cases hr with
    | z => rfl
    | st => simp at hk; omega
    | li k s a n hk' => simp only at hk; omega
    | co => simp at hk; omega
    | at_ => simp at hk; omega
  exact List.eq_nil_of_length_eq_zero (by omega)
theorem tr_one (x y : Int) : (tr (fun x => x == 0) [x] == tr (fun x => x == 0) [y]) = ([x] == [y]) := by
  have e : ∀ x : Int, tr (fun x => x == 0) [x] = if x = 0 then [] else [x] := fun x => by
    rw [tr_cons_nil (l := []) rfl]
    simp only [beq_iff_eq]
  rw [e, e]
  by_cases hx : x = 0
  · by_cases hy : y = 0
    · rw [if_pos hx, if_pos hy, hx, hy]; rfl
    · rw [if_pos hx, if_neg hy, hx]
      rw [Bool.eq_iff_iff, beq_iff_eq, beq_iff_eq]
      exact ⟨fun q => by (cases q), fun q => by injection q with q; exact absurd q.symm hy⟩
  · by_cases hy : y = 0
    · rw [if_neg hx, if_pos hy, hy]
      rw [Bool.eq_iff_iff, beq_iff_eq, beq_iff_eq]
      exact ⟨fun q => by (cases q), fun q => by injection q with q; exact absurd q hx⟩
    · rw [if_neg hx, if_neg hy]
theorem eqv_eq {a b : S_reader_Ref} {t u : Tr} (ha : Mn A a t) (hb : Mn B b u) (hk : t.Kind = u.Kind) : eqv t u = ((tr (fun x => x == 0) t.Words == tr (fun x => x == 0) u.Words) && eqL ((tk t).map nrm) ((tk u).map nrm)) := by
  unfold eqv
  rw [eqT_eq, nrm_kind, nrm_kind, beq_iff_eq.2 hk, Bool.true_and]
  by_cases h0 : t.Kind = 0
  · have h0' : u.Kind = 0 := hk ▸ h0
    rw [nrm_null h0, nrm_null h0', ha.w0 (by omega) (by omega), hb.w0 (by omega) (by omega)]
    unfold tk
    rw [if_neg (by omega), if_neg (by omega), ha.k0 h0, hb.k0 h0']
    rfl
  by_cases h1 : t.Kind = 1
  · have h1' : u.Kind = 1 := hk ▸ h1
    have q1 : ∀ l : List Tr, tr (fun x : Tr => x.Kind == 0) (l.map nrm) = (tr (fun x : Tr => x.Kind == 0) l).map nrm := tr_map (fun x => by rw [nrm_kind])
    rw [nrm_struct h1, nrm_struct h1']
    unfold tk
    rw [if_pos h1, if_pos h1', q1, q1]
  have h0' : ¬ u.Kind = 0 := fun q => h0 (hk.trans q)
  have h1' : ¬ u.Kind = 1 := fun q => h1 (hk.trans q)
  rw [nrm_list h0 h1, nrm_list h0' h1']
  unfold tk
  rw [if_neg h1, if_neg h1']
  by_cases h10 : t.Kind = 10
  · obtain ⟨x, ex⟩ := ha.w1 h10
    obtain ⟨y, ey⟩ := hb.w1 (hk ▸ h10)
    rw [ex, ey, tr_one]
  · rw [ha.w0 h1 h10, hb.w0 h1' (fun q => h10 (hk.trans q))]
    rfl
end

section
variable {A B : S_arena_Arena}
theorem eqk_loop (hA : WS A.segments) (hB : WS B.segments) {F : S_equal_comparer → S_reader_Ref → S_reader_Ref → Option (Bool × Int × S_equal_comparer)} {a b : S_reader_Ref} (ha : OKr A a) (hb : OKr B b) {n : Nat} (hn : n ≤ 1073741824) :
    ∀ (ks ls : List Tr) (i : Nat) (c : Int), n = i + ks.length → ks.length = ls.length → (∀ (j : Nat) x, ks[j]? = some x → (kidR A a ((i + j : Nat) : Int)).2 = 0 ∧ Mn A (kidR A a ((i + j : Nat) : Int)).1 x) → (∀ (j : Nat) x, ls[j]? = some x → (kidR B b ((i + j : Nat) : Int)).2 = 0 ∧ Mn B (kidR B b ((i + j : Nat) : Int)).1 x) →
      (∀ x ∈ ks, ∀ p q y (c : Int), Mn A p x → Mn B q y → (nd x : Int) ≤ c → c ≤ 70000 → ∃ c', F ⟨c⟩ p q = some (eqv x y, 0, ⟨c'⟩) ∧ c - nd x ≤ c' ∧ c' ≤ c) → (ndl ks : Int) ≤ c → c ≤ 70000 →
      ∃ c', runLoop (b_equal_comparer_sameKids_L0 F a b (n : Int)) ((i : Int), c) = some (if eqL (ks.map nrm) (ls.map nrm) = true then .inr c' else .inl (0, c')) ∧ c - ndl ks ≤ c' ∧ c' ≤ c
  | [], [], i, c, hi, _, _, _, _, hc, hc2 => by
    refine ⟨c, ?_, by omega, Int.le_refl _⟩
    refine runLoop_end ?_
    unfold b_equal_comparer_sameKids_L0
    simp only [List.length_nil, Nat.add_zero] at hi
    subst hi
    simp only
    rw [lt_f, cond_false]
    rfl
  | [], y :: ls, i, c, hi, hl, _, _, _, hc, hc2 => by simp at hl
  | x :: ks, [], i, c, hi, hl, _, _, _, hc, hc2 => by simp at hl
  | x :: ks, y :: ls, i, c, hi, hl, hk, hk', ih, hc, hc2 => by
    obtain ⟨a1, a2⟩ := hk 0 x rfl
    obtain ⟨b1, b2⟩ := hk' 0 y rfl
    rw [Nat.add_zero] at a1 a2 b1 b2
    have hnd : (ndl (x :: ks) : Int) = nd x + ndl ks := by unfold ndl; rw [List.map_cons, List.sum_cons]; omega
    rw [hnd] at hc ⊢
    obtain ⟨c1, e1, l1, l2⟩ := ih x (.head _) _ _ y c a2 b2 (by omega) hc2
    simp only [List.length_cons] at hi hl
    have hs : b_equal_comparer_sameKids_L0 F a b (n : Int) ((i : Int), c) = some (if eqv x y = true then .inl (((i + 1 : Nat) : Int), c1) else .inr (.inl (0, c1))) := by
      unfold b_equal_comparer_sameKids_L0
      simp only
      rw [lt_t (by omega), cond_true, kid_ok hA ha, Option.bind_some, a1, show ((0 : Int) != 0) = false from rfl, cond_false, kid_ok hB hb, Option.bind_some, b1, show ((0 : Int) != 0) = false from rfl, cond_false, e1, Option.bind_some]
      simp only
      rw [show ((0 : Int) != 0) = false from rfl, i64s (by omega) (by omega)]
      cases eqv x y <;> rfl
    rw [List.map_cons, List.map_cons, eqL_cons]
    by_cases q : eqv x y = true
    · rw [if_pos q] at hs
      rw [runLoop_step hs]
      obtain ⟨c', f1, f2, f3⟩ := eqk_loop hA hB ha hb hn ks ls (i + 1) c1 (by omega) (by omega) (fun j x hx => by
        have := hk (j + 1) x hx
        rw [show i + 1 + j = i + (j + 1) by omega]
        exact this) (fun j x hx => by
        have := hk' (j + 1) x hx
        rw [show i + 1 + j = i + (j + 1) by omega]
        exact this) (fun z hz => ih z (.tail _ hz)) (by omega) (by omega)
      refine ⟨c', ?_, by omega, by omega⟩
      rw [f1, show eqT (nrm x) (nrm y) = true from q, Bool.true_and]
    · rw [if_neg q] at hs
      refine ⟨c1, ?_, by have : 0 ≤ (ndl ks : Int) := by omega
                         omega, l2⟩
      rw [runLoop_end hs, show eqT (nrm x) (nrm y) = false from by unfold eqv at q; simpa using q, Bool.false_and, if_neg (by decide)]
theorem nd_pos (t : Tr) : 1 ≤ nd t := by rw [nd_eq]; omega
theorem eq_lv (hA : WS A.segments) (hB : WS B.segments) : ∀ (K : Nat), (∀ a b t u (c : Int), Mn A a t → Mn B b u → 2 * SizeOf.sizeOf t + 1 < K → (nd t : Int) ≤ c → c ≤ 70000 → ∃ c', (lv_equal_comparer_same K).1 ⟨c⟩ a b = some (eqv t u, 0, ⟨c'⟩) ∧ c - nd t ≤ c' ∧ c' ≤ c) ∧
    (∀ a b t u (c : Int), Mn A a t → Mn B b u → 2 * SizeOf.sizeOf t < K → (tk t).length = (tk u).length → (ndl (tk t) : Int) ≤ c → c ≤ 70000 → ∃ c', (lv_equal_comparer_same K).2 ⟨c⟩ a b ((tk t).length : Int) = some (eqL ((tk t).map nrm) ((tk u).map nrm), 0, ⟨c'⟩) ∧ c - ndl (tk t) ≤ c' ∧ c' ≤ c)
  | 0 => ⟨fun a b t u c _ _ h => by omega, fun a b t u c _ _ h => by omega⟩
  | K + 1 => by
    obtain ⟨i1, i2⟩ := eq_lv hA hB K
    refine ⟨fun a b t u c ha hb hK hc hc2 => ?_, fun a b t u c ha hb hK hl hc hc2 => ?_⟩
    · show ∃ c', b_equal_comparer_same (lv_equal_comparer_same K).1 (lv_equal_comparer_same K).2 ⟨c⟩ a b = _ ∧ _
      have hp := nd_pos t
      have hp2 := ndl_tk t
      unfold b_equal_comparer_same
      simp only
      rw [ieqF (show ¬ c = 0 by omega), cond_false, show m_reader_Ref_Kind a = some a.kind from rfl, show m_reader_Ref_Kind b = some b.kind from rfl, Option.bind_some, Option.bind_some, ← ha.kd, ← hb.kd, i64s (x := c - 1) (by omega) (by omega), sameWords_ok hA hB ha.ok hb.ok]
      by_cases hk : t.Kind = u.Kind
      · rw [show (t.Kind != u.Kind) = false from bne_eq_false_iff_eq.2 hk, cond_false, Option.bind_some, cond_false, Option.bind_some, eqv_eq ha hb hk, ← ha.wd, ← hb.wd]
        cases hw : tr (fun x => x == 0) t.Words == tr (fun x => x == 0) u.Words with
        | false => exact ⟨c - 1, rfl, by omega, by omega⟩
        | true =>
          simp only [Bool.not_true, cond_false, Bool.true_and]
          rw [ekids_ok hA ha, Option.bind_some]
          simp only
          rw [show ((0 : Int) != 0) = false from rfl, cond_false, ekids_ok hB hb, Option.bind_some]
          simp only
          rw [show ((0 : Int) != 0) = false from rfl, cond_false, len_ne]
          by_cases hl : (tk t).length = (tk u).length
          · rw [show (!((tk t).length == (tk u).length)) = false by simp [hl], cond_false]
            obtain ⟨c', e1, e2, e3⟩ := i2 a b t u (c - 1) ha hb (by omega) hl (by omega) (by omega)
            refine ⟨c', ?_, by omega, by omega⟩
            rw [e1]
            rfl
          · rw [show (!((tk t).length == (tk u).length)) = true by simp [hl], cond_true, eqL_len _ _ (by simpa using hl)]
            exact ⟨c - 1, rfl, by omega, by omega⟩
      · rw [bne_iff_ne.2 hk, cond_true, Option.bind_some, cond_true, eqv_kind hk]
        exact ⟨c - 1, rfl, by omega, by omega⟩
    · show ∃ c', b_equal_comparer_sameKids (lv_equal_comparer_same K).1 (lv_equal_comparer_same K).2 ⟨c⟩ a b _ = _ ∧ _
      have hkn := kidsN_rg ha.ok
      have hln := ha.ln
      have htk : (tk t).length ≤ t.Kids.length := by
        unfold tk
        split
        · exact tr_len _ _
        · exact Nat.le_refl _
      obtain ⟨c', e1, e2, e3⟩ := eqk_loop hA hB (F := (lv_equal_comparer_same K).1) ha.ok hb.ok (n := (tk t).length) (by omega) (tk t) (tk u) 0 c (by omega) hl (fun j x hx => by
        have := tk_pre t hx
        rw [Nat.zero_add]
        exact ⟨ha.er j x this, ha.kid j x this⟩) (fun j x hx => by
        have := tk_pre u hx
        rw [Nat.zero_add]
        exact ⟨hb.er j x this, hb.kid j x this⟩) (fun x hx p q y c hp hq h1 h2 => i1 p q x y c hp hq (by have := kid_lt (tk_mem hx); omega) h1 h2) hc hc2
      unfold b_equal_comparer_sameKids
      rw [show (((0 : Nat)) : Int) = 0 from rfl] at e1
      refine ⟨c', ?_, e2, e3⟩
      simp only
      rw [e1]
      cases eqL ((tk t).map nrm) ((tk u).map nrm) <;> rfl
theorem eq_mono : ∀ (k : Nat), LE3 (lv_equal_comparer_same k).1 (lv_equal_comparer_same (k + 1)).1 ∧ ∀ x y z w r, (lv_equal_comparer_same k).2 x y z w = some r → (lv_equal_comparer_same (k + 1)).2 x y z w = some r
  | 0 => ⟨fun x y z r h => (by cases h), fun x y z w r h => (by cases h)⟩
  | k + 1 => by
    obtain ⟨i1, i2⟩ := eq_mono k
    refine ⟨fun x y z r h => ?_, fun x y z w r h => ?_⟩
    · have h' : b_equal_comparer_same (lv_equal_comparer_same k).1 (lv_equal_comparer_same k).2 x y z = some r := h
      show b_equal_comparer_same (lv_equal_comparer_same (k + 1)).1 (lv_equal_comparer_same (k + 1)).2 x y z = some r
      unfold b_equal_comparer_same at h' ⊢
      refine cond_le _ (fun _ h => h) (fun r h => bind_le (fun _ h => h) (fun z r h => cond_le _ (fun _ h => h) (fun r h => bind_le (fun _ h => h) (fun z r h => cond_le _ (fun _ h => h) (fun r h => bind_le (fun _ h => h) (fun z r h => cond_le _ (fun _ h => h) (fun r h => bind_le (fun z h => i2 _ _ _ _ _ h) (fun _ _ h => h) h) r h) h) r h) h) r h) h) r h'
    · have h' : b_equal_comparer_sameKids (lv_equal_comparer_same k).1 (lv_equal_comparer_same k).2 x y z w = some r := h
      show b_equal_comparer_sameKids (lv_equal_comparer_same (k + 1)).1 (lv_equal_comparer_same (k + 1)).2 x y z w = some r
      unfold b_equal_comparer_sameKids at h' ⊢
      refine bind_le (fun q h => runLoop_le (fun s q h => ?_) h) (fun _ _ h => h) h'
      unfold b_equal_comparer_sameKids_L0 at h ⊢
      refine cond_le _ (fun r h => bind_le (fun _ h => h) (fun z r h => cond_le _ (fun _ h => h) (fun r h => bind_le (fun _ h => h) (fun z r h => cond_le _ (fun _ h => h) (fun r h => bind_le (fun q h => i1 _ _ _ _ h) (fun _ _ h => h) h) r h) h) r h) h) (fun _ h => h) q h
theorem same_okR (hA : WS A.segments) (hB : WS B.segments) {a b : S_reader_Ref} {t u : Tr} (ha : Mn A a t) (hb : Mn B b u) (hn : (nd t : Int) ≤ 65537) : m_equal_Values a b = some (eqv t u, 0) := by
  obtain ⟨c', e1, _⟩ := (eq_lv hA hB (2 * SizeOf.sizeOf t + 2)).1 a b t u 65537 ha hb (by omega) hn (by omega)
  have : m_equal_comparer_same ⟨65537⟩ a b = some (eqv t u, 0, ⟨c'⟩) := lim_mono (fun k r h => (eq_mono k).1 _ _ _ r h) e1
  unfold m_equal_Values
  rw [this]
  rfl
end

theorem unf_mn {A : S_arena_Arena} (hw : WS A.segments) (x : S_api_Limits) (h : (unfW A x).2.2 = 0) : Mn A (atR A 0 0).1 (unfW A x).1 ∧ (nd (unfW A x).1 : Int) ≤ 65537 := by
  have hW : 0 ≤ (lims x).Weight ∧ (lims x).Weight ≤ 65536 := clamp_rg _ _ (by decide)
  unfold unfW at h ⊢
  by_cases h1 : (atR A 0 0).2 ≠ 0
  · rw [if_pos h1] at h; exact absurd h h1
  rw [if_neg h1] at h ⊢
  simp only at h ⊢
  by_cases hq : (mean A (lims x).Depth.toNat (atR A 0 0).1 (lims x).Weight).2.2 ≠ 0
  · rw [if_pos hq] at h; exact absurd h hq
  rw [if_neg hq] at h ⊢
  obtain ⟨a1, a2, a3⟩ := hm_mean hw (lims x).Depth.toNat (atR A 0 0).1 (lims x).Weight (at_okr 0 0) hW.1 (by omega)
  exact ⟨a1, by simp only; omega⟩
theorem root15_ok {l : List (List Int)} (hw : WS l) : m_centolaw15_root l = some (atR ⟨l, 0, 0⟩ 0 0).1 := by
  unfold m_centolaw15_root
  rw [aOf_ok hw, Option.bind_some, root_ok (A := ⟨l, 0, 0⟩) hw, Option.bind_some]
theorem fol15a : fol [[4294967296, 7]] 0 0 = (⟨⟨1, 0, 1, 0, 0, 0, 0, false⟩, 0, 1⟩, 0) := rfl
theorem fol15b : fol [[8589934592, 7, 0]] 0 0 = (⟨⟨1, 0, 2, 0, 0, 0, 0, false⟩, 0, 1⟩, 0) := rfl
theorem fol15c : fol [[4294967296, 8]] 0 0 = (⟨⟨1, 0, 1, 0, 0, 0, 0, false⟩, 0, 1⟩, 0) := rfl
theorem mn_leaf {A : S_arena_Arena} {r : S_reader_Ref} {ws : List Int} (hr : OKr A r) (h1 : r.kind = 1) (h2 : wordsL A r = ws) (h3 : r.ptrs = 0) : Mn A r ⟨1, ws, []⟩ :=
  .mk hr h1.symm h2.symm (by unfold kidsN; rw [if_pos h1, h3]; rfl) (fun i x hx => by simp at hx) (fun i x hx => by simp at hx)
theorem at15a : (atR ⟨[[4294967296, 7]], 0, 0⟩ 0 0).1 = ⟨some ⟨[[4294967296, 7]], 0, 0⟩, 1, 0, 1, 1, 0, 0, 0, 0⟩ := by
  unfold atR
  simp only
  rw [fol15a]
  rfl
theorem at15b : (atR ⟨[[8589934592, 7, 0]], 0, 0⟩ 0 0).1 = ⟨some ⟨[[8589934592, 7, 0]], 0, 0⟩, 1, 0, 1, 2, 0, 0, 0, 0⟩ := by
  unfold atR
  simp only
  rw [fol15b]
  rfl
theorem at15c : (atR ⟨[[4294967296, 8]], 0, 0⟩ 0 0).1 = ⟨some ⟨[[4294967296, 8]], 0, 0⟩, 1, 0, 1, 1, 0, 0, 0, 0⟩ := by
  unfold atR
  simp only
  rw [fol15c]
  rfl
theorem mn15a : Mn ⟨[[4294967296, 7]], 0, 0⟩ (atR ⟨[[4294967296, 7]], 0, 0⟩ 0 0).1 ⟨1, [7], []⟩ := by
  refine mn_leaf (at_okr 0 0) ?_ ?_ ?_ <;> rw [at15a] <;> rfl
theorem mn15b : Mn ⟨[[8589934592, 7, 0]], 0, 0⟩ (atR ⟨[[8589934592, 7, 0]], 0, 0⟩ 0 0).1 ⟨1, [7, 0], []⟩ := by
  refine mn_leaf (at_okr 0 0) ?_ ?_ ?_ <;> rw [at15b] <;> rfl
theorem mn15c : Mn ⟨[[4294967296, 8]], 0, 0⟩ (atR ⟨[[4294967296, 8]], 0, 0⟩ 0 0).1 ⟨1, [8], []⟩ := by
  refine mn_leaf (at_okr 0 0) ?_ ?_ ?_ <;> rw [at15c] <;> rfl
theorem nd_leaf (ws : List Int) : nd ⟨1, ws, []⟩ = 1 := by rw [nd_eq]; rfl
theorem eqv_ab : eqv ⟨1, [7], []⟩ ⟨1, [7, 0], []⟩ = true := by
  unfold eqv
  rw [nrm_struct rfl, nrm_struct rfl, eqT_eq]
  rfl
theorem eqv_ac : eqv ⟨1, [7], []⟩ ⟨1, [8], []⟩ = false := by
  unfold eqv
  rw [nrm_struct rfl, nrm_struct rfl, eqT_eq]
  rfl
theorem awake15_p : m_centolaw15_awake = some true := by
  have ha : WS [[4294967296, 7]] := ws_one _ (by simp) (by simp)
  have hb : WS [[8589934592, 7, 0]] := ws_one _ (by simp) (by simp)
  have hc : WS [[4294967296, 8]] := ws_one _ (by simp) (by simp)
  unfold m_centolaw15_awake
  rw [root15_ok ha, Option.bind_some, root15_ok hb, Option.bind_some, same_okR (A := ⟨[[4294967296, 7]], 0, 0⟩) (B := ⟨[[8589934592, 7, 0]], 0, 0⟩) ha hb mn15a mn15b (by rw [nd_leaf]; decide), Option.bind_some, Option.bind_some, root15_ok hc, Option.bind_some, same_okR (A := ⟨[[4294967296, 7]], 0, 0⟩) (B := ⟨[[4294967296, 8]], 0, 0⟩) ha hc mn15a mn15c (by rw [nd_leaf]; decide), Option.bind_some, eqv_ab, eqv_ac]
  rfl
/-- a number mixed in -/
def mx (s n : Int) : Int := IntKind.u64.wrap (lxorI .u64 (IntKind.u64.wrap ((IntKind.u64.wrap (lxorI .u64 s n)) * 11400714819323198485)) (Int.fdiv (IntKind.u64.wrap ((IntKind.u64.wrap (lxorI .u64 s n)) * 11400714819323198485)) (2 ^ min (Int.toNat 32) 64)))
theorem mix_ok (s c n : Int) : m_equal_hasher_mix ⟨s, c⟩ n = some ⟨mx s n, c⟩ := rfl
/-- the number of what a tree means -/
noncomputable def hxN : Nat → Tr → Int → Int
  | 0, _, s => s
  | k + 1, t, s => if t.Kind = 0 then mx (mx (mx s (IntKind.u64.wrap 0)) (IntKind.u64.wrap ((0 : Nat) : Int))) (IntKind.u64.wrap ((0 : Nat) : Int))
    else (tk t).foldl (fun s x => hxN k x s) ((tr (fun x => x == 0) t.Words).foldl mx (mx (mx (mx s (IntKind.u64.wrap t.Kind)) (IntKind.u64.wrap ((tk t).length : Int))) (IntKind.u64.wrap ((tr (fun x => x == 0) t.Words).length : Int))))
theorem hxN_succ (k : Nat) (t : Tr) (s : Int) : hxN (k + 1) t s = if t.Kind = 0 then mx (mx (mx s (IntKind.u64.wrap 0)) (IntKind.u64.wrap ((0 : Nat) : Int))) (IntKind.u64.wrap ((0 : Nat) : Int))
    else (tk t).foldl (fun s x => hxN k x s) ((tr (fun x => x == 0) t.Words).foldl mx (mx (mx (mx s (IntKind.u64.wrap t.Kind)) (IntKind.u64.wrap ((tk t).length : Int))) (IntKind.u64.wrap ((tr (fun x => x == 0) t.Words).length : Int)))) := by
  rw [hxN]
theorem foldl_same {α σ : Type} {f g : σ → α → σ} : ∀ (l : List α) (s : σ), (∀ x ∈ l, ∀ s, f s x = g s x) → l.foldl f s = l.foldl g s
  | [], _, _ => rfl
  | x :: l, s, h => by
    rw [List.foldl_cons, List.foldl_cons, h x (.head _)]
    exact foldl_same l _ fun y hy => h y (.tail _ hy)
theorem hxN_more : ∀ (k k' : Nat) (t : Tr) (s : Int), SizeOf.sizeOf t < k → SizeOf.sizeOf t < k' → hxN k t s = hxN k' t s
  | 0, _, _, _, h, _ => by omega
  | _ + 1, 0, _, _, _, h => by omega
  | k + 1, k' + 1, t, s, h, h' => by
    unfold hxN
    split
    · rfl
    · exact foldl_same _ _ fun x hx s => hxN_more k k' x s (by have := kid_lt (tk_mem hx); omega) (by have := kid_lt (tk_mem hx); omega)
theorem tk_nrm {t : Tr} (h0 : ¬ t.Kind = 0) : tk (nrm t) = (tk t).map nrm := by
  unfold tk
  rw [nrm_kind]
  by_cases h1 : t.Kind = 1
  · rw [if_pos h1, if_pos h1, nrm_struct h1]
    simp only
    rw [tr_tr]
    exact tr_map (p := fun x : Tr => x.Kind == 0) (q := fun x : Tr => x.Kind == 0) (f := nrm) (fun x => by simp only [nrm_kind]) t.Kids
  · rw [if_neg h1, if_neg h1, nrm_list h0 h1]
theorem hxN_nrm : ∀ (k : Nat) (t : Tr) (s : Int), hxN k (nrm t) s = hxN k t s
  | 0, _, _ => rfl
  | k + 1, t, s => by
    unfold hxN
    rw [nrm_kind]
    by_cases h0 : t.Kind = 0
    · rw [if_pos h0, if_pos h0]
    rw [if_neg h0, if_neg h0, tk_nrm h0, List.length_map, List.foldl_map]
    have ew : tr (fun x => x == 0) (nrm t).Words = tr (fun x => x == 0) t.Words := by
      by_cases h1 : t.Kind = 1
      · rw [nrm_struct h1]
        exact tr_tr _
      · rw [nrm_list h0 h1]
    rw [ew]
    exact foldl_same _ _ fun x _ s => hxN_nrm k x s
noncomputable def hx (t : Tr) : Int := hxN (SizeOf.sizeOf t + 1) t 0
theorem hx_eqv {t u : Tr} (h : eqv t u = true) : hx t = hx u := by
  unfold eqv at h
  have e := eqT_iff.1 h
  have a := hxN_nrm (SizeOf.sizeOf t + SizeOf.sizeOf u + 1) t 0
  have b := hxN_nrm (SizeOf.sizeOf t + SizeOf.sizeOf u + 1) u 0
  rw [e] at a
  unfold hx
  rw [hxN_more (SizeOf.sizeOf t + 1) (SizeOf.sizeOf t + SizeOf.sizeOf u + 1) t 0 (by omega) (by omega), hxN_more (SizeOf.sizeOf u + 1) (SizeOf.sizeOf t + SizeOf.sizeOf u + 1) u 0 (by omega) (by omega), ← a, ← b]
section
variable {A : S_arena_Arena}
theorem foldI_foldl {α σ : Type} (g : σ → α → σ) : ∀ (l : List α) (s : σ) (i : Nat), foldI (fun s _ x => g s x) s i l = l.foldl g s
  | [], _, _ => rfl
  | x :: l, s, i => foldI_foldl g l (g s x) (i + 1)
theorem hwords_ok (hw : WS A.segments) {r : S_reader_Ref} {t : Tr} (h : Mn A r t) (s c : Int) : m_equal_words_f50_c48q74 r ⟨s, c⟩ = some ⟨(tr (fun x => x == 0) t.Words).foldl mx (mx s (IntKind.u64.wrap ((tr (fun x => x == 0) t.Words).length : Int))), c⟩ := by
  unfold m_equal_words_f50_c48q74
  rw [long_ok hw h.ok, Option.bind_some, mix_ok, Option.bind_some, ← h.wd]
  have hle := tr_len (fun x : Int => x == 0) t.Words
  have hl2 : t.Words.length ≤ 65536 := by rw [h.wd]; exact wordsL_le h.ok
  have main := (loop_I (tr (fun x => x == 0) t.Words) (fun i (s : Int) => (i, s, c)) (fun s => (s, c)) (m_equal_words_f50_c48q74_L0 r ((tr (fun x => x == 0) t.Words).length : Int)) (fun s _ x => mx s x) (fun _ _ => True) (by omega) (fun i s x hi hx _ _ => by
    refine ⟨?_, trivial⟩
    obtain ⟨hj, he⟩ := tr_getw (p := fun x : Int => x == 0) (l := t.Words) hi
    have hj' : i < (wordsL A r).length := by rw [← h.wd]; exact hj
    have hwr : wordR A r (i : Int) = x := by
      rw [← wordsL_at hw h.ok hj']
      rw [hx] at he
      have h2 : (wordsL A r)[i]? = some x := by rw [← h.wd, List.getElem?_eq_getElem hj]; exact he.symm
      rw [List.getElem?_eq_getElem hj'] at h2
      exact Option.some.inj h2
    unfold m_equal_words_f50_c48q74_L0
    simp only
    rw [lt_t hi, cond_true, word_ok hw h.ok, Option.bind_some, hwr, mix_ok]
    rfl) (fun s _ => by
    unfold m_equal_words_f50_c48q74_L0
    simp only
    rw [lt_f, cond_false]) (mx s (IntKind.u64.wrap ((tr (fun x => x == 0) t.Words).length : Int))) trivial).1
  simp only
  rw [main, foldI_foldl mx]
  rfl
theorem hkids_loop (hw : WS A.segments) {F : S_equal_hasher → S_reader_Ref → Option (Int × S_equal_hasher)} {H : Tr → Int → Int} {r : S_reader_Ref} {t : Tr} (h : Mn A r t)
    (hF : ∀ x ∈ tk t, ∀ (q : S_reader_Ref) (s c : Int), Mn A q x → (nd x : Int) ≤ c → c ≤ 70000 → ∃ c', F ⟨s, c⟩ q = some (0, ⟨H x s, c'⟩) ∧ c - nd x ≤ c' ∧ c' ≤ c) (hn : (tk t).length ≤ 1073741824) :
    ∀ (l pre : List Tr) (s c : Int), tk t = pre ++ l → (ndl l : Int) ≤ c → c ≤ 70000 → ∃ c', runLoop (b_equal_hasher_value_L0 F r (((tk t).length : Int), 0)) (((pre.length : Nat) : Int), s, c) = some (.inr (l.foldl (fun s x => H x s) s, c')) ∧ c - ndl l ≤ c' ∧ c' ≤ c
  | [], pre, s, c, hp, _, _ => by
    rw [List.append_nil] at hp
    refine ⟨c, runLoop_end ?_, by simp [ndl], Int.le_refl _⟩
    unfold b_equal_hasher_value_L0
    simp only
    rw [hp, lt_f, cond_false]
    rfl
  | x :: l, pre, s, c, hp, hc, hc2 => by
    have hx : (tk t)[pre.length]? = some x := by rw [hp, List.getElem?_append_right (Nat.le_refl _), Nat.sub_self]; rfl
    have hi : pre.length < (tk t).length := by rw [hp]; simp
    have hsum : ndl (x :: l) = nd x + ndl l := by simp [ndl]
    have hxk := tk_pre t hx
    obtain ⟨c1, e1, e2, e3⟩ := hF x (List.mem_of_getElem? hx) _ s c (h.kid _ _ hxk) (by omega) hc2
    obtain ⟨c2, f1, f2, f3⟩ := hkids_loop hw h hF hn l (pre ++ [x]) (H x s) c1 (by rw [hp]; simp) (by omega) (by omega)
    rw [List.length_append, List.length_singleton] at f1
    refine ⟨c2, (runLoop_step ?_).trans f1, by omega, by omega⟩
    unfold b_equal_hasher_value_L0
    simp only
    rw [lt_t hi, cond_true, kid_ok hw h.ok, Option.bind_some, h.er _ _ hxk, show ((0 : Int) != 0) = false from rfl, cond_false, e1, Option.bind_some]
    simp only
    rw [show ((0 : Int) != 0) = false from rfl, cond_false, i64s (by omega) (by omega)]
    rfl
theorem hash_lv (hw : WS A.segments) : ∀ (K : Nat) (t : Tr) (r : S_reader_Ref) (s c : Int), Mn A r t → SizeOf.sizeOf t < K → (nd t : Int) ≤ c → c ≤ 70000 → ∃ c', lv_equal_hasher_value K ⟨s, c⟩ r = some (0, ⟨hxN K t s, c'⟩) ∧ c - nd t ≤ c' ∧ c' ≤ c := fun K => by
  induction K with
  | zero =>
    intro t r s c _ h _ _
    omega
  | succ K ih =>
    intro t r s c h hK hc hc2
    have hp := nd_pos t
    have htk := ndl_tk t
    have hkn := kidsN_rg h.ok
    have hln := h.ln
    have htl : (tk t).length ≤ t.Kids.length := by
      unfold tk
      split
      · exact tr_len _ _
      · exact Nat.le_refl _
    show ∃ c', b_equal_hasher_value (lv_equal_hasher_value K) ⟨s, c⟩ r = _ ∧ _
    unfold b_equal_hasher_value
    simp only
    obtain ⟨c', e1, e2, e3⟩ := hkids_loop hw (F := lv_equal_hasher_value K) (H := fun x s => hxN K x s) h (fun x hx q s c hq hc hc2 => ih x q s c hq (by have := kid_lt (tk_mem hx); omega) hc hc2) (by omega) (tk t) []
      ((tr (fun x => x == 0) t.Words).foldl mx (mx (mx (mx s (IntKind.u64.wrap t.Kind)) (IntKind.u64.wrap ((tk t).length : Int))) (IntKind.u64.wrap ((tr (fun x => x == 0) t.Words).length : Int)))) (c - 1) rfl (by omega) (by omega)
    rw [show (((([] : List Tr).length : Nat)) : Int) = 0 from rfl] at e1
    have eh : hxN (K + 1) t s = (tk t).foldl (fun s x => hxN K x s) ((tr (fun x => x == 0) t.Words).foldl mx (mx (mx (mx s (IntKind.u64.wrap t.Kind)) (IntKind.u64.wrap ((tk t).length : Int))) (IntKind.u64.wrap ((tr (fun x => x == 0) t.Words).length : Int)))) := by
      rw [hxN_succ]
      by_cases h0 : t.Kind = 0
      · have k0 := h.k0 h0
        have w0 := h.w0 (by omega) (by omega)
        have tk0 : tk t = [] := by unfold tk; rw [if_neg (by omega), k0]
        rw [if_pos h0, tk0, w0, h0]
        simp only [tr, List.foldl_nil, List.length_nil]
      · rw [if_neg h0]
    have hwo := hwords_ok hw h
    have hM0 := mix_ok
    rw [eh]
    clear eh ih
    obtain ⟨Y, hY⟩ : ∃ Y : Tr → Int → Int, (fun x s => hxN K x s) = Y := ⟨_, rfl⟩
    rw [show (fun (s : Int) (x : Tr) => hxN K x s) = fun s x => Y x s from by rw [← hY]] at e1 ⊢
    obtain ⟨M, hM⟩ : ∃ M, m_equal_hasher_mix = M := ⟨_, rfl⟩
    obtain ⟨X, hX⟩ : ∃ X, mx = X := ⟨_, rfl⟩
    rw [hX] at e1 ⊢
    rw [hM] at hM0 ⊢
    rw [hX] at hM0 hwo
    clear hM hX hY
    rw [ieqF (show ¬ c = 0 by omega), cond_false, ekids_ok hw h, Option.bind_some, show m_reader_Ref_Kind r = some r.kind from rfl]
    simp only [Option.bind_some]
    rw [show ((0 : Int) != 0) = false from rfl, cond_false, i64s (x := c - 1) (by omega) (by omega), hM0]
    simp only [Option.bind_some]
    rw [hM0]
    simp only [Option.bind_some]
    rw [hwo, ← h.kd]
    simp only [Option.bind_some]
    rw [e1]
    exact ⟨c', rfl, by omega, by omega⟩
theorem hash_mono : ∀ (k : Nat) c r v, lv_equal_hasher_value k c r = some v → lv_equal_hasher_value (k + 1) c r = some v
  | 0, c, r, v, h => by cases h
  | k + 1, c, r, v, h => by
    have h' : b_equal_hasher_value (lv_equal_hasher_value k) c r = some v := h
    show b_equal_hasher_value (lv_equal_hasher_value (k + 1)) c r = some v
    unfold b_equal_hasher_value at h' ⊢
    refine cond_le _ (fun _ q => q) (fun _ => bind_le (fun _ q => q) fun y => cond_le _ (fun _ q => q) fun _ => bind_le (fun _ q => q) fun u _ => bind_le (fun _ q => q) fun w _ => bind_le (fun _ q => q) fun z _ => bind_le (fun _ q => q) fun a _ => bind_le (fun x => runLoop_le fun s y q => ?_) fun _ _ q => q) v h'
    exact cond_le _ (fun _ => bind_le (fun _ q => q) fun u => cond_le _ (fun _ q => q) fun _ => bind_le (fun x q => hash_mono k _ _ x q) fun _ _ q => q) (fun _ q => q) y q
theorem hash_ok (hw : WS A.segments) {t : Tr} {r : S_reader_Ref} (h : Mn A r t) (hn : (nd t : Int) ≤ 65537) : m_equal_Hash r = some (hx t, 0) := by
  obtain ⟨c', e1, e2, e3⟩ := hash_lv hw (SizeOf.sizeOf t + 1) t r 0 65537 h (by omega) hn (by decide)
  have e : m_equal_hasher_value ⟨0, 65537⟩ r = some (0, ⟨hx t, c'⟩) := lim_mono (F := fun k => lv_equal_hasher_value k ⟨0, 65537⟩ r) (fun k x => hash_mono k _ _ x) e1
  unfold m_equal_Hash
  rw [e, Option.bind_some]
  rfl
end
theorem equalValues_p {l m : List (List Int)} (hl : WS l) (hm : WS m) (x : S_api_Limits) : m_centolaw15_EqualValues l m x = some true := by
  obtain ⟨w, hx⟩ := light_ok x
  unfold m_centolaw15_EqualValues
  rw [hx, Option.bind_some]
  generalize (⟨x.Depth, w, x.MaxD, x.MaxOut⟩ : S_api_Limits) = y
  rw [show m_centoref10_Unfold l y = _ from unfold_ok (A := ⟨l, 0, 0⟩) hl y, Option.bind_some, show m_centoref10_Unfold m y = _ from unfold_ok (A := ⟨m, 0, 0⟩) hm y, Option.bind_some]
  have f1 := unf_mn (A := ⟨l, 0, 0⟩) hl y
  have f2 := unf_mn (A := ⟨m, 0, 0⟩) hm y
  have b1 := unfW_bd (A := ⟨l, 0, 0⟩) hl y
  have b2 := unfW_bd (A := ⟨m, 0, 0⟩) hm y
  by_cases e1 : (unfW ⟨l, 0, 0⟩ y).2.2 = 0
  · by_cases e2 : (unfW ⟨m, 0, 0⟩ y).2.2 = 0
    · obtain ⟨a1, a2⟩ := f1 e1
      obtain ⟨c1, c2⟩ := f2 e2
      rw [e1, e2, show ((0 : Int) != 0) = false from rfl, cond_false, cond_false, root15_ok hl, Option.bind_some, root15_ok hm, Option.bind_some, same_okR (A := ⟨l, 0, 0⟩) (B := ⟨m, 0, 0⟩) hl hm a1 c1 a2, Option.bind_some, hash_ok (A := ⟨l, 0, 0⟩) hl a1 a2, Option.bind_some, hash_ok (A := ⟨m, 0, 0⟩) hm c1 c2, Option.bind_some, requal_ok b1 b2, Option.bind_some, awake15_p]
      have ee : eqT (nrm (unfW ⟨l, 0, 0⟩ y).1) (nrm (unfW ⟨m, 0, 0⟩ y).1) = eqv (unfW ⟨l, 0, 0⟩ y).1 (unfW ⟨m, 0, 0⟩ y).1 := rfl
      rw [ee]
      cases q : eqv (unfW ⟨l, 0, 0⟩ y).1 (unfW ⟨m, 0, 0⟩ y).1 with
      | false => rfl
      | true =>
        have := hx_eqv q
        rw [this]
        simp
    · rw [e1, bne_iff_ne.2 e2, show ((0 : Int) != 0) = false from rfl, cond_false, cond_true, awake15_p]
      rfl
  · rw [bne_iff_ne.2 e1, cond_true, cond_true, awake15_p]
    rfl



end Go.Proofs.Ytgffgbdnbjbmoaa
