/- Plain facts on this seat's mirrors (part EP3); each theorem bears its own conditions. -/
import Derived.Test.YtpfbdlcnfekdkaaEP2
import Derived.IntWalk
namespace Go.Proofs.Ytpfbdlcnfekdkaa
open Go.RowKit
set_option linter.unusedVariables false
set_option linter.unusedSimpArgs false
theorem tr_mk (t : Tr) : (⟨t.Kind, t.Words, t.Kids⟩ : Tr) = t := by cases t; rfl
section
variable {A : S_arena_Arena}
/-- rounds over kids, each told as a tree -/
theorem mean_loop {step : Int × Int × List Tr → Option ((Int × Int × List Tr) ⊕ ((Int × Int × List Tr) ⊕ (Int × List Tr)))} {f : S_reader_Ref → Int → Tr × Int × Int} {r : S_reader_Ref} (hr : OKr A r) (n : Nat) (hn : n ≤ 1073741824)
    (hs : ∀ (i : Nat) (left : Int) (acc : List Tr), i < n → acc.length = i → 0 ≤ left ∧ left ≤ 65536 → step (left, (i : Int), acc) = some (if (kidR A r i).2 ≠ 0 then .inr (.inl (left, (kidR A r i).2, acc)) else if (f (kidR A r i).1 left).2.2 ≠ 0 then .inr (.inl ((f (kidR A r i).1 left).2.1, (f (kidR A r i).1 left).2.2, acc)) else .inl ((f (kidR A r i).1 left).2.1, ((i + 1 : Nat) : Int), acc ++ [(f (kidR A r i).1 left).1])))
    (he : ∀ left acc, step (left, (n : Int), acc) = some (.inr (.inr (left, acc))))
    (hf : Lf A f) : ∀ (m i : Nat) (left : Int) (acc : List Tr), i + m = n → acc.length = i → 0 ≤ left ∧ left ≤ 65536 →
    runLoop step (left, (i : Int), acc) = some (if (kidsGo f (kidR A r) m i left acc).2.2 = 0 then .inr ((kidsGo f (kidR A r) m i left acc).2.1, (kidsGo f (kidR A r) m i left acc).1) else .inl ((kidsGo f (kidR A r) m i left acc).2.1, (kidsGo f (kidR A r) m i left acc).2.2, (kidsGo f (kidR A r) m i left acc).1))
  | 0, i, left, acc, hi, ha, hl => by
    have : i = n := by omega
    subst this
    exact runLoop_end (he left acc)
  | m + 1, i, left, acc, hi, ha, hl => by
    have hst := hs i left acc (by omega) ha hl
    rw [kidsGo]
    by_cases h1 : (kidR A r i).2 ≠ 0
    · rw [if_pos h1] at hst ⊢
      rw [if_neg h1]
      exact runLoop_end hst
    rw [if_neg h1] at hst ⊢
    by_cases h2 : (f (kidR A r i).1 left).2.2 ≠ 0
    · rw [if_pos h2] at hst ⊢
      rw [if_neg h2]
      exact runLoop_end hst
    rw [if_neg h2] at hst ⊢
    have hb := hf _ left (kid_okr hr i) hl.1 (by omega)
    rw [runLoop_step hst]
    exact mean_loop hr n hn hs he hf m (i + 1) _ _ (by omega) (by rw [List.length_append, ha]; rfl) ⟨hb.1, by omega⟩
abbrev MF := List (List Int) → S_centoref09_Ref → Int → Int → Option (Tr × Int × Int)
theorem rKidsFn_ok (hw : WS A.segments) {f1 f2 : MF} {f : S_reader_Ref → Int → Tr × Int × Int} (hf : Lf A f) {r : S_reader_Ref} (hr : OKr A r) (h1 : r.kind = 1) {d left : Int} (hl : 0 ≤ left ∧ left ≤ 65536)
    (hF : ∀ (k : S_reader_Ref) (l : Int), OKr A k → 0 ≤ l ∧ l ≤ 65536 → f1 A.segments (toRR A k) d l = some (f k l)) : b_centoref10_kids f1 f2 A.segments (toRR A r) d left = some (stK A f r left) := by
  have hp : (toRR A r).Ptrs = r.ptrs := by unfold toRR; rw [if_neg (by omega), if_pos h1]
  have hpr : 0 ≤ r.ptrs ∧ r.ptrs < 65536 := by
    cases hr with
    | z => simp [r0] at h1
    | st s a d p hd hp2 hin => exact hp2
    | li k s a n hk => simp only at h1; omega
    | co => simp at h1
    | at_ => simp at h1
  unfold b_centoref10_kids stK
  rw [rrWords_ok hw hr, Option.bind_some]
  have hL := mean_loop (step := b_centoref10_kids_L0 f1 A.segments (toRR A r) d) (f := f) hr r.ptrs.toNat (by omega) (fun i l acc hi ha hl => by
    unfold b_centoref10_kids_L0
    simp only
    rw [hp, show decide ((i : Int) < r.ptrs) = true from by rw [decide_eq_true_eq]; omega, cond_true, rkid_ok' hw hr, Option.bind_some]
    simp only [toRR2]
    by_cases h1 : (kidR A r i).2 ≠ 0
    · rw [if_pos h1, bne_iff_ne.2 h1, cond_true]
    rw [if_neg h1, bne_eq_false_iff_eq.2 (show (kidR A r i).2 = 0 by omega), cond_false, hF _ l (kid_okr hr i) hl, Option.bind_some]
    by_cases h2 : (f (kidR A r i).1 l).2.2 ≠ 0
    · rw [if_pos h2, bne_iff_ne.2 h2, cond_true]
    rw [if_neg h2, bne_eq_false_iff_eq.2 (show (f (kidR A r i).1 l).2.2 = 0 by omega), cond_false, appI_ok (by simp only [List.length_singleton]; omega) (by simp only [List.length_singleton]; omega), Option.bind_some, i64s (by omega) (by omega)]
    rfl) (fun l acc => by
    unfold b_centoref10_kids_L0
    simp only
    rw [hp, show decide (((r.ptrs.toNat : Nat) : Int) < r.ptrs) = false from by rw [decide_eq_false_iff_not]; omega, cond_false]) hf r.ptrs.toNat 0 left [] (by omega) rfl hl
  rw [show (((0 : Nat) : Int)) = 0 from rfl] at hL
  rw [hL, Option.bind_some]
  by_cases hq : (kidsGo f (kidR A r) r.ptrs.toNat 0 left []).2.2 = 0
  · rw [if_pos hq]
    simp only
    rw [show (kidsGo f (kidR A r) r.ptrs.toNat 0 left []).2 = ((kidsGo f (kidR A r) r.ptrs.toNat 0 left []).2.1, 0) from by rw [← hq]]
  · rw [if_neg hq]
theorem toRR_frame {r : S_reader_Ref} (hr : OKr A r) : (r.kind = 1 → (toRR A r).Data = r.words ∧ (toRR A r).Ptrs = r.ptrs) ∧ (r.kind = 9 → (toRR A r).Data = r.words ∧ (toRR A r).Ptrs = r.ptrs ∧ (toRR A r).Count = r.count) := by
  refine ⟨fun h => ?_, fun h => ?_⟩
  · unfold toRR
    rw [if_neg (by omega), if_pos h]
    exact ⟨rfl, rfl⟩
  · unfold toRR
    rw [if_neg (by omega), if_neg (by omega), if_pos h]
    exact ⟨rfl, rfl, rfl⟩
theorem rMean_ok (hw : WS A.segments) {f1 f2 : MF} {g1 g2 : S_reader_Ref → Int → Tr × Int × Int} (l1 : Lf A g1) (l2 : Lf A g2) {r : S_reader_Ref} (hr : OKr A r) {d left : Int} (hd : 0 ≤ d ∧ d ≤ 1000) (hl : 0 ≤ left ∧ left ≤ 65536)
    (h1 : 1 ≤ d → ∀ (k : S_reader_Ref) (l : Int), OKr A k → 0 ≤ l ∧ l ≤ 65536 → f1 A.segments (toRR A k) (d - 1) l = some (g1 k l))
    (h2 : 2 ≤ d → ∀ (k : S_reader_Ref) (l : Int), OKr A k → k.kind = 1 → 0 ≤ l ∧ l ≤ 65536 → f2 A.segments (toRR A k) (d - 2) l = some (stK A g2 k l)) : b_centoref10_Meaning f1 f2 A.segments (toRR A r) d left = some (meanB A g1 g2 d r left) := by
  have hwt := wt_rg hw hr
  have hkn := kidsN_rg hr
  obtain ⟨fr1, fr9⟩ := toRR_frame hr
  unfold b_centoref10_Meaning meanB
  rw [rrWords_ok hw hr, Option.bind_some, toRR_kind, rrKids_ok hr]
  by_cases k0 : r.kind = 0
  · rw [if_pos k0, show (r.kind == 0) = true from by rw [k0]; rfl, cond_true]
  rw [if_neg k0, show (r.kind == 0) = false from ieqF k0, cond_false]
  have hlv : (cond (decide (d < 1)) true (cond (cond (r.kind == 9) (decide (0 < (toRR A r).Count)) false) (decide (d < 2)) false)) = decide (d < lvR r) := by
    unfold lvR
    rw [if_neg k0]
    by_cases k9 : r.kind = 9
    · rw [show (r.kind == 9) = true from by rw [k9]; rfl, (fr9 k9).2.2, cond_true]
      by_cases hc : 0 < r.count
      · rw [if_pos ⟨k9, hc⟩, decide_eq_true hc, cond_true]
        by_cases hd1 : d < 1
        · rw [decide_eq_true hd1, cond_true, decide_eq_true (show d < 2 by omega)]
        · rw [decide_eq_false hd1, cond_false]
      · rw [if_neg (fun q => hc q.2), decide_eq_false hc, cond_false]
        cases decide (d < 1) <;> rfl
    · rw [show (r.kind == 9) = false from ieqF k9, cond_false, cond_false, if_neg (fun q => k9 q.1)]
      cases decide (d < 1) <;> rfl
  rw [hlv]
  have hwx : ((cond (r.kind == 1) (some (IntKind.i64.wrap ((IntKind.i64.wrap (1 + (toRR A r).Data)) + (toRR A r).Ptrs))) (some (IntKind.i64.wrap (1 + kidsN r)))).bind fun (z5 : Int) => (cond (r.kind == 9) (some (IntKind.i64.wrap (1 + (IntKind.i64.wrap ((toRR A r).Count * (IntKind.i64.wrap ((IntKind.i64.wrap (1 + (toRR A r).Data)) + (toRR A r).Ptrs))))))) (some z5))) = some (wtR r) := by
    unfold wtR
    rw [if_neg k0]
    by_cases k1 : r.kind = 1
    · rw [if_pos k1, show (r.kind == 1) = true from by rw [k1]; rfl, cond_true, Option.bind_some, show (r.kind == 9) = false from ieqF (by omega), cond_false, (fr1 k1).1, (fr1 k1).2]
      cases hr with
      | z => simp [r0] at k1
      | st s a d p hd hp hin => simp only; rw [i64s (x := 1 + d) (by omega) (by omega), i64s (by omega) (by omega)]
      | li k s a n hk => simp only at k1; omega
      | co => simp at k1
      | at_ => simp at k1
    rw [if_neg k1, show (r.kind == 1) = false from ieqF k1, cond_false, Option.bind_some]
    by_cases k9 : r.kind = 9
    · rw [if_pos k9, show (r.kind == 9) = true from by rw [k9]; rfl, cond_true, (fr9 k9).1, (fr9 k9).2.1, (fr9 k9).2.2]
      cases hr with
      | z => simp [r0] at k9
      | st => simp at k9
      | li k s a n hk => simp only at k9; omega
      | at_ => simp at k9
      | co s a d p n hd hp hn hwx hin =>
        have : n * (1 + d + p) = n + n * (d + p) := by rw [Int.add_assoc, Int.mul_add, Int.mul_one]
        simp only
        rw [i64s (x := 1 + d) (by omega) (by omega), i64s (x := 1 + d + p) (by omega) (by omega), i64s (x := n * (1 + d + p)) (by omega) (by omega), i64s (by omega) (by omega)]
    · have hkc : kidsN r = r.count := by unfold kidsN; rw [if_neg k1]
      rw [if_neg k9, show (r.kind == 9) = false from ieqF k9, cond_false, i64s (by omega) (by omega), hkc]
  by_cases hb1 : d < lvR r
  · rw [decide_eq_true hb1, cond_true, if_pos (.inl hb1)]
  rw [decide_eq_false hb1, cond_false, Option.bind_some]
  have hstep2 : ∀ {K : Int → Option (Tr × Int × Int)}, ((cond (r.kind == 1) (some (IntKind.i64.wrap ((IntKind.i64.wrap (1 + (toRR A r).Data)) + (toRR A r).Ptrs))) (some (IntKind.i64.wrap (1 + kidsN r)))).bind fun (z5 : Int) => (cond (r.kind == 9) (some (IntKind.i64.wrap (1 + (IntKind.i64.wrap ((toRR A r).Count * (IntKind.i64.wrap ((IntKind.i64.wrap (1 + (toRR A r).Data)) + (toRR A r).Ptrs))))))) (some z5)).bind K) = K (wtR r) := fun {K} => by
    rw [← Option.bind_assoc, hwx, Option.bind_some]
  rw [hstep2]
  by_cases hb2 : left < wtR r
  · rw [decide_eq_true hb2, cond_true, if_pos (.inr hb2)]
  rw [decide_eq_false hb2, cond_false, if_neg (by omega), i64s (x := left - wtR r) (by omega) (by omega)]
  have hlvd : 1 ≤ d := by
    have : 1 ≤ lvR r := by unfold lvR; rw [if_neg k0]; split <;> omega
    omega
  have hN : kidsN r = (((kidsN r).toNat : Nat) : Int) := by omega
  -- one kid
  have hkf : ∀ (i : Nat) (l : Int), i < (kidsN r).toNat → (kidR A r i).2 = 0 → 0 ≤ l ∧ l ≤ 65536 → (cond (r.kind == 9) ((f2 A.segments (toRR A (kidR A r i).1) (IntKind.i64.wrap (d - 2)) l).bind fun y16 => some (y16.2.1, y16.2.2, y16.1.Kind, y16.1.Words, y16.1.Kids)) (cond (cond (r.kind == 1) true (r.kind == 8)) ((f1 A.segments (toRR A (kidR A r i).1) (IntKind.i64.wrap (d - 1)) l).bind fun y17 => some (y17.2.1, y17.2.2, y17.1.Kind, y17.1.Words, y17.1.Kids)) (some (l, (kidR A r i).2, (kidR A r i).1.kind, wordsL A (kidR A r i).1, ([] : List Tr))))) = some ((kidF A g1 g2 r (kidR A r i).1 l).2.1, (kidF A g1 g2 r (kidR A r i).1 l).2.2, (kidF A g1 g2 r (kidR A r i).1 l).1.Kind, (kidF A g1 g2 r (kidR A r i).1 l).1.Words, (kidF A g1 g2 r (kidR A r i).1 l).1.Kids) := fun i l hi he hl => by
    rw [i64s (x := d - 2) (by omega) (by omega), i64s (x := d - 1) (by omega) (by omega)]
    unfold kidF
    by_cases k9 : r.kind = 9
    · have hkc : kidsN r = r.count := by unfold kidsN; rw [if_neg (by omega)]
      have hd2 : 2 ≤ d := by
        have : lvR r = 2 := by unfold lvR; rw [if_neg k0, if_pos ⟨k9, by omega⟩]
        omega
      rw [if_pos k9, show (r.kind == 9) = true from by rw [k9]; rfl, cond_true, h2 hd2 _ l (kid_okr hr i) (kid_struct1 k9 ⟨by omega, by omega⟩) hl, Option.bind_some]
    rw [if_neg k9, show (r.kind == 9) = false from ieqF k9, cond_false]
    by_cases k18 : r.kind = 1 ∨ r.kind = 8
    · have e1 : cond (r.kind == 1) true (r.kind == 8) = true := by rcases k18 with k | k <;> rw [k] <;> rfl
      rw [if_pos k18, e1, cond_true, h1 hlvd _ l (kid_okr hr i) hl, Option.bind_some]
    · rw [if_neg k18, show (r.kind == 1) = false from ieqF (by omega), show (r.kind == 8) = false from ieqF (by omega), cond_false, cond_false, he]
      rfl
  have hL := mean_loop (step := b_centoref10_Meaning_L0 f1 f2 A.segments (toRR A r) d) (f := kidF A g1 g2 r) hr (kidsN r).toNat (by omega) (fun i l acc hi ha hl => by
    unfold b_centoref10_Meaning_L0
    simp only
    rw [rrKids_ok hr, Option.bind_some, show decide ((i : Int) < kidsN r) = true from by rw [decide_eq_true_eq]; omega, cond_true, rkid_ok' hw hr, Option.bind_some]
    simp only [toRR2]
    by_cases q1 : (kidR A r i).2 ≠ 0
    · rw [if_pos q1, bne_iff_ne.2 q1, cond_true]
    rw [if_neg q1, bne_eq_false_iff_eq.2 (show (kidR A r i).2 = 0 by omega), cond_false, rrWords_ok hw (kid_okr hr i), Option.bind_some, toRR_kind, toRR_kind, hkf i l hi (by omega) hl, Option.bind_some]
    simp only [tr_mk]
    by_cases q2 : (kidF A g1 g2 r (kidR A r i).1 l).2.2 ≠ 0
    · rw [if_pos q2, bne_iff_ne.2 q2, cond_true]
    rw [if_neg q2, bne_eq_false_iff_eq.2 (show (kidF A g1 g2 r (kidR A r i).1 l).2.2 = 0 by omega), cond_false, appI_ok (by simp only [List.length_singleton]; omega) (by simp only [List.length_singleton]; omega), Option.bind_some, i64s (by omega) (by omega)]
    rfl) (fun l acc => by
    unfold b_centoref10_Meaning_L0
    simp only
    rw [rrKids_ok hr, Option.bind_some, show decide ((((kidsN r).toNat : Nat) : Int) < kidsN r) = false from by rw [decide_eq_false_iff_not]; omega, cond_false]) (lf_kidF l1 l2 r) (kidsN r).toNat 0 (left - wtR r) [] (by omega) rfl (by omega)
  rw [show (((0 : Nat) : Int)) = 0 from rfl] at hL
  rw [hL, Option.bind_some]
  simp only
  by_cases hq : (kidsGo (kidF A g1 g2 r) (kidR A r) (kidsN r).toNat 0 (left - wtR r) []).2.2 = 0
  · rw [if_pos hq]
    simp only
    rw [show (kidsGo (kidF A g1 g2 r) (kidR A r) (kidsN r).toNat 0 (left - wtR r) []).2 = ((kidsGo (kidF A g1 g2 r) (kidR A r) (kidsN r).toNat 0 (left - wtR r) []).2.1, 0) from by rw [← hq]]
  · rw [if_neg hq]
theorem lf_meanP (hw : WS A.segments) (k d : Nat) : Lf A (meanP A k d) := by
  unfold meanP
  split
  · exact lf_mean hw _
  · exact lf_bad
theorem rmean_lv (hw : WS A.segments) : ∀ (K : Nat), (∀ (d : Nat) r left, d ≤ 1000 → OKr A r → 0 ≤ left ∧ left ≤ 65536 → 2 * d + 1 ≤ K → (lv_centoref10_Meaning K).1 A.segments (toRR A r) d left = some (mean A d r left)) ∧
    (∀ (d : Nat) r left, d ≤ 1000 → OKr A r → r.kind = 1 → 0 ≤ left ∧ left ≤ 65536 → 2 * d + 2 ≤ K → (lv_centoref10_Meaning K).2 A.segments (toRR A r) d left = some (stK A (mean A d) r left))
  | 0 => ⟨fun d r left _ _ _ h => by omega, fun d r left _ _ _ _ h => by omega⟩
  | K + 1 => by
    obtain ⟨i1, i2⟩ := rmean_lv hw K
    refine ⟨fun d r left hd hr hl hK => ?_, fun d r left hd hr h1 hl hK => ?_⟩
    · show b_centoref10_Meaning (lv_centoref10_Meaning K).1 (lv_centoref10_Meaning K).2 A.segments (toRR A r) d left = _
      rw [mean_eq]
      refine rMean_ok hw (lf_meanP hw 1 d) (lf_meanP hw 2 d) hr (by omega) hl (fun hd1 k l hk hl => ?_) (fun hd2 k l hk k1 hl => ?_)
      · have := i1 (d - 1) k l (by omega) hk hl (by omega)
        rw [show (((d - 1 : Nat) : Int)) = (d : Int) - 1 by omega] at this
        unfold meanP
        rw [if_pos (by omega)]
        exact this
      · have := i2 (d - 2) k l (by omega) hk k1 hl (by omega)
        rw [show (((d - 2 : Nat) : Int)) = (d : Int) - 2 by omega] at this
        unfold meanP
        rw [if_pos (by omega)]
        exact this
    · show b_centoref10_kids (lv_centoref10_Meaning K).1 (lv_centoref10_Meaning K).2 A.segments (toRR A r) d left = _
      exact rKidsFn_ok hw (lf_mean hw d) hr h1 hl fun k l hk hl => i1 d k l hd hk hl (by omega)
theorem rmean_ok (hw : WS A.segments) {d : Nat} (hd : d ≤ 1000) {r : S_reader_Ref} (hr : OKr A r) {left : Int} (hl : 0 ≤ left ∧ left ≤ 65536) : m_centoref10_Meaning A.segments (toRR A r) d left = some (mean A d r left) :=
  lim_eq (2 * d + 1) fun k hk => (rmean_lv hw k).1 d r left hd hr hl hk
/-- what a message means, and weighs -/
def unfW (A : S_arena_Arena) (x : S_api_Limits) : Tr × Int × Int :=
  if (atR A 0 0).2 ≠ 0 then (⟨0, [], []⟩, 0, (atR A 0 0).2)
  else
    let q := mean A (lims x).Depth.toNat (atR A 0 0).1 (lims x).Weight
    if q.2.2 ≠ 0 then (⟨0, [], []⟩, 0, q.2.2) else (q.1, (lims x).Weight - q.2.1, 0)
theorem unfold_ok (hw : WS A.segments) (x : S_api_Limits) : m_centoref10_Unfold A.segments x = some (unfW A x) := by
  unfold m_centoref10_Unfold unfW
  rw [rlimits_ok, Option.bind_some, rat_ok hw, Option.bind_some]
  simp only [toRR2]
  have hd : 0 ≤ (lims x).Depth ∧ (lims x).Depth ≤ 64 := clamp_rg _ _ (by decide)
  have hW : 0 ≤ (lims x).Weight ∧ (lims x).Weight ≤ 65536 := clamp_rg _ _ (by decide)
  by_cases h : (atR A 0 0).2 ≠ 0
  · rw [if_pos h, show ((atR A 0 0).2 != 0) = true from bne_iff_ne.2 h, cond_true]
  · rw [if_neg h, show ((atR A 0 0).2 != 0) = false from bne_eq_false_iff_eq.2 (by omega), cond_false]
    have hm := rmean_ok hw (d := (lims x).Depth.toNat) (by omega) (at_okr (A := A) 0 0) hW
    rw [show (((lims x).Depth.toNat : Nat) : Int) = (lims x).Depth by omega] at hm
    rw [hm, Option.bind_some]
    by_cases hq : (mean A (lims x).Depth.toNat (atR A 0 0).1 (lims x).Weight).2.2 ≠ 0
    · rw [if_pos hq, show ((mean A (lims x).Depth.toNat (atR A 0 0).1 (lims x).Weight).2.2 != 0) = true from bne_iff_ne.2 hq, cond_true]
    · have h0 : (mean A (lims x).Depth.toNat (atR A 0 0).1 (lims x).Weight).2.2 = 0 := by omega
      have hb := lf_mean hw _ _ _ (at_okr (A := A) 0 0) hW.1 h0
      rw [if_neg hq, show ((mean A (lims x).Depth.toNat (atR A 0 0).1 (lims x).Weight).2.2 != 0) = false from bne_eq_false_iff_eq.2 h0, cond_false, i64s (by omega) (by omega)]
theorem unf_chk (x : S_api_Limits) : (unfW A x).2 = chkW A x := by
  unfold unfW chkW
  by_cases h : (atR A 0 0).2 ≠ 0
  · rw [if_pos h, if_pos h]
  rw [if_neg h, if_neg h]
  simp only
  by_cases hq : (mean A (lims x).Depth.toNat (atR A 0 0).1 (lims x).Weight).2.2 ≠ 0
  · rw [if_pos hq, if_pos hq]
  · rw [if_neg hq, if_neg hq]
end
section
variable {A : S_arena_Arena}
theorem wordsL_len (hw : WS A.segments) {r : S_reader_Ref} (h : OKr A r) : ((wordsL A r).length : Int) = wordsN r := by
  unfold wordsL wordsN
  cases h with
  | z => rfl
  | li k s a n hk hn hin => simp only; rw [if_neg (by omega), if_neg (by omega), if_neg (by omega), if_neg (by omega)]; rfl
  | co => rfl
  | at_ => rfl
  | st s a d p hd hp hin =>
    have hi' := inB_iff.1 hin
    simp only [show ¬ (1 : Int) = 10 from by decide, if_false, if_true, List.length_take, List.length_drop]
    omega
theorem wordsL_at (hw : WS A.segments) {r : S_reader_Ref} (h : OKr A r) {i : Nat} (hi : i < (wordsL A r).length) : (wordsL A r)[i] = wordR A r (i : Int) := by
  have hl := wordsL_len hw h
  unfold wordR
  rw [if_neg (by omega)]
  cases h with
  | z => simp [wordsL, r0] at hi
  | li k s a n hk hn hin =>
    have : wordsL A ⟨some A, k, s, a, 0, 0, n, 0, 0⟩ = [] := by unfold wordsL; rw [if_neg (by simp only; omega), if_neg (by simp only; omega)]
    simp [this] at hi
  | co => simp [wordsL] at hi
  | at_ s a c j n hc h0 h1 hn hin =>
    have : i = 0 := by
      simp [wordsL] at hi; exact hi
    subst this
    rfl
  | st s a d p hd hp hin =>
    have hi' := inB_iff.1 hin
    have hid : (i : Int) < d := by simp [wordsN] at hl; omega
    simp only [wordsL, show ¬ (1 : Int) = 10 from by decide, if_false, if_true, List.getElem_take, List.getElem_drop]
    unfold wd
    rw [show (a + (i : Int)).toNat = a.toNat + i by omega, List.getElem?_eq_getElem (by omega)]
    rfl
end
/-- what an index counts up to -/
theorem kid_lt {t x : Tr} (h : x ∈ t.Kids) : SizeOf.sizeOf x < SizeOf.sizeOf t := by
  obtain ⟨k, w, ks⟩ := t
  have := List.sizeOf_lt_of_mem h
  simp only [S_api_Tree.mk.sizeOf_spec]
  simp only at this
  omega
/-- rounds over a list's kids with an index alone -/
theorem loop_any {α R : Type} (xs : List α) (step : Int → Option (Int ⊕ R)) (p : α → Bool) (e o : R) (hl : (xs.length : Int) ≤ 140737488355328)
    (h1 : ∀ (i : Nat) (x : α), i < xs.length → xs[i]? = some x → x ∈ xs → step i = some (if p x = true then .inr e else .inl (IntKind.i64.wrap ((i : Int) + 1)))) (h2 : step xs.length = some (.inr o)) : runLoop step 0 = some (if xs.any p = true then e else o) := by
  have hloop := loop_each xs (fun i (_ : Unit) => i) step (fun _ x => some (if p x = true then .inr e else .inl ())) (fun _ => o) (fun i s x hi hx => by
    rw [h1 i x hi hx (List.mem_of_getElem? hx), i64s (by omega) (by omega)]
    cases p x <;> rfl) (fun _ => h2) ()
  refine hloop.trans ?_
  rw [foldE_find p (fun s _ => s) e (fun _ _ => True) xs.length xs () 0 (by omega) trivial (fun s k x _ _ _ => ⟨by cases p x <;> rfl, fun _ => trivial⟩)]
/-- without such as are of a kind, at the end -/
def tr {α : Type} (p : α → Bool) : List α → List α
  | [] => []
  | x :: xs => match tr p xs with
    | [] => if p x = true then [] else [x]
    | y :: ys => x :: y :: ys
def trN {α : Type} (p : α → Bool) (l : List α) : Nat → Nat
  | 0 => 0
  | n + 1 => match l[n]? with
    | some x => if p x = true then trN p l n else n + 1
    | none => 0
theorem tr_append_t {α : Type} {p : α → Bool} {x : α} (h : p x = true) : ∀ l : List α, tr p (l ++ [x]) = tr p l
  | [] => by simp [tr, h]
  | y :: l => by simp only [List.cons_append, tr, tr_append_t h l]
theorem tr_append_f {α : Type} {p : α → Bool} {x : α} (h : p x = false) : ∀ l : List α, tr p (l ++ [x]) = l ++ [x]
  | [] => by simp [tr, h]
  | y :: l => by
    simp only [List.cons_append, tr, tr_append_f h l]
    cases hl : l ++ [x] with
    | nil => simp at hl
    | cons a b => rfl
theorem trN_tr {α : Type} {p : α → Bool} {l : List α} : ∀ n, n ≤ l.length → l.take (trN p l n) = tr p (l.take n) ∧ trN p l n ≤ n
  | 0, _ => by simp [trN, tr]
  | n + 1, h => by
    have hn : l[n]? = some l[n] := List.getElem?_eq_getElem (by omega)
    have e : l.take (n + 1) = l.take n ++ [l[n]] := by rw [List.take_add_one, hn]; rfl
    obtain ⟨h1, h2⟩ := trN_tr (p := p) (l := l) n (by omega)
    unfold trN
    rw [hn]
    simp only
    split
    · rename_i hp
      rw [e, tr_append_t hp]
      exact ⟨h1, by omega⟩
    · rename_i hp
      rw [e, tr_append_f (by simpa using hp), ← e]
      exact ⟨rfl, Nat.le_refl _⟩
theorem tr_len {α : Type} (p : α → Bool) : ∀ l : List α, (tr p l).length ≤ l.length
  | [] => by simp [tr]
  | x :: l => by
    have := tr_len p l
    simp only [tr]
    split
    · split <;> simp
    · rename_i y ys he
      rw [he] at this
      simp at this ⊢
      omega
theorem tr_map {α β : Type} {p : α → Bool} {q : β → Bool} {f : α → β} (h : ∀ x, q (f x) = p x) : ∀ l : List α, tr q (l.map f) = (tr p l).map f
  | [] => rfl
  | x :: l => by
    simp only [List.map_cons, tr, tr_map h l]
    cases tr p l with
    | nil => simp only [List.map_nil, h]; split <;> rfl
    | cons y ys => rfl
/-- the rounds that look for the end -/
theorem loop_tr {α : Type} (l : List α) (p : α → Bool) (step : Int → Option (Int ⊕ Int)) (hl : (l.length : Int) ≤ 140737488355328)
    (h0 : step 0 = some (.inr 0)) (h1 : ∀ (n : Nat) (x : α), l[n]? = some x → n < l.length → step ((n + 1 : Nat) : Int) = some (if p x = true then .inl (n : Int) else .inr ((n + 1 : Nat) : Int))) : runLoop step (l.length : Int) = some (trN p l l.length : Int) := by
  have key : ∀ n : Nat, n ≤ l.length → runLoop step (n : Int) = some (trN p l n : Int) := fun n => by
    induction n with
    | zero => intro _; exact runLoop_end h0
    | succ n ih =>
      intro hn
      have hx : l[n]? = some l[n] := List.getElem?_eq_getElem (by omega)
      have h := h1 n _ hx (by omega)
      unfold trN
      rw [hx]
      simp only
      split
      · rename_i hp
        rw [if_pos hp] at h
        rw [runLoop_step h]
        exact ih (by omega)
      · rename_i hp
        rw [if_neg hp] at h
        exact runLoop_end h
  exact key l.length (Nat.le_refl _)
theorem sub_take {α : Type} {l : List α} {n : Nat} (h : n ≤ l.length) : subI l 0 (n : Int) = some (l.take n) := by
  rw [subI_ok (by omega) (by omega) (by omega)]
  simp
theorem gt_t {n : Nat} : decide (0 < ((n + 1 : Nat) : Int)) = true := by rw [decide_eq_true_eq]; omega
theorem rTrim_ok {l : List Int} (hl : l.length * 8 ≤ 140737488355328) : m_centoref07_Trim l = some (tr (fun x => x == 0) l) := by
  have hloop := loop_tr l (fun x => x == 0) (m_centoref07_Trim_L0 l) (by omega) (by unfold m_centoref07_Trim_L0; rfl) (fun n x hx hn => by
    unfold m_centoref07_Trim_L0
    rw [gt_t, cond_true, i64s (by omega) (by omega)]
    have e : ((n + 1 : Nat) : Int) - 1 = (n : Int) := by omega
    rw [e, getI_of hx]
    simp only [Option.bind_some, cond_true]
    cases x == 0 <;> rfl)
  obtain ⟨h1, h2⟩ := trN_tr (p := fun x => x == 0) (l := l) l.length (Nat.le_refl _)
  have h3 := tr_len (fun x => x == 0) l
  unfold m_centoref07_Trim
  rw [hloop, Option.bind_some, sub_take h2, Option.bind_some, h1, List.take_length, appI_ok (by rw [List.length_nil]; omega) (by rw [List.length_nil]; omega)]
  rfl
/-- lengths and words as memory has them, all the way down -/
inductive Bd : Tr → Prop
  | mk (t : Tr) (h1 : t.Words.length * 8 ≤ 140737488355328) (h2 : t.Kids.length * 56 ≤ 140737488355328) (h3 : ∀ w ∈ t.Words, 0 ≤ w ∧ w < 18446744073709551616) (h4 : ∀ k ∈ t.Kids, Bd k) : Bd t
theorem Bd.w {t : Tr} (h : Bd t) : t.Words.length * 8 ≤ 140737488355328 := by cases h; assumption
theorem Bd.k {t : Tr} (h : Bd t) : t.Kids.length * 56 ≤ 140737488355328 := by cases h; assumption
theorem Bd.all {t : Tr} (h : Bd t) : ∀ k ∈ t.Kids, Bd k := by cases h; assumption
/-- what means the same, without what is in vain -/
def nrm (t : Tr) : Tr :=
  if t.Kind = 0 then ⟨0, [], []⟩
  else if t.Kind = 1 then ⟨1, tr (fun x => x == 0) t.Words, tr (fun x => x.Kind == 0) (t.Kids.attach.map fun k => nrm k.1)⟩
  else ⟨t.Kind, t.Words, t.Kids.attach.map fun k => nrm k.1⟩
termination_by SizeOf.sizeOf t
decreasing_by all_goals exact kid_lt k.2
theorem nrm_eq (t : Tr) : nrm t = if t.Kind = 0 then ⟨0, [], []⟩ else if t.Kind = 1 then ⟨1, tr (fun x => x == 0) t.Words, tr (fun x => x.Kind == 0) (t.Kids.map nrm)⟩ else ⟨t.Kind, t.Words, t.Kids.map nrm⟩ := by
  rw [nrm]
  simp only [List.attach_map_val]
theorem nrm_kind (t : Tr) : (nrm t).Kind = t.Kind := by
  rw [nrm_eq]
  split
  · rename_i h; exact h.symm
  · split
    · rename_i h; exact h.symm
    · rfl

/-- the kids' norms, and where the last one stands that is something -/
theorem tr_cons_nil {α : Type} {p : α → Bool} {x : α} {l : List α} (h : tr p l = []) : tr p (x :: l) = if p x = true then [] else [x] := by simp only [tr, h]
theorem tr_cons_ne {α : Type} {p : α → Bool} {x : α} {l : List α} (h : tr p l ≠ []) : tr p (x :: l) = x :: tr p l := by
  simp only [tr]
  split
  · rename_i h'; exact absurd h' h
  · rename_i h'; rw [h']
theorem last_tr : ∀ (l : List Tr) (n : Nat) (acc : Int), (l.zipIdx n).foldl (fun a p => if p.1.Kind = 0 then a else ((p.2 + 1 : Nat) : Int)) acc = if (tr (fun x => x.Kind == 0) l).length = 0 then acc else ((n + (tr (fun x => x.Kind == 0) l).length : Nat) : Int)
  | [], n, acc => by simp [tr]
  | x :: l, n, acc => by
    rw [List.zipIdx_cons, List.foldl_cons, last_tr l (n + 1)]
    by_cases h : tr (fun x => x.Kind == 0) l = []
    · rw [tr_cons_nil h, h]
      by_cases hx : x.Kind = 0
      · simp [hx]
      · simp [hx]
    · have h' : (tr (fun x => x.Kind == 0) l).length ≠ 0 := by simpa using h
      rw [tr_cons_ne h, if_neg h', List.length_cons, if_neg (by omega)]
      congr 1
      omega
theorem tr_take {α : Type} (p : α → Bool) (l : List α) : l.take (tr p l).length = tr p l := by
  obtain ⟨h1, h2⟩ := trN_tr (p := p) (l := l) l.length (Nat.le_refl _)
  rw [List.take_length] at h1
  rw [← h1, List.length_take]
  congr 1
  omega
theorem rnorm_l0 {k : Nat} {t : Tr} (hl : t.Kids.length * 56 ≤ 140737488355328) (ih : ∀ x ∈ t.Kids, lv_centoref07_Norm k x = some (nrm x)) :
    runLoop (b_centoref07_Norm_L0 (lv_centoref07_Norm k) t) (0, 0, []) = some (if (tr (fun x => x.Kind == 0) (t.Kids.map nrm)).length = 0 then 0 else ((tr (fun x => x.Kind == 0) (t.Kids.map nrm)).length : Int), t.Kids.map nrm) := by
  have key : ∀ (l pre : List Tr) (a : Int), t.Kids = pre ++ l → runLoop (b_centoref07_Norm_L0 (lv_centoref07_Norm k) t) (a, ((pre.length : Nat) : Int), pre.map nrm) = some (((l.map nrm).zipIdx pre.length).foldl (fun a p => if p.1.Kind = 0 then a else ((p.2 + 1 : Nat) : Int)) a, t.Kids.map nrm) := fun l => by
    induction l with
    | nil =>
      intro pre a hp
      rw [List.append_nil] at hp
      refine runLoop_end ?_
      unfold b_centoref07_Norm_L0
      simp only
      rw [hp, lt_f, cond_false]
      rfl
    | cons x l ihl =>
      intro pre a hp
      have hx : t.Kids[pre.length]? = some x := by rw [hp, List.getElem?_append_right (Nat.le_refl _), Nat.sub_self]; rfl
      have hi : pre.length < t.Kids.length := by rw [hp]; simp
      have hm : x ∈ t.Kids := List.mem_of_getElem? hx
      have hs : b_centoref07_Norm_L0 (lv_centoref07_Norm k) t (a, ((pre.length : Nat) : Int), pre.map nrm) = some (.inl (if x.Kind = 0 then a else ((pre.length + 1 : Nat) : Int), (((pre ++ [x]).length : Nat) : Int), (pre ++ [x]).map nrm)) := by
        unfold b_centoref07_Norm_L0
        simp only
        rw [lt_t hi, cond_true, getI_of hx, Option.bind_some, ih x hm, Option.bind_some, appI_ok (by simp; omega) (by simp; omega), Option.bind_some, i64s (by omega) (by omega), nrm_kind]
        have e : ((pre.length : Nat) : Int) + 1 = ((pre.length + 1 : Nat) : Int) := by omega
        rw [e]
        by_cases h0 : x.Kind = 0
        · simp [h0]
        · have : (x.Kind != 0) = true := by simp [h0]
          rw [this, cond_true]
          simp [h0]
      rw [runLoop_step hs, ihl (pre ++ [x]) _ (by rw [hp]; simp)]
      simp only [List.map_cons, List.zipIdx_cons, List.foldl_cons, List.length_append, List.length_singleton, nrm_kind]
  have := key t.Kids [] 0 rfl
  rw [last_tr] at this
  simpa using this
theorem rnorm_lv : ∀ (k : Nat) (t : Tr), Bd t → SizeOf.sizeOf t < k → lv_centoref07_Norm k t = some (nrm t)
  | 0, t, _, h => by omega
  | k + 1, t, hb, hk => by
    have ih : ∀ x ∈ t.Kids, lv_centoref07_Norm k x = some (nrm x) := fun x hx => rnorm_lv k x (hb.all x hx) (by have := kid_lt hx; omega)
    have hw := hb.w
    have hkd := hb.k
    show b_centoref07_Norm (lv_centoref07_Norm k) t = _
    unfold b_centoref07_Norm
    rw [nrm_eq]
    by_cases h0 : t.Kind = 0
    · rw [if_pos h0, h0]; rfl
    have e0 : (t.Kind == 0) = false := by rw [beq_eq_false_iff_ne]; exact h0
    rw [if_neg h0, e0, cond_false, rnorm_l0 hkd ih, Option.bind_some]
    by_cases h1 : t.Kind = 1
    · have e1 : (t.Kind == 1) = true := by rw [beq_iff_eq]; exact h1
      rw [if_pos h1, e1, cond_true, rTrim_ok hw, Option.bind_some]
      have l1 := tr_len (fun x : Tr => x.Kind == 0) (t.Kids.map nrm)
      have l2 : (if (tr (fun x => x.Kind == 0) (t.Kids.map nrm)).length = 0 then (0 : Int) else ((tr (fun x => x.Kind == 0) (t.Kids.map nrm)).length : Int)) = ((tr (fun x => x.Kind == 0) (t.Kids.map nrm)).length : Int) := by
        split
        · rename_i h; rw [h]; rfl
        · rfl
      simp only [l2]
      rw [sub_take l1, Option.bind_some, tr_take]
    · have e1 : (t.Kind == 1) = false := by rw [beq_eq_false_iff_ne]; exact h1
      rw [if_neg h1, e1, cond_false, appI_ok (by rw [List.length_nil]; omega) (by rw [List.length_nil]; omega)]
      rfl
theorem rnorm_ok {t : Tr} (h : Bd t) : m_centoref07_Norm t = some (nrm t) := lim_eq (SizeOf.sizeOf t + 1) fun k hk => rnorm_lv k t h (by omega)
/-- two rows of numbers, held side by side -/
theorem any_ne : ∀ (a b : List Int), a.length = b.length → (a.zip b).any (fun p => p.1 != p.2) = !(a == b)
  | [], [], _ => rfl
  | [], _ :: _, h => by simp at h
  | _ :: _, [], h => by simp at h
  | x :: a, y :: b, h => by
    have ih := any_ne a b (by simpa using h)
    rw [List.zip_cons_cons, List.any_cons, ih]
    by_cases hxy : x = y
    · subst hxy; simp
    · simp [bne, hxy]
theorem loop_two {R : Type} (a b : List Int) (step : Int → Option (Int ⊕ R)) (e o : R) (hab : a.length = b.length) (hl : (a.length : Int) ≤ 140737488355328)
    (h1 : ∀ (i : Nat) (x y : Int), i < a.length → a[i]? = some x → b[i]? = some y → step i = some (if (x != y) = true then .inr e else .inl (IntKind.i64.wrap ((i : Int) + 1)))) (h2 : step a.length = some (.inr o)) :
    runLoop step 0 = some (if (a == b) = true then o else e) := by
  have hz : (a.zip b).length = a.length := by rw [List.length_zip]; omega
  have := loop_any (a.zip b) step (fun p => p.1 != p.2) e o (by rw [hz]; exact hl) (fun i p hi hp hm => by
    rw [hz] at hi
    have ha : a[i]? = some a[i] := List.getElem?_eq_getElem hi
    have hb : b[i]? = some b[i] := List.getElem?_eq_getElem (by omega)
    have : p = (a[i], b[i]) := by
      rw [List.getElem?_eq_getElem (by rw [hz]; exact hi)] at hp
      injection hp with hp
      rw [← hp, List.getElem_zip]
    subst this
    exact h1 i _ _ hi ha hb) (by rw [hz]; exact h2)
  rw [this, any_ne a b hab]
  cases a == b <;> rfl
theorem len_ne {a b : Nat} : ((a : Int) != (b : Int)) = !(a == b) := by
  rw [Bool.eq_iff_iff]; simp; omega
theorem beq_len {a b : List Int} (h : ¬ a.length = b.length) : (a == b) = false := by
  rw [beq_eq_false_iff_ne]; intro e; exact h (by rw [e])
theorem sameW_ok {a b : List Int} (h : (a.length : Int) ≤ 140737488355328) : m_centoref01_Same a b = some (a == b) := by
  unfold m_centoref01_Same
  rw [len_ne]
  by_cases hab : a.length = b.length
  · have : (!(a.length == b.length)) = false := by simp [hab]
    rw [this, cond_false, loop_two a b (m_centoref01_Same_L0 a b) (.inl ()) (.inr ()) hab h (fun i x y hi hx hy => by
      unfold m_centoref01_Same_L0
      rw [lt_t hi, cond_true, getI_of hx, Option.bind_some, getI_of hy, Option.bind_some]
      cases x != y <;> rfl) (by unfold m_centoref01_Same_L0; rw [lt_f]; rfl)]
    cases a == b <;> rfl
  · have : (!(a.length == b.length)) = true := by simp [hab]
    rw [this, cond_true, beq_len hab]
theorem nrm_struct {t : Tr} (h : t.Kind = 1) : nrm t = ⟨1, tr (fun x => x == 0) t.Words, tr (fun x => x.Kind == 0) (t.Kids.map nrm)⟩ := by rw [nrm_eq, if_neg (by rw [h]; decide), if_pos h]
section
variable {A : S_arena_Arena}
theorem go_all {f : S_reader_Ref → Int → Tr × Int × Int} {g : Int → S_reader_Ref × Int} {Q : Tr → Prop} (hQ : ∀ i left, Q (f (g i).1 left).1) : ∀ (m i : Nat) (left : Int) (acc : List Tr), (∀ t ∈ acc, Q t) → (∀ t ∈ (kidsGo f g m i left acc).1, Q t) ∧ (kidsGo f g m i left acc).1.length ≤ acc.length + m
  | 0, i, left, acc, h => ⟨h, Nat.le_refl _⟩
  | m + 1, i, left, acc, h => by
    rw [kidsGo]
    split
    · exact ⟨h, by simp only; omega⟩
    split
    · exact ⟨h, by simp only; omega⟩
    · obtain ⟨h1, h2⟩ := go_all hQ m (i + 1) (f (g i).1 left).2.1 (acc ++ [(f (g i).1 left).1]) fun t ht => by
        rcases List.mem_append.1 ht with ht | ht
        · exact h t ht
        · rw [List.mem_singleton] at ht; subst ht; exact hQ i left
      exact ⟨h1, by rw [List.length_append, List.length_singleton] at h2; omega⟩
theorem numW_rg {w c j : Int} (hw : 0 ≤ w ∧ w < 18446744073709551616) : 0 ≤ numW w c j ∧ numW w c j < 18446744073709551616 := by
  unfold numW
  have h1 : w.toNat / 2 ^ (j * wdt c).toNat % 2 ^ (wdt c).toNat ≤ w.toNat / 2 ^ (j * wdt c).toNat := Nat.mod_le _ _
  have h2 : w.toNat / 2 ^ (j * wdt c).toNat ≤ w.toNat := Nat.div_le_self _ _
  omega
theorem wordsL_rg (hw : WS A.segments) (r : S_reader_Ref) : ∀ w ∈ wordsL A r, 0 ≤ w ∧ w < 18446744073709551616 := by
  unfold wordsL
  split
  · intro w hm
    rw [List.mem_singleton] at hm
    subst hm
    unfold numR
    split
    · omega
    · exact numW_rg (wd_rg hw _ _)
  split
  · exact fun w hm => seg_rg hw _ w (List.mem_of_mem_drop (List.mem_of_mem_take hm))
  · exact fun w hm => by cases hm
theorem wordsL_le {r : S_reader_Ref} (h : OKr A r) : (wordsL A r).length ≤ 65536 := by
  unfold wordsL
  cases h with
  | z => simp [r0]
  | st s a d p hd hp hin => simp only [show ¬ (1 : Int) = 10 from by decide, if_false, if_true, List.length_take]; omega
  | li k s a n hk hn hin => simp only; rw [if_neg (by omega), if_neg (by omega)]; simp
  | co => simp
  | at_ => simp
/-- trees that there can be -/
theorem mean_bd (hw : WS A.segments) : ∀ (d : Nat) r left, OKr A r → 0 ≤ left → left ≤ 65536 → Bd (mean A d r left).1 := fun d => by
  have key : ∀ (f : S_reader_Ref → Int → Tr × Int × Int), True := fun _ => trivial
  clear key
  have hst : ∀ (f : S_reader_Ref → Int → Tr × Int × Int), (∀ r left, OKr A r → Bd (f r left).1) → ∀ r left, OKr A r → r.ptrs ≤ 65536 → Bd (stK A f r left).1 := fun f hf r left hr hp => by
    unfold stK
    have := go_all (f := f) (g := kidR A r) (Q := Bd) (fun i left => hf _ left (kid_okr hr i)) r.ptrs.toNat 0 left [] (by simp)
    refine .mk _ (by simp only; have := wordsL_le hr; omega) (by simp only; have := this.2; simp only [List.length_nil] at this; omega) (wordsL_rg hw r) this.1
  have main : ∀ r left, OKr A r → Bd (mean A d r left).1 := by
    induction d using Nat.strongRecOn with
    | ind d ih =>
      intro r left hr
      have hbad : ∀ r left, Bd (bad r left).1 := fun r left => .mk _ (by simp [bad]) (by simp [bad]) (by simp [bad]) (by simp [bad])
      have hP : ∀ k, 1 ≤ k → ∀ r left, OKr A r → Bd (meanP A k d r left).1 := fun k hk r left hr => by
        unfold meanP
        split
        · exact ih _ (by omega) r left hr
        · exact hbad _ _
      rw [mean_eq]
      unfold meanB
      have hwl := wordsL_le hr
      split
      · exact .mk _ (by simp only; omega) (by simp) (wordsL_rg hw r) (by simp)
      split
      · exact .mk _ (by simp only; omega) (by simp) (wordsL_rg hw r) (by simp)
      · have hkn := kidsN_rg hr
        have hQ : ∀ (i : Int) left, Bd (kidF A (meanP A 1 d) (meanP A 2 d) r (kidR A r i).1 left).1 := fun i left => by
          unfold kidF
          split
          · rename_i k9
            have hkr := kid_okr hr i
            refine hst _ (fun r left hr => hP 2 (by omega) r left hr) _ _ hkr ?_
            cases hkr' : (kidR A r i).1 with
            | mk a b c d e f g h j =>
              rw [hkr'] at hkr
              cases hkr with
              | z => simp
              | st s a d p hd hp hin => simp only; omega
              | li k s a n hk => simp
              | co s a d p n hd hp hn => simp only; omega
              | at_ => simp
          split
          · exact hP 1 (by omega) _ _ (kid_okr hr i)
          · unfold atomK
            have := wordsL_le (kid_okr hr i)
            exact .mk _ (by simp only; omega) (by simp) (wordsL_rg hw _) (by simp)
        have := go_all (f := kidF A (meanP A 1 d) (meanP A 2 d) r) (g := kidR A r) (Q := Bd) hQ (kidsN r).toNat 0 (left - wtR r) [] (by simp)
        refine .mk _ (by simp only; omega) ?_ (wordsL_rg hw r) this.1
        have h2 := this.2
        simp only [List.length_nil] at h2 ⊢
        omega
  exact fun r left hr _ _ => main r left hr
end

section
variable {A : S_arena_Arena}
theorem kid_atom2 {r : S_reader_Ref} (hk : 2 ≤ r.kind ∧ r.kind ≤ 7) {i : Int} (h : 0 ≤ i ∧ i < kidsN r) : (kidR A r i).1.kind = 10 ∧ kidsN (kidR A r i).1 = 0 := by
  unfold kidR
  rw [if_neg (by omega), if_neg (by omega), if_neg (by omega), if_neg (by omega)]
  exact ⟨rfl, rfl⟩
end

section
variable {A : S_arena_Arena}
/-- what a message means -/
theorem unfW_or (x : S_api_Limits) : ((unfW A x).2.2 ≠ 0 ∧ (unfW A x).1 = ⟨0, [], []⟩ ∧ (chkW A x).2 = (unfW A x).2.2) ∨ ((unfW A x).2.2 = 0 ∧ (chkW A x).2 = 0 ∧ (atR A 0 0).2 = 0 ∧ (mean A (lims x).Depth.toNat (atR A 0 0).1 (lims x).Weight).2.2 = 0 ∧ (unfW A x).1 = (mean A (lims x).Depth.toNat (atR A 0 0).1 (lims x).Weight).1) := by
  have hc : (chkW A x).2 = (unfW A x).2.2 := by rw [← unf_chk]
  unfold unfW at hc ⊢
  by_cases h : (atR A 0 0).2 ≠ 0
  · rw [if_pos h] at hc ⊢
    exact .inl ⟨h, rfl, hc⟩
  rw [if_neg h] at hc ⊢
  simp only at hc ⊢
  by_cases hq : (mean A (lims x).Depth.toNat (atR A 0 0).1 (lims x).Weight).2.2 ≠ 0
  · rw [if_pos hq] at hc ⊢
    exact .inl ⟨hq, rfl, hc⟩
  · rw [if_neg hq] at hc ⊢
    exact .inr ⟨rfl, hc, by omega, by omega, rfl⟩
theorem lims_d (x : S_api_Limits) : (lims x).Depth.toNat ≤ 64 ∧ 0 ≤ (lims x).Weight ∧ (lims x).Weight ≤ 65536 := by
  have hd : 0 ≤ (lims x).Depth ∧ (lims x).Depth ≤ 64 := clamp_rg _ _ (by decide)
  have hW : 0 ≤ (lims x).Weight ∧ (lims x).Weight ≤ 65536 := clamp_rg _ _ (by decide)
  omega
theorem unfW_bd (hw : WS A.segments) (x : S_api_Limits) : Bd (unfW A x).1 := by
  have hl := lims_d x
  rcases unfW_or (A := A) x with ⟨h1, h2, h3⟩ | ⟨h1, h2, h3, h4, h5⟩
  · rw [h2]; exact .mk _ (by simp) (by simp) (by simp) (by simp)
  · rw [h5]; exact mean_bd hw _ _ _ (at_okr 0 0) hl.2.1 hl.2.2
end
section
variable {A : S_arena_Arena}
end

theorem encS {off data ptrs : Int} (a : -536870912 ≤ off) (b : off < 536870912) (c : 0 ≤ data) (d : data < 65536) (e : 0 ≤ ptrs) (f : ptrs < 65536) (g : ¬ (off = 0 ∧ data = 0 ∧ ptrs = 0)) :
    m_ptr_Encode (⟨1, off, data, ptrs, 0, 0, 0, false⟩ : S_ptr_Ptr) = some (off % 1073741824 * 4 + data * 4294967296 + ptrs * 281474976710656, true) := by
  have hd : decP ((off % 1073741824).toNat * 4 + data.toNat * 4294967296 + ptrs.toNat * 281474976710656) = ⟨1, off, data, ptrs, 0, 0, 0, false⟩ := by
    generalize hw : (off % 1073741824).toNat * 4 + data.toNat * 4294967296 + ptrs.toNat * 281474976710656 = w
    have h1 : ¬ w = 0 := by omega
    have h2 : w % 4 = 0 := by omega
    unfold decP
    rw [if_neg h1, if_pos h2]
    unfold offN
    simp only [S_ptr_Ptr.mk.injEq, true_and, and_true]
    refine ⟨?_, by omega, by omega⟩
    split <;> omega
  have := encode_dec ((off % 1073741824).toNat * 4 + data.toNat * 4294967296 + ptrs.toNat * 281474976710656) (by omega) (by rw [hd]; show ¬ (1 : Int) = 4; decide)
  rw [hd] at this
  rw [this]
  congr 2
  omega
section
variable {A : S_arena_Arena}
theorem land1023 (x : Int) : ∃ k : Nat, k ≤ 1023 ∧ IntKind.i64.wrap (landI .i64 x 1023) = (k : Int) := by
  have h : (BitVec.ofInt 64 x &&& BitVec.ofInt 64 1023).toNat ≤ 1023 := by
    rw [BitVec.toNat_and]
    exact Nat.le_trans Nat.and_le_right (by decide)
  refine ⟨(BitVec.ofInt 64 x &&& BitVec.ofInt 64 1023).toNat, h, ?_⟩
  have e : landI .i64 x 1023 = ((BitVec.ofInt 64 x &&& BitVec.ofInt 64 1023).toNat : Int) := rfl
  rw [e]
  exact i64w (by omega)
/-- the kids that are gone through without an error -/
theorem go_each {f : S_reader_Ref → Int → Tr × Int × Int} {g : Int → S_reader_Ref × Int} : ∀ (m i : Nat) (left : Int) (acc : List Tr), (kidsGo f g m i left acc).2.2 = 0 →
    ∃ ts : List Tr, (kidsGo f g m i left acc).1 = acc ++ ts ∧ ts.length = m ∧ ∀ (j : Nat) (x : Tr), ts[j]? = some x → (g ((i + j : Nat) : Int)).2 = 0 ∧ ∃ l', (f (g ((i + j : Nat) : Int)).1 l').2.2 = 0 ∧ x = (f (g ((i + j : Nat) : Int)).1 l').1
  | 0, i, left, acc, _ => ⟨[], by simp [kidsGo], rfl, fun j x h => by simp at h⟩
  | m + 1, i, left, acc, h => by
    rw [kidsGo] at h ⊢
    by_cases h1 : (g i).2 ≠ 0
    · rw [if_pos h1] at h; exact absurd h h1
    rw [if_neg h1] at h ⊢
    by_cases h2 : (f (g i).1 left).2.2 ≠ 0
    · rw [if_pos h2] at h; exact absurd h h2
    rw [if_neg h2] at h ⊢
    obtain ⟨ts, c1, c2, c3⟩ := go_each m (i + 1) _ _ h
    refine ⟨(f (g i).1 left).1 :: ts, by rw [c1, List.append_assoc]; rfl, by rw [List.length_cons, c2], fun j x hx => ?_⟩
    cases j with
    | zero =>
      simp only [List.getElem?_cons_zero, Option.some.injEq] at hx
      exact ⟨by simpa using h1, left, by simpa using h2, by simpa using hx.symm⟩
    | succ j =>
      rw [List.getElem?_cons_succ] at hx
      have := c3 j x hx
      rwa [show i + 1 + j = i + (j + 1) by omega] at this
/-- a tree that a value means, and may be gone through as it -/
inductive MR (A : S_arena_Arena) : S_reader_Ref → Tr → Prop
  | mk (r : S_reader_Ref) (t : Tr) (ho : OKr A r) (hk : t.Kind = r.kind) (hw : t.Words = wordsL A r) (hl : (t.Kids.length : Int) = kidsN r)
      (he : ∀ (i : Nat) (x : Tr), t.Kids[i]? = some x → (kidR A r i).2 = 0) (hs : ∀ (i : Nat) (x : Tr), t.Kids[i]? = some x → MR A (kidR A r i).1 x) : MR A r t
theorem MR.o {r : S_reader_Ref} {t : Tr} (h : MR A r t) : OKr A r := by cases h; assumption
theorem MR.kd {r : S_reader_Ref} {t : Tr} (h : MR A r t) : t.Kind = r.kind := by cases h; assumption
theorem MR.ws {r : S_reader_Ref} {t : Tr} (h : MR A r t) : t.Words = wordsL A r := by cases h; assumption
theorem MR.len {r : S_reader_Ref} {t : Tr} (h : MR A r t) : (t.Kids.length : Int) = kidsN r := by cases h; assumption
theorem MR.kid {r : S_reader_Ref} {t : Tr} (h : MR A r t) {i : Nat} {x : Tr} (hx : t.Kids[i]? = some x) : (kidR A r i).2 = 0 ∧ MR A (kidR A r i).1 x := by
  cases h with
  | mk _ _ _ _ _ _ he hs => exact ⟨he i x hx, hs i x hx⟩
theorem kids0 {r : S_reader_Ref} (h : OKr A r) (hk : r.kind = 0 ∨ r.kind = 10) : kidsN r = 0 := by
  cases h <;> simp_all [kidsN, r0]
  omega
theorem mr_leaf {r : S_reader_Ref} (h : OKr A r) (h0 : kidsN r = 0) : MR A r ⟨r.kind, wordsL A r, []⟩ := .mk _ _ h rfl rfl (by simp [h0]) (fun i x hx => by simp at hx) (fun i x hx => by simp at hx)
theorem mr_mean : ∀ (d : Nat) (r : S_reader_Ref) (left : Int), OKr A r → (mean A d r left).2.2 = 0 → MR A r (mean A d r left).1 := fun d => by
  induction d using Nat.strongRecOn with
  | _ d ih =>
    intro r left ho hq
    have iP : ∀ (k : Nat) (r : S_reader_Ref) (left : Int), 0 < k → OKr A r → (meanP A k d r left).2.2 = 0 → MR A r (meanP A k d r left).1 := fun k r left hk ho h => by
      unfold meanP at h ⊢
      by_cases q : k ≤ d
      · rw [if_pos q] at h ⊢
        exact ih (d - k) (by omega) r left ho h
      · rw [if_neg q] at h
        simp [bad] at h
    rw [mean_eq] at hq ⊢
    unfold meanB at hq ⊢
    by_cases h0 : r.kind = 0
    · rw [if_pos h0] at hq ⊢
      exact mr_leaf ho (kids0 ho (.inl h0))
    rw [if_neg h0] at hq ⊢
    by_cases h1 : (d : Int) < lvR r ∨ left < wtR r
    · rw [if_pos h1] at hq
      simp at hq
    rw [if_neg h1] at hq ⊢
    simp only at hq ⊢
    obtain ⟨ts, c1, c2, c3⟩ := go_each _ _ _ _ hq
    have hn := kidsN_rg ho
    rw [c1, List.nil_append]
    have key : ∀ (i : Nat) (x : Tr), ts[i]? = some x → (kidR A r i).2 = 0 ∧ MR A (kidR A r i).1 x := fun i x hx => by
      have hi : i < ts.length := (List.getElem?_eq_some_iff.1 hx).1
      obtain ⟨e1, l', e2, e3⟩ := c3 i x hx
      rw [Nat.zero_add] at e1 e2 e3
      refine ⟨e1, ?_⟩
      have hi2 : (0 : Int) ≤ (i : Int) ∧ (i : Int) < kidsN r := by omega
      have hko := kid_okr ho (i : Int)
      rw [e3]
      unfold kidF at e2 ⊢
      by_cases k9 : r.kind = 9
      · rw [if_pos k9] at e2 ⊢
        have ks := kid_struct1 (A := A) k9 hi2
        generalize (kidR A r (i : Int)).1 = k at *
        unfold stK at e2 ⊢
        simp only at e2 ⊢
        obtain ⟨ts', d1, d2, d3⟩ := go_each _ _ _ _ e2
        have hn' := kidsN_rg hko
        have hp : kidsN k = k.ptrs := by unfold kidsN; rw [if_pos ks]
        rw [d1, List.nil_append]
        refine .mk _ _ hko ks.symm rfl (by simp only; omega) (fun j y hy => ?_) (fun j y hy => ?_)
        · have := (d3 j y hy).1
          rwa [Nat.zero_add] at this
        · obtain ⟨f1, l'', f2, f3⟩ := d3 j y hy
          rw [Nat.zero_add] at f1 f2 f3
          rw [f3]
          exact iP 2 _ _ (by decide) (kid_okr hko _) f2
      rw [if_neg k9] at e2 ⊢
      by_cases k18 : r.kind = 1 ∨ r.kind = 8
      · rw [if_pos k18] at e2 ⊢
        exact iP 1 _ _ (by decide) hko e2
      rw [if_neg k18] at e2 ⊢
      have kk := kind1 ho
      have k10 : ¬ r.kind = 10 := fun h => by
        have := kids0 ho (.inr h)
        omega
      exact mr_leaf hko (kid_atom2 (A := A) (by omega) hi2).2
    exact .mk _ _ ho rfl rfl (by simp only; omega) (fun i x hx => (key i x hx).1) (fun i x hx => (key i x hx).2)
theorem mr_bd (hw : WS A.segments) {r : S_reader_Ref} {t : Tr} (h : MR A r t) : Bd t := by
  induction h with
  | mk r t ho hk hws hl he hs ih =>
    have h1 := wordsL_le ho
    have h2 := kidsN_rg ho
    refine .mk _ (by rw [hws]; omega) (by omega) (by rw [hws]; exact wordsL_rg hw r) (fun k hk => ?_)
    obtain ⟨i, hi⟩ := List.mem_iff_getElem?.1 hk
    exact ih i k hi
theorem tr_trN {α : Type} (p : α → Bool) (l : List α) : trN p l l.length = (tr p l).length := by
  have := trN_tr (p := p) (l := l) l.length (Nat.le_refl _)
  rw [List.take_length] at this
  rw [← this.1, List.length_take]
  omega
theorem long_ok (hw : WS A.segments) {r : S_reader_Ref} (h : OKr A r) : m_copy_Long r = some (((tr (fun x => x == 0) (wordsL A r)).length : Nat) : Int) := by
  have hl := wordsL_len hw h
  have hn : (wordsL A r).length ≤ 65536 := wordsL_le h
  unfold m_copy_Long
  rw [rWords_ok, Option.bind_some, ← hl]
  rw [loop_tr (wordsL A r) (fun x => x == 0) (m_copy_Long_L0 r) (by omega) (by
    unfold m_copy_Long_L0
    rfl) (fun n x hx hn' => by
    unfold m_copy_Long_L0
    have e : IntKind.i64.wrap (((n + 1 : Nat) : Int) - 1) = (n : Int) := by rw [i64s (by omega) (by omega)]; omega
    have ew : wordR A r (n : Int) = x := by
      rw [← wordsL_at hw h hn']
      rw [List.getElem?_eq_getElem hn'] at hx
      exact Option.some.inj hx
    rw [e, decide_eq_true (by omega), cond_true, word_ok hw h, Option.bind_some, ew, cond_true, Option.bind_some]
    cases hq : x == 0 with
    | true => simp
    | false => simp), tr_trN]
  rfl
theorem wide_ok (hw : WS A.segments) {r : S_reader_Ref} {t : Tr} (h : MR A r t) : m_copy_Wide r = some ((((tr (fun x => x.Kind == 0) t.Kids).length : Nat) : Int), 0) := by
  have hl := h.len
  have hn := kidsN_rg h.o
  have key : ∀ n : Nat, n ≤ t.Kids.length → runLoop (m_copy_Wide_L0 r) (n : Int) = some (if trN (fun x : Tr => x.Kind == 0) t.Kids n = 0 then .inr () else .inl (((trN (fun x : Tr => x.Kind == 0) t.Kids n : Nat) : Int), 0)) := fun n => by
    induction n with
    | zero =>
      intro _
      refine runLoop_end ?_
      unfold m_copy_Wide_L0
      rfl
    | succ n ih =>
      intro hn'
      have hx : t.Kids[n]? = some t.Kids[n] := List.getElem?_eq_getElem (by omega)
      obtain ⟨e1, e2⟩ := h.kid hx
      have e : IntKind.i64.wrap (((n + 1 : Nat) : Int) - 1) = (n : Int) := by rw [i64s (by omega) (by omega)]; omega
      have st : m_copy_Wide_L0 r ((n + 1 : Nat) : Int) = some (cond (t.Kids[n].Kind == 0) (.inl (n : Int)) (.inr (.inl (((n + 1 : Nat) : Int), 0)))) := by
        unfold m_copy_Wide_L0
        rw [decide_eq_true (by omega), cond_true, e, kid_ok hw h.o, Option.bind_some, e1, show m_reader_Ref_Kind (kidR A r (n : Int)).1 = some (kidR A r (n : Int)).1.kind from rfl, ← e2.kd]
        cases hq : t.Kids[n].Kind == 0 with
        | true => simp [bne, hq]
        | false => simp [bne, hq]
      unfold trN
      rw [hx]
      simp only
      cases hq : t.Kids[n].Kind == 0 with
      | true =>
        rw [hq, cond_true] at st
        rw [runLoop_step st, ih (by omega)]
        rfl
      | false =>
        rw [hq, cond_false] at st
        rw [runLoop_end st]
        rfl
  unfold m_copy_Wide
  rw [rKids_ok, Option.bind_some, ← hl, key _ (Nat.le_refl _), tr_trN]
  by_cases q : (tr (fun x : Tr => x.Kind == 0) t.Kids).length = 0
  · rw [if_pos q]
    simp only [Option.bind_some]
    rw [q]
    rfl
  · rw [if_neg q]
    rfl
end

section
variable {A : S_arena_Arena}
def pst (i : Int) (r : S_reader_Ref) (t : Tr) : Int × Int × List Int × List Tr × Option S_arena_Arena × Int × Int × Int × Int × Int × Int × Int × Int := (i, t.Kind, t.Words, t.Kids, r.a, r.kind, r.segment, r.at_, r.words, r.ptrs, r.count, r.code, r.index)
theorem walk14 (hw : WS A.segments) {p : List Int} (hp : p.length * 8 ≤ 140737488355328) : ∀ (k i : Nat) (r : S_reader_Ref) (t : Tr), p.length ≤ i + k → MR A r t → ∃ (r' : S_reader_Ref) (t' : Tr), MR A r' t' ∧ runLoop (m_centolaw14_CopyEnds_L0 p) (pst (i : Int) r t) = some (pst 0 r' t').2 := fun k => by
  induction k with
  | zero =>
    intro i r t hk hm
    refine ⟨r, t, hm, runLoop_end ?_⟩
    unfold m_centolaw14_CopyEnds_L0 pst
    simp only
    rw [decide_eq_false (by omega)]
    rfl
  | succ k ih =>
    intro i r t hk hm
    by_cases hc : i < p.length ∧ i < 20 ∧ 0 < t.Kids.length
    · obtain ⟨h1, h2, h3⟩ := hc
      obtain ⟨m, hm1, hm2⟩ := land1023 p[i]
      have hj : m % t.Kids.length < t.Kids.length := Nat.mod_lt _ h3
      have hx : t.Kids[m % t.Kids.length]? = some t.Kids[m % t.Kids.length] := List.getElem?_eq_getElem hj
      obtain ⟨e1, e2⟩ := hm.kid hx
      obtain ⟨r', t', q1, q2⟩ := ih (i + 1) _ _ (by omega) e2
      refine ⟨r', t', q1, (runLoop_step ?_).trans q2⟩
      unfold m_centolaw14_CopyEnds_L0 pst
      simp only
      have et : Int.tmod (m : Int) (t.Kids.length : Int) = ((m % t.Kids.length : Nat) : Int) := by
        rw [Int.tmod_eq_emod_of_nonneg (by omega), Int.natCast_emod]
      rw [decide_eq_true (by omega), decide_eq_true (by omega), decide_eq_true (by omega)]
      simp only [cond_true]
      rw [getI_of (List.getElem?_eq_getElem h1), Option.bind_some, guardI_ok (by omega), Option.bind_some, hm2, et, kid_ok hw hm.o, Option.bind_some, getI_of hx, Option.bind_some, i64s (by omega) (by omega)]
      rfl
    · refine ⟨r, t, hm, runLoop_end ?_⟩
      unfold m_centolaw14_CopyEnds_L0 pst
      simp only
      have : (cond (cond (decide ((i : Int) < (p.length : Int))) (decide ((i : Int) < 20)) false) (decide (0 < (t.Kids.length : Int))) false) = false := by
        by_cases h1 : i < p.length
        · by_cases h2 : i < 20
          · rw [decide_eq_true (by omega), cond_true, decide_eq_true (by omega), cond_true, decide_eq_false (by omega)]
          · rw [decide_eq_true (by omega), cond_true, decide_eq_false (by omega), cond_false]
        · rw [decide_eq_false (by omega), cond_false, cond_false]
      rw [this, cond_false]
end
def a14 : S_arena_Arena := ⟨[[8589934592, 7, 0]], 0, 0⟩
def r14 : S_reader_Ref := ⟨some a14, 1, 0, 1, 2, 0, 0, 0, 0⟩
theorem fol_a14 : fol a14.segments 0 0 = (⟨⟨1, 0, 2, 0, 0, 0, 0, false⟩, 0, 1⟩, 0) := rfl
theorem at_a14 : atR a14 0 0 = (r14, 0) := by
  unfold atR
  rw [fol_a14]
  rfl
theorem ws14 : WS a14.segments := ws_one _ (by simp) (by simp)
theorem words14 : wordsL a14 r14 = [7, 0] := rfl
theorem mr14 : MR a14 r14 ⟨1, [7, 0], []⟩ := by
  have ho : OKr a14 r14 := by
    have := at_okr (A := a14) 0 0
    rwa [at_a14] at this
  exact mr_leaf ho rfl
theorem long14 : m_copy_Long r14 = some 1 := by
  rw [long_ok ws14 mr14.o, words14]
  rfl
theorem wide14 : m_copy_Wide r14 = some (0, 0) := by
  rw [wide_ok ws14 mr14]
  rfl
theorem meter14 : m_copy_meter_value (⟨1⟩ : S_copy_meter) r14 = some (0, ⟨0⟩) := by
  refine lim_eq 2 fun k hk => ?_
  obtain ⟨j, rfl⟩ : ∃ j, k = j + 2 := ⟨k - 2, by omega⟩
  show b_copy_meter_value (lv_copy_meter_value (j + 1)).1 (lv_copy_meter_value (j + 1)).2.1 (lv_copy_meter_value (j + 1)).2.2 ⟨1⟩ r14 = _
  unfold b_copy_meter_value
  have hk1 : m_reader_Ref_Kind r14 = some 1 := rfl
  have ht : m_copy_meter_take ⟨1⟩ (IntKind.i64.wrap (1 + 0)) = some (0, ⟨0⟩) := rfl
  have hkd : (lv_copy_meter_value (j + 1)).2.1 ⟨0⟩ r14 0 = some (0, ⟨0⟩) := by
    show b_copy_meter_kids (lv_copy_meter_value j).1 (lv_copy_meter_value j).2.1 (lv_copy_meter_value j).2.2 ⟨0⟩ r14 0 = _
    unfold b_copy_meter_kids
    have : runLoop (b_copy_meter_kids_L0 (lv_copy_meter_value j).1 r14 0) (0, 0) = some (.inr 0) := runLoop_end rfl
    rw [this]
    rfl
  rw [hk1, Option.bind_some, wide14]
  simp only [Option.bind_some]
  rw [long14, Option.bind_some, ht]
  simp only [Option.bind_some]
  rw [hkd]
  rfl
theorem point14 : m_copy_layer_point (⟨[0, 0], 1⟩ : S_copy_layer) 0 r14 = some ⟨[4294967296, 7], 2⟩ := by
  refine lim_eq 3 fun k hk => ?_
  obtain ⟨j, rfl⟩ : ∃ j, k = j + 3 := ⟨k - 3, by omega⟩
  show b_copy_layer_point (lv_copy_layer_point (j + 2)).1 (lv_copy_layer_point (j + 2)).2.1 (lv_copy_layer_point (j + 2)).2.2.1 (lv_copy_layer_point (j + 2)).2.2.2 ⟨[0, 0], 1⟩ 0 r14 = _
  unfold b_copy_layer_point
  have hk1 : m_reader_Ref_Kind r14 = some 1 := rfl
  have hs : m_copy_shape r14 = some ⟨1, 0, 1, 0, 0, 0, 0, false⟩ := by
    unfold m_copy_shape
    rw [hk1, Option.bind_some, wide14]
    simp only [Option.bind_some]
    rw [long14]
    rfl
  have he : m_ptr_Encode (⟨1, 0, 1, 0, 0, 0, 0, false⟩ : S_ptr_Ptr) = some (4294967296, true) := encS (by decide) (by decide) (by decide) (by decide) (by decide) (by decide) (by decide)
  have hp : m_ptr_Ptr_Words (⟨1, 0, 1, 0, 0, 0, 0, false⟩ : S_ptr_Ptr) = some (1, true) := rfl
  have hw0 : m_reader_Ref_Word r14 0 = some 7 := by
    rw [word_ok ws14 mr14.o]
    rfl
  have hdt : m_copy_layer_data (⟨[4294967296, 0], 2⟩ : S_copy_layer) 1 r14 1 = some ⟨[4294967296, 7], 2⟩ := by
    unfold m_copy_layer_data
    have s1 : m_copy_layer_data_L0 1 r14 1 (0, [4294967296, 0]) = some (.inl (1, [4294967296, 7])) := by
      unfold m_copy_layer_data_L0
      simp only
      rw [decide_eq_true (by decide), cond_true, hw0]
      rfl
    have : runLoop (m_copy_layer_data_L0 1 r14 1) (0, [4294967296, 0]) = some [4294967296, 7] := (runLoop_step s1).trans (runLoop_end rfl)
    rw [this]
    rfl
  have hpa : (lv_copy_layer_point (j + 1)).2.2.1 (⟨[4294967296, 7], 2⟩ : S_copy_layer) 2 r14 0 = some ⟨[4294967296, 7], 2⟩ := by
    show b_copy_layer_pointAll (lv_copy_layer_point j).1 (lv_copy_layer_point j).2.1 (lv_copy_layer_point j).2.2.1 (lv_copy_layer_point j).2.2.2 ⟨[4294967296, 7], 2⟩ 2 r14 0 = _
    unfold b_copy_layer_pointAll
    have : runLoop (b_copy_layer_pointAll_L0 (lv_copy_layer_point j).1 2 r14 0) (0, [4294967296, 7], 2) = some ([4294967296, 7], 2) := runLoop_end rfl
    rw [this]
    rfl
  have hc : (lv_copy_layer_point (j + 2)).2.1 (⟨[4294967296, 0], 2⟩ : S_copy_layer) 1 (⟨1, 0, 1, 0, 0, 0, 0, false⟩ : S_ptr_Ptr) r14 = some ⟨[4294967296, 7], 2⟩ := by
    show b_copy_layer_content (lv_copy_layer_point (j + 1)).1 (lv_copy_layer_point (j + 1)).2.1 (lv_copy_layer_point (j + 1)).2.2.1 (lv_copy_layer_point (j + 1)).2.2.2 ⟨[4294967296, 0], 2⟩ 1 ⟨1, 0, 1, 0, 0, 0, 0, false⟩ r14 = _
    unfold b_copy_layer_content
    rw [hk1, Option.bind_some]
    simp only
    rw [show ((1 : Int) == 1) = true from rfl, cond_true, hdt, Option.bind_some]
    simp only
    rw [show IntKind.i64.wrap (1 + 1) = 2 from rfl, hpa]
    rfl
  rw [hk1, Option.bind_some, show ((1 : Int) == 0) = false from rfl, cond_false, hs, Option.bind_some, hp, Option.bind_some]
  simp only
  rw [show ((1 : Int) == 1) = true from rfl, cond_true, show ((1 : Int) == 0) = false from rfl, cond_false, Option.bind_some, show IntKind.i64.wrap (IntKind.i64.wrap (1 - 0) - 1) = 0 from rfl, he, Option.bind_some, show getI ([0, 0] : List Int) 0 = some 0 from rfl, Option.bind_some, show setI ([0, 0] : List Int) 0 ((4294967296, true) : Int × Bool).1 = [4294967296, 0] from rfl, show IntKind.i64.wrap (1 + 1) = 2 from rfl, hc]
  rfl
theorem awake14_p : m_centolaw14_awake = some true := by
  unfold m_centolaw14_awake
  have ho : m_arena_Of ([([8589934592, 7, 0] : List Int)] : List (List Int)) = some (some a14) := aOf_ok ws14
  have hr : m_reader_Root (some a14) = some (r14, 0) := by rw [root_ok ws14, at_a14]
  have hwd : m_copy_Words r14 2 = some ([4294967296, 7], 0) := by
    unfold m_copy_Words
    have hk1 : m_reader_Ref_Kind r14 = some 1 := rfl
    have ht : m_copy_meter_take (⟨(if (131072 : Int) < 2 then 131072 else 2)⟩ : S_copy_meter) 1 = some (0, ⟨1⟩) := rfl
    rw [hk1, Option.bind_some, show ((1 : Int) == 10) = false from rfl, cond_false, ht, Option.bind_some]
    simp only
    rw [show ((0 : Int) != 0) = false from rfl, cond_false, meter14, Option.bind_some]
    simp only
    rw [show ((0 : Int) != 0) = false from rfl, cond_false, show (makeI 8 (IntKind.i64.wrap ((if (131072 : Int) < 2 then 131072 else 2) - 0)) (0 : Int)) = some [0, 0] from rfl, Option.bind_some, point14]
    rfl
  rw [ho, Option.bind_some, hr, Option.bind_some]
  simp only
  rw [hwd, Option.bind_some, long14]
  simp only
  rw [sameW_ok (by decide)]
  rfl
theorem copyEnds_p {l : List (List Int)} (hw : WS l) (x : S_api_Limits) {p : List Int} (hp : p.length * 8 ≤ 140737488355328) : m_centolaw14_CopyEnds l x p = some true := by
  obtain ⟨w, hx⟩ := light_ok x
  unfold m_centolaw14_CopyEnds
  rw [hx, Option.bind_some]
  generalize (⟨x.Depth, w, x.MaxD, x.MaxOut⟩ : S_api_Limits) = y
  have hl := lims_d y
  have hb := unfW_bd (A := ⟨l, 0, 0⟩) hw y
  rw [show m_centoref10_Unfold l y = _ from unfold_ok (A := ⟨l, 0, 0⟩) hw y, Option.bind_some, awake14_p]
  rcases unfW_or (A := ⟨l, 0, 0⟩) y with ⟨h1, h2, h3⟩ | ⟨h1, h2, h3, h4, h5⟩
  · rw [bne_iff_ne.2 h1, cond_true]; rfl
  · rw [h1, show ((0 : Int) != 0) = false from rfl, cond_false, aOf_ok hw, Option.bind_some, root_ok (A := ⟨l, 0, 0⟩) hw, Option.bind_some]
    have hm := mr_mean (A := ⟨l, 0, 0⟩) _ _ _ (at_okr 0 0) h4
    rw [← h5] at hm
    obtain ⟨r', t', q1, q2⟩ := walk14 (A := ⟨l, 0, 0⟩) hw hp p.length 0 _ _ (by omega) hm
    unfold pst at q2
    have q3 : m_copy_Long ⟨r'.a, r'.kind, r'.segment, r'.at_, r'.words, r'.ptrs, r'.count, r'.code, r'.index⟩ = _ := long_ok (A := ⟨l, 0, 0⟩) hw q1.o
    have q4 : m_copy_Wide ⟨r'.a, r'.kind, r'.segment, r'.at_, r'.words, r'.ptrs, r'.count, r'.code, r'.index⟩ = _ := wide_ok (A := ⟨l, 0, 0⟩) hw q1
    rw [show ((0 : Nat) : Int) = 0 from rfl] at q2
    rw [q2, Option.bind_some]
    simp only
    by_cases hk : t'.Kind = 1
    · have hbt : Bd t' := mr_bd (A := ⟨l, 0, 0⟩) hw q1
      have q5 : m_centoref07_Norm ⟨t'.Kind, t'.Words, t'.Kids⟩ = some (nrm t') := by rw [tr_mk]; exact rnorm_ok hbt
      rw [hk, show ((1 : Int) != 1) = false from rfl, cond_false, q4, Option.bind_some, q3, Option.bind_some]
      rw [hk] at q5
      rw [q5, Option.bind_some]
      have en : nrm t' = ⟨1, tr (fun x => x == 0) t'.Words, tr (fun x => x.Kind == 0) (t'.Kids.map nrm)⟩ := nrm_struct hk
      have ek : (nrm t').Kids.length = (tr (fun x : Tr => x.Kind == 0) t'.Kids).length := by
        rw [en]
        simp only
        have := tr_map (p := fun x : Tr => x.Kind == 0) (q := fun x : Tr => x.Kind == 0) (f := nrm) (fun x => by simp only [nrm_kind]) t'.Kids
        exact (congrArg List.length this).trans (List.length_map _)
      have ew : (nrm t').Words.length = (tr (fun x : Int => x == 0) (wordsL ⟨l, 0, 0⟩ r')).length := by
        rw [en, q1.ws]
      rw [← ew, ← ek]
      simp
    · rw [bne_iff_ne.2 hk, cond_true]
      rfl



end Go.Proofs.Ytpfbdlcnfekdkaa
