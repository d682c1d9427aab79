/- Plain facts on this seat's mirrors (part AP3e); each theorem bears its own conditions. -/
import Derived.Test.YtgijkjifiekkmaaAP3d
import Derived.IntWalk
namespace Go.Proofs.Ytgijkjifiekkmaa
open Go.RowKit
set_option linter.unusedVariables false
set_option linter.unusedSimpArgs false
def unframeR (b : List Int) : List (List Int) × Int :=
  if (headR b).2 ≠ 0 then ([], (headR b).2)
  else if (b.drop (headN (headR b).1.length)).length < 8 * sumP (headR b).1 then ([], 4)
  else if 8 * sumP (headR b).1 < (b.drop (headN (headR b).1.length)).length then ([], 6)
  else (cutP (headR b).1 (b.drop (headN (headR b).1.length)), 0)
theorem headR_ok {b : List Int} (h : (headR b).2 = 0) : (∀ x ∈ (headR b).1, isN x) ∧ (headR b).1.length ≤ 16 ∧ headN (headR b).1.length ≤ b.length ∧ (headR b).1 = sizesP b (num4 b 0 + 1) := by
  unfold headR at h ⊢
  split
  · rename_i h1; rw [if_pos h1] at h; cases h
  · rename_i h1
    rw [if_neg h1] at h
    split
    · rename_i h2; rw [if_pos h2] at h; cases h
    · rename_i h2
      rw [if_neg h2] at h
      split
      · rename_i h3; rw [if_pos h3] at h; cases h
      · rename_i h3
        rw [if_neg h3] at h
        split
        · rename_i h4; rw [if_pos h4] at h; cases h
        · rename_i h4
          rw [if_neg h4] at h
          split
          · rename_i h5; rw [if_pos h5] at h; cases h
          · have hl : (sizesP b (num4 b 0 + 1)).length = num4 b 0 + 1 := by unfold sizesP; rw [List.length_map, List.length_range]
            refine ⟨fun x hx => ?_, by simp only [hl]; omega, by simp only [hl]; omega, rfl⟩
            simp only at hx
            unfold sizesP at hx
            obtain ⟨i, hi, rfl⟩ := List.mem_map.1 hx
            have : ¬ 65536 < num4 b (4 * (i + 1)) := fun q => h4 (List.any_eq_true.2 ⟨i, hi, by rw [decide_eq_true_eq]; exact q⟩)
            unfold isN
            omega
theorem unframe_p {b : List Int} (hb : ∀ x ∈ b, isB x) (hbl : b.length ≤ 1000000000) : m_frame_Unframe b = some (unframeR b) := by
  unfold m_frame_Unframe unframeR
  rw [head_p hb (by omega), Option.bind_some]
  by_cases h : (headR b).2 = 0
  · obtain ⟨hN, hl, hh, _⟩ := headR_ok h
    obtain ⟨y, hy⟩ : ∃ y, headR b = y := ⟨_, rfl⟩
    rw [hy] at h hN hl hh ⊢
    have e : (y.2 != 0) = false := by simp [h]
    have hsum := sumP_le y.1 hN
    rw [e, cond_false, if_neg (by simp [h]), headLen_p y.1.length (by omega), Option.bind_some, subI_ok (by omega) (by omega) (by omega), Option.bind_some]
    have e2 : ((b.drop (Int.toNat (headN y.1.length : Int))).take ((b.length : Int) - (headN y.1.length : Int)).toNat) = b.drop (headN y.1.length) := by
      rw [Int.toNat_natCast, List.take_of_length_le (by rw [List.length_drop]; omega)]
    rw [e2, unf_l0 y hN (by omega), Option.bind_some, i64w (x := 8 * (sumP y.1 : Int)) (by omega)]
    have hr : ∀ x ∈ b.drop (headN y.1.length), isB x := fun x hx => hb x (List.mem_of_mem_drop hx)
    obtain ⟨r, hre⟩ : ∃ r, b.drop (headN y.1.length) = r := ⟨_, rfl⟩
    rw [hre] at hr ⊢
    by_cases h1 : r.length < 8 * sumP y.1
    · have c : decide ((r.length : Int) < 8 * (sumP y.1 : Int)) = true := by rw [decide_eq_true_eq]; omega
      rw [c, cond_true, if_pos h1]
    have c1 : decide ((r.length : Int) < 8 * (sumP y.1 : Int)) = false := by rw [decide_eq_false_iff_not]; omega
    rw [c1, cond_false, if_neg h1]
    by_cases h2 : 8 * sumP y.1 < r.length
    · have c : decide (8 * (sumP y.1 : Int) < (r.length : Int)) = true := by rw [decide_eq_true_eq]; omega
      rw [c, cond_true, if_pos h2]
    have c2 : decide (8 * (sumP y.1 : Int) < (r.length : Int)) = false := by rw [decide_eq_false_iff_not]; omega
    rw [c2, cond_false, if_neg h2, unf_l1 y hN (by omega) r hr (by omega), Option.bind_some]
  · have e : ((headR b).2 != 0) = true := by simp [h]
    rw [e, cond_true, if_pos h]
theorem awake_p : m_centolaw03_awake = some true := by
  unfold m_centolaw03_awake
  have hf : m_frame_Frame ([([7] : List Int)] : List (List Int)) = some ([0, 0, 0, 0, 1, 0, 0, 0, 7, 0, 0, 0, 0, 0, 0, 0], true) :=
    (frame_p [[7]] ⟨by decide, by decide, by simp⟩ (by simp [isW])).trans (by decide)
  have hu : m_frame_Unframe [0, 0, 0, 0, 1, 0, 0, 0, 7, 0, 0, 0, 0, 0, 0, 0] = some ([[7]], 0) :=
    (unframe_p (b := [0, 0, 0, 0, 1, 0, 0, 0, 7, 0, 0, 0, 0, 0, 0, 0]) (by simp [isB]) (by decide)).trans (by decide)
  rw [hf, Option.bind_some]
  simp only
  rw [hu, Option.bind_some]
  simp only
  rw [cond_true, sameBytes_eq, same_p _ _ (by decide) (by decide), Option.bind_some, decide_eq_true rfl, cond_true]
  rw [show ((0 : Int) == 0) = true from rfl, cond_true, sames_p _ _ (by decide) (by decide) (by simp) (by simp), Option.bind_some, decide_eq_true rfl]
  rfl

end Go.Proofs.Ytgijkjifiekkmaa
