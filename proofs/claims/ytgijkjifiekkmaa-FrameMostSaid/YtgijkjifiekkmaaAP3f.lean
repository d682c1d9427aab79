/- Plain facts on this seat's mirrors (part AP3f); each theorem bears its own conditions. -/
import Derived.Test.YtgijkjifiekkmaaAP3e
import Derived.IntWalk
namespace Go.Proofs.Ytgijkjifiekkmaa
open Go.RowKit
set_option linter.unusedVariables false
set_option linter.unusedSimpArgs false
theorem land31 (x : Int) : ∃ k : Nat, k ≤ 31 ∧ IntKind.i64.wrap (landI .i64 x 31) = (k : Int) := by
  refine ⟨(BitVec.ofInt 64 x &&& BitVec.ofInt 64 31).toNat, ?_, ?_⟩
  · rw [BitVec.toNat_and]
    exact Nat.le_trans Nat.and_le_right (by decide)
  · have : (BitVec.ofInt 64 x &&& BitVec.ofInt 64 31).toNat ≤ 31 := by
      rw [BitVec.toNat_and]
      exact Nat.le_trans Nat.and_le_right (by decide)
    have e : landI .i64 x 31 = ((BitVec.ofInt 64 x &&& BitVec.ofInt 64 31).toNat : Int) := rfl
    rw [e, i64w (by omega)]
theorem frameMost_p (x : Int) : m_centolaw03_FrameMost x = some true := by
  unfold m_centolaw03_FrameMost
  obtain ⟨k, hk, e⟩ := land31 x
  rw [e, makeI_ok (by omega) (by omega) (by omega), Option.bind_some, Int.toNat_natCast]
  have hlen : (List.replicate k ([] : List Int)).length = k := List.length_replicate
  by_cases h : 1 ≤ k ∧ k ≤ 16
  · rw [frame_p _ ⟨by rw [hlen]; exact h.1, by rw [hlen]; exact h.2, fun s hs => by rw [List.eq_of_mem_replicate hs]; simp⟩ (fun s hs z hz => by rw [List.eq_of_mem_replicate hs] at hz; cases hz), Option.bind_some]
    simp only
    have c1 : decide ((1 : Int) ≤ (k : Int)) = true := by rw [decide_eq_true_eq]; omega
    have c2 : decide ((k : Int) ≤ 16) = true := by rw [decide_eq_true_eq]; omega
    rw [c1, c2, awake_p]
    rfl
  · rw [frame_no _ (by rw [hlen]; omega) (fun q => h ⟨by rw [← hlen]; exact q.1, by rw [← hlen]; exact q.2.1⟩), Option.bind_some]
    simp only
    have c : cond (decide ((1 : Int) ≤ (k : Int))) (decide ((k : Int) ≤ 16)) false = false := by
      by_cases q : 1 ≤ k
      · have c1 : decide ((1 : Int) ≤ (k : Int)) = true := by rw [decide_eq_true_eq]; omega
        rw [c1, cond_true, decide_eq_false_iff_not]
        omega
      · have c1 : decide ((1 : Int) ≤ (k : Int)) = false := by rw [decide_eq_false_iff_not]; omega
        rw [c1, cond_false]
    rw [c, awake_p]
    rfl

end Go.Proofs.Ytgijkjifiekkmaa
