/- Plain facts on this seat's mirrors (part RP4); each theorem bears its own conditions. -/
import Derived.Test.YtgijkjifiekkmaaRP3
import Derived.IntWalk
namespace Go.Proofs.Ytgijkjifiekkmaa
open Go.RowKit
set_option linter.unusedVariables false
set_option linter.unusedSimpArgs false
theorem Zmu {b : List Int} (h : b.length < 4) : Yd b = ([], 4) := by unfold Yd; rw [if_pos h]
theorem Jd {b : List Int} {e : Int} (h : Yd b = ([], e)) (he : e ≠ 0) : Z9 b = ([], e) := by
 unfold Z9
 rw [h]
 exact if_pos he
theorem Zpu {b : List Int} (hl : b.length ≤ 140737488355328) (z i : Nat) (hz : z ≤ b.length) (hi : i ≤ z) : Zj (Zz b (z : Int)) (i : Int) = some (if ((b.drop i).take (z - i)).any (fun x => x != 0) = true then .inl () else .inr ()) := rl1 hl z hz (z - i) i (by omega)
theorem Ze1 {b : List Int} (hb : ∀ x ∈ b, Jz x) (hbl : b.length ≤ 140737488355328) : Yw b = some (Z9 b) := by
 unfold Yw
 by_cases h1 : b.length < 4
 ·rw [show decide ((b.length : Int) < 4) = true from by rw [decide_eq_true_eq]; omega, cond_true, Jd (Zmu h1) (by decide)]
 have r0 : Ya b 0 = some (Z0 b 0 : Int) := Zaw hb (a := 0) (by omega) hbl
 obtain ⟨m, hm⟩ : ∃ m, Z0 b 0 = m := ⟨_, rfl⟩
 have hm2 := Ziw hb 0
 rw [hm] at hm2 r0
 rw [show decide ((b.length : Int) < 4) = false from by rw [decide_eq_false_iff_not]; omega, cond_false, r0, Option.bind_some, Qt (x := (m : Int) + 1) (by omega) (by omega)]
 by_cases h2 : 16 < m + 1
 ·have e : Yd b = ([], 3) := by unfold Yd; rw [if_neg h1, hm, if_pos h2]
  rw [show decide ((16 : Int) < (m : Int) + 1) = true from by rw [decide_eq_true_eq]; omega, cond_true, Jd e (by decide)]
 have hH : Z3 (m + 1) = (4 * (m + 2) + 7) / 8 * 8 := rfl
 obtain ⟨H, hHe⟩ : ∃ H, Z3 (m + 1) = H := ⟨_, rfl⟩
 rw [hHe] at hH
 have e1 : IntKind.i64.wrap (4 + IntKind.i64.wrap (4 * ((m : Int) + 1))) = ((4 * (m + 2) : Nat) : Int) := by rw [Qt (x := 4 * ((m : Int) + 1)) (by omega) (by omega), Qt (by omega) (by omega)]; omega
 have e2 : (cond (decide (0 < (Int.tmod ((4 * (m + 2) : Nat) : Int) 8))) (some (IntKind.i64.wrap (((4 * (m + 2) : Nat) : Int) + 4))) (some ((4 * (m + 2) : Nat) : Int))) = some (H : Int) := by
  rw [Int.tmod_eq_emod_of_nonneg (by omega)]
  by_cases q : 0 < (((4 * (m + 2) : Nat) : Int)) % 8
  ·rw [decide_eq_true q, cond_true, Qt (by omega) (by omega)]
   congr 1
   omega
  rw [decide_eq_false q, cond_false]
  congr 1
  omega
 rw [show decide ((16 : Int) < (m : Int) + 1) = false from by rw [decide_eq_false_iff_not]; omega, cond_false, e1, e2, Option.bind_some]
 by_cases h3 : b.length < H
 ·have e : Yd b = ([], 4) := by unfold Yd; rw [if_neg h1, hm, if_neg h2, hHe, if_pos h3]
  rw [show decide ((b.length : Int) < (H : Int)) = true from by rw [decide_eq_true_eq]; omega, cond_true, Jd e (by decide)]
 rw [show decide ((b.length : Int) < (H : Int)) = false from by rw [decide_eq_false_iff_not]; omega, cond_false, rl0 hb hbl m (by omega) (by omega), Option.bind_some]
 by_cases h4 : (List.range (m + 1)).any (fun i => decide (65536 < Z0 b (4 * (i + 1)))) = true
 ·have e : Yd b = ([], 3) := by unfold Yd; rw [if_neg h1, hm, if_neg h2, hHe, if_neg h3, if_pos h4]
  rw [if_pos h4, Jd e (by decide)]
 rw [if_neg h4]
 dsimp only
 rw [Zpu hbl H (4 * (m + 2)) (by omega) (by omega), Option.bind_some]
 by_cases h5 : ((b.drop (4 * (m + 2))).take (H - 4 * (m + 2))).any (fun x => x != 0) = true
 ·have e : Yd b = ([], 5) := by unfold Yd; rw [if_neg h1, hm, if_neg h2, hHe, if_neg h3, if_neg h4, if_pos h5]
  rw [if_pos h5, Jd e (by decide)]
 rw [if_neg h5]
 dsimp only
 have e : Yd b = (Yn b (m + 1), 0) := by unfold Yd; rw [if_neg h1, hm, if_neg h2, hHe, if_neg h3, if_neg h4, if_neg h5]
 have hN : ∀ x ∈ Yn b (m + 1), isN x := by
  have := (Zbo (b := b) (by rw [e])).1
  rw [e] at this
  exact this
 have r2 := rl2 hb hbl m (by omega) (by omega) hN (m + 1) 0 H [] (by omega) rfl (by omega)
 rw [List.drop_zero, List.nil_append] at r2
 have r2' : Zj (Zv b (m : Int)) ((H : Int), 0, ([] : List (List Int))) = _ := r2
 rw [r2', Option.bind_some]
 unfold Z9
 rw [e]
 dsimp only
 rw [if_neg (show ¬ ((0 : Int) ≠ 0) from fun h => h rfl), K1, hHe, List.length_drop]
 have hsum := Zaz _ hN
 by_cases h6 : b.length - H < 8 * X2 (Yn b (m + 1))
 ·rw [if_pos h6, if_pos h6]
 rw [if_neg h6, if_neg h6]
 dsimp only
 by_cases h7 : 8 * X2 (Yn b (m + 1)) < b.length - H
 ·rw [if_pos h7, show decide (((H + 8 * X2 (Yn b (m + 1)) : Nat) : Int) < (b.length : Int)) = true from by rw [decide_eq_true_eq]; omega, cond_true]
 rw [if_neg h7, show decide (((H + 8 * X2 (Yn b (m + 1)) : Nat) : Int) < (b.length : Int)) = false from by rw [decide_eq_false_iff_not]; omega, cond_false]
theorem Zcy {b : List Int} (hb : ∀ x ∈ b, Jz x) : (Z9 b).1.length ≤ 16 ∧ ∀ s ∈ (Z9 b).1, s.length ≤ 65536 := by
 by_cases h : (Z9 b).2 = 0
 ·exact (Zbc hb h).2.1.2
 have : (Z9 b).1 = [] := by
  unfold Z9 at h ⊢
  split
  ·rfl
  rename_i q
  rw [if_neg q] at h
  split
  ·rfl
  rename_i q2
  rw [if_neg q2] at h
  split
  ·rfl
  rename_i q3
  rw [if_neg q3] at h
  exact absurd rfl h
 rw [this]
 simp
theorem Zaq {b : List Int} (hb : ∀ x ∈ b, Jz x) (hbl : b.length ≤ 140737488355328) : Yj b = some true := by
 unfold Yj
 rw [Zd9 hb hbl, Option.bind_some, Ze1 hb hbl, Option.bind_some]
 obtain ⟨hs1, hs2⟩ := Zcy hb
 have hsm : ∀ s ∈ (Z9 b).1, s.length ≤ 1000000000000000 := fun s hs => by have := hs2 s hs; omega
 rw [Zjf _ _ (by omega) (by omega) hsm hsm, Option.bind_some, decide_eq_true rfl]
 have ne : ((Z9 b).2 != (Z9 b).2) = false := by simp
 rw [ne]
 rw [show cond (!true) true false = false from rfl, cond_false]
 by_cases h : (Z9 b).2 = 0
 ·obtain ⟨f1, f2, f3⟩ := Zbc hb h
  have e : ((Z9 b).2 != 0) = false := by simp [h]
  rw [e, cond_false, Zh4 _ f2 f3, Option.bind_some, f1]
  dsimp only
  rw [cond_true, U0, Zhx _ _ (by omega) (by omega), Option.bind_some, decide_eq_true rfl, cond_true, Zh2]
  rfl
 have e : ((Z9 b).2 != 0) = true := by simp [h]
 rw [e, cond_true, Zh2]
 rfl
end Go.Proofs.Ytgijkjifiekkmaa
