/- Plain facts on this seat's mirrors (part AP3b); each theorem bears its own conditions. -/
import Derived.Test.YtgijkjifiekkmaaAP3
import Derived.IntWalk
namespace Go.Proofs.Ytgijkjifiekkmaa
open Go.RowKit
set_option linter.unusedVariables false
set_option linter.unusedSimpArgs false
theorem head_l0 {b : List Int} (hb : ∀ x ∈ b, isB x) (hbl : b.length ≤ 1000000000000) (m : Nat) (hm : m < 1000) (hlen : 4 * (m + 2) ≤ b.length) :
    runLoop (m_frame_head_L0 b m) (0, []) = some (if (List.range (m + 1)).any (fun i => decide (65536 < num4 b (4 * (i + 1)))) = true then .inl () else .inr (sizesP b (m + 1))) := by
  have hloop := loop_each (List.range (m + 1)) (fun i (s : List Int) => (i, s)) (m_frame_head_L0 b m)
    (fun s i => (m_frame_numberAt b ((4 * (i + 1) : Nat) : Int)).bind fun y => cond (decide (65536 < y)) (some (.inr (.inl ()))) ((appI 8 s [y]).bind fun z => some (.inl z))) (fun s => (.inr s : Unit ⊕ List Int)) (fun i s x hi hx => by
      obtain ⟨rfl, hi⟩ := range_get hx
      unfold m_frame_head_L0
      simp only
      rw [i64w (x := (m : Int) + 1) (by omega), i64w (x := (x : Int) + 1) (by omega), i64w (x := 4 * ((x : Int) + 1)) (by omega)]
      have : decide ((x : Int) < (m : Int) + 1) = true := by simp; omega
      rw [this, cond_true, show 4 * ((x : Int) + 1) = ((4 * (x + 1) : Nat) : Int) from by omega]
      cases m_frame_numberAt b ((4 * (x + 1) : Nat) : Int) with
      | none => rfl
      | some y =>
        simp only [Option.bind_some]
        cases decide (65536 < y) with
        | true => simp only [cond_true]
        | false =>
          simp only [cond_false]
          cases appI 8 s [y] with
          | none => rfl
          | some z => simp only [Option.bind_some]; rfl) (fun s => by
      unfold m_frame_head_L0
      simp only
      rw [i64w (x := (m : Int) + 1) (by omega), List.length_range]
      have : decide (((m + 1 : Nat) : Int) < (m : Int) + 1) = false := by simp
      rw [this, cond_false]) []
  rw [hloop, foldE_find (fun i => decide (65536 < num4 b (4 * (i + 1)))) (fun s i => s ++ [(num4 b (4 * (i + 1)) : Int)]) (.inl ()) (fun s k => s.length = k) (m + 1) (List.range (m + 1)) [] 0 (by rw [List.length_range]; omega) rfl (fun s k x hx hk hI => ?_)]
  · rw [fold_push, List.nil_append]
    unfold sizesP
    congr 1
  · have hx' := List.mem_range.1 hx
    rw [numberAt_p hb (4 * (x + 1)) (by omega) (by omega), Option.bind_some]
    by_cases hq : 65536 < num4 b (4 * (x + 1))
    · have e : decide (65536 < (num4 b (4 * (x + 1)) : Int)) = true := by rw [decide_eq_true_eq]; omega
      have e2 : decide (65536 < num4 b (4 * (x + 1))) = true := by rw [decide_eq_true_eq]; omega
      rw [e, e2, cond_true, if_pos rfl]
      exact ⟨rfl, fun h => Bool.noConfusion h⟩
    · have e : decide (65536 < (num4 b (4 * (x + 1)) : Int)) = false := by rw [decide_eq_false_iff_not]; omega
      have e2 : decide (65536 < num4 b (4 * (x + 1))) = false := by rw [decide_eq_false_iff_not]; omega
      rw [e, e2, cond_false, if_neg Bool.false_ne_true, appI_ok (by simp only [List.length_cons, List.length_nil]; omega) (by simp only [List.length_cons, List.length_nil]; omega)]
      exact ⟨rfl, fun _ => by rw [List.length_append, hI]; rfl⟩
theorem head_l1 (pad : List Int) (hpl : pad.length ≤ 1000) : runLoop (m_frame_head_L1 pad) 0 = some (if pad.any (fun x => x != 0) = true then .inl () else .inr ()) := by
  have hl2 := loop_each pad (fun i (_ : Unit) => i) (m_frame_head_L1 pad) (fun _ x => if (x != 0) = true then some (.inr (.inl ())) else some (.inl ())) (fun _ => (.inr () : Unit ⊕ Unit)) (fun i s x hi hx => by
    unfold m_frame_head_L1
    have : decide ((i : Int) < pad.length) = true := by simp; omega
    rw [this, cond_true, getI_of hx, Option.bind_some]
    cases x != 0 with
    | true => rfl
    | false => rw [cond_false, i64w (by omega)]; rfl) (fun s => by
    unfold m_frame_head_L1
    have : decide ((pad.length : Int) < pad.length) = false := by simp
    rw [this, cond_false]) ()
  exact hl2.trans (foldE_find (R := Unit ⊕ Unit) (fun x => x != 0) (fun s _ => s) (Sum.inl ()) (fun _ _ => True) pad.length pad () 0 (by omega) trivial (fun s k x _ _ _ => ⟨rfl, fun _ => trivial⟩))
theorem num4_lt {b : List Int} (hb : ∀ x ∈ b, isB x) (i : Nat) : num4 b i < 4294967296 := by
  have b0 := byteN_p hb i; have b1 := byteN_p hb (i + 1); have b2 := byteN_p hb (i + 2); have b3 := byteN_p hb (i + 3)
  unfold num4; omega
theorem head_rest {b : List Int} (hb : ∀ x ∈ b, isB x) (hbl : b.length ≤ 1000000000000) (m : Nat) (h1 : ¬ 16 < m + 1) (h2 : ¬ b.length < headN (m + 1)) :
    ((runLoop (m_frame_head_L0 b m) (0, [])).bind fun (z10 : (Unit ⊕ (List Int))) => match z10 with | .inl z10 => some (([] : (List Int)), (3 : Int)) | .inr z10 => (subI b (IntKind.i64.wrap (4 * (IntKind.i64.wrap (((m + 1 : Nat) : Int) + 1)))) (headN (m + 1) : Int)).bind fun l14 => (runLoop (m_frame_head_L1 l14) 0).bind fun (z19 : (Unit ⊕ Unit)) => match z19 with | .inl z19 => some (([] : (List Int)), 5) | .inr z19 => some (z10, 0)) =
    some (if (List.range (m + 1)).any (fun i => decide (65536 < num4 b (4 * (i + 1)))) = true then ([], 3) else if ((b.drop (4 * (m + 2))).take (headN (m + 1) - 4 * (m + 2))).any (fun x => x != 0) = true then ([], 5) else (sizesP b (m + 1), 0)) := by
  have hh : 4 * (m + 2) ≤ headN (m + 1) := by unfold headN; omega
  have hh2 : headN (m + 1) ≤ 1000 := by unfold headN; omega
  rw [head_l0 hb hbl m (by omega) (by omega), Option.bind_some]
  cases hany : (List.range (m + 1)).any (fun i => decide (65536 < num4 b (4 * (i + 1)))) with
  | true => simp only [if_true]
  | false =>
    simp only [Bool.false_eq_true, if_false, Option.bind_some]
    rw [i64w (x := ((m + 1 : Nat) : Int) + 1) (by omega), i64w (x := 4 * (((m + 1 : Nat) : Int) + 1)) (by omega), subI_ok (by omega) (by omega) (by omega), Option.bind_some]
    rw [show (4 * (((m + 1 : Nat) : Int) + 1)).toNat = 4 * (m + 2) by omega, show ((headN (m + 1) : Int) - 4 * (((m + 1 : Nat) : Int) + 1)).toNat = headN (m + 1) - 4 * (m + 2) by omega]
    have hpl : ((b.drop (4 * (m + 2))).take (headN (m + 1) - 4 * (m + 2))).length ≤ 1000 := by
      rw [List.length_take]; omega
    generalize (b.drop (4 * (m + 2))).take (headN (m + 1) - 4 * (m + 2)) = pad at *
    rw [head_l1 pad hpl, Option.bind_some]
    cases pad.any (fun x => x != 0) with
    | true => simp only [if_true]
    | false => simp only [Bool.false_eq_true, if_false]
theorem numberAt_0 {b : List Int} (hb : ∀ x ∈ b, isB x) (h0 : ¬ b.length < 4) (hbl : b.length ≤ 1000000000000) : m_frame_numberAt b 0 = some (num4 b 0 : Int) := numberAt_p hb 0 (by omega) (by omega)
theorem head_p {b : List Int} (hb : ∀ x ∈ b, isB x) (hbl : b.length ≤ 1000000000000) : m_frame_head b = some (headR b) := by
  unfold m_frame_head headR
  by_cases h0 : b.length < 4
  · have : decide ((b.length : Int) < 4) = true := by rw [decide_eq_true_eq]; omega
    rw [this, cond_true, if_pos h0]
  have c0 : decide ((b.length : Int) < 4) = false := by rw [decide_eq_false_iff_not]; omega
  rw [c0, cond_false, if_neg h0]
  have n0 : m_frame_numberAt b 0 = some (num4 b 0 : Int) := numberAt_0 hb h0 hbl
  have hn0 := num4_lt hb 0
  rw [n0, Option.bind_some]
  clear n0
  obtain ⟨m, hm⟩ : ∃ m, num4 b 0 = m := ⟨_, rfl⟩
  rw [hm] at hn0 ⊢
  rw [i64w (x := (m : Int) + 1) (by omega), show (m : Int) + 1 = ((m + 1 : Nat) : Int) from rfl]
  by_cases h1 : 16 < m + 1
  · have : decide (16 < ((m + 1 : Nat) : Int)) = true := by rw [decide_eq_true_eq]; omega
    rw [this, cond_true, if_pos h1]
  have c1 : decide (16 < ((m + 1 : Nat) : Int)) = false := by rw [decide_eq_false_iff_not]; omega
  rw [c1, cond_false, if_neg h1, headLen_p (m + 1) (by omega), Option.bind_some]
  by_cases h2 : b.length < headN (m + 1)
  · have : decide ((b.length : Int) < (headN (m + 1) : Int)) = true := by rw [decide_eq_true_eq]; omega
    rw [this, cond_true, if_pos h2]
  have c2 : decide ((b.length : Int) < (headN (m + 1) : Int)) = false := by rw [decide_eq_false_iff_not]; omega
  rw [c2, cond_false, if_neg h2]
  exact head_rest hb hbl m h1 h2

end Go.Proofs.Ytgijkjifiekkmaa
