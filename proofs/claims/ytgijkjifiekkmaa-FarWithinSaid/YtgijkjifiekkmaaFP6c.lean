/- Plain facts on this seat's mirrors (part FP6c); each theorem bears its own conditions. -/
import Derived.Test.YtgijkjifiekkmaaFP6b
import Derived.IntWalk
namespace Go.Proofs.Ytgijkjifiekkmaa
open Go.RowKit
set_option linter.unusedVariables false
set_option linter.unusedSimpArgs false
theorem loc_beq (x : S_far_Loc) : (((x.P.Kind == x.P.Kind) && ((x.P.Off == x.P.Off) && ((x.P.Data == x.P.Data) && ((x.P.Ptrs == x.P.Ptrs) && ((x.P.Code == x.P.Code) && ((x.P.Count == x.P.Count) && ((x.P.Segment == x.P.Segment) && (x.P.Double == x.P.Double)))))))) && ((x.Segment == x.Segment) && (x.At == x.At))) = true := by
  simp only [beq_self_eq_true, Bool.and_self]
theorem ws_one (l : List Int) (h : ∀ w ∈ l, 0 ≤ w ∧ w < 18446744073709551616) (hl : l.length * 8 ≤ 140737488355328) : WS [l] :=
  ⟨by simp, fun x hx => by rw [List.mem_singleton] at hx; subst hx; exact hl, fun x hx => by rw [List.mem_singleton] at hx; subst hx; exact h⟩
theorem fol_awake : fol [[4294967296, 7]] 0 0 = (⟨⟨1, 0, 1, 0, 0, 0, 0, false⟩, 0, 1⟩, 0) := rfl
theorem awake6_p : m_centolaw06_awake = some true := by
  have hw : WS [[4294967296, 7]] := ws_one _ (by simp) (by simp)
  unfold m_centolaw06_awake
  rw [aOf_ok hw, Option.bind_some, follow_ok (A := ⟨[[4294967296, 7]], 0, 0⟩) hw, Option.bind_some]
  simp only
  rw [fol_awake]
  rfl
theorem farFollows_p {l : List (List Int)} (hw : WS l) (s a : Int) : m_centolaw06_FarFollows l s a = some true := by
  unfold m_centolaw06_FarFollows
  rw [aOf_ok hw, Option.bind_some, follow_ok (A := ⟨l, 0, 0⟩) hw, Option.bind_some, rfollow_ok hw, Option.bind_some]
  simp only
  have hm : m_centolaw06_Mine (toR2 (fol l s a)).1 = some (fol l s a).1 := rfl
  rw [hm, Option.bind_some, loc_beq, cond_true, show ((fol l s a).2 == (toR2 (fol l s a)).2) = true from beq_self_eq_true _, cond_true, awake6_p]
  rfl
theorem tgt_or {l : List (List Int)} {p : S_ptr_Ptr} (h : PB p) {s a : Int} : ((tgt l p s a).2 ≠ 0 ∧ (tgt l p s a).1 = l0) ∨ ((tgt l p s a).2 = 0 ∧ (p.Kind = 1 ∨ p.Kind = 2) ∧ (tgt l p s a).1 = ⟨off0 p, s, a⟩ ∧ inB l s a (pw p) = true) := by
  unfold tgt
  by_cases k4 : p.Kind = 4
  · rw [if_pos k4]; exact .inl ⟨by simp, rfl⟩
  rw [if_neg k4]
  by_cases k : p.Kind = 1 ∨ p.Kind = 2
  · rw [if_pos k]
    by_cases hi : inB l s a (pw p) = true
    · rw [if_pos hi]; exact .inr ⟨rfl, k, rfl, hi⟩
    · rw [if_neg hi]; exact .inl ⟨by simp, rfl⟩
  · rw [if_neg k]; exact .inl ⟨by simp, rfl⟩
theorem off0_pb {p : S_ptr_Ptr} (h : PB p) : PB (off0 p) := ⟨h.k, by simp [off0], h.d, h.q, h.c, h.n, h.s, fun _ => by simp [off0], fun _ => rfl⟩
/-- what is told -/
theorem fol_or (l : List (List Int)) (s a : Int) : ((fol l s a).1 = l0) ∨ ((fol l s a).2 = 0 ∧ ∃ p s' a', PB p ∧ p.Off = 0 ∧ (p.Kind = 1 ∨ p.Kind = 2) ∧ (fol l s a).1 = ⟨p, s', a'⟩ ∧ inB l s' a' (pw p) = true) := by
  have key : ∀ (w s a : Int), ((tgt l (dc w) s a).1 = l0) ∨ ((tgt l (dc w) s a).2 = 0 ∧ ∃ p s' a', PB p ∧ p.Off = 0 ∧ (p.Kind = 1 ∨ p.Kind = 2) ∧ (tgt l (dc w) s a).1 = ⟨p, s', a'⟩ ∧ inB l s' a' (pw p) = true) := fun w s a => by
    rcases tgt_or (l := l) (dc_pb w) (s := s) (a := a) with h | ⟨h1, h2, h3, h4⟩
    · exact .inl h.2
    · exact .inr ⟨h1, off0 (dc w), s, a, off0_pb (dc_pb w), rfl, h2, h3, h4⟩
  unfold fol
  by_cases h : inB l s a 1 = true
  · rw [if_pos h]
    simp only
    split
    · exact .inl rfl
    split
    · split
      · split
        · split
          · exact .inl rfl
          · exact key _ _ _
        · exact .inl rfl
      · exact .inl rfl
    split
    · split
      · exact key _ _ _
      · exact .inl rfl
    · exact key _ _ _
  · rw [if_neg h]; exact .inl rfl
theorem farWithin_p {l : List (List Int)} (hw : WS l) (s a : Int) : m_centolaw06_FarWithin l s a = some true := by
  unfold m_centolaw06_FarWithin
  rw [aOf_ok hw, Option.bind_some, follow_ok (A := ⟨l, 0, 0⟩) hw, Option.bind_some]
  simp only
  rcases fol_or l s a with h | ⟨h2, p, s', a', hp, ho, hk, h, hi⟩
  · rw [h]
    simp only [l0]
    rw [awake6_p]
    cases ((fol l s a).2 != 0) <;> rfl
  · rw [h, h2]
    simp only
    have hk0 : (p.Kind == 0) = false := ieqF (by omega)
    rw [hk0, words_ok hp, if_pos hk, ho]
    simp only [Bool.false_and, cond_false, cond_true, show ((0 : Int) != 0) = false from rfl, show ((0 : Int) == 0) = true from rfl, Option.bind_some]
    rw [aHas_ok (A := ⟨l, 0, 0⟩) hw, Option.bind_some]
    simp only [hi, cond_true]
    rw [awake6_p]
    rfl

end Go.Proofs.Ytgijkjifiekkmaa
