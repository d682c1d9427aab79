/- Plain facts on this seat's mirrors (part FP6b); each theorem bears its own conditions. -/
import Derived.Test.YtgijkjifiekkmaaFP6a
import Derived.IntWalk
namespace Go.Proofs.Ytgijkjifiekkmaa
open Go.RowKit
set_option linter.unusedVariables false
set_option linter.unusedSimpArgs false
/-- where nothing is pointed to -/
def l0 : S_far_Loc := ⟨⟨0, 0, 0, 0, 0, 0, 0, false⟩, 0, 0⟩
def off0 (p : S_ptr_Ptr) : S_ptr_Ptr := ⟨p.Kind, 0, p.Data, p.Ptrs, p.Code, p.Count, p.Segment, p.Double⟩
/-- what lies at a place, by its shape -/
def tgt (l : List (List Int)) (p : S_ptr_Ptr) (s a : Int) : S_far_Loc × Int :=
  if p.Kind = 4 then (l0, 9) else if p.Kind = 1 ∨ p.Kind = 2 then (if inB l s a (pw p) = true then (⟨off0 p, s, a⟩, 0) else (l0, 7)) else (l0, 8)
/-- what stands in a word, followed -/
def fol (l : List (List Int)) (s a : Int) : S_far_Loc × Int :=
  if inB l s a 1 = true then
    let p := dc (wd l s a)
    if p.Kind = 0 then (l0, 0)
    else if p.Kind = 3 ∧ p.Double = true then
      if inB l p.Segment p.Off 2 = true then
        let b := dc (wd l p.Segment p.Off)
        let q := dc (wd l p.Segment (p.Off + 1))
        if b.Kind = 3 ∧ b.Double = false then (if q.Kind ≠ 4 ∧ q.Off ≠ 0 then (l0, 8) else tgt l q b.Segment b.Off) else (l0, 8)
      else (l0, 7)
    else if p.Kind = 3 then
      if inB l p.Segment p.Off 1 = true then
        let q := dc (wd l p.Segment p.Off)
        tgt l q p.Segment (p.Off + 1 + q.Off)
      else (l0, 7)
    else tgt l p s (a + 1 + p.Off)
  else (l0, 7)
section
variable {A : S_arena_Arena}
theorem target_ok (hw : WS A.segments) {p : S_ptr_Ptr} (h : PB p) (s a : Int) : m_far_target (some A) p s a = some (tgt A.segments p s a) := by
  unfold m_far_target tgt
  by_cases k4 : p.Kind = 4
  · rw [show (p.Kind == 4) = true from by rw [k4]; rfl, if_pos k4]; rfl
  rw [show (p.Kind == 4) = false from ieqF k4, cond_false, if_neg k4, words_ok h, Option.bind_some]
  by_cases k : p.Kind = 1 ∨ p.Kind = 2
  · rw [if_pos k, if_pos k]
    simp only [Bool.not_true, cond_false]
    rw [aHas_ok hw, Option.bind_some]
    cases inB A.segments s a (pw p) <;> rfl
  · rw [if_neg k, if_neg k]
    rfl
theorem pair_eta {α β : Type} (x : α × β) : some (x.1, x.2) = some x := rfl
theorem take2 {l : List (List Int)} {s a : Int} (h : inB l s a 2 = true) : ((seg l s).drop a.toNat).take (2 : Int).toNat = [wd l s a, wd l s (a + 1)] := by
  have h' := inB_iff.1 h
  have h1 : a.toNat < (seg l s).length := by omega
  have h2 : a.toNat + 1 < (seg l s).length := by omega
  unfold wd
  rw [show (a + 1).toNat = a.toNat + 1 by omega, List.getElem?_eq_getElem h1, List.getElem?_eq_getElem h2, show ((2 : Int).toNat) = 2 from rfl, List.drop_eq_getElem_cons h1, List.drop_eq_getElem_cons h2]
  rfl
theorem double_ok (hw : WS A.segments) (s a : Int) : m_far_double (some A) s a = some (if inB A.segments s a 2 = true then (if (dc (wd A.segments s a)).Kind = 3 ∧ (dc (wd A.segments s a)).Double = false then (if (dc (wd A.segments s (a + 1))).Kind ≠ 4 ∧ (dc (wd A.segments s (a + 1))).Off ≠ 0 then (l0, 8) else tgt A.segments (dc (wd A.segments s (a + 1))) (dc (wd A.segments s a)).Segment (dc (wd A.segments s a)).Off) else (l0, 8)) else (l0, 7)) := by
  unfold m_far_double
  rw [aPart_ok hw, Option.bind_some]
  cases h : inB A.segments s a 2 with
  | false => rfl
  | true =>
    simp only [if_true, Bool.not_true, cond_false]
    rw [take2 h]
    have g0 : getI [wd A.segments s a, wd A.segments s (a + 1)] 0 = some (wd A.segments s a) := rfl
    have g1 : getI [wd A.segments s a, wd A.segments s (a + 1)] 1 = some (wd A.segments s (a + 1)) := rfl
    rw [g0, Option.bind_some, dc_ok (wd_rg hw _ _), Option.bind_some, g1, Option.bind_some, dc_ok (wd_rg hw _ _), Option.bind_some]
    generalize dc (wd A.segments s a) = b
    have hq := dc_pb (wd A.segments s (a + 1))
    revert hq
    generalize dc (wd A.segments s (a + 1)) = q
    intro hq
    by_cases b3 : b.Kind = 3
    · rw [show (b.Kind != 3) = false from by rw [b3]; rfl, cond_false]
      cases bd : b.Double with
      | true => rw [cond_true, if_neg (by simp)]; rfl
      | false =>
        rw [cond_false, if_pos ⟨b3, rfl⟩]
        by_cases hq4 : q.Kind = 4
        · rw [show (q.Kind != 4) = false from by rw [hq4]; rfl, cond_false, cond_false, if_neg (by simp [hq4]), target_ok hw hq]
          rfl
        · rw [show (q.Kind != 4) = true from bne_iff_ne.2 hq4, cond_true]
          by_cases ho : q.Off = 0
          · rw [show (q.Off != 0) = false from by rw [ho]; rfl, cond_false, if_neg (by simp [ho]), target_ok hw hq]
            rfl
          · rw [show (q.Off != 0) = true from bne_iff_ne.2 ho, cond_true, if_pos ⟨hq4, ho⟩]
            rfl
    · rw [show (b.Kind != 3) = true from bne_iff_ne.2 b3, cond_true, cond_true, if_neg (by simp [b3])]
      rfl
theorem at_in {l : List (List Int)} (hw : WS l) {s a n : Int} (h : inB l s a n = true) : 0 ≤ a ∧ a ≤ 17592186044416 := by
  have h' := inB_iff.1 h
  have := seg_len hw s
  omega
theorem single_ok (hw : WS A.segments) (s a : Int) : m_far_single (some A) s a = some (if inB A.segments s a 1 = true then tgt A.segments (dc (wd A.segments s a)) s (a + 1 + (dc (wd A.segments s a)).Off) else (l0, 7)) := by
  unfold m_far_single
  rw [aGet_ok hw, Option.bind_some]
  cases h : inB A.segments s a 1 with
  | false => rfl
  | true =>
    have ha := at_in hw h
    have hq := dc_pb (wd A.segments s a)
    have ho := hq.o
    simp only [if_true, Bool.not_true, cond_false]
    rw [dc_ok (wd_rg hw _ _), Option.bind_some, i64s (x := a + 1) (by omega) (by omega), i64s (by omega) (by omega), target_ok hw hq]
    rfl
theorem follow_ok (hw : WS A.segments) (s a : Int) : m_far_Follow (some A) s a = some (fol A.segments s a) := by
  unfold m_far_Follow fol
  rw [aGet_ok hw, Option.bind_some]
  cases h : inB A.segments s a 1 with
  | false => rfl
  | true =>
    have ha := at_in hw h
    have hq := dc_pb (wd A.segments s a)
    have ho := hq.o
    simp only [if_true, Bool.not_true, cond_false]
    rw [dc_ok (wd_rg hw _ _), Option.bind_some]
    revert hq ho
    generalize dc (wd A.segments s a) = p
    intro hq ho
    by_cases k0 : p.Kind = 0
    · rw [show (p.Kind == 0) = true from by rw [k0]; rfl, cond_true, if_pos k0]; rfl
    rw [show (p.Kind == 0) = false from ieqF k0, cond_false, if_neg k0]
    by_cases k3 : p.Kind = 3
    · rw [show (p.Kind == 3) = true from by rw [k3]; rfl, cond_true, cond_true]
      cases hd : p.Double with
      | true => rw [cond_true, if_pos ⟨k3, rfl⟩, double_ok hw]; rfl
      | false => rw [cond_false, if_neg (by simp), if_pos k3, single_ok hw]; rfl
    · rw [show (p.Kind == 3) = false from ieqF k3, cond_false, cond_false, cond_false, if_neg (by simp [k3]), if_neg k3, i64s (x := a + 1) (by omega) (by omega), i64s (by omega) (by omega), target_ok hw hq]
      rfl
end
/-- the document's -/
def toR (x : S_far_Loc) : S_centoref06_Loc := ⟨x.P, x.Segment, x.At⟩
def toR2 (x : S_far_Loc × Int) : S_centoref06_Loc × Int := (toR x.1, x.2)
theorem rhas_ok {l : List (List Int)} (hw : WS l) (s a : Int) : m_centoref06_has l s a = some (inB l s a 1) := by
  have hl := seg_len hw s
  unfold m_centoref06_has inB
  by_cases h1 : 0 ≤ s
  · by_cases h2 : s < (l.length : Int)
    · by_cases h3 : 0 ≤ a
      · rw [(seg_get h1 h2).1]
        simp only [decide_eq_true h1, decide_eq_true h2, decide_eq_true h3, cond_true, Option.bind_some, Bool.true_and, show decide ((0 : Int) ≤ 1) = true from rfl]
        refine congrArg some ?_
        rw [Bool.eq_iff_iff, decide_eq_true_eq, decide_eq_true_eq]
        omega
      · rw [decide_eq_true h1, decide_eq_true h2, decide_eq_false h3]; rfl
    · rw [decide_eq_true h1, decide_eq_false h2]; rfl
  · rw [decide_eq_false h1]; rfl
theorem rwhole_ok {l : List (List Int)} (hw : WS l) {p : S_ptr_Ptr} (h : PB p) (hk : p.Kind = 1 ∨ p.Kind = 2) (s a : Int) : m_centoref06_whole l ⟨p, s, a⟩ = some (toR2 (if inB l s a (pw p) = true then (⟨off0 p, s, a⟩, 0) else (l0, 7))) := by
  have hl := seg_len hw s
  have hp := pw_rg h
  unfold m_centoref06_whole
  simp only
  rw [rwords_ok h hk, Option.bind_some]
  have key : ∀ b : Bool, inB l s a (pw p) = !b → (cond b (some ((⟨⟨0, 0, 0, 0, 0, 0, 0, false⟩, 0, 0⟩ : S_centoref06_Loc), (7 : Int))) (some ((⟨⟨p.Kind, 0, p.Data, p.Ptrs, p.Code, p.Count, p.Segment, p.Double⟩, s, a⟩ : S_centoref06_Loc), 0))) = some (toR2 (if inB l s a (pw p) = true then (⟨off0 p, s, a⟩, 0) else (l0, 7))) := fun b hb => by
    rw [hb]
    cases b <;> rfl
  have hin : ∀ b : Bool, (b = true ↔ ¬ (0 ≤ s ∧ s < l.length ∧ 0 ≤ a ∧ 0 ≤ pw p ∧ a + pw p ≤ (seg l s).length)) → inB l s a (pw p) = !b := fun b hb => by
    cases hq : inB l s a (pw p) with
    | true =>
      have := inB_iff.1 hq
      cases b with
      | false => rfl
      | true => exact absurd this (hb.1 rfl)
    | false =>
      cases b with
      | true => rfl
      | false =>
        have h2 : ¬ ¬ (0 ≤ s ∧ s < l.length ∧ 0 ≤ a ∧ 0 ≤ pw p ∧ a + pw p ≤ (seg l s).length) := fun q => by have := hb.2 q; cases this
        have h3 := inB_iff.2 (Classical.not_not.1 h2)
        rw [hq] at h3
        cases h3
  by_cases h1 : s < 0
  · rw [decide_eq_true h1, cond_true, Option.bind_some]
    exact key true (hin true ⟨fun _ => by omega, fun _ => rfl⟩)
  · rw [decide_eq_false h1, cond_false]
    by_cases h2 : (l.length : Int) ≤ s
    · rw [decide_eq_true h2, cond_true, Option.bind_some]
      exact key true (hin true ⟨fun _ => by omega, fun _ => rfl⟩)
    · rw [decide_eq_false h2, cond_false]
      by_cases h3 : a < 0
      · rw [decide_eq_true h3, cond_true, Option.bind_some]
        exact key true (hin true ⟨fun _ => by omega, fun _ => rfl⟩)
      · rw [decide_eq_false h3, cond_false, (seg_get (by omega) (by omega)).1, Option.bind_some]
        by_cases h4 : ((seg l s).length : Int) < a
        · rw [decide_eq_true h4, cond_true, Option.bind_some]
          exact key true (hin true ⟨fun _ => by omega, fun _ => rfl⟩)
        · rw [decide_eq_false h4, cond_false, cond_false, cond_false, cond_false, cond_false, Option.bind_some, i64s (by omega) (by omega)]
          exact key _ (hin _ (by rw [decide_eq_true_eq]; omega))
theorem rshape_ok {p : S_ptr_Ptr} : m_centoref06_shape p = some (if p.Kind = 4 then 9 else if p.Kind = 1 ∨ p.Kind = 2 then 0 else 8) := by
  unfold m_centoref06_shape
  by_cases k4 : p.Kind = 4
  · rw [show (p.Kind == 4) = true from by rw [k4]; rfl, if_pos k4]; rfl
  rw [show (p.Kind == 4) = false from ieqF k4, cond_false, if_neg k4]
  by_cases k1 : p.Kind = 1
  · rw [show (p.Kind != 1) = false from by rw [k1]; rfl, if_pos (.inl k1)]; rfl
  · rw [show (p.Kind != 1) = true from bne_iff_ne.2 k1, cond_true]
    by_cases k2 : p.Kind = 2
    · rw [show (p.Kind != 2) = false from by rw [k2]; rfl, if_pos (.inr k2)]; rfl
    · rw [show (p.Kind != 2) = true from bne_iff_ne.2 k2, if_neg (by omega)]; rfl
/-- what is at a place, by the document -/
theorem rend_ok {l : List (List Int)} (hw : WS l) {p : S_ptr_Ptr} (h : PB p) (s a : Int) {k : Int → Option (S_centoref06_Loc × Int)} (hk : k = fun y => cond (y != 0) (some ((⟨⟨0, 0, 0, 0, 0, 0, 0, false⟩, 0, 0⟩ : S_centoref06_Loc), y)) ((m_centoref06_whole l ⟨p, s, a⟩).bind fun y => some (y.1, y.2))) : (m_centoref06_shape p).bind k = some (toR2 (tgt l p s a)) := by
  subst hk
  rw [rshape_ok, Option.bind_some]
  unfold tgt
  by_cases k4 : p.Kind = 4
  · rw [if_pos k4, if_pos k4]; rfl
  rw [if_neg k4, if_neg k4]
  by_cases k : p.Kind = 1 ∨ p.Kind = 2
  · rw [if_pos k, if_pos k, show ((0 : Int) != 0) = false from rfl, cond_false, rwhole_ok hw h k, Option.bind_some]
  · rw [if_neg k, if_neg k]; rfl
theorem ptr_mk (p : S_ptr_Ptr) : (⟨p.Kind, p.Off, p.Data, p.Ptrs, p.Code, p.Count, p.Segment, p.Double⟩ : S_ptr_Ptr) = p := by cases p; rfl
theorem has2 {l : List (List Int)} {s a : Int} (h0 : 0 ≤ a) : inB l s a 2 = (inB l s a 1 && inB l s (a + 1) 1) := by
  rw [Bool.eq_iff_iff, Bool.and_eq_true, inB_iff, inB_iff, inB_iff]
  omega
theorem rfollow_ok {l : List (List Int)} (hw : WS l) (s a : Int) : m_centoref06_Follow l s a = some (toR2 (fol l s a)) := by
  unfold m_centoref06_Follow fol
  rw [rhas_ok hw, Option.bind_some]
  cases h : inB l s a 1 with
  | false => rfl
  | true =>
    have h' := inB_iff.1 h
    have ha := at_in hw h
    have hq := dc_pb (wd l s a)
    simp only [if_true, Bool.not_true, cond_false]
    rw [(seg_get h'.1 h'.2.1).1, Option.bind_some, (wd_get h).1, Option.bind_some, rdc_ok (wd_rg hw _ _), Option.bind_some]
    revert hq
    generalize dc (wd l s a) = p
    intro hq
    have ho := hq.o
    by_cases k0 : p.Kind = 0
    · rw [show (p.Kind == 0) = true from by rw [k0]; rfl, cond_true, if_pos k0]; rfl
    rw [show (p.Kind == 0) = false from ieqF k0, cond_false, if_neg k0]
    by_cases k3 : p.Kind = 3
    · have hf := hq.f k3
      rw [show (p.Kind == 3) = true from by rw [k3]; rfl, cond_true, cond_true, if_pos k3]
      cases hd : p.Double with
      | true =>
        rw [cond_true, if_pos ⟨k3, rfl⟩, rhas_ok hw, Option.bind_some, i64s (by omega) (by omega), rhas_ok hw]
        have h2 := has2 (l := l) (s := p.Segment) hf
        cases b1 : inB l p.Segment p.Off 1 with
        | false =>
          rw [h2, b1]
          rfl
        | true =>
          rw [cond_true, Option.bind_some, Option.bind_some, Bool.not_true, cond_false, h2, b1, Bool.true_and]
          cases b2 : inB l p.Segment (p.Off + 1) 1 with
          | false => rfl
          | true =>
            have b1' := inB_iff.1 b1
            rw [Bool.not_true, cond_false, (seg_get b1'.1 b1'.2.1).1, Option.bind_some, (wd_get b1).1, Option.bind_some, rdc_ok (wd_rg hw _ _), Option.bind_some, (wd_get b2).1, Option.bind_some, rdc_ok (wd_rg hw _ _), Option.bind_some]
            simp only [if_true]
            generalize dc (wd l p.Segment p.Off) = b
            have hq2 := dc_pb (wd l p.Segment (p.Off + 1))
            revert hq2
            generalize dc (wd l p.Segment (p.Off + 1)) = q
            intro hq2
            by_cases b3 : b.Kind = 3
            · rw [show (b.Kind != 3) = false from by rw [b3]; rfl, cond_false]
              cases bd : b.Double with
              | true => rw [cond_true, if_neg (by simp)]; rfl
              | false =>
                rw [cond_false, if_pos ⟨b3, rfl⟩]
                by_cases ho' : q.Off = 0
                · rw [if_neg (by simp [ho'])]
                  refine rend_ok hw hq2 b.Segment b.Off ?_
                  funext y
                  rw [show (q.Off != 0) = false from by rw [ho']; rfl]
                  cases (y == 0) <;> rfl
                · rw [rshape_ok, Option.bind_some, show (q.Off != 0) = true from bne_iff_ne.2 ho']
                  by_cases hq4 : q.Kind = 4
                  · exact absurd (hq2.z (.inr hq4)) ho'
                  · by_cases hk : q.Kind = 1 ∨ q.Kind = 2
                    · rw [if_neg hq4, if_pos hk, if_pos ⟨hq4, ho'⟩]; rfl
                    · rw [if_neg hq4, if_neg hk, if_pos ⟨hq4, ho'⟩]; rfl
            · rw [show (b.Kind != 3) = true from bne_iff_ne.2 b3, cond_true, cond_true, if_neg (by simp [b3])]
              rfl
      | false =>
        rw [cond_false, if_neg (by simp), rhas_ok hw, Option.bind_some]
        cases b1 : inB l p.Segment p.Off 1 with
        | false => rfl
        | true =>
          have b1' := inB_iff.1 b1
          rw [Bool.not_true, cond_false, (seg_get b1'.1 b1'.2.1).1, Option.bind_some, (wd_get b1).1, Option.bind_some, rdc_ok (wd_rg hw _ _), Option.bind_some, Option.bind_some]
          have hq2 := dc_pb (wd l p.Segment p.Off)
          have ho2 := hq2.o
          have ha2 := at_in hw b1
          simp only [ptr_mk]
          rw [i64s (x := p.Off + 1) (by omega) (by omega), i64s (by omega) (by omega)]
          exact rend_ok hw hq2 _ _ rfl
    · rw [show (p.Kind == 3) = false from ieqF k3, cond_false, cond_false, cond_false, if_neg (by simp [k3]), if_neg k3, Option.bind_some]
      simp only [ptr_mk]
      rw [i64s (x := a + 1) (by omega) (by omega), i64s (by omega) (by omega)]
      exact rend_ok hw hq _ _ rfl

end Go.Proofs.Ytgijkjifiekkmaa
