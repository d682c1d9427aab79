/- Plain facts on this seat's mirrors (part VP3); each theorem bears its own conditions. -/
import Derived.Test.YtmlhokaflhlhbaaVP2
import Derived.IntWalk
namespace Go.Proofs.Ytmlhokaflhlhbaa
open Go.RowKit
set_option linter.unusedVariables false
set_option linter.unusedSimpArgs false
theorem idx_loop {R : Type} {step : Int → Option (Int ⊕ R)} {r : R} (n : Nat) (h : ∀ i : Nat, i < n → step (i : Int) = some (.inl ((i + 1 : Nat) : Int))) (he : step (n : Int) = some (.inr r)) : runLoop step 0 = some r := by
  have key : ∀ (k i : Nat), i + k = n → runLoop step (i : Int) = some r := fun k => by
    induction k with
    | zero => intro i hi; have : i = n := by omega
              subst this; exact runLoop_end he
    | succ k ih => intro i hi; rw [runLoop_step (h i (by omega))]; exact ih (i + 1) (by omega)
  exact key n 0 (by omega)
theorem same1_refl {l : List Int} (h : l.length * 8 ≤ 140737488355328) : m_centoref01_Same l l = some true := by
  unfold m_centoref01_Same
  rw [show (((l.length : Nat) : Int) != ((l.length : Nat) : Int)) = false from bne_self_eq_false _, cond_false, idx_loop (r := (.inr () : Unit ⊕ Unit)) l.length (fun i hi => by
    unfold m_centoref01_Same_L0
    rw [lt_t hi, cond_true, getI_of (List.getElem?_eq_getElem hi), Option.bind_some, Option.bind_some, show (l[i] != l[i]) = false from bne_self_eq_false _, cond_false, i64s (by omega) (by omega)]
    rfl) (by
    unfold m_centoref01_Same_L0
    rw [lt_f, cond_false])]
  rfl
theorem same3_refl {l : List (List Int)} (hw : WS l) : m_centoref03_Same l l = some true := by
  have hn := hw.n
  unfold m_centoref03_Same
  rw [show (((l.length : Nat) : Int) != ((l.length : Nat) : Int)) = false from bne_self_eq_false _, cond_false, idx_loop (r := (.inr () : Unit ⊕ Unit)) l.length (fun i hi => by
    unfold m_centoref03_Same_L0
    rw [lt_t hi, cond_true, getI_of (List.getElem?_eq_getElem hi), Option.bind_some, Option.bind_some, same1_refl (hw.s _ (List.getElem_mem hi)), Option.bind_some, Bool.not_true, cond_false, i64s (by omega) (by omega)]
    rfl) (by
    unfold m_centoref03_Same_L0
    rw [lt_f, cond_false])]
  rfl
section
variable {A : S_arena_Arena}
theorem aSegments_ok (hw : WS A.segments) : m_arena_Arena_Segments (some A) = some A.segments := by
  unfold m_arena_Arena_Segments
  rw [show Option.isNone (some A) = false from rfl, cond_false, Option.bind_some, aClone_ok hw]
  rfl
def wordR (A : S_arena_Arena) (r : S_reader_Ref) (i : Int) : Int :=
  if i < 0 ∨ wordsN r ≤ i then 0 else if r.kind = 10 then numR A r else wd A.segments r.segment (r.at_ + i)
theorem each_in {c i n : Int} (hc : 1 ≤ c ∧ c ≤ 5) (h0 : 0 ≤ i) (h1 : i < n) (hn : n < 536870912) : 1 ≤ each c ∧ each c ≤ 64 ∧ 0 ≤ i / each c ∧ i / each c + 1 ≤ (n * wdt c + 63) / 64 ∧ 0 ≤ i % each c ∧ i % each c < each c ∧ Int.tdiv 64 (wdt c) = each c ∧ wdt c ≠ 0 := by
  rcases c5 (c := c) (by omega) with rfl | rfl | rfl | rfl | rfl | rfl
  · omega
  · have e1 : each 1 = 64 := by decide
    have e2 : wdt 1 = 1 := by decide
    rw [e1, e2]; exact ⟨by omega, by omega, by omega, by omega, by omega, by omega, by decide, by decide⟩
  · have e1 : each 2 = 8 := by decide
    have e2 : wdt 2 = 8 := by decide
    rw [e1, e2]; exact ⟨by omega, by omega, by omega, by omega, by omega, by omega, by decide, by decide⟩
  · have e1 : each 3 = 4 := by decide
    have e2 : wdt 3 = 16 := by decide
    rw [e1, e2]; exact ⟨by omega, by omega, by omega, by omega, by omega, by omega, by decide, by decide⟩
  · have e1 : each 4 = 2 := by decide
    have e2 : wdt 4 = 32 := by decide
    rw [e1, e2]; exact ⟨by omega, by omega, by omega, by omega, by omega, by omega, by decide, by decide⟩
  · have e1 : each 5 = 1 := by decide
    have e2 : wdt 5 = 64 := by decide
    rw [e1, e2]; exact ⟨by omega, by omega, by omega, by omega, by omega, by omega, by decide, by decide⟩
theorem number_ok (hw : WS A.segments) {s a c i n : Int} (hc : 0 ≤ c ∧ c ≤ 5) (h0 : 0 ≤ i) (h1 : i < n) (hn : n < 536870912) (hi : inB A.segments s a ((n * wdt c + 63) / 64) = true) : m_reader_Ref_number ⟨some A, 10, s, a, 0, 0, 0, c, i⟩ = some (numR A ⟨some A, 10, s, a, 0, 0, 0, c, i⟩) := by
  unfold m_reader_Ref_number numR
  simp only
  rw [wWidth_ok hc, Option.bind_some]
  simp only
  by_cases hz : c = 0
  · subst hz
    rw [show (wdt 0 == 0) = true from by decide, cond_true, if_pos rfl]
  · obtain ⟨a1, a2, a3, a4, a5, a6, a7, a8⟩ := each_in (c := c) (by omega) h0 h1 hn
    have hr := in_rg hw hi
    have hi' := inB_iff.1 hi
    have hin : inB A.segments s (a + i / each c) 1 = true := inB_iff.2 ⟨hi'.1, hi'.2.1, by omega, by omega, by omega⟩
    rw [show (wdt c == 0) = false from ieqF a8, cond_false, if_neg hz, a7, i64s (x := each c) (by omega) (by omega), Int.tdiv_eq_ediv_of_nonneg h0, Int.tmod_eq_emod_of_nonneg h0, i64s (x := i / each c) (by omega) (by omega), i64s (x := a + i / each c) (by omega) (by omega)]
    have e1 : guardI (wdt c ≠ 0) = some () := guardI_ok a8
    have e2 : guardI (each c ≠ 0) = some () := guardI_ok (by omega)
    simp only [e1, e2, Option.bind_some]
    rw [aGet_ok hw, if_pos hin, Option.bind_some]
    simp only
    rw [wget_ok (wd_rg hw _ _) (by omega) ⟨a5, a6⟩, Option.bind_some]
theorem word_ok (hw : WS A.segments) {r : S_reader_Ref} (h : OKr A r) (i : Int) : m_reader_Ref_Word r i = some (wordR A r i) := by
  unfold m_reader_Ref_Word wordR
  rw [rWords_ok]
  have hz : (cond (decide (i < 0)) (some true) ((some (wordsN r)).bind fun y4 => some (cond (decide (i < 0)) true (decide (y4 ≤ i))))) = some (decide (i < 0 ∨ wordsN r ≤ i)) := by
    by_cases h0 : i < 0
    · rw [decide_eq_true h0, cond_true, show decide (i < 0 ∨ wordsN r ≤ i) = true from decide_eq_true (.inl h0)]
    · rw [decide_eq_false h0, cond_false, Option.bind_some, cond_false]
      congr 1
      rw [decide_eq_decide]
      omega
  rw [hz, Option.bind_some]
  by_cases hi : i < 0 ∨ wordsN r ≤ i
  · rw [if_pos hi, decide_eq_true hi]; rfl
  rw [if_neg hi, decide_eq_false hi, cond_false]
  cases h with
  | z => exact absurd hi (by simp [wordsN, r0]; try omega)
  | li k s a n hk hn hin => exact absurd hi (by simp only [wordsN]; rw [if_neg (by omega), if_neg (by omega)]; omega)
  | co s a d p n hd hp hn hwx hin => exact absurd hi (by simp [wordsN]; try omega)
  | at_ s a c i' n hc h0 h1 hn hin =>
    simp only [beq_self_eq_true, cond_true, if_true]
    rw [number_ok hw hc h0 h1 hn hin]
    rfl
  | st s a d p hd hp hin =>
    have := in_rg hw hin
    have hi' := inB_iff.1 hin
    simp only [wordsN, if_true] at hi
    simp only [show ((1 : Int) == 10) = false from rfl, cond_false, show ¬ (1 : Int) = 10 from by decide, if_false]
    rw [i64s (by omega) (by omega), aGet_ok hw, if_pos (inB_iff.2 ⟨hi'.1, hi'.2.1, by omega, by omega, by omega⟩)]
    rfl
theorem ref_mk (r : S_reader_Ref) : (⟨r.a, r.kind, r.segment, r.at_, r.words, r.ptrs, r.count, r.code, r.index⟩ : S_reader_Ref) = r := rfl
theorem root_ok (hw : WS A.segments) : m_reader_Root (some A) = some (atR A 0 0) := by
  unfold m_reader_Root
  rw [at_ok hw]
  rfl
theorem stays_loop (hw : WS A.segments) {p : List Int} (hp : p.length * 8 ≤ 140737488355328) : ∀ (k i : Nat) (r : S_reader_Ref), p.length ≤ i + k → OKr A r → runLoop (m_centolaw09_ReaderStays_L0 p) ((i : Int), r.a, r.kind, r.segment, r.at_, r.words, r.ptrs, r.count, r.code, r.index) = some ()
  | 0, i, r, hk, hr => by
    refine runLoop_end ?_
    unfold m_centolaw09_ReaderStays_L0
    simp only
    rw [show decide ((i : Int) < (p.length : Int)) = false from by rw [decide_eq_false_iff_not]; omega]
    rfl
  | k + 1, i, r, hk, hr => by
    by_cases hi : i < p.length ∧ i < 30
    · have hg : getI p (i : Int) = some p[i] := getI_of (List.getElem?_eq_getElem hi.1)
      have hstep : m_centolaw09_ReaderStays_L0 p ((i : Int), r.a, r.kind, r.segment, r.at_, r.words, r.ptrs, r.count, r.code, r.index) = some (.inl (((i + 1 : Nat) : Int), (kidR A r p[i]).1.a, (kidR A r p[i]).1.kind, (kidR A r p[i]).1.segment, (kidR A r p[i]).1.at_, (kidR A r p[i]).1.words, (kidR A r p[i]).1.ptrs, (kidR A r p[i]).1.count, (kidR A r p[i]).1.code, (kidR A r p[i]).1.index)) := by
        unfold m_centolaw09_ReaderStays_L0
        simp only [ref_mk]
        rw [lt_t hi.1, show decide ((i : Int) < 30) = true from by rw [decide_eq_true_eq]; omega, hg]
        simp only [cond_true, Option.bind_some]
        rw [kid_ok hw hr, Option.bind_some, word_ok hw (kid_okr hr _), Option.bind_some, i64s (by omega) (by omega)]
        rfl
      rw [runLoop_step hstep]
      exact stays_loop hw hp k (i + 1) _ (by omega) (kid_okr hr _)
    · refine runLoop_end ?_
      unfold m_centolaw09_ReaderStays_L0
      simp only
      have : cond (decide ((i : Int) < (p.length : Int))) (decide ((i : Int) < 30)) false = false := by
        by_cases h1 : i < p.length
        · rw [lt_t h1, cond_true, decide_eq_false_iff_not]; omega
        · rw [show decide ((i : Int) < (p.length : Int)) = false from by rw [decide_eq_false_iff_not]; omega]; rfl
      rw [this]
      rfl
end
theorem atR_awake : atR ⟨[[4294967296, 7]], 0, 0⟩ 0 0 = (⟨some ⟨[[4294967296, 7]], 0, 0⟩, 1, 0, 1, 1, 0, 0, 0, 0⟩, 0) := by
  unfold atR
  simp only
  rw [fol_awake]
  rfl
theorem ws_awake : WS [[4294967296, 7]] := ws_one _ (by simp) (by simp)
theorem awake9_p : m_centolaw09_awake = some true := by
  have hw := ws_awake
  unfold m_centolaw09_awake
  rw [aOf_ok hw, Option.bind_some, root_ok (A := ⟨[[4294967296, 7]], 0, 0⟩) hw, Option.bind_some]
  have hk := at_okr (A := ⟨[[4294967296, 7]], 0, 0⟩) 0 0
  rw [atR_awake] at hk ⊢
  simp only at hk ⊢
  rw [word_ok (A := ⟨[[4294967296, 7]], 0, 0⟩) hw hk]
  rfl
theorem readerStays_p {l : List (List Int)} (hw : WS l) {p : List Int} (hp : p.length * 8 ≤ 140737488355328) : m_centolaw09_ReaderStays l p = some true := by
  unfold m_centolaw09_ReaderStays
  rw [aOf_ok hw, Option.bind_some, root_ok (A := ⟨l, 0, 0⟩) hw, Option.bind_some, at_ok (A := ⟨l, 0, 0⟩) hw, Option.bind_some]
  generalize hr : atR ⟨l, 0, 0⟩ 0 0 = x
  have ho : OKr ⟨l, 0, 0⟩ x.1 := by rw [← hr]; exact at_okr _ _
  have hL := stays_loop (A := ⟨l, 0, 0⟩) hw hp p.length 0 x.1 (by omega) ho
  rw [show (((0 : Nat) : Int)) = 0 from rfl] at hL
  have e1 : (x.2 != x.2) = false := bne_self_eq_false _
  have k1 : m_reader_Ref_Kind x.1 = some x.1.kind := rfl
  rw [e1, cond_false, k1, rKids_ok]
  simp only [Option.bind_some, bne_self_eq_false, cond_false]
  rw [hL, Option.bind_some, aSegments_ok (A := ⟨l, 0, 0⟩) hw, Option.bind_some, same3_refl hw, Option.bind_some, cond_true, awake9_p]
  rfl
end Go.Proofs.Ytmlhokaflhlhbaa
