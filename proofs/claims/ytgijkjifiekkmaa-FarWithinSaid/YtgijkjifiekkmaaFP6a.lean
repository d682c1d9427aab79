/- Plain facts on this seat's mirrors (part FP6a); each theorem bears its own conditions. -/
import Derived.Test.YtgijkjifiekkmaaFP4
import Derived.IntWalk
namespace Go.Proofs.Ytgijkjifiekkmaa
open Go.RowKit
set_option linter.unusedVariables false
set_option linter.unusedSimpArgs false
theorem i64s {x : Int} (h1 : -9223372036854775808 ≤ x) (h2 : x ≤ 9223372036854775807) : IntKind.i64.wrap x = x := i64w ⟨h1, h2⟩
theorem lt_t {i n : Nat} (h : i < n) : decide ((i : Int) < (n : Int)) = true := by rw [decide_eq_true_eq]; omega
theorem lt_f {n : Nat} : decide ((n : Int) < (n : Int)) = false := by rw [decide_eq_false_iff_not]; omega
/-- segments that there can be -/
structure WS (l : List (List Int)) : Prop where
  n : l.length * 24 ≤ 140737488355328
  s : ∀ x ∈ l, x.length * 8 ≤ 140737488355328
  w : ∀ x ∈ l, ∀ w ∈ x, 0 ≤ w ∧ w < 18446744073709551616
theorem sClone_ok {l : List Int} (h : l.length * 8 ≤ 140737488355328) : m_slices_Clone_uint64_uint64 l = some l := by
  unfold m_slices_Clone_uint64_uint64
  rw [appI_ok (by simp only [List.length_nil]; omega) (by simp only [List.length_nil]; omega), List.nil_append]
theorem setI_ofN {α : Type} (l : List α) (n : Nat) (v : α) : setI l (n : Int) v = l.set n v := by unfold setI; rw [Int.toNat_natCast]
theorem aClone_loop {l : List (List Int)} (h : WS l) : ∀ (r : List (List Int)) (i : Nat), l.drop i = r → i ≤ l.length →
    runLoop (m_arena_clone_L0 l) ((i : Int), l.take i ++ List.replicate r.length []) = some l
  | [], i, hd, hi => by
    have hl : i = l.length := by
      have := congrArg List.length hd
      rw [List.length_drop, List.length_nil] at this; omega
    subst hl
    refine runLoop_end ?_
    unfold m_arena_clone_L0
    simp only
    rw [lt_f, cond_false]
    simp
  | x :: r, i, hd, hi => by
    have hi' : i < l.length := by
      rcases Nat.lt_or_ge i l.length with q | q
      · exact q
      · rw [List.drop_eq_nil_of_le q] at hd; cases hd
    have hx : l[i]? = some x := by
      have := congrArg (·[0]?) hd
      simpa using this
    have hm := List.mem_of_getElem? hx
    have hd' : l.drop (i + 1) = r := by
      have := congrArg (List.drop 1) hd
      rw [List.drop_drop] at this
      simpa [Nat.add_comm] using this
    have hn := h.n
    have hlen : (l.take i).length = i := by rw [List.length_take]; omega
    have hg : getI (l.take i ++ List.replicate (r.length + 1) []) (i : Int) = some ([] : List Int) := getI_of (by rw [List.getElem?_append_right (by omega), hlen, Nat.sub_self]; rfl)
    have hstep : m_arena_clone_L0 l ((i : Int), l.take i ++ List.replicate (r.length + 1) []) = some (.inl (((i + 1 : Nat) : Int), l.take (i + 1) ++ List.replicate r.length [])) := by
      unfold m_arena_clone_L0
      simp only
      rw [lt_t hi', cond_true, getI_of hx, Option.bind_some, sClone_ok (h.s x hm), Option.bind_some, hg, Option.bind_some, i64s (by omega) (by omega), setI_ofN, List.set_append_right _ _ (by omega), hlen, Nat.sub_self, List.replicate_succ, List.set_cons_zero, List.take_add_one, hx, List.append_assoc]
      rfl
    rw [List.length_cons, runLoop_step hstep]
    exact aClone_loop h r (i + 1) hd' (by omega)
theorem aClone_ok {l : List (List Int)} (h : WS l) : m_arena_clone l = some l := by
  have hn := h.n
  have := aClone_loop h l 0 rfl (Nat.zero_le _)
  rw [List.take_zero, List.nil_append, show (((0 : Nat) : Int)) = 0 from rfl] at this
  unfold m_arena_clone
  rw [makeI_ok (by omega) (by omega) (by omega), Option.bind_some, Int.toNat_natCast, this]
  rfl
theorem aOf_ok {l : List (List Int)} (h : WS l) : m_arena_Of l = some (some ⟨l, 0, 0⟩) := by
  unfold m_arena_Of
  rw [aClone_ok h, Option.bind_some]
/-- a segment -/
def seg (l : List (List Int)) (s : Int) : List Int := (l[s.toNat]?).getD []
/-- so many words of a segment, from one on, are there -/
def inB (l : List (List Int)) (s a n : Int) : Bool := decide (0 ≤ s) && (decide (s < l.length) && (decide (0 ≤ a) && (decide (0 ≤ n) && decide (a + n ≤ (seg l s).length))))
theorem inB_iff {l : List (List Int)} {s a n : Int} : inB l s a n = true ↔ 0 ≤ s ∧ s < l.length ∧ 0 ≤ a ∧ 0 ≤ n ∧ a + n ≤ (seg l s).length := by
  unfold inB
  simp only [Bool.and_eq_true, decide_eq_true_eq]
theorem seg_get {l : List (List Int)} {s : Int} (h0 : 0 ≤ s) (h1 : s < l.length) : getI l s = some (seg l s) ∧ seg l s ∈ l := by
  have hs : s.toNat < l.length := by omega
  unfold seg getI
  rw [if_pos h0, List.getElem?_eq_getElem hs]
  exact ⟨rfl, List.getElem_mem hs⟩
def wd (l : List (List Int)) (s a : Int) : Int := ((seg l s)[a.toNat]?).getD 0
theorem wd_get {l : List (List Int)} {s a : Int} (h : inB l s a 1 = true) : getI (seg l s) a = some (wd l s a) ∧ wd l s a ∈ seg l s := by
  rw [inB_iff] at h
  have ha : a.toNat < (seg l s).length := by omega
  unfold wd getI
  rw [if_pos h.2.2.1, List.getElem?_eq_getElem ha]
  exact ⟨rfl, List.getElem_mem ha⟩
theorem wd_rg {l : List (List Int)} (hw : WS l) (s a : Int) : 0 ≤ wd l s a ∧ wd l s a < 18446744073709551616 := by
  unfold wd
  cases h : (seg l s)[a.toNat]? with
  | none => simp
  | some w =>
    have hm := List.mem_of_getElem? h
    unfold seg at hm
    cases hs : l[s.toNat]? with
    | none => rw [hs] at hm; cases hm
    | some x => rw [hs] at hm; exact hw.w x (List.mem_of_getElem? hs) w hm
theorem seg_len {l : List (List Int)} (hw : WS l) (s : Int) : (seg l s).length * 8 ≤ 140737488355328 := by
  unfold seg
  cases hs : l[s.toNat]? with
  | none => simp
  | some x => exact hw.s x (List.mem_of_getElem? hs)
section
variable {A : S_arena_Arena}
theorem aLen_ok : m_arena_Arena_Len (some A) = some (A.segments.length : Int) := rfl
theorem aThere_ok (s : Int) : m_arena_Arena_there (some A) s = some (decide (0 ≤ s) && decide (s < A.segments.length)) := by
  unfold m_arena_Arena_there
  rw [aLen_ok, Option.bind_some]
  cases decide (0 ≤ s) <;> rfl
theorem aSize_ok (s : Int) : m_arena_Arena_Size (some A) s = some (if 0 ≤ s ∧ s < A.segments.length then ((seg A.segments s).length : Int) else 0) := by
  unfold m_arena_Arena_Size
  rw [aThere_ok, Option.bind_some]
  by_cases h : 0 ≤ s ∧ s < A.segments.length
  · rw [decide_eq_true h.1, decide_eq_true h.2, if_pos h, Option.bind_some, (seg_get h.1 h.2).1]
    rfl
  · rw [if_neg h, show (decide (0 ≤ s) && decide (s < A.segments.length)) = false from by rw [Bool.and_eq_false_iff, decide_eq_false_iff_not, decide_eq_false_iff_not]; omega]
    rfl
theorem aHas_ok (hw : WS A.segments) (s a n : Int) : m_arena_Arena_Has (some A) s a n = some (inB A.segments s a n) := by
  have hl := seg_len hw s
  unfold m_arena_Arena_Has inB
  rw [aThere_ok, aSize_ok, Option.bind_some]
  by_cases h : 0 ≤ s ∧ s < A.segments.length
  · rw [if_pos h, decide_eq_true h.1, decide_eq_true h.2]
    by_cases h2 : 0 ≤ a
    · by_cases h3 : 0 ≤ n
      · by_cases h4 : n ≤ ((seg A.segments s).length : Int)
        · simp only [decide_eq_true h2, decide_eq_true h3, Bool.and_true, Bool.true_and, cond_true, Option.bind_some, decide_eq_true h4]
          rw [i64s (by omega) (by omega)]
          congr 1
          rw [Bool.eq_iff_iff, decide_eq_true_eq, decide_eq_true_eq]
          omega
        · simp only [decide_eq_true h2, decide_eq_true h3, Bool.and_true, Bool.true_and, cond_true, cond_false, Option.bind_some, decide_eq_false h4]
          rw [show decide (a + n ≤ ((seg A.segments s).length : Int)) = false from by rw [decide_eq_false_iff_not]; omega]
      · rw [decide_eq_true h2, decide_eq_false h3]; rfl
    · rw [decide_eq_false h2]; rfl
  · rw [show (decide (0 ≤ s) && decide (s < A.segments.length)) = false from by rw [Bool.and_eq_false_iff, decide_eq_false_iff_not, decide_eq_false_iff_not]; omega]
    rw [← Bool.and_assoc, show (decide (0 ≤ s) && decide (s < A.segments.length)) = false from by rw [Bool.and_eq_false_iff, decide_eq_false_iff_not, decide_eq_false_iff_not]; omega]
    rfl
theorem aGet_ok (hw : WS A.segments) (s a : Int) : m_arena_Arena_Get (some A) s a = some (if inB A.segments s a 1 = true then (wd A.segments s a, true) else (0, false)) := by
  unfold m_arena_Arena_Get
  rw [aHas_ok hw, Option.bind_some]
  cases h : inB A.segments s a 1 with
  | false => rfl
  | true =>
    have h' := inB_iff.1 h
    rw [Bool.not_true, cond_false, Option.bind_some, (seg_get h'.1 h'.2.1).1, Option.bind_some, (wd_get h).1]
    rfl
theorem aPart_ok (hw : WS A.segments) (s a n : Int) : m_arena_Arena_Part (some A) s a n = some (if inB A.segments s a n = true then (((seg A.segments s).drop a.toNat).take n.toNat, true) else ([], false)) := by
  have hl := seg_len hw s
  unfold m_arena_Arena_Part
  rw [aHas_ok hw, Option.bind_some]
  cases h : inB A.segments s a n with
  | false => rfl
  | true =>
    have h' := inB_iff.1 h
    rw [Bool.not_true, cond_false, Option.bind_some, (seg_get h'.1 h'.2.1).1, Option.bind_some, i64s (by omega) (by omega), subI_ok (by omega) (by omega) (by omega), Option.bind_some, show a + n - a = n by omega, sClone_ok (by rw [List.length_take, List.length_drop]; omega)]
    rfl
end
/-- a word's pointer -/
def dc (w : Int) : S_ptr_Ptr := decP w.toNat
theorem dc_ok {w : Int} (h : 0 ≤ w ∧ w < 18446744073709551616) : m_ptr_Decode w = some (dc w) := by
  have := decode_p w.toNat (by omega)
  rwa [show ((w.toNat : Nat) : Int) = w by omega] at this
theorem rdc_ok {w : Int} (h : 0 ≤ w ∧ w < 18446744073709551616) : m_centoref04_Decode w = some (dc w) := by
  have := rdecode_p w.toNat (by omega)
  rwa [show ((w.toNat : Nat) : Int) = w by omega] at this
/-- what a pointer's fields are at the most -/
structure PB (p : S_ptr_Ptr) : Prop where
  k : p.Kind = 0 ∨ p.Kind = 1 ∨ p.Kind = 2 ∨ p.Kind = 3 ∨ p.Kind = 4
  o : -536870912 ≤ p.Off ∧ p.Off < 536870912
  d : 0 ≤ p.Data ∧ p.Data < 65536
  q : 0 ≤ p.Ptrs ∧ p.Ptrs < 65536
  c : 0 ≤ p.Code ∧ p.Code < 8
  n : 0 ≤ p.Count ∧ p.Count < 536870912
  s : 0 ≤ p.Segment ∧ p.Segment < 4294967296
  f : p.Kind = 3 → 0 ≤ p.Off
  z : p.Kind = 0 ∨ p.Kind = 4 → p.Off = 0
theorem offN_rg (w : Nat) : -536870912 ≤ offN w ∧ offN w < 536870912 := by
  unfold offN
  split <;> omega
theorem dc_pb (w : Int) : PB (dc w) := by
  have ho := offN_rg w.toNat
  unfold dc decP
  split
  · exact ⟨.inl rfl, by simp, by simp, by simp, by simp, by simp, by simp, by simp, by simp⟩
  split
  · exact ⟨.inr (.inl rfl), ho, by simp only; omega, by simp only; omega, by simp, by simp, by simp, by simp, by simp⟩
  split
  · exact ⟨.inr (.inr (.inl rfl)), ho, by simp, by simp, by simp only; omega, by simp only; omega, by simp, by simp, by simp⟩
  split
  · exact ⟨.inr (.inr (.inr (.inl rfl))), by simp only; omega, by simp, by simp, by simp, by simp, by simp only; omega, fun _ => by simp only; omega, by simp⟩
  · exact ⟨.inr (.inr (.inr (.inr rfl))), by simp, by simp, by simp, by simp, by simp, by simp, by simp, by simp⟩
/-- how many bits a kid takes -/
def wdt (c : Int) : Int := if c = 0 then 0 else if c = 1 then 1 else if c = 2 then 8 else if c = 3 then 16 else if c = 4 then 32 else 64
/-- how many words something takes -/
def pw (p : S_ptr_Ptr) : Int := if p.Kind = 1 then p.Data + p.Ptrs else if p.Code = 7 then p.Count + 1 else (p.Count * wdt p.Code + 63) / 64
theorem c7 {c : Int} (h : 0 ≤ c ∧ c < 8) (h7 : ¬ c = 7) : c = 0 ∨ c = 1 ∨ c = 2 ∨ c = 3 ∨ c = 4 ∨ c = 5 ∨ c = 6 := by omega
theorem width_ok {c : Int} (h : 0 ≤ c ∧ c < 8) (h7 : ¬ c = 7) : m_ptr_width c = some (wdt c) := by
  unfold m_ptr_width
  rcases c7 h h7 with rfl | rfl | rfl | rfl | rfl | rfl | rfl <;> rfl
theorem pw_rg {p : S_ptr_Ptr} (h : PB p) : 0 ≤ pw p ∧ pw p ≤ 1073741824 := by
  have := h.d; have := h.q; have hn := h.n
  unfold pw
  split
  · omega
  split
  · omega
  · rename_i h7
    rcases c7 h.c h7 with q | q | q | q | q | q | q <;> rw [q] <;> unfold wdt <;> simp <;> omega
theorem words_ok {p : S_ptr_Ptr} (h : PB p) : m_ptr_Ptr_Words p = some (if p.Kind = 1 ∨ p.Kind = 2 then (pw p, true) else (0, false)) := by
  have hd := h.d; have hp := h.q; have hn := h.n
  unfold m_ptr_Ptr_Words pw
  by_cases k1 : p.Kind = 1
  · rw [show (p.Kind == 1) = true from by rw [k1]; rfl, cond_true, if_pos (.inl k1), if_pos k1, i64s (by omega) (by omega)]
  rw [show (p.Kind == 1) = false from ieqF k1, cond_false]
  by_cases k2 : p.Kind = 2
  · rw [show (p.Kind == 2) = true from by rw [k2]; rfl, cond_true, if_pos (.inr k2), if_neg k1]
    by_cases c7' : p.Code = 7
    · rw [show (p.Code == 7) = true from by rw [c7']; rfl, cond_true, if_pos c7', i64s (by omega) (by omega)]
    · rw [show (p.Code == 7) = false from ieqF c7', cond_false, if_neg c7', decide_eq_true h.c.1, show decide (p.Code < 7) = true from by rw [decide_eq_true_eq]; have := h.c; omega, decide_eq_true hn.1, show decide (p.Count ≤ 536870911) = true from by rw [decide_eq_true_eq]; omega]
      simp only [cond_true]
      rw [width_ok h.c c7', Option.bind_some]
      have hw : 0 ≤ wdt p.Code ∧ wdt p.Code ≤ 64 := by unfold wdt; repeat' split; all_goals omega
      have h1 : 0 ≤ p.Count * wdt p.Code := Int.mul_nonneg hn.1 hw.1
      have h2 : p.Count * wdt p.Code ≤ 536870912 * 64 := Int.mul_le_mul (by omega) hw.2 hw.1 (by omega)
      rw [i64s (x := p.Count * wdt p.Code) (by omega) (by omega), i64s (x := p.Count * wdt p.Code + 63) (by omega) (by omega), Int.tdiv_eq_ediv_of_nonneg (by omega), i64s (by omega) (by omega)]
  · rw [show (p.Kind == 2) = false from ieqF k2, if_neg (by omega)]
    rfl
theorem rwords_ok {p : S_ptr_Ptr} (h : PB p) (hk : p.Kind = 1 ∨ p.Kind = 2) : m_centoref04_Words p = some (pw p) := by
  have hd := h.d; have hp := h.q; have hn := h.n; have hc := h.c
  unfold m_centoref04_Words pw
  by_cases k1 : p.Kind = 1
  · rw [show (p.Kind == 1) = true from by rw [k1]; rfl, cond_true, if_pos k1, i64s (by omega) (by omega)]
  have k2 : p.Kind = 2 := by omega
  rw [show (p.Kind == 1) = false from ieqF k1, cond_false, show (p.Kind != 2) = false from by rw [k2]; rfl, cond_false, if_neg k1]
  by_cases c7' : p.Code = 7
  · rw [show (p.Code == 7) = true from by rw [c7']; rfl, cond_true, if_pos c7', i64s (by omega) (by omega)]
  rw [show (p.Code == 7) = false from ieqF c7', cond_false, if_neg c7', show decide (p.Code < 0) = false from by rw [decide_eq_false_iff_not]; omega, show decide (6 < p.Code) = false from by rw [decide_eq_false_iff_not]; omega, show decide (p.Count < 0) = false from by rw [decide_eq_false_iff_not]; omega, show decide (536870912 ≤ p.Count) = false from by rw [decide_eq_false_iff_not]; omega]
  simp only [cond_false]
  have hgen : ∀ (k : Int), 0 < k → (guardI (k ≠ 0)).bind (fun _ => cond (decide (0 < Int.tmod p.Count k)) ((guardI (k ≠ 0)).bind fun _ => some (IntKind.i64.wrap (IntKind.i64.wrap (Int.tdiv p.Count k) + 1))) ((guardI (k ≠ 0)).bind fun _ => some (IntKind.i64.wrap (Int.tdiv p.Count k)))) = some (if 0 < p.Count % k then p.Count / k + 1 else p.Count / k) := fun k hk => by
    have hne : k ≠ 0 := by omega
    have h0 : 0 ≤ p.Count / k := Int.ediv_nonneg hn.1 (by omega)
    have h1 : p.Count / k ≤ p.Count := Int.ediv_le_self _ hn.1
    rw [guardI_ok hne, Option.bind_some, Option.bind_some, Option.bind_some, Int.tmod_eq_emod_of_nonneg hn.1, Int.tdiv_eq_ediv_of_nonneg hn.1, i64s (x := p.Count / k) (by omega) (by omega), i64s (x := p.Count / k + 1) (by omega) (by omega)]
    by_cases q : 0 < p.Count % k
    · rw [if_pos q, decide_eq_true q, cond_true]
    · rw [if_neg q, decide_eq_false q, cond_false]
  have hgo : ∀ (k : Int), 0 < k → (if 0 < p.Count % k then p.Count / k + 1 else p.Count / k) = (p.Count + (k - 1)) / k := fun k hk => by
    have e := Int.emod_add_mul_ediv p.Count k
    have e1 := Int.emod_nonneg p.Count (show k ≠ 0 by omega)
    have e2 := Int.emod_lt_of_pos p.Count hk
    split
    · symm
      have : p.Count + (k - 1) = (p.Count % k - 1) + k * (p.Count / k + 1) := by rw [Int.mul_add]; omega
      rw [this, Int.add_mul_ediv_left _ _ (by omega), Int.ediv_eq_zero_of_lt (by omega) (by omega)]
      omega
    · symm
      have : p.Count + (k - 1) = (k - 1) + k * (p.Count / k) := by omega
      rw [this, Int.add_mul_ediv_left _ _ (by omega), Int.ediv_eq_zero_of_lt (by omega) (by omega)]
      omega
  rcases c7 h.c c7' with q | q | q | q | q | q | q
  · rw [show (p.Code == 0) = true from by rw [q]; rfl, cond_true, Option.bind_some, q]
    simp only [wdt, if_true, Int.mul_zero]
    rfl
  · rw [show (p.Code == 0) = false from by rw [q]; rfl, show (p.Code == 1) = true from by rw [q]; rfl, cond_false, cond_true, Option.bind_some]
    simp only
    rw [hgen 64 (by omega), hgo 64 (by omega), q]
    simp [wdt]
  · rw [show (p.Code == 0) = false from by rw [q]; rfl, show (p.Code == 1) = false from by rw [q]; rfl, show (p.Code == 2) = true from by rw [q]; rfl, cond_false, cond_false, cond_true, Option.bind_some]
    simp only
    rw [hgen 8 (by omega), hgo 8 (by omega), q]
    simp [wdt]
    omega
  · rw [show (p.Code == 0) = false from by rw [q]; rfl, show (p.Code == 1) = false from by rw [q]; rfl, show (p.Code == 2) = false from by rw [q]; rfl, show (p.Code == 3) = true from by rw [q]; rfl, cond_false, cond_false, cond_false, cond_true, Option.bind_some]
    simp only
    rw [hgen 4 (by omega), hgo 4 (by omega), q]
    simp [wdt]
    omega
  · rw [show (p.Code == 0) = false from by rw [q]; rfl, show (p.Code == 1) = false from by rw [q]; rfl, show (p.Code == 2) = false from by rw [q]; rfl, show (p.Code == 3) = false from by rw [q]; rfl, show (p.Code == 4) = true from by rw [q]; rfl, cond_false, cond_false, cond_false, cond_false, cond_true, Option.bind_some]
    simp only
    rw [hgen 2 (by omega), hgo 2 (by omega), q]
    simp [wdt]
    omega
  · rw [show (p.Code == 0) = false from by rw [q]; rfl, show (p.Code == 1) = false from by rw [q]; rfl, show (p.Code == 2) = false from by rw [q]; rfl, show (p.Code == 3) = false from by rw [q]; rfl, show (p.Code == 4) = false from by rw [q]; rfl, cond_false, cond_false, cond_false, cond_false, cond_false, Option.bind_some]
    simp only
    rw [hgen 1 (by omega), hgo 1 (by omega), q]
    simp [wdt]
    omega
  · rw [show (p.Code == 0) = false from by rw [q]; rfl, show (p.Code == 1) = false from by rw [q]; rfl, show (p.Code == 2) = false from by rw [q]; rfl, show (p.Code == 3) = false from by rw [q]; rfl, show (p.Code == 4) = false from by rw [q]; rfl, cond_false, cond_false, cond_false, cond_false, cond_false, Option.bind_some]
    simp only
    rw [hgen 1 (by omega), hgo 1 (by omega), q]
    simp [wdt]
    omega

end Go.Proofs.Ytgijkjifiekkmaa
