/- Plain facts on this seat's mirrors (part EP2); each theorem bears its own conditions. -/
import Derived.Test.YtpfbdlcnfekdkaaEP1
import Derived.IntWalk
namespace Go.Proofs.Ytpfbdlcnfekdkaa
open Go.RowKit
set_option linter.unusedVariables false
set_option linter.unusedSimpArgs false
theorem kind1 {A : S_arena_Arena} {r : S_reader_Ref} (h : OKr A r) : 0 ≤ r.kind ∧ r.kind ≤ 10 := by cases h <;> simp [r0] <;> omega
/-- how what is pointed to lies -/
theorem fol_kind (l : List (List Int)) (s a : Int) : ((fol l s a).2 ≠ 0 ∨ (fol l s a).1.P.Kind = 0) ∨ ((fol l s a).2 = 0 ∧ PB (fol l s a).1.P ∧ ((fol l s a).1.P.Kind = 1 ∨ (fol l s a).1.P.Kind = 2) ∧ inB l (fol l s a).1.Segment (fol l s a).1.At (pw (fol l s a).1.P) = true) := by
  rcases fol_or l s a with h | ⟨h1, p, s', a', hp, ho, hk, h, hi⟩
  · rw [h]; exact .inl (.inr rfl)
  · rw [h]; exact .inr ⟨h1, hp, hk, hi⟩
section
variable {A : S_arena_Arena}
theorem tag_rg (w : Int) : 0 ≤ (dc w).Data ∧ (dc w).Data < 65536 ∧ 0 ≤ (dc w).Ptrs ∧ (dc w).Ptrs < 65536 ∧ (dc w).Off < 536870912 := by
  have h := dc_pb w
  exact ⟨h.d.1, h.d.2, h.q.1, h.q.2, h.o.2⟩
theorem mul_lt {n x : Int} (h0 : -536870912 ≤ n ∧ n < 536870912) (h1 : 0 ≤ x ∧ x ≤ 131070) : -70368744177664 ≤ n * x ∧ n * x ≤ 70368744177664 := by
  constructor
  · have : -536870912 * 131070 ≤ n * x := by
      rcases Int.le_total 0 n with h | h
      · have := Int.mul_nonneg h h1.1; omega
      · have h2 : n * 131070 ≤ n * x := Int.mul_le_mul_of_nonpos_left h h1.2
        have h3 : -536870912 * 131070 ≤ n * 131070 := Int.mul_le_mul_of_nonneg_right h0.1 (by omega)
        omega
    omega
  · rcases Int.le_total 0 n with h | h
    · have h2 : n * x ≤ n * 131070 := Int.mul_le_mul_of_nonneg_left h1.2 h
      have h3 : n * 131070 ≤ 536870912 * 131070 := Int.mul_le_mul_of_nonneg_right (by omega) (by omega)
      omega
    · have := Int.mul_nonpos_of_nonpos_of_nonneg h h1.1
      omega
theorem at_okr (s a : Int) : OKr A (atR A s a).1 := by
  unfold atR
  rcases fol_kind A.segments s a with h | ⟨h1, hp, hk, hi⟩
  · rw [if_pos h]; exact .z
  · rw [if_neg (by omega)]
    generalize (fol A.segments s a).1 = x at *
    by_cases k1 : x.P.Kind = 1
    · rw [if_pos k1]
      have : pw x.P = x.P.Data + x.P.Ptrs := by unfold pw; rw [if_pos k1]
      rw [this] at hi
      exact .st _ _ _ _ hp.d hp.q hi
    · rw [if_neg k1]
      have k2 : x.P.Kind = 2 := by omega
      by_cases c7' : x.P.Code = 7
      · rw [if_pos c7']
        have hpw : pw x.P = x.P.Count + 1 := by unfold pw; rw [if_neg k1, if_pos c7']
        rw [hpw] at hi
        have ht := tag_rg (wd A.segments x.Segment x.At)
        simp only
        generalize dc (wd A.segments x.Segment x.At) = t at *
        split
        · exact .z
        · rename_i hc
          have hn := hp.n
          have h0 : 0 ≤ t.Off * (t.Data + t.Ptrs) := Int.mul_nonneg (by omega) (by omega)
          have hi' := inB_iff.1 hi
          exact .co _ _ _ _ _ (by omega) (by omega) (by omega) (by omega) (inB_iff.2 ⟨hi'.1, hi'.2.1, hi'.2.2.1, by omega, by omega⟩)
      · rw [if_neg c7']
        have hpw : pw x.P = (x.P.Count * wdt x.P.Code + 63) / 64 := by unfold pw; rw [if_neg k1, if_neg c7']
        rw [hpw] at hi
        have hc := hp.c
        exact .li _ _ _ _ (by omega) hp.n (by rw [show x.P.Code + 2 - 2 = x.P.Code by omega]; exact hi)
theorem at_ok (hw : WS A.segments) (s a : Int) : m_reader_At (some A) s a = some (atR A s a) := by
  unfold m_reader_At atR
  rw [follow_ok hw, Option.bind_some]
  simp only
  rcases fol_kind A.segments s a with h | ⟨h1, hp, hk, hi⟩
  · rw [if_pos h]
    have : cond ((fol A.segments s a).2 != 0) true ((fol A.segments s a).1.P.Kind == 0) = true := by
      rcases h with h | h
      · rw [bne_iff_ne.2 h]; rfl
      · rw [show ((fol A.segments s a).1.P.Kind == 0) = true from by rw [h]; rfl]
        cases ((fol A.segments s a).2 != 0) <;> rfl
    rw [this, cond_true]; rfl
  · rw [if_neg (by omega), h1, show ((0 : Int) != 0) = false from rfl, cond_false]
    generalize (fol A.segments s a).1 = x at *
    rw [show (x.P.Kind == 0) = false from ieqF (by omega), cond_false]
    by_cases k1 : x.P.Kind = 1
    · rw [if_pos k1, show (x.P.Kind == 1) = true from by rw [k1]; rfl, cond_true]
    · rw [if_neg k1, show (x.P.Kind == 1) = false from ieqF k1, cond_false]
      have hc := hp.c
      by_cases c7' : x.P.Code = 7
      · rw [if_pos c7', show (x.P.Code == 7) = true from by rw [c7']; rfl, cond_true]
        have hpw : pw x.P = x.P.Count + 1 := by unfold pw; rw [if_neg k1, if_pos c7']
        rw [hpw] at hi
        have hn := hp.n
        have hi' := inB_iff.1 hi
        have hi1 : inB A.segments x.Segment x.At 1 = true := inB_iff.2 ⟨hi'.1, hi'.2.1, hi'.2.2.1, by omega, by omega⟩
        unfold m_reader_composite
        simp only
        rw [aGet_ok hw, if_pos hi1, Option.bind_some, dc_ok (wd_rg hw _ _), Option.bind_some]
        have ht := tag_rg (wd A.segments x.Segment x.At)
        have ho := (dc_pb (wd A.segments x.Segment x.At)).o
        generalize dc (wd A.segments x.Segment x.At) = t at *
        have hm := mul_lt (n := t.Off) (x := t.Data + t.Ptrs) ho (by omega)
        rw [i64s (x := t.Data + t.Ptrs) (by omega) (by omega), i64s (x := t.Off * (t.Data + t.Ptrs)) (by omega) (by omega), i64s (x := x.P.Code + 2) (by omega) (by omega), c7']
        by_cases hq : (t.Kind ≠ 0 ∧ t.Kind ≠ 1) ∨ t.Off < 0 ∨ x.P.Count < t.Off * (t.Data + t.Ptrs)
        · rw [if_pos hq]
          have : cond (cond (cond (t.Kind != 0) (t.Kind != 1) false) true (decide (t.Off < 0))) true (decide (x.P.Count < t.Off * (t.Data + t.Ptrs))) = true := by
            rcases hq with ⟨q1, q2⟩ | q | q
            · rw [bne_iff_ne.2 q1, bne_iff_ne.2 q2]; rfl
            · rw [decide_eq_true q]; cases (cond (t.Kind != 0) (t.Kind != 1) false) <;> rfl
            · rw [decide_eq_true q]; cases (cond (cond (t.Kind != 0) (t.Kind != 1) false) true (decide (t.Off < 0))) <;> rfl
          rw [this, cond_true]; rfl
        · rw [if_neg hq]
          have e1 : cond (t.Kind != 0) (t.Kind != 1) false = false := by
            by_cases q0 : t.Kind = 0
            · rw [show (t.Kind != 0) = false from by rw [q0]; rfl]; rfl
            · have q1 : t.Kind = 1 := by omega
              rw [show (t.Kind != 1) = false from by rw [q1]; rfl]
              cases (t.Kind != 0) <;> rfl
          rw [e1, cond_false, show decide (t.Off < 0) = false from by rw [decide_eq_false_iff_not]; omega, cond_false, show decide (x.P.Count < t.Off * (t.Data + t.Ptrs)) = false from by rw [decide_eq_false_iff_not]; omega]
          rfl
      · rw [if_neg c7', show (x.P.Code == 7) = false from ieqF c7', cond_false, i64s (x := x.P.Code + 2) (by omega) (by omega)]
theorem rKids_ok (r : S_reader_Ref) : m_reader_Ref_Kids r = some (kidsN r) := by
  unfold m_reader_Ref_Kids kidsN
  by_cases h : r.kind = 1
  · rw [if_pos h, show (r.kind == 1) = true from by rw [h]; rfl]; rfl
  · rw [if_neg h, show (r.kind == 1) = false from ieqF h]; rfl
/-- a kid -/
def kidR (A : S_arena_Arena) (r : S_reader_Ref) (i : Int) : S_reader_Ref × Int :=
  if i < 0 ∨ kidsN r ≤ i then (r0, 0)
  else if r.kind = 1 then atR A r.segment (r.at_ + r.words + i)
  else if r.kind = 8 then atR A r.segment (r.at_ + i)
  else if r.kind = 9 then (⟨some A, 1, r.segment, r.at_ + 1 + i * (r.words + r.ptrs), r.words, r.ptrs, 0, 0, 0⟩, 0)
  else (⟨some A, 10, r.segment, r.at_, 0, 0, 0, r.kind - 2, i⟩, 0)
theorem kid_okr {r : S_reader_Ref} (h : OKr A r) (i : Int) : OKr A (kidR A r i).1 := by
  unfold kidR
  by_cases hi : i < 0 ∨ kidsN r ≤ i
  · rw [if_pos hi]; exact .z
  rw [if_neg hi]
  by_cases k1 : r.kind = 1
  · rw [if_pos k1]; exact at_okr _ _
  rw [if_neg k1]
  by_cases k8 : r.kind = 8
  · rw [if_pos k8]; exact at_okr _ _
  rw [if_neg k8]
  by_cases k9 : r.kind = 9
  · rw [if_pos k9]
    cases h with
    | z => simp [r0] at k9
    | st _ _ _ _ => simp at k1
    | li k s a n hk => simp only at k9; omega
    | at_ => simp at k9
    | co s a d p n hd hp hn hw hin =>
      simp only
      have hi' := inB_iff.1 hin
      simp only [kidsN] at hi
      rw [if_neg (by omega)] at hi
      have h1 : 0 ≤ i * (d + p) := Int.mul_nonneg (by omega) (by omega)
      have h2 : (i + 1) * (d + p) ≤ n * (d + p) := Int.mul_le_mul_of_nonneg_right (by omega) (by omega)
      rw [Int.add_mul, Int.one_mul] at h2
      exact .st _ _ _ _ hd hp (inB_iff.2 ⟨hi'.1, hi'.2.1, by omega, by omega, by omega⟩)
  · rw [if_neg k9]
    cases h with
    | z => simp [r0, kidsN] at hi; omega
    | st _ _ _ _ => simp at k1
    | co => simp at k9
    | at_ => simp [kidsN] at hi; omega
    | li k s a n hk hn hin =>
      simp only at k8 k9 ⊢
      simp only [kidsN] at hi
      rw [if_neg (by omega)] at hi
      exact .at_ _ _ _ _ n (by omega) (by omega) (by omega) (by omega) hin
theorem in_rg (hw : WS A.segments) {s a n : Int} (h : inB A.segments s a n = true) : 0 ≤ a ∧ 0 ≤ n ∧ a + n ≤ 17592186044416 := by
  have h' := inB_iff.1 h
  have := seg_len hw s
  omega
theorem kid_ok (hw : WS A.segments) {r : S_reader_Ref} (h : OKr A r) (i : Int) : m_reader_Ref_Kid r i = some (kidR A r i) := by
  unfold m_reader_Ref_Kid kidR
  rw [rKids_ok]
  have hz : (cond (decide (i < 0)) (some true) ((some (kidsN r)).bind fun y4 => some (cond (decide (i < 0)) true (decide (y4 ≤ i))))) = some (decide (i < 0 ∨ kidsN r ≤ i)) := by
    by_cases h0 : i < 0
    · rw [decide_eq_true h0, cond_true, show decide (i < 0 ∨ kidsN r ≤ i) = true from decide_eq_true (.inl h0)]
    · rw [decide_eq_false h0, cond_false, Option.bind_some, cond_false]
      congr 1
      rw [decide_eq_decide]
      omega
  rw [hz, Option.bind_some]
  by_cases hi : i < 0 ∨ kidsN r ≤ i
  · rw [if_pos hi, decide_eq_true hi]; rfl
  rw [if_neg hi, decide_eq_false hi, cond_false]
  cases h with
  | z => exact absurd hi (by first | (simp [kidsN, r0]; done) | (simp [kidsN, r0]; omega))
  | at_ => exact absurd hi (by first | (simp [kidsN]; done) | (simp [kidsN]; omega))
  | st s a d p hd hp hin =>
    have := in_rg hw hin
    simp only [kidsN, if_true] at hi
    simp only [beq_self_eq_true, cond_true, if_true]
    rw [i64s (x := a + d) (by omega) (by omega), i64s (by omega) (by omega), at_ok hw]
    rfl
  | co s a d p n hd hp hn hwx hin =>
    have := in_rg hw hin
    simp only [kidsN] at hi
    rw [if_neg (by omega)] at hi
    simp only [show ((9 : Int) == 1) = false from rfl, show ((9 : Int) == 8) = false from rfl, show ((9 : Int) == 9) = true from rfl, cond_true, cond_false, show ¬ (9 : Int) = 1 from by decide, show ¬ (9 : Int) = 8 from by decide, if_false, if_true]
    have h1 : 0 ≤ i * (d + p) := Int.mul_nonneg (by omega) (by omega)
    have h2 : (i + 1) * (d + p) ≤ n * (d + p) := Int.mul_le_mul_of_nonneg_right (by omega) (by omega)
    rw [Int.add_mul, Int.one_mul] at h2
    rw [i64s (x := a + 1) (by omega) (by omega), i64s (x := d + p) (by omega) (by omega), i64s (x := i * (d + p)) (by omega) (by omega), i64s (by omega) (by omega)]
  | li k s a n hk hn hin =>
    have := in_rg hw hin
    simp only [kidsN] at hi
    rw [if_neg (by omega)] at hi
    simp only
    rw [show (k == 1) = false from ieqF (by omega), cond_false, if_neg (by omega), show (k == 9) = false from ieqF (by omega)]
    by_cases k8 : k = 8
    · have hp : (n * wdt (k - 2) + 63) / 64 = n := by rw [k8]; simp [wdt]; omega
      rw [show (k == 8) = true from by rw [k8]; rfl, cond_true, if_pos k8, i64s (by omega) (by omega), at_ok hw]
      rfl
    · rw [show (k == 8) = false from ieqF k8, cond_false, cond_false, if_neg k8, if_neg (by omega), i64s (by omega) (by omega)]
/-- how many words -/
def wordsN (r : S_reader_Ref) : Int := if r.kind = 1 then r.words else if r.kind = 10 then 1 else 0
theorem rWords_ok (r : S_reader_Ref) : m_reader_Ref_Words r = some (wordsN r) := by
  unfold m_reader_Ref_Words wordsN
  by_cases h : r.kind = 1
  · rw [if_pos h, show (r.kind == 1) = true from by rw [h]; rfl]; rfl
  · rw [if_neg h, show (r.kind == 1) = false from ieqF h]
    by_cases h' : r.kind = 10
    · rw [if_pos h', show (r.kind == 10) = true from by rw [h']; rfl]; rfl
    · rw [if_neg h', show (r.kind == 10) = false from ieqF h']; rfl
/-- a number of so many bits: in which word, behind how many bits -/
def numW (w : Int) (c j : Int) : Int := ((w.toNat / 2 ^ (j * wdt c).toNat % 2 ^ (wdt c).toNat : Nat) : Int)
def each (c : Int) : Int := 64 / wdt c
/-- an atom's -/
def numR (A : S_arena_Arena) (r : S_reader_Ref) : Int := if r.code = 0 then 0 else numW (wd A.segments r.segment (r.at_ + r.index / each r.code)) r.code (r.index % each r.code)
theorem c5 {c : Int} (h : 0 ≤ c ∧ c ≤ 5) : c = 0 ∨ c = 1 ∨ c = 2 ∨ c = 3 ∨ c = 4 ∨ c = 5 := by omega
theorem wWidth_ok {c : Int} (h : 0 ≤ c ∧ c ≤ 5) : m_word_Width c = some (wdt c, true) := by
  unfold m_word_Width
  rcases c5 h with rfl | rfl | rfl | rfl | rfl | rfl <;> rfl
theorem land_mask (w : Nat) (k : Nat) (hw : w < 18446744073709551616) (hk : k ≤ 64) : IntKind.u64.wrap (landI .u64 (w : Int) (IntKind.u64.wrap (IntKind.u64.wrap (1 * 2 ^ min (Int.toNat (k : Int)) 64) - 1))) = ((w % 2 ^ k : Nat) : Int) := by
  have hm : IntKind.u64.wrap (IntKind.u64.wrap (1 * 2 ^ min (Int.toNat (k : Int)) 64) - 1) = ((2 ^ k - 1 : Nat) : Int) := by
    rw [Int.toNat_natCast, Nat.min_eq_left hk, natpow]
    rcases Nat.lt_or_ge k 64 with h | h
    · have h1 : 2 ^ k ≤ 2 ^ 63 := Nat.pow_le_pow_right (by decide) (by omega)
      have h2 : 0 < 2 ^ k := Nat.pow_pos (by decide)
      rw [Int.one_mul, u64c (2 ^ k) (by omega), show (((2 ^ k : Nat) : Int) - 1) = ((2 ^ k - 1 : Nat) : Int) by omega, u64c _ (by omega)]
    · have : k = 64 := by omega
      subst this
      decide
  rw [hm]
  have e : landI .u64 (w : Int) ((2 ^ k - 1 : Nat) : Int) = ((w &&& (2 ^ k - 1) : Nat) : Int) := by
    unfold landI
    congr 1
    have h1 : 2 ^ k ≤ 2 ^ 64 := Nat.pow_le_pow_right (by decide) hk
    have h2 : 0 < 2 ^ k := Nat.pow_pos (by decide)
    rw [BitVec.toNat_and]
    have e1 : (BitVec.ofInt (IntKind.u64).bits (w : Int)).toNat = w := by
      show (BitVec.ofInt 64 (w : Int)).toNat = w
      rw [BitVec.ofInt_natCast, BitVec.toNat_ofNat]
      exact Nat.mod_eq_of_lt (by omega)
    have e2 : (BitVec.ofInt (IntKind.u64).bits ((2 ^ k - 1 : Nat) : Int)).toNat = 2 ^ k - 1 := by
      show (BitVec.ofInt 64 ((2 ^ k - 1 : Nat) : Int)).toNat = 2 ^ k - 1
      rw [BitVec.ofInt_natCast, BitVec.toNat_ofNat]
      exact Nat.mod_eq_of_lt (by omega)
    rw [e1, e2]
  rw [e, Nat.and_two_pow_sub_one_eq_mod]
  have : w % 2 ^ k ≤ w := Nat.mod_le _ _
  exact IntWalk.u64_in _ (by omega)
theorem wget_ok {w c j : Int} (hw : 0 ≤ w ∧ w < 18446744073709551616) (hc : 1 ≤ c ∧ c ≤ 5) (hj : 0 ≤ j ∧ j < each c) : m_word_Get [w] c j = some (numW w c j) := by
  unfold m_word_Get numW
  rw [wWidth_ok (by omega), Option.bind_some]
  simp only
  obtain ⟨d, e, hd⟩ : ∃ d : Nat, wdt c = (d : Int) ∧ (d = 1 ∨ d = 8 ∨ d = 16 ∨ d = 32 ∨ d = 64) := by
    rcases c5 (c := c) (by omega) with rfl | rfl | rfl | rfl | rfl | rfl
    · omega
    · exact ⟨1, rfl, by omega⟩
    · exact ⟨8, rfl, by omega⟩
    · exact ⟨16, rfl, by omega⟩
    · exact ⟨32, rfl, by omega⟩
    · exact ⟨64, rfl, by omega⟩
  have he : each c = ((64 / d : Nat) : Int) := by unfold each; rw [e]; rfl
  have hdd : 64 / d * d = 64 := by rcases hd with rfl | rfl | rfl | rfl | rfl <;> rfl
  have hdp : 1 ≤ d ∧ d ≤ 64 := by omega
  have hep : 1 ≤ 64 / d ∧ 64 / d ≤ 64 := by rcases hd with rfl | rfl | rfl | rfl | rfl <;> decide
  rw [he] at hj
  obtain ⟨q, rfl⟩ : ∃ q : Nat, j = q := ⟨j.toNat, by omega⟩
  have hq : q < 64 / d := by omega
  have hqd : q * d + d ≤ 64 := by
    have : (q + 1) * d ≤ 64 / d * d := Nat.mul_le_mul_right d hq
    rw [Nat.add_mul] at this
    omega
  rw [e]
  have t1 : Int.tdiv 64 (d : Int) = ((64 / d : Nat) : Int) := by rw [Int.tdiv_eq_ediv_of_nonneg (by decide)]; rfl
  have t2 : Int.tdiv (q : Int) ((64 / d : Nat) : Int) = 0 := by
    rw [Int.tdiv_eq_ediv_of_nonneg (by omega), show ((q : Int) / ((64 / d : Nat) : Int)) = ((q / (64 / d) : Nat) : Int) from rfl, Nat.div_eq_of_lt hq]
    rfl
  have t3 : Int.tmod (q : Int) ((64 / d : Nat) : Int) = (q : Int) := by
    rw [Int.tmod_eq_emod_of_nonneg (by omega), show ((q : Int) % ((64 / d : Nat) : Int)) = ((q % (64 / d) : Nat) : Int) from rfl, Nat.mod_eq_of_lt hq]
  rw [t1, i64s (x := ((64 / d : Nat) : Int)) (by omega) (by omega), t2, t3, show IntKind.i64.wrap 0 = 0 from by decide]
  have t4 : ((q : Int) * (d : Int)) = ((q * d : Nat) : Int) := by simp
  rw [t4, i64s (x := ((q * d : Nat) : Int)) (by omega) (by omega), show (((d : Nat) : Int) == 0) = false from ieqF (by omega), show decide ((q : Int) < 0) = false from by rw [decide_eq_false_iff_not]; omega]
  simp only [cond_false]
  have g0 : getI [w] 0 = some w := rfl
  have e1 : guardI ((d : Int) ≠ 0) = some () := guardI_ok (by omega)
  have e2 : guardI (((64 / d : Nat) : Int) ≠ 0) = some () := guardI_ok (by omega)
  have e3 : guardI (0 ≤ ((q * d : Nat) : Int)) = some () := guardI_ok (by omega)
  have e4 : guardI (0 ≤ (d : Int)) = some () := guardI_ok (by omega)
  simp only [e1, e2, e3, e4, g0, Option.bind_some, cond_false, show decide ((([w] : List Int).length : Int) ≤ 0) = false from rfl]
  congr 1
  have hwn : w = ((w.toNat : Nat) : Int) := by omega
  have hf : Int.fdiv w (2 ^ min (Int.toNat ((q * d : Nat) : Int)) 64) = ((w.toNat / 2 ^ (q * d) : Nat) : Int) := by
    rw [Int.toNat_natCast, Nat.min_eq_left (by omega), natpow, Int.fdiv_eq_ediv_of_nonneg _ (Int.natCast_nonneg _)]
    conv => lhs; rw [hwn]
    rfl
  rw [hf, land_mask _ d (Nat.lt_of_le_of_lt (Nat.div_le_self _ _) (by omega)) (by omega)]
  rw [Int.toNat_natCast, Int.toNat_natCast]
end

section
variable {A : S_arena_Arena}
/-- a word -/
def wordR (A : S_arena_Arena) (r : S_reader_Ref) (i : Int) : Int :=
  if i < 0 ∨ wordsN r ≤ i then 0 else if r.kind = 10 then numR A r else wd A.segments r.segment (r.at_ + i)
theorem each_in {c i n : Int} (hc : 1 ≤ c ∧ c ≤ 5) (h0 : 0 ≤ i) (h1 : i < n) (hn : n < 536870912) : 1 ≤ each c ∧ each c ≤ 64 ∧ 0 ≤ i / each c ∧ i / each c + 1 ≤ (n * wdt c + 63) / 64 ∧ 0 ≤ i % each c ∧ i % each c < each c ∧ Int.tdiv 64 (wdt c) = each c ∧ wdt c ≠ 0 := by
  rcases c5 (c := c) (by omega) with rfl | rfl | rfl | rfl | rfl | rfl
  · omega
  · have e1 : each 1 = 64 := by decide
    have e2 : wdt 1 = 1 := by decide
    rw [e1, e2]; exact ⟨by omega, by omega, by omega, by omega, by omega, by omega, by decide, by decide⟩
  · have e1 : each 2 = 8 := by decide
    have e2 : wdt 2 = 8 := by decide
    rw [e1, e2]; exact ⟨by omega, by omega, by omega, by omega, by omega, by omega, by decide, by decide⟩
  · have e1 : each 3 = 4 := by decide
    have e2 : wdt 3 = 16 := by decide
    rw [e1, e2]; exact ⟨by omega, by omega, by omega, by omega, by omega, by omega, by decide, by decide⟩
  · have e1 : each 4 = 2 := by decide
    have e2 : wdt 4 = 32 := by decide
    rw [e1, e2]; exact ⟨by omega, by omega, by omega, by omega, by omega, by omega, by decide, by decide⟩
  · have e1 : each 5 = 1 := by decide
    have e2 : wdt 5 = 64 := by decide
    rw [e1, e2]; exact ⟨by omega, by omega, by omega, by omega, by omega, by omega, by decide, by decide⟩
theorem number_ok (hw : WS A.segments) {s a c i n : Int} (hc : 0 ≤ c ∧ c ≤ 5) (h0 : 0 ≤ i) (h1 : i < n) (hn : n < 536870912) (hi : inB A.segments s a ((n * wdt c + 63) / 64) = true) : m_reader_Ref_number ⟨some A, 10, s, a, 0, 0, 0, c, i⟩ = some (numR A ⟨some A, 10, s, a, 0, 0, 0, c, i⟩) := by
  unfold m_reader_Ref_number numR
  simp only
  rw [wWidth_ok hc, Option.bind_some]
  simp only
  by_cases hz : c = 0
  · subst hz
    rw [show (wdt 0 == 0) = true from by decide, cond_true, if_pos rfl]
  · obtain ⟨a1, a2, a3, a4, a5, a6, a7, a8⟩ := each_in (c := c) (by omega) h0 h1 hn
    have hr := in_rg hw hi
    have hi' := inB_iff.1 hi
    have hin : inB A.segments s (a + i / each c) 1 = true := inB_iff.2 ⟨hi'.1, hi'.2.1, by omega, by omega, by omega⟩
    rw [show (wdt c == 0) = false from ieqF a8, cond_false, if_neg hz, a7, i64s (x := each c) (by omega) (by omega), Int.tdiv_eq_ediv_of_nonneg h0, Int.tmod_eq_emod_of_nonneg h0, i64s (x := i / each c) (by omega) (by omega), i64s (x := a + i / each c) (by omega) (by omega)]
    have e1 : guardI (wdt c ≠ 0) = some () := guardI_ok a8
    have e2 : guardI (each c ≠ 0) = some () := guardI_ok (by omega)
    simp only [e1, e2, Option.bind_some]
    rw [aGet_ok hw, if_pos hin, Option.bind_some]
    simp only
    rw [wget_ok (wd_rg hw _ _) (by omega) ⟨a5, a6⟩, Option.bind_some]
theorem word_ok (hw : WS A.segments) {r : S_reader_Ref} (h : OKr A r) (i : Int) : m_reader_Ref_Word r i = some (wordR A r i) := by
  unfold m_reader_Ref_Word wordR
  rw [rWords_ok]
  have hz : (cond (decide (i < 0)) (some true) ((some (wordsN r)).bind fun y4 => some (cond (decide (i < 0)) true (decide (y4 ≤ i))))) = some (decide (i < 0 ∨ wordsN r ≤ i)) := by
    by_cases h0 : i < 0
    · rw [decide_eq_true h0, cond_true, show decide (i < 0 ∨ wordsN r ≤ i) = true from decide_eq_true (.inl h0)]
    · rw [decide_eq_false h0, cond_false, Option.bind_some, cond_false]
      congr 1
      rw [decide_eq_decide]
      omega
  rw [hz, Option.bind_some]
  by_cases hi : i < 0 ∨ wordsN r ≤ i
  · rw [if_pos hi, decide_eq_true hi]; rfl
  rw [if_neg hi, decide_eq_false hi, cond_false]
  cases h with
  | z => exact absurd hi (by simp [wordsN, r0]; try omega)
  | li k s a n hk hn hin => exact absurd hi (by simp only [wordsN]; rw [if_neg (by omega), if_neg (by omega)]; omega)
  | co s a d p n hd hp hn hwx hin => exact absurd hi (by simp [wordsN]; try omega)
  | at_ s a c i' n hc h0 h1 hn hin =>
    simp only [beq_self_eq_true, cond_true, if_true]
    rw [number_ok hw hc h0 h1 hn hin]
    rfl
  | st s a d p hd hp hin =>
    have := in_rg hw hin
    have hi' := inB_iff.1 hin
    simp only [wordsN, if_true] at hi
    simp only [show ((1 : Int) == 10) = false from rfl, cond_false, show ¬ (1 : Int) = 10 from by decide, if_false]
    rw [i64s (by omega) (by omega), aGet_ok hw, if_pos (inB_iff.2 ⟨hi'.1, hi'.2.1, by omega, by omega, by omega⟩)]
    rfl
theorem root_ok (hw : WS A.segments) : m_reader_Root (some A) = some (atR A 0 0) := by
  unfold m_reader_Root
  rw [at_ok hw]
  rfl
end
abbrev Tr := S_api_Tree
/-- structs and lists within one another -/
def lvR (r : S_reader_Ref) : Int := if r.kind = 0 then 0 else if r.kind = 9 ∧ 0 < r.count then 2 else 1
/-- what a value weighs, its pointers not followed -/
def wtR (r : S_reader_Ref) : Int := if r.kind = 0 then 0 else if r.kind = 1 then 1 + r.words + r.ptrs else if r.kind = 9 then 1 + r.count * (1 + r.words + r.ptrs) else 1 + r.count
section
variable {A : S_arena_Arena}
theorem wt_rg (hw : WS A.segments) {r : S_reader_Ref} (h : OKr A r) : 0 ≤ wtR r ∧ wtR r ≤ 4503599627370496 ∧ (r.kind ≠ 0 → 1 ≤ wtR r) := by
  cases h with
  | z => simp [wtR, r0]
  | st s a d p hd hp hin => simp [wtR]; omega
  | li k s a n hk hn hin => simp only [wtR]; rw [if_neg (by omega), if_neg (by omega), if_neg (by omega)]; omega
  | co s a d p n hd hp hn hwx hin =>
    simp only [wtR, show ¬ (9 : Int) = 0 from by decide, show ¬ (9 : Int) = 1 from by decide, if_false, if_true]
    have : n * (1 + d + p) = n + n * (d + p) := by rw [Int.add_assoc, Int.mul_add, Int.mul_one]
    omega
  | at_ s a c i n hc h0 h1 hn hin => simp [wtR]
/-- a value's words -/
def wordsL (A : S_arena_Arena) (r : S_reader_Ref) : List Int := if r.kind = 10 then [numR A r] else if r.kind = 1 then ((seg A.segments r.segment).drop r.at_.toNat).take r.words.toNat else []
/-- kid by kid: the trees, what may be weighed still, an error -/
def kidsGo (f : S_reader_Ref → Int → Tr × Int × Int) (g : Int → S_reader_Ref × Int) : Nat → Nat → Int → List Tr → List Tr × Int × Int
  | 0, _, left, acc => (acc, left, 0)
  | m + 1, i, left, acc => if (g i).2 ≠ 0 then (acc, left, (g i).2) else if (f (g i).1 left).2.2 ≠ 0 then (acc, (f (g i).1 left).2.1, (f (g i).1 left).2.2) else kidsGo f g m (i + 1) (f (g i).1 left).2.1 (acc ++ [(f (g i).1 left).1])
/-- a struct of a list, weighed already -/
def stK (A : S_arena_Arena) (f : S_reader_Ref → Int → Tr × Int × Int) (k : S_reader_Ref) (left : Int) : Tr × Int × Int :=
  let q := kidsGo f (kidR A k) k.ptrs.toNat 0 left []
  (⟨1, wordsL A k, q.1⟩, q.2)
def atomK (A : S_arena_Arena) (k : S_reader_Ref) (left : Int) : Tr × Int × Int := (⟨k.kind, wordsL A k, []⟩, left, 0)
def kidF (A : S_arena_Arena) (f1 f2 : S_reader_Ref → Int → Tr × Int × Int) (r : S_reader_Ref) : S_reader_Ref → Int → Tr × Int × Int :=
  if r.kind = 9 then stK A f2 else if r.kind = 1 ∨ r.kind = 8 then f1 else atomK A
def meanB (A : S_arena_Arena) (f1 f2 : S_reader_Ref → Int → Tr × Int × Int) (d : Int) (r : S_reader_Ref) (left : Int) : Tr × Int × Int :=
  if r.kind = 0 then (⟨r.kind, wordsL A r, []⟩, left, 0)
  else if d < lvR r ∨ left < wtR r then (⟨r.kind, wordsL A r, []⟩, left, 3)
  else
    let q := kidsGo (kidF A f1 f2 r) (kidR A r) (kidsN r).toNat 0 (left - wtR r) []
    (⟨r.kind, wordsL A r, q.1⟩, q.2)
def bad (_ : S_reader_Ref) (left : Int) : Tr × Int × Int := (⟨0, [], []⟩, left, 3)
/-- what a value means, so deep at the most, and what may be weighed still -/
def mean (A : S_arena_Arena) : Nat → S_reader_Ref → Int → Tr × Int × Int
  | 0 => meanB A bad bad 0
  | 1 => meanB A (mean A 0) bad 1
  | d + 2 => meanB A (mean A (d + 1)) (mean A d) ((d + 2 : Nat) : Int)
def meanP (A : S_arena_Arena) (k : Nat) (d : Nat) : S_reader_Ref → Int → Tr × Int × Int := if k ≤ d then mean A (d - k) else bad
theorem mean_eq (d : Nat) : mean A d = meanB A (meanP A 1 d) (meanP A 2 d) (d : Int) := by
  match d with
  | 0 => rfl
  | 1 => rfl
  | d + 2 =>
    unfold meanP
    rw [if_pos (by omega), if_pos (by omega)]
    rfl
/-- as much is left as there was, or less -/
def Lf (A : S_arena_Arena) (f : S_reader_Ref → Int → Tr × Int × Int) : Prop := ∀ k left, OKr A k → 0 ≤ left → (f k left).2.2 = 0 → 0 ≤ (f k left).2.1 ∧ (f k left).2.1 ≤ left
theorem go_left {f : S_reader_Ref → Int → Tr × Int × Int} {g : Int → S_reader_Ref × Int} (hf : Lf A f) (hg : ∀ i, OKr A (g i).1) : ∀ (m i : Nat) (left : Int) (acc : List Tr), 0 ≤ left → (kidsGo f g m i left acc).2.2 = 0 → 0 ≤ (kidsGo f g m i left acc).2.1 ∧ (kidsGo f g m i left acc).2.1 ≤ left
  | 0, i, left, acc, h0, _ => ⟨h0, Int.le_refl _⟩
  | m + 1, i, left, acc, h0, h => by
    rw [kidsGo] at h ⊢
    by_cases h1 : (g i).2 ≠ 0
    · rw [if_pos h1] at h; exact absurd h h1
    rw [if_neg h1] at h ⊢
    by_cases h2 : (f (g i).1 left).2.2 ≠ 0
    · rw [if_pos h2] at h; exact absurd h h2
    rw [if_neg h2] at h ⊢
    have h2' : (f (g i).1 left).2.2 = 0 := by omega
    obtain ⟨a1, a2⟩ := hf _ _ (hg i) h0 h2'
    obtain ⟨b1, b2⟩ := go_left hf hg m (i + 1) _ _ a1 h
    exact ⟨b1, by omega⟩
theorem lf_bad : Lf A bad := fun k left _ _ h => by simp [bad] at h
theorem lf_stK {f : S_reader_Ref → Int → Tr × Int × Int} (hf : Lf A f) : Lf A (stK A f) := fun k left hk h0 h => go_left hf (fun i => kid_okr hk i) _ _ _ _ h0 h
theorem lf_atomK : Lf A (atomK A) := fun k left _ h0 _ => ⟨h0, Int.le_refl _⟩
theorem lf_kidF {f1 f2 : S_reader_Ref → Int → Tr × Int × Int} (h1 : Lf A f1) (h2 : Lf A f2) (r : S_reader_Ref) : Lf A (kidF A f1 f2 r) := by
  unfold kidF
  split
  · exact lf_stK h2
  split
  · exact h1
  · exact lf_atomK
theorem lf_meanB (hw : WS A.segments) {f1 f2 : S_reader_Ref → Int → Tr × Int × Int} (h1 : Lf A f1) (h2 : Lf A f2) (d : Int) : Lf A (meanB A f1 f2 d) := fun r left hr h0 h => by
  have hwt := wt_rg hw hr
  unfold meanB at h ⊢
  by_cases k0 : r.kind = 0
  · rw [if_pos k0]; exact ⟨h0, Int.le_refl _⟩
  rw [if_neg k0] at h ⊢
  by_cases hb : d < lvR r ∨ left < wtR r
  · rw [if_pos hb] at h; simp at h
  rw [if_neg hb] at h ⊢
  have := go_left (lf_kidF h1 h2 r) (fun i => kid_okr hr i) (kidsN r).toNat 0 (left - wtR r) [] (by omega) h
  simp only
  omega
theorem lf_mean (hw : WS A.segments) : ∀ d, Lf A (mean A d) := fun d => by
  induction d using Nat.strongRecOn with
  | ind d ih =>
    rw [mean_eq]
    refine lf_meanB hw ?_ ?_ _
    · unfold meanP
      split
      · exact ih _ (by omega)
      · exact lf_bad
    · unfold meanP
      split
      · exact ih _ (by omega)
      · exact lf_bad
end

section
variable {A : S_arena_Arena}
theorem kidsN_rg {r : S_reader_Ref} (h : OKr A r) : 0 ≤ kidsN r ∧ kidsN r ≤ 1073741824 := by
  cases h with
  | z => simp [kidsN, r0]
  | st s a d p hd hp hin => simp only [kidsN, if_true]; omega
  | li k s a n hk hn hin => simp only [kidsN]; rw [if_neg (by omega)]; omega
  | co s a d p n hd hp hn hwx hin => simp only [kidsN]; rw [if_neg (by omega)]; omega
  | at_ s a c i n hc h0 h1 hn hin => simp [kidsN]
theorem kid_struct1 {r : S_reader_Ref} (hk : r.kind = 9) {i : Int} (h : 0 ≤ i ∧ i < kidsN r) : (kidR A r i).1.kind = 1 := by
  unfold kidR
  rw [if_neg (by omega), if_neg (by omega), if_neg (by omega), if_pos hk]
def clamp (x m : Int) : Int := if m < (if x < 0 then 0 else x) then m else (if x < 0 then 0 else x)
def lims (x : S_api_Limits) : S_api_Limits := ⟨clamp x.Depth 64, clamp x.Weight 65536, clamp x.MaxD 4096, clamp x.MaxOut 131072⟩
theorem clamp_rg (x m : Int) (hm : 0 ≤ m) : 0 ≤ clamp x m ∧ clamp x m ≤ m := by unfold clamp; repeat' split; all_goals omega
/-- what a message weighs, or an error -/
def chkW (A : S_arena_Arena) (x : S_api_Limits) : Int × Int :=
  if (atR A 0 0).2 ≠ 0 then (0, (atR A 0 0).2)
  else
    let q := mean A (lims x).Depth.toNat (atR A 0 0).1 (lims x).Weight
    if q.2.2 ≠ 0 then (0, q.2.2) else ((lims x).Weight - q.2.1, 0)
end
theorem within_clamp (x m : Int) (hm : 0 ≤ m) : m_centoref10_within x m = some (clamp x m) := by
  unfold m_centoref10_within clamp
  by_cases h : x < 0
  · rw [decide_eq_true h, if_pos h, if_neg (by omega)]; rfl
  · rw [decide_eq_false h, if_neg h]
    by_cases h2 : m < x
    · rw [decide_eq_true h2, if_pos h2]; rfl
    · rw [decide_eq_false h2, if_neg h2]; rfl
theorem rlimits_ok (x : S_api_Limits) : m_centoref10_Limits x = some (lims x) := by
  unfold m_centoref10_Limits
  rw [within_clamp _ _ (by decide), within_clamp _ _ (by decide), within_clamp _ _ (by decide), within_clamp _ _ (by decide)]
  rfl
section
variable {A : S_arena_Arena}
end
theorem light_ok (x : S_api_Limits) : ∃ w, m_centolaw10_Light x = some ⟨x.Depth, w, x.MaxD, x.MaxOut⟩ := by
  unfold m_centolaw10_Light
  cases decide (3000 < x.Weight) with
  | true => exact ⟨3000, rfl⟩
  | false => exact ⟨x.Weight, rfl⟩
theorem rwidth_ok {c : Int} (h : 0 ≤ c ∧ c ≤ 5) : m_centoref01_Width c = some (wdt c) := by
  unfold m_centoref01_Width
  rcases c5 h with rfl | rfl | rfl | rfl | rfl | rfl <;> rfl
/-- a bit of words -/
theorem bit_loop (q : Int) (n : Nat) (hn : Int.tmod q 64 = (n : Int)) (hn2 : n < 64) : ∀ (m t w : Nat), t + m = n → w < 18446744073709551616 → runLoop (m_centoref01_Bit_L0 q) ((w : Int), (t : Int)) = some ((w / 2 ^ m : Nat) : Int)
  | 0, t, w, h, hw => by
    refine runLoop_end ?_
    unfold m_centoref01_Bit_L0
    simp only
    rw [hn, show decide ((t : Int) < (n : Int)) = false from by rw [decide_eq_false_iff_not]; omega, cond_false, Nat.pow_zero, Nat.div_one]
  | m + 1, t, w, h, hw => by
    have hs : m_centoref01_Bit_L0 q ((w : Int), (t : Int)) = some (.inl (((w / 2 : Nat) : Int), ((t + 1 : Nat) : Int))) := by
      unfold m_centoref01_Bit_L0
      simp only
      rw [hn, show decide ((t : Int) < (n : Int)) = true from by rw [decide_eq_true_eq]; omega, cond_true, Int.tdiv_eq_ediv_of_nonneg (by omega), show ((w : Int) / 2) = ((w / 2 : Nat) : Int) from rfl, u64c _ (by omega), i64s (by omega) (by omega)]
      rfl
    rw [runLoop_step hs, bit_loop q n hn hn2 m (t + 1) (w / 2) (by omega) (by omega), Nat.div_div_eq_div_mul, Nat.pow_succ, Nat.mul_comm]
theorem bit_ok {l : List Int} (hl : ∀ w ∈ l, 0 ≤ w ∧ w < 18446744073709551616) {k : Nat} {w : Int} (hk : k < 1125899906842624) (hg : l[k / 64]? = some w) : m_centoref01_Bit l (k : Int) = some ((w.toNat / 2 ^ (k % 64) % 2 : Nat) : Int) := by
  have hi : k / 64 < l.length := by
    rcases Nat.lt_or_ge (k / 64) l.length with h | h
    · exact h
    · rw [List.getElem?_eq_none h] at hg; cases hg
  have hwr := hl w (List.mem_of_getElem? hg)
  unfold m_centoref01_Bit
  have t1 : Int.tdiv (k : Int) 64 = ((k / 64 : Nat) : Int) := by rw [Int.tdiv_eq_ediv_of_nonneg (by omega)]; rfl
  have t2 : Int.tmod (k : Int) 64 = ((k % 64 : Nat) : Int) := by rw [Int.tmod_eq_emod_of_nonneg (by omega)]; rfl
  rw [t1, i64s (x := ((k / 64 : Nat) : Int)) (by omega) (by omega), show decide ((k : Int) < 0) = false from by rw [decide_eq_false_iff_not]; omega, cond_false, show decide ((l.length : Int) ≤ ((k / 64 : Nat) : Int)) = false from by rw [decide_eq_false_iff_not]; omega, cond_false, getI_of hg, Option.bind_some]
  have hL := bit_loop (k : Int) (k % 64) t2 (Nat.mod_lt _ (by decide)) (k % 64) 0 w.toNat (by omega) (by omega)
  rw [show ((w.toNat : Nat) : Int) = w by omega, show (((0 : Nat) : Int)) = 0 from rfl] at hL
  rw [hL, Option.bind_some, Int.tmod_eq_emod_of_nonneg (Int.natCast_nonneg _)]
  rfl
/-- a number, bit by bit -/
theorem get_loop {l : List Int} (hl : ∀ w ∈ l, 0 ≤ w ∧ w < 18446744073709551616) {d q i : Nat} {w : Int} (hd : 1 ≤ d ∧ d ≤ 64) (hi : i * d + d < 1125899906842624) (hq : ∀ j, j < d → (i * d + j) / 64 = q ∧ (i * d + j) % 64 = (i * d) % 64 + j) (hg : l[q]? = some w) : ∀ (m : Nat) (acc : Int), m ≤ d → acc = ((w.toNat / 2 ^ ((i * d) % 64 + m) % 2 ^ (d - m) : Nat) : Int) →
    runLoop (m_centoref01_Get_L0 l (i : Int) (d : Int)) (acc, (m : Int) - 1) = some ((w.toNat / 2 ^ ((i * d) % 64) % 2 ^ d : Nat) : Int)
  | 0, acc, hm, ha => by
    refine runLoop_end ?_
    unfold m_centoref01_Get_L0
    simp only
    rw [show decide ((0 : Int) ≤ ((0 : Nat) : Int) - 1) = false from rfl, cond_false, ha]
    rfl
  | m + 1, acc, hm, ha => by
    obtain ⟨q1, q2⟩ := hq m (by omega)
    have hb := bit_ok hl (k := i * d + m) (w := w) (by omega) (by rw [q1]; exact hg)
    rw [q2] at hb
    have hlt : w.toNat / 2 ^ ((i * d) % 64 + (m + 1)) % 2 ^ (d - (m + 1)) < 2 ^ 63 := Nat.lt_of_lt_of_le (Nat.mod_lt _ (Nat.pow_pos (by decide))) (Nat.pow_le_pow_right (by decide) (by omega))
    have hbit : w.toNat / 2 ^ ((i * d) % 64 + m) % 2 < 2 := Nat.mod_lt _ (by decide)
    have hstep : m_centoref01_Get_L0 l (i : Int) (d : Int) (acc, ((m + 1 : Nat) : Int) - 1) = some (.inl (((w.toNat / 2 ^ ((i * d) % 64 + m) % 2 ^ (d - m) : Nat) : Int), (m : Int) - 1)) := by
      unfold m_centoref01_Get_L0
      simp only
      have e1 : IntKind.i64.wrap (IntKind.i64.wrap ((i : Int) * (d : Int)) + (((m + 1 : Nat) : Int) - 1)) = ((i * d + m : Nat) : Int) := by
        have e0 : ((i : Int) * (d : Int)) = ((i * d : Nat) : Int) := by simp
        rw [e0, i64s (x := ((i * d : Nat) : Int)) (by omega) (by omega), i64s (by omega) (by omega)]
        omega
      rw [show decide ((0 : Int) ≤ ((m + 1 : Nat) : Int) - 1) = true from by rw [decide_eq_true_eq]; omega, cond_true, e1, hb, Option.bind_some, ha]
      have e2 : ((w.toNat / 2 ^ ((i * d) % 64 + (m + 1)) % 2 ^ (d - (m + 1)) : Nat) : Int) * 2 = ((w.toNat / 2 ^ ((i * d) % 64 + (m + 1)) % 2 ^ (d - (m + 1)) * 2 : Nat) : Int) := by simp
      rw [e2, u64c _ (by omega), ← Int.natCast_add, u64c _ (by omega), i64s (by omega) (by omega)]
      have e3 : w.toNat / 2 ^ ((i * d) % 64 + (m + 1)) % 2 ^ (d - (m + 1)) * 2 + w.toNat / 2 ^ ((i * d) % 64 + m) % 2 = w.toNat / 2 ^ ((i * d) % 64 + m) % 2 ^ (d - m) := by
        have h1 : w.toNat / 2 ^ ((i * d) % 64 + (m + 1)) = w.toNat / 2 ^ ((i * d) % 64 + m) / 2 := by
          rw [Nat.div_div_eq_div_mul, ← Nat.pow_succ]; rfl
        have h2 : d - m = (d - (m + 1)) + 1 := by omega
        rw [h1, h2]
        generalize w.toNat / 2 ^ ((i * d) % 64 + m) = x
        generalize d - (m + 1) = y
        rw [Nat.pow_succ, Nat.mul_comm (2 ^ y) 2, Nat.mod_mul]
        omega
      rw [e3]
      congr 3
      omega
    rw [runLoop_step hstep]
    exact get_loop hl hd hi hq hg m _ (by omega) rfl
theorem rget_ok {l : List Int} (hl : ∀ w ∈ l, 0 ≤ w ∧ w < 18446744073709551616) {c i n : Int} (hc : 0 ≤ c ∧ c ≤ 5) (h0 : 0 ≤ i) (h1 : i < n) (hn : n < 536870912) (hi : (n * wdt c + 63) / 64 ≤ l.length) : m_centoref01_Get l c i = some (if c = 0 then 0 else numW ((l[(i / each c).toNat]?).getD 0) c (i % each c)) := by
  unfold m_centoref01_Get
  rw [rwidth_ok hc, Option.bind_some]
  by_cases hz : c = 0
  · subst hz
    rw [if_pos rfl]
    rfl
  rw [if_neg hz]
  obtain ⟨d, e, hd⟩ : ∃ d : Nat, wdt c = (d : Int) ∧ (d = 1 ∨ d = 8 ∨ d = 16 ∨ d = 32 ∨ d = 64) := by
    rcases c5 hc with rfl | rfl | rfl | rfl | rfl | rfl
    · omega
    · exact ⟨1, rfl, by omega⟩
    · exact ⟨8, rfl, by omega⟩
    · exact ⟨16, rfl, by omega⟩
    · exact ⟨32, rfl, by omega⟩
    · exact ⟨64, rfl, by omega⟩
  obtain ⟨j, rfl⟩ : ∃ j : Nat, i = j := ⟨i.toNat, by omega⟩
  have he : each c = ((64 / d : Nat) : Int) := by unfold each; rw [e]; rfl
  rw [e] at hi ⊢
  rw [show decide ((d : Int) < 1) = false from by rw [decide_eq_false_iff_not]; omega, show decide ((j : Int) < 0) = false from by rw [decide_eq_false_iff_not]; omega, show decide (1099511627776 < (j : Int)) = false from by rw [decide_eq_false_iff_not]; omega]
  simp only [cond_false]
  rw [i64s (x := (d : Int) - 1) (by omega) (by omega)]
  have hqn : ((j : Int) / each c).toNat = j / (64 / d) := by rw [he]; rfl
  have hrn : ((j : Int) % each c) = ((j % (64 / d) : Nat) : Int) := by rw [he]; rfl
  rw [hqn, hrn]
  have hin : j / (64 / d) < l.length ∧ ∀ t, t < d → (j * d + t) / 64 = j / (64 / d) ∧ (j * d + t) % 64 = (j * d) % 64 + t := by
    rcases hd with rfl | rfl | rfl | rfl | rfl
    · exact ⟨by omega, fun t ht => by omega⟩
    · exact ⟨by omega, fun t ht => by omega⟩
    · exact ⟨by omega, fun t ht => by omega⟩
    · exact ⟨by omega, fun t ht => by omega⟩
    · exact ⟨by omega, fun t ht => by omega⟩
  have hoff : (j * d) % 64 = (j % (64 / d)) * d := by
    rcases hd with rfl | rfl | rfl | rfl | rfl
    · omega
    · omega
    · omega
    · omega
    · omega
  have hg : l[j / (64 / d)]? = some l[j / (64 / d)] := List.getElem?_eq_getElem hin.1
  have hjd : j * d ≤ 536870912 * 64 := Nat.mul_le_mul (by omega) (by omega)
  rw [get_loop hl (d := d) (i := j) (by omega) (by omega) hin.2 hg d 0 (Nat.le_refl _) (by rw [Nat.sub_self, Nat.pow_zero, Nat.mod_one]; rfl), Option.bind_some, hg, Option.getD_some]
  unfold numW
  rw [e, hoff]
  congr 4
section
variable {A : S_arena_Arena}
/-- a value, as the document tells it -/
def toRR (A : S_arena_Arena) (r : S_reader_Ref) : S_centoref09_Ref :=
  if r.kind = 0 then ⟨0, 0, 0, 0, 0, 0, 0⟩
  else if r.kind = 1 then ⟨1, r.segment, r.at_, r.words, r.ptrs, 0, 0⟩
  else if r.kind = 9 then ⟨9, r.segment, r.at_ + 1, r.words, r.ptrs, r.count, 0⟩
  else if r.kind = 10 then ⟨10, 0, 0, 0, 0, 0, numR A r⟩
  else ⟨r.kind, r.segment, r.at_, 0, 0, r.count, 0⟩
def toRR2 (A : S_arena_Arena) (x : S_reader_Ref × Int) : S_centoref09_Ref × Int := (toRR A x.1, x.2)
theorem toRR_kind {r : S_reader_Ref} : (toRR A r).Kind = r.kind := by
  unfold toRR
  split
  · symm; assumption
  split
  · symm; assumption
  split
  · symm; assumption
  split
  · symm; assumption
  · rfl
theorem dc_zero {w : Int} (h : 0 ≤ w) : (dc w).Kind = 0 ↔ w = 0 := by
  unfold dc decP
  constructor
  · intro q
    split at q
    · omega
    split at q
    · simp at q
    split at q
    · simp at q
    split at q
    · simp at q
    · simp at q
  · intro q
    rw [if_pos (by omega)]
theorem rat_ok (hw : WS A.segments) (s a : Int) : m_centoref09_At A.segments s a = some (toRR2 A (atR A s a)) := by
  have hk0 := fol_kind A.segments s a
  have hR : m_centoref06_Follow A.segments s a = some (⟨(fol A.segments s a).1.P, (fol A.segments s a).1.Segment, (fol A.segments s a).1.At⟩, (fol A.segments s a).2) := rfollow_ok hw s a
  unfold m_centoref09_At atR
  rw [hR, Option.bind_some]
  clear hR
  revert hk0
  generalize fol A.segments s a = y
  intro hk0
  obtain ⟨x, e⟩ := y
  dsimp only at hk0 ⊢
  rcases hk0 with h | ⟨h1, hp, hk, hi⟩
  · rw [if_pos h]
    have : cond (e != 0) true (x.P.Kind == 0) = true := by
      rcases h with h | h
      · rw [bne_iff_ne.2 h]; rfl
      · rw [show (x.P.Kind == 0) = true from by rw [h]; rfl]
        cases (e != 0) <;> rfl
    rw [this, cond_true]; rfl
  · rw [if_neg (by omega), h1, show ((0 : Int) != 0) = false from rfl, cond_false]
    rw [show (x.P.Kind == 0) = false from ieqF (by omega), cond_false]
    by_cases k1 : x.P.Kind = 1
    · rw [if_pos k1, show (x.P.Kind == 1) = true from by rw [k1]; rfl, cond_true]
      rfl
    · rw [if_neg k1, show (x.P.Kind == 1) = false from ieqF k1, cond_false]
      have hc := hp.c
      by_cases c7' : x.P.Code = 7
      · rw [if_pos c7', show decide (x.P.Code < 7) = false from by rw [decide_eq_false_iff_not]; omega, cond_false]
        have hpw : pw x.P = x.P.Count + 1 := by unfold pw; rw [if_neg k1, if_pos c7']
        rw [hpw] at hi
        have hn := hp.n
        have hi' := inB_iff.1 hi
        have hi1 : inB A.segments x.Segment x.At 1 = true := inB_iff.2 ⟨hi'.1, hi'.2.1, hi'.2.2.1, by omega, by omega⟩
        have hwr := wd_rg hw x.Segment x.At
        have hrr := in_rg hw hi
        rw [(seg_get hi'.1 hi'.2.1).1, Option.bind_some, (wd_get hi1).1, Option.bind_some, rdc_ok hwr, Option.bind_some]
        have ht := tag_rg (wd A.segments x.Segment x.At)
        have ho := (dc_pb (wd A.segments x.Segment x.At)).o
        have hdz := dc_zero hwr.1
        generalize dc (wd A.segments x.Segment x.At) = t at *
        have hm := mul_lt (n := t.Off) (x := t.Data + t.Ptrs) ho (by omega)
        rw [i64s (x := t.Data + t.Ptrs) (by omega) (by omega), i64s (x := t.Off * (t.Data + t.Ptrs)) (by omega) (by omega), i64s (x := x.At + 1) (by omega) (by omega)]
        by_cases hq : (t.Kind ≠ 0 ∧ t.Kind ≠ 1) ∨ t.Off < 0 ∨ x.P.Count < t.Off * (t.Data + t.Ptrs)
        · rw [if_pos hq]
          have : cond (cond (cond (wd A.segments x.Segment x.At != 0) (t.Kind != 1) false) true (decide (t.Off < 0))) true (decide (x.P.Count < t.Off * (t.Data + t.Ptrs))) = true := by
            rcases hq with ⟨q1, q2⟩ | q | q
            · rw [bne_iff_ne.2 (fun z => q1 (hdz.2 z)), bne_iff_ne.2 q2]; rfl
            · rw [decide_eq_true q]; cases (cond (wd A.segments x.Segment x.At != 0) (t.Kind != 1) false) <;> rfl
            · rw [decide_eq_true q]; cases (cond (cond (wd A.segments x.Segment x.At != 0) (t.Kind != 1) false) true (decide (t.Off < 0))) <;> rfl
          rw [this, cond_true]; rfl
        · rw [if_neg hq]
          have e1 : cond (wd A.segments x.Segment x.At != 0) (t.Kind != 1) false = false := by
            by_cases q0 : wd A.segments x.Segment x.At = 0
            · rw [show (wd A.segments x.Segment x.At != 0) = false from bne_eq_false_iff_eq.2 q0]; rfl
            · have q1 : t.Kind = 1 := by
                have : t.Kind ≠ 0 := fun z => q0 (hdz.1 z)
                omega
              rw [show (t.Kind != 1) = false from by rw [q1]; rfl]
              cases (wd A.segments x.Segment x.At != 0) <;> rfl
          rw [e1, cond_false, show decide (t.Off < 0) = false from by rw [decide_eq_false_iff_not]; omega, cond_false, show decide (x.P.Count < t.Off * (t.Data + t.Ptrs)) = false from by rw [decide_eq_false_iff_not]; omega]
          rfl
      · rw [if_neg c7', show decide (x.P.Code < 7) = true from by rw [decide_eq_true_eq]; omega, cond_true, i64s (x := 2 + x.P.Code) (by omega) (by omega)]
        unfold toRR2 toRR
        simp only
        rw [if_neg (by omega), if_neg (by omega), if_neg (by omega), if_neg (by omega), show 2 + x.P.Code = x.P.Code + 2 by omega]
theorem rrKids_ok {r : S_reader_Ref} (h : OKr A r) : m_centoref09_Ref_Kids (toRR A r) = some (kidsN r) := by
  unfold m_centoref09_Ref_Kids
  rw [toRR_kind]
  unfold kidsN toRR
  by_cases h1 : r.kind = 1
  · rw [if_pos h1, show (r.kind == 1) = true from by rw [h1]; rfl, cond_true, if_neg (by omega), if_pos h1]
  · rw [if_neg h1, show (r.kind == 1) = false from ieqF h1, cond_false]
    by_cases h0 : r.kind = 0
    · rw [if_pos h0]
      cases h with
      | z => rfl
      | st => simp at h0
      | li k s a n hk => simp only at h0; omega
      | co => simp at h0
      | at_ => simp at h0
    rw [if_neg h0, if_neg h1]
    by_cases h9 : r.kind = 9
    · rw [if_pos h9]
    rw [if_neg h9]
    by_cases h10 : r.kind = 10
    · rw [if_pos h10]
      cases h with
      | z => rfl
      | st => rfl
      | li k s a n hk => simp only at h10; omega
      | co => simp at h10
      | at_ => rfl
    · rw [if_neg h10]
theorem rrWords_ok (hw : WS A.segments) {r : S_reader_Ref} (h : OKr A r) : m_centoref09_Ref_Words (toRR A r) A.segments = some (wordsL A r) := by
  unfold m_centoref09_Ref_Words
  rw [toRR_kind]
  unfold wordsL toRR
  cases h with
  | z => rfl
  | li k s a n hk hn hin =>
    simp only
    rw [show (k == 10) = false from ieqF (by omega), cond_false, show (k != 1) = true from bne_iff_ne.2 (by omega), cond_true, if_neg (by omega), if_neg (by omega)]
  | co s a d p n hd hp hn hwx hin => rfl
  | at_ s a c i n hc h0 h1 hn hin => rfl
  | st s a d p hd hp hin =>
    have hi' := inB_iff.1 hin
    have hl := seg_len hw s
    simp only [show ((1 : Int) == 10) = false from rfl, show ((1 : Int) != 1) = false from rfl, cond_false, show ¬ (1 : Int) = 0 from by decide, show ¬ (1 : Int) = 10 from by decide, if_false, if_true]
    rw [(seg_get hi'.1 hi'.2.1).1, Option.bind_some, i64s (x := a + d) (by omega) (by omega), subI_ok (by omega) (by omega) (by omega), Option.bind_some, show a + d - a = d by omega, appI_ok (by simp only [List.length_nil, List.length_take, List.length_drop]; omega) (by simp only [List.length_nil, List.length_take, List.length_drop]; omega), List.nil_append]
    rfl
theorem seg_rg (hw : WS A.segments) (s : Int) : ∀ w ∈ seg A.segments s, 0 ≤ w ∧ w < 18446744073709551616 := by
  unfold seg
  cases h : A.segments[s.toNat]? with
  | none => simp
  | some x => exact hw.w x (List.mem_of_getElem? h)
theorem rkid_ok' (hw : WS A.segments) {r : S_reader_Ref} (h : OKr A r) (i : Int) : m_centoref09_Ref_Kid (toRR A r) A.segments i = some (toRR2 A (kidR A r i)) := by
  unfold m_centoref09_Ref_Kid kidR
  rw [rrKids_ok h, toRR_kind]
  have hz : (cond (decide (i < 0)) (some true) ((some (kidsN r)).bind fun y4 => some (cond (decide (i < 0)) true (decide (y4 ≤ i))))) = some (decide (i < 0 ∨ kidsN r ≤ i)) := by
    by_cases h0 : i < 0
    · rw [decide_eq_true h0, cond_true, show decide (i < 0 ∨ kidsN r ≤ i) = true from decide_eq_true (.inl h0)]
    · rw [decide_eq_false h0, cond_false, Option.bind_some, cond_false]
      congr 1
      rw [decide_eq_decide]
      omega
  rw [hz, Option.bind_some]
  by_cases hi : i < 0 ∨ kidsN r ≤ i
  · rw [if_pos hi, decide_eq_true hi]; rfl
  rw [if_neg hi, decide_eq_false hi, cond_false]
  cases h with
  | z => exact absurd hi (by first | (simp [kidsN, r0]; done) | (simp [kidsN, r0]; omega))
  | at_ => exact absurd hi (by first | (simp [kidsN]; done) | (simp [kidsN]; omega))
  | st s a d p hd hp hin =>
    have := in_rg hw hin
    simp only [kidsN, if_true] at hi
    have e : toRR A (⟨some A, 1, s, a, d, p, 0, 0, 0⟩ : S_reader_Ref) = ⟨1, s, a, d, p, 0, 0⟩ := rfl
    simp only [e, beq_self_eq_true, cond_true, if_true]
    rw [i64s (x := a + d) (by omega) (by omega), i64s (by omega) (by omega), rat_ok hw]
    rfl
  | co s a d p n hd hp hn hwx hin =>
    have := in_rg hw hin
    simp only [kidsN] at hi
    rw [if_neg (by omega)] at hi
    have e : toRR A (⟨some A, 9, s, a, d, p, n, 0, 0⟩ : S_reader_Ref) = ⟨9, s, a + 1, d, p, n, 0⟩ := rfl
    simp only [e, show ((9 : Int) == 1) = false from rfl, show ((9 : Int) == 8) = false from rfl, show ((9 : Int) == 9) = true from rfl, cond_true, cond_false, show ¬ (9 : Int) = 1 from by decide, show ¬ (9 : Int) = 8 from by decide, if_false, if_true]
    have h1 : 0 ≤ i * (d + p) := Int.mul_nonneg (by omega) (by omega)
    have h2 : (i + 1) * (d + p) ≤ n * (d + p) := Int.mul_le_mul_of_nonneg_right (by omega) (by omega)
    rw [Int.add_mul, Int.one_mul] at h2
    rw [i64s (x := d + p) (by omega) (by omega), i64s (x := i * (d + p)) (by omega) (by omega), i64s (by omega) (by omega)]
    rfl
  | li k s a n hk hn hin =>
    have hr := in_rg hw hin
    have hi' := inB_iff.1 hin
    simp only [kidsN] at hi
    rw [if_neg (by omega)] at hi
    have e : toRR A (⟨some A, k, s, a, 0, 0, n, 0, 0⟩ : S_reader_Ref) = ⟨k, s, a, 0, 0, n, 0⟩ := by
      unfold toRR
      simp only
      rw [if_neg (by omega), if_neg (by omega), if_neg (by omega), if_neg (by omega)]
    simp only [e]
    rw [show (k == 1) = false from ieqF (by omega), cond_false, if_neg (by omega), show (k == 9) = false from ieqF (by omega)]
    by_cases k8 : k = 8
    · have hp : (n * wdt (k - 2) + 63) / 64 = n := by rw [k8]; simp [wdt]; omega
      rw [show (k == 8) = true from by rw [k8]; rfl, cond_true, if_pos k8, i64s (by omega) (by omega), rat_ok hw]
      rfl
    · rw [show (k == 8) = false from ieqF k8, cond_false, cond_false, if_neg k8, if_neg (by omega), i64s (by omega) (by omega), (seg_get hi'.1 hi'.2.1).1, Option.bind_some, subI_ok (by omega) (by omega) (by omega), Option.bind_some]
      have hlen : ((seg A.segments s).drop a.toNat).length = (seg A.segments s).length - a.toNat := List.length_drop
      have htk : ((seg A.segments s).drop a.toNat).take (((seg A.segments s).length : Int) - a).toNat = (seg A.segments s).drop a.toNat := List.take_of_length_le (by rw [hlen]; omega)
      rw [htk, rget_ok (fun w hm => seg_rg hw s w (List.mem_of_mem_drop hm)) (c := k - 2) (n := n) (by omega) (by omega) (by omega) (by omega) (by rw [hlen]; omega), Option.bind_some]
      unfold toRR2 toRR numR
      simp only [show ¬ (10 : Int) = 0 from by decide, show ¬ (10 : Int) = 1 from by decide, show ¬ (10 : Int) = 9 from by decide, if_false, if_true]
      congr 3
      by_cases hz : k - 2 = 0
      · rw [if_pos hz, if_pos hz]
      · rw [if_neg hz, if_neg hz]
        obtain ⟨a1, a2, a3, a4, a5, a6, a7, a8⟩ := each_in (c := k - 2) (i := i) (n := n) (by omega) (by omega) (by omega) (by omega)
        unfold wd
        rw [List.getElem?_drop, show (a + i / each (k - 2)).toNat = a.toNat + (i / each (k - 2)).toNat by omega]
end


end Go.Proofs.Ytpfbdlcnfekdkaa
