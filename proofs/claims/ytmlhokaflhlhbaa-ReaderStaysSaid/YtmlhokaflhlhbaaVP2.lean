/- Plain facts on this seat's mirrors (part VP2); each theorem bears its own conditions. -/
import Derived.Test.YtmlhokaflhlhbaaVP1
import Derived.IntWalk
namespace Go.Proofs.Ytmlhokaflhlhbaa
open Go.RowKit
set_option linter.unusedVariables false
set_option linter.unusedSimpArgs false
def r0 : S_reader_Ref := ⟨none, 0, 0, 0, 0, 0, 0, 0, 0⟩
def kidsN (r : S_reader_Ref) : Int := if r.kind = 1 then r.ptrs else r.count
def atR (A : S_arena_Arena) (s a : Int) : S_reader_Ref × Int :=
  let x := fol A.segments s a
  if x.2 ≠ 0 ∨ x.1.P.Kind = 0 then (r0, x.2)
  else if x.1.P.Kind = 1 then (⟨some A, 1, x.1.Segment, x.1.At, x.1.P.Data, x.1.P.Ptrs, 0, 0, 0⟩, 0)
  else if x.1.P.Code = 7 then
    let t := dc (wd A.segments x.1.Segment x.1.At)
    if (t.Kind ≠ 0 ∧ t.Kind ≠ 1) ∨ t.Off < 0 ∨ x.1.P.Count < t.Off * (t.Data + t.Ptrs) then (r0, 8)
    else (⟨some A, 9, x.1.Segment, x.1.At, t.Data, t.Ptrs, t.Off, 0, 0⟩, 0)
  else (⟨some A, x.1.P.Code + 2, x.1.Segment, x.1.At, 0, 0, x.1.P.Count, 0, 0⟩, 0)
inductive OKr (A : S_arena_Arena) : S_reader_Ref → Prop
  | z : OKr A r0
  | st (s a d p : Int) (hd : 0 ≤ d ∧ d < 65536) (hp : 0 ≤ p ∧ p < 65536) (hi : inB A.segments s a (d + p) = true) : OKr A ⟨some A, 1, s, a, d, p, 0, 0, 0⟩
  | li (k s a n : Int) (hk : 2 ≤ k ∧ k ≤ 8) (hn : 0 ≤ n ∧ n < 536870912) (hi : inB A.segments s a ((n * wdt (k - 2) + 63) / 64) = true) : OKr A ⟨some A, k, s, a, 0, 0, n, 0, 0⟩
  | co (s a d p n : Int) (hd : 0 ≤ d ∧ d < 65536) (hp : 0 ≤ p ∧ p < 65536) (hn : 0 ≤ n ∧ n < 536870912) (hw : 0 ≤ n * (d + p) ∧ n * (d + p) < 536870912) (hi : inB A.segments s a (n * (d + p) + 1) = true) : OKr A ⟨some A, 9, s, a, d, p, n, 0, 0⟩
  | at_ (s a c i n : Int) (hc : 0 ≤ c ∧ c ≤ 5) (h0 : 0 ≤ i) (h1 : i < n) (hn : n < 536870912) (hi : inB A.segments s a ((n * wdt c + 63) / 64) = true) : OKr A ⟨some A, 10, s, a, 0, 0, 0, c, i⟩
theorem fol_kind (l : List (List Int)) (s a : Int) : ((fol l s a).2 ≠ 0 ∨ (fol l s a).1.P.Kind = 0) ∨ ((fol l s a).2 = 0 ∧ PB (fol l s a).1.P ∧ ((fol l s a).1.P.Kind = 1 ∨ (fol l s a).1.P.Kind = 2) ∧ inB l (fol l s a).1.Segment (fol l s a).1.At (pw (fol l s a).1.P) = true) := by
  rcases fol_or l s a with h | ⟨h1, p, s', a', hp, ho, hk, h, hi⟩
  · rw [h]; exact .inl (.inr rfl)
  · rw [h]; exact .inr ⟨h1, hp, hk, hi⟩
section
variable {A : S_arena_Arena}
theorem tag_rg (w : Int) : 0 ≤ (dc w).Data ∧ (dc w).Data < 65536 ∧ 0 ≤ (dc w).Ptrs ∧ (dc w).Ptrs < 65536 ∧ (dc w).Off < 536870912 := by
  have h := dc_pb w
  exact ⟨h.d.1, h.d.2, h.q.1, h.q.2, h.o.2⟩
theorem mul_lt {n x : Int} (h0 : -536870912 ≤ n ∧ n < 536870912) (h1 : 0 ≤ x ∧ x ≤ 131070) : -70368744177664 ≤ n * x ∧ n * x ≤ 70368744177664 := by
  constructor
  · have : -536870912 * 131070 ≤ n * x := by
      rcases Int.le_total 0 n with h | h
      · have := Int.mul_nonneg h h1.1; omega
      · have h2 : n * 131070 ≤ n * x := Int.mul_le_mul_of_nonpos_left h h1.2
        have h3 : -536870912 * 131070 ≤ n * 131070 := Int.mul_le_mul_of_nonneg_right h0.1 (by omega)
        omega
    omega
  · rcases Int.le_total 0 n with h | h
    · have h2 : n * x ≤ n * 131070 := Int.mul_le_mul_of_nonneg_left h1.2 h
      have h3 : n * 131070 ≤ 536870912 * 131070 := Int.mul_le_mul_of_nonneg_right (by omega) (by omega)
      omega
    · have := Int.mul_nonpos_of_nonpos_of_nonneg h h1.1
      omega
theorem at_okr (s a : Int) : OKr A (atR A s a).1 := by
  unfold atR
  rcases fol_kind A.segments s a with h | ⟨h1, hp, hk, hi⟩
  · rw [if_pos h]; exact .z
  · rw [if_neg (by omega)]
    generalize (fol A.segments s a).1 = x at *
    by_cases k1 : x.P.Kind = 1
    · rw [if_pos k1]
      have : pw x.P = x.P.Data + x.P.Ptrs := by unfold pw; rw [if_pos k1]
      rw [this] at hi
      exact .st _ _ _ _ hp.d hp.q hi
    · rw [if_neg k1]
      have k2 : x.P.Kind = 2 := by omega
      by_cases c7' : x.P.Code = 7
      · rw [if_pos c7']
        have hpw : pw x.P = x.P.Count + 1 := by unfold pw; rw [if_neg k1, if_pos c7']
        rw [hpw] at hi
        have ht := tag_rg (wd A.segments x.Segment x.At)
        simp only
        generalize dc (wd A.segments x.Segment x.At) = t at *
        split
        · exact .z
        · rename_i hc
          have hn := hp.n
          have h0 : 0 ≤ t.Off * (t.Data + t.Ptrs) := Int.mul_nonneg (by omega) (by omega)
          have hi' := inB_iff.1 hi
          exact .co _ _ _ _ _ (by omega) (by omega) (by omega) (by omega) (inB_iff.2 ⟨hi'.1, hi'.2.1, hi'.2.2.1, by omega, by omega⟩)
      · rw [if_neg c7']
        have hpw : pw x.P = (x.P.Count * wdt x.P.Code + 63) / 64 := by unfold pw; rw [if_neg k1, if_neg c7']
        rw [hpw] at hi
        have hc := hp.c
        exact .li _ _ _ _ (by omega) hp.n (by rw [show x.P.Code + 2 - 2 = x.P.Code by omega]; exact hi)
theorem at_ok (hw : WS A.segments) (s a : Int) : m_reader_At (some A) s a = some (atR A s a) := by
  unfold m_reader_At atR
  rw [follow_ok hw, Option.bind_some]
  simp only
  rcases fol_kind A.segments s a with h | ⟨h1, hp, hk, hi⟩
  · rw [if_pos h]
    have : cond ((fol A.segments s a).2 != 0) true ((fol A.segments s a).1.P.Kind == 0) = true := by
      rcases h with h | h
      · rw [bne_iff_ne.2 h]; rfl
      · rw [show ((fol A.segments s a).1.P.Kind == 0) = true from by rw [h]; rfl]
        cases ((fol A.segments s a).2 != 0) <;> rfl
    rw [this, cond_true]; rfl
  · rw [if_neg (by omega), h1, show ((0 : Int) != 0) = false from rfl, cond_false]
    generalize (fol A.segments s a).1 = x at *
    rw [show (x.P.Kind == 0) = false from ieqF (by omega), cond_false]
    by_cases k1 : x.P.Kind = 1
    · rw [if_pos k1, show (x.P.Kind == 1) = true from by rw [k1]; rfl, cond_true]
    · rw [if_neg k1, show (x.P.Kind == 1) = false from ieqF k1, cond_false]
      have hc := hp.c
      by_cases c7' : x.P.Code = 7
      · rw [if_pos c7', show (x.P.Code == 7) = true from by rw [c7']; rfl, cond_true]
        have hpw : pw x.P = x.P.Count + 1 := by unfold pw; rw [if_neg k1, if_pos c7']
        rw [hpw] at hi
        have hn := hp.n
        have hi' := inB_iff.1 hi
        have hi1 : inB A.segments x.Segment x.At 1 = true := inB_iff.2 ⟨hi'.1, hi'.2.1, hi'.2.2.1, by omega, by omega⟩
        unfold m_reader_composite
        simp only
        rw [aGet_ok hw, if_pos hi1, Option.bind_some, dc_ok (wd_rg hw _ _), Option.bind_some]
        have ht := tag_rg (wd A.segments x.Segment x.At)
        have ho := (dc_pb (wd A.segments x.Segment x.At)).o
        generalize dc (wd A.segments x.Segment x.At) = t at *
        have hm := mul_lt (n := t.Off) (x := t.Data + t.Ptrs) ho (by omega)
        rw [i64s (x := t.Data + t.Ptrs) (by omega) (by omega), i64s (x := t.Off * (t.Data + t.Ptrs)) (by omega) (by omega), i64s (x := x.P.Code + 2) (by omega) (by omega), c7']
        by_cases hq : (t.Kind ≠ 0 ∧ t.Kind ≠ 1) ∨ t.Off < 0 ∨ x.P.Count < t.Off * (t.Data + t.Ptrs)
        · rw [if_pos hq]
          have : cond (cond (cond (t.Kind != 0) (t.Kind != 1) false) true (decide (t.Off < 0))) true (decide (x.P.Count < t.Off * (t.Data + t.Ptrs))) = true := by
            rcases hq with ⟨q1, q2⟩ | q | q
            · rw [bne_iff_ne.2 q1, bne_iff_ne.2 q2]; rfl
            · rw [decide_eq_true q]; cases (cond (t.Kind != 0) (t.Kind != 1) false) <;> rfl
            · rw [decide_eq_true q]; cases (cond (cond (t.Kind != 0) (t.Kind != 1) false) true (decide (t.Off < 0))) <;> rfl
          rw [this, cond_true]; rfl
        · rw [if_neg hq]
          have e1 : cond (t.Kind != 0) (t.Kind != 1) false = false := by
            by_cases q0 : t.Kind = 0
            · rw [show (t.Kind != 0) = false from by rw [q0]; rfl]; rfl
            · have q1 : t.Kind = 1 := by omega
              rw [show (t.Kind != 1) = false from by rw [q1]; rfl]
              cases (t.Kind != 0) <;> rfl
          rw [e1, cond_false, show decide (t.Off < 0) = false from by rw [decide_eq_false_iff_not]; omega, cond_false, show decide (x.P.Count < t.Off * (t.Data + t.Ptrs)) = false from by rw [decide_eq_false_iff_not]; omega]
          rfl
      · rw [if_neg c7', show (x.P.Code == 7) = false from ieqF c7', cond_false, i64s (x := x.P.Code + 2) (by omega) (by omega)]
theorem rKids_ok (r : S_reader_Ref) : m_reader_Ref_Kids r = some (kidsN r) := by
  unfold m_reader_Ref_Kids kidsN
  by_cases h : r.kind = 1
  · rw [if_pos h, show (r.kind == 1) = true from by rw [h]; rfl]; rfl
  · rw [if_neg h, show (r.kind == 1) = false from ieqF h]; rfl
def kidR (A : S_arena_Arena) (r : S_reader_Ref) (i : Int) : S_reader_Ref × Int :=
  if i < 0 ∨ kidsN r ≤ i then (r0, 0)
  else if r.kind = 1 then atR A r.segment (r.at_ + r.words + i)
  else if r.kind = 8 then atR A r.segment (r.at_ + i)
  else if r.kind = 9 then (⟨some A, 1, r.segment, r.at_ + 1 + i * (r.words + r.ptrs), r.words, r.ptrs, 0, 0, 0⟩, 0)
  else (⟨some A, 10, r.segment, r.at_, 0, 0, 0, r.kind - 2, i⟩, 0)
theorem kid_okr {r : S_reader_Ref} (h : OKr A r) (i : Int) : OKr A (kidR A r i).1 := by
  unfold kidR
  by_cases hi : i < 0 ∨ kidsN r ≤ i
  · rw [if_pos hi]; exact .z
  rw [if_neg hi]
  by_cases k1 : r.kind = 1
  · rw [if_pos k1]; exact at_okr _ _
  rw [if_neg k1]
  by_cases k8 : r.kind = 8
  · rw [if_pos k8]; exact at_okr _ _
  rw [if_neg k8]
  by_cases k9 : r.kind = 9
  · rw [if_pos k9]
    cases h with
    | z => simp [r0] at k9
    | st _ _ _ _ => simp at k1
    | li k s a n hk => simp only at k9; omega
    | at_ => simp at k9
    | co s a d p n hd hp hn hw hin =>
      simp only
      have hi' := inB_iff.1 hin
      simp only [kidsN] at hi
      rw [if_neg (by omega)] at hi
      have h1 : 0 ≤ i * (d + p) := Int.mul_nonneg (by omega) (by omega)
      have h2 : (i + 1) * (d + p) ≤ n * (d + p) := Int.mul_le_mul_of_nonneg_right (by omega) (by omega)
      rw [Int.add_mul, Int.one_mul] at h2
      exact .st _ _ _ _ hd hp (inB_iff.2 ⟨hi'.1, hi'.2.1, by omega, by omega, by omega⟩)
  · rw [if_neg k9]
    cases h with
    | z => simp [r0, kidsN] at hi; omega
    | st _ _ _ _ => simp at k1
    | co => simp at k9
    | at_ => simp [kidsN] at hi; omega
    | li k s a n hk hn hin =>
      simp only at k8 k9 ⊢
      simp only [kidsN] at hi
      rw [if_neg (by omega)] at hi
      exact .at_ _ _ _ _ n (by omega) (by omega) (by omega) (by omega) hin
theorem in_rg (hw : WS A.segments) {s a n : Int} (h : inB A.segments s a n = true) : 0 ≤ a ∧ 0 ≤ n ∧ a + n ≤ 17592186044416 := by
  have h' := inB_iff.1 h
  have := seg_len hw s
  omega
theorem kid_ok (hw : WS A.segments) {r : S_reader_Ref} (h : OKr A r) (i : Int) : m_reader_Ref_Kid r i = some (kidR A r i) := by
  unfold m_reader_Ref_Kid kidR
  rw [rKids_ok]
  have hz : (cond (decide (i < 0)) (some true) ((some (kidsN r)).bind fun y4 => some (cond (decide (i < 0)) true (decide (y4 ≤ i))))) = some (decide (i < 0 ∨ kidsN r ≤ i)) := by
    by_cases h0 : i < 0
    · rw [decide_eq_true h0, cond_true, show decide (i < 0 ∨ kidsN r ≤ i) = true from decide_eq_true (.inl h0)]
    · rw [decide_eq_false h0, cond_false, Option.bind_some, cond_false]
      congr 1
      rw [decide_eq_decide]
      omega
  rw [hz, Option.bind_some]
  by_cases hi : i < 0 ∨ kidsN r ≤ i
  · rw [if_pos hi, decide_eq_true hi]; rfl
  rw [if_neg hi, decide_eq_false hi, cond_false]
  cases h with
  | z => exact absurd hi (by first | (simp [kidsN, r0]; done) | (simp [kidsN, r0]; omega))
  | at_ => exact absurd hi (by first | (simp [kidsN]; done) | (simp [kidsN]; omega))
  | st s a d p hd hp hin =>
    have := in_rg hw hin
    simp only [kidsN, if_true] at hi
    simp only [beq_self_eq_true, cond_true, if_true]
    rw [i64s (x := a + d) (by omega) (by omega), i64s (by omega) (by omega), at_ok hw]
    rfl
  | co s a d p n hd hp hn hwx hin =>
    have := in_rg hw hin
    simp only [kidsN] at hi
    rw [if_neg (by omega)] at hi
    simp only [show ((9 : Int) == 1) = false from rfl, show ((9 : Int) == 8) = false from rfl, show ((9 : Int) == 9) = true from rfl, cond_true, cond_false, show ¬ (9 : Int) = 1 from by decide, show ¬ (9 : Int) = 8 from by decide, if_false, if_true]
    have h1 : 0 ≤ i * (d + p) := Int.mul_nonneg (by omega) (by omega)
    have h2 : (i + 1) * (d + p) ≤ n * (d + p) := Int.mul_le_mul_of_nonneg_right (by omega) (by omega)
    rw [Int.add_mul, Int.one_mul] at h2
    rw [i64s (x := a + 1) (by omega) (by omega), i64s (x := d + p) (by omega) (by omega), i64s (x := i * (d + p)) (by omega) (by omega), i64s (by omega) (by omega)]
  | li k s a n hk hn hin =>
    have := in_rg hw hin
    simp only [kidsN] at hi
    rw [if_neg (by omega)] at hi
    simp only
    rw [show (k == 1) = false from ieqF (by omega), cond_false, if_neg (by omega), show (k == 9) = false from ieqF (by omega)]
    by_cases k8 : k = 8
    · have hp : (n * wdt (k - 2) + 63) / 64 = n := by rw [k8]; simp [wdt]; omega
      rw [show (k == 8) = true from by rw [k8]; rfl, cond_true, if_pos k8, i64s (by omega) (by omega), at_ok hw]
      rfl
    · rw [show (k == 8) = false from ieqF k8, cond_false, cond_false, if_neg k8, if_neg (by omega), i64s (by omega) (by omega)]
def wordsN (r : S_reader_Ref) : Int := if r.kind = 1 then r.words else if r.kind = 10 then 1 else 0
theorem rWords_ok (r : S_reader_Ref) : m_reader_Ref_Words r = some (wordsN r) := by
  unfold m_reader_Ref_Words wordsN
  by_cases h : r.kind = 1
  · rw [if_pos h, show (r.kind == 1) = true from by rw [h]; rfl]; rfl
  · rw [if_neg h, show (r.kind == 1) = false from ieqF h]
    by_cases h' : r.kind = 10
    · rw [if_pos h', show (r.kind == 10) = true from by rw [h']; rfl]; rfl
    · rw [if_neg h', show (r.kind == 10) = false from ieqF h']; rfl
def numW (w : Int) (c j : Int) : Int := ((w.toNat / 2 ^ (j * wdt c).toNat % 2 ^ (wdt c).toNat : Nat) : Int)
def each (c : Int) : Int := 64 / wdt c
def numR (A : S_arena_Arena) (r : S_reader_Ref) : Int := if r.code = 0 then 0 else numW (wd A.segments r.segment (r.at_ + r.index / each r.code)) r.code (r.index % each r.code)
theorem c5 {c : Int} (h : 0 ≤ c ∧ c ≤ 5) : c = 0 ∨ c = 1 ∨ c = 2 ∨ c = 3 ∨ c = 4 ∨ c = 5 := by omega
theorem wWidth_ok {c : Int} (h : 0 ≤ c ∧ c ≤ 5) : m_word_Width c = some (wdt c, true) := by
  unfold m_word_Width
  rcases c5 h with rfl | rfl | rfl | rfl | rfl | rfl <;> rfl
theorem land_mask (w : Nat) (k : Nat) (hw : w < 18446744073709551616) (hk : k ≤ 64) : IntKind.u64.wrap (landI .u64 (w : Int) (IntKind.u64.wrap (IntKind.u64.wrap (1 * 2 ^ min (Int.toNat (k : Int)) 64) - 1))) = ((w % 2 ^ k : Nat) : Int) := by
  have hm : IntKind.u64.wrap (IntKind.u64.wrap (1 * 2 ^ min (Int.toNat (k : Int)) 64) - 1) = ((2 ^ k - 1 : Nat) : Int) := by
    rw [Int.toNat_natCast, Nat.min_eq_left hk, natpow]
    rcases Nat.lt_or_ge k 64 with h | h
    · have h1 : 2 ^ k ≤ 2 ^ 63 := Nat.pow_le_pow_right (by decide) (by omega)
      have h2 : 0 < 2 ^ k := Nat.pow_pos (by decide)
      rw [Int.one_mul, u64c (2 ^ k) (by omega), show (((2 ^ k : Nat) : Int) - 1) = ((2 ^ k - 1 : Nat) : Int) by omega, u64c _ (by omega)]
    · have : k = 64 := by omega
      subst this
      decide
  rw [hm]
  have e : landI .u64 (w : Int) ((2 ^ k - 1 : Nat) : Int) = ((w &&& (2 ^ k - 1) : Nat) : Int) := by
    unfold landI
    congr 1
    have h1 : 2 ^ k ≤ 2 ^ 64 := Nat.pow_le_pow_right (by decide) hk
    have h2 : 0 < 2 ^ k := Nat.pow_pos (by decide)
    rw [BitVec.toNat_and]
    have e1 : (BitVec.ofInt (IntKind.u64).bits (w : Int)).toNat = w := by
      show (BitVec.ofInt 64 (w : Int)).toNat = w
      rw [BitVec.ofInt_natCast, BitVec.toNat_ofNat]
      exact Nat.mod_eq_of_lt (by omega)
    have e2 : (BitVec.ofInt (IntKind.u64).bits ((2 ^ k - 1 : Nat) : Int)).toNat = 2 ^ k - 1 := by
      show (BitVec.ofInt 64 ((2 ^ k - 1 : Nat) : Int)).toNat = 2 ^ k - 1
      rw [BitVec.ofInt_natCast, BitVec.toNat_ofNat]
      exact Nat.mod_eq_of_lt (by omega)
    rw [e1, e2]
  rw [e, Nat.and_two_pow_sub_one_eq_mod]
  have : w % 2 ^ k ≤ w := Nat.mod_le _ _
  exact IntWalk.u64_in _ (by omega)
theorem wget_ok {w c j : Int} (hw : 0 ≤ w ∧ w < 18446744073709551616) (hc : 1 ≤ c ∧ c ≤ 5) (hj : 0 ≤ j ∧ j < each c) : m_word_Get [w] c j = some (numW w c j) := by
  unfold m_word_Get numW
  rw [wWidth_ok (by omega), Option.bind_some]
  simp only
  obtain ⟨d, e, hd⟩ : ∃ d : Nat, wdt c = (d : Int) ∧ (d = 1 ∨ d = 8 ∨ d = 16 ∨ d = 32 ∨ d = 64) := by
    rcases c5 (c := c) (by omega) with rfl | rfl | rfl | rfl | rfl | rfl
    · omega
    · exact ⟨1, rfl, by omega⟩
    · exact ⟨8, rfl, by omega⟩
    · exact ⟨16, rfl, by omega⟩
    · exact ⟨32, rfl, by omega⟩
    · exact ⟨64, rfl, by omega⟩
  have he : each c = ((64 / d : Nat) : Int) := by unfold each; rw [e]; rfl
  have hdd : 64 / d * d = 64 := by rcases hd with rfl | rfl | rfl | rfl | rfl <;> rfl
  have hdp : 1 ≤ d ∧ d ≤ 64 := by omega
  have hep : 1 ≤ 64 / d ∧ 64 / d ≤ 64 := by rcases hd with rfl | rfl | rfl | rfl | rfl <;> decide
  rw [he] at hj
  obtain ⟨q, rfl⟩ : ∃ q : Nat, j = q := ⟨j.toNat, by omega⟩
  have hq : q < 64 / d := by omega
  have hqd : q * d + d ≤ 64 := by
    have : (q + 1) * d ≤ 64 / d * d := Nat.mul_le_mul_right d hq
    rw [Nat.add_mul] at this
    omega
  rw [e]
  have t1 : Int.tdiv 64 (d : Int) = ((64 / d : Nat) : Int) := by rw [Int.tdiv_eq_ediv_of_nonneg (by decide)]; rfl
  have t2 : Int.tdiv (q : Int) ((64 / d : Nat) : Int) = 0 := by
    rw [Int.tdiv_eq_ediv_of_nonneg (by omega), show ((q : Int) / ((64 / d : Nat) : Int)) = ((q / (64 / d) : Nat) : Int) from rfl, Nat.div_eq_of_lt hq]
    rfl
  have t3 : Int.tmod (q : Int) ((64 / d : Nat) : Int) = (q : Int) := by
    rw [Int.tmod_eq_emod_of_nonneg (by omega), show ((q : Int) % ((64 / d : Nat) : Int)) = ((q % (64 / d) : Nat) : Int) from rfl, Nat.mod_eq_of_lt hq]
  rw [t1, i64s (x := ((64 / d : Nat) : Int)) (by omega) (by omega), t2, t3, show IntKind.i64.wrap 0 = 0 from by decide]
  have t4 : ((q : Int) * (d : Int)) = ((q * d : Nat) : Int) := by simp
  rw [t4, i64s (x := ((q * d : Nat) : Int)) (by omega) (by omega), show (((d : Nat) : Int) == 0) = false from ieqF (by omega), show decide ((q : Int) < 0) = false from by rw [decide_eq_false_iff_not]; omega]
  simp only [cond_false]
  have g0 : getI [w] 0 = some w := rfl
  have e1 : guardI ((d : Int) ≠ 0) = some () := guardI_ok (by omega)
  have e2 : guardI (((64 / d : Nat) : Int) ≠ 0) = some () := guardI_ok (by omega)
  have e3 : guardI (0 ≤ ((q * d : Nat) : Int)) = some () := guardI_ok (by omega)
  have e4 : guardI (0 ≤ (d : Int)) = some () := guardI_ok (by omega)
  simp only [e1, e2, e3, e4, g0, Option.bind_some, cond_false, show decide ((([w] : List Int).length : Int) ≤ 0) = false from rfl]
  congr 1
  have hwn : w = ((w.toNat : Nat) : Int) := by omega
  have hf : Int.fdiv w (2 ^ min (Int.toNat ((q * d : Nat) : Int)) 64) = ((w.toNat / 2 ^ (q * d) : Nat) : Int) := by
    rw [Int.toNat_natCast, Nat.min_eq_left (by omega), natpow, Int.fdiv_eq_ediv_of_nonneg _ (Int.natCast_nonneg _)]
    conv => lhs; rw [hwn]
    rfl
  rw [hf, land_mask _ d (Nat.lt_of_le_of_lt (Nat.div_le_self _ _) (by omega)) (by omega)]
  rw [Int.toNat_natCast, Int.toNat_natCast]
end
end Go.Proofs.Ytmlhokaflhlhbaa
