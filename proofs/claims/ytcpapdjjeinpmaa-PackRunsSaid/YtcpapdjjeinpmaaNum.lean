/- Lemmas and contracts used by the proofs of this seat's laws (part Num); each theorem bears its own conditions. -/
import Derived.WalkKit
import Derived.WalkSpells
import Derived.WalkLawsBesides
import Derived.Lib.Hide
import Derived.BigQuiet
import Derived.Deep.QuietTactic
import Derived.ProofKit
import Derived.OpenShut
namespace Go.Proofs.Ytcpapdjjeinpmaa
open Go.RowKit
set_option linter.unusedVariables false
def W64 (n : Nat) : Prop := n < 18446744073709551616
theorem pow256 (k : Nat) : 256 ^ k = 2 ^ (8 * k) := by rw [Nat.pow_mul]
/-- 'or' of what does not overlap is a sum -/
theorem or64_add {a b i : Nat} (ha : a < 2 ^ i) (hb : b % 2 ^ i = 0) (h64 : a + b < 2 ^ 64) : bits .or .u64 (a : Int) (b : Int) = ((a + b : Nat) : Int) := by
  rw [u64_or_nat a b (by omega) (by omega), Nat.or_comm, nat_join i b a hb ha, Nat.add_comm]
theorem or64_add' {a b i : Nat} (ha : a < 2 ^ i) (hb : b % 2 ^ i = 0) (h64 : a + b < 2 ^ 64) : bits .or .u64 (b : Int) (a : Int) = ((a + b : Nat) : Int) := by
  rw [u64_or_nat b a (by omega) (by omega), nat_join i b a hb ha, Nat.add_comm]
theorem or8_add {a b i : Nat} (ha : a < 2 ^ i) (hb : b % 2 ^ i = 0) (h8 : a + b < 256) : bits .or .u8 (a : Int) (b : Int) = ((a + b : Nat) : Int) := by
  rw [u8_or_nat a b (by omega) (by omega), Nat.or_comm, nat_join i b a hb ha, Nat.add_comm]
theorem and8_one (a : Nat) (ha : a < 256) : bits .and .u8 (a : Int) 1 = ((a % 2 : Nat) : Int) := by
  have := u8_and_nat a 1 ha (by decide)
  rw [nat_mask1] at this
  exact_mod_cast this
theorem bit8 (m k : Nat) (hm : m < 256) : bits .and .u8 ((m : Int) / 2 ^ k) 1 = ((m / 2 ^ k % 2 : Nat) : Int) := by
  have h : ((m : Int) / 2 ^ k) = ((m / 2 ^ k : Nat) : Int) := by push_cast; rfl
  rw [h, and8_one _ (Nat.lt_of_le_of_lt (Nat.div_le_self _ _) hm)]
theorem wrap64_of_lt {n : Nat} (h : n < 2 ^ 64) : IntKind.u64.wrap (n : Int) = n := IntWalk.u64_in _ ⟨by omega, by omega⟩
theorem wrap8_of_lt {n : Nat} (h : n < 256) : IntKind.u8.wrap (n : Int) = n := by rw [IntKind.wrap_u8']; omega

def wideN (m : Nat) : Nat → Nat
  | 0 => 0
  | k + 1 => wideN m k + (if m / 2 ^ k % 2 = 1 then 255 * 256 ^ k else 0)
theorem wideN_lt (m : Nat) : ∀ k, wideN m k < 256 ^ k
  | 0 => by simp [wideN]
  | k + 1 => by
    have := wideN_lt m k
    have h : 256 ^ (k + 1) = 256 * 256 ^ k := by rw [Nat.pow_succ, Nat.mul_comm]
    simp only [wideN]
    split <;> omega
theorem pow256_le {k : Nat} (hk : k < 8) : 256 ^ (k + 1) ≤ 2 ^ 64 := by
  rw [pow256]; exact Nat.pow_le_pow_right (by decide) (by omega)
theorem wide_step (m k : Nat) (hk : k < 8) : bits .or .u64 (wideN m k : Nat) (IntKind.u64.wrap (255 * 2 ^ (8 * k))) = ((wideN m k + 255 * 256 ^ k : Nat) : Int) := by
  have h1 := wideN_lt m k
  have h2 := pow256_le hk
  have h3 : 256 ^ (k + 1) = 256 * 256 ^ k := by rw [Nat.pow_succ, Nat.mul_comm]
  have e : (255 * 2 ^ (8 * k) : Int) = ((255 * 256 ^ k : Nat) : Int) := by rw [pow256]; simp only [Int.natCast_mul, Int.natCast_pow]; rfl
  rw [e, wrap64_of_lt (by omega)]
  exact or64_add (i := 8 * k) (by rw [← pow256]; exact h1) (by rw [← pow256]; exact Nat.mul_mod_left _ _) (by omega)
theorem beq_nat {a b : Nat} (h : ((a : Int) == (b : Int)) = true) : a = b := by have := eq_of_beq h; omega
theorem beq_nat' {a b : Nat} (h : ((a : Int) == (b : Int)) = false) : ¬ a = b := by have := ne_of_beq_false h; omega
theorem or64_int (P a b : Int) (i : Nat) (hP : P = 2 ^ i) (h0 : 0 ≤ a) (ha : a < P) (hb : 0 ≤ b) (h64 : a + b * P ≤ 18446744073709551615) : bits .or .u64 a (b * P) = a + b * P := by
  obtain ⟨x, rfl⟩ := Int.eq_ofNat_of_zero_le h0
  obtain ⟨y, rfl⟩ := Int.eq_ofNat_of_zero_le hb
  have e : (y : Int) * P = ((y * 2 ^ i : Nat) : Int) := by rw [hP]; simp only [Int.natCast_mul, Int.natCast_pow]; rfl
  have e2 : P = ((2 ^ i : Nat) : Int) := by rw [hP]; simp only [Int.natCast_pow]; rfl
  rw [e] at h64 ⊢
  rw [e2] at ha
  rw [or64_add (i := i) (by omega) (Nat.mul_mod_left _ _) (by omega)]
  omega
def ofB (b0 b1 b2 b3 b4 b5 b6 b7 : Int) : Int := b0 + b1 * 256 + b2 * 65536 + b3 * 16777216 + b4 * 4294967296 + b5 * 1099511627776 + b6 * 281474976710656 + b7 * 72057594037927936
theorem or_ofB (b0 b1 b2 b3 b4 b5 b6 b7 : Int) (h0 : 0 ≤ b0 ∧ b0 < 256) (h1 : 0 ≤ b1 ∧ b1 < 256) (h2 : 0 ≤ b2 ∧ b2 < 256) (h3 : 0 ≤ b3 ∧ b3 < 256) (h4 : 0 ≤ b4 ∧ b4 < 256) (h5 : 0 ≤ b5 ∧ b5 < 256) (h6 : 0 ≤ b6 ∧ b6 < 256) (h7 : 0 ≤ b7 ∧ b7 < 256) :
    bits .or .u64 (bits .or .u64 (bits .or .u64 (bits .or .u64 (bits .or .u64 (bits .or .u64 (bits .or .u64 (bits .or .u64 0 b0) (b1 * 256)) (b2 * 65536)) (b3 * 16777216)) (b4 * 4294967296)) (b5 * 1099511627776)) (b6 * 281474976710656)) (b7 * 72057594037927936) = ofB b0 b1 b2 b3 b4 b5 b6 b7 := by
  have e0 := or64_int 1 0 b0 0 rfl (by omega) (by omega) (by omega) (by omega)
  rw [Int.mul_one] at e0
  rw [e0, or64_int 256 _ b1 8 rfl (by omega) (by omega) (by omega) (by omega), or64_int 65536 _ b2 16 rfl (by omega) (by omega) (by omega) (by omega),
    or64_int 16777216 _ b3 24 rfl (by omega) (by omega) (by omega) (by omega), or64_int 4294967296 _ b4 32 rfl (by omega) (by omega) (by omega) (by omega),
    or64_int 1099511627776 _ b5 40 rfl (by omega) (by omega) (by omega) (by omega), or64_int 281474976710656 _ b6 48 rfl (by omega) (by omega) (by omega) (by omega),
    or64_int 72057594037927936 _ b7 56 rfl (by omega) (by omega) (by omega) (by omega)]
  unfold ofB; omega
theorem ofB_bytes (n : Nat) (h : n < 18446744073709551616) : ofB ((n : Int) % 256) ((n : Int) / 256 % 256) ((n : Int) / 65536 % 256) ((n : Int) / 16777216 % 256) ((n : Int) / 4294967296 % 256) ((n : Int) / 1099511627776 % 256) ((n : Int) / 281474976710656 % 256) ((n : Int) / 72057594037927936 % 256) = n := by
  unfold ofB; omega
theorem ret_u64 {a b : Int} (h : a = b) : Ending.returned (.int .u64 a) = .returned (.int .u64 b) := by rw [h]
theorem ret_u8 {a b : Int} (h : a = b) : Ending.returned (.int .u8 a) = .returned (.int .u8 b) := by rw [h]
theorem ret_int {k : IntKind} {a b : Int} (h : a = b) : Ending.returned (.int k a) = .returned (.int k b) := by rw [h]
theorem ret_bool {a b : Bool} (h : a = b) : Ending.returned (.bool a) = .returned (.bool b) := by rw [h]
/-- the mask of the first k bytes that are unlike -/
def unl (a b : Nat) : Nat → Nat
  | 0 => 0
  | k + 1 => unl a b k + (if a / 256 ^ k % 256 = b / 256 ^ k % 256 then 0 else 2 ^ k)
theorem unl_lt (a b : Nat) : ∀ k, unl a b k < 2 ^ k
  | 0 => by simp [unl]
  | k + 1 => by
    have := unl_lt a b k
    have h : 2 ^ (k + 1) = 2 * 2 ^ k := by rw [Nat.pow_succ, Nat.mul_comm]
    simp only [unl]
    split <;> omega
theorem xor_byte (a b k : Nat) : (a ^^^ b) / 256 ^ k % 256 = 0 ↔ a / 256 ^ k % 256 = b / 256 ^ k % 256 := by
  rw [pow256, show (256 : Nat) = 2 ^ 8 from rfl, ← Nat.shiftRight_eq_div_pow, ← Nat.shiftRight_eq_div_pow, ← Nat.shiftRight_eq_div_pow, Nat.shiftRight_xor_distrib, Nat.xor_mod_two_pow]
  constructor
  · intro h
    exact Nat.eq_of_testBit_eq fun i => by
      have := congrArg (Nat.testBit · i) h
      simp only [Nat.testBit_xor, Nat.zero_testBit] at this
      revert this
      cases Nat.testBit (a >>> (8 * k) % 2 ^ 8) i <;> cases Nat.testBit (b >>> (8 * k) % 2 ^ 8) i <;> simp
  · intro h
    rw [h, Nat.xor_self]
theorem un_zero_0 (a b : Nat) : (((((a ^^^ b : Nat) : Int) % 256 != 0) = false) → a / 256 ^ 0 % 256 = b / 256 ^ 0 % 256) ∧ (((((a ^^^ b : Nat) : Int) % 256 != 0) = true) → ¬ a / 256 ^ 0 % 256 = b / 256 ^ 0 % 256) := by
  have h := xor_byte a b 0
  constructor
  · intro ht; have := bne_eq_false_iff_eq.1 ht; exact h.1 (by omega)
  · intro ht; have := bne_iff_ne.1 ht; exact fun e => this (by have := h.2 e; omega)
theorem un_zero_1 (a b : Nat) : (((((a ^^^ b : Nat) : Int) / 256 % 256 != 0) = false) → a / 256 ^ 1 % 256 = b / 256 ^ 1 % 256) ∧ (((((a ^^^ b : Nat) : Int) / 256 % 256 != 0) = true) → ¬ a / 256 ^ 1 % 256 = b / 256 ^ 1 % 256) := by
  have h := xor_byte a b 1
  constructor
  · intro ht; have := bne_eq_false_iff_eq.1 ht; exact h.1 (by omega)
  · intro ht; have := bne_iff_ne.1 ht; exact fun e => this (by have := h.2 e; omega)
theorem un_zero_2 (a b : Nat) : (((((a ^^^ b : Nat) : Int) / 65536 % 256 != 0) = false) → a / 256 ^ 2 % 256 = b / 256 ^ 2 % 256) ∧ (((((a ^^^ b : Nat) : Int) / 65536 % 256 != 0) = true) → ¬ a / 256 ^ 2 % 256 = b / 256 ^ 2 % 256) := by
  have h := xor_byte a b 2
  constructor
  · intro ht; have := bne_eq_false_iff_eq.1 ht; exact h.1 (by omega)
  · intro ht; have := bne_iff_ne.1 ht; exact fun e => this (by have := h.2 e; omega)
theorem un_zero_3 (a b : Nat) : (((((a ^^^ b : Nat) : Int) / 16777216 % 256 != 0) = false) → a / 256 ^ 3 % 256 = b / 256 ^ 3 % 256) ∧ (((((a ^^^ b : Nat) : Int) / 16777216 % 256 != 0) = true) → ¬ a / 256 ^ 3 % 256 = b / 256 ^ 3 % 256) := by
  have h := xor_byte a b 3
  constructor
  · intro ht; have := bne_eq_false_iff_eq.1 ht; exact h.1 (by omega)
  · intro ht; have := bne_iff_ne.1 ht; exact fun e => this (by have := h.2 e; omega)
theorem un_zero_4 (a b : Nat) : (((((a ^^^ b : Nat) : Int) / 4294967296 % 256 != 0) = false) → a / 256 ^ 4 % 256 = b / 256 ^ 4 % 256) ∧ (((((a ^^^ b : Nat) : Int) / 4294967296 % 256 != 0) = true) → ¬ a / 256 ^ 4 % 256 = b / 256 ^ 4 % 256) := by
  have h := xor_byte a b 4
  constructor
  · intro ht; have := bne_eq_false_iff_eq.1 ht; exact h.1 (by omega)
  · intro ht; have := bne_iff_ne.1 ht; exact fun e => this (by have := h.2 e; omega)
theorem un_zero_5 (a b : Nat) : (((((a ^^^ b : Nat) : Int) / 1099511627776 % 256 != 0) = false) → a / 256 ^ 5 % 256 = b / 256 ^ 5 % 256) ∧ (((((a ^^^ b : Nat) : Int) / 1099511627776 % 256 != 0) = true) → ¬ a / 256 ^ 5 % 256 = b / 256 ^ 5 % 256) := by
  have h := xor_byte a b 5
  constructor
  · intro ht; have := bne_eq_false_iff_eq.1 ht; exact h.1 (by omega)
  · intro ht; have := bne_iff_ne.1 ht; exact fun e => this (by have := h.2 e; omega)
theorem un_zero_6 (a b : Nat) : (((((a ^^^ b : Nat) : Int) / 281474976710656 % 256 != 0) = false) → a / 256 ^ 6 % 256 = b / 256 ^ 6 % 256) ∧ (((((a ^^^ b : Nat) : Int) / 281474976710656 % 256 != 0) = true) → ¬ a / 256 ^ 6 % 256 = b / 256 ^ 6 % 256) := by
  have h := xor_byte a b 6
  constructor
  · intro ht; have := bne_eq_false_iff_eq.1 ht; exact h.1 (by omega)
  · intro ht; have := bne_iff_ne.1 ht; exact fun e => this (by have := h.2 e; omega)
theorem un_zero_7 (a b : Nat) : (((((a ^^^ b : Nat) : Int) / 72057594037927936 % 256 != 0) = false) → a / 256 ^ 7 % 256 = b / 256 ^ 7 % 256) ∧ (((((a ^^^ b : Nat) : Int) / 72057594037927936 % 256 != 0) = true) → ¬ a / 256 ^ 7 % 256 = b / 256 ^ 7 % 256) := by
  have h := xor_byte a b 7
  constructor
  · intro ht; have := bne_eq_false_iff_eq.1 ht; exact h.1 (by omega)
  · intro ht; have := bne_iff_ne.1 ht; exact fun e => this (by have := h.2 e; omega)
theorem un_step (a b k : Nat) (hk : k < 8) : bits .or .u8 ((unl a b k : Nat) : Int) ((2 ^ k : Nat) : Int) = ((unl a b k + 2 ^ k : Nat) : Int) := by
  have h1 := unl_lt a b k
  have h2 : 2 ^ (k + 1) ≤ 2 ^ 8 := Nat.pow_le_pow_right (by decide) (by omega)
  have h3 : 2 ^ (k + 1) = 2 * 2 ^ k := by rw [Nat.pow_succ, Nat.mul_comm]
  exact or8_add (i := k) h1 (Nat.mod_self _) (by omega)
theorem un_same {a b k : Nat} (h : a / 256 ^ k % 256 = b / 256 ^ k % 256) : unl a b (k + 1) = unl a b k := by simp only [unl, if_pos h, Nat.add_zero]
theorem un_other {a b k : Nat} (h : ¬ a / 256 ^ k % 256 = b / 256 ^ k % 256) : unl a b (k + 1) = unl a b k + 2 ^ k := by simp only [unl, if_neg h]
/-- is bit i of m set? -/
def bitB (m i : Nat) : Bool := decide (m / 2 ^ i % 2 = 1)
theorem bitB_t {m i : Nat} (h : bitB m i = true) : m / 2 ^ i % 2 = 1 := of_decide_eq_true h
theorem bitB_f {m i : Nat} (h : bitB m i = false) : ¬ m / 2 ^ i % 2 = 1 := of_decide_eq_false h
theorem div_pow_succ (m k : Nat) : m / 2 ^ k / 2 = m / 2 ^ (k + 1) := by rw [Nat.div_div_eq_div_mul, Nat.pow_succ]
theorem beq_mod2 (q : Nat) : ((q : Int) % 2 == 1) = decide (q % 2 = 1) := by rw [Bool.eq_iff_iff]; simp; omega
/-- a word of bytes f 0, f 1, .. -/
def bySum (f : Nat → Nat) : Nat → Nat
  | 0 => 0
  | k + 1 => 2 ^ (8 * k) * f k + bySum f k
theorem bySum_lt (f : Nat → Nat) (hf : ∀ k, f k < 256) : ∀ k, bySum f k < 2 ^ (8 * k)
  | 0 => by simp [bySum]
  | k + 1 => by
    have h1 := bySum_lt f hf k
    have h2 := hf k
    have h3 : 2 ^ (8 * (k + 1)) = 2 ^ (8 * k) * 256 := by rw [Nat.mul_add, Nat.pow_add]
    have h4 : 2 ^ (8 * k) * f k ≤ 2 ^ (8 * k) * 255 := Nat.mul_le_mul_left _ (by omega)
    simp only [bySum]
    omega
theorem bySum_bit (f : Nat → Nat) (hf : ∀ k, f k < 256) (i : Nat) : ∀ k, Nat.testBit (bySum f k) i = (decide (i < 8 * k) && Nat.testBit (f (i / 8)) (i % 8))
  | 0 => by simp [bySum]
  | k + 1 => by
    have h := bySum_bit f hf i k
    simp only [bySum]
    rw [Nat.testBit_two_pow_mul_add _ (bySum_lt f hf k)]
    by_cases h1 : i < 8 * k
    · rw [if_pos h1, h]
      simp [h1, show i < 8 * (k + 1) by omega]
    · rw [if_neg h1]
      by_cases h2 : i < 8 * (k + 1)
      · have h3 : i / 8 = k := by omega
        have h4 : i - 8 * k = i % 8 := by omega
        rw [h3, h4]
        simp [h2]
      · have h5 : f k < 2 ^ (i - 8 * k) := Nat.lt_of_lt_of_le (hf k) (Nat.pow_le_pow_right (n := 2) (by decide) (show 8 ≤ i - 8 * k by omega))
        rw [Nat.testBit_lt_two_pow h5]
        simp [h2]
def byteN (n k : Nat) : Nat := n / 256 ^ k % 256
theorem byteN_lt (n k : Nat) : byteN n k < 256 := Nat.mod_lt _ (by decide)
theorem byteN_bit (n k j : Nat) (hj : j < 8) : Nat.testBit (byteN n k) j = Nat.testBit n (8 * k + j) := by
  unfold byteN
  rw [pow256, show (256 : Nat) = 2 ^ 8 from rfl, Nat.testBit_mod_two_pow, Nat.testBit_div_two_pow]
  simp [hj, Nat.add_comm]
theorem sum_bytes (n : Nat) (h : n < 2 ^ 64) : bySum (byteN n) 8 = n := by
  refine Nat.eq_of_testBit_eq fun i => ?_
  rw [bySum_bit _ (byteN_lt n)]
  by_cases hi : i < 64
  · rw [byteN_bit _ _ _ (Nat.mod_lt _ (by decide))]
    simp [hi, show 8 * (i / 8) + i % 8 = i by omega]
  · rw [Nat.testBit_lt_two_pow (Nat.lt_of_lt_of_le h (Nat.pow_le_pow_right (by decide) (by omega)))]
    simp [hi]
/-- two words mixed by a mask of bytes -/
def mixF (a b m k : Nat) : Nat := if bitB m k then byteN b k else byteN a k
theorem mixF_lt (a b m k : Nat) : mixF a b m k < 256 := by unfold mixF; split <;> exact byteN_lt _ _
def mixN (a b m : Nat) : Nat := bySum (mixF a b m) 8
def wideF (m k : Nat) : Nat := if bitB m k then 255 else 0
theorem wideF_lt (m k : Nat) : wideF m k < 256 := by unfold wideF; split <;> decide
theorem wideN_sum (m : Nat) : ∀ k, wideN m k = bySum (wideF m) k
  | 0 => rfl
  | k + 1 => by
    simp only [wideN, bySum, wideN_sum m k, wideF, bitB, decide_eq_true_eq]
    rw [pow256]
    split <;> omega
theorem bit255 (j : Nat) (hj : j < 8) : Nat.testBit 255 j = true := by
  rw [show (255 : Nat) = 2 ^ 8 - 1 from rfl, Nat.testBit_two_pow_sub_one]; simp [hj]
theorem wideN_bit (m i : Nat) (hi : i < 64) : Nat.testBit (wideN m 8) i = bitB m (i / 8) := by
  rw [wideN_sum, bySum_bit _ (wideF_lt m)]
  unfold wideF
  have := bit255 (i % 8) (Nat.mod_lt _ (by decide))
  cases bitB m (i / 8) <;> simp [hi, this]
theorem wideN_lt64 (m : Nat) : wideN m 8 < 2 ^ 64 := by rw [wideN_sum]; exact bySum_lt _ (wideF_lt m) 8
theorem mix_bits (a b m : Nat) (ha : a < 2 ^ 64) (hb : b < 2 ^ 64) : (a &&& (18446744073709551615 - wideN m 8)) ||| (b &&& wideN m 8) = mixN a b m := by
  refine Nat.eq_of_testBit_eq fun i => ?_
  unfold mixN
  rw [bySum_bit _ (mixF_lt a b m), Nat.testBit_or, Nat.testBit_and, Nat.testBit_and, show (18446744073709551615 - wideN m 8) = 2 ^ 64 - (wideN m 8 + 1) by have := wideN_lt64 m; omega, Nat.testBit_two_pow_sub_succ (wideN_lt64 m)]
  by_cases hi : i < 64
  · have h := wideN_bit m i hi
    have hs : 8 * (i / 8) + i % 8 = i := by omega
    have hj : i % 8 < 8 := Nat.mod_lt _ (by decide)
    rw [h]
    unfold mixF
    cases bitB m (i / 8) <;> simp [hi, byteN_bit _ _ _ hj, hs]
  · have h1 : ∀ n, n < 2 ^ 64 → Nat.testBit n i = false := fun n hn => Nat.testBit_lt_two_pow (Nat.lt_of_lt_of_le hn (Nat.pow_le_pow_right (by decide) (by omega)))
    simp [h1 a ha, h1 b hb, hi]
theorem unl_bit (a b k : Nat) : ∀ n, n ≤ 8 → k < n → bitB (unl a b n) k = !decide (byteN a k = byteN b k) := by
  intro n hn hk
  induction n with
  | zero => omega
  | succ n ih =>
    have hl := unl_lt a b n
    simp only [unl]
    by_cases he : k = n
    · subst he
      unfold bitB byteN
      split
      · rename_i h
        rw [Nat.add_zero, Nat.div_eq_of_lt hl]
        simp [h]
      · rename_i h
        rw [show unl a b k + 2 ^ k = 2 ^ k + unl a b k from Nat.add_comm _ _, Nat.add_div_left _ (Nat.two_pow_pos _), Nat.div_eq_of_lt hl]
        simp [h]
    · have hk' : k < n := by omega
      rw [← ih (by omega) hk']
      unfold bitB
      split
      · rw [Nat.add_zero]
      · have h2 : 2 ^ n = 2 ^ k * (2 * 2 ^ (n - k - 1)) := by
          rw [← Nat.pow_succ', ← Nat.pow_add]; congr 1; omega
        rw [h2, Nat.add_mul_div_left _ _ (Nat.two_pow_pos _), Nat.add_mul_mod_self_left]
theorem mixN_congr (f : Nat → Nat) (g : Nat → Nat) : ∀ n, (∀ k, k < n → f k = g k) → bySum f n = bySum g n
  | 0, _ => rfl
  | n + 1, h => by simp only [bySum]; rw [h n (by omega), mixN_congr f g n fun k hk => h k (by omega)]
/-- mixed by the mask in which they are unlike, the one is the other -/
theorem mix_unl (a b : Nat) (hb : b < 2 ^ 64) : mixN a b (unl a b 8) = b := by
  rw [← sum_bytes b hb]
  unfold mixN
  refine mixN_congr _ _ 8 fun k hk => ?_
  rw [sum_bytes b hb]
  unfold mixF
  rw [unl_bit a b k 8 (by decide) hk]
  by_cases h : byteN a k = byteN b k <;> simp [h]
theorem mix_full (m : Nat) : mixN 0 18446744073709551615 m = wideN m 8 := by
  rw [wideN_sum]
  unfold mixN
  refine mixN_congr _ _ 8 fun k hk => ?_
  unfold mixF wideF
  have h1 : byteN 0 k = 0 := by simp [byteN]
  have h2 : byteN 18446744073709551615 k = 255 := by
    have hc : k = 0 ∨ k = 1 ∨ k = 2 ∨ k = 3 ∨ k = 4 ∨ k = 5 ∨ k = 6 ∨ k = 7 := by omega
    rcases hc with rfl | rfl | rfl | rfl | rfl | rfl | rfl | rfl <;> rfl
  rw [h1, h2]
theorem bySum_ofB (f : Nat → Nat) : ((bySum f 8 : Nat) : Int) = ofB (f 0 : Nat) (f 1 : Nat) (f 2 : Nat) (f 3 : Nat) (f 4 : Nat) (f 5 : Nat) (f 6 : Nat) (f 7 : Nat) := by
  simp only [bySum, ofB]; omega
theorem bcell {W w1 : World} {B : Nat} (hb : Below B W w1) {b o : Nat} (h : b < B) : w1.cell? ⟨b, o, none⟩ = W.cell? ⟨b, o, none⟩ := hb.cell (p := ⟨b, o, none⟩) h
theorem lt8 {k : Nat} (h : k < 8) : k = 0 ∨ k = 1 ∨ k = 2 ∨ k = 3 ∨ k = 4 ∨ k = 5 ∨ k = 6 ∨ k = 7 := by omega
/-- the cells of a block of eight bytes -/
theorem cells8 (w : World) (t : TypeId) (f : Nat → Value) (k : Nat) (hk : k < 8) : (w.alloc (.cells #[f 0, f 1, f 2, f 3, f 4, f 5, f 6, f 7] t)).cell? ⟨w.heap.size, k, none⟩ = some (f k) := by
  rcases lt8 hk with rfl | rfl | rfl | rfl | rfl | rfl | rfl | rfl <;> simp
def byteV (n k : Nat) : Value := .int .u8 (byteN n k : Nat)
theorem agg_bytes (n : Nat) : (#[.int .u8 ((n : Int) % 256), .int .u8 ((n : Int) / 256 % 256), .int .u8 ((n : Int) / 65536 % 256), .int .u8 ((n : Int) / 16777216 % 256), .int .u8 ((n : Int) / 4294967296 % 256), .int .u8 ((n : Int) / 1099511627776 % 256), .int .u8 ((n : Int) / 281474976710656 % 256), .int .u8 ((n : Int) / 72057594037927936 % 256)] : Array Value) =
    #[byteV n 0, byteV n 1, byteV n 2, byteV n 3, byteV n 4, byteV n 5, byteV n 6, byteV n 7] := by
  simp [byteV, byteN]
/-- how many bits a number of a code has -/
def widthOf (c : Nat) : Nat := if c = 0 then 0 else if c = 1 then 1 else if c = 2 then 8 else if c = 3 then 16 else if c = 4 then 32 else 64
theorem widthOf_le (c : Nat) : widthOf c ≤ 64 := by unfold widthOf; repeat' split
                                                    all_goals decide
theorem shr_zero (n W : Nat) : ((n : Int) / 2 ^ W == 0) = decide (n < 2 ^ W) := by
  have h : ((n : Int) / 2 ^ W) = ((n / 2 ^ W : Nat) : Int) := by push_cast; rfl
  rw [h, Bool.eq_iff_iff]
  simp only [beq_iff_eq, decide_eq_true_eq]
  have hp := Nat.two_pow_pos W
  constructor
  · intro h
    have h0 : n / 2 ^ W = 0 := by omega
    exact (Nat.div_eq_zero_iff_lt hp).1 h0
  · intro h
    rw [Nat.div_eq_of_lt h]
    rfl
/-- the i-th number of W bits -/
def getN (W : Nat) (l : List Nat) (i : Nat) : Nat := l.getD (i * W / 64) 0 / 2 ^ (i * W % 64) % 2 ^ W
theorem getD_lt {l : List Nat} {k : Nat} (h : k < l.length) : l.getD k 0 = l[k] := by simp [List.getD, h]
theorem getD_ge {l : List Nat} {k : Nat} (h : l.length ≤ k) : l.getD k 0 = 0 := by simp [List.getD, h]
theorem and_mask (x s W : Nat) (M : Int) (hM : M = ((2 ^ W - 1 : Nat) : Int)) (hx : W64 x) (hW : W ≤ 64) : bits .and .u64 ((x : Int) / 2 ^ s) M = ((x / 2 ^ s % 2 ^ W : Nat) : Int) := by
  have h : ((x : Int) / 2 ^ s) = ((x / 2 ^ s : Nat) : Int) := by push_cast; rfl
  have h1 : 2 ^ W ≤ 2 ^ 64 := Nat.pow_le_pow_right (by decide) hW
  have h2 := Nat.two_pow_pos W
  rw [h, hM, u64_and_nat _ _ (Nat.lt_of_le_of_lt (Nat.div_le_self _ _) hx) (by omega), Nat.and_two_pow_sub_one_eq_mod]
theorem and_full (x : Nat) (hx : W64 x) : bits .and .u64 (x : Int) 18446744073709551615 = (x : Int) := by
  have h := and_mask x 0 64 18446744073709551615 (by decide) hx (by decide)
  unfold W64 at hx
  simp only [Int.pow_zero, Int.ediv_one, Nat.pow_zero, Nat.div_one] at h
  rw [h]
  omega
/-- bit number a of words -/
def bitN (l : List Nat) (a : Nat) : Nat := l.getD (a / 64) 0 / 2 ^ (a % 64) % 2
theorem bitN_le (l : List Nat) (a : Nat) : bitN l a < 2 := Nat.mod_lt _ (by decide)
theorem mod_snoc (x t r : Nat) : x / 2 ^ (t + 1) % 2 ^ r * 2 + x / 2 ^ t % 2 = x / 2 ^ t % 2 ^ (r + 1) := by
  rw [show 2 ^ (r + 1) = 2 * 2 ^ r by rw [Nat.pow_succ, Nat.mul_comm], Nat.mod_mul, ← div_pow_succ]; omega
/-- what ref.Get has behind r of W bits -/
def getR (W : Nat) (l : List Nat) (i r : Nat) : Nat := l.getD (i * W / 64) 0 / 2 ^ (i * W % 64 + (W - r)) % 2 ^ r
theorem getR_zero (W : Nat) (l : List Nat) (i : Nat) : getR W l i 0 = 0 := by unfold getR; rw [Nat.pow_zero, Nat.mod_one]
theorem getR_full (W : Nat) (l : List Nat) (i : Nat) : getR W l i W = getN W l i := by unfold getR getN; rw [Nat.sub_self, Nat.add_zero]
theorem getR_lt (W : Nat) (l : List Nat) (i r : Nat) : getR W l i r < 2 ^ r := Nat.mod_lt _ (Nat.two_pow_pos r)
theorem getR_step (W : Nat) (hW : W = 1 ∨ W = 8 ∨ W = 16 ∨ W = 32 ∨ W = 64) (l : List Nat) (i r : Nat) (hr : r < W) :
    getR W l i r * 2 + bitN l (i * W + (W - 1 - r)) = getR W l i (r + 1) := by
  have h1 : (i * W + (W - 1 - r)) / 64 = i * W / 64 := by rcases hW with rfl | rfl | rfl | rfl | rfl <;> omega
  have h2 : (i * W + (W - 1 - r)) % 64 = i * W % 64 + (W - 1 - r) := by rcases hW with rfl | rfl | rfl | rfl | rfl <;> omega
  unfold getR bitN
  rw [h1, h2, show i * W % 64 + (W - r) = i * W % 64 + (W - 1 - r) + 1 by omega, show W - (r + 1) = W - 1 - r by omega]
  exact mod_snoc _ _ _
/-- how many words so many numbers of W bits take -/
def roomN (W n : Nat) : Nat := (n * W + 63) / 64
theorem zero_lt {n W q : Nat} (h : n / 2 ^ W = q) : ((q : Int) == 0) = decide (n < 2 ^ W) := by
  rw [← h, ← shr_zero]; push_cast; rfl
/-- word j of numbers of W bits, the first k of l -/
def putAt (W : Nat) (l : List Nat) : Nat → Nat → Nat
  | 0, _ => 0
  | k + 1, j => putAt W l k j + (if k * W / 64 = j then l.getD k 0 * 2 ^ (k * W % 64) else 0)
def putN (W : Nat) (l : List Nat) : List Nat := (List.range (roomN W l.length)).map (putAt W l l.length)
def fitAll (W : Nat) (l : List Nat) (k : Nat) : Bool := (l.take k).all fun n => decide (n < 2 ^ W)
theorem fitAll_zero (W : Nat) (l : List Nat) : fitAll W l 0 = true := by simp [fitAll]
theorem fitAll_succ (W : Nat) (l : List Nat) (k : Nat) (hk : k < l.length) : fitAll W l (k + 1) = (fitAll W l k && decide (l.getD k 0 < 2 ^ W)) := by
  unfold fitAll
  rw [List.take_succ_eq_append_getElem hk, List.all_append, getD_lt hk]
  simp
theorem fitAll_at {W : Nat} {l : List Nat} (h : fitAll W l l.length = true) (k : Nat) (hk : k < l.length) : l.getD k 0 < 2 ^ W := by
  unfold fitAll at h
  rw [List.take_length, List.all_eq_true] at h
  have := h _ (List.getElem_mem hk)
  rw [getD_lt hk]
  exact of_decide_eq_true this
/-- what stands in a word yet -/
theorem putAt_lt (W : Nat) (hW : W = 1 ∨ W = 8 ∨ W = 16 ∨ W = 32 ∨ W = 64) (l : List Nat) (hl : fitAll W l l.length = true) (j : Nat) :
    ∀ k, k ≤ l.length → putAt W l k j < 2 ^ (min 64 (k * W - 64 * j))
  | 0, _ => by simp [putAt]
  | k + 1, hk => by
    have h := putAt_lt W hW l hl j k (by omega)
    simp only [putAt]
    by_cases hj : k * W / 64 = j
    · rw [if_pos hj]
      have hf := fitAll_at hl k (by omega)
      have e1 : min 64 (k * W - 64 * j) = k * W % 64 := by omega
      have e2 : min 64 ((k + 1) * W - 64 * j) = k * W % 64 + W := by rw [Nat.succ_mul]; rcases hW with rfl | rfl | rfl | rfl | rfl <;> omega
      rw [e1] at h
      rw [e2, Nat.pow_add]
      generalize 2 ^ (k * W % 64) = p at *
      have h3 : l.getD k 0 * p ≤ (2 ^ W - 1) * p := Nat.mul_le_mul_right _ (by omega)
      have h4 : (2 ^ W - 1) * p + p = p * 2 ^ W := by
        rw [Nat.sub_mul, Nat.one_mul, Nat.mul_comm p]
        have : p ≤ 2 ^ W * p := Nat.le_mul_of_pos_left _ (Nat.two_pow_pos W)
        omega
      omega
    · rw [if_neg hj, Nat.add_zero]
      refine Nat.lt_of_lt_of_le h (Nat.pow_le_pow_right (by decide) ?_)
      have e : (k + 1) * W = k * W + W := Nat.succ_mul k W
      omega
theorem putAt_lt64 (W : Nat) (hW : W = 1 ∨ W = 8 ∨ W = 16 ∨ W = 32 ∨ W = 64) (l : List Nat) (hl : fitAll W l l.length = true) (k j : Nat) (hk : k ≤ l.length) : putAt W l k j < 2 ^ 64 :=
  Nat.lt_of_lt_of_le (putAt_lt W hW l hl j k hk) (Nat.pow_le_pow_right (by decide) (Nat.min_le_left _ _))
/-- one number more: 'or' and '+' are the same here -/
theorem put_step (W : Nat) (hW : W = 1 ∨ W = 8 ∨ W = 16 ∨ W = 32 ∨ W = 64) (l : List Nat) (hl : fitAll W l l.length = true) (k : Nat) (hk : k < l.length) :
    putAt W l k (k * W / 64) < 2 ^ (k * W % 64) ∧ l.getD k 0 * 2 ^ (k * W % 64) + putAt W l k (k * W / 64) < 2 ^ 64 := by
  have h := putAt_lt W hW l hl (k * W / 64) k (by omega)
  have h2 := putAt_lt64 W hW l hl (k + 1) (k * W / 64) (by omega)
  have e1 : min 64 (k * W - 64 * (k * W / 64)) = k * W % 64 := by omega
  rw [e1] at h
  simp only [putAt, if_true] at h2
  exact ⟨h, by omega⟩
theorem put_or {p x s : Nat} (h1 : p < 2 ^ s) (h2 : x * 2 ^ s + p < 2 ^ 64) : bits .or .u64 (p : Int) (IntKind.u64.wrap ((x : Int) * 2 ^ s)) = ((p + x * 2 ^ s : Nat) : Int) := by
  have e : (x : Int) * 2 ^ s = ((x * 2 ^ s : Nat) : Int) := by simp only [Int.natCast_mul, Int.natCast_pow]; rfl
  rw [e, wrap64_of_lt (by omega)]
  exact or64_add (i := s) h1 (Nat.mul_mod_left _ _) (by omega)
theorem fitAll_iff {W : Nat} {l : List Nat} {k : Nat} (hk : k ≤ l.length) : fitAll W l k = true ↔ ∀ i < k, l.getD i 0 < 2 ^ W := by
  induction k with
  | zero => simp [fitAll_zero]
  | succ k ih =>
    rw [fitAll_succ W l k (by omega), Bool.and_eq_true, ih (by omega), decide_eq_true_eq]
    constructor
    · rintro ⟨h1, h2⟩ i hi
      rcases Nat.lt_or_eq_of_le (Nat.le_of_lt_succ hi) with h | rfl
      · exact h1 i h
      · exact h2
    · exact fun h => ⟨fun i hi => h i (by omega), h k (by omega)⟩
theorem putAt_take (W : Nat) (l : List Nat) (m k j : Nat) (hk : k ≤ m) : putAt W (l.take m) k j = putAt W l k j := by
  induction k with
  | zero => rfl
  | succ k ih =>
    simp only [putAt]
    rw [ih (by omega)]
    have : (l.take m).getD k 0 = l.getD k 0 := by
      simp only [List.getD, List.getElem?_take, if_pos (show k < m by omega)]
    rw [this]
/-- as 'put_step', where only the first k + 1 are known to fit -/
theorem put_step' (W : Nat) (hW : W = 1 ∨ W = 8 ∨ W = 16 ∨ W = 32 ∨ W = 64) (l : List Nat) (k : Nat) (hk : k < l.length) (hl : fitAll W l (k + 1) = true) :
    putAt W l k (k * W / 64) < 2 ^ (k * W % 64) ∧ l.getD k 0 * 2 ^ (k * W % 64) + putAt W l k (k * W / 64) < 2 ^ 64 := by
  have hlen : (l.take (k + 1)).length = k + 1 := by rw [List.length_take]; omega
  have h := put_step W hW (l.take (k + 1)) (by rw [hlen]; unfold fitAll at *; rw [List.take_take, Nat.min_self]; exact hl) k (by omega)
  rw [putAt_take W l (k + 1) k _ (by omega)] at h
  have : (l.take (k + 1)).getD k 0 = l.getD k 0 := by
    simp only [List.getD, List.getElem?_take, if_pos (show k < k + 1 by omega)]
  rw [this] at h
  exact h
theorem fitAll_mono {W : Nat} {l : List Nat} {k : Nat} (hk : k < l.length) (h : ¬ l.getD k 0 < 2 ^ W) : fitAll W l l.length = false := by
  cases hf : fitAll W l l.length
  · rfl
  · exact absurd (fitAll_at hf k hk) h
theorem mul_turn (a p b c : Nat) : a * (p * (b * c)) = (b * (a * c)) * p := by rw [Nat.mul_left_comm a p, Nat.mul_comm p, Nat.mul_left_comm a b]
theorem getN_putN (W : Nat) (hW : W = 1 ∨ W = 8 ∨ W = 16 ∨ W = 32 ∨ W = 64) (l : List Nat) (hl : fitAll W l l.length = true) (i : Nat) (hi : i < l.length) :
    ∀ k, i < k → k ≤ l.length → putAt W l k (i * W / 64) / 2 ^ (i * W % 64) % 2 ^ W = l.getD i 0 := by
  intro k
  induction k with
  | zero => intro h; omega
  | succ k ih =>
    intro hk hkl
    have hp := Nat.two_pow_pos (i * W % 64)
    by_cases he : i = k
    · subst he
      have h1 := (put_step W hW l hl i hi).1
      have h2 := fitAll_at hl i hi
      simp only [putAt, if_true]
      rw [Nat.add_mul_div_right _ _ hp, Nat.div_eq_of_lt h1, Nat.zero_add, Nat.mod_eq_of_lt h2]
    · have ih' := ih (by omega) (by omega)
      simp only [putAt]
      by_cases hj : k * W / 64 = i * W / 64
      · rw [if_pos hj]
        have hm : (i + 1) * W ≤ k * W := Nat.mul_le_mul_right _ (by omega)
        rw [Nat.succ_mul] at hm
        have ht : k * W % 64 = i * W % 64 + (W + (k * W % 64 - i * W % 64 - W)) := by omega
        generalize k * W % 64 - i * W % 64 - W = z at ht
        rw [ht, Nat.pow_add, Nat.pow_add, show l.getD k 0 * (2 ^ (i * W % 64) * (2 ^ W * 2 ^ z)) = (2 ^ W * (l.getD k 0 * 2 ^ z)) * 2 ^ (i * W % 64) from mul_turn _ _ _ _, Nat.add_mul_div_right _ _ hp, Nat.add_mul_mod_self_left]
        exact ih'
      · rw [if_neg hj, Nat.add_zero]; exact ih'
theorem roomN_lt {W i n : Nat} (hW : W = 1 ∨ W = 8 ∨ W = 16 ∨ W = 32 ∨ W = 64) (hi : i < n) : i * W / 64 < roomN W n := by
  have : (i + 1) * W ≤ n * W := Nat.mul_le_mul_right _ (by omega)
  rw [Nat.succ_mul] at this
  unfold roomN
  rcases hW with rfl | rfl | rfl | rfl | rfl <;> omega
theorem get_put (W : Nat) (hW : W = 1 ∨ W = 8 ∨ W = 16 ∨ W = 32 ∨ W = 64) (l : List Nat) (hl : fitAll W l l.length = true) (i : Nat) (hi : i < l.length) : getN W (putN W l) i = l.getD i 0 := by
  have h := getN_putN W hW l hl i hi l.length hi (Nat.le_refl _)
  unfold getN
  have e : (putN W l).getD (i * W / 64) 0 = putAt W l l.length (i * W / 64) := by
    unfold putN
    rw [getD_lt (by rw [List.length_map, List.length_range]; exact roomN_lt hW hi)]
    simp
  rw [e]; exact h

end Go.Proofs.Ytcpapdjjeinpmaa
