/- Plain facts on this seat's mirrors (part BPw); each theorem bears its own conditions. -/
import Derived.Test.YtjeolggpgclgkaaBD
import Derived.Test.YtjeolggpgclgkaaBE
import Derived.IntWalk
namespace Go.Proofs.Ytjeolggpgclgkaa
open Go.RowKit
set_option linter.unusedVariables false
set_option linter.unusedSimpArgs false
theorem pow256 (k : Nat) : 256 ^ k = 2 ^ (8 * k) := by rw [Nat.pow_mul]
def wideN (m : Nat) : Nat → Nat
  | 0 => 0
  | k + 1 => wideN m k + (if m / 2 ^ k % 2 = 1 then 255 * 256 ^ k else 0)
theorem wideN_lt (m : Nat) : ∀ k, wideN m k < 256 ^ k
  | 0 => by simp [wideN]
  | k + 1 => by
    have := wideN_lt m k
    have h : 256 ^ (k + 1) = 256 * 256 ^ k := by rw [Nat.pow_succ, Nat.mul_comm]
    simp only [wideN]
    split <;> omega
theorem pow256_le {k : Nat} (hk : k < 8) : 256 ^ (k + 1) ≤ 2 ^ 64 := by
  rw [pow256]; exact Nat.pow_le_pow_right (by decide) (by omega)
def bitB (m i : Nat) : Bool := decide (m / 2 ^ i % 2 = 1)
theorem bitB_t {m i : Nat} (h : bitB m i = true) : m / 2 ^ i % 2 = 1 := of_decide_eq_true h
theorem bitB_f {m i : Nat} (h : bitB m i = false) : ¬ m / 2 ^ i % 2 = 1 := of_decide_eq_false h
theorem div_pow_succ (m k : Nat) : m / 2 ^ k / 2 = m / 2 ^ (k + 1) := by rw [Nat.div_div_eq_div_mul, Nat.pow_succ]
theorem beq_mod2 (q : Nat) : ((q : Int) % 2 == 1) = decide (q % 2 = 1) := by rw [Bool.eq_iff_iff]; simp; omega
/-- a word of bytes f 0, f 1, .. -/
def bySum (f : Nat → Nat) : Nat → Nat
  | 0 => 0
  | k + 1 => 2 ^ (8 * k) * f k + bySum f k
theorem bySum_lt (f : Nat → Nat) (hf : ∀ k, f k < 256) : ∀ k, bySum f k < 2 ^ (8 * k)
  | 0 => by simp [bySum]
  | k + 1 => by
    have h1 := bySum_lt f hf k
    have h2 := hf k
    have h3 : 2 ^ (8 * (k + 1)) = 2 ^ (8 * k) * 256 := by rw [Nat.mul_add, Nat.pow_add]
    have h4 : 2 ^ (8 * k) * f k ≤ 2 ^ (8 * k) * 255 := Nat.mul_le_mul_left _ (by omega)
    simp only [bySum]
    omega
theorem bySum_bit (f : Nat → Nat) (hf : ∀ k, f k < 256) (i : Nat) : ∀ k, Nat.testBit (bySum f k) i = (decide (i < 8 * k) && Nat.testBit (f (i / 8)) (i % 8))
  | 0 => by simp [bySum]
  | k + 1 => by
    have h := bySum_bit f hf i k
    simp only [bySum]
    rw [Nat.testBit_two_pow_mul_add _ (bySum_lt f hf k)]
    by_cases h1 : i < 8 * k
    · rw [if_pos h1, h]
      simp [h1, show i < 8 * (k + 1) by omega]
    · rw [if_neg h1]
      by_cases h2 : i < 8 * (k + 1)
      · have h3 : i / 8 = k := by omega
        have h4 : i - 8 * k = i % 8 := by omega
        rw [h3, h4]
        simp [h2]
      · have h5 : f k < 2 ^ (i - 8 * k) := Nat.lt_of_lt_of_le (hf k) (Nat.pow_le_pow_right (n := 2) (by decide) (show 8 ≤ i - 8 * k by omega))
        rw [Nat.testBit_lt_two_pow h5]
        simp [h2]
def byteN (n k : Nat) : Nat := n / 256 ^ k % 256
theorem byteN_lt (n k : Nat) : byteN n k < 256 := Nat.mod_lt _ (by decide)
theorem byteN_bit (n k j : Nat) (hj : j < 8) : Nat.testBit (byteN n k) j = Nat.testBit n (8 * k + j) := by
  unfold byteN
  rw [pow256, show (256 : Nat) = 2 ^ 8 from rfl, Nat.testBit_mod_two_pow, Nat.testBit_div_two_pow]
  simp [hj, Nat.add_comm]
theorem sum_bytes (n : Nat) (h : n < 2 ^ 64) : bySum (byteN n) 8 = n := by
  refine Nat.eq_of_testBit_eq fun i => ?_
  rw [bySum_bit _ (byteN_lt n)]
  by_cases hi : i < 64
  · rw [byteN_bit _ _ _ (Nat.mod_lt _ (by decide))]
    simp [hi, show 8 * (i / 8) + i % 8 = i by omega]
  · rw [Nat.testBit_lt_two_pow (Nat.lt_of_lt_of_le h (Nat.pow_le_pow_right (by decide) (by omega)))]
    simp [hi]
/-- two words mixed by a mask of bytes -/
def mixF (a b m k : Nat) : Nat := if bitB m k then byteN b k else byteN a k
theorem mixF_lt (a b m k : Nat) : mixF a b m k < 256 := by unfold mixF; split <;> exact byteN_lt _ _
def mixN (a b m : Nat) : Nat := bySum (mixF a b m) 8
def wideF (m k : Nat) : Nat := if bitB m k then 255 else 0
theorem wideF_lt (m k : Nat) : wideF m k < 256 := by unfold wideF; split <;> decide
theorem wideN_sum (m : Nat) : ∀ k, wideN m k = bySum (wideF m) k
  | 0 => rfl
  | k + 1 => by
    simp only [wideN, bySum, wideN_sum m k, wideF, bitB, decide_eq_true_eq]
    rw [pow256]
    split <;> omega
theorem bit255 (j : Nat) (hj : j < 8) : Nat.testBit 255 j = true := by
  rw [show (255 : Nat) = 2 ^ 8 - 1 from rfl, Nat.testBit_two_pow_sub_one]; simp [hj]
theorem wideN_bit (m i : Nat) (hi : i < 64) : Nat.testBit (wideN m 8) i = bitB m (i / 8) := by
  rw [wideN_sum, bySum_bit _ (wideF_lt m)]
  unfold wideF
  have := bit255 (i % 8) (Nat.mod_lt _ (by decide))
  cases bitB m (i / 8) <;> simp [hi, this]
theorem wideN_lt64 (m : Nat) : wideN m 8 < 2 ^ 64 := by rw [wideN_sum]; exact bySum_lt _ (wideF_lt m) 8
theorem mix_bits (a b m : Nat) (ha : a < 2 ^ 64) (hb : b < 2 ^ 64) : (a &&& (18446744073709551615 - wideN m 8)) ||| (b &&& wideN m 8) = mixN a b m := by
  refine Nat.eq_of_testBit_eq fun i => ?_
  unfold mixN
  rw [bySum_bit _ (mixF_lt a b m), Nat.testBit_or, Nat.testBit_and, Nat.testBit_and, show (18446744073709551615 - wideN m 8) = 2 ^ 64 - (wideN m 8 + 1) by have := wideN_lt64 m; omega, Nat.testBit_two_pow_sub_succ (wideN_lt64 m)]
  by_cases hi : i < 64
  · have h := wideN_bit m i hi
    have hs : 8 * (i / 8) + i % 8 = i := by omega
    have hj : i % 8 < 8 := Nat.mod_lt _ (by decide)
    rw [h]
    unfold mixF
    cases bitB m (i / 8) <;> simp [hi, byteN_bit _ _ _ hj, hs]
  · have h1 : ∀ n, n < 2 ^ 64 → Nat.testBit n i = false := fun n hn => Nat.testBit_lt_two_pow (Nat.lt_of_lt_of_le hn (Nat.pow_le_pow_right (by decide) (by omega)))
    simp [h1 a ha, h1 b hb, hi]
theorem mixN_congr (f : Nat → Nat) (g : Nat → Nat) : ∀ n, (∀ k, k < n → f k = g k) → bySum f n = bySum g n
  | 0, _ => rfl
  | n + 1, h => by simp only [bySum]; rw [h n (by omega), mixN_congr f g n fun k hk => h k (by omega)]
theorem tdiv256 (q : Nat) : Int.tdiv (q : Int) 256 = ((q / 256 : Nat) : Int) := by rw [Int.tdiv_eq_ediv_of_nonneg (Int.natCast_nonneg _)]; omega
theorem tdiv2 (q : Nat) : Int.tdiv (q : Int) 2 = ((q / 2 : Nat) : Int) := by rw [Int.tdiv_eq_ediv_of_nonneg (Int.natCast_nonneg _)]; omega
theorem tmod256 (q : Nat) : IntKind.u8.wrap (Int.tmod (q : Int) 256) = ((q % 256 : Nat) : Int) := by rw [Int.tmod_eq_emod_of_nonneg (Int.natCast_nonneg _), IntKind.wrap_u8']; omega
theorem u64n (q : Nat) (h : q < 18446744073709551616) : IntKind.u64.wrap (q : Int) = (q : Int) := u64w (by omega)
theorem u8n (q : Nat) (h : q < 256) : IntKind.u8.wrap (q : Int) = (q : Int) := by rw [IntKind.wrap_u8']; omega
theorem lt8 {k : Nat} (h : k < 8) : k = 0 ∨ k = 1 ∨ k = 2 ∨ k = 3 ∨ k = 4 ∨ k = 5 ∨ k = 6 ∨ k = 7 := by omega
theorem bit_cond (m k : Nat) (hm : m < 256) (hk : k < 8) : (IntKind.u8.wrap (landI .u8 (Int.fdiv (m : Int) (2 ^ min (Int.toNat (k : Int)) 8)) 1) == 1) = bitB m k := by
  have e1 : Int.fdiv (m : Int) (2 ^ min (Int.toNat (k : Int)) 8) = ((m / 2 ^ k : Nat) : Int) := by
    rw [Int.toNat_natCast, Nat.min_eq_left (by omega), Int.fdiv_eq_ediv_of_nonneg _ (Int.le_of_lt (Int.pow_pos (by decide)))]
    simp only [Int.natCast_ediv, Int.natCast_pow]
    rfl
  have hq : m / 2 ^ k < 256 := Nat.lt_of_le_of_lt (Nat.div_le_self _ _) hm
  have e2 := land_nat .u8 (m / 2 ^ k) 1 (by simpa [IntKind.bits] using hq) (by simp [IntKind.bits])
  have e3 : (m / 2 ^ k) &&& 1 = m / 2 ^ k % 2 := Nat.and_one_is_mod _
  have e4 : ((1 : Nat) : Int) = 1 := rfl
  rw [e4] at e2
  rw [e1, e2, e3, IntKind.wrap_u8']
  unfold bitB
  rw [Bool.eq_iff_iff, beq_iff_eq, decide_eq_true_eq]
  omega
theorem or_add {a b i : Nat} (ha : a < 2 ^ i) (hb : b % 2 ^ i = 0) : a ||| b = a + b := by
  obtain ⟨q, rfl⟩ : ∃ q, b = 2 ^ i * q := ⟨b / 2 ^ i, by have := Nat.div_add_mod b (2 ^ i); omega⟩
  rw [Nat.or_comm, Nat.add_comm, Nat.two_pow_add_eq_or_of_lt ha]
theorem wide_or (m k : Nat) (hk : k < 8) : IntKind.u64.wrap (lorI .u64 (wideN m k : Nat) (IntKind.u64.wrap (255 * 2 ^ min (Int.toNat (IntKind.i64.wrap (8 * (k : Int)))) 64))) = ((wideN m k + 255 * 256 ^ k : Nat) : Int) := by
  have h1 := wideN_lt m k
  have h2 := pow256_le hk
  have h3 : 256 ^ (k + 1) = 256 * 256 ^ k := by rw [Nat.pow_succ, Nat.mul_comm]
  have e0 : (IntKind.i64.wrap (8 * (k : Int))).toNat = 8 * k := by rw [i64w (by omega)]; omega
  have e : (255 * 2 ^ (8 * k) : Int) = ((255 * 256 ^ k : Nat) : Int) := by rw [pow256]; simp only [Int.natCast_mul, Int.natCast_pow]; rfl
  have e2 : wideN m k ||| 255 * 256 ^ k = wideN m k + 255 * 256 ^ k := or_add (i := 8 * k) (by rw [← pow256]; exact h1) (by rw [← pow256]; exact Nat.mul_mod_left _ _)
  rw [e0, Nat.min_eq_left (by omega), e, u64n (255 * 256 ^ k) (by omega), lor64 _ _ (by omega) (by omega), e2, u64n _ (by omega)]
theorem wide_loop (m : Nat) (hm : m < 256) : ∀ j i : Nat, i + j = 8 → runLoop (m_word_Wide_L0 (m : Int)) (((wideN m i : Nat) : Int), (i : Int)) = some ((wideN m 8 : Nat) : Int)
  | 0, i, h => by
    obtain rfl : i = 8 := by omega
    exact runLoop_end rfl
  | j + 1, i, h => by
    have hs : m_word_Wide_L0 (m : Int) (((wideN m i : Nat) : Int), (i : Int)) = some (.inl (((wideN m (i + 1) : Nat) : Int), ((i + 1 : Nat) : Int))) := by
      unfold m_word_Wide_L0
      have e : decide ((i : Int) < 8) = true := by rw [decide_eq_true_eq]; omega
      simp only
      rw [e, cond_true, guardI_ok (by omega), Option.bind_some, bit_cond m i hm (by omega), i64w (x := (i : Int) + 1) (by omega)]
      have hw : wideN m (i + 1) = wideN m i + (if m / 2 ^ i % 2 = 1 then 255 * 256 ^ i else 0) := rfl
      cases hb : bitB m i with
      | true =>
        rw [cond_true, guardI_ok (by rw [i64w (by omega)]; omega), Option.bind_some, wide_or m i (by omega), hw, if_pos (bitB_t hb)]
        rfl
      | false =>
        rw [cond_false, hw, if_neg (bitB_f hb)]
        rfl
    rw [runLoop_step hs]
    exact wide_loop m hm j (i + 1) (by omega)
theorem wide_ok (m : Nat) (hm : m < 256) : m_word_Wide (m : Int) = some ((wideN m 8 : Nat) : Int) := by
  unfold m_word_Wide
  have := wide_loop m hm 8 0 rfl
  rw [show ((wideN m 0 : Nat) : Int) = 0 from rfl, show ((0 : Nat) : Int) = 0 from rfl] at this
  rw [this]
  rfl
/-- eight bytes -/
def ofF (f : Nat → Nat) : Arr Int 8 := ⟨[(f 0 : Nat), (f 1 : Nat), (f 2 : Nat), (f 3 : Nat), (f 4 : Nat), (f 5 : Nat), (f 6 : Nat), (f 7 : Nat)], rfl⟩
theorem ofF_get (f : Nat → Nat) (k : Nat) (hk : k < 8) : getI (ofF f).1 (k : Int) = some ((f k : Nat) : Int) := by
  rcases lt8 hk with rfl | rfl | rfl | rfl | rfl | rfl | rfl | rfl <;> rfl
theorem ofF_put (f : Nat → Nat) (k v : Nat) (hk : k < 8) : Arr.put (ofF f) (k : Int) (v : Int) = ofF (fun i => if i = k then v else f i) := by
  rcases lt8 hk with rfl | rfl | rfl | rfl | rfl | rfl | rfl | rfl <;> rfl
theorem ofF_congr {f g : Nat → Nat} (h : ∀ k, k < 8 → f k = g k) : ofF f = ofF g := by
  unfold ofF
  simp only [h 0 (by decide), h 1 (by decide), h 2 (by decide), h 3 (by decide), h 4 (by decide), h 5 (by decide), h 6 (by decide), h 7 (by decide)]
theorem bytes_loop (n : Nat) (hn : n < 18446744073709551616) : ∀ j i : Nat, i + j = 8 → runLoop m_centoref01_Bytes_L0 (((n / 256 ^ i : Nat) : Int), (i : Int), ofF (fun q => if q < i then byteN n q else 0)) = some (ofF (byteN n))
  | 0, i, h => by
    obtain rfl : i = 8 := by omega
    refine (runLoop_end (r := ofF (fun q => if q < 8 then byteN n q else 0)) rfl).trans ?_
    rw [ofF_congr (g := byteN n) fun k hk => if_pos hk]
  | j + 1, i, h => by
    have hs : m_centoref01_Bytes_L0 (((n / 256 ^ i : Nat) : Int), (i : Int), ofF (fun q => if q < i then byteN n q else 0)) = some (.inl (((n / 256 ^ (i + 1) : Nat) : Int), ((i + 1 : Nat) : Int), ofF (fun q => if q < i + 1 then byteN n q else 0))) := by
      unfold m_centoref01_Bytes_L0
      have e : decide ((i : Int) < 8) = true := by rw [decide_eq_true_eq]; omega
      simp only
      have q1 : n / 256 ^ i ≤ n := Nat.div_le_self _ _
      have q2 : n / 256 ^ i / 256 = n / 256 ^ (i + 1) := by rw [Nat.div_div_eq_div_mul, Nat.pow_succ]
      have q3 : Int.tdiv ((n / 256 ^ i : Nat) : Int) 256 = ((n / 256 ^ (i + 1) : Nat) : Int) := by rw [← q2, tdiv256]
      have q4 : IntKind.u8.wrap (Int.tmod ((n / 256 ^ i : Nat) : Int) 256) = ((byteN n i : Nat) : Int) := by
        rw [tmod256]
        rfl
      have q5 : n / 256 ^ (i + 1) ≤ n := Nat.div_le_self _ _
      rw [e, cond_true, ofF_get _ _ (by omega), Option.bind_some, q3, q4, u64n _ (Nat.lt_of_le_of_lt q5 hn), i64w (x := (i : Int) + 1) (by omega), ofF_put _ _ _ (by omega)]
      have e5 : (fun q => if q = i then byteN n i else if q < i then byteN n q else 0) = fun q => if q < i + 1 then byteN n q else 0 := by
        funext q
        by_cases h1 : q = i
        · rw [if_pos h1, if_pos (by omega), h1]
        · rw [if_neg h1]
          by_cases h2 : q < i
          · rw [if_pos h2, if_pos (by omega)]
          · rw [if_neg h2, if_neg (by omega)]
      rw [e5]
      rfl
    rw [runLoop_step hs]
    exact bytes_loop n hn j (i + 1) (by omega)
theorem bytes_ok (n : Nat) (hn : n < 18446744073709551616) : m_centoref01_Bytes (n : Int) = some (ofF (byteN n)) := by
  unfold m_centoref01_Bytes
  have h := bytes_loop n hn 8 0 rfl
  have e : ofF (fun q => if q < 0 then byteN n q else 0) = ⟨[0, 0, 0, 0, 0, 0, 0, 0], rfl⟩ := rfl
  rw [e, Nat.pow_zero, Nat.div_one, show ((0 : Nat) : Int) = 0 from rfl] at h
  rw [Option.bind_some, Option.bind_some, h]
  rfl
theorem named_loop (m n : Nat) (hm : m < 256) (hn : n ≤ 8) : ∀ j i : Nat, i + j = n → runLoop (m_centoref01_Named_L0 (n : Int)) (((m / 2 ^ i : Nat) : Int), (i : Int)) = some ((m / 2 ^ n : Nat) : Int)
  | 0, i, h => by
    obtain rfl : i = n := by omega
    refine runLoop_end ?_
    unfold m_centoref01_Named_L0
    have e : decide ((i : Int) < (i : Int)) = false := by rw [decide_eq_false_iff_not]; omega
    simp only
    rw [e, cond_false]
  | j + 1, i, h => by
    have hs : m_centoref01_Named_L0 (n : Int) (((m / 2 ^ i : Nat) : Int), (i : Int)) = some (.inl (((m / 2 ^ (i + 1) : Nat) : Int), ((i + 1 : Nat) : Int))) := by
      unfold m_centoref01_Named_L0
      have e : decide ((i : Int) < (n : Int)) = true := by rw [decide_eq_true_eq]; omega
      have q1 : m / 2 ^ i ≤ m := Nat.div_le_self _ _
      have q2 : m / 2 ^ i / 2 = m / 2 ^ (i + 1) := by rw [Nat.div_div_eq_div_mul, Nat.pow_succ]
      have q5 : m / 2 ^ (i + 1) ≤ m := Nat.div_le_self _ _
      have q3 : Int.tdiv ((m / 2 ^ i : Nat) : Int) 2 = ((m / 2 ^ (i + 1) : Nat) : Int) := by rw [← q2, tdiv2]
      have q4 : IntKind.u8.wrap ((m / 2 ^ (i + 1) : Nat) : Int) = ((m / 2 ^ (i + 1) : Nat) : Int) := u8n _ (Nat.lt_of_le_of_lt q5 hm)
      simp only
      rw [e, cond_true, q3, q4, i64w (x := (i : Int) + 1) (by omega)]
      rfl
    rw [runLoop_step hs]
    exact named_loop m n hm hn j (i + 1) (by omega)
theorem named_ok (m n : Nat) (hm : m < 256) (hn : n ≤ 8) : m_centoref01_Named (m : Int) (n : Int) = some (bitB m n) := by
  unfold m_centoref01_Named
  have h := named_loop m n hm hn n 0 (by omega)
  rw [Nat.pow_zero, Nat.div_one, show ((0 : Nat) : Int) = 0 from rfl] at h
  rw [h, Option.bind_some, Int.tmod_eq_emod_of_nonneg (Int.natCast_nonneg _), beq_mod2]
  rfl
theorem mix_loop (a b m : Nat) (hm : m < 256) : ∀ j i : Nat, i + j = 8 → runLoop (m_centoref01_Mix_L0 (m : Int) (ofF (byteN b))) ((i : Int), ofF (fun q => if q < i then mixF a b m q else byteN a q)) = some (ofF (mixF a b m))
  | 0, i, h => by
    obtain rfl : i = 8 := by omega
    refine (runLoop_end (r := ofF (fun q => if q < 8 then mixF a b m q else byteN a q)) rfl).trans ?_
    rw [ofF_congr (g := mixF a b m) fun k hk => if_pos hk]
  | j + 1, i, h => by
    have hs : m_centoref01_Mix_L0 (m : Int) (ofF (byteN b)) ((i : Int), ofF (fun q => if q < i then mixF a b m q else byteN a q)) = some (.inl (((i + 1 : Nat) : Int), ofF (fun q => if q < i + 1 then mixF a b m q else byteN a q))) := by
      unfold m_centoref01_Mix_L0
      have e : decide ((i : Int) < 8) = true := by rw [decide_eq_true_eq]; omega
      simp only
      rw [e, cond_true, named_ok m i hm (by omega), Option.bind_some, i64w (x := (i : Int) + 1) (by omega)]
      have hne : ∀ v, v = mixF a b m i → (fun q => if q = i then v else if q < i then mixF a b m q else byteN a q) = fun q => if q < i + 1 then mixF a b m q else byteN a q := fun v hv => by
        funext q
        by_cases h1 : q = i
        · rw [if_pos h1, if_pos (by omega), h1, hv]
        · rw [if_neg h1]
          by_cases h2 : q < i
          · rw [if_pos h2, if_pos (by omega)]
          · rw [if_neg h2, if_neg (by omega)]
      cases hb : bitB m i with
      | true =>
        rw [cond_true, ofF_get _ _ (by omega), Option.bind_some, ofF_get _ _ (by omega), Option.bind_some, Option.bind_some, ofF_put _ _ _ (by omega), hne _ (by unfold mixF; rw [hb, if_pos rfl])]
        rfl
      | false =>
        have e6 : (fun q => if q < i then mixF a b m q else byteN a q) = fun q => if q < i + 1 then mixF a b m q else byteN a q := by
          funext q
          by_cases h1 : q = i
          · rw [if_neg (by omega), if_pos (by omega), h1]
            unfold mixF
            rw [hb]
            rfl
          · by_cases h2 : q < i
            · rw [if_pos h2, if_pos (by omega)]
            · rw [if_neg h2, if_neg (by omega)]
        rw [cond_false, Option.bind_some, e6]
        rfl
    rw [runLoop_step hs]
    exact mix_loop a b m hm j (i + 1) (by omega)
/-- the bytes from the i-th on, as a number -/
def hiN (f : Nat → Nat) : Nat → Nat → Nat
  | _, 0 => 0
  | i, n + 1 => hiN f (i + 1) n * 256 + f i
theorem hiN_lt (f : Nat → Nat) (hf : ∀ k, f k < 256) : ∀ n i, hiN f i n < 256 ^ n
  | 0, _ => by simp [hiN]
  | n + 1, i => by
    have h1 := hiN_lt f hf n (i + 1)
    have h2 := hf i
    have h3 : 256 ^ (n + 1) = 256 * 256 ^ n := by rw [Nat.pow_succ, Nat.mul_comm]
    simp only [hiN]
    omega
theorem hiN_sum (f : Nat → Nat) : hiN f 0 8 = bySum f 8 := by simp only [hiN, bySum, Nat.reduceMul, Nat.reducePow, Nat.reduceAdd]; omega
theorem of_loop (f : Nat → Nat) (hf : ∀ k, f k < 256) : ∀ i n : Nat, i + n = 8 → runLoop (m_centoref01_Of_L0 (ofF f).1 0) (((hiN f i n : Nat) : Int), (i : Int) - 1) = some ((hiN f 0 8 : Nat) : Int)
  | 0, n, h => by
    obtain rfl : n = 8 := by omega
    exact runLoop_end rfl
  | i + 1, n, h => by
    have hs : m_centoref01_Of_L0 (ofF f).1 0 (((hiN f (i + 1) n : Nat) : Int), ((i + 1 : Nat) : Int) - 1) = some (.inl (((hiN f i (n + 1) : Nat) : Int), (i : Int) - 1)) := by
      unfold m_centoref01_Of_L0
      have e0 : ((i + 1 : Nat) : Int) - 1 = (i : Int) := by omega
      have e : decide (0 ≤ (i : Int)) = true := by rw [decide_eq_true_eq]; omega
      have h1 := hiN_lt f hf n (i + 1)
      have h2 := hf i
      have h3 : 256 ^ n ≤ 256 ^ 7 := Nat.pow_le_pow_right (by decide) (by omega)
      have h4 : (256 : Nat) ^ 7 = 72057594037927936 := by decide
      simp only
      rw [e0, e, cond_true, Int.zero_add, i64w (x := (i : Int)) (by omega), ofF_get _ _ (by omega), Option.bind_some, u64w (x := ((hiN f (i + 1) n : Nat) : Int) * 256) (by omega), u64w (x := ((f i : Nat) : Int)) (by omega), u64w (by omega), i64w (by omega)]
      have e7 : ((hiN f (i + 1) n : Nat) : Int) * 256 + ((f i : Nat) : Int) = ((hiN f i (n + 1) : Nat) : Int) := by simp only [hiN]; omega
      rw [e7]
    rw [runLoop_step hs]
    exact of_loop f hf i (n + 1) (by omega)
theorem mix_ok (a b m : Nat) (ha : a < 18446744073709551616) (hb : b < 18446744073709551616) (hm : m < 256) : m_centoref01_Mix (a : Int) (b : Int) (m : Int) = some ((mixN a b m : Nat) : Int) := by
  unfold m_centoref01_Mix
  have h := mix_loop a b m hm 8 0 rfl
  have e : ofF (fun q => if q < 0 then mixF a b m q else byteN a q) = ofF (byteN a) := rfl
  rw [e, show ((0 : Nat) : Int) = 0 from rfl] at h
  have h2 := of_loop (mixF a b m) (mixF_lt a b m) 8 0 rfl
  rw [hiN_sum, show ((8 : Nat) : Int) - 1 = 7 from rfl, show ((hiN (mixF a b m) 8 0 : Nat) : Int) = 0 from rfl] at h2
  rw [bytes_ok a ha, Option.bind_some, bytes_ok b hb, Option.bind_some, Option.bind_some, h, Option.bind_some]
  unfold m_centoref01_Of
  rw [h2]
  rfl
/-- does a word stay within a mask's bytes? -/
def wi (x m : Int) : Bool := mixN x.toNat 0 m.toNat == 0
theorem within_ok {x m : Int} (h0 : 0 ≤ x) (h1 : x < 18446744073709551616) (m0 : 0 ≤ m) (m1 : m < 256) : m_centoref20_within x m = some (wi x m) := by
  obtain ⟨a, rfl⟩ := Int.eq_ofNat_of_zero_le h0
  obtain ⟨k, rfl⟩ := Int.eq_ofNat_of_zero_le m0
  unfold m_centoref20_within wi
  rw [show (0 : Int) = ((0 : Nat) : Int) from rfl, mix_ok a 0 k (by omega) (by decide) (by omega), Option.bind_some]
  congr 1
  rw [Bool.eq_iff_iff, beq_iff_eq, beq_iff_eq]
  simp only [Int.toNat_natCast]
  omega
theorem outside_ok {x m : Int} (h0 : 0 ≤ x) (h1 : x < 18446744073709551616) (m0 : 0 ≤ m) (m1 : m < 256) : (IntKind.u64.wrap (landI .u64 x (IntKind.u64.wrap (lxorI .u64 (if IntKind.signed .u64 = true then -1 else IntKind.max .u64) ((wideN m.toNat 8 : Nat) : Int)))) != 0) = !(wi x m) := by
  obtain ⟨a, rfl⟩ := Int.eq_ofNat_of_zero_le h0
  obtain ⟨k, rfl⟩ := Int.eq_ofNat_of_zero_le m0
  have hw := wideN_lt64 k
  have e0 : (if IntKind.signed .u64 = true then -1 else IntKind.max .u64) = ((18446744073709551615 : Nat) : Int) := by decide
  have e1 : 18446744073709551615 ^^^ wideN k 8 = 18446744073709551615 - wideN k 8 := by
    refine Nat.eq_of_testBit_eq fun i => ?_
    rw [Nat.testBit_xor, show (18446744073709551615 - wideN k 8) = 2 ^ 64 - (wideN k 8 + 1) by omega, Nat.testBit_two_pow_sub_succ hw, show (18446744073709551615 : Nat) = 2 ^ 64 - 1 from rfl, Nat.testBit_two_pow_sub_one]
    by_cases hi : i < 64
    · simp [hi]
    · rw [Nat.testBit_lt_two_pow (Nat.lt_of_lt_of_le hw (Nat.pow_le_pow_right (by decide) (by omega)))]
      simp [hi]
  have e2 := mix_bits a 0 k (by omega) (by decide)
  rw [Nat.zero_and, Nat.or_zero] at e2
  have e3 : a &&& (18446744073709551615 - wideN k 8) ≤ a := Nat.and_le_left
  unfold wi
  simp only [Int.toNat_natCast]
  rw [e0, lxor64 _ _ (by decide) (by omega), e1, u64n (18446744073709551615 - wideN k 8) (by omega), land64 _ _ (by omega) (by omega), u64n _ (by omega), e2, bne]
  congr 1
  rw [Bool.eq_iff_iff, beq_iff_eq, beq_iff_eq]
  omega

end Go.Proofs.Ytjeolggpgclgkaa
