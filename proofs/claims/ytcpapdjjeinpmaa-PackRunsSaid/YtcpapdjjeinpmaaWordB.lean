/- Lemmas and contracts used by the proofs of this seat's laws (part WordB); each theorem bears its own conditions. -/
import Derived.Test.YtcpapdjjeinpmaaRows
import Derived.WalkKit
import Derived.WalkSpells
import Derived.WalkLawsBesides
import Derived.Test.YtcpapdjjeinpmaaNum
import Derived.Lib.Hide
import Derived.BigQuiet
import Derived.Deep.QuietTactic
namespace Go.Proofs.Ytcpapdjjeinpmaa
open Go.RowKit
set_option linter.unusedVariables false

theorem wrap_div {n : Nat} (h : W64 n) {d : Int} (hd : 0 < d) : IntKind.u64.wrap ((n : Int) / d) = (n : Int) / d := by
  unfold W64 at h
  have h1 : 0 ≤ (n : Int) / d := Int.ediv_nonneg (by omega) (by omega)
  have h2 : (n : Int) / d ≤ n := Int.ediv_le_self _ (by omega)
  exact IntWalk.u64_in _ ⟨h1, by omega⟩

theorem tdiv_256 (n : Nat) (d : Int) (hd : 0 < d) : ((n : Int) / d).tdiv 256 = (n : Int) / (d * 256) := by
  rw [Int.tdiv_eq_ediv_of_nonneg (Int.ediv_nonneg (by omega) (by omega)), Int.ediv_ediv_of_nonneg (by omega)]
theorem tmod_256 (n : Nat) (d : Int) (hd : 0 < d) : ((n : Int) / d).tmod 256 = (n : Int) / d % 256 := by
  rw [Int.tmod_eq_emod_of_nonneg (Int.ediv_nonneg (by omega) (by omega))]

/-- a word's bytes, the lowest one first -/
def Bytes8 (n : Nat) (v : Value) : Prop := v = .agg #[.int .u8 ((n : Int) % 256), .int .u8 ((n : Int) / 256 % 256), .int .u8 ((n : Int) / 65536 % 256), .int .u8 ((n : Int) / 16777216 % 256), .int .u8 ((n : Int) / 4294967296 % 256), .int .u8 ((n : Int) / 1099511627776 % 256), .int .u8 ((n : Int) / 281474976710656 % 256), .int .u8 ((n : Int) / 72057594037927936 % 256)]

set_option maxHeartbeats 4000000 in
theorem bytes_any (n : Nat) (w : World) :
    Calls Try.prog 19 #[.int .u64 n] w fun e w' => e = .returned (.agg #[.int .u8 ((n : Int) % 256), .int .u8 ((n : Int) / 256 % 256), .int .u8 ((n : Int) / 65536 % 256), .int .u8 ((n : Int) / 16777216 % 256), .int .u8 ((n : Int) / 4294967296 % 256), .int .u8 ((n : Int) / 1099511627776 % 256), .int .u8 ((n : Int) / 281474976710656 % 256), .int .u8 ((n : Int) / 72057594037927936 % 256)]) ∧ Below w.heap.size w w' := by
  go_enter Try.func19, Try.ntmps19
  go_wp2
  refine wp_loop_rounds 9 ?_
  iterate 9 (rw [rounds_succ]; go_wp2)
  exact bodyPost_ret (v := .agg #[.int .u8 ((n : Int) % 256), .int .u8 ((n : Int) / 256 % 256), .int .u8 ((n : Int) / 65536 % 256), .int .u8 ((n : Int) / 16777216 % 256), .int .u8 ((n : Int) / 4294967296 % 256), .int .u8 ((n : Int) / 1099511627776 % 256), .int .u8 ((n : Int) / 281474976710656 % 256), .int .u8 ((n : Int) / 72057594037927936 % 256)]) (by simp [results, Try.results19, go_sem]) rfl ⟨rfl, ((Below.refl _ _).alloc (Nat.le_refl _) _).alloc (by simp) _⟩

set_option maxHeartbeats 4000000 in
theorem rbytes_any (n : Nat) (w : World) (hn : W64 n) :
    Calls Try.prog 20 #[.int .u64 n] w fun e w' => e = .returned (.agg #[.int .u8 ((n : Int) % 256), .int .u8 ((n : Int) / 256 % 256), .int .u8 ((n : Int) / 65536 % 256), .int .u8 ((n : Int) / 16777216 % 256), .int .u8 ((n : Int) / 4294967296 % 256), .int .u8 ((n : Int) / 1099511627776 % 256), .int .u8 ((n : Int) / 281474976710656 % 256), .int .u8 ((n : Int) / 72057594037927936 % 256)]) ∧ Below w.heap.size w w' := by
  have hq1 : ((n : Int) / 256).tdiv 256 = (n : Int) / 65536 := tdiv_256 n _ (by decide)
  have hr1 : ((n : Int) / 256).tmod 256 = (n : Int) / 256 % 256 := tmod_256 n _ (by decide)
  have hw1 : IntKind.u64.wrap ((n : Int) / 256) = (n : Int) / 256 := wrap_div hn (by decide)
  have hp1 : (0 : Int) ≤ (n : Int) / 256 := Int.ediv_nonneg (by omega) (by decide)
  have hq2 : ((n : Int) / 65536).tdiv 256 = (n : Int) / 16777216 := tdiv_256 n _ (by decide)
  have hr2 : ((n : Int) / 65536).tmod 256 = (n : Int) / 65536 % 256 := tmod_256 n _ (by decide)
  have hw2 : IntKind.u64.wrap ((n : Int) / 65536) = (n : Int) / 65536 := wrap_div hn (by decide)
  have hp2 : (0 : Int) ≤ (n : Int) / 65536 := Int.ediv_nonneg (by omega) (by decide)
  have hq3 : ((n : Int) / 16777216).tdiv 256 = (n : Int) / 4294967296 := tdiv_256 n _ (by decide)
  have hr3 : ((n : Int) / 16777216).tmod 256 = (n : Int) / 16777216 % 256 := tmod_256 n _ (by decide)
  have hw3 : IntKind.u64.wrap ((n : Int) / 16777216) = (n : Int) / 16777216 := wrap_div hn (by decide)
  have hp3 : (0 : Int) ≤ (n : Int) / 16777216 := Int.ediv_nonneg (by omega) (by decide)
  have hq4 : ((n : Int) / 4294967296).tdiv 256 = (n : Int) / 1099511627776 := tdiv_256 n _ (by decide)
  have hr4 : ((n : Int) / 4294967296).tmod 256 = (n : Int) / 4294967296 % 256 := tmod_256 n _ (by decide)
  have hw4 : IntKind.u64.wrap ((n : Int) / 4294967296) = (n : Int) / 4294967296 := wrap_div hn (by decide)
  have hp4 : (0 : Int) ≤ (n : Int) / 4294967296 := Int.ediv_nonneg (by omega) (by decide)
  have hq5 : ((n : Int) / 1099511627776).tdiv 256 = (n : Int) / 281474976710656 := tdiv_256 n _ (by decide)
  have hr5 : ((n : Int) / 1099511627776).tmod 256 = (n : Int) / 1099511627776 % 256 := tmod_256 n _ (by decide)
  have hw5 : IntKind.u64.wrap ((n : Int) / 1099511627776) = (n : Int) / 1099511627776 := wrap_div hn (by decide)
  have hp5 : (0 : Int) ≤ (n : Int) / 1099511627776 := Int.ediv_nonneg (by omega) (by decide)
  have hq6 : ((n : Int) / 281474976710656).tdiv 256 = (n : Int) / 72057594037927936 := tdiv_256 n _ (by decide)
  have hr6 : ((n : Int) / 281474976710656).tmod 256 = (n : Int) / 281474976710656 % 256 := tmod_256 n _ (by decide)
  have hw6 : IntKind.u64.wrap ((n : Int) / 281474976710656) = (n : Int) / 281474976710656 := wrap_div hn (by decide)
  have hp6 : (0 : Int) ≤ (n : Int) / 281474976710656 := Int.ediv_nonneg (by omega) (by decide)
  have hq7 : ((n : Int) / 72057594037927936).tdiv 256 = (n : Int) / 18446744073709551616 := tdiv_256 n _ (by decide)
  have hr7 : ((n : Int) / 72057594037927936).tmod 256 = (n : Int) / 72057594037927936 % 256 := tmod_256 n _ (by decide)
  have hw7 : IntKind.u64.wrap ((n : Int) / 72057594037927936) = (n : Int) / 72057594037927936 := wrap_div hn (by decide)
  have hp7 : (0 : Int) ≤ (n : Int) / 72057594037927936 := Int.ediv_nonneg (by omega) (by decide)
  have hq8 : ((n : Int) / 18446744073709551616).tdiv 256 = (n : Int) / 4722366482869645213696 := tdiv_256 n _ (by decide)
  have hr8 : ((n : Int) / 18446744073709551616).tmod 256 = (n : Int) / 18446744073709551616 % 256 := tmod_256 n _ (by decide)
  have hw8 : IntKind.u64.wrap ((n : Int) / 18446744073709551616) = (n : Int) / 18446744073709551616 := wrap_div hn (by decide)
  have hp8 : (0 : Int) ≤ (n : Int) / 18446744073709551616 := Int.ediv_nonneg (by omega) (by decide)
  clear hn
  go_enter Try.func20, Try.ntmps20
  go_wp2
  refine wp_loop_rounds 9 ?_
  iterate 9 (rw [rounds_succ]; go_wp2)
  exact bodyPost_ret (v := .agg #[.int .u8 ((n : Int) % 256), .int .u8 ((n : Int) / 256 % 256), .int .u8 ((n : Int) / 65536 % 256), .int .u8 ((n : Int) / 16777216 % 256), .int .u8 ((n : Int) / 4294967296 % 256), .int .u8 ((n : Int) / 1099511627776 % 256), .int .u8 ((n : Int) / 281474976710656 % 256), .int .u8 ((n : Int) / 72057594037927936 % 256)]) (by simp [results, Try.results20, go_sem]) rfl ⟨rfl, ((Below.refl _ _).alloc (Nat.le_refl _) _).alloc (by simp) _⟩

set_option maxHeartbeats 1000000 in
theorem wide_any (m : Nat) (w : World) (hm : m < 256) :
    Calls Try.prog 26 #[.int .u8 m] w fun e w' => e = .returned (.int .u64 (wideN m 8 : Nat)) ∧ w = w' := by
  go_enter Try.func26, Try.ntmps26
  go_wp2
  go_loop [3, 5] (fun v i => ∃ k : Nat, k ≤ 8 ∧ i = .int .i64 k ∧ v = .int .u64 (wideN m k : Nat)) (fun _ i => 8 - (intOf i).toNat)
  case atStart => exact ⟨0, by omega, rfl, rfl⟩
  case round =>
    obtain ⟨k, hk, rfl, rfl⟩ := hrel
    by_cases hlt : k < 8
    · have hb := bit8 m k hm
      have hs := wide_step m k hlt
      have HB := Lib.hid hb
      have HS := Lib.hid hs
      clear hb hs
      go_wp2
      · have ht : (bits BinOp.and IntKind.u8 (↑m / 2 ^ k) 1 == 1) = true := by assumption
        rw [HB.out] at ht
        have ht2 : m / 2 ^ k % 2 = 1 := beq_nat ht
        go_round
        case rel => exact ⟨k + 1, by omega, by go_num, by rw [HS.out]; simp only [wideN, if_pos ht2]⟩
        case measure => simp [intOf]; omega
      · have ht : (bits BinOp.and IntKind.u8 (↑m / 2 ^ k) 1 == 1) = false := by assumption
        rw [HB.out] at ht
        have ht2 : ¬ m / 2 ^ k % 2 = 1 := beq_nat' ht
        go_round
        case rel => exact ⟨k + 1, by omega, by go_num, by simp only [wideN, if_neg ht2]; rfl⟩
        case measure => simp [intOf]; omega
    · obtain rfl : k = 8 := by omega
      go_wp2
      go_ret
      exact ⟨rfl, rfl⟩

set_option maxHeartbeats 4000000 in
theorem of_any (b0 b1 b2 b3 b4 b5 b6 b7 : Int) (w : World) (h0 : 0 ≤ b0 ∧ b0 < 256) (h1 : 0 ≤ b1 ∧ b1 < 256) (h2 : 0 ≤ b2 ∧ b2 < 256) (h3 : 0 ≤ b3 ∧ b3 < 256) (h4 : 0 ≤ b4 ∧ b4 < 256) (h5 : 0 ≤ b5 ∧ b5 < 256) (h6 : 0 ≤ b6 ∧ b6 < 256) (h7 : 0 ≤ b7 ∧ b7 < 256) :
    Calls Try.prog 21 #[.agg #[.int .u8 b0, .int .u8 b1, .int .u8 b2, .int .u8 b3, .int .u8 b4, .int .u8 b5, .int .u8 b6, .int .u8 b7]] w fun e w' => e = .returned (.int .u64 (ofB b0 b1 b2 b3 b4 b5 b6 b7)) ∧ Below w.heap.size w w' := by
  go_enter Try.func21, Try.ntmps21
  go_wp2
  refine wp_loop_rounds 9 ?_
  iterate 9 (rw [rounds_succ]; go_wp2)
  go_ret
  exact ⟨ret_u64 (or_ofB b0 b1 b2 b3 b4 b5 b6 b7 h0 h1 h2 h3 h4 h5 h6 h7), (Below.refl _ _).alloc (Nat.le_refl _) _⟩

theorem idx8_0 (x0 x1 x2 x3 x4 x5 x6 x7 : Value) (w : World) : (Instr.index 32 (.agg #[x0, x1, x2, x3, x4, x5, x6, x7]) (.int .i64 0)).run Try.prog w = .ok x0 w := by kernel_rfl
theorem idx8_1 (x0 x1 x2 x3 x4 x5 x6 x7 : Value) (w : World) : (Instr.index 32 (.agg #[x0, x1, x2, x3, x4, x5, x6, x7]) (.int .i64 1)).run Try.prog w = .ok x1 w := by kernel_rfl
theorem idx8_2 (x0 x1 x2 x3 x4 x5 x6 x7 : Value) (w : World) : (Instr.index 32 (.agg #[x0, x1, x2, x3, x4, x5, x6, x7]) (.int .i64 2)).run Try.prog w = .ok x2 w := by kernel_rfl
theorem idx8_3 (x0 x1 x2 x3 x4 x5 x6 x7 : Value) (w : World) : (Instr.index 32 (.agg #[x0, x1, x2, x3, x4, x5, x6, x7]) (.int .i64 3)).run Try.prog w = .ok x3 w := by kernel_rfl
theorem idx8_4 (x0 x1 x2 x3 x4 x5 x6 x7 : Value) (w : World) : (Instr.index 32 (.agg #[x0, x1, x2, x3, x4, x5, x6, x7]) (.int .i64 4)).run Try.prog w = .ok x4 w := by kernel_rfl
theorem idx8_5 (x0 x1 x2 x3 x4 x5 x6 x7 : Value) (w : World) : (Instr.index 32 (.agg #[x0, x1, x2, x3, x4, x5, x6, x7]) (.int .i64 5)).run Try.prog w = .ok x5 w := by kernel_rfl
theorem idx8_6 (x0 x1 x2 x3 x4 x5 x6 x7 : Value) (w : World) : (Instr.index 32 (.agg #[x0, x1, x2, x3, x4, x5, x6, x7]) (.int .i64 6)).run Try.prog w = .ok x6 w := by kernel_rfl
theorem idx8_7 (x0 x1 x2 x3 x4 x5 x6 x7 : Value) (w : World) : (Instr.index 32 (.agg #[x0, x1, x2, x3, x4, x5, x6, x7]) (.int .i64 7)).run Try.prog w = .ok x7 w := by kernel_rfl
set_option maxHeartbeats 4000000 in
theorem unlike_any (a b : Nat) (w : World) (ha : W64 a) (hb : W64 b) :
    Calls Try.prog 22 #[.int .u64 a, .int .u64 b] w fun e w' => e = .returned (.int .u8 (unl a b 8 : Nat)) ∧ Below w.heap.size w w' := by
  go_enter Try.func22, Try.ntmps22
  have hx : bits .xor .u64 (a : Int) (b : Int) = ((a ^^^ b : Nat) : Int) := u64_xor_nat a b ha hb
  have hy : W64 (a ^^^ b) := Nat.xor_lt_two_pow (n := 64) ha hb
  go_wp2_with ((go_at_call 19; refine (bytes_any _ _).mono ?_; rintro e w' ⟨rfl, hw⟩))
  clear hx
  go_loop [5, 12] (fun v i => ∃ k : Nat, k ≤ 8 ∧ i = .int .i64 k ∧ v = .int .u8 (unl a b k : Nat)) (fun _ i => 8 - (intOf i).toNat)
  case atStart => exact ⟨0, by omega, rfl, rfl⟩
  case round =>
    obtain ⟨k, hk, rfl, rfl⟩ := hrel
    by_cases hlt : k < 8
    · have hc : k = 0 ∨ k = 1 ∨ k = 2 ∨ k = 3 ∨ k = 4 ∨ k = 5 ∨ k = 6 ∨ k = 7 := by omega
      rcases hc with rfl | rfl | rfl | rfl | rfl | rfl | rfl | rfl
      · have i0 := idx8_0
        have hs := un_step a b 0 (by decide)
        have HS := Lib.hid hs
        have hz := un_zero_0 a b
        have HZ := Lib.hid hz
        clear hs hz
        go_wp2
        all_goals
          first
          | (have ht : (((a ^^^ b : Nat) : Int) % 256 != 0) = false := by assumption
             go_round
             case rel => exact ⟨1, by decide, rfl, by rw [un_same (HZ.out.1 ht)]⟩
             case measure => simp [intOf])
          | (have ht : (((a ^^^ b : Nat) : Int) % 256 != 0) = true := by assumption
             go_round
             case rel => exact ⟨1, by decide, rfl, by rw [un_other (HZ.out.2 ht)]; exact congrArg (Value.int .u8) HS.out⟩
             case measure => simp [intOf])
      · have i0 := idx8_1
        have hs := un_step a b 1 (by decide)
        have HS := Lib.hid hs
        have hz := un_zero_1 a b
        have HZ := Lib.hid hz
        clear hs hz
        go_wp2
        all_goals
          first
          | (have ht : (((a ^^^ b : Nat) : Int) / 256 % 256 != 0) = false := by assumption
             go_round
             case rel => exact ⟨2, by decide, rfl, by rw [un_same (HZ.out.1 ht)]⟩
             case measure => simp [intOf])
          | (have ht : (((a ^^^ b : Nat) : Int) / 256 % 256 != 0) = true := by assumption
             go_round
             case rel => exact ⟨2, by decide, rfl, by rw [un_other (HZ.out.2 ht)]; exact congrArg (Value.int .u8) HS.out⟩
             case measure => simp [intOf])
      · have i0 := idx8_2
        have hs := un_step a b 2 (by decide)
        have HS := Lib.hid hs
        have hz := un_zero_2 a b
        have HZ := Lib.hid hz
        clear hs hz
        go_wp2
        all_goals
          first
          | (have ht : (((a ^^^ b : Nat) : Int) / 65536 % 256 != 0) = false := by assumption
             go_round
             case rel => exact ⟨3, by decide, rfl, by rw [un_same (HZ.out.1 ht)]⟩
             case measure => simp [intOf])
          | (have ht : (((a ^^^ b : Nat) : Int) / 65536 % 256 != 0) = true := by assumption
             go_round
             case rel => exact ⟨3, by decide, rfl, by rw [un_other (HZ.out.2 ht)]; exact congrArg (Value.int .u8) HS.out⟩
             case measure => simp [intOf])
      · have i0 := idx8_3
        have hs := un_step a b 3 (by decide)
        have HS := Lib.hid hs
        have hz := un_zero_3 a b
        have HZ := Lib.hid hz
        clear hs hz
        go_wp2
        all_goals
          first
          | (have ht : (((a ^^^ b : Nat) : Int) / 16777216 % 256 != 0) = false := by assumption
             go_round
             case rel => exact ⟨4, by decide, rfl, by rw [un_same (HZ.out.1 ht)]⟩
             case measure => simp [intOf])
          | (have ht : (((a ^^^ b : Nat) : Int) / 16777216 % 256 != 0) = true := by assumption
             go_round
             case rel => exact ⟨4, by decide, rfl, by rw [un_other (HZ.out.2 ht)]; exact congrArg (Value.int .u8) HS.out⟩
             case measure => simp [intOf])
      · have i0 := idx8_4
        have hs := un_step a b 4 (by decide)
        have HS := Lib.hid hs
        have hz := un_zero_4 a b
        have HZ := Lib.hid hz
        clear hs hz
        go_wp2
        all_goals
          first
          | (have ht : (((a ^^^ b : Nat) : Int) / 4294967296 % 256 != 0) = false := by assumption
             go_round
             case rel => exact ⟨5, by decide, rfl, by rw [un_same (HZ.out.1 ht)]⟩
             case measure => simp [intOf])
          | (have ht : (((a ^^^ b : Nat) : Int) / 4294967296 % 256 != 0) = true := by assumption
             go_round
             case rel => exact ⟨5, by decide, rfl, by rw [un_other (HZ.out.2 ht)]; exact congrArg (Value.int .u8) HS.out⟩
             case measure => simp [intOf])
      · have i0 := idx8_5
        have hs := un_step a b 5 (by decide)
        have HS := Lib.hid hs
        have hz := un_zero_5 a b
        have HZ := Lib.hid hz
        clear hs hz
        go_wp2
        all_goals
          first
          | (have ht : (((a ^^^ b : Nat) : Int) / 1099511627776 % 256 != 0) = false := by assumption
             go_round
             case rel => exact ⟨6, by decide, rfl, by rw [un_same (HZ.out.1 ht)]⟩
             case measure => simp [intOf])
          | (have ht : (((a ^^^ b : Nat) : Int) / 1099511627776 % 256 != 0) = true := by assumption
             go_round
             case rel => exact ⟨6, by decide, rfl, by rw [un_other (HZ.out.2 ht)]; exact congrArg (Value.int .u8) HS.out⟩
             case measure => simp [intOf])
      · have i0 := idx8_6
        have hs := un_step a b 6 (by decide)
        have HS := Lib.hid hs
        have hz := un_zero_6 a b
        have HZ := Lib.hid hz
        clear hs hz
        go_wp2
        all_goals
          first
          | (have ht : (((a ^^^ b : Nat) : Int) / 281474976710656 % 256 != 0) = false := by assumption
             go_round
             case rel => exact ⟨7, by decide, rfl, by rw [un_same (HZ.out.1 ht)]⟩
             case measure => simp [intOf])
          | (have ht : (((a ^^^ b : Nat) : Int) / 281474976710656 % 256 != 0) = true := by assumption
             go_round
             case rel => exact ⟨7, by decide, rfl, by rw [un_other (HZ.out.2 ht)]; exact congrArg (Value.int .u8) HS.out⟩
             case measure => simp [intOf])
      · have i0 := idx8_7
        have hs := un_step a b 7 (by decide)
        have HS := Lib.hid hs
        have hz := un_zero_7 a b
        have HZ := Lib.hid hz
        clear hs hz
        go_wp2
        all_goals
          first
          | (have ht : (((a ^^^ b : Nat) : Int) / 72057594037927936 % 256 != 0) = false := by assumption
             go_round
             case rel => exact ⟨8, by decide, rfl, by rw [un_same (HZ.out.1 ht)]⟩
             case measure => simp [intOf])
          | (have ht : (((a ^^^ b : Nat) : Int) / 72057594037927936 % 256 != 0) = true := by assumption
             go_round
             case rel => exact ⟨8, by decide, rfl, by rw [un_other (HZ.out.2 ht)]; exact congrArg (Value.int .u8) HS.out⟩
             case measure => simp [intOf])
    · obtain rfl : k = 8 := by omega
      go_wp2
      go_ret
      exact ⟨rfl, hw⟩

set_option maxHeartbeats 1000000 in
theorem named_any (m i : Nat) (w : World) (hm : m < 256) (hi : i ≤ 64) :
    Calls Try.prog 44 #[.int .u8 m, .int .i64 i] w fun e w' => e = .returned (.bool (bitB m i)) ∧ w = w' := by
  go_enter Try.func44, Try.ntmps44
  go_wp2
  go_loop [0, 5] (fun v j => ∃ k : Nat, k ≤ i ∧ j = .int .i64 k ∧ v = .int .u8 (m / 2 ^ k : Nat)) (fun _ j => i - (intOf j).toNat)
  case atStart => exact ⟨0, by omega, rfl, by simp⟩
  case round =>
    obtain ⟨k, hk, rfl, rfl⟩ := hrel
    have hle : m / 2 ^ k ≤ m := Nat.div_le_self _ _
    generalize hq : m / 2 ^ k = q at *
    have HQ := Lib.hid hq
    clear hq
    by_cases hlt : k < i
    · go_wp2
      go_round
      case rel => exact ⟨k + 1, by omega, by go_num, by rw [← div_pow_succ, HQ.out]; go_num⟩
      case measure => simp [intOf]; omega
    · obtain rfl : k = i := by omega
      go_wp2
      go_ret
      exact ⟨by unfold bitB; rw [HQ.out]; exact ret_bool (beq_mod2 q), rfl⟩

set_option maxHeartbeats 4000000 in
theorem rof_any (g off len cap f : Nat) (x0 x1 x2 x3 x4 x5 x6 x7 : Int) (w : World) (h0 : 0 ≤ x0 ∧ x0 < 256) (h1 : 0 ≤ x1 ∧ x1 < 256) (h2 : 0 ≤ x2 ∧ x2 < 256) (h3 : 0 ≤ x3 ∧ x3 < 256) (h4 : 0 ≤ x4 ∧ x4 < 256) (h5 : 0 ≤ x5 ∧ x5 < 256) (h6 : 0 ≤ x6 ∧ x6 < 256) (h7 : 0 ≤ x7 ∧ x7 < 256) (c0 : w.cell? ⟨g, off + f, none⟩ = some (.int .u8 x0)) (c1 : w.cell? ⟨g, off + (f + 1), none⟩ = some (.int .u8 x1)) (c2 : w.cell? ⟨g, off + (f + 2), none⟩ = some (.int .u8 x2)) (c3 : w.cell? ⟨g, off + (f + 3), none⟩ = some (.int .u8 x3)) (c4 : w.cell? ⟨g, off + (f + 4), none⟩ = some (.int .u8 x4)) (c5 : w.cell? ⟨g, off + (f + 5), none⟩ = some (.int .u8 x5)) (c6 : w.cell? ⟨g, off + (f + 6), none⟩ = some (.int .u8 x6)) (c7 : w.cell? ⟨g, off + (f + 7), none⟩ = some (.int .u8 x7)) (hl : f + 8 ≤ len) (hm : len ≤ 9223372036854775807) :
    Calls Try.prog 43 #[.slice (some ⟨g, off, none⟩) len cap, .int .i64 f] w fun e w' => e = .returned (.int .u64 (ofB x0 x1 x2 x3 x4 x5 x6 x7)) ∧ w = w' := by
  go_enter Try.func43, Try.ntmps43
  go_wp2
  refine wp_loop_rounds 9 ?_
  iterate 9 (rw [rounds_succ]; go_wp2)
  go_ret
  exact ⟨ret_u64 (by unfold ofB; omega), rfl⟩

set_option maxHeartbeats 1000000 in
theorem mix_any (a b m : Nat) (w : World) (ha : W64 a) (hb : W64 b) (hm : m < 256) :
    Calls Try.prog 23 #[.int .u64 a, .int .u64 b, .int .u8 m] w fun e w' => e = .returned (.int .u64 (mixN a b m : Nat)) ∧ w = w' := by
  have hl := wideN_lt64 m
  have e1 := u64_andNot_nat a (wideN m 8) ha hl
  have e2 := u64_and_nat b (wideN m 8) hb hl
  have l1 : a &&& (18446744073709551615 - wideN m 8) < 18446744073709551616 := Nat.lt_of_le_of_lt Nat.and_le_left ha
  have l2 : b &&& wideN m 8 < 18446744073709551616 := Nat.lt_of_le_of_lt Nat.and_le_left hb
  have e3 := u64_or_nat _ _ l1 l2
  rw [mix_bits a b m ha hb, ← e1, ← e2] at e3
  have E3 := Lib.hid e3
  clear hl e1 e2 l1 l2 e3
  go_enter Try.func23, Try.ntmps23
  go_wp2_with ((go_at_call 26; refine (wide_any m _ hm).mono ?_; rintro e w' ⟨rfl, rfl⟩))
  go_ret
  exact ⟨ret_u64 E3.out, rfl⟩

set_option maxHeartbeats 1000000 in
theorem runlike_any (a b : Nat) (w : World) (ha : W64 a) (hb : W64 b) :
    Calls Try.prog 25 #[.int .u64 a, .int .u64 b] w fun e w' => e = .returned (.int .u8 (unl a b 8 : Nat)) ∧ Below w.heap.size w w' := by
  go_enter Try.func25, Try.ntmps25
  go_wp2_with fail
  refine (rbytes_any _ _ ha).mono ?_
  rintro e w1 ⟨rfl, hb1⟩
  go_wp2_with fail
  refine (rbytes_any _ _ hb).mono ?_
  rintro e w2 ⟨rfl, hb2⟩
  go_wp2
  rw [agg_bytes a, agg_bytes b]
  go_loopw [7, 8, 9] (fun m p i wr => ∃ k : Nat, k ≤ 8 ∧ i = .int .i64 k ∧ m = .int .i64 (unl a b k : Nat) ∧ p = .int .i64 (2 ^ k : Nat) ∧ (∀ k < 8, wr.cell? ⟨w2.heap.size, k, none⟩ = some (.int .u8 (byteN a k : Nat))) ∧ (∀ k < 8, wr.cell? ⟨w2.heap.size + 1, k, none⟩ = some (.int .u8 (byteN b k : Nat))) ∧ Below w.heap.size w wr) (fun _ _ i _ => 8 - (intOf i).toNat)
  case atStart =>
    refine ⟨0, by omega, rfl, rfl, rfl, fun k hk => ?_, fun k hk => ?_, ?_⟩
    · rw [World.cell?_alloc_lt _ _ _ (by simp)]; exact cells8 w2 _ (byteV a) k hk
    · have := cells8 (w2.alloc (.cells #[byteV a 0, byteV a 1, byteV a 2, byteV a 3, byteV a 4, byteV a 5, byteV a 6, byteV a 7] 32)) 32 (byteV b) k hk
      simpa [byteV] using this
    · exact ((hb1.trans (hb2.mono hb1.size)).alloc (Nat.le_trans hb1.size hb2.size) _).alloc (by have := hb1.size; have := hb2.size; simp; omega) _
  case round =>
    obtain ⟨k, hk, rfl, rfl, rfl, hca, hcb, hbr⟩ := hrel
    by_cases hlt : k < 8
    · have ca := hca k hlt
      have cb := hcb k hlt
      have hs := unl_lt a b k
      have hp : 2 ^ k ≤ 2 ^ 7 := Nat.pow_le_pow_right (by decide) (by omega)
      have hsucc : unl a b (k + 1) = unl a b k + (if byteN a k = byteN b k then 0 else 2 ^ k) := rfl
      have hps : 2 ^ (k + 1) = 2 * 2 ^ k := by rw [Nat.pow_succ, Nat.mul_comm]
      generalize 2 ^ k = p at *
      generalize unl a b k = u at *
      generalize byteN a k = x at *
      generalize byteN b k = y at *
      have HS := Lib.hid hsucc
      have HP := Lib.hid hps
      have HA := Lib.hid hca
      have HB := Lib.hid hcb
      clear hsucc hps hca hcb
      simp only [Nat.reducePow] at hp
      by_cases hxy : x = y
      · subst hxy
        go_wp2
        go_quiet (fail)
        go_wp2
        go_roundw
        case rel => exact ⟨k + 1, by omega, by go_num, by rw [HS.out, if_pos trivial]; rfl, by rw [HP.out]; go_num, HA.out, HB.out, below_drewN hbr _⟩
        case measure => simp [intOf]; omega
      · have hbne : ((x : Int) != (y : Int)) = true := bne_iff_ne.2 (by omega)
        go_wp2
        go_quiet (fail)
        go_wp2
        go_roundw
        case rel => exact ⟨k + 1, by omega, by go_num, by rw [HS.out, if_neg hxy]; go_num, by rw [HP.out]; go_num, HA.out, HB.out, below_drewN hbr _⟩
        case measure => simp [intOf]; omega
    · obtain rfl : k = 8 := by omega
      have hs := unl_lt a b 8
      simp only [Nat.reducePow] at hs
      generalize hu : unl a b 8 = u at *
      have HU := Lib.hid hu
      clear hu
      go_wp2
      go_ret
      exact ⟨by rw [HU.out]; rfl, hbr⟩

end Go.Proofs.Ytcpapdjjeinpmaa
