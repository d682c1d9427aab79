/- Lemmas and contracts used by the proofs of this seat's laws (part S5); each theorem bears its own conditions. -/
import Derived.Test.YtcpapdjjeinpmaaRows
import Derived.Test.YtcpapdjjeinpmaaNum
import Derived.Test.YtcpapdjjeinpmaaMem
import Derived.Test.YtcpapdjjeinpmaaWordB
import Derived.Test.YtcpapdjjeinpmaaS2
import Derived.Test.YtcpapdjjeinpmaaS3
import Derived.Test.YtcpapdjjeinpmaaS4
import Derived.WalkKit
import Derived.WalkSpells
import Derived.WalkLawsBesides
import Derived.Lib.Hide
import Derived.BigQuiet
import Derived.Deep.QuietTactic
namespace Go.Proofs.Ytcpapdjjeinpmaa
open Go.RowKit
set_option linter.unusedVariables false

set_option maxHeartbeats 1000000 in
theorem rget_1 (l : List Nat) (i B cp : Nat) (A : Option Addr) (w : World) (hA : RdS w B A (u64s l)) (hl : ∀ n ∈ l, W64 n) (hm : l.length ≤ 9223372036854775807) (hi : i ≤ 1099511627776) :
    Calls Try.prog 30 #[.slice A l.length cp, .int .i64 1, .int .i64 i] w fun e w' => e = .returned (.int .u64 (getN 1 l i : Nat)) ∧ w = w' := by
  have hf := getR_full 1 l i
  have HF := Lib.hid hf
  clear hf
  go_enter Try.func30, Try.ntmps30
  go_wp2_with fail
  refine (rwidth_1 _).mono ?_
  rintro e w1 ⟨rfl, rfl⟩
  go_wp2
  go_loop [8, 9] (fun v k => ∃ r : Nat, r ≤ 1 ∧ k = .int .i64 (0 - (r : Int)) ∧ v = .int .u64 (getR 1 l i r : Nat)) (fun _ k => (intOf k + 1).toNat)
  case atStart => exact ⟨0, by omega, rfl, by rw [getR_zero]; rfl⟩
  case round =>
    obtain ⟨r, hr, rfl, rfl⟩ := hrel
    by_cases hlt : r < 1
    · have hs := getR_step 1 (by decide) l i r hlt
      have hr2 : getR 1 l i r < 2 ^ r := getR_lt 1 l i r
      have hp : 2 ^ r ≤ 2 ^ 0 := Nat.pow_le_pow_right (by decide) (by omega)
      have hb := bitN_le l (i * 1 + (1 - 1 - r))
      have hn : getR 1 l i r ≤ 9223372036854775807 := by omega
      have ea : ((i : Int) * 1 + (0 - (r : Int))).toNat = i * 1 + (1 - 1 - r) := by omega
      clear hp hr2
      generalize hq : getR 1 l i r = q at *
      have HQ := Lib.hid hq
      have HS := Lib.hid hs
      have HE := Lib.hid ea
      have HA := Lib.hid hA
      have HL := Lib.hid hl
      clear hq hs ea hA hl
      go_wp2_with fail
      refine (rbit_any l _ B cp A _ (by omega) (by omega) HA.out HL.out hm).mono ?_
      rintro e w1 ⟨rfl, rfl⟩
      first | rw [HE.out] | rw [show ((i : Int)).toNat = i * 1 + (1 - 1 - r) by omega]
      generalize bitN l (i * 1 + (1 - 1 - r)) = b at *
      go_wp2
      go_round
      case rel => exact ⟨r + 1, by omega, by go_num, by rw [← HS.out]; go_num⟩
      case measure => simp [intOf]; omega
    · obtain rfl : r = 1 := by omega
      rw [HF.out]
      go_wp2
      go_ret
      exact ⟨rfl, rfl⟩
set_option maxHeartbeats 1000000 in
theorem rget_no_1 (l : List Nat) (i cp : Nat) (A : Option Addr) (w : World) (hi : ¬ i ≤ 1099511627776) :
    Calls Try.prog 30 #[.slice A l.length cp, .int .i64 1, .int .i64 i] w fun e w' => e = .returned (.int .u64 0) ∧ w = w' := by
  have hi' : 1099511627776 < (i : Int) := by omega
  go_enter Try.func30, Try.ntmps30
  go_wp2_with fail
  refine (rwidth_1 _).mono ?_
  rintro e w1 ⟨rfl, rfl⟩
  go_wp2
  go_ret
  exact ⟨rfl, rfl⟩

set_option maxHeartbeats 1000000 in
theorem rget_2 (l : List Nat) (i B cp : Nat) (A : Option Addr) (w : World) (hA : RdS w B A (u64s l)) (hl : ∀ n ∈ l, W64 n) (hm : l.length ≤ 9223372036854775807) (hi : i ≤ 1099511627776) :
    Calls Try.prog 30 #[.slice A l.length cp, .int .i64 2, .int .i64 i] w fun e w' => e = .returned (.int .u64 (getN 8 l i : Nat)) ∧ w = w' := by
  have hf := getR_full 8 l i
  have HF := Lib.hid hf
  clear hf
  go_enter Try.func30, Try.ntmps30
  go_wp2_with fail
  refine (rwidth_2 _).mono ?_
  rintro e w1 ⟨rfl, rfl⟩
  go_wp2
  go_loop [8, 9] (fun v k => ∃ r : Nat, r ≤ 8 ∧ k = .int .i64 (7 - (r : Int)) ∧ v = .int .u64 (getR 8 l i r : Nat)) (fun _ k => (intOf k + 1).toNat)
  case atStart => exact ⟨0, by omega, rfl, by rw [getR_zero]; rfl⟩
  case round =>
    obtain ⟨r, hr, rfl, rfl⟩ := hrel
    by_cases hlt : r < 8
    · have hs := getR_step 8 (by decide) l i r hlt
      have hr2 : getR 8 l i r < 2 ^ r := getR_lt 8 l i r
      have hp : 2 ^ r ≤ 2 ^ 7 := Nat.pow_le_pow_right (by decide) (by omega)
      have hb := bitN_le l (i * 8 + (8 - 1 - r))
      have hn : getR 8 l i r ≤ 9223372036854775807 := by omega
      have ea : ((i : Int) * 8 + (7 - (r : Int))).toNat = i * 8 + (8 - 1 - r) := by omega
      clear hp hr2
      generalize hq : getR 8 l i r = q at *
      have HQ := Lib.hid hq
      have HS := Lib.hid hs
      have HE := Lib.hid ea
      have HA := Lib.hid hA
      have HL := Lib.hid hl
      clear hq hs ea hA hl
      go_wp2_with fail
      refine (rbit_any l _ B cp A _ (by omega) (by omega) HA.out HL.out hm).mono ?_
      rintro e w1 ⟨rfl, rfl⟩
      first | rw [HE.out] | rw [show ((i : Int)).toNat = i * 8 + (8 - 1 - r) by omega]
      generalize bitN l (i * 8 + (8 - 1 - r)) = b at *
      go_wp2
      go_round
      case rel => exact ⟨r + 1, by omega, by go_num, by rw [← HS.out]; go_num⟩
      case measure => simp [intOf]; omega
    · obtain rfl : r = 8 := by omega
      rw [HF.out]
      go_wp2
      go_ret
      exact ⟨rfl, rfl⟩
set_option maxHeartbeats 1000000 in
theorem rget_no_2 (l : List Nat) (i cp : Nat) (A : Option Addr) (w : World) (hi : ¬ i ≤ 1099511627776) :
    Calls Try.prog 30 #[.slice A l.length cp, .int .i64 2, .int .i64 i] w fun e w' => e = .returned (.int .u64 0) ∧ w = w' := by
  have hi' : 1099511627776 < (i : Int) := by omega
  go_enter Try.func30, Try.ntmps30
  go_wp2_with fail
  refine (rwidth_2 _).mono ?_
  rintro e w1 ⟨rfl, rfl⟩
  go_wp2
  go_ret
  exact ⟨rfl, rfl⟩

set_option maxHeartbeats 1000000 in
theorem rget_3 (l : List Nat) (i B cp : Nat) (A : Option Addr) (w : World) (hA : RdS w B A (u64s l)) (hl : ∀ n ∈ l, W64 n) (hm : l.length ≤ 9223372036854775807) (hi : i ≤ 1099511627776) :
    Calls Try.prog 30 #[.slice A l.length cp, .int .i64 3, .int .i64 i] w fun e w' => e = .returned (.int .u64 (getN 16 l i : Nat)) ∧ w = w' := by
  have hf := getR_full 16 l i
  have HF := Lib.hid hf
  clear hf
  go_enter Try.func30, Try.ntmps30
  go_wp2_with fail
  refine (rwidth_3 _).mono ?_
  rintro e w1 ⟨rfl, rfl⟩
  go_wp2
  go_loop [8, 9] (fun v k => ∃ r : Nat, r ≤ 16 ∧ k = .int .i64 (15 - (r : Int)) ∧ v = .int .u64 (getR 16 l i r : Nat)) (fun _ k => (intOf k + 1).toNat)
  case atStart => exact ⟨0, by omega, rfl, by rw [getR_zero]; rfl⟩
  case round =>
    obtain ⟨r, hr, rfl, rfl⟩ := hrel
    by_cases hlt : r < 16
    · have hs := getR_step 16 (by decide) l i r hlt
      have hr2 : getR 16 l i r < 2 ^ r := getR_lt 16 l i r
      have hp : 2 ^ r ≤ 2 ^ 15 := Nat.pow_le_pow_right (by decide) (by omega)
      have hb := bitN_le l (i * 16 + (16 - 1 - r))
      have hn : getR 16 l i r ≤ 9223372036854775807 := by omega
      have ea : ((i : Int) * 16 + (15 - (r : Int))).toNat = i * 16 + (16 - 1 - r) := by omega
      clear hp hr2
      generalize hq : getR 16 l i r = q at *
      have HQ := Lib.hid hq
      have HS := Lib.hid hs
      have HE := Lib.hid ea
      have HA := Lib.hid hA
      have HL := Lib.hid hl
      clear hq hs ea hA hl
      go_wp2_with fail
      refine (rbit_any l _ B cp A _ (by omega) (by omega) HA.out HL.out hm).mono ?_
      rintro e w1 ⟨rfl, rfl⟩
      first | rw [HE.out] | rw [show ((i : Int)).toNat = i * 16 + (16 - 1 - r) by omega]
      generalize bitN l (i * 16 + (16 - 1 - r)) = b at *
      go_wp2
      go_round
      case rel => exact ⟨r + 1, by omega, by go_num, by rw [← HS.out]; go_num⟩
      case measure => simp [intOf]; omega
    · obtain rfl : r = 16 := by omega
      rw [HF.out]
      go_wp2
      go_ret
      exact ⟨rfl, rfl⟩
set_option maxHeartbeats 1000000 in
theorem rget_no_3 (l : List Nat) (i cp : Nat) (A : Option Addr) (w : World) (hi : ¬ i ≤ 1099511627776) :
    Calls Try.prog 30 #[.slice A l.length cp, .int .i64 3, .int .i64 i] w fun e w' => e = .returned (.int .u64 0) ∧ w = w' := by
  have hi' : 1099511627776 < (i : Int) := by omega
  go_enter Try.func30, Try.ntmps30
  go_wp2_with fail
  refine (rwidth_3 _).mono ?_
  rintro e w1 ⟨rfl, rfl⟩
  go_wp2
  go_ret
  exact ⟨rfl, rfl⟩

set_option maxHeartbeats 1000000 in
theorem rget_4 (l : List Nat) (i B cp : Nat) (A : Option Addr) (w : World) (hA : RdS w B A (u64s l)) (hl : ∀ n ∈ l, W64 n) (hm : l.length ≤ 9223372036854775807) (hi : i ≤ 1099511627776) :
    Calls Try.prog 30 #[.slice A l.length cp, .int .i64 4, .int .i64 i] w fun e w' => e = .returned (.int .u64 (getN 32 l i : Nat)) ∧ w = w' := by
  have hf := getR_full 32 l i
  have HF := Lib.hid hf
  clear hf
  go_enter Try.func30, Try.ntmps30
  go_wp2_with fail
  refine (rwidth_4 _).mono ?_
  rintro e w1 ⟨rfl, rfl⟩
  go_wp2
  go_loop [8, 9] (fun v k => ∃ r : Nat, r ≤ 32 ∧ k = .int .i64 (31 - (r : Int)) ∧ v = .int .u64 (getR 32 l i r : Nat)) (fun _ k => (intOf k + 1).toNat)
  case atStart => exact ⟨0, by omega, rfl, by rw [getR_zero]; rfl⟩
  case round =>
    obtain ⟨r, hr, rfl, rfl⟩ := hrel
    by_cases hlt : r < 32
    · have hs := getR_step 32 (by decide) l i r hlt
      have hr2 : getR 32 l i r < 2 ^ r := getR_lt 32 l i r
      have hp : 2 ^ r ≤ 2 ^ 31 := Nat.pow_le_pow_right (by decide) (by omega)
      have hb := bitN_le l (i * 32 + (32 - 1 - r))
      have hn : getR 32 l i r ≤ 9223372036854775807 := by omega
      have ea : ((i : Int) * 32 + (31 - (r : Int))).toNat = i * 32 + (32 - 1 - r) := by omega
      clear hp hr2
      generalize hq : getR 32 l i r = q at *
      have HQ := Lib.hid hq
      have HS := Lib.hid hs
      have HE := Lib.hid ea
      have HA := Lib.hid hA
      have HL := Lib.hid hl
      clear hq hs ea hA hl
      go_wp2_with fail
      refine (rbit_any l _ B cp A _ (by omega) (by omega) HA.out HL.out hm).mono ?_
      rintro e w1 ⟨rfl, rfl⟩
      first | rw [HE.out] | rw [show ((i : Int)).toNat = i * 32 + (32 - 1 - r) by omega]
      generalize bitN l (i * 32 + (32 - 1 - r)) = b at *
      go_wp2
      go_round
      case rel => exact ⟨r + 1, by omega, by go_num, by rw [← HS.out]; go_num⟩
      case measure => simp [intOf]; omega
    · obtain rfl : r = 32 := by omega
      rw [HF.out]
      go_wp2
      go_ret
      exact ⟨rfl, rfl⟩
set_option maxHeartbeats 1000000 in
theorem rget_no_4 (l : List Nat) (i cp : Nat) (A : Option Addr) (w : World) (hi : ¬ i ≤ 1099511627776) :
    Calls Try.prog 30 #[.slice A l.length cp, .int .i64 4, .int .i64 i] w fun e w' => e = .returned (.int .u64 0) ∧ w = w' := by
  have hi' : 1099511627776 < (i : Int) := by omega
  go_enter Try.func30, Try.ntmps30
  go_wp2_with fail
  refine (rwidth_4 _).mono ?_
  rintro e w1 ⟨rfl, rfl⟩
  go_wp2
  go_ret
  exact ⟨rfl, rfl⟩

set_option maxHeartbeats 1000000 in
theorem rget_5 (l : List Nat) (i B cp : Nat) (A : Option Addr) (w : World) (hA : RdS w B A (u64s l)) (hl : ∀ n ∈ l, W64 n) (hm : l.length ≤ 9223372036854775807) (hi : i ≤ 1099511627776) :
    Calls Try.prog 30 #[.slice A l.length cp, .int .i64 5, .int .i64 i] w fun e w' => e = .returned (.int .u64 (getN 64 l i : Nat)) ∧ w = w' := by
  have hf := getR_full 64 l i
  have HF := Lib.hid hf
  clear hf
  go_enter Try.func30, Try.ntmps30
  go_wp2_with fail
  refine (rwidth_5 _).mono ?_
  rintro e w1 ⟨rfl, rfl⟩
  go_wp2
  go_loop [8, 9] (fun v k => ∃ r : Nat, r ≤ 64 ∧ k = .int .i64 (63 - (r : Int)) ∧ v = .int .u64 (getR 64 l i r : Nat)) (fun _ k => (intOf k + 1).toNat)
  case atStart => exact ⟨0, by omega, rfl, by rw [getR_zero]; rfl⟩
  case round =>
    obtain ⟨r, hr, rfl, rfl⟩ := hrel
    by_cases hlt : r < 64
    · have hs := getR_step 64 (by decide) l i r hlt
      have hr2 : getR 64 l i r < 2 ^ r := getR_lt 64 l i r
      have hp : 2 ^ r ≤ 2 ^ 63 := Nat.pow_le_pow_right (by decide) (by omega)
      have hb := bitN_le l (i * 64 + (64 - 1 - r))
      have hn : getR 64 l i r ≤ 9223372036854775807 := by omega
      have ea : ((i : Int) * 64 + (63 - (r : Int))).toNat = i * 64 + (64 - 1 - r) := by omega
      clear hp hr2
      generalize hq : getR 64 l i r = q at *
      have HQ := Lib.hid hq
      have HS := Lib.hid hs
      have HE := Lib.hid ea
      have HA := Lib.hid hA
      have HL := Lib.hid hl
      clear hq hs ea hA hl
      go_wp2_with fail
      refine (rbit_any l _ B cp A _ (by omega) (by omega) HA.out HL.out hm).mono ?_
      rintro e w1 ⟨rfl, rfl⟩
      first | rw [HE.out] | rw [show ((i : Int)).toNat = i * 64 + (64 - 1 - r) by omega]
      generalize bitN l (i * 64 + (64 - 1 - r)) = b at *
      go_wp2
      go_round
      case rel => exact ⟨r + 1, by omega, by go_num, by rw [← HS.out]; go_num⟩
      case measure => simp [intOf]; omega
    · obtain rfl : r = 64 := by omega
      rw [HF.out]
      go_wp2
      go_ret
      exact ⟨rfl, rfl⟩
set_option maxHeartbeats 1000000 in
theorem rget_no_5 (l : List Nat) (i cp : Nat) (A : Option Addr) (w : World) (hi : ¬ i ≤ 1099511627776) :
    Calls Try.prog 30 #[.slice A l.length cp, .int .i64 5, .int .i64 i] w fun e w' => e = .returned (.int .u64 0) ∧ w = w' := by
  have hi' : 1099511627776 < (i : Int) := by omega
  go_enter Try.func30, Try.ntmps30
  go_wp2_with fail
  refine (rwidth_5 _).mono ?_
  rintro e w1 ⟨rfl, rfl⟩
  go_wp2
  go_ret
  exact ⟨rfl, rfl⟩

end Go.Proofs.Ytcpapdjjeinpmaa
