/- Lemmas and contracts used by the proofs of this seat's laws (part S3); each theorem bears its own conditions. -/
import Derived.Test.YtcpapdjjeinpmaaRows
import Derived.Test.YtcpapdjjeinpmaaNum
import Derived.Test.YtcpapdjjeinpmaaMem
import Derived.Test.YtcpapdjjeinpmaaS2
import Derived.WalkKit
import Derived.WalkSpells
import Derived.WalkLawsBesides
import Derived.Lib.Hide
import Derived.BigQuiet
import Derived.Deep.QuietTactic
namespace Go.Proofs.Ytcpapdjjeinpmaa
open Go.RowKit
set_option linter.unusedVariables false

theorem width_1 (w : World) : Calls Try.prog 27 #[.int .i64 1] w fun e w' => e = .returned (.tuple #[.int .i64 1, .bool true]) ∧ Below w.heap.size w w' := width_ok 1 w (by decide) (by decide)
theorem rwidth_1 (w : World) : Calls Try.prog 28 #[.int .i64 1] w fun e w' => e = .returned (.int .i64 1) ∧ w = w' := rwidth_ok 1 w (by decide) (by decide)

theorem width_2 (w : World) : Calls Try.prog 27 #[.int .i64 2] w fun e w' => e = .returned (.tuple #[.int .i64 8, .bool true]) ∧ Below w.heap.size w w' := width_ok 2 w (by decide) (by decide)
theorem rwidth_2 (w : World) : Calls Try.prog 28 #[.int .i64 2] w fun e w' => e = .returned (.int .i64 8) ∧ w = w' := rwidth_ok 2 w (by decide) (by decide)

theorem width_3 (w : World) : Calls Try.prog 27 #[.int .i64 3] w fun e w' => e = .returned (.tuple #[.int .i64 16, .bool true]) ∧ Below w.heap.size w w' := width_ok 3 w (by decide) (by decide)
theorem rwidth_3 (w : World) : Calls Try.prog 28 #[.int .i64 3] w fun e w' => e = .returned (.int .i64 16) ∧ w = w' := rwidth_ok 3 w (by decide) (by decide)

theorem width_4 (w : World) : Calls Try.prog 27 #[.int .i64 4] w fun e w' => e = .returned (.tuple #[.int .i64 32, .bool true]) ∧ Below w.heap.size w w' := width_ok 4 w (by decide) (by decide)
theorem rwidth_4 (w : World) : Calls Try.prog 28 #[.int .i64 4] w fun e w' => e = .returned (.int .i64 32) ∧ w = w' := rwidth_ok 4 w (by decide) (by decide)

theorem width_5 (w : World) : Calls Try.prog 27 #[.int .i64 5] w fun e w' => e = .returned (.tuple #[.int .i64 64, .bool true]) ∧ Below w.heap.size w w' := width_ok 5 w (by decide) (by decide)
theorem rwidth_5 (w : World) : Calls Try.prog 28 #[.int .i64 5] w fun e w' => e = .returned (.int .i64 64) ∧ w = w' := rwidth_ok 5 w (by decide) (by decide)

set_option maxHeartbeats 1000000 in
theorem get_1 (l : List Nat) (i B cp : Nat) (A : Option Addr) (w : World) (hA : RdS w B A (u64s l)) (hB : B ≤ w.heap.size) (hl : ∀ n ∈ l, W64 n) (hm : l.length ≤ 9223372036854775807) (hi : i ≤ 9223372036854775807) :
    Calls Try.prog 29 #[.slice A l.length cp, .int .i64 1, .int .i64 i] w fun e w' => e = .returned (.int .u64 (getN 1 l i : Nat)) ∧ Below w.heap.size w w' := by
  by_cases hlt : i / 64 < l.length
  · obtain ⟨g, off, rfl, hg, hc⟩ := Rd64.at_ hA hlt
    have h64 : W64 (l.getD (i / 64) 0) := by rw [getD_lt hlt]; exact hl _ (List.getElem_mem hlt)
    have he : getN 1 l i = l.getD (i / 64) 0 / 2 ^ (i % 64) % 2 ^ 1 := by
      unfold getN; rw [show i * 1 / 64 = i / 64 by omega, show i * 1 % 64 = i % 64 by omega]
    generalize l.getD (i / 64) 0 = x at *
    have HE := Lib.hid he
    have HA := Lib.hid hA
    have HL := Lib.hid hl
    have H64 := Lib.hid h64
    clear he hA hl h64
    have hi1 : (i : Int) / 64 < (l.length : Int) := by omega
    have hi2 : 0 ≤ (i : Int) / 64 := by omega
    go_enter Try.func29, Try.ntmps29
    go_wp2_with fail
    refine (width_1 _).mono ?_
    rintro e w1 ⟨rfl, hb1⟩
    have hc1 := (bcell hb1 (o := off + i / 64) (Nat.lt_of_lt_of_le hg hB)).trans hc
    go_wp2
    go_quiet (fail)
    go_wp2
    go_ret
    exact ⟨by rw [HE.out]; exact ret_u64 (and_mask x (i % 64) 1 1 (by decide) H64.out (by decide)), below_drewN hb1 _⟩
  · go_enter Try.func29, Try.ntmps29
    have he : getN 1 l i = 0 := by
      unfold getN; rw [show i * 1 / 64 = i / 64 by omega, getD_ge (by omega), Nat.zero_div]
    have HE := Lib.hid he
    clear he
    have hi1 : ¬ (i : Int) / 64 < (l.length : Int) := by omega
    go_wp2_with fail
    refine (width_1 _).mono ?_
    rintro e w1 ⟨rfl, hb1⟩
    go_wp2
    go_ret
    exact ⟨by rw [HE.out]; rfl, hb1⟩

set_option maxHeartbeats 1000000 in
theorem get_2 (l : List Nat) (i B cp : Nat) (A : Option Addr) (w : World) (hA : RdS w B A (u64s l)) (hB : B ≤ w.heap.size) (hl : ∀ n ∈ l, W64 n) (hm : l.length ≤ 9223372036854775807) (hi : i ≤ 9223372036854775807) :
    Calls Try.prog 29 #[.slice A l.length cp, .int .i64 2, .int .i64 i] w fun e w' => e = .returned (.int .u64 (getN 8 l i : Nat)) ∧ Below w.heap.size w w' := by
  by_cases hlt : i / 8 < l.length
  · obtain ⟨g, off, rfl, hg, hc⟩ := Rd64.at_ hA hlt
    have h64 : W64 (l.getD (i / 8) 0) := by rw [getD_lt hlt]; exact hl _ (List.getElem_mem hlt)
    have he : getN 8 l i = l.getD (i / 8) 0 / 2 ^ (i % 8 * 8) % 2 ^ 8 := by
      unfold getN; rw [show i * 8 / 64 = i / 8 by omega, show i * 8 % 64 = i % 8 * 8 by omega]
    generalize l.getD (i / 8) 0 = x at *
    have HE := Lib.hid he
    have HA := Lib.hid hA
    have HL := Lib.hid hl
    have H64 := Lib.hid h64
    clear he hA hl h64
    have hi1 : (i : Int) / 8 < (l.length : Int) := by omega
    have hi2 : 0 ≤ (i : Int) / 8 := by omega
    go_enter Try.func29, Try.ntmps29
    go_wp2_with fail
    refine (width_2 _).mono ?_
    rintro e w1 ⟨rfl, hb1⟩
    have hc1 := (bcell hb1 (o := off + i / 8) (Nat.lt_of_lt_of_le hg hB)).trans hc
    go_wp2
    go_quiet (fail)
    go_wp2
    go_ret
    exact ⟨by rw [HE.out]; exact ret_u64 (and_mask x (i % 8 * 8) 8 255 (by decide) H64.out (by decide)), below_drewN hb1 _⟩
  · go_enter Try.func29, Try.ntmps29
    have he : getN 8 l i = 0 := by
      unfold getN; rw [show i * 8 / 64 = i / 8 by omega, getD_ge (by omega), Nat.zero_div]
    have HE := Lib.hid he
    clear he
    have hi1 : ¬ (i : Int) / 8 < (l.length : Int) := by omega
    go_wp2_with fail
    refine (width_2 _).mono ?_
    rintro e w1 ⟨rfl, hb1⟩
    go_wp2
    go_ret
    exact ⟨by rw [HE.out]; rfl, hb1⟩

set_option maxHeartbeats 1000000 in
theorem get_3 (l : List Nat) (i B cp : Nat) (A : Option Addr) (w : World) (hA : RdS w B A (u64s l)) (hB : B ≤ w.heap.size) (hl : ∀ n ∈ l, W64 n) (hm : l.length ≤ 9223372036854775807) (hi : i ≤ 9223372036854775807) :
    Calls Try.prog 29 #[.slice A l.length cp, .int .i64 3, .int .i64 i] w fun e w' => e = .returned (.int .u64 (getN 16 l i : Nat)) ∧ Below w.heap.size w w' := by
  by_cases hlt : i / 4 < l.length
  · obtain ⟨g, off, rfl, hg, hc⟩ := Rd64.at_ hA hlt
    have h64 : W64 (l.getD (i / 4) 0) := by rw [getD_lt hlt]; exact hl _ (List.getElem_mem hlt)
    have he : getN 16 l i = l.getD (i / 4) 0 / 2 ^ (i % 4 * 16) % 2 ^ 16 := by
      unfold getN; rw [show i * 16 / 64 = i / 4 by omega, show i * 16 % 64 = i % 4 * 16 by omega]
    generalize l.getD (i / 4) 0 = x at *
    have HE := Lib.hid he
    have HA := Lib.hid hA
    have HL := Lib.hid hl
    have H64 := Lib.hid h64
    clear he hA hl h64
    have hi1 : (i : Int) / 4 < (l.length : Int) := by omega
    have hi2 : 0 ≤ (i : Int) / 4 := by omega
    go_enter Try.func29, Try.ntmps29
    go_wp2_with fail
    refine (width_3 _).mono ?_
    rintro e w1 ⟨rfl, hb1⟩
    have hc1 := (bcell hb1 (o := off + i / 4) (Nat.lt_of_lt_of_le hg hB)).trans hc
    go_wp2
    go_quiet (fail)
    go_wp2
    go_ret
    exact ⟨by rw [HE.out]; exact ret_u64 (and_mask x (i % 4 * 16) 16 65535 (by decide) H64.out (by decide)), below_drewN hb1 _⟩
  · go_enter Try.func29, Try.ntmps29
    have he : getN 16 l i = 0 := by
      unfold getN; rw [show i * 16 / 64 = i / 4 by omega, getD_ge (by omega), Nat.zero_div]
    have HE := Lib.hid he
    clear he
    have hi1 : ¬ (i : Int) / 4 < (l.length : Int) := by omega
    go_wp2_with fail
    refine (width_3 _).mono ?_
    rintro e w1 ⟨rfl, hb1⟩
    go_wp2
    go_ret
    exact ⟨by rw [HE.out]; rfl, hb1⟩

set_option maxHeartbeats 1000000 in
theorem get_4 (l : List Nat) (i B cp : Nat) (A : Option Addr) (w : World) (hA : RdS w B A (u64s l)) (hB : B ≤ w.heap.size) (hl : ∀ n ∈ l, W64 n) (hm : l.length ≤ 9223372036854775807) (hi : i ≤ 9223372036854775807) :
    Calls Try.prog 29 #[.slice A l.length cp, .int .i64 4, .int .i64 i] w fun e w' => e = .returned (.int .u64 (getN 32 l i : Nat)) ∧ Below w.heap.size w w' := by
  by_cases hlt : i / 2 < l.length
  · obtain ⟨g, off, rfl, hg, hc⟩ := Rd64.at_ hA hlt
    have h64 : W64 (l.getD (i / 2) 0) := by rw [getD_lt hlt]; exact hl _ (List.getElem_mem hlt)
    have he : getN 32 l i = l.getD (i / 2) 0 / 2 ^ (i % 2 * 32) % 2 ^ 32 := by
      unfold getN; rw [show i * 32 / 64 = i / 2 by omega, show i * 32 % 64 = i % 2 * 32 by omega]
    generalize l.getD (i / 2) 0 = x at *
    have HE := Lib.hid he
    have HA := Lib.hid hA
    have HL := Lib.hid hl
    have H64 := Lib.hid h64
    clear he hA hl h64
    have hi1 : (i : Int) / 2 < (l.length : Int) := by omega
    have hi2 : 0 ≤ (i : Int) / 2 := by omega
    go_enter Try.func29, Try.ntmps29
    go_wp2_with fail
    refine (width_4 _).mono ?_
    rintro e w1 ⟨rfl, hb1⟩
    have hc1 := (bcell hb1 (o := off + i / 2) (Nat.lt_of_lt_of_le hg hB)).trans hc
    go_wp2
    go_quiet (fail)
    go_wp2
    go_ret
    exact ⟨by rw [HE.out]; exact ret_u64 (and_mask x (i % 2 * 32) 32 4294967295 (by decide) H64.out (by decide)), below_drewN hb1 _⟩
  · go_enter Try.func29, Try.ntmps29
    have he : getN 32 l i = 0 := by
      unfold getN; rw [show i * 32 / 64 = i / 2 by omega, getD_ge (by omega), Nat.zero_div]
    have HE := Lib.hid he
    clear he
    have hi1 : ¬ (i : Int) / 2 < (l.length : Int) := by omega
    go_wp2_with fail
    refine (width_4 _).mono ?_
    rintro e w1 ⟨rfl, hb1⟩
    go_wp2
    go_ret
    exact ⟨by rw [HE.out]; rfl, hb1⟩


set_option maxHeartbeats 1000000 in
theorem get_5 (l : List Nat) (i B cp : Nat) (A : Option Addr) (w : World) (hA : RdS w B A (u64s l)) (hB : B ≤ w.heap.size) (hl : ∀ n ∈ l, W64 n) (hm : l.length ≤ 9223372036854775807) (hi : i ≤ 9223372036854775807) :
    Calls Try.prog 29 #[.slice A l.length cp, .int .i64 5, .int .i64 i] w fun e w' => e = .returned (.int .u64 (getN 64 l i : Nat)) ∧ Below w.heap.size w w' := by
  by_cases hlt : i < l.length
  · obtain ⟨g, off, rfl, hg, hc⟩ := Rd64.at_ hA hlt
    have h64 : W64 (l.getD i 0) := by rw [getD_lt hlt]; exact hl _ (List.getElem_mem hlt)
    have he : getN 64 l i = l.getD i 0 := by
      unfold getN W64 at *; rw [show i * 64 / 64 = i by omega, show i * 64 % 64 = 0 by omega]; omega
    generalize l.getD i 0 = x at *
    have HE := Lib.hid he
    have HA := Lib.hid hA
    have HL := Lib.hid hl
    have H64 := Lib.hid h64
    clear he hA hl h64
    have hi1 : (i : Int) < (l.length : Int) := by omega
    have hi2 : 0 ≤ (i : Int) := by omega
    go_enter Try.func29, Try.ntmps29
    go_wp2_with fail
    refine (width_5 _).mono ?_
    rintro e w1 ⟨rfl, hb1⟩
    have hc1 := (bcell hb1 (o := off + i) (Nat.lt_of_lt_of_le hg hB)).trans hc
    go_wp2
    go_quiet (fail)
    go_wp2
    go_ret
    exact ⟨by rw [HE.out]; exact ret_u64 (and_full x H64.out), below_drewN hb1 _⟩
  · go_enter Try.func29, Try.ntmps29
    have he : getN 64 l i = 0 := by
      unfold getN; rw [show i * 64 / 64 = i by omega, getD_ge (by omega), Nat.zero_div]
    have HE := Lib.hid he
    clear he
    have hi1 : ¬ (i : Int) < (l.length : Int) := by omega
    go_wp2_with fail
    refine (width_5 _).mono ?_
    rintro e w1 ⟨rfl, hb1⟩
    go_wp2
    go_ret
    exact ⟨by rw [HE.out]; rfl, hb1⟩

end Go.Proofs.Ytcpapdjjeinpmaa
