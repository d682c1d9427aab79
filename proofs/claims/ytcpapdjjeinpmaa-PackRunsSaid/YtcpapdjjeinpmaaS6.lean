/- Lemmas and contracts used by the proofs of this seat's laws (part S6); each theorem bears its own conditions. -/
import Derived.Test.YtcpapdjjeinpmaaRows
import Derived.Test.YtcpapdjjeinpmaaNum
import Derived.Test.YtcpapdjjeinpmaaMem
import Derived.Test.YtcpapdjjeinpmaaWordB
import Derived.Test.YtcpapdjjeinpmaaS2
import Derived.Test.YtcpapdjjeinpmaaS3
import Derived.Test.YtcpapdjjeinpmaaS4
import Derived.WalkKit
import Derived.WalkSpells
import Derived.WalkLawsBesides
import Derived.Lib.Hide
import Derived.BigQuiet
import Derived.Deep.QuietTactic
namespace Go.Proofs.Ytcpapdjjeinpmaa
open Go.RowKit
set_option linter.unusedVariables false

theorem width_0 (w : World) : Calls Try.prog 27 #[.int .i64 0] w fun e w' => e = .returned (.tuple #[.int .i64 0, .bool true]) ∧ Below w.heap.size w w' := width_ok 0 w (by decide) (by decide)
theorem rwidth_0 (w : World) : Calls Try.prog 28 #[.int .i64 0] w fun e w' => e = .returned (.int .i64 0) ∧ w = w' := rwidth_ok 0 w (by decide) (by decide)

set_option maxHeartbeats 1000000 in
theorem room_0 (n : Nat) (w : World) (h : n ≤ 1099511627776) :
    Calls Try.prog 33 #[.int .i64 0, .int .i64 n] w fun e w' => e = .returned (.int .i64 (roomN 0 n : Nat)) ∧ Below w.heap.size w w' := by
  have h1 : ¬ (n : Int) < 0 := by omega
  have h2 : ¬ 1099511627776 < (n : Int) := by omega
  have h3 : (n : Int) ≤ 1099511627776 := by omega
  go_enter Try.func33, Try.ntmps33
  go_wp2_with fail
  refine (width_0 _).mono ?_
  rintro e w1 ⟨rfl, hb1⟩
  go_wp2
  go_ret
  exact ⟨ret_int (by unfold roomN; omega), hb1⟩
set_option maxHeartbeats 1000000 in
theorem room_no_0 (n : Int) (w : World) (h : n < 0 ∨ 1099511627776 < n) :
    Calls Try.prog 33 #[.int .i64 0, .int .i64 n] w fun e w' => e = .returned (.int .i64 0) ∧ Below w.heap.size w w' := by
  rcases h with h | h
  · go_enter Try.func33, Try.ntmps33
    go_wp2_with fail
    refine (width_0 _).mono ?_
    rintro e w1 ⟨rfl, hb1⟩
    go_wp2
    go_ret
    exact ⟨rfl, hb1⟩
  · have h1 : ¬ n < 0 := by omega
    go_enter Try.func33, Try.ntmps33
    go_wp2_with fail
    refine (width_0 _).mono ?_
    rintro e w1 ⟨rfl, hb1⟩
    go_wp2
    go_ret
    exact ⟨rfl, hb1⟩

set_option maxHeartbeats 1000000 in
theorem rroom_0 (n : Int) (w : World) :
    Calls Try.prog 34 #[.int .i64 0, .int .i64 n] w fun e w' => e = .returned (.int .i64 0) ∧ w = w' := by
  go_enter Try.func34, Try.ntmps34
  go_wp2_with fail
  refine (rwidth_0 _).mono ?_
  rintro e w1 ⟨rfl, rfl⟩
  go_wp2
  go_ret
  exact ⟨rfl, rfl⟩

set_option maxHeartbeats 1000000 in
theorem room_1 (n : Nat) (w : World) (h : n ≤ 1099511627776) :
    Calls Try.prog 33 #[.int .i64 1, .int .i64 n] w fun e w' => e = .returned (.int .i64 (roomN 1 n : Nat)) ∧ Below w.heap.size w w' := by
  have h1 : ¬ (n : Int) < 0 := by omega
  have h2 : ¬ 1099511627776 < (n : Int) := by omega
  have h3 : (n : Int) ≤ 1099511627776 := by omega
  go_enter Try.func33, Try.ntmps33
  go_wp2_with fail
  refine (width_1 _).mono ?_
  rintro e w1 ⟨rfl, hb1⟩
  go_wp2
  go_ret
  exact ⟨ret_int (by unfold roomN; omega), hb1⟩
set_option maxHeartbeats 1000000 in
theorem room_no_1 (n : Int) (w : World) (h : n < 0 ∨ 1099511627776 < n) :
    Calls Try.prog 33 #[.int .i64 1, .int .i64 n] w fun e w' => e = .returned (.int .i64 0) ∧ Below w.heap.size w w' := by
  rcases h with h | h
  · go_enter Try.func33, Try.ntmps33
    go_wp2_with fail
    refine (width_1 _).mono ?_
    rintro e w1 ⟨rfl, hb1⟩
    go_wp2
    go_ret
    exact ⟨rfl, hb1⟩
  · have h1 : ¬ n < 0 := by omega
    go_enter Try.func33, Try.ntmps33
    go_wp2_with fail
    refine (width_1 _).mono ?_
    rintro e w1 ⟨rfl, hb1⟩
    go_wp2
    go_ret
    exact ⟨rfl, hb1⟩

set_option maxHeartbeats 1000000 in
theorem rroom_1 (n : Nat) (w : World) (h : n ≤ 1099511627776) :
    Calls Try.prog 34 #[.int .i64 1, .int .i64 n] w fun e w' => e = .returned (.int .i64 (roomN 1 n : Nat)) ∧ w = w' := by
  have h1 : ¬ (n : Int) < 0 := by omega
  have h2 : ¬ 1099511627776 < (n : Int) := by omega
  have h3 : (n : Int) ≤ 1099511627776 := by omega
  go_enter Try.func34, Try.ntmps34
  go_wp2_with fail
  refine (rwidth_1 _).mono ?_
  rintro e w1 ⟨rfl, rfl⟩
  go_wp2_with fail
  refine (rwidth_1 _).mono ?_
  rintro e w1 ⟨rfl, rfl⟩
  go_wp2
  all_goals
    go_ret
    exact ⟨ret_int (by unfold roomN; omega), rfl⟩
set_option maxHeartbeats 1000000 in
theorem rroom_no_1 (n : Int) (w : World) (h : n < 0 ∨ 1099511627776 < n) :
    Calls Try.prog 34 #[.int .i64 1, .int .i64 n] w fun e w' => e = .returned (.int .i64 0) ∧ w = w' := by
  rcases h with h | h
  · go_enter Try.func34, Try.ntmps34
    go_wp2_with fail
    refine (rwidth_1 _).mono ?_
    rintro e w1 ⟨rfl, rfl⟩
    go_wp2
    go_ret
    exact ⟨rfl, rfl⟩
  · have h1 : ¬ n < 0 := by omega
    go_enter Try.func34, Try.ntmps34
    go_wp2_with fail
    refine (rwidth_1 _).mono ?_
    rintro e w1 ⟨rfl, rfl⟩
    go_wp2
    go_ret
    exact ⟨rfl, rfl⟩

set_option maxHeartbeats 1000000 in
theorem room_2 (n : Nat) (w : World) (h : n ≤ 1099511627776) :
    Calls Try.prog 33 #[.int .i64 2, .int .i64 n] w fun e w' => e = .returned (.int .i64 (roomN 8 n : Nat)) ∧ Below w.heap.size w w' := by
  have h1 : ¬ (n : Int) < 0 := by omega
  have h2 : ¬ 1099511627776 < (n : Int) := by omega
  have h3 : (n : Int) ≤ 1099511627776 := by omega
  go_enter Try.func33, Try.ntmps33
  go_wp2_with fail
  refine (width_2 _).mono ?_
  rintro e w1 ⟨rfl, hb1⟩
  go_wp2
  go_ret
  exact ⟨ret_int (by unfold roomN; omega), hb1⟩
set_option maxHeartbeats 1000000 in
theorem room_no_2 (n : Int) (w : World) (h : n < 0 ∨ 1099511627776 < n) :
    Calls Try.prog 33 #[.int .i64 2, .int .i64 n] w fun e w' => e = .returned (.int .i64 0) ∧ Below w.heap.size w w' := by
  rcases h with h | h
  · go_enter Try.func33, Try.ntmps33
    go_wp2_with fail
    refine (width_2 _).mono ?_
    rintro e w1 ⟨rfl, hb1⟩
    go_wp2
    go_ret
    exact ⟨rfl, hb1⟩
  · have h1 : ¬ n < 0 := by omega
    go_enter Try.func33, Try.ntmps33
    go_wp2_with fail
    refine (width_2 _).mono ?_
    rintro e w1 ⟨rfl, hb1⟩
    go_wp2
    go_ret
    exact ⟨rfl, hb1⟩

set_option maxHeartbeats 1000000 in
theorem rroom_2 (n : Nat) (w : World) (h : n ≤ 1099511627776) :
    Calls Try.prog 34 #[.int .i64 2, .int .i64 n] w fun e w' => e = .returned (.int .i64 (roomN 8 n : Nat)) ∧ w = w' := by
  have h1 : ¬ (n : Int) < 0 := by omega
  have h2 : ¬ 1099511627776 < (n : Int) := by omega
  have h3 : (n : Int) ≤ 1099511627776 := by omega
  go_enter Try.func34, Try.ntmps34
  go_wp2_with fail
  refine (rwidth_2 _).mono ?_
  rintro e w1 ⟨rfl, rfl⟩
  go_wp2_with fail
  refine (rwidth_2 _).mono ?_
  rintro e w1 ⟨rfl, rfl⟩
  go_wp2
  all_goals
    go_ret
    exact ⟨ret_int (by unfold roomN; omega), rfl⟩
set_option maxHeartbeats 1000000 in
theorem rroom_no_2 (n : Int) (w : World) (h : n < 0 ∨ 1099511627776 < n) :
    Calls Try.prog 34 #[.int .i64 2, .int .i64 n] w fun e w' => e = .returned (.int .i64 0) ∧ w = w' := by
  rcases h with h | h
  · go_enter Try.func34, Try.ntmps34
    go_wp2_with fail
    refine (rwidth_2 _).mono ?_
    rintro e w1 ⟨rfl, rfl⟩
    go_wp2
    go_ret
    exact ⟨rfl, rfl⟩
  · have h1 : ¬ n < 0 := by omega
    go_enter Try.func34, Try.ntmps34
    go_wp2_with fail
    refine (rwidth_2 _).mono ?_
    rintro e w1 ⟨rfl, rfl⟩
    go_wp2
    go_ret
    exact ⟨rfl, rfl⟩

set_option maxHeartbeats 1000000 in
theorem room_3 (n : Nat) (w : World) (h : n ≤ 1099511627776) :
    Calls Try.prog 33 #[.int .i64 3, .int .i64 n] w fun e w' => e = .returned (.int .i64 (roomN 16 n : Nat)) ∧ Below w.heap.size w w' := by
  have h1 : ¬ (n : Int) < 0 := by omega
  have h2 : ¬ 1099511627776 < (n : Int) := by omega
  have h3 : (n : Int) ≤ 1099511627776 := by omega
  go_enter Try.func33, Try.ntmps33
  go_wp2_with fail
  refine (width_3 _).mono ?_
  rintro e w1 ⟨rfl, hb1⟩
  go_wp2
  go_ret
  exact ⟨ret_int (by unfold roomN; omega), hb1⟩
set_option maxHeartbeats 1000000 in
theorem room_no_3 (n : Int) (w : World) (h : n < 0 ∨ 1099511627776 < n) :
    Calls Try.prog 33 #[.int .i64 3, .int .i64 n] w fun e w' => e = .returned (.int .i64 0) ∧ Below w.heap.size w w' := by
  rcases h with h | h
  · go_enter Try.func33, Try.ntmps33
    go_wp2_with fail
    refine (width_3 _).mono ?_
    rintro e w1 ⟨rfl, hb1⟩
    go_wp2
    go_ret
    exact ⟨rfl, hb1⟩
  · have h1 : ¬ n < 0 := by omega
    go_enter Try.func33, Try.ntmps33
    go_wp2_with fail
    refine (width_3 _).mono ?_
    rintro e w1 ⟨rfl, hb1⟩
    go_wp2
    go_ret
    exact ⟨rfl, hb1⟩

set_option maxHeartbeats 1000000 in
theorem rroom_3 (n : Nat) (w : World) (h : n ≤ 1099511627776) :
    Calls Try.prog 34 #[.int .i64 3, .int .i64 n] w fun e w' => e = .returned (.int .i64 (roomN 16 n : Nat)) ∧ w = w' := by
  have h1 : ¬ (n : Int) < 0 := by omega
  have h2 : ¬ 1099511627776 < (n : Int) := by omega
  have h3 : (n : Int) ≤ 1099511627776 := by omega
  go_enter Try.func34, Try.ntmps34
  go_wp2_with fail
  refine (rwidth_3 _).mono ?_
  rintro e w1 ⟨rfl, rfl⟩
  go_wp2_with fail
  refine (rwidth_3 _).mono ?_
  rintro e w1 ⟨rfl, rfl⟩
  go_wp2
  all_goals
    go_ret
    exact ⟨ret_int (by unfold roomN; omega), rfl⟩
set_option maxHeartbeats 1000000 in
theorem rroom_no_3 (n : Int) (w : World) (h : n < 0 ∨ 1099511627776 < n) :
    Calls Try.prog 34 #[.int .i64 3, .int .i64 n] w fun e w' => e = .returned (.int .i64 0) ∧ w = w' := by
  rcases h with h | h
  · go_enter Try.func34, Try.ntmps34
    go_wp2_with fail
    refine (rwidth_3 _).mono ?_
    rintro e w1 ⟨rfl, rfl⟩
    go_wp2
    go_ret
    exact ⟨rfl, rfl⟩
  · have h1 : ¬ n < 0 := by omega
    go_enter Try.func34, Try.ntmps34
    go_wp2_with fail
    refine (rwidth_3 _).mono ?_
    rintro e w1 ⟨rfl, rfl⟩
    go_wp2
    go_ret
    exact ⟨rfl, rfl⟩

set_option maxHeartbeats 1000000 in
theorem room_4 (n : Nat) (w : World) (h : n ≤ 1099511627776) :
    Calls Try.prog 33 #[.int .i64 4, .int .i64 n] w fun e w' => e = .returned (.int .i64 (roomN 32 n : Nat)) ∧ Below w.heap.size w w' := by
  have h1 : ¬ (n : Int) < 0 := by omega
  have h2 : ¬ 1099511627776 < (n : Int) := by omega
  have h3 : (n : Int) ≤ 1099511627776 := by omega
  go_enter Try.func33, Try.ntmps33
  go_wp2_with fail
  refine (width_4 _).mono ?_
  rintro e w1 ⟨rfl, hb1⟩
  go_wp2
  go_ret
  exact ⟨ret_int (by unfold roomN; omega), hb1⟩
set_option maxHeartbeats 1000000 in
theorem room_no_4 (n : Int) (w : World) (h : n < 0 ∨ 1099511627776 < n) :
    Calls Try.prog 33 #[.int .i64 4, .int .i64 n] w fun e w' => e = .returned (.int .i64 0) ∧ Below w.heap.size w w' := by
  rcases h with h | h
  · go_enter Try.func33, Try.ntmps33
    go_wp2_with fail
    refine (width_4 _).mono ?_
    rintro e w1 ⟨rfl, hb1⟩
    go_wp2
    go_ret
    exact ⟨rfl, hb1⟩
  · have h1 : ¬ n < 0 := by omega
    go_enter Try.func33, Try.ntmps33
    go_wp2_with fail
    refine (width_4 _).mono ?_
    rintro e w1 ⟨rfl, hb1⟩
    go_wp2
    go_ret
    exact ⟨rfl, hb1⟩

set_option maxHeartbeats 1000000 in
theorem rroom_4 (n : Nat) (w : World) (h : n ≤ 1099511627776) :
    Calls Try.prog 34 #[.int .i64 4, .int .i64 n] w fun e w' => e = .returned (.int .i64 (roomN 32 n : Nat)) ∧ w = w' := by
  have h1 : ¬ (n : Int) < 0 := by omega
  have h2 : ¬ 1099511627776 < (n : Int) := by omega
  have h3 : (n : Int) ≤ 1099511627776 := by omega
  go_enter Try.func34, Try.ntmps34
  go_wp2_with fail
  refine (rwidth_4 _).mono ?_
  rintro e w1 ⟨rfl, rfl⟩
  go_wp2_with fail
  refine (rwidth_4 _).mono ?_
  rintro e w1 ⟨rfl, rfl⟩
  go_wp2
  all_goals
    go_ret
    exact ⟨ret_int (by unfold roomN; omega), rfl⟩
set_option maxHeartbeats 1000000 in
theorem rroom_no_4 (n : Int) (w : World) (h : n < 0 ∨ 1099511627776 < n) :
    Calls Try.prog 34 #[.int .i64 4, .int .i64 n] w fun e w' => e = .returned (.int .i64 0) ∧ w = w' := by
  rcases h with h | h
  · go_enter Try.func34, Try.ntmps34
    go_wp2_with fail
    refine (rwidth_4 _).mono ?_
    rintro e w1 ⟨rfl, rfl⟩
    go_wp2
    go_ret
    exact ⟨rfl, rfl⟩
  · have h1 : ¬ n < 0 := by omega
    go_enter Try.func34, Try.ntmps34
    go_wp2_with fail
    refine (rwidth_4 _).mono ?_
    rintro e w1 ⟨rfl, rfl⟩
    go_wp2
    go_ret
    exact ⟨rfl, rfl⟩

set_option maxHeartbeats 1000000 in
theorem room_5 (n : Nat) (w : World) (h : n ≤ 1099511627776) :
    Calls Try.prog 33 #[.int .i64 5, .int .i64 n] w fun e w' => e = .returned (.int .i64 (roomN 64 n : Nat)) ∧ Below w.heap.size w w' := by
  have h1 : ¬ (n : Int) < 0 := by omega
  have h2 : ¬ 1099511627776 < (n : Int) := by omega
  have h3 : (n : Int) ≤ 1099511627776 := by omega
  go_enter Try.func33, Try.ntmps33
  go_wp2_with fail
  refine (width_5 _).mono ?_
  rintro e w1 ⟨rfl, hb1⟩
  go_wp2
  go_ret
  exact ⟨ret_int (by unfold roomN; omega), hb1⟩
set_option maxHeartbeats 1000000 in
theorem room_no_5 (n : Int) (w : World) (h : n < 0 ∨ 1099511627776 < n) :
    Calls Try.prog 33 #[.int .i64 5, .int .i64 n] w fun e w' => e = .returned (.int .i64 0) ∧ Below w.heap.size w w' := by
  rcases h with h | h
  · go_enter Try.func33, Try.ntmps33
    go_wp2_with fail
    refine (width_5 _).mono ?_
    rintro e w1 ⟨rfl, hb1⟩
    go_wp2
    go_ret
    exact ⟨rfl, hb1⟩
  · have h1 : ¬ n < 0 := by omega
    go_enter Try.func33, Try.ntmps33
    go_wp2_with fail
    refine (width_5 _).mono ?_
    rintro e w1 ⟨rfl, hb1⟩
    go_wp2
    go_ret
    exact ⟨rfl, hb1⟩

set_option maxHeartbeats 1000000 in
theorem rroom_5 (n : Nat) (w : World) (h : n ≤ 1099511627776) :
    Calls Try.prog 34 #[.int .i64 5, .int .i64 n] w fun e w' => e = .returned (.int .i64 (roomN 64 n : Nat)) ∧ w = w' := by
  have h1 : ¬ (n : Int) < 0 := by omega
  have h2 : ¬ 1099511627776 < (n : Int) := by omega
  have h3 : (n : Int) ≤ 1099511627776 := by omega
  go_enter Try.func34, Try.ntmps34
  go_wp2_with fail
  refine (rwidth_5 _).mono ?_
  rintro e w1 ⟨rfl, rfl⟩
  go_wp2_with fail
  refine (rwidth_5 _).mono ?_
  rintro e w1 ⟨rfl, rfl⟩
  go_wp2
  all_goals
    go_ret
    exact ⟨ret_int (by unfold roomN; omega), rfl⟩
set_option maxHeartbeats 1000000 in
theorem rroom_no_5 (n : Int) (w : World) (h : n < 0 ∨ 1099511627776 < n) :
    Calls Try.prog 34 #[.int .i64 5, .int .i64 n] w fun e w' => e = .returned (.int .i64 0) ∧ w = w' := by
  rcases h with h | h
  · go_enter Try.func34, Try.ntmps34
    go_wp2_with fail
    refine (rwidth_5 _).mono ?_
    rintro e w1 ⟨rfl, rfl⟩
    go_wp2
    go_ret
    exact ⟨rfl, rfl⟩
  · have h1 : ¬ n < 0 := by omega
    go_enter Try.func34, Try.ntmps34
    go_wp2_with fail
    refine (rwidth_5 _).mono ?_
    rintro e w1 ⟨rfl, rfl⟩
    go_wp2
    go_ret
    exact ⟨rfl, rfl⟩

set_option maxHeartbeats 1000000 in
theorem fits_ok (c : Int) (n : Nat) (w : World) (h0 : 0 ≤ c) (h : c < 6) :
    Calls Try.prog 31 #[.int .i64 c, .int .u64 n] w fun e w' => e = .returned (.bool (decide (n < 2 ^ widthOf c.toNat))) ∧ Below w.heap.size w w' := by
  have hw := widthOf_le c.toNat
  go_enter Try.func31, Try.ntmps31
  go_wp2_with ((go_at_call 27; refine (width_ok c _ h0 h).mono ?_; rintro e w1 ⟨rfl, hb1⟩))
  go_ret
  exact ⟨ret_bool (shr_zero n _), hb1⟩
set_option maxHeartbeats 1000000 in
theorem fits_no (c : Int) (n : Nat) (w : World) (h : c < 0 ∨ 6 ≤ c) :
    Calls Try.prog 31 #[.int .i64 c, .int .u64 n] w fun e w' => e = .returned (.bool false) ∧ Below w.heap.size w w' := by
  go_enter Try.func31, Try.ntmps31
  go_wp2_with ((go_at_call 27; refine (width_no c _ h).mono ?_; rintro e w1 ⟨rfl, hb1⟩))
  go_ret
  exact ⟨rfl, hb1⟩
set_option maxHeartbeats 1000000 in
theorem room_bad (c n : Int) (w : World) (h : c < 0 ∨ 6 ≤ c) :
    Calls Try.prog 33 #[.int .i64 c, .int .i64 n] w fun e w' => e = .returned (.int .i64 0) ∧ Below w.heap.size w w' := by
  go_enter Try.func33, Try.ntmps33
  go_wp2_with ((go_at_call 27; refine (width_no c _ h).mono ?_; rintro e w1 ⟨rfl, hb1⟩))
  go_ret
  exact ⟨rfl, hb1⟩
set_option maxHeartbeats 1000000 in
theorem rroom_bad (c n : Int) (w : World) (h : c < 0 ∨ 6 ≤ c) :
    Calls Try.prog 34 #[.int .i64 c, .int .i64 n] w fun e w' => e = .returned (.int .i64 0) ∧ w = w' := by
  go_enter Try.func34, Try.ntmps34
  go_wp2_with ((go_at_call 28; refine (rwidth_no c _ h).mono ?_; rintro e w1 ⟨rfl, rfl⟩))
  go_ret
  exact ⟨rfl, rfl⟩
set_option maxHeartbeats 1000000 in
theorem rfits_no (c : Int) (n : Nat) (w : World) (h : c < 0 ∨ 6 ≤ c) :
    Calls Try.prog 32 #[.int .i64 c, .int .u64 n] w fun e w' => e = .returned (.bool false) ∧ w = w' := by
  go_enter Try.func32, Try.ntmps32
  go_wp2_with ((go_at_call 28; refine (rwidth_no c _ h).mono ?_; rintro e w1 ⟨rfl, rfl⟩))
  go_ret
  exact ⟨rfl, rfl⟩
set_option maxHeartbeats 1000000 in
theorem rfits_ok (c : Int) (n : Nat) (w : World) (h0 : 0 ≤ c) (h : c < 6) (hn : W64 n) :
    Calls Try.prog 32 #[.int .i64 c, .int .u64 n] w fun e w' => e = .returned (.bool (decide (n < 2 ^ widthOf c.toNat))) ∧ w = w' := by
  have hw := widthOf_le c.toNat
  go_enter Try.func32, Try.ntmps32
  go_wp2_with fail
  refine (rwidth_ok c _ h0 h).mono ?_
  rintro e w1 ⟨rfl, rfl⟩
  generalize hWW : widthOf c.toNat = W at *
  have HW := Lib.hid hWW
  clear hWW
  go_wp2
  go_loop [1, 6] (fun v i => ∃ k : Nat, k ≤ W ∧ i = .int .i64 k ∧ v = .int .u64 (n / 2 ^ k : Nat)) (fun _ i => W - (intOf i).toNat)
  case atStart => exact ⟨0, by omega, rfl, by simp⟩
  case round =>
    obtain ⟨k, hk, rfl, rfl⟩ := hrel
    have hwn : W64 (n / 2 ^ k) := Nat.lt_of_le_of_lt (Nat.div_le_self _ _) hn
    have hs : n / 2 ^ (k + 1) = n / 2 ^ k / 2 := (div_pow_succ n k).symm
    generalize hq : n / 2 ^ k = q at *
    have hwr := wrap_div hwn (d := 2) (by decide)
    have HS := Lib.hid hs
    have HQ := Lib.hid hq
    have HN := Lib.hid hn
    clear hs hq hn hwn
    by_cases hlt : k < W
    · go_wp2
      go_round
      case rel => exact ⟨k + 1, by omega, by go_num, by rw [HS.out]; go_num⟩
      case measure => simp [intOf]; omega
    · obtain rfl : k = W := by omega
      go_wp2
      go_ret
      exact ⟨by rw [HW.out]; exact ret_bool (zero_lt HQ.out), rfl⟩

end Go.Proofs.Ytcpapdjjeinpmaa
