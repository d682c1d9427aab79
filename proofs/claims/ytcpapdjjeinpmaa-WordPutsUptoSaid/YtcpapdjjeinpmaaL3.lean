/- Lemmas and contracts used by the proofs of this seat's laws (part L3); each theorem bears its own conditions. -/
import Derived.Test.YtcpapdjjeinpmaaRows
import Derived.Test.YtcpapdjjeinpmaaNum
import Derived.Test.YtcpapdjjeinpmaaMem
import Derived.Test.YtcpapdjjeinpmaaWordB
import Derived.Test.YtcpapdjjeinpmaaS2
import Derived.Test.YtcpapdjjeinpmaaS3
import Derived.Test.YtcpapdjjeinpmaaS5
import Derived.Test.YtcpapdjjeinpmaaS6
import Derived.Test.YtcpapdjjeinpmaaS9
import Derived.WalkKit
import Derived.WalkSpells
import Derived.WalkLawsBesides
import Derived.Lib.Hide
import Derived.BigQuiet
import Derived.StillTailTactics
import Derived.Deep.RegionHeld3
import Derived.Deep.QuietTactic
namespace Go.Proofs.Ytcpapdjjeinpmaa
open Go.RowKit
set_option linter.unusedVariables false

/-- what Get tells, of words that are not too many -/
def gGet (l : List Nat) (c i : Int) : Nat := if 1 ≤ c ∧ c ≤ 5 ∧ 0 ≤ i ∧ i ≤ 1099511627776 then getN (widthOf c.toNat) l i.toNat else 0
def gRoom (c n : Int) : Nat := if 1 ≤ c ∧ c ≤ 5 ∧ 0 ≤ n ∧ n ≤ 1099511627776 then roomN (widthOf c.toNat) n.toNat else 0
theorem gGet_no {l : List Nat} {c i : Int} (h : ¬ (1 ≤ c ∧ c ≤ 5 ∧ 0 ≤ i ∧ i ≤ 1099511627776)) : gGet l c i = 0 := if_neg h
theorem gRoom_no {c i : Int} (h : ¬ (1 ≤ c ∧ c ≤ 5 ∧ 0 ≤ i ∧ i ≤ 1099511627776)) : gRoom c i = 0 := if_neg h
theorem getN_far {W : Nat} {l : List Nat} {i : Nat} (hW : 1 ≤ W) (hl : l.length ≤ 1048576) (hi : 1099511627776 < i) : getN W l i = 0 := by
  have h1 : i * 1 ≤ i * W := Nat.mul_le_mul_left _ hW
  unfold getN
  rw [getD_ge (by omega), Nat.zero_div, Nat.zero_mod]
set_option maxHeartbeats 1000000 in
theorem get_zero (l : List Nat) (i : Int) (cp : Nat) (A : Option Addr) (w : World) :
    Calls Try.prog 29 #[.slice A l.length cp, .int .i64 0, .int .i64 i] w fun e w' => e = .returned (.int .u64 0) ∧ Below w.heap.size w w' := by
  go_enter Try.func29, Try.ntmps29
  go_wp2_with fail
  refine (width_0 _).mono ?_
  rintro e w1 ⟨rfl, hb1⟩
  go_wp2
  go_ret
  exact ⟨rfl, hb1⟩
set_option maxHeartbeats 1000000 in
theorem get_bad (l : List Nat) (c i : Int) (cp : Nat) (A : Option Addr) (w : World) (h : c < 0 ∨ 6 ≤ c) :
    Calls Try.prog 29 #[.slice A l.length cp, .int .i64 c, .int .i64 i] w fun e w' => e = .returned (.int .u64 0) ∧ Below w.heap.size w w' := by
  go_enter Try.func29, Try.ntmps29
  go_wp2_with fail
  refine (width_no c _ h).mono ?_
  rintro e w1 ⟨rfl, hb1⟩
  go_wp2
  go_ret
  exact ⟨rfl, hb1⟩
set_option maxHeartbeats 1000000 in
theorem rget_zero (l : List Nat) (i : Int) (cp : Nat) (A : Option Addr) (w : World) :
    Calls Try.prog 30 #[.slice A l.length cp, .int .i64 0, .int .i64 i] w fun e w' => e = .returned (.int .u64 0) ∧ w = w' := by
  go_enter Try.func30, Try.ntmps30
  go_wp2_with fail
  refine (rwidth_0 _).mono ?_
  rintro e w1 ⟨rfl, rfl⟩
  go_wp2
  go_ret
  exact ⟨rfl, rfl⟩
set_option maxHeartbeats 1000000 in
theorem rget_bad (l : List Nat) (c i : Int) (cp : Nat) (A : Option Addr) (w : World) (h : c < 0 ∨ 6 ≤ c) :
    Calls Try.prog 30 #[.slice A l.length cp, .int .i64 c, .int .i64 i] w fun e w' => e = .returned (.int .u64 0) ∧ w = w' := by
  go_enter Try.func30, Try.ntmps30
  go_wp2_with fail
  refine (rwidth_no c _ h).mono ?_
  rintro e w1 ⟨rfl, rfl⟩
  go_wp2
  go_ret
  exact ⟨rfl, rfl⟩

set_option maxHeartbeats 1000000 in
theorem get_neg_1 (l : List Nat) (i : Int) (cp : Nat) (A : Option Addr) (w : World) (h : i < 0) :
    Calls Try.prog 29 #[.slice A l.length cp, .int .i64 1, .int .i64 i] w fun e w' => e = .returned (.int .u64 0) ∧ Below w.heap.size w w' := by
  go_enter Try.func29, Try.ntmps29
  go_wp2_with fail
  refine (width_1 _).mono ?_
  rintro e w1 ⟨rfl, hb1⟩
  go_wp2
  go_ret
  exact ⟨rfl, hb1⟩
set_option maxHeartbeats 1000000 in
theorem rget_neg_1 (l : List Nat) (i : Int) (cp : Nat) (A : Option Addr) (w : World) (h : i < 0) :
    Calls Try.prog 30 #[.slice A l.length cp, .int .i64 1, .int .i64 i] w fun e w' => e = .returned (.int .u64 0) ∧ w = w' := by
  go_enter Try.func30, Try.ntmps30
  go_wp2_with fail
  refine (rwidth_1 _).mono ?_
  rintro e w1 ⟨rfl, rfl⟩
  go_wp2
  go_ret
  exact ⟨rfl, rfl⟩

set_option maxHeartbeats 1000000 in
theorem get_neg_2 (l : List Nat) (i : Int) (cp : Nat) (A : Option Addr) (w : World) (h : i < 0) :
    Calls Try.prog 29 #[.slice A l.length cp, .int .i64 2, .int .i64 i] w fun e w' => e = .returned (.int .u64 0) ∧ Below w.heap.size w w' := by
  go_enter Try.func29, Try.ntmps29
  go_wp2_with fail
  refine (width_2 _).mono ?_
  rintro e w1 ⟨rfl, hb1⟩
  go_wp2
  go_ret
  exact ⟨rfl, hb1⟩
set_option maxHeartbeats 1000000 in
theorem rget_neg_2 (l : List Nat) (i : Int) (cp : Nat) (A : Option Addr) (w : World) (h : i < 0) :
    Calls Try.prog 30 #[.slice A l.length cp, .int .i64 2, .int .i64 i] w fun e w' => e = .returned (.int .u64 0) ∧ w = w' := by
  go_enter Try.func30, Try.ntmps30
  go_wp2_with fail
  refine (rwidth_2 _).mono ?_
  rintro e w1 ⟨rfl, rfl⟩
  go_wp2
  go_ret
  exact ⟨rfl, rfl⟩

set_option maxHeartbeats 1000000 in
theorem get_neg_3 (l : List Nat) (i : Int) (cp : Nat) (A : Option Addr) (w : World) (h : i < 0) :
    Calls Try.prog 29 #[.slice A l.length cp, .int .i64 3, .int .i64 i] w fun e w' => e = .returned (.int .u64 0) ∧ Below w.heap.size w w' := by
  go_enter Try.func29, Try.ntmps29
  go_wp2_with fail
  refine (width_3 _).mono ?_
  rintro e w1 ⟨rfl, hb1⟩
  go_wp2
  go_ret
  exact ⟨rfl, hb1⟩
set_option maxHeartbeats 1000000 in
theorem rget_neg_3 (l : List Nat) (i : Int) (cp : Nat) (A : Option Addr) (w : World) (h : i < 0) :
    Calls Try.prog 30 #[.slice A l.length cp, .int .i64 3, .int .i64 i] w fun e w' => e = .returned (.int .u64 0) ∧ w = w' := by
  go_enter Try.func30, Try.ntmps30
  go_wp2_with fail
  refine (rwidth_3 _).mono ?_
  rintro e w1 ⟨rfl, rfl⟩
  go_wp2
  go_ret
  exact ⟨rfl, rfl⟩

set_option maxHeartbeats 1000000 in
theorem get_neg_4 (l : List Nat) (i : Int) (cp : Nat) (A : Option Addr) (w : World) (h : i < 0) :
    Calls Try.prog 29 #[.slice A l.length cp, .int .i64 4, .int .i64 i] w fun e w' => e = .returned (.int .u64 0) ∧ Below w.heap.size w w' := by
  go_enter Try.func29, Try.ntmps29
  go_wp2_with fail
  refine (width_4 _).mono ?_
  rintro e w1 ⟨rfl, hb1⟩
  go_wp2
  go_ret
  exact ⟨rfl, hb1⟩
set_option maxHeartbeats 1000000 in
theorem rget_neg_4 (l : List Nat) (i : Int) (cp : Nat) (A : Option Addr) (w : World) (h : i < 0) :
    Calls Try.prog 30 #[.slice A l.length cp, .int .i64 4, .int .i64 i] w fun e w' => e = .returned (.int .u64 0) ∧ w = w' := by
  go_enter Try.func30, Try.ntmps30
  go_wp2_with fail
  refine (rwidth_4 _).mono ?_
  rintro e w1 ⟨rfl, rfl⟩
  go_wp2
  go_ret
  exact ⟨rfl, rfl⟩

set_option maxHeartbeats 1000000 in
theorem get_neg_5 (l : List Nat) (i : Int) (cp : Nat) (A : Option Addr) (w : World) (h : i < 0) :
    Calls Try.prog 29 #[.slice A l.length cp, .int .i64 5, .int .i64 i] w fun e w' => e = .returned (.int .u64 0) ∧ Below w.heap.size w w' := by
  go_enter Try.func29, Try.ntmps29
  go_wp2_with fail
  refine (width_5 _).mono ?_
  rintro e w1 ⟨rfl, hb1⟩
  go_wp2
  go_ret
  exact ⟨rfl, hb1⟩
set_option maxHeartbeats 1000000 in
theorem rget_neg_5 (l : List Nat) (i : Int) (cp : Nat) (A : Option Addr) (w : World) (h : i < 0) :
    Calls Try.prog 30 #[.slice A l.length cp, .int .i64 5, .int .i64 i] w fun e w' => e = .returned (.int .u64 0) ∧ w = w' := by
  go_enter Try.func30, Try.ntmps30
  go_wp2_with fail
  refine (rwidth_5 _).mono ?_
  rintro e w1 ⟨rfl, rfl⟩
  go_wp2
  go_ret
  exact ⟨rfl, rfl⟩

theorem get_all (l : List Nat) (c i : Int) (B cp : Nat) (A : Option Addr) (w : World) (hA : RdS w B A (u64s l)) (hB : B ≤ w.heap.size) (hl : ∀ n ∈ l, W64 n) (hm : l.length ≤ 1048576) (hi : i ≤ 9223372036854775807) :
    Calls Try.prog 29 #[.slice A l.length cp, .int .i64 c, .int .i64 i] w fun e w' => e = .returned (.int .u64 (gGet l c i : Nat)) ∧ Below w.heap.size w w' := by
  have hc : c = 0 ∨ (c < 0 ∨ 6 ≤ c) ∨ c = 1 ∨ c = 2 ∨ c = 3 ∨ c = 4 ∨ c = 5 := by omega
  rcases hc with rfl | h | hc
  · rw [gGet_no (by omega)]; exact get_zero l i cp A w
  · rw [gGet_no (by omega)]; exact get_bad l c i cp A w h
  · by_cases hn : i < 0
    · rw [gGet_no (by omega)]
      rcases hc with rfl | rfl | rfl | rfl | rfl
      · exact get_neg_1 l i cp A w hn
      · exact get_neg_2 l i cp A w hn
      · exact get_neg_3 l i cp A w hn
      · exact get_neg_4 l i cp A w hn
      · exact get_neg_5 l i cp A w hn
    · obtain ⟨i, rfl⟩ := Int.eq_ofNat_of_zero_le (show 0 ≤ i by omega)
      by_cases hf : i ≤ 1099511627776
      · have e : gGet l c i = getN (widthOf c.toNat) l i := by unfold gGet; rw [if_pos (by omega), Int.toNat_natCast]
        rw [e]
        rcases hc with rfl | rfl | rfl | rfl | rfl
        · exact get_1 l i B cp A w hA hB hl (by omega) (by omega)
        · exact get_2 l i B cp A w hA hB hl (by omega) (by omega)
        · exact get_3 l i B cp A w hA hB hl (by omega) (by omega)
        · exact get_4 l i B cp A w hA hB hl (by omega) (by omega)
        · exact get_5 l i B cp A w hA hB hl (by omega) (by omega)
      · rw [gGet_no (by omega)]
        rcases hc with rfl | rfl | rfl | rfl | rfl
        · have h := get_1 l i B cp A w hA hB hl (by omega) (by omega); rw [getN_far (by decide) hm (by omega)] at h; exact h
        · have h := get_2 l i B cp A w hA hB hl (by omega) (by omega); rw [getN_far (by decide) hm (by omega)] at h; exact h
        · have h := get_3 l i B cp A w hA hB hl (by omega) (by omega); rw [getN_far (by decide) hm (by omega)] at h; exact h
        · have h := get_4 l i B cp A w hA hB hl (by omega) (by omega); rw [getN_far (by decide) hm (by omega)] at h; exact h
        · have h := get_5 l i B cp A w hA hB hl (by omega) (by omega); rw [getN_far (by decide) hm (by omega)] at h; exact h
theorem rget_all (l : List Nat) (c i : Int) (B cp : Nat) (A : Option Addr) (w : World) (hA : RdS w B A (u64s l)) (hl : ∀ n ∈ l, W64 n) (hm : l.length ≤ 1048576) (hi : i ≤ 9223372036854775807) :
    Calls Try.prog 30 #[.slice A l.length cp, .int .i64 c, .int .i64 i] w fun e w' => e = .returned (.int .u64 (gGet l c i : Nat)) ∧ w = w' := by
  have hc : c = 0 ∨ (c < 0 ∨ 6 ≤ c) ∨ c = 1 ∨ c = 2 ∨ c = 3 ∨ c = 4 ∨ c = 5 := by omega
  rcases hc with rfl | h | hc
  · rw [gGet_no (by omega)]; exact rget_zero l i cp A w
  · rw [gGet_no (by omega)]; exact rget_bad l c i cp A w h
  · by_cases hn : i < 0
    · rw [gGet_no (by omega)]
      rcases hc with rfl | rfl | rfl | rfl | rfl
      · exact rget_neg_1 l i cp A w hn
      · exact rget_neg_2 l i cp A w hn
      · exact rget_neg_3 l i cp A w hn
      · exact rget_neg_4 l i cp A w hn
      · exact rget_neg_5 l i cp A w hn
    · obtain ⟨i, rfl⟩ := Int.eq_ofNat_of_zero_le (show 0 ≤ i by omega)
      by_cases hf : i ≤ 1099511627776
      · have e : gGet l c i = getN (widthOf c.toNat) l i := by unfold gGet; rw [if_pos (by omega), Int.toNat_natCast]
        rw [e]
        rcases hc with rfl | rfl | rfl | rfl | rfl
        · exact rget_1 l i B cp A w hA hl (by omega) hf
        · exact rget_2 l i B cp A w hA hl (by omega) hf
        · exact rget_3 l i B cp A w hA hl (by omega) hf
        · exact rget_4 l i B cp A w hA hl (by omega) hf
        · exact rget_5 l i B cp A w hA hl (by omega) hf
      · rw [gGet_no (by omega)]
        rcases hc with rfl | rfl | rfl | rfl | rfl
        · exact rget_no_1 l i cp A w hf
        · exact rget_no_2 l i cp A w hf
        · exact rget_no_3 l i cp A w hf
        · exact rget_no_4 l i cp A w hf
        · exact rget_no_5 l i cp A w hf
theorem room_all (c n : Int) (w : World) :
    Calls Try.prog 33 #[.int .i64 c, .int .i64 n] w fun e w' => e = .returned (.int .i64 (gRoom c n : Nat)) ∧ Below w.heap.size w w' := by
  have hc : (c < 0 ∨ 6 ≤ c) ∨ c = 0 ∨ c = 1 ∨ c = 2 ∨ c = 3 ∨ c = 4 ∨ c = 5 := by omega
  rcases hc with h | hc
  · rw [gRoom_no (by omega)]; exact room_bad c n w h
  · by_cases hn : n < 0 ∨ 1099511627776 < n
    · rw [gRoom_no (by omega)]
      rcases hc with rfl | rfl | rfl | rfl | rfl | rfl
      · exact room_no_0 n w hn
      · exact room_no_1 n w hn
      · exact room_no_2 n w hn
      · exact room_no_3 n w hn
      · exact room_no_4 n w hn
      · exact room_no_5 n w hn
    · obtain ⟨n, rfl⟩ := Int.eq_ofNat_of_zero_le (show 0 ≤ n by omega)
      have hf : n ≤ 1099511627776 := by omega
      rcases hc with rfl | hc
      · rw [gRoom_no (by omega)]; have h := room_0 n w hf; rw [show roomN 0 n = 0 by unfold roomN; omega] at h; exact h
      · have e : gRoom c n = roomN (widthOf c.toNat) n := by unfold gRoom; rw [if_pos (by omega), Int.toNat_natCast]
        rw [e]
        rcases hc with rfl | rfl | rfl | rfl | rfl
        · exact room_1 n w hf
        · exact room_2 n w hf
        · exact room_3 n w hf
        · exact room_4 n w hf
        · exact room_5 n w hf
theorem rroom_all (c n : Int) (w : World) :
    Calls Try.prog 34 #[.int .i64 c, .int .i64 n] w fun e w' => e = .returned (.int .i64 (gRoom c n : Nat)) ∧ w = w' := by
  have hc : (c < 0 ∨ 6 ≤ c) ∨ c = 0 ∨ c = 1 ∨ c = 2 ∨ c = 3 ∨ c = 4 ∨ c = 5 := by omega
  rcases hc with h | hc
  · rw [gRoom_no (by omega)]; exact rroom_bad c n w h
  · rcases hc with rfl | hc
    · rw [gRoom_no (by omega)]; exact rroom_0 n w
    · by_cases hn : n < 0 ∨ 1099511627776 < n
      · rw [gRoom_no (by omega)]
        rcases hc with rfl | rfl | rfl | rfl | rfl
        · exact rroom_no_1 n w hn
        · exact rroom_no_2 n w hn
        · exact rroom_no_3 n w hn
        · exact rroom_no_4 n w hn
        · exact rroom_no_5 n w hn
      · obtain ⟨n, rfl⟩ := Int.eq_ofNat_of_zero_le (show 0 ≤ n by omega)
        have hf : n ≤ 1099511627776 := by omega
        have e : gRoom c n = roomN (widthOf c.toNat) n := by unfold gRoom; rw [if_pos (by omega), Int.toNat_natCast]
        rw [e]
        rcases hc with rfl | rfl | rfl | rfl | rfl
        · exact rroom_1 n w hf
        · exact rroom_2 n w hf
        · exact rroom_3 n w hf
        · exact rroom_4 n w hf
        · exact rroom_5 n w hf
set_option maxHeartbeats 2000000 in
theorem wordGets (l : List Nat) (A : Option Addr) (cp : Nat) (c i : Int) (n : Nat) (w : World) (hA : RdS w w.heap.size A (u64s l)) (h64 : ∀ n ∈ l, W64 n) (_hm : l.length ≤ cp) (_hc : -9223372036854775808 ≤ c ∧ c ≤ 9223372036854775807) (hi : -9223372036854775808 ≤ i ∧ i ≤ 9223372036854775807) (hn : W64 n) (hl : l.length ≤ 1048576) :
    Calls Try.prog 6 #[.slice A l.length cp, .int .i64 c, .int .i64 i, .int .u64 n] w fun e w' => e = .returned (.bool true) ∧ Below w.heap.size w w' := by
  by_cases h : c < 0 ∨ 6 ≤ c
  · go_enter Try.func6, Try.ntmps6
    go_wp2_with fail
    refine (width_no c _ h).mono ?_
    rintro e w1 ⟨rfl, hb1⟩
    go_wp2_with fail
    refine (rwidth_no c _ h).mono ?_
    rintro e w2 ⟨rfl, rfl⟩
    go_wp2_with fail
    refine (get_all l c i w.heap.size cp A _ (hA.below hb1) hb1.size h64 hl hi.2).mono ?_
    rintro e w2 ⟨rfl, hb2⟩
    go_wp2_with fail
    refine (rget_all l c i w.heap.size cp A _ (hA.below (bstep hb1 hb2)) h64 hl hi.2).mono ?_
    rintro e w3 ⟨rfl, rfl⟩
    go_wp2_with fail
    refine (fits_no c n _ h).mono ?_
    rintro e w3 ⟨rfl, hb3⟩
    go_wp2_with fail
    refine (rfits_no c n _ h).mono ?_
    rintro e w4 ⟨rfl, rfl⟩
    go_wp2_with fail
    refine (room_all c i _).mono ?_
    rintro e w4 ⟨rfl, hb4⟩
    go_wp2_with fail
    refine (rroom_all c i _).mono ?_
    rintro e w5 ⟨rfl, rfl⟩
    go_wp2_with fail
    refine (awake1 _).mono ?_
    rintro e w5 ⟨rfl, hb5⟩
    go_wp2
    go_ret
    exact ⟨rfl, bstep (bstep (bstep (bstep hb1 hb2) hb3) hb4) hb5⟩
  · have h0 : 0 ≤ c := by omega
    have h6 : c < 6 := by omega
    go_enter Try.func6, Try.ntmps6
    go_wp2_with fail
    refine (width_ok c _ h0 h6).mono ?_
    rintro e w1 ⟨rfl, hb1⟩
    go_wp2_with fail
    refine (rwidth_ok c _ h0 h6).mono ?_
    rintro e w2 ⟨rfl, rfl⟩
    go_wp2_with fail
    refine (get_all l c i w.heap.size cp A _ (hA.below hb1) hb1.size h64 hl hi.2).mono ?_
    rintro e w2 ⟨rfl, hb2⟩
    go_wp2_with fail
    refine (rget_all l c i w.heap.size cp A _ (hA.below (bstep hb1 hb2)) h64 hl hi.2).mono ?_
    rintro e w3 ⟨rfl, rfl⟩
    go_wp2_with fail
    refine (fits_ok c n _ h0 h6).mono ?_
    rintro e w3 ⟨rfl, hb3⟩
    go_wp2_with fail
    refine (rfits_ok c n _ h0 h6 hn).mono ?_
    rintro e w4 ⟨rfl, rfl⟩
    go_wp2_with fail
    refine (room_all c i _).mono ?_
    rintro e w4 ⟨rfl, hb4⟩
    go_wp2_with fail
    refine (rroom_all c i _).mono ?_
    rintro e w5 ⟨rfl, rfl⟩
    go_wp2_with fail
    refine (awake1 _).mono ?_
    rintro e w5 ⟨rfl, hb5⟩
    go_wp2
    go_ret
    exact ⟨rfl, bstep (bstep (bstep (bstep hb1 hb2) hb3) hb4) hb5⟩

end Go.Proofs.Ytcpapdjjeinpmaa
