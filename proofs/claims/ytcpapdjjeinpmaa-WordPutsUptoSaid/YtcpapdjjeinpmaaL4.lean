/- Lemmas and contracts used by the proofs of this seat's laws (part L4); each theorem bears its own conditions. -/
import Derived.Test.YtcpapdjjeinpmaaRows
import Derived.Test.YtcpapdjjeinpmaaNum
import Derived.Test.YtcpapdjjeinpmaaMem
import Derived.Test.YtcpapdjjeinpmaaWordB
import Derived.Test.YtcpapdjjeinpmaaS1
import Derived.Test.YtcpapdjjeinpmaaS2
import Derived.Test.YtcpapdjjeinpmaaS3
import Derived.Test.YtcpapdjjeinpmaaS5
import Derived.Test.YtcpapdjjeinpmaaS6
import Derived.Test.YtcpapdjjeinpmaaS7
import Derived.Test.YtcpapdjjeinpmaaS8
import Derived.Test.YtcpapdjjeinpmaaS9
import Derived.Test.YtcpapdjjeinpmaaL3
import Derived.WalkKit
import Derived.WalkSpells
import Derived.WalkLawsBesides
import Derived.Lib.Hide
import Derived.BigQuiet
import Derived.StillTailTactics
import Derived.Deep.RegionHeld3
import Derived.Deep.QuietTactic
namespace Go.Proofs.Ytcpapdjjeinpmaa
open Go.RowKit
set_option linter.unusedVariables false

def gPut (c : Int) (l : List Nat) : List Nat := if c = 0 then [] else putN (widthOf c.toNat) l
/-- do all fit? -/
def okPut (c : Int) (l : List Nat) : Bool := decide (0 ≤ c) && (decide (c < 6) && fitAll (widthOf c.toNat) l l.length)
theorem put_yes (c : Int) (l : List Nat) (B cp : Nat) (A : Option Addr) (w : World) (hA : RdS w B A (u64s l)) (hB : B ≤ w.heap.size) (hm : l.length ≤ 1099511627776) (h : okPut c l = true) :
    Calls Try.prog 35 #[.int .i64 c, .slice A l.length cp] w (RetW (gPut c l) w) := by
  unfold okPut at h
  rw [Bool.and_eq_true, Bool.and_eq_true, decide_eq_true_eq, decide_eq_true_eq] at h
  obtain ⟨h0, h6, hf⟩ := h
  have hc : c = 0 ∨ c = 1 ∨ c = 2 ∨ c = 3 ∨ c = 4 ∨ c = 5 := by omega
  rcases hc with rfl | rfl | rfl | rfl | rfl | rfl
  · exact put_0 l B cp A w hA hB hf hm
  · exact put_1 l B cp A w hA hB hf hm
  · exact put_2 l B cp A w hA hB hf hm
  · exact put_3 l B cp A w hA hB hf hm
  · exact put_4 l B cp A w hA hB hf hm
  · exact put_5 l B cp A w hA hB hf hm
theorem put_nay (c : Int) (l : List Nat) (B cp : Nat) (A : Option Addr) (w : World) (hA : RdS w B A (u64s l)) (hB : B ≤ w.heap.size) (hm : l.length ≤ 1099511627776) (h : okPut c l = false) :
    Calls Try.prog 35 #[.int .i64 c, .slice A l.length cp] w fun e w' => e = .returned (.tuple #[.slice none 0 0, .bool false]) ∧ Below w.heap.size w w' := by
  by_cases hc : c < 0 ∨ 6 ≤ c
  · exact put_bad c l B cp A w hc hA hB hm
  · unfold okPut at h
    rw [decide_eq_true (show 0 ≤ c by omega), decide_eq_true (show c < 6 by omega)] at h
    exact put_no c l B cp A w (by omega) (by omega) hA hB h hm
theorem rput_yes (c : Int) (l : List Nat) (B cp : Nat) (A : Option Addr) (w : World) (hA : RdS w B A (u64s l)) (hB : B ≤ w.heap.size) (h64 : ∀ n ∈ l, W64 n) (hm : l.length ≤ 1099511627776) (h : okPut c l = true) :
    Calls Try.prog 36 #[.int .i64 c, .slice A l.length cp] w (RetW (gPut c l) w) := by
  unfold okPut at h
  rw [Bool.and_eq_true, Bool.and_eq_true, decide_eq_true_eq, decide_eq_true_eq] at h
  obtain ⟨h0, h6, hf⟩ := h
  have hc : c = 0 ∨ c = 1 ∨ c = 2 ∨ c = 3 ∨ c = 4 ∨ c = 5 := by omega
  rcases hc with rfl | rfl | rfl | rfl | rfl | rfl
  · exact (rput_0 l B cp A w hA hB h64 hm).mono fun _ _ h => by
      rcases h with ⟨_, h⟩ | ⟨h1, _⟩
      · exact h
      · rw [show fitAll 0 l l.length = true from hf] at h1; cases h1
  · exact (rput_1 l B cp A w hA hB h64 hm).mono fun _ _ h => by
      rcases h with ⟨_, h⟩ | ⟨h1, _⟩
      · exact h
      · rw [show fitAll 1 l l.length = true from hf] at h1; cases h1
  · exact (rput_2 l B cp A w hA hB h64 hm).mono fun _ _ h => by
      rcases h with ⟨_, h⟩ | ⟨h1, _⟩
      · exact h
      · rw [show fitAll 8 l l.length = true from hf] at h1; cases h1
  · exact (rput_3 l B cp A w hA hB h64 hm).mono fun _ _ h => by
      rcases h with ⟨_, h⟩ | ⟨h1, _⟩
      · exact h
      · rw [show fitAll 16 l l.length = true from hf] at h1; cases h1
  · exact (rput_4 l B cp A w hA hB h64 hm).mono fun _ _ h => by
      rcases h with ⟨_, h⟩ | ⟨h1, _⟩
      · exact h
      · rw [show fitAll 32 l l.length = true from hf] at h1; cases h1
  · exact (rput_5 l B cp A w hA hB h64 hm).mono fun _ _ h => by
      rcases h with ⟨_, h⟩ | ⟨h1, _⟩
      · exact h
      · rw [show fitAll 64 l l.length = true from hf] at h1; cases h1
theorem rput_nay (c : Int) (l : List Nat) (B cp : Nat) (A : Option Addr) (w : World) (hA : RdS w B A (u64s l)) (hB : B ≤ w.heap.size) (h64 : ∀ n ∈ l, W64 n) (hm : l.length ≤ 1099511627776) (h : okPut c l = false) :
    Calls Try.prog 36 #[.int .i64 c, .slice A l.length cp] w fun e w' => e = .returned (.tuple #[.slice none 0 0, .bool false]) ∧ Below w.heap.size w w' := by
  by_cases hc : c < 0 ∨ 6 ≤ c
  · exact rput_bad c l cp A w hc
  · unfold okPut at h
    rw [decide_eq_true (show 0 ≤ c by omega), decide_eq_true (show c < 6 by omega)] at h
    have hc : c = 0 ∨ c = 1 ∨ c = 2 ∨ c = 3 ∨ c = 4 ∨ c = 5 := by omega
    rcases hc with rfl | rfl | rfl | rfl | rfl | rfl
    · exact (rput_0 l B cp A w hA hB h64 hm).mono fun _ _ h2 => by
        rcases h2 with ⟨h1, _⟩ | ⟨_, h1⟩
        · rw [show fitAll 0 l l.length = false from h] at h1; cases h1
        · exact h1
    · exact (rput_1 l B cp A w hA hB h64 hm).mono fun _ _ h2 => by
        rcases h2 with ⟨h1, _⟩ | ⟨_, h1⟩
        · rw [show fitAll 1 l l.length = false from h] at h1; cases h1
        · exact h1
    · exact (rput_2 l B cp A w hA hB h64 hm).mono fun _ _ h2 => by
        rcases h2 with ⟨h1, _⟩ | ⟨_, h1⟩
        · rw [show fitAll 8 l l.length = false from h] at h1; cases h1
        · exact h1
    · exact (rput_3 l B cp A w hA hB h64 hm).mono fun _ _ h2 => by
        rcases h2 with ⟨h1, _⟩ | ⟨_, h1⟩
        · rw [show fitAll 16 l l.length = false from h] at h1; cases h1
        · exact h1
    · exact (rput_4 l B cp A w hA hB h64 hm).mono fun _ _ h2 => by
        rcases h2 with ⟨h1, _⟩ | ⟨_, h1⟩
        · rw [show fitAll 32 l l.length = false from h] at h1; cases h1
        · exact h1
    · exact (rput_5 l B cp A w hA hB h64 hm).mono fun _ _ h2 => by
        rcases h2 with ⟨h1, _⟩ | ⟨_, h1⟩
        · rw [show fitAll 64 l l.length = false from h] at h1; cases h1
        · exact h1
theorem gPut_len (c : Int) (l : List Nat) (hl : l.length ≤ 1048576) : (gPut c l).length ≤ 1048576 := by
  unfold gPut
  split
  · simp
  · unfold putN
    rw [List.length_map, List.length_range]
    have := widthOf_le c.toNat
    have h : l.length * widthOf c.toNat ≤ l.length * 64 := Nat.mul_le_mul_left _ this
    unfold roomN
    omega
theorem width_cases (c : Int) (h1 : 1 ≤ c) (h5 : c ≤ 5) : widthOf c.toNat = 1 ∨ widthOf c.toNat = 8 ∨ widthOf c.toNat = 16 ∨ widthOf c.toNat = 32 ∨ widthOf c.toNat = 64 := by
  have hc : c = 1 ∨ c = 2 ∨ c = 3 ∨ c = 4 ∨ c = 5 := by omega
  rcases hc with rfl | rfl | rfl | rfl | rfl <;> decide
theorem gPut_64 (c : Int) (l : List Nat) (h : okPut c l = true) : ∀ n ∈ gPut c l, W64 n := by
  unfold okPut at h
  rw [Bool.and_eq_true, Bool.and_eq_true, decide_eq_true_eq, decide_eq_true_eq] at h
  obtain ⟨h0, h6, hf⟩ := h
  unfold gPut
  split
  · intro n hn; cases hn
  · intro n hn
    unfold putN at hn
    obtain ⟨j, _, rfl⟩ := List.mem_map.1 hn
    exact putAt_lt64 _ (width_cases c (by omega) (by omega)) l hf _ _ (Nat.le_refl _)
theorem gGet_put (c : Int) (l : List Nat) (h : okPut c l = true) (i : Nat) (hi : i < l.length) (hl : l.length ≤ 1048576) : gGet (gPut c l) c i = l.getD i 0 := by
  unfold okPut at h
  rw [Bool.and_eq_true, Bool.and_eq_true, decide_eq_true_eq, decide_eq_true_eq] at h
  obtain ⟨h0, h6, hf⟩ := h
  by_cases hc : c = 0
  · subst hc
    have := fitAll_at hf i hi
    rw [gGet_no (by omega)]
    have e : widthOf (Int.toNat 0) = 0 := rfl
    rw [e] at this
    omega
  · unfold gGet gPut
    rw [if_pos (by omega), if_neg hc, Int.toNat_natCast]
    exact get_put _ (width_cases c (by omega) (by omega)) l hf i hi
set_option maxHeartbeats 2000000 in
theorem wordPuts (c : Int) (l : List Nat) (A : Option Addr) (cp : Nat) (w : World) (_hc : -9223372036854775808 ≤ c ∧ c ≤ 9223372036854775807) (hA : RdS w w.heap.size A (u64s l)) (h64 : ∀ n ∈ l, W64 n) (_hm : l.length ≤ cp) (hl : l.length ≤ 1048576) :
    Calls Try.prog 7 #[.int .i64 c, .slice A l.length cp] w fun e w' => e = .returned (.bool true) ∧ Below w.heap.size w w' := by
  cases h : okPut c l
  · have H := Lib.hid h
    clear h
    go_enter Try.func7, Try.ntmps7
    go_wp2_with fail
    refine (put_nay c l w.heap.size cp A _ hA (Nat.le_refl _) (by omega) H.out).mono ?_
    rintro e w1 ⟨rfl, hb1⟩
    go_wp2_with fail
    refine (rput_nay c l w.heap.size cp A _ (hA.below hb1) hb1.size h64 (by omega) H.out).mono ?_
    rintro e w2 ⟨rfl, hb2⟩
    go_wp2_with fail
    refine (rsame_any [] [] 0 0 0 none none _ (RdS.nil _ _ _) (RdS.nil _ _ _) (by decide) (by decide)).mono ?_
    rintro e w3 ⟨rfl, hd⟩
    rw [show decide (([] : List Nat) = []) = true from rfl]
    have hb3 := hd.below w2.heap.size
    clear hd
    go_wp2
    refine wp_loop_rounds 1 ?_
    rw [rounds_succ]
    go_wp2_with fail
    all_goals
      refine (awake1 _).mono ?_
      rintro e w4 ⟨rfl, hb4⟩
      go_wp2
      go_ret
      exact ⟨rfl, bstep (bstep (bstep hb1 hb2) hb3) hb4⟩
  · have H := Lib.hid h
    clear h
    go_enter Try.func7, Try.ntmps7
    go_wp2_with fail
    refine (put_yes c l w.heap.size cp A _ hA (Nat.le_refl _) (by omega) H.out).mono ?_
    rintro e w1 ⟨A1, c1, rfl, _, hr1, hb1⟩
    go_wp2_with fail
    refine (rput_yes c l w.heap.size cp A _ (hA.below hb1) hb1.size h64 (by omega) H.out).mono ?_
    rintro e w2 ⟨A2, c2, rfl, _, hr2, hb2⟩
    have hpl := gPut_len c l hl
    have HPL := Lib.hid hpl
    go_wp2_with fail
    refine (rsame_any (gPut c l) (gPut c l) w2.heap.size _ _ A1 A2 _ ((hr1.below hb2).mono hb2.size) hr2 (by omega) (by omega)).mono ?_
    rintro e w3 ⟨rfl, hd⟩
    rw [show decide (gPut c l = gPut c l) = true from decide_eq_true rfl]
    have hb3 := hd.below w2.heap.size
    clear hd
    have hr3 := (hr1.below hb2).below (hb3.mono hb2.size)
    have hA3 := hA.below (bstep (bstep hb1 hb2) hb3)
    have hsz3 : w1.heap.size ≤ w3.heap.size := Nat.le_trans hb2.size hb3.size
    have hb := bstep (bstep hb1 hb2) hb3
    have HR := Lib.hid hr3
    have HA := Lib.hid hA3
    have H64 := Lib.hid h64
    clear hr1 hr2 hr3 hA hA3 hb1 hb2 hb3 h64 hpl
    go_wp2
    go_loopw [9] (fun i wr => ∃ k : Nat, k ≤ l.length ∧ i = .int .i64 k ∧ Below w3.heap.size w3 wr) (fun i _ => l.length - (intOf i).toNat)
    case atStart => exact ⟨0, by omega, rfl, Below.refl _ _⟩
    case round =>
      obtain ⟨k, hk, rfl, hbr⟩ := hrel
      by_cases hlt : k < l.length
      · obtain ⟨g, off, rfl, hg, hc⟩ := Rd64.at_ HA.out hlt
        have hc1 := (bcell hbr (o := off + k) (Nat.lt_of_lt_of_le hg hb.size)).trans hc
        have hgw : g < wr.heap.size := Nat.lt_of_lt_of_le (Nat.lt_of_lt_of_le hg hb.size) hbr.size
        have hq := gGet_put c l H.out k hlt hl
        clear hc hg
        generalize l.getD k 0 = x at *
        have HQ := Lib.hid hq
        clear hq
        have HGR := Lib.hid (HR.out.below (hbr.mono hsz3))
        have hszr : w1.heap.size ≤ wr.heap.size := Nat.le_trans hsz3 hbr.size
        have hi1 : (k : Int) < (l.length : Int) := by omega
        have hi0 : 0 ≤ (k : Int) := by omega
        go_wp2_with fail
        go_region_held3 (fun w' => w'.cell? ⟨g, off + k, none⟩ = some (.int .u64 (x : Int))) (first | go_keep | (rw [hcc]; assumption))
          (first
           | (go_at_call 29; refine (get_all (gPut c l) c k w1.heap.size c1 A1 _ (by exact HGR.out) (by exact hszr) (gPut_64 c l H.out) HPL.out (by omega)).mono ?_; rw [HQ.out]; rintro e w4 ⟨rfl, hb4⟩; have hcc := bcell (o := off + k) (b := g) hb4 (by simpa using hgw)))
        go_wp2
        go_roundw
        case rel => exact ⟨k + 1, by omega, by go_num, bstep hbr.drew hb4⟩
        case measure => simp [intOf]; omega
      · obtain rfl : k = l.length := by omega
        go_wp2_with fail
        refine (awake1 _).mono ?_
        rintro e w4 ⟨rfl, hb4⟩
        go_wp2
        go_ret
        exact ⟨rfl, bstep (hb.trans (hbr.mono hb.size)) hb4⟩

end Go.Proofs.Ytcpapdjjeinpmaa
