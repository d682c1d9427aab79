/- Lemmas and contracts used by the proofs of this seat's laws (part P2); each theorem bears its own conditions. -/
import Derived.Test.YtcpapdjjeinpmaaRows
import Derived.Test.YtcpapdjjeinpmaaNum
import Derived.Test.YtcpapdjjeinpmaaMem
import Derived.Test.YtcpapdjjeinpmaaPk
import Derived.Test.YtcpapdjjeinpmaaWordB
import Derived.WalkKit
import Derived.WalkSpells
import Derived.WalkLawsBesides
import Derived.Lib.Hide
import Derived.BigQuiet
import Derived.StillTailTactics
import Derived.Deep.RegionHeld3
import Derived.Deep.AppendLies
import Derived.Laws.CopyOwn
import Derived.Deep.QuietTactic
namespace Go.Proofs.Ytcpapdjjeinpmaa
open Go.RowKit
set_option linter.unusedVariables false
theorem tab_ok {S : ByteArray} {t : Nat} (h : t < S.size) (hs : (List.range 256).all (fun i => (S.data.toList.getD i 0).toNat == popN i) = true) (ht : t < 256) : wrap64 ((S[t]'h).toNat : Int) = ((popN t : Nat) : Int) := by
  have h1 := List.all_eq_true.1 hs t (List.mem_range.2 ht)
  have h2 : (S.data.toList.getD t 0) = S[t]'h := by
    have h3 : t < S.data.toList.length := by simpa using h
    simp only [List.getD, List.getElem?_eq_getElem h3]
    simp
    rfl
  rw [h2] at h1
  have h3 := eq_of_beq h1
  have h4 : (S[t]'h).toNat < 256 := (S[t]'h).toNat_lt
  rw [h3] at h4 ⊢
  unfold wrap64
  omega
set_option maxRecDepth 100000 in
set_option maxHeartbeats 4000000 in
theorem ones_any (t : Nat) (w : World) (ht : t < 256) :
    Calls Try.prog 52 #[.int .u8 t] w fun e w' => e = .returned (.int .i64 (popN t : Nat)) ∧ w = w' := by
  go_enter Try.func52, Try.ntmps52
  go_wp2
  go_ret
  exact ⟨ret_int (tab_ok _ (by decide +kernel) ht), rfl⟩
set_option maxHeartbeats 1000000 in
theorem inrun0 (x : Nat) (w : World) :
    Calls Try.prog 50 #[.int .u64 x, .int .i64 0] w fun e w' => e = .returned (.bool (p0 x)) ∧ Below w.heap.size w w' := by
  go_enter Try.func50, Try.ntmps50
  go_wp2
  go_ret
  exact ⟨ret_bool (by unfold p0; rw [Bool.eq_iff_iff]; simp), Below.refl _ _⟩
set_option maxHeartbeats 1000000 in
theorem inrun7 (x : Nat) (w : World) (hx : W64 x) :
    Calls Try.prog 50 #[.int .u64 x, .int .i64 7] w fun e w' => e = .returned (.bool (p7 x)) ∧ Below w.heap.size w w' := by
  have hz : W64 0 := by unfold W64; decide
  have hu : unl x 0 8 < 256 := unl_lt x 0 8
  go_enter Try.func50, Try.ntmps50
  go_wp2_with fail
  refine (unlike_any x 0 _ hx hz).mono ?_
  rintro e w1 ⟨rfl, hb1⟩
  go_wp2_with fail
  refine (ones_any _ _ hu).mono ?_
  rintro e w2 ⟨rfl, rfl⟩
  go_wp2
  go_ret
  exact ⟨ret_bool (by unfold p7; rw [Bool.eq_iff_iff]; simp only [decide_eq_true_eq]; omega), hb1⟩
def pOf (n : Int) : Nat → Bool := if n = 0 then p0 else p7
theorem inrun (x : Nat) (n : Int) (hn : n = 0 ∨ n = 7) (w : World) (hx : W64 x) :
    Calls Try.prog 50 #[.int .u64 x, .int .i64 n] w fun e w' => e = .returned (.bool (pOf n x)) ∧ Below w.heap.size w w' := by
  rcases hn with rfl | rfl
  · exact inrun0 x w
  · exact inrun7 x w hx
set_option maxHeartbeats 2000000 in
theorem run_any (l : List Nat) (n : Int) (hn : n = 0 ∨ n = 7) (B cp : Nat) (A : Option Addr) (w : World) (hA : RdS w B A (u64s l)) (hB : B ≤ w.heap.size) (h64 : ∀ n ∈ l, W64 n) (hm : l.length ≤ 17592186044416) :
    Calls Try.prog 47 #[.slice A l.length cp, .int .i64 n] w fun e w' => e = .returned (.int .i64 (runN (pOf n) l : Nat)) ∧ Below w.heap.size w w' := by
  go_enter Try.func47, Try.ntmps47
  go_wp2
  go_loopw [5] (fun i wr => ∃ k : Nat, k ≤ l.length ∧ k ≤ 255 ∧ i = .int .i64 k ∧ (∀ j < k, pOf n (l.getD j 0) = true) ∧ Below w.heap.size w wr) (fun i _ => l.length - (intOf i).toNat)
  case atStart => exact ⟨0, by omega, by omega, rfl, fun j hj => absurd hj (by omega), Below.refl _ _⟩
  case round =>
    obtain ⟨k, hk, hk2, rfl, hp, hbr⟩ := hrel
    have HA := Lib.hid hA
    have HP := Lib.hid hp
    clear hA hp
    by_cases hlt : k < l.length
    · by_cases h255 : k < 255
      · obtain ⟨g, off, rfl, hg, hc⟩ := Rd64.at_ HA.out hlt
        have hc1 := (bcell hbr (o := off + k) (Nat.lt_of_lt_of_le hg hB)).trans hc
        have hx : W64 (l.getD k 0) := by rw [getD_lt hlt]; exact h64 _ (List.getElem_mem hlt)
        clear hc
        generalize hxx : l.getD k 0 = x at *
        have HX := Lib.hid hxx
        have H64 := Lib.hid h64
        have HX64 := Lib.hid hx
        clear hxx h64 hx
        have hi1 : (k : Int) < (l.length : Int) := by omega
        have hi2 : (k : Int) < 255 := by omega
        go_wp2_with fail
        refine (inrun x n hn _ HX64.out).mono ?_
        rintro e w2 ⟨rfl, hb2⟩
        generalize hq : pOf n x = q at *
        have HQ := Lib.hid hq
        clear hq
        cases q
        · go_wp2
          go_ret
          exact ⟨ret_int (by rw [runN_at (pOf n) l k HP.out (by omega) (by omega) (.inr (.inr (by rw [HX.out]; exact HQ.out)))]), bstep hbr hb2⟩
        · go_wp2
          go_roundw
          case rel => exact ⟨k + 1, by omega, by omega, by go_num, fun j hj => by
            rcases Nat.lt_or_eq_of_le (Nat.le_of_lt_succ hj) with h | rfl
            · exact HP.out j h
            · rw [HX.out]; exact HQ.out, bstep hbr hb2⟩
          case measure => simp [intOf]; omega
      · have hi1 : (k : Int) < (l.length : Int) := by omega
        have hi2 : ¬ (k : Int) < 255 := by omega
        go_wp2
        go_ret
        exact ⟨ret_int (by rw [runN_at (pOf n) l k HP.out (by omega) (by omega) (.inr (.inl (by omega)))]), hbr⟩
    · have hi1 : ¬ (k : Int) < (l.length : Int) := by omega
      go_wp2
      go_ret
      exact ⟨ret_int (by rw [runN_at (pOf n) l k HP.out (by omega) (by omega) (.inl (by omega))]), hbr⟩

end Go.Proofs.Ytcpapdjjeinpmaa
