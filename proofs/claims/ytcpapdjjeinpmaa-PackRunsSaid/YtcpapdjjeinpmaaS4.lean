/- Lemmas and contracts used by the proofs of this seat's laws (part S4); each theorem bears its own conditions. -/
import Derived.Test.YtcpapdjjeinpmaaRows
import Derived.Test.YtcpapdjjeinpmaaNum
import Derived.Test.YtcpapdjjeinpmaaMem
import Derived.Test.YtcpapdjjeinpmaaWordB
import Derived.WalkKit
import Derived.WalkSpells
import Derived.WalkLawsBesides
import Derived.Lib.Hide
import Derived.BigQuiet
import Derived.Deep.QuietTactic
namespace Go.Proofs.Ytcpapdjjeinpmaa
open Go.RowKit
set_option linter.unusedVariables false
set_option maxHeartbeats 1000000 in
theorem rbit_any (l : List Nat) (a : Int) (B cp : Nat) (A : Option Addr) (w : World) (h0 : 0 ≤ a) (ha : a ≤ 9223372036854775807) (hA : RdS w B A (u64s l)) (hl : ∀ n ∈ l, W64 n) (hm : l.length ≤ 9223372036854775807) :
    Calls Try.prog 45 #[.slice A l.length cp, .int .i64 a] w fun e w' => e = .returned (.int .u64 (bitN l a.toNat : Nat)) ∧ w = w' := by
  obtain ⟨a, rfl⟩ := Int.eq_ofNat_of_zero_le h0
  rw [Int.toNat_natCast]
  by_cases hlt : a / 64 < l.length
  · obtain ⟨g, off, rfl, hg, hc⟩ := Rd64.at_ hA hlt
    have h64 : W64 (l.getD (a / 64) 0) := by rw [getD_lt hlt]; exact hl _ (List.getElem_mem hlt)
    have he : bitN l a = l.getD (a / 64) 0 / 2 ^ (a % 64) % 2 := rfl
    generalize l.getD (a / 64) 0 = x at *
    have HE := Lib.hid he
    have HA := Lib.hid hA
    have HL := Lib.hid hl
    have H64 := Lib.hid h64
    clear he hA hl h64
    have hi1 : (a : Int) / 64 < (l.length : Int) := by omega
    have hi2 : 0 ≤ (a : Int) / 64 := by omega
    have hi3 : ¬ (a : Int) < 0 := by omega
    go_enter Try.func45, Try.ntmps45
    go_wp2
    go_loop [5, 6] (fun v i => ∃ k : Nat, k ≤ a % 64 ∧ i = .int .i64 k ∧ v = .int .u64 (x / 2 ^ k : Nat)) (fun _ i => a % 64 - (intOf i).toNat)
    case atStart => exact ⟨0, by omega, rfl, by simp⟩
    case round =>
      obtain ⟨k, hk, rfl, rfl⟩ := hrel
      have hw : W64 (x / 2 ^ k) := Nat.lt_of_le_of_lt (Nat.div_le_self _ _) H64.out
      have hs : x / 2 ^ (k + 1) = x / 2 ^ k / 2 := (div_pow_succ x k).symm
      generalize hq : x / 2 ^ k = q at *
      have hwr := wrap_div hw (d := 2) (by decide)
      have HS := Lib.hid hs
      have HQ := Lib.hid hq
      clear hs hq
      by_cases hlt : k < a % 64
      · go_wp2
        go_round
        case rel => exact ⟨k + 1, by omega, by go_num, by rw [HS.out]; go_num⟩
        case measure => simp [intOf]; omega
      · obtain rfl : k = a % 64 := by omega
        go_wp2
        go_ret
        exact ⟨ret_u64 (by rw [HE.out, HQ.out]; go_num), rfl⟩
  · have he : bitN l a = 0 := by unfold bitN; rw [getD_ge (by omega), Nat.zero_div]
    have HE := Lib.hid he
    clear he
    have hi1 : ¬ (a : Int) / 64 < (l.length : Int) := by omega
    have hi3 : ¬ (a : Int) < 0 := by omega
    go_enter Try.func45, Try.ntmps45
    go_wp2
    go_ret
    exact ⟨by rw [HE.out]; rfl, rfl⟩

end Go.Proofs.Ytcpapdjjeinpmaa
