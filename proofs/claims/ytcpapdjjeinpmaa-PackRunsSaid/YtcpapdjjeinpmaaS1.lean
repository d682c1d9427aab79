/- Lemmas and contracts used by the proofs of this seat's laws (part S1); each theorem bears its own conditions. -/
import Derived.Test.YtcpapdjjeinpmaaRows
import Derived.Test.YtcpapdjjeinpmaaNum
import Derived.Test.YtcpapdjjeinpmaaMem
import Derived.WalkKit
import Derived.WalkSpells
import Derived.WalkLawsBesides
import Derived.Lib.Hide
import Derived.BigQuiet
import Derived.Deep.QuietTactic
namespace Go.Proofs.Ytcpapdjjeinpmaa
open Go.RowKit
set_option linter.unusedVariables false
set_option maxHeartbeats 1000000 in
theorem rsame_any (l m : List Nat) (B c c' : Nat) (A A' : Option Addr) (w : World) (hA : RdS w B A (u64s l)) (hA' : RdS w B A' (u64s m)) (hm : l.length ≤ 9223372036854775807) (hm' : m.length ≤ 9223372036854775807) :
    Calls Try.prog 16 #[.slice A l.length c, .slice A' m.length c'] w fun e w' => e = .returned (.bool (decide (l = m))) ∧ Drawn w w' := by
  by_cases hlen : l.length = m.length
  · have hne : ((l.length : Int) != (m.length : Int)) = false := by rw [hlen]; simp
    go_enter Try.func16, Try.ntmps16
    go_wp2
    go_loopw [5] (fun i wr => ∃ k : Nat, k ≤ l.length ∧ i = .int .i64 k ∧ (∀ j < k, l.getD j 0 = m.getD j 0) ∧ Drawn w wr) (fun i _ => l.length - (intOf i).toNat)
    case atStart => exact ⟨0, by omega, rfl, fun j hj => absurd hj (by omega), Drawn.refl w⟩
    case round =>
      obtain ⟨k, hk, rfl, hs, n, rfl⟩ := hrel
      by_cases hlt : k < l.length
      · obtain ⟨g, off, rfl, hg, hc⟩ := Rd64.at_ hA hlt
        obtain ⟨g', off', rfl, hg', hc'⟩ := Rd64.at_ hA' (k := k) (by omega)
        have HA := Lib.hid hA
        have HA' := Lib.hid hA'
        have HS := Lib.hid hs
        have HL := Lib.hid hlen
        clear hA hA' hs hlen
        have hlt' : k < m.length := by have := HL.out; omega
        have hi : (k : Int) < (l.length : Int) := by omega
        have hi' : (k : Int) < (m.length : Int) := by omega
        have h0 : 0 ≤ (k : Int) := by omega
        generalize hx : l.getD k 0 = x at *
        generalize hy : m.getD k 0 = y at *
        have HX := Lib.hid hx
        have HY := Lib.hid hy
        clear hx hy
        by_cases he : x = y
        · subst he
          go_wp2
          go_quiet (fail)
          go_wp2
          go_roundw
          case rel => exact ⟨k + 1, by omega, by go_num, fun j hj => by
            rcases Nat.lt_or_eq_of_le (Nat.le_of_lt_succ hj) with h | rfl
            · exact HS.out j h
            · exact HX.out.trans HY.out.symm, _, rfl⟩
          case measure => simp [intOf]; omega
        · have hb : ((x : Int) != (y : Int)) = true := bne_iff_ne.2 (by omega)
          go_wp2
          go_quiet (fail)
          go_wp2
          go_ret
          exact ⟨by rw [decide_eq_false (fun e => he (by rw [← HX.out, ← HY.out, e]))]; rfl, Drawn.add _ _ _⟩
      · obtain rfl : k = l.length := by omega
        have HS := Lib.hid (same_end hlen hs)
        clear hs
        go_wp2
        go_ret
        exact ⟨by rw [decide_eq_true HS.out]; rfl, _, rfl⟩
  · have hne : ((l.length : Int) != (m.length : Int)) = true := bne_iff_ne.2 (by omega)
    go_enter Try.func16, Try.ntmps16
    go_wp2
    go_ret
    exact ⟨by rw [decide_eq_false (fun e => hlen (by rw [e]))]; rfl, Drawn.refl w⟩

end Go.Proofs.Ytcpapdjjeinpmaa
