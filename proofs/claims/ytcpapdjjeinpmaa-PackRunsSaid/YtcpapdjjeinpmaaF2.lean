/- Lemmas and contracts used by the proofs of this seat's laws (part F2); each theorem bears its own conditions. -/
import Derived.Test.YtcpapdjjeinpmaaRows
import Derived.Test.YtcpapdjjeinpmaaNum
import Derived.Test.YtcpapdjjeinpmaaMem
import Derived.Test.YtcpapdjjeinpmaaWordB
import Derived.Test.YtcpapdjjeinpmaaOps
import Derived.Test.YtcpapdjjeinpmaaF1
import Derived.WalkKit
import Derived.WalkSpells
import Derived.WalkLawsBesides
import Derived.Lib.Hide
import Derived.BigQuiet
import Derived.StillTailTactics
import Derived.Deep.RegionHeld3
import Derived.Deep.QuietTactic
namespace Go.Proofs.Ytcpapdjjeinpmaa
open Go.RowKit
set_option linter.unusedVariables false
set_option maxHeartbeats 1000000 in
theorem rsameb_any (l m : List Nat) (B c c' : Nat) (A A' : Option Addr) (w : World) (hA : RdS w B A (u8s l)) (hA' : RdS w B A' (u8s m)) (hm : l.length ≤ 9223372036854775807) (hm' : m.length ≤ 9223372036854775807) :
    Calls Try.prog 14 #[.slice A l.length c, .slice A' m.length c'] w fun e w' => e = .returned (.bool (decide (l = m))) ∧ Drawn w w' := by
  by_cases hlen : l.length = m.length
  · have hne : ((l.length : Int) != (m.length : Int)) = false := by rw [hlen]; simp
    go_enter Try.func14, Try.ntmps14
    go_wp2
    go_loopw [5] (fun i wr => ∃ k : Nat, k ≤ l.length ∧ i = .int .i64 k ∧ (∀ j < k, l.getD j 0 = m.getD j 0) ∧ Drawn w wr) (fun i _ => l.length - (intOf i).toNat)
    case atStart => exact ⟨0, by omega, rfl, fun j hj => absurd hj (by omega), Drawn.refl w⟩
    case round =>
      obtain ⟨k, hk, rfl, hs, n, rfl⟩ := hrel
      by_cases hlt : k < l.length
      · obtain ⟨g, off, rfl, hg, hc⟩ := Rd8.at_ hA hlt
        obtain ⟨g', off', rfl, hg', hc'⟩ := Rd8.at_ hA' (k := k) (by omega)
        have HA := Lib.hid hA
        have HA' := Lib.hid hA'
        have HS := Lib.hid hs
        have HL := Lib.hid hlen
        clear hA hA' hs hlen
        have hlt' : k < m.length := by have := HL.out; omega
        have hi : (k : Int) < (l.length : Int) := by omega
        have hi' : (k : Int) < (m.length : Int) := by omega
        have h0 : 0 ≤ (k : Int) := by omega
        generalize hx : l.getD k 0 = x at *
        generalize hy : m.getD k 0 = y at *
        have HX := Lib.hid hx
        have HY := Lib.hid hy
        clear hx hy
        by_cases he : x = y
        · subst he
          go_wp2
          go_quiet (fail)
          go_wp2
          go_roundw
          case rel => exact ⟨k + 1, by omega, by go_num, fun j hj => by
            rcases Nat.lt_or_eq_of_le (Nat.le_of_lt_succ hj) with h | rfl
            · exact HS.out j h
            · exact HX.out.trans HY.out.symm, _, rfl⟩
          case measure => simp [intOf]; omega
        · have hb : ((x : Int) != (y : Int)) = true := bne_iff_ne.2 (by omega)
          go_wp2
          go_quiet (fail)
          go_wp2
          go_ret
          exact ⟨by rw [decide_eq_false (fun e => he (by rw [← HX.out, ← HY.out, e]))]; rfl, Drawn.add _ _ _⟩
      · obtain rfl : k = l.length := by omega
        have HS := Lib.hid (same_end hlen hs)
        clear hs
        go_wp2
        go_ret
        exact ⟨by rw [decide_eq_true HS.out]; rfl, _, rfl⟩
  · have hne : ((l.length : Int) != (m.length : Int)) = true := bne_iff_ne.2 (by omega)
    go_enter Try.func14, Try.ntmps14
    go_wp2
    go_ret
    exact ⟨by rw [decide_eq_false (fun e => hlen (by rw [e]))]; rfl, Drawn.refl w⟩


set_option maxHeartbeats 2000000 in
theorem rflat_any (l : List Nat) (B cp : Nat) (A : Option Addr) (w : World) (hA : RdS w B A (u64s l)) (hB : B ≤ w.heap.size) (h64 : ∀ n ∈ l, W64 n) (hm : l.length ≤ 17592186043904) :
    Calls Try.prog 15 #[.slice A l.length cp] w (RetB (flatN l) w) := by
  go_enter Try.func15, Try.ntmps15
  go_wp2
  go_loopw [3, 4, 5] (fun v i _ wr => ∃ k : Nat, k ≤ l.length ∧ i = .int .i64 k ∧ wr.ownsRow w.heap.size 5 1 v (8 * k) (u8s (flatN (l.take k))) ∧ Below w.heap.size w wr) (fun _ i _ _ => l.length - (intOf i).toNat)
  case atStart => exact ⟨0, by omega, rfl, by simpa [flatN, u8s] using World.ownsRow_nil w w.heap.size 5 1, Below.refl _ _⟩
  case round =>
    obtain ⟨k, hk, rfl, hown, hbr⟩ := hrel
    by_cases hlt : k < l.length
    · obtain ⟨g, off, rfl, hg, hc⟩ := Rd64.at_ hA hlt
      have hft := flatN_take l k hlt
      have hx64 : W64 (l.getD k 0) := by rw [getD_lt hlt]; exact h64 _ (List.getElem_mem hlt)
      generalize l.getD k 0 = x at *
      have HA := Lib.hid hA
      have HF := Lib.hid hft
      have HO := Lib.hid hown
      have hc1 := (bcell hbr (o := off + k) (Nat.lt_of_lt_of_le hg hB)).trans hc
      clear hA hc hft hown
      have hi1 : (k : Int) < (l.length : Int) := by omega
      go_wp2_with fail
      refine (rbytes_any x _ hx64).mono ?_
      rintro e w2 ⟨rfl, hb2⟩
      have HO2 := Lib.hid (own_below HO.out hb2)
      have hbw := bstep hbr hb2
      go_wp2_with (at_builtin; refine app8 rfl _ _ rfl w.heap.size _ (8 * k) _ rfl (HO2.out.alloc _) (w2.heap.size + 1) 8 8 (some ⟨w2.heap.size, 0, none⟩) (bytes8 x) rfl rfl (by rw [agg_bytes x]; exact RdS.new w2 _ _) (by omega) (by exact (balloc hbw _).size) ?_; intro v' w3 hown3 hgrow)
      rw [← u8s_append, ← HF.out] at hown3
      have hb3 := bgrown (balloc hbw _) hgrow (own_base HO2.out)
      have HO3 := Lib.hid hown3
      clear hown3 hgrow hbw
      go_wp2
      go_roundw
      case rel => exact ⟨k + 1, by omega, by go_num, HO3.out, hb3⟩
      case measure => simp [intOf]; omega
    · obtain rfl : k = l.length := by omega
      rw [List.take_length] at hown
      obtain ⟨A', c', rfl, hlc, hrd⟩ := own_rd hown
      go_wp2
      go_ret
      exact ⟨A', c', by rw [flatN_len]; rfl, by rw [flatN_len]; exact hlc, hrd, hbr⟩

end Go.Proofs.Ytcpapdjjeinpmaa
