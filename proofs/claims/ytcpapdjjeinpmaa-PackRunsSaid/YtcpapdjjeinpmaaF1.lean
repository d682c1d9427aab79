/- Lemmas and contracts used by the proofs of this seat's laws (part F1); each theorem bears its own conditions. -/
import Derived.Test.YtcpapdjjeinpmaaRows
import Derived.Test.YtcpapdjjeinpmaaNum
import Derived.Test.YtcpapdjjeinpmaaMem
import Derived.Test.YtcpapdjjeinpmaaWordB
import Derived.Test.YtcpapdjjeinpmaaOps
import Derived.WalkKit
import Derived.WalkSpells
import Derived.WalkLawsBesides
import Derived.Lib.Hide
import Derived.BigQuiet
import Derived.StillTailTactics
import Derived.Deep.RegionHeld3
import Derived.Deep.QuietTactic
namespace Go.Proofs.Ytcpapdjjeinpmaa
open Go.RowKit
set_option linter.unusedVariables false
/-- bytes handed back, in new memory -/
def RetB (l : List Nat) (w : World) (e : Ending) (w' : World) : Prop :=
  ∃ A c, e = .returned (.slice A l.length c) ∧ l.length ≤ c ∧ RdS w' w'.heap.size A (u8s l) ∧ Below w.heap.size w w'
theorem make8cap (R : Nat) (hR : R ≤ 281474976710656) (u : World) : (Instr.makeSlice 23 (.int .i64 0) (.int .i64 (R : Int))).run Try.prog u =
      .ok (.slice (some ⟨u.heap.size, 0, none⟩) 0 R) (u.alloc (.cells (madeCells #[.int .u8 0] R) 5)) := by
  obtain ⟨i0, hi, hz0, hz1, hz2⟩ := info_parts info8
  have h := run_make (P := Try.prog) u 23 5 i0 (.int .u8 0) Try.underlying23 hi hz0 .i64 .i64 (0 : Int) (R : Int) (by omega) (by omega) (by rw [hz2]; omega) (by omega)
  rw [Int.toNat_natCast] at h
  simpa [hz1, Value.cells] using h
set_option maxHeartbeats 2000000 in
theorem flat_any (l : List Nat) (B cp : Nat) (A : Option Addr) (w : World) (hA : RdS w B A (u64s l)) (hB : B ≤ w.heap.size) (hm : l.length ≤ 17592186043904) :
    Calls Try.prog 12 #[.slice A l.length cp] w (RetB (flatN l) w) := by
  have hmk := make8cap (8 * l.length) (by omega)
  have e8 : ((8 * l.length : Nat) : Int) = 8 * (l.length : Int) := by omega
  rw [e8] at hmk
  clear e8
  go_enter Try.func12, Try.ntmps12
  go_wp2
  go_loopw [3, 5, 6, 13] (fun v _ _ i wr => ∃ k : Nat, k ≤ l.length ∧ i = .int .i64 k ∧ wr.ownsRow w.heap.size 5 1 v (8 * k) (u8s (flatN (l.take k))) ∧ Below w.heap.size w wr) (fun _ _ _ i _ => l.length - (intOf i).toNat)
  case atStart =>
    refine ⟨0, by omega, rfl, ?_, (Below.refl _ _).alloc (Nat.le_refl _) _⟩
    have h := World.ownsRow_made (base := w.heap.size) (e := 5) (size := 1) w (madeCells #[.int .u8 0] (8 * l.length)) (8 * l.length) (Nat.le_refl _) (by unfold maxLen; omega) (by simp [size_madeCells])
    simpa [flatN, u8s] using h
  case round =>
    obtain ⟨k, hk, rfl, hown, hbr⟩ := hrel
    by_cases hlt : k < l.length
    · obtain ⟨g, off, rfl, hg, hc⟩ := Rd64.at_ hA hlt
      have hft := flatN_take l k hlt
      generalize l.getD k 0 = x at *
      have HA := Lib.hid hA
      have HF := Lib.hid hft
      have HO := Lib.hid hown
      have hc1 := (bcell hbr (o := off + k) (Nat.lt_of_lt_of_le hg hB)).trans hc
      clear hA hc hft hown
      have hi1 : (k : Int) < (l.length : Int) := by omega
      go_wp2_with fail
      refine (bytes_any x _).mono ?_
      rintro e w2 ⟨rfl, hb2⟩
      have HO2 := Lib.hid (own_below HO.out hb2)
      have hbw := bstep hbr hb2
      go_wp2_with (at_builtin; refine app8 rfl _ _ rfl w.heap.size _ (8 * k) _ rfl (HO2.out.alloc _) (w2.heap.size + 1) 8 8 (some ⟨w2.heap.size, 0, none⟩) (bytes8 x) rfl rfl (by rw [agg_bytes x]; exact RdS.new w2 _ _) (by omega) (by exact (balloc hbw _).size) ?_; intro v' w3 hown3 hgrow)
      rw [← u8s_append, ← HF.out] at hown3
      have hb3 := bgrown (balloc hbw _) hgrow (own_base HO2.out)
      have HO3 := Lib.hid hown3
      clear hown3 hgrow hbw
      go_wp2
      go_roundw
      case rel => exact ⟨k + 1, by omega, by go_num, HO3.out, hb3⟩
      case measure => simp [intOf]; omega
    · obtain rfl : k = l.length := by omega
      rw [List.take_length] at hown
      obtain ⟨A', c', rfl, hlc, hrd⟩ := own_rd hown
      go_wp2
      go_ret
      exact ⟨A', c', by rw [flatN_len]; rfl, by rw [flatN_len]; exact hlc, hrd, hbr⟩

end Go.Proofs.Ytcpapdjjeinpmaa
