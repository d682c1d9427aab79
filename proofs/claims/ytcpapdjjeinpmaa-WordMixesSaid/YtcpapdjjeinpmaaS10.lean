/- Lemmas and contracts used by the proofs of this seat's laws (part S10); each theorem bears its own conditions. -/
import Derived.Test.YtcpapdjjeinpmaaRows
import Derived.Test.YtcpapdjjeinpmaaNum
import Derived.Test.YtcpapdjjeinpmaaMem
import Derived.Test.YtcpapdjjeinpmaaWordB
import Derived.WalkKit
import Derived.WalkSpells
import Derived.WalkLawsBesides
import Derived.Lib.Hide
import Derived.BigQuiet
import Derived.StillTailTactics
import Derived.Deep.RegionHeld3
import Derived.Deep.QuietTactic
namespace Go.Proofs.Ytcpapdjjeinpmaa
open Go.RowKit
set_option linter.unusedVariables false
set_option maxHeartbeats 2000000 in
theorem rmix_any (a b m : Nat) (w : World) (ha : W64 a) (hb : W64 b) (hm : m < 256) :
    Calls Try.prog 24 #[.int .u64 a, .int .u64 b, .int .u8 m] w fun e w' => e = .returned (.int .u64 (mixN a b m : Nat)) ∧ Below w.heap.size w w' := by
  go_enter Try.func24, Try.ntmps24
  go_wp2_with fail
  refine (rbytes_any _ _ ha).mono ?_
  rintro e w1 ⟨rfl, hb1⟩
  go_wp2_with fail
  refine (rbytes_any _ _ hb).mono ?_
  rintro e w2 ⟨rfl, hb2⟩
  go_wp2
  rw [agg_bytes a, agg_bytes b]
  have hsz : w.heap.size ≤ w2.heap.size := Nat.le_trans hb1.size hb2.size
  go_loopw [9] (fun i wr => ∃ k : Nat, k ≤ 8 ∧ i = .int .i64 k ∧ w2.heap.size + 1 < wr.heap.size ∧ (∀ j < 8, wr.cell? ⟨w2.heap.size, j, none⟩ = some (.int .u8 ((if j < k then mixF a b m j else byteN a j : Nat) : Int))) ∧ (∀ j, wr.frozen? ⟨w2.heap.size, j, none⟩ = false) ∧ (∀ j < 8, wr.cell? ⟨w2.heap.size + 1, j, none⟩ = some (.int .u8 (byteN b j : Nat))) ∧ Below w.heap.size w wr) (fun i _ => 8 - (intOf i).toNat)
  case atStart =>
    refine ⟨0, by omega, rfl, by simp, fun k hk => ?_, fun k => ?_, fun k hk => ?_, ?_⟩
    · rw [World.cell?_alloc_lt _ _ _ (by simp)]; exact cells8 w2 _ (byteV a) k hk
    · rw [World.frozen?_alloc_past _ _ _ (by simp)]; simp
    · have := cells8 (w2.alloc (.cells #[byteV a 0, byteV a 1, byteV a 2, byteV a 3, byteV a 4, byteV a 5, byteV a 6, byteV a 7] 32)) 32 (byteV b) k hk
      simpa [byteV] using this
    · exact ((bstep hb1 hb2).alloc hsz _).alloc (by simp; omega) _
  case round =>
    obtain ⟨k, hk, rfl, hsz2, hca, hfr, hcb, hbr⟩ := hrel
    by_cases hlt : k < 8
    · have ca := hca k hlt
      have cb := hcb k hlt
      have cf := hfr k
      rw [if_neg (Nat.lt_irrefl k)] at ca
      have HA := Lib.hid hca
      have HB := Lib.hid hcb
      have HF := Lib.hid hfr
      clear hca hcb hfr
      generalize byteN a k = x at *
      generalize hy : byteN b k = y at *
      have HY := Lib.hid hy
      clear hy
      go_wp2_with fail
      refine (named_any m _ _ hm (by omega)).mono ?_
      rintro e w3 ⟨rfl, rfl⟩
      generalize hbt : bitB m k = bt at *
      have HT := Lib.hid hbt
      clear hbt
      cases bt
      · go_wp2
        go_roundw
        case rel => exact ⟨k + 1, by omega, by go_num, hsz2, fun j hj => by
          rw [HA.out j hj]
          congr 3
          by_cases h1 : j < k
          · rw [if_pos h1, if_pos (by omega)]
          · rw [if_neg h1]
            by_cases h2 : j = k
            · subst h2; rw [if_pos (by omega)]; unfold mixF; rw [HT.out]; rfl
            · rw [if_neg (by omega)], HF.out, HB.out, hbr⟩
        case measure => simp [intOf]; omega
      · go_wp2
        go_roundw
        case rel => exact ⟨k + 1, by omega, by go_num, by simpa using hsz2, fun j hj => by
          by_cases h2 : j = k
          · subst h2
            rw [World.cell?_setCell_same _ _ _ ca, if_pos (by omega)]; unfold mixF; rw [HT.out, if_pos rfl, HY.out]
          · rw [World.cell?_setCell_other _ _ _ _ (by intro he; injection he with _ h3 _; exact h2 h3.symm), HA.out j hj]
            congr 3
            by_cases h1 : j < k
            · rw [if_pos h1, if_pos (by omega)]
            · rw [if_neg h1, if_neg (by omega)], fun j => by rw [World.frozen?_setCell]; exact HF.out j, fun j hj => by
          rw [World.cell?_setCell_other _ _ _ _ (by intro he; injection he with h3 _ _; omega)]; exact HB.out j hj, hbr.setCell hsz _⟩
        case measure => simp [intOf]; omega
    · obtain rfl : k = 8 := by omega
      have hcs : ∀ j, j < 8 → wr.cell? ⟨w2.heap.size, j, none⟩ = some (.int .u8 ((mixF a b m j : Nat) : Int)) := fun j hj => by rw [hca j hj, if_pos hj]
      have HC := Lib.hid hcs
      have HF := Lib.hid hfr
      have HB := Lib.hid hcb
      clear hca hcs hfr hcb
      go_wp2_with fail
      have bd : ∀ k, 0 ≤ ((mixF a b m k : Nat) : Int) ∧ ((mixF a b m k : Nat) : Int) < 256 := fun k => ⟨by omega, by have := mixF_lt a b m k; omega⟩
      have cc : ∀ j, j < 8 → wr.cell? ⟨w2.heap.size, 0 + (0 + j), none⟩ = some (.int .u8 ((mixF a b m j : Nat) : Int)) := fun j hj => by rw [Nat.zero_add, Nat.zero_add]; exact HC.out j hj
      refine (rof_any w2.heap.size 0 8 8 0 _ _ _ _ _ _ _ _ _ (bd 0) (bd 1) (bd 2) (bd 3) (bd 4) (bd 5) (bd 6) (bd 7) (cc 0 (by decide)) (cc 1 (by decide)) (cc 2 (by decide)) (cc 3 (by decide)) (cc 4 (by decide)) (cc 5 (by decide)) (cc 6 (by decide)) (cc 7 (by decide)) (by decide) (by decide)).mono ?_
      rintro e w3 ⟨rfl, rfl⟩
      rw [← bySum_ofB]
      go_wp2
      go_ret
      exact ⟨rfl, hbr⟩

end Go.Proofs.Ytcpapdjjeinpmaa
