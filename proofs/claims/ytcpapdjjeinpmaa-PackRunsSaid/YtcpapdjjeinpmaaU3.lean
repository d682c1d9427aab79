/- Lemmas and contracts used by the proofs of this seat's laws (part U3); each theorem bears its own conditions. -/
import Derived.Test.YtcpapdjjeinpmaaRows
import Derived.Test.YtcpapdjjeinpmaaNum
import Derived.Test.YtcpapdjjeinpmaaMem
import Derived.Test.YtcpapdjjeinpmaaPk
import Derived.Test.YtcpapdjjeinpmaaWordB
import Derived.WalkKit
import Derived.WalkSpells
import Derived.WalkLawsBesides
import Derived.Lib.Hide
import Derived.BigQuiet
import Derived.StillTailTactics
import Derived.Deep.RegionHeld3
import Derived.Deep.AppendLies
import Derived.Laws.CopyOwn
import Derived.Deep.QuietTactic
namespace Go.Proofs.Ytcpapdjjeinpmaa
open Go.RowKit
set_option linter.unusedVariables false
set_option maxHeartbeats 1000000 in
theorem spread_any (t : Nat) (ps : List Nat) (A : Option Addr) (c B : Nat) (w : World) (ht : t < 256) (hp : ps.length = popN t) (h8 : ∀ n ∈ ps, n < 256) (hA : RdS w B A (u8s ps)) (hB : B ≤ w.heap.size) :
    Calls Try.prog 54 #[.int .u8 t, .slice A ps.length c] w fun e w' => e = .returned (.int .u64 (sprN t ps : Nat)) ∧ Below w.heap.size w w' := by
  have hpl : ps.length ≤ 8 := by rw [hp]; exact popN_le t
  have HP := Lib.hid hp
  clear hp
  go_enter Try.func54, Try.ntmps54
  go_wp2
  go_loopw [6, 7, 8] (fun nx _ i wr => ∃ k : Nat, k ≤ 8 ∧ i = .int .i64 k ∧ nx = .int .i64 (rankN t k : Nat) ∧ w.heap.size < wr.heap.size ∧ (∀ j < 8, wr.cell? ⟨w.heap.size, j, none⟩ = some (.int .u8 ((if j < k then sprF t ps j else 0 : Nat) : Int))) ∧ (∀ j, wr.frozen? ⟨w.heap.size, j, none⟩ = false) ∧ Below w.heap.size w wr) (fun _ _ i _ => 8 - (intOf i).toNat)
  case atStart =>
    refine ⟨0, by omega, rfl, rfl, by simp, fun j hj => ?_, fun j => by simp, (Below.refl _ _).alloc (Nat.le_refl _) _⟩
    have := cells8 w 32 (fun _ => .int .u8 0) j hj
    simpa using this
  case round =>
    obtain ⟨k, hk, rfl, rfl, hsz, hcell, hfr, hbr⟩ := hrel
    have HC := Lib.hid hcell
    have HF := Lib.hid hfr
    clear hcell hfr
    by_cases hlt : k < 8
    · have hbit := bit8 t k ht
      have HBIT := Lib.hid hbit
      clear hbit
      by_cases hb : bitB t k = true
      · have hr := rankN_lt hb hlt
        rw [← HP.out] at hr
        have hs := rankN_yes hb
        have htst : (bits .and .u8 ((t : Int) / 2 ^ k) 1 == 1) = true := by rw [HBIT.out, bitB_t hb]; rfl
        have hsp : sprF t ps k = ps.getD (rankN t k) 0 := by unfold sprF; rw [if_pos hb]
        obtain ⟨g, off, hA', hg, hc⟩ := Rd8.at_ hA hr
        subst hA'
        have hc1 := (bcell hbr (o := off + rankN t k) (Nat.lt_of_lt_of_le hg hB)).trans hc
        have hck := HC.out k hlt
        rw [if_neg (Nat.lt_irrefl k)] at hck
        have hfk := HF.out k
        have HS := Lib.hid hs
        have HSP := Lib.hid hsp
        have HA := Lib.hid hA
        clear hs hsp hc hb hA
        generalize rankN t k = m at *
        generalize hy : ps.getD m 0 = y at *
        have HY := Lib.hid hy
        clear hy
        have hm1 : (m : Int) < (ps.length : Int) := by omega
        go_wp2
        go_roundw
        case rel => exact ⟨k + 1, by omega, by go_num, by rw [HS.out]; go_num, by simpa using hsz, fun j hj => by
          by_cases h2 : j = k
          · subst h2
            rw [World.cell?_setCell_same _ _ _ hck, if_pos (by omega), HSP.out]
          · rw [World.cell?_setCell_other _ _ _ _ (by intro he; injection he with _ h3 _; exact h2 h3.symm), HC.out j hj]
            congr 3
            by_cases h1 : j < k
            · rw [if_pos h1, if_pos (by omega)]
            · rw [if_neg h1, if_neg (by omega)], fun j => by rw [World.frozen?_setCell]; exact HF.out j, hbr.setCell (Nat.le_refl _) _⟩
        case measure => simp [intOf]; omega
      · have hbf : bitB t k = false := by simpa using hb
        have hs := rankN_no hbf
        have htst : (bits .and .u8 ((t : Int) / 2 ^ k) 1 == 1) = false := by
          rw [HBIT.out]; have := bitB_f hbf; exact beq_eq_false_iff_ne.2 (by omega)
        have hsp : sprF t ps k = 0 := by unfold sprF; rw [if_neg hb]
        have HS := Lib.hid hs
        have HSP := Lib.hid hsp
        clear hs hsp hb hbf
        go_wp2
        go_roundw
        case rel => exact ⟨k + 1, by omega, by go_num, by rw [HS.out], hsz, fun j hj => by
          rw [HC.out j hj]
          congr 3
          by_cases h1 : j < k
          · rw [if_pos h1, if_pos (by omega)]
          · rw [if_neg h1]
            by_cases h2 : j = k
            · subst h2; rw [if_pos (by omega), HSP.out]
            · rw [if_neg (by omega)], HF.out, hbr⟩
        case measure => simp [intOf]; omega
    · obtain rfl : k = 8 := by omega
      have hbd : ∀ i, 0 ≤ ((sprF t ps i : Nat) : Int) ∧ ((sprF t ps i : Nat) : Int) < 256 := fun i => ⟨by omega, by have := sprF_lt h8 (t := t) i; omega⟩
      have hcc : ∀ j, j < 8 → wr.cell? ⟨w.heap.size, j, none⟩ = some (.int .u8 ((sprF t ps j : Nat) : Int)) := fun j hj => by rw [HC.out j hj, if_pos hj]
      have c0 := hcc 0 (by decide)
      have c1 := hcc 1 (by decide)
      have c2 := hcc 2 (by decide)
      have c3 := hcc 3 (by decide)
      have c4 := hcc 4 (by decide)
      have c5 := hcc 5 (by decide)
      have c6 := hcc 6 (by decide)
      have c7 := hcc 7 (by decide)
      have HBD := Lib.hid hbd
      clear hcc hbd
      go_wp2_with fail
      refine (of_any _ _ _ _ _ _ _ _ _ (HBD.out 0) (HBD.out 1) (HBD.out 2) (HBD.out 3) (HBD.out 4) (HBD.out 5) (HBD.out 6) (HBD.out 7)).mono ?_
      rintro e w2 ⟨rfl, hb2⟩
      rw [← bySum_ofB]
      go_wp2
      go_ret
      exact ⟨rfl, bstep hbr hb2⟩

end Go.Proofs.Ytcpapdjjeinpmaa
