/- Lemmas and contracts used by the proofs of this seat's laws (part S7); each theorem bears its own conditions. -/
import Derived.Test.YtcpapdjjeinpmaaRows
import Derived.Test.YtcpapdjjeinpmaaNum
import Derived.Test.YtcpapdjjeinpmaaMem
import Derived.Test.YtcpapdjjeinpmaaWordB
import Derived.Test.YtcpapdjjeinpmaaS2
import Derived.Test.YtcpapdjjeinpmaaS3
import Derived.Test.YtcpapdjjeinpmaaS4
import Derived.Test.YtcpapdjjeinpmaaS6
import Derived.WalkKit
import Derived.WalkSpells
import Derived.WalkLawsBesides
import Derived.Lib.Hide
import Derived.BigQuiet
import Derived.StillTailTactics
import Derived.Deep.QuietTactic
namespace Go.Proofs.Ytcpapdjjeinpmaa
open Go.RowKit
set_option linter.unusedVariables false

theorem info64 : (Try.prog.info? 31).map (fun i => (i.zero, i.size, i.bytes)) = some (some (.int .u64 0), 1, 8) := by kernel_rfl
theorem make64 (R : Nat) (hR : R ≤ 35184372088832) (u : World) : (Instr.makeSlice 22 (.int .i64 (R : Int)) (.int .i64 (R : Int))).run Try.prog u =
      .ok (.slice (some ⟨u.heap.size, 0, none⟩) R R) (u.alloc (.cells (madeCells #[.int .u64 0] R) 31)) := by
  obtain ⟨i0, hi, hz0, hz1, hz2⟩ := info_parts info64
  have h := run_make (P := Try.prog) u 22 31 i0 (.int .u64 0) Try.underlying22 hi hz0 .i64 .i64 (R : Int) (R : Int) (by omega) (Int.le_refl _) (by rw [hz2]; omega) (by omega)
  rw [Int.toNat_natCast] at h
  simpa [hz1, Value.cells] using h
/-- a list of words handed back, in new memory -/
def RetW (l : List Nat) (w : World) (e : Ending) (w' : World) : Prop :=
  ∃ A c, e = .returned (.tuple #[.slice A l.length c, .bool true]) ∧ l.length ≤ c ∧ RdS w' w'.heap.size A (u64s l) ∧ Below w.heap.size w w'

set_option maxHeartbeats 2000000 in
theorem put_1 (l : List Nat) (B cp : Nat) (A : Option Addr) (w : World) (hA : RdS w B A (u64s l)) (hB : B ≤ w.heap.size) (hl : fitAll 1 l l.length = true) (hm : l.length ≤ 1099511627776) :
    Calls Try.prog 35 #[.int .i64 1, .slice A l.length cp] w (RetW (putN 1 l) w) := by
  have HL := Lib.hid hl
  clear hl
  go_enter Try.func35, Try.ntmps35
  go_wp2_with fail
  refine (width_1 _).mono ?_
  rintro e w1 ⟨rfl, hb1⟩
  go_wp2
  go_loopw [7, 21] (fun ok i wr => ∃ k : Nat, k ≤ l.length ∧ i = .int .i64 k ∧ ok = .bool true ∧ Below w.heap.size w wr) (fun _ i _ => l.length - (intOf i).toNat)
  case atStart => exact ⟨0, by omega, rfl, rfl, hb1⟩
  case round =>
    obtain ⟨k, hk, rfl, rfl, hbr⟩ := hrel
    by_cases hlt : k < l.length
    · obtain ⟨g, off, rfl, hg, hc⟩ := Rd64.at_ hA hlt
      have hf := fitAll_at HL.out k hlt
      generalize l.getD k 0 = x at *
      have HA := Lib.hid hA
      have hc1 := (bcell hbr (o := off + k) (Nat.lt_of_lt_of_le hg hB)).trans hc
      clear hA hc
      have hi1 : (k : Int) < (l.length : Int) := by omega
      go_wp2_with fail
      refine (fits_ok 1 x _ (by decide) (by decide)).mono ?_
      rintro e w2 ⟨rfl, hb2⟩
      have hd : decide (x < 2 ^ widthOf (Int.toNat 1)) = true := decide_eq_true hf
      rw [hd]
      clear hd
      go_wp2
      go_roundw
      case rel => exact ⟨k + 1, by omega, by go_num, rfl, hbr.trans (hb2.mono hbr.size)⟩
      case measure => simp [intOf]; omega
    · obtain rfl : k = l.length := by omega
      have hmk := make64 (roomN 1 l.length) (by unfold roomN; omega)
      have HA := Lib.hid hA
      clear hA
      go_wp2_with fail
      refine (room_1 l.length _ hm).mono ?_
      rintro e w2 ⟨rfl, hb2⟩
      have hR : ∀ k : Nat, k < l.length → k / 64 < roomN 1 l.length := by intro k hk; unfold roomN; omega
      have hput : putN 1 l = (List.range (roomN 1 l.length)).map (putAt 1 l l.length) := rfl
      have hlen : (putN 1 l).length = roomN 1 l.length := by simp [putN]
      generalize roomN 1 l.length = R at *
      have HP := Lib.hid hput
      have HN := Lib.hid hlen
      have HR := Lib.hid hR
      clear hput hlen hR
      go_wp2
      have hbs : Below w.heap.size w w2 := hbr.trans (hb2.mono hbr.size)
      have hsz : w.heap.size ≤ w2.heap.size := hbs.size
      go_loopw [46] (fun i wr => ∃ k : Nat, k ≤ l.length ∧ i = .int .i64 k ∧ OwnW wr w2.heap.size R (putAt 1 l k) ∧ Below w.heap.size w wr) (fun i _ => l.length - (intOf i).toNat)
      case atStart => exact ⟨0, by omega, rfl, OwnW.made _ _ _, hbs.alloc hbs.size _⟩
      case round =>
        obtain ⟨k, hk, rfl, hown, hbr⟩ := hrel
        by_cases hlt : k < l.length
        · obtain ⟨g, off, rfl, hg, hc⟩ := Rd64.at_ HA.out hlt
          have hx := (bcell hbr (o := off + k) (Nat.lt_of_lt_of_le hg hB)).trans hc
          have hst := put_step 1 (by decide) l HL.out k hlt
          have hq : k * 1 / 64 = k / 64 := by omega
          have hs : k * 1 % 64 = (k % 64) := by omega
          rw [hq, hs] at hst
          have hcell := hown.cell (k / 64) (HR.out k hlt)
          have hfree := hown.free (k / 64)
          have hidx : (k : Int) / 64 < (R : Int) := by have := HR.out k hlt; omega
          have hidx0 : 0 ≤ (k : Int) / 64 := by omega
          have hi1 : (k : Int) < (l.length : Int) := by omega
          have hst' : ∀ j, putAt 1 l (k + 1) j = if j = k / 64 then putAt 1 l k (k / 64) + l.getD k 0 * 2 ^ (k % 64) else putAt 1 l k j := fun j => by
            simp only [putAt, hq, hs]
            by_cases e : k / 64 = j
            · subst e; rw [if_pos rfl, if_pos rfl]
            · rw [if_neg e, if_neg (fun h => e h.symm), Nat.add_zero]
          have hor := put_or hst.1 hst.2
          have HST := Lib.hid hst'
          have HOW := Lib.hid hown
          have HOR := Lib.hid hor
          clear hst' hown hor hst hq hs hc hb1 hb2 hbs hg
          generalize l.getD k 0 = x at *
          generalize putAt 1 l k (k / 64) = p at *
          go_wp2
          go_region
          rw [HOR.out]
          go_wp2
          go_roundw
          case rel => exact ⟨k + 1, by omega, by go_num, (HOW.out.set.drew).congr HST.out, (hbr.setCell hsz _).drew⟩
          case measure => simp [intOf]; omega
        · obtain rfl : k = l.length := by omega
          go_wp2
          go_ret2
          exact ⟨_, R, by rw [HN.out]; rfl, Nat.le_of_eq HN.out, by rw [HP.out]; exact hown.rd, hbr⟩

set_option maxHeartbeats 2000000 in
theorem put_2 (l : List Nat) (B cp : Nat) (A : Option Addr) (w : World) (hA : RdS w B A (u64s l)) (hB : B ≤ w.heap.size) (hl : fitAll 8 l l.length = true) (hm : l.length ≤ 1099511627776) :
    Calls Try.prog 35 #[.int .i64 2, .slice A l.length cp] w (RetW (putN 8 l) w) := by
  have HL := Lib.hid hl
  clear hl
  go_enter Try.func35, Try.ntmps35
  go_wp2_with fail
  refine (width_2 _).mono ?_
  rintro e w1 ⟨rfl, hb1⟩
  go_wp2
  go_loopw [7, 21] (fun ok i wr => ∃ k : Nat, k ≤ l.length ∧ i = .int .i64 k ∧ ok = .bool true ∧ Below w.heap.size w wr) (fun _ i _ => l.length - (intOf i).toNat)
  case atStart => exact ⟨0, by omega, rfl, rfl, hb1⟩
  case round =>
    obtain ⟨k, hk, rfl, rfl, hbr⟩ := hrel
    by_cases hlt : k < l.length
    · obtain ⟨g, off, rfl, hg, hc⟩ := Rd64.at_ hA hlt
      have hf := fitAll_at HL.out k hlt
      generalize l.getD k 0 = x at *
      have HA := Lib.hid hA
      have hc1 := (bcell hbr (o := off + k) (Nat.lt_of_lt_of_le hg hB)).trans hc
      clear hA hc
      have hi1 : (k : Int) < (l.length : Int) := by omega
      go_wp2_with fail
      refine (fits_ok 2 x _ (by decide) (by decide)).mono ?_
      rintro e w2 ⟨rfl, hb2⟩
      have hd : decide (x < 2 ^ widthOf (Int.toNat 2)) = true := decide_eq_true hf
      rw [hd]
      clear hd
      go_wp2
      go_roundw
      case rel => exact ⟨k + 1, by omega, by go_num, rfl, hbr.trans (hb2.mono hbr.size)⟩
      case measure => simp [intOf]; omega
    · obtain rfl : k = l.length := by omega
      have hmk := make64 (roomN 8 l.length) (by unfold roomN; omega)
      have HA := Lib.hid hA
      clear hA
      go_wp2_with fail
      refine (room_2 l.length _ hm).mono ?_
      rintro e w2 ⟨rfl, hb2⟩
      have hR : ∀ k : Nat, k < l.length → k / 8 < roomN 8 l.length := by intro k hk; unfold roomN; omega
      have hput : putN 8 l = (List.range (roomN 8 l.length)).map (putAt 8 l l.length) := rfl
      have hlen : (putN 8 l).length = roomN 8 l.length := by simp [putN]
      generalize roomN 8 l.length = R at *
      have HP := Lib.hid hput
      have HN := Lib.hid hlen
      have HR := Lib.hid hR
      clear hput hlen hR
      go_wp2
      have hbs : Below w.heap.size w w2 := hbr.trans (hb2.mono hbr.size)
      have hsz : w.heap.size ≤ w2.heap.size := hbs.size
      go_loopw [46] (fun i wr => ∃ k : Nat, k ≤ l.length ∧ i = .int .i64 k ∧ OwnW wr w2.heap.size R (putAt 8 l k) ∧ Below w.heap.size w wr) (fun i _ => l.length - (intOf i).toNat)
      case atStart => exact ⟨0, by omega, rfl, OwnW.made _ _ _, hbs.alloc hbs.size _⟩
      case round =>
        obtain ⟨k, hk, rfl, hown, hbr⟩ := hrel
        by_cases hlt : k < l.length
        · obtain ⟨g, off, rfl, hg, hc⟩ := Rd64.at_ HA.out hlt
          have hx := (bcell hbr (o := off + k) (Nat.lt_of_lt_of_le hg hB)).trans hc
          have hst := put_step 8 (by decide) l HL.out k hlt
          have hq : k * 8 / 64 = k / 8 := by omega
          have hs : k * 8 % 64 = (k % 8 * 8) := by omega
          rw [hq, hs] at hst
          have hcell := hown.cell (k / 8) (HR.out k hlt)
          have hfree := hown.free (k / 8)
          have hidx : (k : Int) / 8 < (R : Int) := by have := HR.out k hlt; omega
          have hidx0 : 0 ≤ (k : Int) / 8 := by omega
          have hi1 : (k : Int) < (l.length : Int) := by omega
          have hst' : ∀ j, putAt 8 l (k + 1) j = if j = k / 8 then putAt 8 l k (k / 8) + l.getD k 0 * 2 ^ (k % 8 * 8) else putAt 8 l k j := fun j => by
            simp only [putAt, hq, hs]
            by_cases e : k / 8 = j
            · subst e; rw [if_pos rfl, if_pos rfl]
            · rw [if_neg e, if_neg (fun h => e h.symm), Nat.add_zero]
          have hor := put_or hst.1 hst.2
          have HST := Lib.hid hst'
          have HOW := Lib.hid hown
          have HOR := Lib.hid hor
          clear hst' hown hor hst hq hs hc hb1 hb2 hbs hg
          generalize l.getD k 0 = x at *
          generalize putAt 8 l k (k / 8) = p at *
          go_wp2
          go_region
          rw [HOR.out]
          go_wp2
          go_roundw
          case rel => exact ⟨k + 1, by omega, by go_num, (HOW.out.set.drew).congr HST.out, (hbr.setCell hsz _).drew⟩
          case measure => simp [intOf]; omega
        · obtain rfl : k = l.length := by omega
          go_wp2
          go_ret2
          exact ⟨_, R, by rw [HN.out]; rfl, Nat.le_of_eq HN.out, by rw [HP.out]; exact hown.rd, hbr⟩

set_option maxHeartbeats 2000000 in
theorem put_3 (l : List Nat) (B cp : Nat) (A : Option Addr) (w : World) (hA : RdS w B A (u64s l)) (hB : B ≤ w.heap.size) (hl : fitAll 16 l l.length = true) (hm : l.length ≤ 1099511627776) :
    Calls Try.prog 35 #[.int .i64 3, .slice A l.length cp] w (RetW (putN 16 l) w) := by
  have HL := Lib.hid hl
  clear hl
  go_enter Try.func35, Try.ntmps35
  go_wp2_with fail
  refine (width_3 _).mono ?_
  rintro e w1 ⟨rfl, hb1⟩
  go_wp2
  go_loopw [7, 21] (fun ok i wr => ∃ k : Nat, k ≤ l.length ∧ i = .int .i64 k ∧ ok = .bool true ∧ Below w.heap.size w wr) (fun _ i _ => l.length - (intOf i).toNat)
  case atStart => exact ⟨0, by omega, rfl, rfl, hb1⟩
  case round =>
    obtain ⟨k, hk, rfl, rfl, hbr⟩ := hrel
    by_cases hlt : k < l.length
    · obtain ⟨g, off, rfl, hg, hc⟩ := Rd64.at_ hA hlt
      have hf := fitAll_at HL.out k hlt
      generalize l.getD k 0 = x at *
      have HA := Lib.hid hA
      have hc1 := (bcell hbr (o := off + k) (Nat.lt_of_lt_of_le hg hB)).trans hc
      clear hA hc
      have hi1 : (k : Int) < (l.length : Int) := by omega
      go_wp2_with fail
      refine (fits_ok 3 x _ (by decide) (by decide)).mono ?_
      rintro e w2 ⟨rfl, hb2⟩
      have hd : decide (x < 2 ^ widthOf (Int.toNat 3)) = true := decide_eq_true hf
      rw [hd]
      clear hd
      go_wp2
      go_roundw
      case rel => exact ⟨k + 1, by omega, by go_num, rfl, hbr.trans (hb2.mono hbr.size)⟩
      case measure => simp [intOf]; omega
    · obtain rfl : k = l.length := by omega
      have hmk := make64 (roomN 16 l.length) (by unfold roomN; omega)
      have HA := Lib.hid hA
      clear hA
      go_wp2_with fail
      refine (room_3 l.length _ hm).mono ?_
      rintro e w2 ⟨rfl, hb2⟩
      have hR : ∀ k : Nat, k < l.length → k / 4 < roomN 16 l.length := by intro k hk; unfold roomN; omega
      have hput : putN 16 l = (List.range (roomN 16 l.length)).map (putAt 16 l l.length) := rfl
      have hlen : (putN 16 l).length = roomN 16 l.length := by simp [putN]
      generalize roomN 16 l.length = R at *
      have HP := Lib.hid hput
      have HN := Lib.hid hlen
      have HR := Lib.hid hR
      clear hput hlen hR
      go_wp2
      have hbs : Below w.heap.size w w2 := hbr.trans (hb2.mono hbr.size)
      have hsz : w.heap.size ≤ w2.heap.size := hbs.size
      go_loopw [46] (fun i wr => ∃ k : Nat, k ≤ l.length ∧ i = .int .i64 k ∧ OwnW wr w2.heap.size R (putAt 16 l k) ∧ Below w.heap.size w wr) (fun i _ => l.length - (intOf i).toNat)
      case atStart => exact ⟨0, by omega, rfl, OwnW.made _ _ _, hbs.alloc hbs.size _⟩
      case round =>
        obtain ⟨k, hk, rfl, hown, hbr⟩ := hrel
        by_cases hlt : k < l.length
        · obtain ⟨g, off, rfl, hg, hc⟩ := Rd64.at_ HA.out hlt
          have hx := (bcell hbr (o := off + k) (Nat.lt_of_lt_of_le hg hB)).trans hc
          have hst := put_step 16 (by decide) l HL.out k hlt
          have hq : k * 16 / 64 = k / 4 := by omega
          have hs : k * 16 % 64 = (k % 4 * 16) := by omega
          rw [hq, hs] at hst
          have hcell := hown.cell (k / 4) (HR.out k hlt)
          have hfree := hown.free (k / 4)
          have hidx : (k : Int) / 4 < (R : Int) := by have := HR.out k hlt; omega
          have hidx0 : 0 ≤ (k : Int) / 4 := by omega
          have hi1 : (k : Int) < (l.length : Int) := by omega
          have hst' : ∀ j, putAt 16 l (k + 1) j = if j = k / 4 then putAt 16 l k (k / 4) + l.getD k 0 * 2 ^ (k % 4 * 16) else putAt 16 l k j := fun j => by
            simp only [putAt, hq, hs]
            by_cases e : k / 4 = j
            · subst e; rw [if_pos rfl, if_pos rfl]
            · rw [if_neg e, if_neg (fun h => e h.symm), Nat.add_zero]
          have hor := put_or hst.1 hst.2
          have HST := Lib.hid hst'
          have HOW := Lib.hid hown
          have HOR := Lib.hid hor
          clear hst' hown hor hst hq hs hc hb1 hb2 hbs hg
          generalize l.getD k 0 = x at *
          generalize putAt 16 l k (k / 4) = p at *
          go_wp2
          go_region
          rw [HOR.out]
          go_wp2
          go_roundw
          case rel => exact ⟨k + 1, by omega, by go_num, (HOW.out.set.drew).congr HST.out, (hbr.setCell hsz _).drew⟩
          case measure => simp [intOf]; omega
        · obtain rfl : k = l.length := by omega
          go_wp2
          go_ret2
          exact ⟨_, R, by rw [HN.out]; rfl, Nat.le_of_eq HN.out, by rw [HP.out]; exact hown.rd, hbr⟩

set_option maxHeartbeats 2000000 in
theorem put_4 (l : List Nat) (B cp : Nat) (A : Option Addr) (w : World) (hA : RdS w B A (u64s l)) (hB : B ≤ w.heap.size) (hl : fitAll 32 l l.length = true) (hm : l.length ≤ 1099511627776) :
    Calls Try.prog 35 #[.int .i64 4, .slice A l.length cp] w (RetW (putN 32 l) w) := by
  have HL := Lib.hid hl
  clear hl
  go_enter Try.func35, Try.ntmps35
  go_wp2_with fail
  refine (width_4 _).mono ?_
  rintro e w1 ⟨rfl, hb1⟩
  go_wp2
  go_loopw [7, 21] (fun ok i wr => ∃ k : Nat, k ≤ l.length ∧ i = .int .i64 k ∧ ok = .bool true ∧ Below w.heap.size w wr) (fun _ i _ => l.length - (intOf i).toNat)
  case atStart => exact ⟨0, by omega, rfl, rfl, hb1⟩
  case round =>
    obtain ⟨k, hk, rfl, rfl, hbr⟩ := hrel
    by_cases hlt : k < l.length
    · obtain ⟨g, off, rfl, hg, hc⟩ := Rd64.at_ hA hlt
      have hf := fitAll_at HL.out k hlt
      generalize l.getD k 0 = x at *
      have HA := Lib.hid hA
      have hc1 := (bcell hbr (o := off + k) (Nat.lt_of_lt_of_le hg hB)).trans hc
      clear hA hc
      have hi1 : (k : Int) < (l.length : Int) := by omega
      go_wp2_with fail
      refine (fits_ok 4 x _ (by decide) (by decide)).mono ?_
      rintro e w2 ⟨rfl, hb2⟩
      have hd : decide (x < 2 ^ widthOf (Int.toNat 4)) = true := decide_eq_true hf
      rw [hd]
      clear hd
      go_wp2
      go_roundw
      case rel => exact ⟨k + 1, by omega, by go_num, rfl, hbr.trans (hb2.mono hbr.size)⟩
      case measure => simp [intOf]; omega
    · obtain rfl : k = l.length := by omega
      have hmk := make64 (roomN 32 l.length) (by unfold roomN; omega)
      have HA := Lib.hid hA
      clear hA
      go_wp2_with fail
      refine (room_4 l.length _ hm).mono ?_
      rintro e w2 ⟨rfl, hb2⟩
      have hR : ∀ k : Nat, k < l.length → k / 2 < roomN 32 l.length := by intro k hk; unfold roomN; omega
      have hput : putN 32 l = (List.range (roomN 32 l.length)).map (putAt 32 l l.length) := rfl
      have hlen : (putN 32 l).length = roomN 32 l.length := by simp [putN]
      generalize roomN 32 l.length = R at *
      have HP := Lib.hid hput
      have HN := Lib.hid hlen
      have HR := Lib.hid hR
      clear hput hlen hR
      go_wp2
      have hbs : Below w.heap.size w w2 := hbr.trans (hb2.mono hbr.size)
      have hsz : w.heap.size ≤ w2.heap.size := hbs.size
      go_loopw [46] (fun i wr => ∃ k : Nat, k ≤ l.length ∧ i = .int .i64 k ∧ OwnW wr w2.heap.size R (putAt 32 l k) ∧ Below w.heap.size w wr) (fun i _ => l.length - (intOf i).toNat)
      case atStart => exact ⟨0, by omega, rfl, OwnW.made _ _ _, hbs.alloc hbs.size _⟩
      case round =>
        obtain ⟨k, hk, rfl, hown, hbr⟩ := hrel
        by_cases hlt : k < l.length
        · obtain ⟨g, off, rfl, hg, hc⟩ := Rd64.at_ HA.out hlt
          have hx := (bcell hbr (o := off + k) (Nat.lt_of_lt_of_le hg hB)).trans hc
          have hst := put_step 32 (by decide) l HL.out k hlt
          have hq : k * 32 / 64 = k / 2 := by omega
          have hs : k * 32 % 64 = (k % 2 * 32) := by omega
          rw [hq, hs] at hst
          have hcell := hown.cell (k / 2) (HR.out k hlt)
          have hfree := hown.free (k / 2)
          have hidx : (k : Int) / 2 < (R : Int) := by have := HR.out k hlt; omega
          have hidx0 : 0 ≤ (k : Int) / 2 := by omega
          have hi1 : (k : Int) < (l.length : Int) := by omega
          have hst' : ∀ j, putAt 32 l (k + 1) j = if j = k / 2 then putAt 32 l k (k / 2) + l.getD k 0 * 2 ^ (k % 2 * 32) else putAt 32 l k j := fun j => by
            simp only [putAt, hq, hs]
            by_cases e : k / 2 = j
            · subst e; rw [if_pos rfl, if_pos rfl]
            · rw [if_neg e, if_neg (fun h => e h.symm), Nat.add_zero]
          have hor := put_or hst.1 hst.2
          have HST := Lib.hid hst'
          have HOW := Lib.hid hown
          have HOR := Lib.hid hor
          clear hst' hown hor hst hq hs hc hb1 hb2 hbs hg
          generalize l.getD k 0 = x at *
          generalize putAt 32 l k (k / 2) = p at *
          go_wp2
          go_region
          rw [HOR.out]
          go_wp2
          go_roundw
          case rel => exact ⟨k + 1, by omega, by go_num, (HOW.out.set.drew).congr HST.out, (hbr.setCell hsz _).drew⟩
          case measure => simp [intOf]; omega
        · obtain rfl : k = l.length := by omega
          go_wp2
          go_ret2
          exact ⟨_, R, by rw [HN.out]; rfl, Nat.le_of_eq HN.out, by rw [HP.out]; exact hown.rd, hbr⟩

set_option maxHeartbeats 2000000 in
theorem put_5 (l : List Nat) (B cp : Nat) (A : Option Addr) (w : World) (hA : RdS w B A (u64s l)) (hB : B ≤ w.heap.size) (hl : fitAll 64 l l.length = true) (hm : l.length ≤ 1099511627776) :
    Calls Try.prog 35 #[.int .i64 5, .slice A l.length cp] w (RetW (putN 64 l) w) := by
  have HL := Lib.hid hl
  clear hl
  go_enter Try.func35, Try.ntmps35
  go_wp2_with fail
  refine (width_5 _).mono ?_
  rintro e w1 ⟨rfl, hb1⟩
  go_wp2
  go_loopw [7, 21] (fun ok i wr => ∃ k : Nat, k ≤ l.length ∧ i = .int .i64 k ∧ ok = .bool true ∧ Below w.heap.size w wr) (fun _ i _ => l.length - (intOf i).toNat)
  case atStart => exact ⟨0, by omega, rfl, rfl, hb1⟩
  case round =>
    obtain ⟨k, hk, rfl, rfl, hbr⟩ := hrel
    by_cases hlt : k < l.length
    · obtain ⟨g, off, rfl, hg, hc⟩ := Rd64.at_ hA hlt
      have hf := fitAll_at HL.out k hlt
      generalize l.getD k 0 = x at *
      have HA := Lib.hid hA
      have hc1 := (bcell hbr (o := off + k) (Nat.lt_of_lt_of_le hg hB)).trans hc
      clear hA hc
      have hi1 : (k : Int) < (l.length : Int) := by omega
      go_wp2_with fail
      refine (fits_ok 5 x _ (by decide) (by decide)).mono ?_
      rintro e w2 ⟨rfl, hb2⟩
      have hd : decide (x < 2 ^ widthOf (Int.toNat 5)) = true := decide_eq_true hf
      rw [hd]
      clear hd
      go_wp2
      go_roundw
      case rel => exact ⟨k + 1, by omega, by go_num, rfl, hbr.trans (hb2.mono hbr.size)⟩
      case measure => simp [intOf]; omega
    · obtain rfl : k = l.length := by omega
      have hmk := make64 (roomN 64 l.length) (by unfold roomN; omega)
      have HA := Lib.hid hA
      clear hA
      go_wp2_with fail
      refine (room_5 l.length _ hm).mono ?_
      rintro e w2 ⟨rfl, hb2⟩
      have hR : ∀ k : Nat, k < l.length → k < roomN 64 l.length := by intro k hk; unfold roomN; omega
      have hput : putN 64 l = (List.range (roomN 64 l.length)).map (putAt 64 l l.length) := rfl
      have hlen : (putN 64 l).length = roomN 64 l.length := by simp [putN]
      generalize roomN 64 l.length = R at *
      have HP := Lib.hid hput
      have HN := Lib.hid hlen
      have HR := Lib.hid hR
      clear hput hlen hR
      go_wp2
      have hbs : Below w.heap.size w w2 := hbr.trans (hb2.mono hbr.size)
      have hsz : w.heap.size ≤ w2.heap.size := hbs.size
      go_loopw [46] (fun i wr => ∃ k : Nat, k ≤ l.length ∧ i = .int .i64 k ∧ OwnW wr w2.heap.size R (putAt 64 l k) ∧ Below w.heap.size w wr) (fun i _ => l.length - (intOf i).toNat)
      case atStart => exact ⟨0, by omega, rfl, OwnW.made _ _ _, hbs.alloc hbs.size _⟩
      case round =>
        obtain ⟨k, hk, rfl, hown, hbr⟩ := hrel
        by_cases hlt : k < l.length
        · obtain ⟨g, off, rfl, hg, hc⟩ := Rd64.at_ HA.out hlt
          have hx := (bcell hbr (o := off + k) (Nat.lt_of_lt_of_le hg hB)).trans hc
          have hst := put_step 64 (by decide) l HL.out k hlt
          have hq : k * 64 / 64 = k := by omega
          have hs : k * 64 % 64 = 0 := by omega
          rw [hq, hs] at hst
          have hcell := hown.cell (k) (HR.out k hlt)
          have hfree := hown.free (k)
          have hidx : (k : Int) < (R : Int) := by have := HR.out k hlt; omega
          have hidx0 : 0 ≤ (k : Int) := by omega
          have hi1 : (k : Int) < (l.length : Int) := by omega
          have hst' : ∀ j, putAt 64 l (k + 1) j = if j = k then putAt 64 l k (k) + l.getD k 0 * 2 ^ 0 else putAt 64 l k j := fun j => by
            simp only [putAt, hq, hs]
            by_cases e : k = j
            · subst e; rw [if_pos rfl, if_pos rfl]
            · rw [if_neg e, if_neg (fun h => e h.symm), Nat.add_zero]
          have hor := put_or hst.1 hst.2
          have HST := Lib.hid hst'
          have HOW := Lib.hid hown
          have hor' : ∀ z : Int, z = ((l.getD k 0 : Nat) : Int) → bits .or .u64 (putAt 64 l k k : Nat) z = ((putAt 64 l k k + l.getD k 0 * 2 ^ 0 : Nat) : Int) := fun z hz => by
            rw [← hor, hz]; congr 1; rw [Int.pow_zero, Int.mul_one, wrap64_of_lt (by omega)]
          have HOR := Lib.hid hor'
          clear hor'
          have HX := Lib.hid (show l.getD k 0 < 18446744073709551616 by omega)
          clear hst' hown hor hst hq hs hc hb1 hb2 hbs hg
          generalize l.getD k 0 = x at *
          generalize putAt 64 l k (k) = p at *
          go_wp2
          go_region
          rw [HOR.out (IntKind.u64.wrap (x : Int)) (wrap64_of_lt (by have := HX.out; omega))]
          go_wp2
          go_roundw
          case rel => exact ⟨k + 1, by omega, by go_num, (HOW.out.set.drew).congr fun j => (HST.out j).trans (by rw [Nat.pow_zero, Nat.mul_one]), (hbr.setCell hsz _).drew⟩
          case measure => simp [intOf]; omega
        · obtain rfl : k = l.length := by omega
          go_wp2
          go_ret2
          exact ⟨_, R, by rw [HN.out]; rfl, Nat.le_of_eq HN.out, by rw [HP.out]; exact hown.rd, hbr⟩

theorem fitAll_no {W : Nat} {l : List Nat} (h : fitAll W l l.length = false) : ∃ k, k < l.length ∧ ¬ l.getD k 0 < 2 ^ W := by
  unfold fitAll at h
  rw [List.take_length, List.all_eq_false] at h
  obtain ⟨n, hn, hd⟩ := h
  obtain ⟨k, hk, rfl⟩ := List.getElem_of_mem hn
  exact ⟨k, hk, by rw [getD_lt hk]; simpa using hd⟩
set_option maxHeartbeats 2000000 in
theorem put_no (c : Int) (l : List Nat) (B cp : Nat) (A : Option Addr) (w : World) (h0 : 0 ≤ c) (h6 : c < 6) (hA : RdS w B A (u64s l)) (hB : B ≤ w.heap.size) (hl : fitAll (widthOf c.toNat) l l.length = false) (hm : l.length ≤ 1099511627776) :
    Calls Try.prog 35 #[.int .i64 c, .slice A l.length cp] w fun e w' => e = .returned (.tuple #[.slice none 0 0, .bool false]) ∧ Below w.heap.size w w' := by
  have HL := Lib.hid hl
  clear hl
  go_enter Try.func35, Try.ntmps35
  go_wp2_with fail
  refine (width_ok c _ h0 h6).mono ?_
  rintro e w1 ⟨rfl, hb1⟩
  go_wp2
  go_loopw [7, 21] (fun ok i wr => ∃ k : Nat, k ≤ l.length ∧ i = .int .i64 k ∧ ok = .bool (fitAll (widthOf c.toNat) l k) ∧ Below w.heap.size w wr) (fun _ i _ => l.length - (intOf i).toNat)
  case atStart => exact ⟨0, by omega, rfl, by rw [fitAll_zero], hb1⟩
  case round =>
    obtain ⟨k, hk, rfl, rfl, hbr⟩ := hrel
    by_cases hlt : k < l.length
    · obtain ⟨g, off, rfl, hg, hc⟩ := Rd64.at_ hA hlt
      have hs := fitAll_succ (widthOf c.toNat) l k hlt
      generalize l.getD k 0 = x at *
      have HA := Lib.hid hA
      have HS := Lib.hid hs
      have hc1 := (bcell hbr (o := off + k) (Nat.lt_of_lt_of_le hg hB)).trans hc
      clear hA hc hs
      have hi1 : (k : Int) < (l.length : Int) := by omega
      generalize hf : fitAll (widthOf c.toNat) l k = f at *
      have HF := Lib.hid hf
      clear hf
      cases f
      · go_wp2
        go_roundw
        case rel => exact ⟨k + 1, by omega, by go_num, by rw [HS.out]; rfl, hbr⟩
        case measure => simp [intOf]; omega
      · go_wp2_with fail
        refine (fits_ok c x _ h0 h6).mono ?_
        rintro e w2 ⟨rfl, hb2⟩
        generalize decide (x < 2 ^ widthOf c.toNat) = d at *
        go_wp2
        go_roundw
        case rel => exact ⟨k + 1, by omega, by go_num, by rw [HS.out]; rfl, hbr.trans (hb2.mono hbr.size)⟩
        case measure => simp [intOf]; omega
    · obtain rfl : k = l.length := by omega
      rw [HL.out]
      go_wp2
      go_ret2
      exact ⟨rfl, hbr⟩
set_option maxHeartbeats 2000000 in
theorem put_bad (c : Int) (l : List Nat) (B cp : Nat) (A : Option Addr) (w : World) (h6 : c < 0 ∨ 6 ≤ c) (hA : RdS w B A (u64s l)) (hB : B ≤ w.heap.size) (hm : l.length ≤ 1099511627776) :
    Calls Try.prog 35 #[.int .i64 c, .slice A l.length cp] w fun e w' => e = .returned (.tuple #[.slice none 0 0, .bool false]) ∧ Below w.heap.size w w' := by
  go_enter Try.func35, Try.ntmps35
  go_wp2_with fail
  refine (width_no c _ h6).mono ?_
  rintro e w1 ⟨rfl, hb1⟩
  go_wp2
  go_loopw [7, 21] (fun ok i wr => ∃ k : Nat, k ≤ l.length ∧ i = .int .i64 k ∧ ok = .bool false ∧ Below w.heap.size w wr) (fun _ i _ => l.length - (intOf i).toNat)
  case atStart => exact ⟨0, by omega, rfl, rfl, hb1⟩
  case round =>
    obtain ⟨k, hk, rfl, rfl, hbr⟩ := hrel
    by_cases hlt : k < l.length
    · obtain ⟨g, off, rfl, hg, hc⟩ := Rd64.at_ hA hlt
      generalize l.getD k 0 = x at *
      have HA := Lib.hid hA
      have hc1 := (bcell hbr (o := off + k) (Nat.lt_of_lt_of_le hg hB)).trans hc
      clear hA hc
      have hi1 : (k : Int) < (l.length : Int) := by omega
      go_wp2
      go_roundw
      case rel => exact ⟨k + 1, by omega, by go_num, rfl, hbr⟩
      case measure => simp [intOf]; omega
    · obtain rfl : k = l.length := by omega
      go_wp2
      go_ret2
      exact ⟨rfl, hbr⟩
set_option maxHeartbeats 2000000 in
theorem put_0 (l : List Nat) (B cp : Nat) (A : Option Addr) (w : World) (hA : RdS w B A (u64s l)) (hB : B ≤ w.heap.size) (hl : fitAll 0 l l.length = true) (hm : l.length ≤ 1099511627776) :
    Calls Try.prog 35 #[.int .i64 0, .slice A l.length cp] w (RetW [] w) := by
  have HL := Lib.hid hl
  clear hl
  go_enter Try.func35, Try.ntmps35
  go_wp2_with fail
  refine (width_0 _).mono ?_
  rintro e w1 ⟨rfl, hb1⟩
  go_wp2
  go_loopw [7, 21] (fun ok i wr => ∃ k : Nat, k ≤ l.length ∧ i = .int .i64 k ∧ ok = .bool true ∧ Below w.heap.size w wr) (fun _ i _ => l.length - (intOf i).toNat)
  case atStart => exact ⟨0, by omega, rfl, rfl, hb1⟩
  case round =>
    obtain ⟨k, hk, rfl, rfl, hbr⟩ := hrel
    by_cases hlt : k < l.length
    · obtain ⟨g, off, rfl, hg, hc⟩ := Rd64.at_ hA hlt
      have hf := fitAll_at HL.out k hlt
      generalize l.getD k 0 = x at *
      have HA := Lib.hid hA
      have hc1 := (bcell hbr (o := off + k) (Nat.lt_of_lt_of_le hg hB)).trans hc
      clear hA hc
      have hi1 : (k : Int) < (l.length : Int) := by omega
      go_wp2_with fail
      refine (fits_ok 0 x _ (by decide) (by decide)).mono ?_
      rintro e w2 ⟨rfl, hb2⟩
      have hd : decide (x < 2 ^ widthOf (Int.toNat 0)) = true := decide_eq_true hf
      rw [hd]
      clear hd
      go_wp2
      go_roundw
      case rel => exact ⟨k + 1, by omega, by go_num, rfl, hbr.trans (hb2.mono hbr.size)⟩
      case measure => simp [intOf]; omega
    · obtain rfl : k = l.length := by omega
      have hmk : ∀ u : World, (Instr.makeSlice 22 (.int .i64 0) (.int .i64 0)).run Try.prog u = .ok (.slice (some ⟨u.heap.size, 0, none⟩) 0 0) (u.alloc (.cells (madeCells #[.int .u64 0] 0) 31)) := make64 0 (by decide)
      have HA := Lib.hid hA
      clear hA
      go_wp2_with fail
      refine (room_0 l.length _ hm).mono ?_
      rintro e w2 ⟨rfl, hb2⟩
      rw [show roomN 0 l.length = 0 by unfold roomN; omega]
      go_wp2
      go_ret2
      have hbs : Below w.heap.size w w2 := hbr.trans (hb2.mono hbr.size)
      exact ⟨_, 0, rfl, Nat.le_refl _, RdS.nil _ _ _, hbs.alloc hbs.size _⟩

end Go.Proofs.Ytcpapdjjeinpmaa
