/- Lemmas and contracts used by the proofs of this seat's laws (part U4); each theorem bears its own conditions. -/
import Derived.Test.YtcpapdjjeinpmaaRows
import Derived.Test.YtcpapdjjeinpmaaNum
import Derived.Test.YtcpapdjjeinpmaaMem
import Derived.Test.YtcpapdjjeinpmaaPk
import Derived.Test.YtcpapdjjeinpmaaWordB
import Derived.Test.YtcpapdjjeinpmaaOps
import Derived.Test.YtcpapdjjeinpmaaU1
import Derived.Test.YtcpapdjjeinpmaaU2
import Derived.Test.YtcpapdjjeinpmaaS7
import Derived.Test.YtcpapdjjeinpmaaF3
import Derived.WalkKit
import Derived.WalkSpells
import Derived.WalkLawsBesides
import Derived.Lib.Hide
import Derived.BigQuiet
import Derived.StillTailTactics
import Derived.Deep.RegionHeld3
import Derived.Deep.AppendLies
import Derived.Laws.CopyOwn
import Derived.Deep.QuietTactic
namespace Go.Proofs.Ytcpapdjjeinpmaa
open Go.RowKit
set_option linter.unusedVariables false
/-- what a step of an unpacker leaves -/
def StepP (base g B : Nat) (most : Nat) (m : Nat × List Nat × List Nat) (w : World) (e : Ending) (w' : World) : Prop :=
  e = .returned (.int .i64 (m.1 : Nat)) ∧ (m.1 = 0 → US w' base g B m.2.1 m.2.2 (most : Int)) ∧ Below base w w'
theorem make64u8 (R : Nat) (hR : R ≤ 35184372088832) (u : World) : (Instr.makeSlice 22 (.int .u8 (R : Int)) (.int .u8 (R : Int))).run Try.prog u =
      .ok (.slice (some ⟨u.heap.size, 0, none⟩) R R) (u.alloc (.cells (madeCells #[.int .u64 0] R) 31)) := by
  obtain ⟨i0, hi, hz0, hz1, hz2⟩ := info_parts info64'
  have h := run_make (P := Try.prog) u 22 31 i0 (.int .u64 0) Try.underlying22 hi hz0 .u8 .u8 (R : Int) (R : Int) (by omega) (Int.le_refl _) (by rw [hz2]; omega) (by omega)
  rw [Int.toNat_natCast] at h
  simpa [hz1, Value.cells] using h
theorem US.below {w w' : World} {base g B : Nat} {rest words : List Nat} {most : Int} (h : US w base g B rest words most) (hb : Below w.heap.size w w') : US w' base g B rest words most := by
  obtain ⟨⟨A, c, v, hblk, hrd, hc, hown⟩, h1, h2⟩ := h
  exact ⟨⟨A, c, v, blk_below hblk hb, hrd.below (hb.mono (Nat.le_trans h1 (Nat.le_trans h2 (Nat.le_of_lt (blk_lt hblk))))), hc, own_below hown hb⟩, h1, h2⟩
theorem US.lt {w : World} {base g B : Nat} {rest words : List Nat} {most : Int} (h : US w base g B rest words most) : base < w.heap.size := by
  obtain ⟨⟨A, c, v, hblk, _⟩, h1, h2⟩ := h
  exact Nat.lt_of_le_of_lt h2 (blk_lt hblk)
set_option maxHeartbeats 2000000 in
theorem urun_any (t : Nat) (ht : t = 0 ∨ t = 255) (base g B : Nat) (rest words : List Nat) (most : Nat) (w : World) (hm : most ≤ 9223372036854775807) (h8 : ∀ n ∈ rest, n < 256) (hM : words.length + 128 * rest.length + 127 ≤ 8796093022208) (hU : US w base g B rest words (most : Int)) :
    Calls Try.prog 55 #[.pointer (some ⟨g, 0, none⟩), .int .u8 t] w (StepP base g B most (runM t rest words most) w) := by
  have hlt := hU.lt
  cases rest with
  | nil =>
    go_enter Try.func55, Try.ntmps55
    go_wp2_with fail
    refine (cut_no 1 base g B [] words most _ (by decide) hU).mono ?_
    rintro e w1 ⟨rfl, rfl⟩
    go_wp2
    go_ret
    exact ⟨rfl, fun h => absurd (show (4 : Nat) = 0 from h) (by decide), Below.refl _ _⟩
  | cons n r =>
    have hn : n < 256 := h8 n (.head _)
    have h8r : ∀ m ∈ r, m < 256 := fun m hm => h8 m (.tail _ hm)
    simp only [List.length_cons] at hM
    have H8R := Lib.hid h8r
    have HU := Lib.hid hU
    clear h8 h8r hU
    have hrm : runM t (n :: r) words most = if t = 255 ∧ r.length < 8 * n then (4, [], []) else if most < words.length + (runW t n r).length then (3, [], []) else (0, (if t = 255 then r.drop (8 * n) else r), words ++ runW t n r) := rfl
    have HRM := Lib.hid hrm
    clear hrm
    have hmk := make64u8 n (by omega)
    go_enter Try.func55, Try.ntmps55
    go_wp2_with fail
    refine (cut_ok 1 base g B (n :: r) words most _ (by decide) (by simp) (by simp; omega) HU.out).mono ?_
    rintro e w1 ⟨A1, rfl, hrd1, hU1, hb1⟩
    have hrd1' : RdS w1 B A1 (u8s [n]) := hrd1
    obtain ⟨ga, oa, hA1, hga, hca⟩ := Rd8.at_ hrd1' (k := 0) (by simp)
    subst hA1
    simp only [List.getD_cons_zero, Nat.add_zero] at hca
    have hU1' : US w1 base g B r words (most : Int) := hU1
    have HU1 := Lib.hid hU1'
    have hlt1 := hU1'.lt
    clear hrd1 hrd1' hU1 hU1'
    rcases ht with h0 | h255
    · have ht0 : ((t : Int) == 255) = false := by rw [h0]; rfl
      have hrw : runW t n r = List.replicate n 0 := by unfold runW; rw [if_neg (by omega)]
      have HRM0 : Hid (runM t (n :: r) words most = if most < words.length + n then (3, [], []) else (0, r, words ++ List.replicate n 0)) := by
        have := HRM.out
        rw [hrw, if_neg (by omega), List.length_replicate] at this
        rw [if_neg (show ¬ t = 255 by omega)] at this
        exact this
      clear hrw
      go_wp2_with fail
      have hU2 : US (w1.alloc (.cells (madeCells #[.int .u64 0] n) 31)) base g B r words (most : Int) := HU1.out.below ((Below.refl _ _).alloc (Nat.le_refl _) _)
      have hb2 : Below base w (w1.alloc (.cells (madeCells #[.int .u64 0] n) 31)) := hb1.alloc (by omega) _
      have hws : RdS (w1.alloc (.cells (madeCells #[.int .u64 0] n) 31)) (w1.heap.size + 1) (some ⟨w1.heap.size, 0, none⟩) (u64s (List.replicate n 0)) := by
        have h := (OwnW.made w1 n 31).rd
        rw [show (List.range n).map (fun _ => 0) = List.replicate n 0 from by
          refine List.ext_getElem (by simp) fun i h1 h2 => by simp] at h
        simpa using h
      have hrl : (List.replicate n 0).length = n := List.length_replicate
      by_cases hfit : words.length + n ≤ most
      · have hlay := lay_ok (List.replicate n 0) (some ⟨w1.heap.size, 0, none⟩) n (w1.heap.size + 1) base g B r words (most : Int) _ (by simp; omega) ⟨by omega, by omega⟩ (by rw [hrl]; omega) (by rw [hrl]; omega) hws hU2
        rw [hrl] at hlay
        refine hlay.mono ?_
        rintro e w3 ⟨rfl, hU3, hb3⟩
        go_wp2
        go_ret
        rw [HRM0.out, if_neg (by omega)]
        exact ⟨rfl, fun _ => hU3, hb2.trans hb3⟩
      · have hlay := lay_no (List.replicate n 0) (some ⟨w1.heap.size, 0, none⟩) n base g B r words (most : Int) _ ⟨by omega, by omega⟩ (by rw [hrl]; omega) (by rw [hrl]; omega) hU2
        rw [hrl] at hlay
        refine hlay.mono ?_
        rintro e w3 ⟨rfl, hd3⟩
        go_wp2
        go_ret
        rw [HRM0.out, if_pos (by omega)]
        exact ⟨rfl, fun h => absurd (show (3 : Nat) = 0 from h) (by decide), hb2.trans (hd3.below _)⟩
    · have ht0 : ((t : Int) == 255) = true := by rw [h255]; rfl
      go_wp2_with fail
      by_cases hcut : r.length < 8 * n
      · have HRM0 : Hid (runM t (n :: r) words most = (4, [], [])) := by
          have := HRM.out
          rw [if_pos ⟨h255, hcut⟩] at this
          exact this
        have HU2 := Lib.hid (HU1.out.below ((Below.refl _ _).alloc (Nat.le_refl _) (.cells (madeCells #[.int .u64 0] n) 31)))
        have hb2 : Below base w (w1.alloc (.cells (madeCells #[.int .u64 0] n) 31)) := hb1.alloc (by omega) _
        have hcI : (r.length : Int) < 8 * (n : Int) := by omega
        refine (cut_no (8 * (n : Int)) base g B r words most _ hcI HU2.out).mono ?_
        rintro e w3 ⟨rfl, rfl⟩
        go_wp2
        go_ret
        rw [HRM0.out]
        exact ⟨rfl, fun h => absurd (show (4 : Nat) = 0 from h) (by decide), hb2⟩
      · have hcn : 8 * n ≤ r.length := by omega
        have hrl := runW_len t n r (fun _ => hcn)
        have hrw : runW t n r = wordsN (r.take (8 * n)) := by unfold runW; rw [if_pos h255]
        have HRM0 : Hid (runM t (n :: r) words most = if most < words.length + n then (3, [], []) else (0, r.drop (8 * n), words ++ wordsN (r.take (8 * n)))) := by
          have := HRM.out
          rw [if_neg (fun h => hcut h.2), hrl, hrw] at this
          rw [if_pos h255] at this
          exact this
        rw [hrw] at hrl
        have HRL := Lib.hid hrl
        clear hrw hrl
        have HU2 := Lib.hid (HU1.out.below ((Below.refl _ _).alloc (Nat.le_refl _) (.cells (madeCells #[.int .u64 0] n) 31)))
        have hb2 : Below base w (w1.alloc (.cells (madeCells #[.int .u64 0] n) 31)) := hb1.alloc (by omega) _
        have e8 : (8 * (n : Int)).toNat = 8 * n := by omega
        have hcall := cut_ok (8 * (n : Int)) base g B r words most _ (by omega) (by rw [e8]; exact hcn) (by omega) HU2.out
        rw [e8] at hcall
        refine hcall.mono ?_
        clear hcall e8
        rintro e w3 ⟨A3, rfl, hrd3, hU3, hb3⟩
        have htl : (r.take (8 * n)).length = 8 * n := by rw [List.length_take]; omega
        have hb23 := hb2.trans hb3
        have hlt3 := hU3.lt
        have hBb := hU3.le
        have hwd := fun W (hW : RdS W B A3 (u8s (r.take (8 * n)))) (hBW : B ≤ W.heap.size) => words_any (r.take (8 * n)) B (8 * n) A3 W hW hBW (fun m hm => H8R.out m (List.mem_of_mem_take hm)) (by omega) (by omega) (by omega)
        rw [htl] at hwd
        have HWD := Lib.hid hwd
        have HRD3 := Lib.hid hrd3
        have HU3 := Lib.hid hU3
        clear hwd hrd3 hU3
        go_wp2_with fail
        refine (HWD.out _ HRD3.out (by omega)).mono ?_
        rintro e w4 ⟨A4, c4, rfl, hlc4, hrd4, hb4⟩
        have hU4 := HU3.out.below hb4
        have hb24 := hb23.trans (hb4.mono (by omega))
        have hlt4 := hU4.lt
        have HU4 := Lib.hid hU4
        have HRD4 := Lib.hid hrd4
        clear hU4 hrd4
        go_wp2_with fail
        by_cases hfit : words.length + n ≤ most
        · refine (lay_ok (wordsN (r.take (8 * n))) A4 c4 w4.heap.size base g B (r.drop (8 * n)) words (most : Int) _ (by omega) ⟨by omega, by omega⟩ (by rw [HRL.out]; omega) (by rw [HRL.out]; omega) HRD4.out HU4.out).mono ?_
          rintro e w5 ⟨rfl, hU5, hb5⟩
          go_wp2
          go_ret
          rw [HRM0.out, if_neg (by omega)]
          exact ⟨rfl, fun _ => hU5, hb24.trans hb5⟩
        · refine (lay_no (wordsN (r.take (8 * n))) A4 c4 base g B (r.drop (8 * n)) words (most : Int) _ ⟨by omega, by omega⟩ (by rw [HRL.out]; omega) (by rw [HRL.out]; omega) HU4.out).mono ?_
          rintro e w5 ⟨rfl, hd5⟩
          go_wp2
          go_ret
          rw [HRM0.out, if_pos (by omega)]
          exact ⟨rfl, fun h => absurd (show (3 : Nat) = 0 from h) (by decide), hb24.trans (hd5.below _)⟩

end Go.Proofs.Ytcpapdjjeinpmaa
