/- Lemmas and contracts used by the proofs of this seat's laws (part U5); each theorem bears its own conditions. -/
import Derived.Test.YtcpapdjjeinpmaaRows
import Derived.Test.YtcpapdjjeinpmaaNum
import Derived.Test.YtcpapdjjeinpmaaMem
import Derived.Test.YtcpapdjjeinpmaaPk
import Derived.Test.YtcpapdjjeinpmaaWordB
import Derived.Test.YtcpapdjjeinpmaaOps
import Derived.Test.YtcpapdjjeinpmaaP2
import Derived.Test.YtcpapdjjeinpmaaU1
import Derived.Test.YtcpapdjjeinpmaaU2
import Derived.Test.YtcpapdjjeinpmaaU3
import Derived.Test.YtcpapdjjeinpmaaU4
import Derived.WalkKit
import Derived.WalkSpells
import Derived.WalkLawsBesides
import Derived.Lib.Hide
import Derived.BigQuiet
import Derived.StillTailTactics
import Derived.Deep.RegionHeld3
import Derived.Deep.AppendLies
import Derived.Laws.CopyOwn
import Derived.Deep.QuietTactic
namespace Go.Proofs.Ytcpapdjjeinpmaa
open Go.RowKit
set_option linter.unusedVariables false
set_option maxHeartbeats 2000000 in
theorem next_any (t : Nat) (base g B : Nat) (r words : List Nat) (most : Nat) (w : World) (hm : most ≤ 9223372036854775807) (h8 : ∀ n ∈ t :: r, n < 256) (hM : words.length + 128 * (r.length + 1) ≤ 8796093022208) (hU : US w base g B (t :: r) words (most : Int)) :
    Calls Try.prog 49 #[.pointer (some ⟨g, 0, none⟩)] w (StepP base g B most (nextM t r words most) w) := by
  have hlt := hU.lt
  have hBb := hU.le
  have ht8 : t < 256 := h8 t (.head _)
  have hpl := popN_le t
  have h8r : ∀ m ∈ r, m < 256 := fun m hm => h8 m (.tail _ hm)
  have hnm : nextM t r words most = if r.length < popN t then (4, [], []) else if most < words.length + 1 then (3, [], []) else if t = 0 ∨ t = 255 then runM t (r.drop (popN t)) (words ++ [sprN t (r.take (popN t))]) most else (0, r.drop (popN t), words ++ [sprN t (r.take (popN t))]) := rfl
  obtain ⟨⟨A, c, v, hblk, hrd, hc, hown⟩, _, hbg⟩ := id hU
  have c0 : w.cell? ⟨g, 0, none⟩ = some (.slice A (r.length + 1) c) := blk_cell hblk 0
  obtain ⟨ga, oa, hA, hga, hca⟩ := Rd8.at_ hrd (k := 0) (by simp)
  subst hA
  simp only [List.getD_cons_zero, Nat.add_zero] at hca
  have HNM := Lib.hid hnm
  have HU := Lib.hid hU
  have H8 := Lib.hid h8r
  clear hnm hU h8 h8r hblk hrd hown
  go_enter Try.func49, Try.ntmps49
  go_wp2_with fail
  refine (ones_any t _ ht8).mono ?_
  rintro e w1 ⟨rfl, rfl⟩
  generalize hpp : popN t = p at *
  have HPP := Lib.hid hpp
  clear hpp
  go_wp2_with fail
  by_cases hcut : r.length < p
  · refine (cut_no (1 + (p : Int)) base g B (t :: r) words most _ (by simp only [List.length_cons]; omega) HU.out).mono ?_
    rintro e w3 ⟨rfl, rfl⟩
    go_wp2
    go_ret
    rw [HNM.out, if_pos hcut]
    exact ⟨rfl, fun h => absurd (show (4 : Nat) = 0 from h) (by decide), Below.refl _ _⟩
  · have e1 : (1 + (p : Int)).toNat = p + 1 := by omega
    have hcall := cut_ok (1 + (p : Int)) base g B (t :: r) words most _ (by omega) (by rw [e1]; simp only [List.length_cons]; omega) (by simp only [List.length_cons]; omega) HU.out
    rw [e1] at hcall
    refine hcall.mono ?_
    clear hcall e1
    rintro e w3 ⟨A3, rfl, hrd3, hU3, hb3⟩
    have hrd3' : RdS w3 B A3 (u8s (t :: r.take p)) := hrd3
    have hU3' : US w3 base g B (r.drop p) words (most : Int) := hU3
    have hcut1 : ∀ W, (Instr.slice 23 (.slice A3 (p + 1) (p + 1)) (some (.int .i64 1)) none none).run Try.prog W = .ok (.slice (cutA A3 1 (p + 1)) p p) W := fun W => cut8 A3 (p + 1) (p + 1) 1 (by omega) (by omega) W
    have htl : (r.take p).length = p := by rw [List.length_take]; omega
    have hrd4 : RdS w3 B (cutA A3 1 (p + 1)) (u8s (r.take p)) := by
      have h := hrd3'.cut (k := 1) (c := p + 1) (by rw [u8s_len, List.length_cons, htl]; omega)
      simpa [u8s] using h
    have hlt3 := hU3'.lt
    have HRD4 := Lib.hid hrd4
    have HU3 := Lib.hid hU3'
    clear hrd3 hrd3' hU3 hU3' hrd4
    generalize cutA A3 1 (p + 1) = A4 at *
    have hsp := fun W (hW : RdS W B A4 (u8s (r.take p))) (hBW : B ≤ W.heap.size) => spread_any t (r.take p) A4 p B W ht8 (by rw [htl, HPP.out]) (fun m hm => H8.out m (List.mem_of_mem_take hm)) hW hBW
    rw [htl] at hsp
    have HSP := Lib.hid hsp
    clear hsp
    go_wp2_with fail
    refine (HSP.out _ HRD4.out (by omega)).mono ?_
    rintro e w4 ⟨rfl, hb4⟩
    have hb34 : Below base w w4 := hb3.trans (hb4.mono (by omega))
    have hU4 := HU3.out.below hb4
    have hlt4 := hU4.lt
    generalize sprN t (r.take p) = x at *
    have HU4 := Lib.hid (hU4.below ((Below.refl _ _).alloc (Nat.le_refl _) (.cells #[.int .u64 (x : Int)] 31)))
    have hb5 : Below base w (w4.alloc (.cells #[.int .u64 (x : Int)] 31)) := hb34.alloc (by omega) _
    have hws : RdS (w4.alloc (.cells #[.int .u64 (x : Int)] 31)) (w4.heap.size + 1) (some ⟨w4.heap.size, 0, none⟩) (u64s [x]) := RdS.new w4 _ #[.int .u64 (x : Int)]
    have HWS := Lib.hid hws
    clear hU4 hws
    go_wp2_with fail
    by_cases hfit : words.length + 1 ≤ most
    · refine (lay_ok [x] (some ⟨w4.heap.size, 0, none⟩) 1 (w4.heap.size + 1) base g B (r.drop p) words (most : Int) _ (by simp; omega) ⟨by omega, by omega⟩ (by simp; omega) (by simp; omega) HWS.out HU4.out).mono ?_
      rintro e w6 ⟨rfl, hU6, hb6⟩
      have hb56 := hb5.trans hb6
      have hlt6 := hU6.lt
      have HU6 := Lib.hid hU6
      clear hU6
      by_cases htt : t = 0 ∨ t = 255
      · have HNM2 : Hid (nextM t r words most = runM t (r.drop p) (words ++ [x]) most) := by
          have := HNM.out
          rw [if_neg hcut, if_neg (by omega), if_pos htt] at this
          exact this
        have hrun := urun_any t htt base g B (r.drop p) (words ++ [x]) most w6 hm (fun m hm => H8.out m (List.mem_of_mem_drop hm)) (by rw [List.length_append, List.length_drop]; simp only [List.length_cons, List.length_nil]; omega) HU6.out
        have HRUN := Lib.hid hrun
        clear hrun
        rcases htt with h0 | h0
        · have ht0 : ((t : Int) != 0) = false := by rw [h0]; rfl
          clear h0
          go_wp2_with fail
          refine HRUN.out.mono ?_
          rintro e w7 ⟨rfl, hU7, hb7⟩
          have HU7 := Lib.hid hU7
          clear hU7
          go_wp2
          go_ret
          rw [HNM2.out]
          exact ⟨rfl, HU7.out, hb56.trans hb7⟩
        · have ht0 : ((t : Int) != 0) = true := by rw [h0]; rfl
          have ht1 : ((t : Int) != 255) = false := by rw [h0]; rfl
          clear h0
          go_wp2_with fail
          refine HRUN.out.mono ?_
          rintro e w7 ⟨rfl, hU7, hb7⟩
          have HU7 := Lib.hid hU7
          clear hU7
          go_wp2
          go_ret
          rw [HNM2.out]
          exact ⟨rfl, HU7.out, hb56.trans hb7⟩
      · have ht0 : ((t : Int) != 0) = true := bne_iff_ne.2 (by omega)
        have ht1 : ((t : Int) != 255) = true := bne_iff_ne.2 (by omega)
        have HNM2 : Hid (nextM t r words most = (0, r.drop p, words ++ [x])) := by
          have := HNM.out
          rw [if_neg hcut, if_neg (by omega), if_neg htt] at this
          exact this
        clear htt
        go_wp2
        go_ret
        rw [HNM2.out]
        exact ⟨rfl, fun _ => HU6.out, hb56⟩
    · refine (lay_no [x] (some ⟨w4.heap.size, 0, none⟩) 1 base g B (r.drop p) words (most : Int) _ ⟨by omega, by omega⟩ (by simp; omega) (by simp; omega) HU4.out).mono ?_
      rintro e w6 ⟨rfl, hd6⟩
      go_wp2
      go_ret
      rw [HNM.out, if_neg hcut, if_pos (by omega)]
      exact ⟨rfl, fun h => absurd (show (3 : Nat) = 0 from h) (by decide), hb5.trans (hd6.below _)⟩

end Go.Proofs.Ytcpapdjjeinpmaa
