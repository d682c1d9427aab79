/- Lemmas and contracts used by the proofs of this seat's laws (part P5); each theorem bears its own conditions. -/
import Derived.Test.YtcpapdjjeinpmaaRows
import Derived.Test.YtcpapdjjeinpmaaNum
import Derived.Test.YtcpapdjjeinpmaaMem
import Derived.Test.YtcpapdjjeinpmaaPk
import Derived.Test.YtcpapdjjeinpmaaWordB
import Derived.Test.YtcpapdjjeinpmaaOps
import Derived.Test.YtcpapdjjeinpmaaF1
import Derived.Test.YtcpapdjjeinpmaaF2
import Derived.WalkKit
import Derived.WalkSpells
import Derived.WalkLawsBesides
import Derived.Lib.Hide
import Derived.BigQuiet
import Derived.StillTailTactics
import Derived.Deep.RegionHeld3
import Derived.Deep.AppendLies
import Derived.Laws.CopyOwn
import Derived.Deep.DeepCutAuto
import Derived.Deep.QuietTactic
namespace Go.Proofs.Ytcpapdjjeinpmaa
open Go.RowKit
set_option linter.unusedVariables false
set_option maxHeartbeats 2000000 in
theorem noughts_any (x : Nat) (w : World) (hx : W64 x) :
    Calls Try.prog 48 #[.int .u64 x] w fun e w' => e = .returned (.int .i64 (zcK x 8 : Nat)) ∧ Below w.heap.size w w' := by
  go_enter Try.func48, Try.ntmps48
  go_wp2_with fail
  refine (rbytes_any x _ hx).mono ?_
  rintro e w1 ⟨rfl, hb1⟩
  go_wp2
  rw [agg_bytes x]
  go_loopw [3, 5] (fun n i wr => ∃ k : Nat, k ≤ 8 ∧ i = .int .i64 k ∧ n = .int .i64 (zcK x k : Nat) ∧ (∀ j < 8, wr.cell? ⟨w1.heap.size, j, none⟩ = some (.int .u8 (byteN x j : Nat))) ∧ Below w.heap.size w wr) (fun _ i _ => 8 - (intOf i).toNat)
  case atStart => exact ⟨0, by omega, rfl, rfl, fun j hj => cells8 w1 _ (byteV x) j hj, balloc hb1 _⟩
  case round =>
    obtain ⟨k, hk, rfl, rfl, hc, hbr⟩ := hrel
    by_cases hlt : k < 8
    · have hck := hc k hlt
      have hs := zcK_succ x k
      have hz := zcK_le x k
      have HC := Lib.hid hc
      clear hc
      generalize byteN x k = y at *
      generalize hq : zcK x k = q at *
      have HQ := Lib.hid hq
      have HS := Lib.hid hs
      clear hq hs
      by_cases hy : y = 0
      · have ht : ((y : Int) == 0) = true := by rw [hy]; rfl
        have HY := Lib.hid hy
        clear hy
        go_wp2
        go_roundw
        case rel => exact ⟨k + 1, by omega, by go_num, by rw [HS.out, if_pos HY.out]; go_num, HC.out, hbr⟩
        case measure => simp [intOf]; omega
      · have ht : ((y : Int) == 0) = false := beq_eq_false_iff_ne.2 (by omega)
        have HY := Lib.hid hy
        clear hy
        go_wp2
        go_roundw
        case rel => exact ⟨k + 1, by omega, by go_num, by rw [HS.out, if_neg HY.out]; rfl, HC.out, hbr⟩
        case measure => simp [intOf]; omega
    · obtain rfl : k = 8 := by omega
      go_wp2
      go_ret
      exact ⟨rfl, hbr⟩
set_option maxRecDepth 100000 in
set_option maxHeartbeats 4000000 in
theorem rpack_any (l : List Nat) (B cp : Nat) (A : Option Addr) (w : World) (hA : RdS w B A (u64s l)) (hB : B ≤ w.heap.size) (h64 : ∀ n ∈ l, W64 n) (hcp : l.length ≤ cp) (hm : l.length ≤ 1099511627776) :
    Calls Try.prog 39 #[.slice A l.length cp] w (RetB (packN l) w) := by
  have hpl := packN_len l
  have HPL := Lib.hid hpl
  clear hpl
  have hz : W64 0 := by unfold W64; decide
  go_enter Try.func39, Try.ntmps39
  go_wp2_with fail
  go_loopw [3, 4, 5, 6, 7, 8] (fun v i _ _ _ _ wr => ∃ (a : Nat) (done : List Nat), i = .int .i64 a ∧ a ≤ l.length ∧ wr.ownsRow w.heap.size 5 1 v done.length (u8s done) ∧ done ++ packN (l.drop a) = packN l ∧ Below w.heap.size w wr) (fun _ i _ _ _ _ _ => l.length - (intOf i).toNat)
  case atStart => exact ⟨0, [], rfl, by omega, by simpa [u8s] using World.ownsRow_nil w w.heap.size 5 1, rfl, Below.refl _ _⟩
  case round =>
    obtain ⟨a, done, rfl, ha, hown, hdone, hbr⟩ := hrel
    have HO := Lib.hid hown
    have HD := Lib.hid hdone
    have HSZ : Hid (done.length ≤ 10995116277760) := by
      have h := congrArg List.length hdone
      rw [List.length_append] at h
      have := HPL.out
      show done.length ≤ 10995116277760
      omega
    clear hown hdone
    by_cases hlt : a < l.length
    · obtain ⟨g, off, hA', hg, hc⟩ := Rd64.at_ hA hlt
      subst hA'
      have hx64 : W64 (l.getD a 0) := by rw [getD_lt hlt]; exact h64 _ (List.getElem_mem hlt)
      have hdr : l.drop a = l.getD a 0 :: l.drop (a + 1) := by rw [List.drop_eq_getElem_cons hlt, getD_lt hlt]
      have hpk := packN_cons (l.getD a 0) (l.drop (a + 1))
      rw [← hdr] at hpk
      generalize hxx : l.getD a 0 = x at *
      have hc0 := (bcell hbr (o := off + a) (Nat.lt_of_lt_of_le hg hB)).trans hc
      have HA := Lib.hid hA
      have H64 := Lib.hid h64
      have HX := Lib.hid hx64
      have HPK := Lib.hid hpk
      have hgw : g < wr.heap.size := Nat.lt_of_lt_of_le (Nat.lt_of_lt_of_le hg hB) hbr.size
      clear hA h64 hx64 hpk hc hxx hdr
      have hi1 : (a : Int) < (l.length : Int) := by omega
      go_wp2_with fail
      refine (rbytes_any x _ HX.out).mono ?_
      rintro e w1 ⟨rfl, hb1⟩
      have hc1 := (bcell hb1 (o := off + a) hgw).trans hc0
      have hgw1 : g < w1.heap.size := Nat.lt_of_lt_of_le hgw hb1.size
      have hbw1 : Below w.heap.size w w1 := bstep hbr hb1
      have HO1 := Lib.hid (own_below HO.out hb1)
      clear hc0
      go_wp2_with fail
      rw [agg_bytes x]
      refine (runlike_any x 0 _ HX.out hz).mono ?_
      rintro e w2 ⟨rfl, hb2⟩
      have hcl : w2.heap[w1.heap.size]? = some (.cells #[byteV x 0, byteV x 1, byteV x 2, byteV x 3, byteV x 4, byteV x 5, byteV x 6, byteV x 7] 32 (0, 0)) := blk_below (heap_alloc_new w1 _) hb2
      have hbw2 : Below w.heap.size w w2 := bstep (balloc hbw1 _) hb2
      have HO2 := Lib.hid (own_below (HO1.out.alloc _) hb2)
      have HCL := Lib.hid hcl
      have hsz12 : w1.heap.size < w2.heap.size := by have := hb2.size; simp at this; omega
      have ht : unl x 0 8 < 256 := unl_lt x 0 8
      have hbu := bit_unl0 x
      have HBU := Lib.hid hbu
      clear hcl hbu hc1 hb1 hb2
      generalize unl x 0 8 = tg at *
      go_wp2_with (at_builtin; refine app8 rfl _ _ rfl w.heap.size _ _ _ rfl (HO2.out.alloc _) (w2.heap.size + 1) 1 1 (some ⟨w2.heap.size, 0, none⟩) [tg] rfl rfl (by exact RdS.new w2 _ #[.int .u8 (tg : Int)]) (by have := HSZ.out; omega) (by exact (balloc hbw2 _).size) ?_; intro v3 w3 hown3 hgrow)
      have hb3 := bgrown (balloc hbw2 _) hgrow (own_base HO2.out)
      have HCL3 := Lib.hid (blk_app HCL.out _ HO2.out (by decide) hgrow)
      rw [← u8s_append] at hown3
      have HO3 := Lib.hid hown3
      clear hown3 hgrow hbw2 HCL HO2 HO1 HO
      generalize w1.heap.size = gb at *
      obtain ⟨wo, rfl⟩ : ∃ wo : World, wo = wr := ⟨_, rfl⟩
      go_loopw [3, 7] (fun v i wr2 => ∃ k : Nat, k ≤ 8 ∧ i = .int .i64 k ∧ wr2.ownsRow w.heap.size 5 1 v (done.length + 1 + (selK tg x k).length) (u8s (done ++ tg :: selK tg x k)) ∧ wr2.heap[gb]? = some (.cells #[byteV x 0, byteV x 1, byteV x 2, byteV x 3, byteV x 4, byteV x 5, byteV x 6, byteV x 7] 32 (0, 0)) ∧ Below w.heap.size w wr2) (fun _ i _ => 8 - (intOf i).toNat)
      case atStart => exact ⟨0, by omega, rfl, by simpa [u8s, selK] using HO3.out, HCL3.out, hb3⟩
      case round =>
        obtain ⟨k, hk, rfl, hown, hblk, hbr2⟩ := hrel
        by_cases hlt8 : k < 8
        · have hck := cells8b (byteV x) hblk k hlt8
          have hle := selK_le tg x k
          have hbk := HBU.out k hlt8
          unfold byteV at hck
          have HB8 := Lib.hid hblk
          have HO4 := Lib.hid hown
          clear hblk hown
          generalize hy : byteN x k = y at *
          have HY := Lib.hid hy
          clear hy
          by_cases hy0 : y = 0
          · have ht : ((y : Int) != 0) = false := by rw [hy0]; rfl
            have HS := Lib.hid (selK_no (x := x) (show bitB tg k = false by rw [hbk, hy0]; rfl))
            clear hbk hy0
            go_wp2
            go_roundw
            case rel => exact ⟨k + 1, by omega, by go_num, by rw [HS.out]; exact HO4.out, HB8.out, hbr2⟩
            case measure => simp [intOf]; omega
          · have ht : ((y : Int) != 0) = true := bne_iff_ne.2 (by omega)
            have HS := Lib.hid (selK_yes (x := x) (show bitB tg k = true by rw [hbk]; simp [hy0]))
            clear hbk hy0
            generalize hl : (selK tg x k).length = m at *
            have HL := Lib.hid hl
            clear hl
            go_wp2_with (at_builtin; refine app8 rfl _ _ rfl w.heap.size _ (done.length + 1 + m) _ rfl (HO4.out.alloc _) (wr.heap.size + 1) 1 1 (some ⟨wr.heap.size, 0, none⟩) [y] rfl rfl (by exact RdS.new wr _ #[.int .u8 (y : Int)]) (by have := HSZ.out; omega) (by exact (balloc hbr2 _).size) ?_; intro v5 w5 hown5 hgrow5)
            have hb5 := bgrown (balloc hbr2 _) hgrow5 (own_base HO4.out)
            have HB5 := Lib.hid (blk_app HB8.out _ HO4.out (by decide) hgrow5)
            rw [← u8s_append] at hown5
            have HO5 := Lib.hid hown5
            clear hown5 hgrow5
            go_wp2
            go_roundw
            case rel => exact ⟨k + 1, by omega, by go_num, by
              have h := HO5.out
              rw [HS.out, List.length_append, HL.out, HY.out]
              simpa [Nat.add_assoc] using h, HB5.out, hb5⟩
            case measure => simp [intOf]; omega
        · obtain rfl : k = 8 := by omega
          rw [selK_full] at hown
          have HO6 := Lib.hid hown
          have hln := own_len hown
          rw [u8s_len] at hln
          clear hown hblk
          have h8r : (done ++ tg :: selN tg x).length ≤ 10995116277770 := by
            have h1 := popN_le tg
            unfold popN at h1
            rw [List.length_append, List.length_cons, selN, List.length_map]; have := HSZ.out; omega
          by_cases h0 : tg = 0 ∨ tg = 255
          · rcases h0 with h0 | h0
            · subst h0
              have HPK0 : Hid (packN (l.drop a) = (0 :: selN 0 x) ++ runN p0 (l.drop (a + 1)) :: packN ((l.drop (a + 1)).drop (runN p0 (l.drop (a + 1))))) := by have := HPK.out; rw [if_pos rfl] at this; exact this
              go_wp2
              obtain ⟨wq, rfl⟩ : ∃ wq : World, wq = wr := ⟨_, rfl⟩
              go_loopw [8] (fun i wr3 => ∃ n : Nat, n ≤ 255 ∧ a + 1 + n ≤ l.length ∧ i = .int .i64 n ∧ (∀ j < n, p0 (l.getD (a + 1 + j) 0) = true) ∧ wr3.ownsRow w.heap.size 5 1 u3 (done ++ 0 :: selN 0 x).length (u8s (done ++ 0 :: selN 0 x)) ∧ Below w.heap.size w wr3) (fun i _ => 256 - (intOf i).toNat)
              case atStart => exact ⟨0, by omega, by omega, rfl, fun j hj => absurd hj (by omega), by
                have h := HO6.out
                rw [hln] at h; exact h, hbr2⟩
              case round =>
                obtain ⟨n, hn, hn2, rfl, hp, hown7, hbr3⟩ := hrel
                have HP := Lib.hid hp
                have HO7 := Lib.hid hown7
                clear hp hown7
                have hrun : (n = 255 ∨ a + 1 + n = l.length ∨ p0 (l.getD (a + 1 + n) 0) = false) → runN p0 (l.drop (a + 1)) = n := fun h => by
                  refine runN_at p0 (l.drop (a + 1)) n (fun j hj => by rw [getD_drop]; exact HP.out j hj) (by rw [List.length_drop]; omega) hn ?_
                  rw [getD_drop, List.length_drop]
                  rcases h with h | h | h
                  · exact .inr (.inl h)
                  · exact .inl (by omega)
                  · exact .inr (.inr h)
                by_cases hgo : n < 255 ∧ a + 1 + n < l.length ∧ p0 (l.getD (a + 1 + n) 0) = true
                · obtain ⟨h1, h2, g3⟩ := hgo
                  clear hrun
                  have hcn := (HA.out.below (hbr3.mono hB)).at64 (k := a + 1 + n) h2
                  obtain ⟨cg, co, hce, hcl, hcc⟩ := hcn
                  injection hce with hce
                  injection hce with e1 e2 _
                  subst e1 e2
                  have hx3 : W64 (l.getD (a + 1 + n) 0) := by rw [getD_lt h2]; exact H64.out _ (List.getElem_mem h2)
                  generalize hxx : l.getD (a + 1 + n) 0 = x3 at *
                  have HXX := Lib.hid hxx
                  have HX3 := Lib.hid hx3
                  clear hxx hx3
                  have hn1 : (n : Int) < 255 := by omega
                  have hn3 : (a : Int) + 1 + (n : Int) < (l.length : Int) := by omega
                  have hx0 : ((x3 : Int) == 0) = true := by have := of_decide_eq_true g3; rw [this]; rfl
                  have HG3 := Lib.hid g3
                  clear g3
                  go_wp2
                  go_roundw
                  case rel => exact ⟨n + 1, by omega, by omega, by go_num, fun j hj => by
                    rcases Nat.lt_or_eq_of_le (Nat.le_of_lt_succ hj) with h | rfl
                    · exact HP.out j h
                    · rw [HXX.out]; exact HG3.out, HO7.out, hbr3⟩
                  case measure => simp [intOf]; omega
                · have hno : n = 255 ∨ (n < 255 ∧ a + 1 + n = l.length) ∨ (n < 255 ∧ a + 1 + n < l.length ∧ p0 (l.getD (a + 1 + n) 0) = false) := by
                    by_cases h1 : n = 255
                    · exact .inl h1
                    · by_cases h2 : a + 1 + n = l.length
                      · exact .inr (.inl ⟨by omega, h2⟩)
                      · refine .inr (.inr ⟨by omega, by omega, ?_⟩)
                        cases h3 : p0 (l.getD (a + 1 + n) 0)
                        · rfl
                        · exact absurd ⟨by omega, by omega, h3⟩ hgo
                  have HRUN := Lib.hid (hrun (by rcases hno with h | ⟨_, h⟩ | ⟨_, _, h⟩
                                                 · exact .inl h
                                                 · exact .inr (.inl h)
                                                 · exact .inr (.inr h)))
                  clear hrun hgo
                  rcases hno with h1 | ⟨h1, h2⟩ | ⟨h1, h2, h3⟩
                  · have hn1 : ¬ (n : Int) < 255 := by omega
                    have HN1 := Lib.hid h1
                    clear h1
                    go_wp2_with (at_builtin; refine app8 rfl _ _ rfl w.heap.size _ _ _ rfl (HO7.out.alloc _) (wr.heap.size + 1) 1 1 (some ⟨wr.heap.size, 0, none⟩) [n] rfl rfl (by exact RdS.new wr _ #[.int .u8 (n : Int)]) (by omega) (by exact (balloc hbr3 _).size) ?_; intro v9 w9 hown9 hgrow9)
                    have hb9 := bgrown (balloc hbr3 _) hgrow9 (own_base HO7.out)
                    rw [← u8s_append] at hown9
                    have HO9 := Lib.hid hown9
                    clear hown9 hgrow9
                    go_wp2
                    go_roundw
                    case rel => exact ⟨a + 1 + n, (done ++ 0 :: selN 0 x) ++ [n], by go_num, by omega, by
                      have h := HO9.out
                      rw [List.length_append]; exact h, by rw [← HD.out, HPK0.out, HRUN.out, List.drop_drop]; simp, hb9⟩
                    case measure => simp [intOf]; omega
                  · have hn1 : (n : Int) < 255 := by omega
                    have hn3 : ¬ (a : Int) + 1 + (n : Int) < (l.length : Int) := by omega
                    have HN1 := Lib.hid h2
                    clear h2
                    go_wp2_with (at_builtin; refine app8 rfl _ _ rfl w.heap.size _ _ _ rfl (HO7.out.alloc _) (wr.heap.size + 1) 1 1 (some ⟨wr.heap.size, 0, none⟩) [n] rfl rfl (by exact RdS.new wr _ #[.int .u8 (n : Int)]) (by omega) (by exact (balloc hbr3 _).size) ?_; intro v9 w9 hown9 hgrow9)
                    have hb9 := bgrown (balloc hbr3 _) hgrow9 (own_base HO7.out)
                    rw [← u8s_append] at hown9
                    have HO9 := Lib.hid hown9
                    clear hown9 hgrow9
                    go_wp2
                    go_roundw
                    case rel => exact ⟨a + 1 + n, (done ++ 0 :: selN 0 x) ++ [n], by go_num, by omega, by
                      have h := HO9.out
                      rw [List.length_append]; exact h, by rw [← HD.out, HPK0.out, HRUN.out, List.drop_drop]; simp, hb9⟩
                    case measure => simp [intOf]; omega
                  · have hcn := (HA.out.below (hbr3.mono hB)).at64 (k := a + 1 + n) h2
                    obtain ⟨cg, co, hce, hcl, hcc⟩ := hcn
                    injection hce with hce
                    injection hce with e1 e2 _
                    subst e1 e2
                    have hx3 : W64 (l.getD (a + 1 + n) 0) := by rw [getD_lt h2]; exact H64.out _ (List.getElem_mem h2)
                    generalize hxx : l.getD (a + 1 + n) 0 = x3 at *
                    have HXX := Lib.hid hxx
                    have HX3 := Lib.hid hx3
                    clear hxx hx3
                    have hn1 : (n : Int) < 255 := by omega
                    have hn3 : (a : Int) + 1 + (n : Int) < (l.length : Int) := by omega
                    have hx0 : ((x3 : Int) == 0) = false := beq_eq_false_iff_ne.2 (by have := of_decide_eq_false h3; omega)
                    clear h3
                    go_wp2_with (at_builtin; refine app8 rfl _ _ rfl w.heap.size _ _ _ rfl (HO7.out.alloc _) (wr.heap.size + 1) 1 1 (some ⟨wr.heap.size, 0, none⟩) [n] rfl rfl (by exact RdS.new wr _ #[.int .u8 (n : Int)]) (by omega) (by exact (balloc hbr3 _).size) ?_; intro v9 w9 hown9 hgrow9)
                    have hb9 := bgrown (balloc hbr3 _) hgrow9 (own_base HO7.out)
                    rw [← u8s_append] at hown9
                    have HO9 := Lib.hid hown9
                    clear hown9 hgrow9
                    go_wp2
                    go_roundw
                    case rel => exact ⟨a + 1 + n, (done ++ 0 :: selN 0 x) ++ [n], by go_num, by omega, by
                      have h := HO9.out
                      rw [List.length_append]; exact h, by rw [← HD.out, HPK0.out, HRUN.out, List.drop_drop]; simp, hb9⟩
                    case measure => simp [intOf]; omega
            · subst h0
              have HPK0 : Hid (packN (l.drop a) = (255 :: selN 255 x) ++ runN p7 (l.drop (a + 1)) :: (flatN ((l.drop (a + 1)).take (runN p7 (l.drop (a + 1)))) ++ packN ((l.drop (a + 1)).drop (runN p7 (l.drop (a + 1)))))) := by have := HPK.out; rw [if_neg (by decide), if_pos rfl] at this; exact this
              go_wp2
              obtain ⟨wq, rfl⟩ : ∃ wq : World, wq = wr := ⟨_, rfl⟩
              go_loopw [8] (fun i wr3 => ∃ n : Nat, n ≤ 255 ∧ a + 1 + n ≤ l.length ∧ i = .int .i64 n ∧ (∀ j < n, p7 (l.getD (a + 1 + j) 0) = true) ∧ wr3.ownsRow w.heap.size 5 1 u3 (done ++ 255 :: selN 255 x).length (u8s (done ++ 255 :: selN 255 x)) ∧ Below w.heap.size w wr3) (fun i _ => 256 - (intOf i).toNat)
              case atStart => exact ⟨0, by omega, by omega, rfl, fun j hj => absurd hj (by omega), by
                have h := HO6.out
                rw [hln] at h; exact h, hbr2⟩
              case round =>
                obtain ⟨n, hn, hn2, rfl, hp, hown7, hbr3⟩ := hrel
                have HP := Lib.hid hp
                have HO7 := Lib.hid hown7
                clear hp hown7
                have hrun : (n = 255 ∨ a + 1 + n = l.length ∨ p7 (l.getD (a + 1 + n) 0) = false) → runN p7 (l.drop (a + 1)) = n := fun h => by
                  refine runN_at p7 (l.drop (a + 1)) n (fun j hj => by rw [getD_drop]; exact HP.out j hj) (by rw [List.length_drop]; omega) hn ?_
                  rw [getD_drop, List.length_drop]
                  rcases h with h | h | h
                  · exact .inr (.inl h)
                  · exact .inl (by omega)
                  · exact .inr (.inr h)
                by_cases hgo : n < 255 ∧ a + 1 + n < l.length ∧ p7 (l.getD (a + 1 + n) 0) = true
                · obtain ⟨h1, h2, g3⟩ := hgo
                  clear hrun
                  have hcn := (HA.out.below (hbr3.mono hB)).at64 (k := a + 1 + n) h2
                  obtain ⟨cg, co, hce, hcl, hcc⟩ := hcn
                  injection hce with hce
                  injection hce with e1 e2 _
                  subst e1 e2
                  have hx3 : W64 (l.getD (a + 1 + n) 0) := by rw [getD_lt h2]; exact H64.out _ (List.getElem_mem h2)
                  generalize hxx : l.getD (a + 1 + n) 0 = x3 at *
                  have HXX := Lib.hid hxx
                  have HX3 := Lib.hid hx3
                  clear hxx hx3
                  have hn1 : (n : Int) < 255 := by omega
                  have hn3 : (a : Int) + 1 + (n : Int) < (l.length : Int) := by omega
                  have hz2 : zcK x3 8 < 2 := by rw [p7_zc] at g3; exact of_decide_eq_true g3
                  have HG3 := Lib.hid g3
                  clear g3
                  go_wp2_with fail
                  refine (noughts_any x3 _ HX3.out).mono ?_
                  rintro e w8 ⟨rfl, hb8⟩
                  have hz3 : ((zcK x3 8 : Nat) : Int) < 2 := by omega
                  generalize zcK x3 8 = zz at *
                  have HO8 := Lib.hid (own_below HO7.out hb8)
                  go_wp2
                  go_roundw
                  case rel => exact ⟨n + 1, by omega, by omega, by go_num, fun j hj => by
                    rcases Nat.lt_or_eq_of_le (Nat.le_of_lt_succ hj) with h | rfl
                    · exact HP.out j h
                    · rw [HXX.out]; exact HG3.out, HO8.out, bstep hbr3 hb8⟩
                  case measure => simp [intOf]; omega
                · have hno : n = 255 ∨ (n < 255 ∧ a + 1 + n = l.length) ∨ (n < 255 ∧ a + 1 + n < l.length ∧ p7 (l.getD (a + 1 + n) 0) = false) := by
                    by_cases h1 : n = 255
                    · exact .inl h1
                    · by_cases h2 : a + 1 + n = l.length
                      · exact .inr (.inl ⟨by omega, h2⟩)
                      · refine .inr (.inr ⟨by omega, by omega, ?_⟩)
                        cases h3 : p7 (l.getD (a + 1 + n) 0)
                        · rfl
                        · exact absurd ⟨by omega, by omega, h3⟩ hgo
                  have HRUN := Lib.hid (hrun (by rcases hno with h | ⟨_, h⟩ | ⟨_, _, h⟩
                                                 · exact .inl h
                                                 · exact .inr (.inl h)
                                                 · exact .inr (.inr h)))
                  clear hrun hgo
                  rcases hno with h1 | ⟨h1, h2⟩ | ⟨h1, h2, h3⟩
                  · have hn1 : ¬ (n : Int) < 255 := by omega
                    have HN1 := Lib.hid h1
                    clear h1
                    go_wp2_with (at_builtin; refine app8 rfl _ _ rfl w.heap.size _ _ _ rfl (HO7.out.alloc _) (wr.heap.size + 1) 1 1 (some ⟨wr.heap.size, 0, none⟩) [n] rfl rfl (by exact RdS.new wr _ #[.int .u8 (n : Int)]) (by omega) (by exact (balloc hbr3 _).size) ?_; intro v9 w9 hown9 hgrow9)
                    have hb9 := bgrown (balloc hbr3 _) hgrow9 (own_base HO7.out)
                    rw [← u8s_append] at hown9
                    have HO9 := Lib.hid hown9
                    clear hown9 hgrow9
                    have hcne : ¬ cp = a + 1 := by omega
                    have hA9 : cutA (some ⟨g, off, none⟩) (a + 1) cp = some ⟨g, off + (a + 1), none⟩ := by unfold cutA; rw [if_neg hcne]; simp [Addr.add]
                    have htl : ((l.drop (a + 1)).take n).length = n := by rw [List.length_take, List.length_drop]; omega
                    have hfl := fun W c (hW : RdS W B (cutA (some ⟨g, off, none⟩) (a + 1) cp) (u64s ((l.drop (a + 1)).take n))) (hBW : B ≤ W.heap.size) => rflat_any ((l.drop (a + 1)).take n) B c (cutA (some ⟨g, off, none⟩) (a + 1) cp) W hW hBW (fun m hm => H64.out m (List.mem_of_mem_drop (List.mem_of_mem_take hm))) (by omega)
                    rw [htl] at hfl
                    have hrd9 : RdS w9 B (cutA (some ⟨g, off, none⟩) (a + 1) cp) (u64s ((l.drop (a + 1)).take n)) := by
                      rw [u64s_take, u64s_drop]
                      exact ((HA.out.below (hb9.mono hB)).cut (by rw [u64s_len]; exact hcp)).take n
                    rw [hA9] at hfl hrd9
                    have HFL := Lib.hid hfl
                    have HRD9 := Lib.hid hrd9
                    clear hfl hrd9 hA9
                    go_wp2_with fail
                    refine (HFL.out _ _ HRD9.out (Nat.le_trans hB hb9.size)).mono ?_
                    rintro e w10 ⟨A10, c10, rfl, hlc10, hrd10, hb10⟩
                    have hbw10 := bstep hb9 hb10
                    have hfn : (flatN ((l.drop (a + 1)).take n)).length = 8 * n := by rw [flatN_len, htl]
                    have HRD10 := Lib.hid hrd10
                    have HO10 := Lib.hid (own_below HO9.out hb10)
                    have HFN := Lib.hid hfn
                    clear hrd10 hfn hlc10
                    go_wp2_with (at_builtin; refine app8 rfl _ _ rfl w.heap.size _ _ _ rfl HO10.out w10.heap.size (flatN ((l.drop (a + 1)).take n)).length c10 A10 (flatN ((l.drop (a + 1)).take n)) rfl rfl HRD10.out (by rw [HFN.out]; omega) (by exact hbw10.size) ?_; intro v11 w11 hown11 hgrow11)
                    have hb11 := bgrown hbw10 hgrow11 (own_base HO10.out)
                    rw [← u8s_append] at hown11
                    have HO11 := Lib.hid hown11
                    clear hown11 hgrow11
                    go_wp2
                    go_roundw
                    case rel => exact ⟨a + 1 + n, ((done ++ 255 :: selN 255 x) ++ [n]) ++ flatN ((l.drop (a + 1)).take n), by go_num, by omega, by
                      have h := HO11.out
                      have e := own_len h
                      rw [e, u8s_len] at h
                      exact h, by rw [← HD.out, HPK0.out, HRUN.out, List.drop_drop]; simp, hb11⟩
                    case measure => simp [intOf]; omega
                  · have hn1 : (n : Int) < 255 := by omega
                    have hn3 : ¬ (a : Int) + 1 + (n : Int) < (l.length : Int) := by omega
                    by_cases hq : cp = a + 1
                    · subst hq
                      have HN1 := Lib.hid h2
                      clear h2
                      go_wp2_with (at_builtin; refine app8 rfl _ _ rfl w.heap.size _ _ _ rfl (HO7.out.alloc _) (wr.heap.size + 1) 1 1 (some ⟨wr.heap.size, 0, none⟩) [n] rfl rfl (by exact RdS.new wr _ #[.int .u8 (n : Int)]) (by omega) (by exact (balloc hbr3 _).size) ?_; intro v9 w9 hown9 hgrow9)
                      have hb9 := bgrown (balloc hbr3 _) hgrow9 (own_base HO7.out)
                      rw [← u8s_append] at hown9
                      have HO9 := Lib.hid hown9
                      clear hown9 hgrow9
                      have hA9 : cutA (some ⟨g, off, none⟩) (a + 1) (a + 1) = some ⟨g, off, none⟩ := by unfold cutA; rw [if_pos rfl]
                      have htl : ((l.drop (a + 1)).take n).length = n := by rw [List.length_take, List.length_drop]; omega
                      have hfl := fun W c (hW : RdS W B (cutA (some ⟨g, off, none⟩) (a + 1) (a + 1)) (u64s ((l.drop (a + 1)).take n))) (hBW : B ≤ W.heap.size) => rflat_any ((l.drop (a + 1)).take n) B c (cutA (some ⟨g, off, none⟩) (a + 1) (a + 1)) W hW hBW (fun m hm => H64.out m (List.mem_of_mem_drop (List.mem_of_mem_take hm))) (by omega)
                      rw [htl] at hfl
                      have hrd9 : RdS w9 B (cutA (some ⟨g, off, none⟩) (a + 1) (a + 1)) (u64s ((l.drop (a + 1)).take n)) := by
                        rw [u64s_take, u64s_drop]
                        exact ((HA.out.below (hb9.mono hB)).cut (by rw [u64s_len]; exact hcp)).take n
                      rw [hA9] at hfl hrd9
                      have HFL := Lib.hid hfl
                      have HRD9 := Lib.hid hrd9
                      clear hfl hrd9 hA9
                      go_wp2_with fail
                      refine (HFL.out _ _ HRD9.out (Nat.le_trans hB hb9.size)).mono ?_
                      rintro e w10 ⟨A10, c10, rfl, hlc10, hrd10, hb10⟩
                      have hbw10 := bstep hb9 hb10
                      have hfn : (flatN ((l.drop (a + 1)).take n)).length = 8 * n := by rw [flatN_len, htl]
                      have HRD10 := Lib.hid hrd10
                      have HO10 := Lib.hid (own_below HO9.out hb10)
                      have HFN := Lib.hid hfn
                      clear hrd10 hfn hlc10
                      go_wp2_with (at_builtin; refine app8 rfl _ _ rfl w.heap.size _ _ _ rfl HO10.out w10.heap.size (flatN ((l.drop (a + 1)).take n)).length c10 A10 (flatN ((l.drop (a + 1)).take n)) rfl rfl HRD10.out (by rw [HFN.out]; omega) (by exact hbw10.size) ?_; intro v11 w11 hown11 hgrow11)
                      have hb11 := bgrown hbw10 hgrow11 (own_base HO10.out)
                      rw [← u8s_append] at hown11
                      have HO11 := Lib.hid hown11
                      clear hown11 hgrow11
                      go_wp2
                      go_roundw
                      case rel => exact ⟨a + 1 + n, ((done ++ 255 :: selN 255 x) ++ [n]) ++ flatN ((l.drop (a + 1)).take n), by go_num, by omega, by
                        have h := HO11.out
                        have e := own_len h
                        rw [e, u8s_len] at h
                        exact h, by rw [← HD.out, HPK0.out, HRUN.out, List.drop_drop]; simp, hb11⟩
                      case measure => simp [intOf]; omega
                    · have HN1 := Lib.hid h2
                      have hcl : a + 1 < cp := by omega
                      clear h2 hq
                      go_wp2_with (at_builtin; refine app8 rfl _ _ rfl w.heap.size _ _ _ rfl (HO7.out.alloc _) (wr.heap.size + 1) 1 1 (some ⟨wr.heap.size, 0, none⟩) [n] rfl rfl (by exact RdS.new wr _ #[.int .u8 (n : Int)]) (by omega) (by exact (balloc hbr3 _).size) ?_; intro v9 w9 hown9 hgrow9)
                      have hb9 := bgrown (balloc hbr3 _) hgrow9 (own_base HO7.out)
                      rw [← u8s_append] at hown9
                      have HO9 := Lib.hid hown9
                      clear hown9 hgrow9
                      have hcne : ¬ cp = a + 1 := by omega
                      have hA9 : cutA (some ⟨g, off, none⟩) (a + 1) cp = some ⟨g, off + (a + 1), none⟩ := by unfold cutA; rw [if_neg hcne]; simp [Addr.add]
                      have htl : ((l.drop (a + 1)).take n).length = n := by rw [List.length_take, List.length_drop]; omega
                      have hfl := fun W c (hW : RdS W B (cutA (some ⟨g, off, none⟩) (a + 1) cp) (u64s ((l.drop (a + 1)).take n))) (hBW : B ≤ W.heap.size) => rflat_any ((l.drop (a + 1)).take n) B c (cutA (some ⟨g, off, none⟩) (a + 1) cp) W hW hBW (fun m hm => H64.out m (List.mem_of_mem_drop (List.mem_of_mem_take hm))) (by omega)
                      rw [htl] at hfl
                      have hrd9 : RdS w9 B (cutA (some ⟨g, off, none⟩) (a + 1) cp) (u64s ((l.drop (a + 1)).take n)) := by
                        rw [u64s_take, u64s_drop]
                        exact ((HA.out.below (hb9.mono hB)).cut (by rw [u64s_len]; exact hcp)).take n
                      rw [hA9] at hfl hrd9
                      have HFL := Lib.hid hfl
                      have HRD9 := Lib.hid hrd9
                      clear hfl hrd9 hA9
                      go_wp2_with fail
                      refine (HFL.out _ _ HRD9.out (Nat.le_trans hB hb9.size)).mono ?_
                      rintro e w10 ⟨A10, c10, rfl, hlc10, hrd10, hb10⟩
                      have hbw10 := bstep hb9 hb10
                      have hfn : (flatN ((l.drop (a + 1)).take n)).length = 8 * n := by rw [flatN_len, htl]
                      have HRD10 := Lib.hid hrd10
                      have HO10 := Lib.hid (own_below HO9.out hb10)
                      have HFN := Lib.hid hfn
                      clear hrd10 hfn hlc10
                      go_wp2_with (at_builtin; refine app8 rfl _ _ rfl w.heap.size _ _ _ rfl HO10.out w10.heap.size (flatN ((l.drop (a + 1)).take n)).length c10 A10 (flatN ((l.drop (a + 1)).take n)) rfl rfl HRD10.out (by rw [HFN.out]; omega) (by exact hbw10.size) ?_; intro v11 w11 hown11 hgrow11)
                      have hb11 := bgrown hbw10 hgrow11 (own_base HO10.out)
                      rw [← u8s_append] at hown11
                      have HO11 := Lib.hid hown11
                      clear hown11 hgrow11
                      go_wp2
                      go_roundw
                      case rel => exact ⟨a + 1 + n, ((done ++ 255 :: selN 255 x) ++ [n]) ++ flatN ((l.drop (a + 1)).take n), by go_num, by omega, by
                        have h := HO11.out
                        have e := own_len h
                        rw [e, u8s_len] at h
                        exact h, by rw [← HD.out, HPK0.out, HRUN.out, List.drop_drop]; simp, hb11⟩
                      case measure => simp [intOf]; omega
                  · have hcn := (HA.out.below (hbr3.mono hB)).at64 (k := a + 1 + n) h2
                    obtain ⟨cg, co, hce, hcl, hcc⟩ := hcn
                    injection hce with hce
                    injection hce with e1 e2 _
                    subst e1 e2
                    have hx3 : W64 (l.getD (a + 1 + n) 0) := by rw [getD_lt h2]; exact H64.out _ (List.getElem_mem h2)
                    generalize hxx : l.getD (a + 1 + n) 0 = x3 at *
                    have HXX := Lib.hid hxx
                    have HX3 := Lib.hid hx3
                    clear hxx hx3
                    have hn1 : (n : Int) < 255 := by omega
                    have hn3 : (a : Int) + 1 + (n : Int) < (l.length : Int) := by omega
                    have hz2 : ¬ zcK x3 8 < 2 := by rw [p7_zc] at h3; exact of_decide_eq_false h3
                    clear h3
                    go_wp2_with fail
                    refine (noughts_any x3 _ HX3.out).mono ?_
                    rintro e w8 ⟨rfl, hb8⟩
                    have hz3 : ¬ ((zcK x3 8 : Nat) : Int) < 2 := by omega
                    generalize zcK x3 8 = zz at *
                    have HO8 := Lib.hid (own_below HO7.out hb8)
                    have hbr8 := bstep hbr3 hb8
                    go_wp2_with (at_builtin; refine app8 rfl _ _ rfl w.heap.size _ _ _ rfl (HO8.out.alloc _) (w8.heap.size + 1) 1 1 (some ⟨w8.heap.size, 0, none⟩) [n] rfl rfl (by exact RdS.new w8 _ #[.int .u8 (n : Int)]) (by omega) (by exact (balloc hbr8 _).size) ?_; intro v9 w9 hown9 hgrow9)
                    have hb9 := bgrown (balloc hbr8 _) hgrow9 (own_base HO8.out)
                    rw [← u8s_append] at hown9
                    have HO9 := Lib.hid hown9
                    clear hown9 hgrow9
                    have hcne : ¬ cp = a + 1 := by omega
                    have hA9 : cutA (some ⟨g, off, none⟩) (a + 1) cp = some ⟨g, off + (a + 1), none⟩ := by unfold cutA; rw [if_neg hcne]; simp [Addr.add]
                    have htl : ((l.drop (a + 1)).take n).length = n := by rw [List.length_take, List.length_drop]; omega
                    have hfl := fun W c (hW : RdS W B (cutA (some ⟨g, off, none⟩) (a + 1) cp) (u64s ((l.drop (a + 1)).take n))) (hBW : B ≤ W.heap.size) => rflat_any ((l.drop (a + 1)).take n) B c (cutA (some ⟨g, off, none⟩) (a + 1) cp) W hW hBW (fun m hm => H64.out m (List.mem_of_mem_drop (List.mem_of_mem_take hm))) (by omega)
                    rw [htl] at hfl
                    have hrd9 : RdS w9 B (cutA (some ⟨g, off, none⟩) (a + 1) cp) (u64s ((l.drop (a + 1)).take n)) := by
                      rw [u64s_take, u64s_drop]
                      exact ((HA.out.below (hb9.mono hB)).cut (by rw [u64s_len]; exact hcp)).take n
                    rw [hA9] at hfl hrd9
                    have HFL := Lib.hid hfl
                    have HRD9 := Lib.hid hrd9
                    clear hfl hrd9 hA9
                    go_wp2_with fail
                    refine (HFL.out _ _ HRD9.out (Nat.le_trans hB hb9.size)).mono ?_
                    rintro e w10 ⟨A10, c10, rfl, hlc10, hrd10, hb10⟩
                    have hbw10 := bstep hb9 hb10
                    have hfn : (flatN ((l.drop (a + 1)).take n)).length = 8 * n := by rw [flatN_len, htl]
                    have HRD10 := Lib.hid hrd10
                    have HO10 := Lib.hid (own_below HO9.out hb10)
                    have HFN := Lib.hid hfn
                    clear hrd10 hfn hlc10
                    go_wp2_with (at_builtin; refine app8 rfl _ _ rfl w.heap.size _ _ _ rfl HO10.out w10.heap.size (flatN ((l.drop (a + 1)).take n)).length c10 A10 (flatN ((l.drop (a + 1)).take n)) rfl rfl HRD10.out (by rw [HFN.out]; omega) (by exact hbw10.size) ?_; intro v11 w11 hown11 hgrow11)
                    have hb11 := bgrown hbw10 hgrow11 (own_base HO10.out)
                    rw [← u8s_append] at hown11
                    have HO11 := Lib.hid hown11
                    clear hown11 hgrow11
                    go_wp2
                    go_roundw
                    case rel => exact ⟨a + 1 + n, ((done ++ 255 :: selN 255 x) ++ [n]) ++ flatN ((l.drop (a + 1)).take n), by go_num, by omega, by
                      have h := HO11.out
                      have e := own_len h
                      rw [e, u8s_len] at h
                      exact h, by rw [← HD.out, HPK0.out, HRUN.out, List.drop_drop]; simp, hb11⟩
                    case measure => simp [intOf]; omega
          · have ht0 : ((tg : Int) != 0) = true := bne_iff_ne.2 (by omega)
            have ht255 : ((tg : Int) != 255) = true := bne_iff_ne.2 (by omega)
            have HPK0 : Hid (packN (l.drop a) = (tg :: selN tg x) ++ packN (l.drop (a + 1))) := by have := HPK.out; rw [if_neg (by omega), if_neg (by omega)] at this; exact this
            clear h0
            go_wp2
            go_roundw
            case rel => exact ⟨a + 1, done ++ tg :: selN tg x, by go_num, by omega, by
              have h := HO6.out
              rw [hln] at h; exact h, by rw [← HD.out, HPK0.out]; simp, hbr2⟩
            case measure => simp [intOf]; omega
    · obtain rfl : a = l.length := by omega
      have HD2 := Lib.hid (show done = packN l by have := HD.out; rw [List.drop_length, packN_nil, List.append_nil] at this; exact this)
      obtain ⟨A1, c1, hv, hlc, hr⟩ := own_rd HO.out
      subst hv
      go_wp2
      go_ret
      exact ⟨A1, c1, by rw [← HD2.out]; rfl, by rw [← HD2.out]; exact hlc, by rw [← HD2.out]; exact hr, hbr⟩

end Go.Proofs.Ytcpapdjjeinpmaa
