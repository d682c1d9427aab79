/- Lemmas and contracts used by the proofs of this seat's laws (part K3); each theorem bears its own conditions. -/
import Derived.Test.YtcpapdjjeinpmaaRows
import Derived.Test.YtcpapdjjeinpmaaNum
import Derived.Test.YtcpapdjjeinpmaaMem
import Derived.Test.YtcpapdjjeinpmaaPk
import Derived.Test.YtcpapdjjeinpmaaPm
import Derived.Test.YtcpapdjjeinpmaaS1
import Derived.Test.YtcpapdjjeinpmaaP4
import Derived.Test.YtcpapdjjeinpmaaU6
import Derived.Test.YtcpapdjjeinpmaaK1
import Derived.WalkKit
import Derived.WalkSpells
import Derived.WalkLawsBesides
import Derived.Lib.Hide
import Derived.BigQuiet
import Derived.StillTailTactics
import Derived.Deep.RegionHeld3
import Derived.Deep.AppendLies
import Derived.Laws.CopyOwn
import Derived.Deep.DeepCutAuto
import Derived.Deep.QuietTactic
namespace Go.Proofs.Ytcpapdjjeinpmaa
open Go.RowKit
set_option linter.unusedVariables false
set_option maxHeartbeats 4000000 in
theorem packBack (l : List Nat) (A : Option Addr) (cp : Nat) (c : Int) (w : World) (hA : RdS w w.heap.size A (u64s l)) (h64 : ∀ n ∈ l, W64 n) (hc : l.length ≤ cp) (hcut : -9223372036854775808 ≤ c ∧ c ≤ 9223372036854775807) (hl : l.length * 8 ≤ 140737488351232) :
    Calls Try.prog 10 #[.slice A l.length cp, .int .i64 c] w fun e w' => e = .returned (.bool true) ∧ Below w.heap.size w w' := by
  have htl : (l.take 700).length ≤ 700 := by rw [List.length_take]; omega
  have htc : (l.take 700).length ≤ cp := by rw [List.length_take]; omega
  have hA7 : RdS w w.heap.size A (u64s (l.take 700)) := by rw [u64s_take]; exact hA.take 700
  have h647 : ∀ n ∈ l.take 700, W64 n := fun n hn => h64 n (List.mem_of_mem_take hn)
  have HF := Lib.hid (few_any l A cp w hc (by omega))
  clear hA h64
  generalize l.take 700 = s at *
  have hpl := packN_len s
  have hpb : ∀ n ∈ packN s, n < 256 := packN_byte s h647
  have hup := unp_pack s.length s [] s.length (Nat.le_refl _) h647 (by simp)
  have hul : 0 < s.length → unpG (packN s) [] (s.length - 1) = ([], 3) := fun h => unp_limit s.length s [] (s.length - 1) (Nat.le_refl _) h647 (by simp) (by simp; omega)
  have huc : ∀ k, k < (packN s).length → unpG ((packN s).take k) [] s.length = ([], 4) ∨ ∃ ws, unpG ((packN s).take k) [] s.length = (ws, 0) ∧ ws.length < 0 + s.length := fun k hk => unp_cut s.length s [] s.length k (Nat.le_refl _) h647 (by simp) hk
  rw [List.nil_append] at hup
  have HA7 := Lib.hid hA7
  have H647 := Lib.hid h647
  have HPB := Lib.hid hpb
  have HUP := Lib.hid hup
  have HUL := Lib.hid hul
  have HUC := Lib.hid huc
  have HPN := Lib.hid (show s = [] → packN s = [] from fun h => by rw [h]; rfl)
  clear hA7 h647 hpb hup hul huc
  go_enter Try.func10, Try.ntmps10
  go_wp2_with fail
  refine HF.out.mono ?_
  rintro e w1 ⟨rfl, rfl⟩
  go_wp2_with fail
  refine (pack_any s w.heap.size cp A _ HA7.out (Nat.le_refl _) H647.out htc (by omega)).mono ?_
  rintro e w2 ⟨A2, c2, rfl, hlc2, hr2, hb2⟩
  have HR2 := Lib.hid hr2
  clear hr2
  generalize packN s = pk at *
  go_wp2_with fail
  have hc1 := unpack_any pk (s.length : Int) w2.heap.size c2 A2 w2 HR2.out (Nat.le_refl _) HPB.out hlc2 (by omega) (by omega)
  rw [Int.toNat_natCast, HUP.out] at hc1
  refine hc1.mono ?_
  clear hc1
  rintro e w3 ⟨A3, c3, rfl, hr3, hb3⟩
  have hb23 := bstep hb2 hb3
  have HR3 := Lib.hid hr3
  have HR23 := Lib.hid ((HR2.out.below hb3).mono hb3.size)
  have HA3 := Lib.hid ((HA7.out.below hb23).mono hb23.size)
  clear hr3
  have hb3s := hb3.size
  dsimp only at *
  have hpl2 : ¬ 10 * (s.length : Int) < (pk.length : Int) := by omega
  go_wp2_with fail
  refine (rsame_any s s w3.heap.size c3 cp A3 A _ HR3.out HA3.out (by omega) (by omega)).mono ?_
  rintro e w4 ⟨rfl, hd4⟩
  rw [show decide (s = s) = true from decide_eq_true rfl]
  have hb4 := hd4.below w3.heap.size
  have hb24 := bstep hb23 hb4
  have HR24 := Lib.hid (HR23.out.below hb4)
  clear hd4
  by_cases hs : s.length = 0
  · have hsI : ¬ 0 < (s.length : Int) := by omega
    have hpk : pk.length = 0 := by rw [HPN.out (List.eq_nil_of_length_eq_zero hs)]; rfl
    have hpkI : ¬ c < 0 → (pk.length : Int) ≤ c := by omega
    by_cases hneg : c < 0
    · clear hpkI hpk hs
      go_wp2_with fail
      refine (awake2 _).mono ?_
      rintro e w5 ⟨rfl, hb5⟩
      go_wp2
      go_ret
      exact ⟨rfl, bstep hb24 hb5⟩
    · have hge := hpkI hneg
      clear hpkI hpk hs
      go_wp2_with fail
      refine (awake2 _).mono ?_
      rintro e w5 ⟨rfl, hb5⟩
      go_wp2
      go_ret
      exact ⟨rfl, bstep hb24 hb5⟩
  · have hsI : 0 < (s.length : Int) := by omega
    have hc2 := unpack_any pk ((s.length : Int) - 1) w3.heap.size c2 A2 w4 HR24.out hb4.size HPB.out hlc2 (by omega) (by omega)
    rw [show ((s.length : Int) - 1).toNat = s.length - 1 by omega, HUL.out (by omega)] at hc2
    have HC2 := Lib.hid hc2
    clear hc2
    go_wp2_with fail
    refine HC2.out.mono ?_
    rintro e w5 ⟨A5, c5, rfl, _, hb5⟩
    dsimp only at *
    have hb25 := bstep hb24 hb5
    have HR25 := Lib.hid (HR24.out.below (hb5.mono hb4.size))
    have hb35 : w3.heap.size ≤ w5.heap.size := Nat.le_trans hb4.size hb5.size
    by_cases hneg : c < 0
    · go_wp2_with fail
      refine (awake2 _).mono ?_
      rintro e w6 ⟨rfl, hb6⟩
      go_wp2
      go_ret
      exact ⟨rfl, bstep hb25 hb6⟩
    · by_cases hge : (pk.length : Int) ≤ c
      · go_wp2_with fail
        refine (awake2 _).mono ?_
        rintro e w6 ⟨rfl, hb6⟩
        go_wp2
        go_ret
        exact ⟨rfl, bstep hb25 hb6⟩
      · obtain ⟨k, rfl⟩ := Int.eq_ofNat_of_zero_le (show 0 ≤ c by omega)
        have hk : k < pk.length := by omega
        have hkI : (k : Int) ≤ (c2 : Int) := by omega
        have htk : (pk.take k).length = k := by rw [List.length_take]; omega
        have hc3 := unpack_any (pk.take k) (s.length : Int) w3.heap.size c2 A2 w5 (by rw [u8s_take]; exact HR25.out.take k) hb35 (fun m hm => HPB.out m (List.mem_of_mem_take hm)) (by omega) (by omega) (by omega)
        rw [Int.toNat_natCast, htk] at hc3
        have HC3 := Lib.hid hc3
        have HK := Lib.hid (HUC.out k hk)
        clear hc3 htk hge
        go_wp2_with fail
        refine HC3.out.mono ?_
        rintro e w6 ⟨A6, c6, rfl, _, hb6⟩
        have hb26 := bstep hb25 hb6
        rcases HK.out with hres | ⟨ws, hres, hlt⟩
        · rw [hres]
          clear hres HK
          dsimp only
          go_wp2_with fail
          refine (awake2 _).mono ?_
          rintro e w7 ⟨rfl, hb7⟩
          go_wp2
          go_ret
          exact ⟨rfl, bstep hb26 hb7⟩
        · rw [hres]
          clear hres HK
          dsimp only
          have hltI : (ws.length : Int) < (s.length : Int) := by omega
          go_wp2_with fail
          refine (awake2 _).mono ?_
          rintro e w7 ⟨rfl, hb7⟩
          go_wp2
          go_ret
          exact ⟨rfl, bstep hb26 hb7⟩

end Go.Proofs.Ytcpapdjjeinpmaa
