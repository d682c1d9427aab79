/- Lemmas and contracts used by the proofs of this seat's laws (part L5); each theorem bears its own conditions. -/
import Derived.Test.YtcpapdjjeinpmaaRows
import Derived.Test.YtcpapdjjeinpmaaNum
import Derived.Test.YtcpapdjjeinpmaaMem
import Derived.Test.YtcpapdjjeinpmaaWordB
import Derived.Test.YtcpapdjjeinpmaaOps
import Derived.Test.YtcpapdjjeinpmaaS7
import Derived.Test.YtcpapdjjeinpmaaF1
import Derived.Test.YtcpapdjjeinpmaaF2
import Derived.Test.YtcpapdjjeinpmaaF3
import Derived.Test.YtcpapdjjeinpmaaS1
import Derived.Test.YtcpapdjjeinpmaaS9
import Derived.WalkKit
import Derived.WalkSpells
import Derived.WalkLawsBesides
import Derived.Lib.Hide
import Derived.BigQuiet
import Derived.StillTailTactics
import Derived.Deep.RegionHeld3
import Derived.Deep.AppendLies
import Derived.Laws.CopyOwn
import Derived.Deep.QuietTactic
namespace Go.Proofs.Ytcpapdjjeinpmaa
open Go.RowKit
set_option linter.unusedVariables false
set_option maxHeartbeats 2000000 in
theorem wordFlat (l : List Nat) (A : Option Addr) (cp : Nat) (b : List Nat) (A' : Option Addr) (cp' : Nat) (w : World) (hA : RdS w w.heap.size A (u64s l)) (h64 : ∀ n ∈ l, W64 n) (_hc : l.length ≤ cp) (hA' : RdS w w.heap.size A' (u8s b)) (h8 : ∀ n ∈ b, n < 256) (hc' : b.length ≤ cp') (hl : l.length * 8 ≤ 140737488351232) (hl' : b.length * 1 ≤ 140737488351232) :
    Calls Try.prog 3 #[.slice A l.length cp, .slice A' b.length cp'] w fun e w' => e = .returned (.bool true) ∧ Below w.heap.size w w' := by
  have hfl := flatN_len l
  have hfb := flatN_byte l
  have hwf := words_flat l h64
  have HFL := Lib.hid hfl
  have HFB := Lib.hid hfb
  have HWF := Lib.hid hwf
  clear hfl hfb hwf
  go_enter Try.func3, Try.ntmps3
  go_wp2_with fail
  refine (flat_any l w.heap.size cp A _ hA (Nat.le_refl _) (by omega)).mono ?_
  rintro e w1 ⟨A1, c1, rfl, hlc1, hr1, hb1⟩
  go_wp2_with fail
  refine (words_any (flatN l) w1.heap.size c1 A1 _ hr1 (Nat.le_refl _) HFB.out hlc1 (by rw [HFL.out]; omega) (by rw [HFL.out]; omega)).mono ?_
  rintro e w2 ⟨A2, c2, rfl, hlc2, hr2, hb2⟩
  rw [HWF.out] at *
  go_wp2_with fail
  refine (rflat_any l w.heap.size cp A _ (hA.below (bstep hb1 hb2)) (bstep hb1 hb2).size h64 (by omega)).mono ?_
  rintro e w3 ⟨A3, c3, rfl, hlc3, hr3, hb3⟩
  go_wp2_with fail
  have hb12 := bstep hb1 hb2
  have hb13 := bstep hb12 hb3
  refine (rsameb_any (flatN l) (flatN l) w3.heap.size c1 c3 A1 A3 _ ((hr1.below (hb2.trans (hb3.mono hb2.size))).mono (Nat.le_trans hb2.size hb3.size)) hr3 (by rw [HFL.out]; omega) (by rw [HFL.out]; omega)).mono ?_
  rintro e w4 ⟨rfl, hd4⟩
  rw [show decide (flatN l = flatN l) = true from decide_eq_true rfl]
  have hb4 := hd4.below w3.heap.size
  have hb14 := bstep hb13 hb4
  go_wp2_with fail
  refine (rsame_any l l w2.heap.size c2 cp A2 A _ (hr2.below (hb3.trans (hb4.mono hb3.size))) ((hA.below hb14).mono hb12.size) (by omega) (by omega)).mono ?_
  rintro e w5 ⟨rfl, hd5⟩
  rw [show decide (l = l) = true from decide_eq_true rfl]
  have hb5 := hd5.below w4.heap.size
  have hb15 := bstep hb14 hb5
  clear hr1 hr2 hr3 hb1 hb2 hb3 hb4 hb5 hd4 hd5 hb12 hb13 hb14
  have hA5 := hA'.below hb15
  by_cases hd : b.length % 8 = 0
  · have HD := Lib.hid hd
    clear hd
    go_wp2_with fail
    refine (words_any b w.heap.size cp' A' _ hA5 hb15.size h8 hc' (by omega) HD.out).mono ?_
    rintro e w6 ⟨A6, c6, rfl, hlc6, hr6, hb6⟩
    have hb16 := bstep hb15 hb6
    go_wp2_with fail
    refine (rwords_any b w.heap.size cp' A' _ (hA'.below hb16) hb16.size h8 (by omega) HD.out).mono ?_
    rintro e w7 ⟨A7, c7, rfl, hlc7, hr7, hb7⟩
    have hwl := wordsN_len b
    have HWL := Lib.hid hwl
    clear hwl
    go_wp2_with fail
    refine (rsame_any (wordsN b) (wordsN b) w7.heap.size c6 c7 A6 A7 _ ((hr6.below hb7).mono hb7.size) hr7 (by rw [HWL.out]; omega) (by rw [HWL.out]; omega)).mono ?_
    rintro e w8 ⟨rfl, hd8⟩
    rw [show decide (wordsN b = wordsN b) = true from decide_eq_true rfl]
    have hb18 := bstep (bstep hb16 hb7) (hd8.below w7.heap.size)
    go_wp2_with fail
    refine (awake1 _).mono ?_
    rintro e w9 ⟨rfl, hb9⟩
    go_wp2
    go_ret
    exact ⟨rfl, bstep hb18 hb9⟩
  · have HD := Lib.hid hd
    clear hd
    go_wp2_with fail
    refine (words_no b cp' A' _ (by omega) HD.out).mono ?_
    rintro e w6 ⟨rfl, rfl⟩
    go_wp2_with fail
    refine (rwords_no b cp' A' _ (by omega) HD.out).mono ?_
    rintro e w7 ⟨rfl, rfl⟩
    go_wp2_with fail
    refine (rsame_any [] [] 0 0 0 none none _ (RdS.nil _ _ _) (RdS.nil _ _ _) (by decide) (by decide)).mono ?_
    rintro e w8 ⟨rfl, hd8⟩
    rw [show decide (([] : List Nat) = []) = true from rfl]
    have hb18 := bstep hb15 (hd8.below w5.heap.size)
    go_wp2_with fail
    refine (awake1 _).mono ?_
    rintro e w9 ⟨rfl, hb9⟩
    go_wp2
    go_ret
    exact ⟨rfl, bstep hb18 hb9⟩

end Go.Proofs.Ytcpapdjjeinpmaa
