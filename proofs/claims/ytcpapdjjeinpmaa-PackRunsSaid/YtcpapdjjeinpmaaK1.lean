/- Lemmas and contracts used by the proofs of this seat's laws (part K1); each theorem bears its own conditions. -/
import Derived.Test.YtcpapdjjeinpmaaRows
import Derived.Test.YtcpapdjjeinpmaaNum
import Derived.Test.YtcpapdjjeinpmaaMem
import Derived.Test.YtcpapdjjeinpmaaPk
import Derived.Test.YtcpapdjjeinpmaaS1
import Derived.Test.YtcpapdjjeinpmaaF2
import Derived.Test.YtcpapdjjeinpmaaP4
import Derived.Test.YtcpapdjjeinpmaaP5
import Derived.Test.YtcpapdjjeinpmaaU6
import Derived.Test.YtcpapdjjeinpmaaU7
import Derived.WalkKit
import Derived.WalkSpells
import Derived.WalkLawsBesides
import Derived.Lib.Hide
import Derived.BigQuiet
import Derived.StillTailTactics
import Derived.Deep.RegionHeld3
import Derived.Deep.AppendLies
import Derived.Laws.CopyOwn
import Derived.Deep.DeepCutAuto
import Derived.Deep.QuietTactic
namespace Go.Proofs.Ytcpapdjjeinpmaa
open Go.RowKit
set_option linter.unusedVariables false
set_option maxHeartbeats 2000000 in
theorem awake2 (w : World) : Calls Try.prog 40 #[] w fun e w' => e = .returned (.bool true) ∧ Below w.heap.size w w' := by
  have hp : packN [8, 0, 0] = [1, 8, 0, 1] := by decide +kernel
  have hu : unpG [1, 8, 0, 1] [] 3 = ([8, 0, 0], 0) := by decide +kernel
  have HP := Lib.hid hp
  have HU := Lib.hid hu
  clear hp hu
  go_enter Try.func40, Try.ntmps40
  go_wp2_with fail
  refine (pack_any [8, 0, 0] (w.heap.size + 1) 3 (some ⟨w.heap.size, 0, none⟩) _ (RdS.new w _ _) (by simp) (by unfold W64; decide) (by decide) (by decide)).mono ?_
  rintro e w1 ⟨A1, c1, rfl, hlc1, hr1, hb1⟩
  rw [HP.out] at *
  have hb1' : Below w.heap.size w w1 := ((Below.refl _ _).alloc (Nat.le_refl _) _).trans (hb1.mono (by simp))
  have HR1 := Lib.hid hr1
  clear hr1 hb1 hlc1
  go_wp2_with fail
  have hcall := unpack_any [1, 8, 0, 1] 3 (w1.heap.size + 1) 4 (some ⟨w1.heap.size, 0, none⟩) (w1.alloc (.cells #[.int .u8 1, .int .u8 8, .int .u8 0, .int .u8 1] 5)) (RdS.new w1 _ #[.int .u8 1, .int .u8 8, .int .u8 0, .int .u8 1]) (by simp) (by decide) (by decide) (by decide) (by decide)
  rw [show Int.toNat 3 = 3 from rfl, HU.out] at hcall
  refine hcall.mono ?_
  clear hcall
  rintro e w2 ⟨A2, c2, rfl, hr2, hb2⟩
  have hb12 : Below w1.heap.size w1 w2 := ((Below.refl _ _).alloc (Nat.le_refl _) _).trans (hb2.mono (by simp))
  have hb2' := bstep hb1' hb12
  have HR2 := Lib.hid hr2
  have HR12 := Lib.hid (HR1.out.below hb12)
  have hsz := hb12.size
  clear hr2 hb2
  go_wp2_with fail
  have h0 : RdS (w2.alloc (.cells #[.int .u8 1, .int .u8 8, .int .u8 0, .int .u8 1] 5)) (w2.heap.size + 1) A1 (u8s [1, 8, 0, 1]) := HR12.out.up ((Below.refl _ _).alloc hsz _) (by omega)
  refine (rsameb_any [1, 8, 0, 1] [1, 8, 0, 1] _ _ _ _ _ _ h0 (RdS.new w2 _ #[.int .u8 1, .int .u8 8, .int .u8 0, .int .u8 1]) (by decide) (by decide)).mono ?_
  rintro e w3 ⟨rfl, hd3⟩
  rw [show decide ([1, 8, 0, 1] = [1, 8, 0, 1]) = true from rfl]
  have hb23 : Below w2.heap.size w2 w3 := ((Below.refl _ _).alloc (Nat.le_refl _) _).trans (hd3.below _)
  have HR23 := Lib.hid (HR2.out.below hb23)
  have hb3' := bstep hb2' hb23
  have hsz3 := hb23.size
  clear hd3
  go_wp2_with fail
  have h1 : RdS (w3.alloc (.cells #[.int .u64 8, .int .u64 0, .int .u64 0] 31)) (w3.heap.size + 1) A2 (u64s [8, 0, 0]) := HR23.out.up ((Below.refl _ _).alloc hsz3 _) (by omega)
  refine (rsame_any [8, 0, 0] [8, 0, 0] _ _ _ _ _ _ h1 (RdS.new w3 _ #[.int .u64 8, .int .u64 0, .int .u64 0]) (by decide) (by decide)).mono ?_
  rintro e w4 ⟨rfl, hd4⟩
  rw [show decide ([8, 0, 0] = [8, 0, 0]) = true from rfl]
  go_wp2
  go_ret
  exact ⟨rfl, bstep hb3' (((Below.refl _ _).alloc (Nat.le_refl _) _).trans (hd4.below _))⟩
set_option maxHeartbeats 2000000 in
theorem few_any (l : List Nat) (A : Option Addr) (cp : Nat) (w : World) (hcp : l.length ≤ cp) (hl : l.length ≤ 17592186044416) :
    Calls Try.prog 37 #[.slice A l.length cp] w fun e w' => e = .returned (.slice A (l.take 700).length cp) ∧ w = w' := by
  have hcI : (l.length : Int) ≤ (cp : Int) := by omega
  by_cases h : 700 < l.length
  · have hI : 700 < (l.length : Int) := by omega
    have e : (l.take 700).length = 700 := by rw [List.length_take]; omega
    have hc7 : 700 ≤ (cp : Int) := by omega
    rw [e]
    clear e
    go_enter Try.func37, Try.ntmps37
    go_wp2
    go_ret
    exact ⟨rfl, rfl⟩
  · have hI : ¬ 700 < (l.length : Int) := by omega
    have e : (l.take 700).length = l.length := by rw [List.length_take]; omega
    rw [e]
    clear e
    go_enter Try.func37, Try.ntmps37
    go_wp2
    go_ret
    exact ⟨rfl, rfl⟩
set_option maxHeartbeats 2000000 in
theorem packPacks (l : List Nat) (A : Option Addr) (cp : Nat) (w : World) (hA : RdS w w.heap.size A (u64s l)) (h64 : ∀ n ∈ l, W64 n) (hc : l.length ≤ cp) (hl : l.length * 8 ≤ 140737488351232) :
    Calls Try.prog 8 #[.slice A l.length cp] w fun e w' => e = .returned (.bool true) ∧ Below w.heap.size w w' := by
  have htl : (l.take 700).length ≤ 700 := by rw [List.length_take]; omega
  have htc : (l.take 700).length ≤ cp := by rw [List.length_take]; omega
  have hA7 : RdS w w.heap.size A (u64s (l.take 700)) := by rw [u64s_take]; exact hA.take 700
  have h647 : ∀ n ∈ l.take 700, W64 n := fun n hn => h64 n (List.mem_of_mem_take hn)
  have hpl := packN_len (l.take 700)
  have HF := Lib.hid (few_any l A cp w hc (by omega))
  have HPL := Lib.hid hpl
  clear hA h64 hpl
  generalize l.take 700 = s at *
  go_enter Try.func8, Try.ntmps8
  go_wp2_with fail
  refine HF.out.mono ?_
  rintro e w1 ⟨rfl, rfl⟩
  go_wp2_with fail
  refine (pack_any s w.heap.size cp A _ hA7 (Nat.le_refl _) h647 htc (by omega)).mono ?_
  rintro e w2 ⟨A2, c2, rfl, hlc2, hr2, hb2⟩
  go_wp2_with fail
  refine (rpack_any s w.heap.size cp A _ (hA7.below hb2) hb2.size h647 htc (by omega)).mono ?_
  rintro e w3 ⟨A3, c3, rfl, hlc3, hr3, hb3⟩
  go_wp2_with fail
  refine (rsameb_any (packN s) (packN s) w3.heap.size c2 c3 A2 A3 _ ((hr2.below hb3).mono hb3.size) hr3 (by have := HPL.out; omega) (by have := HPL.out; omega)).mono ?_
  rintro e w4 ⟨rfl, hd4⟩
  rw [show decide (packN s = packN s) = true from decide_eq_true rfl]
  go_wp2_with fail
  refine (awake2 _).mono ?_
  rintro e w5 ⟨rfl, hb5⟩
  go_wp2
  go_ret
  exact ⟨rfl, bstep (bstep (bstep hb2 hb3) (hd4.below _)) hb5⟩

end Go.Proofs.Ytcpapdjjeinpmaa
