/- Lemmas and contracts used by the proofs of this seat's laws (part S9); each theorem bears its own conditions. -/
import Derived.Test.YtcpapdjjeinpmaaRows
import Derived.Test.YtcpapdjjeinpmaaNum
import Derived.Test.YtcpapdjjeinpmaaMem
import Derived.Test.YtcpapdjjeinpmaaWordB
import Derived.Test.YtcpapdjjeinpmaaS1
import Derived.Test.YtcpapdjjeinpmaaS2
import Derived.Test.YtcpapdjjeinpmaaS3
import Derived.Test.YtcpapdjjeinpmaaS4
import Derived.Test.YtcpapdjjeinpmaaS6
import Derived.Test.YtcpapdjjeinpmaaS7
import Derived.WalkKit
import Derived.WalkSpells
import Derived.WalkLawsBesides
import Derived.Lib.Hide
import Derived.BigQuiet
import Derived.StillTailTactics
import Derived.Deep.QuietTactic
namespace Go.Proofs.Ytcpapdjjeinpmaa
open Go.RowKit
set_option linter.unusedVariables false
set_option maxHeartbeats 2000000 in
theorem awake1 (w : World) : Calls Try.prog 18 #[] w fun e w' => e = .returned (.bool true) ∧ Below w.heap.size w w' := by
  go_enter Try.func18, Try.ntmps18
  go_wp2_with fail
  refine (put_1 [1, 0, 1] (w.heap.size + 1) 3 (some ⟨w.heap.size, 0, none⟩) _ (RdS.new w _ _) (by simp) (by decide) (by decide)).mono ?_
  rintro e w1 ⟨A, c, rfl, _, hrd, hb⟩
  rw [show putN 1 [1, 0, 1] = [5] from rfl] at *
  have hb1 : Below w.heap.size w w1 := ((Below.refl _ _).alloc (Nat.le_refl _) _).trans (hb.mono (by simp))
  clear hb
  have HRD := Lib.hid hrd
  clear hrd
  go_wp2_with fail
  refine (unlike_any 258 259 _ (by unfold W64; decide) (by unfold W64; decide)).mono ?_
  rintro e w2 ⟨rfl, hb2⟩
  rw [show unl 258 259 8 = 1 from rfl]
  go_wp2_with fail
  refine (wide_any 5 _ (by decide)).mono ?_
  rintro e w3 ⟨rfl, rfl⟩
  rw [show wideN 5 8 = 16711935 from rfl]
  go_wp2_with fail
  have h0 : RdS (w2.alloc (.cells #[.int .u64 5] 31)) (w2.heap.size + 1) A (u64s [5]) := HRD.out.up (hb2.alloc hb2.size _) (Nat.le_succ_of_le hb2.size)
  refine (rsame_any [5] [5] _ _ _ _ _ _ h0 (RdS.new w2 _ _) (by decide) (by decide)).mono ?_
  rintro e w3 ⟨rfl, hd⟩
  rw [show decide ([5] = [5]) = true from rfl]
  go_wp2
  go_ret
  exact ⟨rfl, ((hb1.trans (hb2.mono hb1.size)).alloc (Nat.le_trans hb1.size hb2.size) _).trans (hd.below _)⟩

end Go.Proofs.Ytcpapdjjeinpmaa
