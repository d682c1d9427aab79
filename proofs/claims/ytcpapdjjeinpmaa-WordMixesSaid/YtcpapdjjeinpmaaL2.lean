/- Lemmas and contracts used by the proofs of this seat's laws (part L2); each theorem bears its own conditions. -/
import Derived.Test.YtcpapdjjeinpmaaRows
import Derived.Test.YtcpapdjjeinpmaaNum
import Derived.Test.YtcpapdjjeinpmaaMem
import Derived.Test.YtcpapdjjeinpmaaWordB
import Derived.Test.YtcpapdjjeinpmaaS9
import Derived.Test.YtcpapdjjeinpmaaS10
import Derived.WalkKit
import Derived.WalkSpells
import Derived.WalkLawsBesides
import Derived.Lib.Hide
import Derived.BigQuiet
import Derived.StillTailTactics
import Derived.Deep.RegionHeld3
import Derived.Deep.QuietTactic
namespace Go.Proofs.Ytcpapdjjeinpmaa
open Go.RowKit
set_option linter.unusedVariables false
theorem unl_lt256 (a b : Nat) : unl a b 8 < 256 := unl_lt a b 8
set_option maxHeartbeats 2000000 in
theorem wordMixes (a b m : Nat) (w : World) (ha : W64 a) (hb : W64 b) (hm : m < 256) : Calls Try.prog 5 #[.int .u64 a, .int .u64 b, .int .u8 m] w fun e w' => e = .returned (.bool true) ∧ Below w.heap.size w w' := by
  have hz : W64 0 := by unfold W64; decide
  have hf : W64 18446744073709551615 := by unfold W64; decide
  go_enter Try.func5, Try.ntmps5
  go_wp2_with fail
  refine (unlike_any a b _ ha hb).mono ?_
  rintro e w1 ⟨rfl, hb1⟩
  go_wp2_with fail
  refine (mix_any a b m _ ha hb hm).mono ?_
  rintro e w2 ⟨rfl, rfl⟩
  go_wp2_with fail
  refine (rmix_any a b m _ ha hb hm).mono ?_
  rintro e w2 ⟨rfl, hb2⟩
  go_wp2_with fail
  refine (runlike_any a b _ ha hb).mono ?_
  rintro e w3 ⟨rfl, hb3⟩
  go_wp2_with fail
  refine (mix_any a b (unl a b 8) _ ha hb (unl_lt256 a b)).mono ?_
  rintro e w4 ⟨rfl, rfl⟩
  rw [mix_unl a b hb]
  go_wp2_with fail
  refine (wide_any m _ hm).mono ?_
  rintro e w4 ⟨rfl, rfl⟩
  go_wp2_with fail
  refine (rmix_any 0 18446744073709551615 m _ hz hf hm).mono ?_
  rintro e w4 ⟨rfl, hb4⟩
  rw [mix_full]
  go_wp2_with fail
  refine (awake1 _).mono ?_
  rintro e w5 ⟨rfl, hb5⟩
  go_wp2
  go_ret
  exact ⟨rfl, bstep (bstep (bstep (bstep hb1 hb2) hb3) hb4) hb5⟩

end Go.Proofs.Ytcpapdjjeinpmaa
