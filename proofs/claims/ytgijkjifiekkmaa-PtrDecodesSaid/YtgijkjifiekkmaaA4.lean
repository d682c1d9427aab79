/- Contracts of this seat's functions over the ghost memory (part A4); each theorem bears its own conditions. -/
import Derived.Test.YtgijkjifiekkmaaTy
import Derived.Test.YtgijkjifiekkmaaG17
import Derived.Test.YtgijkjifiekkmaaA2
import Derived.Test.YtgijkjifiekkmaaG18
import Derived.IntWalk
namespace Go.Proofs.Ytgijkjifiekkmaa
open Go.RowKit
set_option linter.unusedVariables false
set_option linter.unusedSimpArgs false
theorem ptrDecodes (w : Nat) (W : World) (hw : W64 w) : Calls Try.prog 6 #[.int .u64 (w : Int)] W fun e w' => e = .returned (.bool true) ∧ Below W.heap.size W w' :=
  law_of (ptrDecodes_ok noObjs 0 w (by unfold W64 at hw; omega)) (vs := [.int .u64 (w : Int)]) ⟨_, _, rfl, rfl, rfl⟩

end Go.Proofs.Ytgijkjifiekkmaa
