/- Plain facts on this seat's mirrors (part RP2); each theorem bears its own conditions. -/
import Derived.Test.YtgijkjifiekkmaaRP1
import Derived.IntWalk
namespace Go.Proofs.Ytgijkjifiekkmaa
open Go.RowKit
set_option linter.unusedVariables false
set_option linter.unusedSimpArgs false
theorem Zlh {x : Int} (h1 : -9223372036854775808 ≤ x) (h2 : x ≤ 9223372036854775807) : IntKind.i64.wrap x = x := Y2 ⟨h1, h2⟩
theorem Zk4 (n : Int) (l : List Int) : Jg (n :: l) = n.toNat + Jg l := rfl
theorem Zkq (n : Int) (l r : List Int) : Zef (n :: l) r = Zac (r.take (8 * n.toNat)) :: Zef l (r.drop (8 * n.toNat)) := rfl
end Go.Proofs.Ytgijkjifiekkmaa
