/- Plain facts on this seat's mirrors (part RP4); each theorem bears its own conditions. -/
import Derived.Test.YtgijkjifiekkmaaRP3
import Derived.IntWalk
namespace Go.Proofs.Ytgijkjifiekkmaa
open Go.RowKit
set_option linter.unusedVariables false
set_option linter.unusedSimpArgs false
end Go.Proofs.Ytgijkjifiekkmaa
