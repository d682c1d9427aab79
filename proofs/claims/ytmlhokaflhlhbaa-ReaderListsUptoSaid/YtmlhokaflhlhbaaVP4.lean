/- Plain facts on this seat's mirrors (part VP4); each theorem bears its own conditions. -/
import Derived.Test.YtmlhokaflhlhbaaVP1
import Derived.IntWalk
namespace Go.Proofs.Ytmlhokaflhlhbaa
open Go.RowKit
set_option linter.unusedVariables false
set_option linter.unusedSimpArgs false
abbrev Tr := S_api_Tree
end Go.Proofs.Ytmlhokaflhlhbaa
