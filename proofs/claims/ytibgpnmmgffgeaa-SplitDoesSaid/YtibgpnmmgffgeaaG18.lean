/- Part G18 of the ghost memory: lemmas and contracts used by the proofs of this seat's laws; each theorem bears its own conditions. -/
import Derived.Test.YtibgpnmmgffgeaaG17
namespace Go.Proofs.Ytibgpnmmgffgeaa
open Go.RowKit
set_option linter.unusedVariables false
set_option linter.unusedSimpArgs false
open Go.ChangeShapes Go.WideShapes Go.ChangeAt
end Go.Proofs.Ytibgpnmmgffgeaa
