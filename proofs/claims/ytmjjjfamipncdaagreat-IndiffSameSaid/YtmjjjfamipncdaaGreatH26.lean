/- Part H26 of the ghost memory: lemmas and contracts used by the proofs of this seat's laws; each theorem bears its own conditions. -/
import Derived.Test.YtmjjjfamipncdaaGreatH25
namespace Go.Proofs.YtmjjjfamipncdaaGreat
open Go.RowKit
set_option linter.unusedVariables false
set_option linter.unusedSimpArgs false
end Go.Proofs.YtmjjjfamipncdaaGreat
