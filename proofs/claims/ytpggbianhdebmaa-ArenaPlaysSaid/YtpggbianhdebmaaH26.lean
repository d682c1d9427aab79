/- Part H26 of the ghost memory: lemmas and contracts used by the proofs of this seat's laws; each theorem bears its own conditions. -/
import Derived.Test.YtpggbianhdebmaaH25
namespace Go.Proofs.Ytpggbianhdebmaa
open Go.RowKit
set_option linter.unusedVariables false
set_option linter.unusedSimpArgs false
def Zrj {α:Type} (xs:List α) (lo:Int) (ys:List α):List α:=xs.take lo.toNat++ys.take (xs.length - lo.toNat)++xs.drop (lo.toNat+ys.length)
theorem V3 {α:Type} (xs:List α) (lo:Int) (ys:List α):(Zrj xs lo ys).length=xs.length:=by
 unfold Zrj
 rw [List.length_append,List.length_append,List.length_take,List.length_take,List.length_drop]
 omega
end Go.Proofs.Ytpggbianhdebmaa
