/- Part H26 of the ghost memory: lemmas and contracts used by the proofs of this seat's laws; each theorem bears its own conditions. -/
import Derived.Test.YtbkhdkfjabiocaaH25
namespace Go.Proofs.Ytbkhdkfjabiocaa
open Go.RowKit
set_option linter.unusedVariables false
set_option linter.unusedSimpArgs false
def Ya8 {α:Type} (xs:List α) (lo:Int) (ys:List α):List α:=xs.take lo.toNat++ys.take (xs.length - lo.toNat)++xs.drop (lo.toNat+ys.length)
theorem Zf5 {α:Type} (xs:List α) (lo:Int) (ys:List α):(Ya8 xs lo ys).length=xs.length:=by
 unfold Ya8
 rw [List.length_append,List.length_append,List.length_take,List.length_take,List.length_drop]
 omega
end Go.Proofs.Ytbkhdkfjabiocaa
