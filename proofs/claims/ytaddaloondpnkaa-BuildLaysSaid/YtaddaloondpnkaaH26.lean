/- Part H26 of the ghost memory: lemmas and contracts used by the proofs of this seat's laws; each theorem bears its own conditions. -/
import Derived.Test.YtaddaloondpnkaaH25
namespace Go.Proofs.Ytaddaloondpnkaa
open Go.RowKit
set_option linter.unusedVariables false
set_option linter.unusedSimpArgs false
def Z3e {α:Type} (xs:List α) (lo:Int) (ys:List α):List α:=xs.take lo.toNat++ys.take (xs.length - lo.toNat)++xs.drop (lo.toNat+ys.length)
theorem Zbl {α:Type} (xs:List α) (lo:Int) (ys:List α):(Z3e xs lo ys).length=xs.length:=by
 unfold Z3e
 rw [List.length_append,List.length_append,List.length_take,List.length_take,List.length_drop]
 omega
end Go.Proofs.Ytaddaloondpnkaa
