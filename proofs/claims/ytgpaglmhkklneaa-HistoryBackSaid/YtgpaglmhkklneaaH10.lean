/- Part H10 of the ghost memory: lemmas and contracts used by the proofs of this seat's laws; each theorem bears its own conditions. -/
import Derived.Test.YtgpaglmhkklneaaH9
import Derived.WalkKit
import Derived.WalkSpells
import Derived.WalkLawsBesides
import Derived.Lib.Hide
import Derived.BigQuiet
import Derived.StillTailTactics
import Derived.Deep.RegionHeld3
import Derived.Deep.AppendLies
import Derived.Laws.CopyOwn
import Derived.Deep.DeepCutAuto
import Derived.Deep.QuietTactic
import Derived.Maps.AppendAt
import Derived.Great.BuildSlice
import Derived.Laws.StructEq
import Derived.ChangeKeysEq
import Derived.IntWalk
import Derived.Lib.AppendZeros
import Derived.Lib.AppendZerosOnto
import Derived.ProofKit
import Derived.OpenShut
import Derived.SizedLaws
import Derived.Deep.Slices
namespace Go.Proofs.Ytgpaglmhkklneaa
open Go.RowKit
set_option linter.unusedVariables false
set_option linter.unusedSimpArgs false
section
variable {P : Program} {T : Vt}
def Zg3 (bs : List Bool) (i : Nat) : Bool := bs.getD i false
def Zmz (P : Program) (T : Vt) (ops : List Oper) (bs : List Bool) : List Nat → Env → Objs → Nat → GK → Prop
 | [], E, O, n, K => K E O n
 | i :: l, E, O, n, K => match ops[i]? with
  | none => Zmz P T ops bs l E O n K
  | some o => if Zg3 bs i = true then Q3 ops E o = some true ∧ gop P T E O n o.op fun g O' n' => Zmz P T ops bs l (Yy E o.dst g) O' n' K
    else ∃ r, PS P T ops O n E o r ∧ Zmz P T ops bs l (Yy E o.dst r) O n K
end
end Go.Proofs.Ytgpaglmhkklneaa
