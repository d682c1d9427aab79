/- Part H10 of the ghost memory: lemmas and contracts used by the proofs of this seat's laws; each theorem bears its own conditions. -/
import Derived.Test.YtaddaloondpnkaaH9
namespace Go.Proofs.Ytaddaloondpnkaa
open Go.RowKit
set_option linter.unusedVariables false
set_option linter.unusedSimpArgs false
section
variable {P:Program} {T:Kf}
def Zbu (bs:List Bool) (i:Nat):Bool:=bs.getD i false
def Zio (P:Program) (T:Kf) (ops:List Oper) (bs:List Bool):List Nat→Env→Objs→Nat→GK→Prop
 | [],E,O,n,K=>K E O n
 | i::l,E,O,n,K=>match ops[i]? with
  | none=>Zio P T ops bs l E O n K
  | some o=>if Zbu bs i=true then X2 ops E o=some true∧gop P T E O n o.op fun g O' n'=>Zio P T ops bs l (Yh E o.dst g) O' n' K
    else ∃ r,PS P T ops O n E o r∧Zio P T ops bs l (Yh E o.dst r) O n K
end
end Go.Proofs.Ytaddaloondpnkaa
