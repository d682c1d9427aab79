/- Part H10 of the ghost memory: lemmas and contracts used by the proofs of this seat's laws; each theorem bears its own conditions. -/
import Derived.Test.YtaddaloondpnkaaH9
namespace Go.Proofs.Ytaddaloondpnkaa
open Go.RowKit
set_option linter.unusedVariables false
set_option linter.unusedSimpArgs false
section
variable {P:Program} {T:Ql}
def Zbm (bs:List Bool) (i:Nat):Bool:=bs.getD i false
def Zi7 (P:Program) (T:Ql) (ops:List Oper) (bs:List Bool):List Nat→Env→Objs→Nat→GK→Prop
 | [],E,O,n,K=>K E O n
 | i::l,E,O,n,K=>match ops[i]? with
  | none=>Zi7 P T ops bs l E O n K
  | some o=>if Zbm bs i=true then Y8 ops E o=some true∧gop P T E O n o.op fun g O' n'=>Zi7 P T ops bs l (Z8 E o.dst g) O' n' K
    else ∃ r,PS P T ops O n E o r∧Zi7 P T ops bs l (Z8 E o.dst r) O n K
end
end Go.Proofs.Ytaddaloondpnkaa
