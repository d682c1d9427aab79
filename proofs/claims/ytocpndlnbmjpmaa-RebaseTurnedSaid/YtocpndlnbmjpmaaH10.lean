/- Part H10 of the ghost memory: lemmas and contracts used by the proofs of this seat's laws; each theorem bears its own conditions. -/
import Derived.Test.YtocpndlnbmjpmaaH9
namespace Go.Proofs.Ytocpndlnbmjpmaa
open Go.RowKit
set_option linter.unusedVariables false
set_option linter.unusedSimpArgs false
section
variable {P:Program} {T:gZ}
def dD (bs:List Bool) (i:Nat):Bool:=bs.getD i false
def Zaa (P:Program) (T:gZ) (ops:List Oper) (bs:List Bool):List Nat→Env→Objs→Nat→GK→Prop
 | [],E,O,n,K=>K E O n
 | i::l,E,O,n,K=>match ops[i]? with
  | none=>Zaa P T ops bs l E O n K
  | some o=>if dD bs i=true then K7 ops E o=some true∧gop P T E O n o.op fun g O' n'=>Zaa P T ops bs l (Xw E o.dst g) O' n' K
    else ∃ r,PS P T ops O n E o r∧Zaa P T ops bs l (Xw E o.dst r) O n K
end
end Go.Proofs.Ytocpndlnbmjpmaa
