/- Part H10 of the ghost memory: lemmas and contracts used by the proofs of this seat's laws; each theorem bears its own conditions. -/
import Derived.Test.YtibgpnmmgffgeaaH9
namespace Go.Proofs.Ytibgpnmmgffgeaa
open Go.RowKit
set_option linter.unusedVariables false
set_option linter.unusedSimpArgs false
section
variable {P:Program} {T:Kv}
def Zfe (bs:List Bool) (i:Nat):Bool:=bs.getD i false
def Zk0 (P:Program) (T:Kv) (ops:List Oper) (bs:List Bool):List Nat→Env→Objs→Nat→GK→Prop
 | [],E,O,n,K=>K E O n
 | i::l,E,O,n,K=>match ops[i]? with
  | none=>Zk0 P T ops bs l E O n K
  | some o=>if Zfe bs i=true then Qj ops E o=some true∧gop P T E O n o.op fun g O' n'=>Zk0 P T ops bs l (Yr E o.dst g) O' n' K
    else ∃ r,PS P T ops O n E o r∧Zk0 P T ops bs l (Yr E o.dst r) O n K
end
end Go.Proofs.Ytibgpnmmgffgeaa
