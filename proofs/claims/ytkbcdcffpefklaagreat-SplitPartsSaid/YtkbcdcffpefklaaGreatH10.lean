/- Part H10 of the ghost memory: lemmas and contracts used by the proofs of this seat's laws; each theorem bears its own conditions. -/
import Derived.Test.YtkbcdcffpefklaaGreatH9
namespace Go.Proofs.YtkbcdcffpefklaaGreat
open Go.RowKit
set_option linter.unusedVariables false
set_option linter.unusedSimpArgs false
section
variable {P:Program} {T:K4}
def Zgv (bs:List Bool) (i:Nat):Bool:=bs.getD i false
def Zna (P:Program) (T:K4) (ops:List Oper) (bs:List Bool):List Nat→Env→Objs→Nat→GK→Prop
 | [],E,O,n,K=>K E O n
 | i::l,E,O,n,K=>match ops[i]? with
  | none=>Zna P T ops bs l E O n K
  | some o=>if Zgv bs i=true then Qi ops E o=some true∧gop P T E O n o.op fun g O' n'=>Zna P T ops bs l (Yp E o.dst g) O' n' K
    else ∃ r,PS P T ops O n E o r∧Zna P T ops bs l (Yp E o.dst r) O n K
end
end Go.Proofs.YtkbcdcffpefklaaGreat
