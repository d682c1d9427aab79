/- Part H10 of the ghost memory: lemmas and contracts used by the proofs of this seat's laws; each theorem bears its own conditions. -/
import Derived.Test.YtmjjjfamipncdaaGreatH9
namespace Go.Proofs.YtmjjjfamipncdaaGreat
open Go.RowKit
set_option linter.unusedVariables false
set_option linter.unusedSimpArgs false
section
variable {P:Program} {T:J0}
def Zbv (bs:List Bool) (i:Nat):Bool:=bs.getD i false
def Zim (P:Program) (T:J0) (ops:List Oper) (bs:List Bool):List Nat→Env→Objs→Nat→GK→Prop
 | [],E,O,n,K=>K E O n
 | i::l,E,O,n,K=>match ops[i]? with
  | none=>Zim P T ops bs l E O n K
  | some o=>if Zbv bs i=true then Qa ops E o=some true∧gop P T E O n o.op fun g O' n'=>Zim P T ops bs l (Yc E o.dst g) O' n' K
    else ∃ r,PS P T ops O n E o r∧Zim P T ops bs l (Yc E o.dst r) O n K
end
end Go.Proofs.YtmjjjfamipncdaaGreat
