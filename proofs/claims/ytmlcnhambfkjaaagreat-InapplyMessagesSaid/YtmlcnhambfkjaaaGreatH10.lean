/- Part H10 of the ghost memory: lemmas and contracts used by the proofs of this seat's laws; each theorem bears its own conditions. -/
import Derived.Test.YtmlcnhambfkjaaaGreatH9
namespace Go.Proofs.YtmlcnhambfkjaaaGreat
open Go.RowKit
set_option linter.unusedVariables false
set_option linter.unusedSimpArgs false
section
variable {P:Program} {T:V6}
def Zeo (bs:List Bool) (i:Nat):Bool:=bs.getD i false
def Zkz (P:Program) (T:V6) (ops:List Oper) (bs:List Bool):List Nat→Env→Objs→Nat→GK→Prop
 | [],E,O,n,K=>K E O n
 | i::l,E,O,n,K=>match ops[i]? with
  | none=>Zkz P T ops bs l E O n K
  | some o=>if Zeo bs i=true then Q9 ops E o=some true∧gop P T E O n o.op fun g O' n'=>Zkz P T ops bs l (Y2 E o.dst g) O' n' K
    else ∃ r,PS P T ops O n E o r∧Zkz P T ops bs l (Y2 E o.dst r) O n K
end
end Go.Proofs.YtmlcnhambfkjaaaGreat
