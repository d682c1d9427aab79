/- Part H26 of the ghost memory: lemmas and contracts used by the proofs of this seat's laws; each theorem bears its own conditions. -/
import Derived.Test.YtkbcdcffpefklaaGreatH25
namespace Go.Proofs.YtkbcdcffpefklaaGreat
open Go.RowKit
set_option linter.unusedVariables false
set_option linter.unusedSimpArgs false
theorem Zc9 {X:Objs} {i j:Nat} (h:i≠j) (b:Option GObj):(X.upd j b) i=X i:=Yz _ _ h
section
variable {P:Program} {T:K4} {O O' X X':Objs} {n n' k ba:Nat} {E E':Env} {ρ:Nat→Nat}
theorem OutLe.upd2 (hX:OutLe O O' n' X X' n) {i:Nat} {q q':GObj} (h1:Zg9 q q') (h2:G7 O O' n' q.cells q'.cells):OutLe O O' n' (X.upd i (some q)) (X'.upd i (some q')) n:=fun j p' hj h=>by
 by_cases e:j=i
 ·subst e
  rw [Ye] at h
  injection h with h
  subst h
  exact ⟨q,Ye _ _ _,h1,h2⟩
 rw [Yz _ _ e] at h
 obtain ⟨p,g1,g2⟩:=hX j p' hj h
 exact ⟨p,by rw [Yz _ _ e];exact g1,g2⟩
end
def Yfe {α:Type} (xs:List α) (lo:Int) (ys:List α):List α:=xs.take lo.toNat++ys.take (xs.length - lo.toNat)++xs.drop (lo.toNat+ys.length)
theorem Zpw {α:Type} (xs:List α) (lo:Int) (ys:List α):(Yfe xs lo ys).length=xs.length:=by
 unfold Yfe
 rw [List.length_append,List.length_append,List.length_take,List.length_take,List.length_drop]
 omega
end Go.Proofs.YtkbcdcffpefklaaGreat
