/- Part H26 of the ghost memory: lemmas and contracts used by the proofs of this seat's laws; each theorem bears its own conditions. -/
import Derived.Test.YtibgpnmmgffgeaaH25
namespace Go.Proofs.Ytibgpnmmgffgeaa
open Go.RowKit
set_option linter.unusedVariables false
set_option linter.unusedSimpArgs false
theorem Zbc {X:Objs} {i j:Nat} (h:i≠j) (b:Option GObj):(X.upd j b) i=X i:=Yv _ _ h
section
variable {P:Program} {T:Kv} {O O' X X':Objs} {n n' k ba:Nat} {E E':Env} {ρ:Nat→Nat}
theorem OutLe.upd2 (hX:OutLe O O' n' X X' n) {i:Nat} {q q':GObj} (h1:Zga q q') (h2:U8 O O' n' q.cells q'.cells):OutLe O O' n' (X.upd i (some q)) (X'.upd i (some q')) n:=fun j p' hj h=>by
 by_cases e:j=i
 ·subst e
  rw [Z8] at h
  injection h with h
  subst h
  exact ⟨q,Z8 _ _ _,h1,h2⟩
 rw [Yv _ _ e] at h
 obtain ⟨p,g1,g2⟩:=hX j p' hj h
 exact ⟨p,by rw [Yv _ _ e];exact g1,g2⟩
end
def Ye3 {α:Type} (xs:List α) (lo:Int) (ys:List α):List α:=xs.take lo.toNat++ys.take (xs.length - lo.toNat)++xs.drop (lo.toNat+ys.length)
theorem Zrg {α:Type} (xs:List α) (lo:Int) (ys:List α):(Ye3 xs lo ys).length=xs.length:=by
 unfold Ye3
 rw [List.length_append,List.length_append,List.length_take,List.length_take,List.length_drop]
 omega
end Go.Proofs.Ytibgpnmmgffgeaa
