/- Part H20 of the ghost memory: lemmas and contracts used by the proofs of this seat's laws; each theorem bears its own conditions. -/
import Derived.Test.YtaddaloondpnkaaH19
namespace Go.Proofs.Ytaddaloondpnkaa
open Go.RowKit
set_option linter.unusedVariables false
set_option linter.unusedSimpArgs false
section
variable {P:Program} {T:Qi} {O O' X X':Objs} {n n' k ba:Nat} {E E':Env} {ρ:Nat→Nat}
theorem Und.drop (hU:Und X n) (j:Nat):Und (X.upd j none) n:=by
 refine ⟨fun i hi => ?_,fun i o hi => ?_⟩
 ·by_cases e:i=j
  ·subst e;rw [Zo]
  rw [Zn _ _ e];exact hU.fresh i hi
 by_cases e:i=j
 ·subst e;rw [Zo] at hi;cases hi
 rw [Zn _ _ e] at hi;exact hU.und i o hi
def OutRen (ba:Nat) (ρ:Nat→Nat) (X X':Objs):Prop:=∀ i o',i < ba→X' i=some o'→∃ o,X i=some o∧o'.row=o.row∧o'.ty=o.ty∧o'.sz=o.sz∧o'.n=o.n∧(o'.cells=G.rens ρ o.cells∨(o'.cells=o.cells∧G.unders ba o.cells=true))
theorem OutRen.refl (hU:Und X ba):OutRen ba ρ X X:=fun i o' _ h=>⟨o',h,rfl,rfl,rfl,rfl,.inr ⟨rfl,hU.und i o' h⟩⟩
theorem OutRen.upd (h:OutRen ba ρ X X') {i:Nat} {q q':GObj} (hq:Zla ρ q q'):OutRen ba ρ (X.upd i (some q)) (X'.upd i (some q')):=fun j o' hj ho=>by
 by_cases e:j=i
 ·subst e
  rw [Zo] at ho
  injection ho with ho
  subst ho
  exact ⟨q,Zo _ _ _,hq.1,hq.2.1,hq.2.2.1,hq.2.2.2.1,.inl hq.2.2.2.2⟩
 rw [Zn _ _ e] at ho
 obtain ⟨o,h1,h2⟩:=h j o' hj ho
 exact ⟨o,by rw [Zn _ _ e];exact h1,h2⟩
theorem Zjq {r:G} {rs:List ResultVar} {n1 n3:Nat} {L2 L3:List (Option GObj)} {e:Exit} {E2:Env} {O1:Objs} (he:e = .normal∨e = .ret) (hU:Und X n) (hk:L2.length=k) (gs:List G)
  (hF:Fit2 n E O1 n1 E2 (Zw X n L3) n3)
  (h:Zfh T (Zw X n L3) E2 rs=some gs∧Zkw (Zw X n L3) (Zw X n L2) (n+k) L3 L2∧wk (Zw X n L3) (Zw X n L2) (n+k) (Zjt gs) r) :
  Fin T rs r n (Zw X n L2) (n+k) e E O1 n1 :=
 ⟨he,E2,_,n3,gs,hF,h.1,Zqc hk (OutLe.refl hU (Nat.le_add_right _ _)) h.2.1,h.2.2⟩
end
end Go.Proofs.Ytaddaloondpnkaa
