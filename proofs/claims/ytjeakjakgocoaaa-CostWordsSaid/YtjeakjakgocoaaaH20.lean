/- Part H20 of the ghost memory: lemmas and contracts used by the proofs of this seat's laws; each theorem bears its own conditions. -/
import Derived.Test.YtjeakjakgocoaaaH19
import Derived.WalkKit
import Derived.WalkSpells
import Derived.WalkLawsBesides
import Derived.Lib.Hide
import Derived.BigQuiet
import Derived.StillTailTactics
import Derived.Deep.RegionHeld3
import Derived.Deep.AppendLies
import Derived.Laws.CopyOwn
import Derived.Deep.DeepCutAuto
import Derived.Deep.QuietTactic
import Derived.Maps.AppendAt
import Derived.Great.BuildSlice
import Derived.Laws.StructEq
import Derived.IntWalk
import Derived.ProofKit
import Derived.OpenShut
import Derived.SizedLaws
import Derived.Deep.Slices
namespace Go.Proofs.Ytjeakjakgocoaaa
open Go.RowKit
set_option linter.unusedVariables false
set_option linter.unusedSimpArgs false
section
variable {P:Program} {T:Qy} {O O' X X':Objs} {n n' k ba:Nat} {E E':Env} {ρ:Nat→Nat}
theorem Und.drop (hU:Und X n) (j:Nat):Und (X.upd j none) n:=by
 refine ⟨fun i hi => ?_,fun i o hi => ?_⟩
 ·by_cases e:i=j
  ·subst e;rw [Qe]
  rw [Ke _ _ e];exact hU.fresh i hi
 by_cases e:i=j
 ·subst e;rw [Qe] at hi;cases hi
 rw [Ke _ _ e] at hi;exact hU.und i o hi
def OutRen (ba:Nat) (ρ:Nat→Nat) (X X':Objs):Prop:=∀ i o',i < ba→X' i=some o'→∃ o,X i=some o∧o'.row=o.row∧o'.ty=o.ty∧o'.sz=o.sz∧o'.n=o.n∧(o'.cells=G.rens ρ o.cells∨(o'.cells=o.cells∧G.unders ba o.cells=true))
theorem OutRen.refl (hU:Und X ba):OutRen ba ρ X X:=fun i o' _ h=>⟨o',h,rfl,rfl,rfl,rfl,.inr ⟨rfl,hU.und i o' h⟩⟩
theorem OutRen.upd (h:OutRen ba ρ X X') {i:Nat} {q q':GObj} (hq:Zpu ρ q q'):OutRen ba ρ (X.upd i (some q)) (X'.upd i (some q')):=fun j o' hj ho=>by
 by_cases e:j=i
 ·subst e
  rw [Qe] at ho
  injection ho with ho
  subst ho
  exact ⟨q,Qe _ _ _,hq.1,hq.2.1,hq.2.2.1,hq.2.2.2.1,.inl hq.2.2.2.2⟩
 rw [Ke _ _ e] at ho
 obtain ⟨o,h1,h2⟩:=h j o' hj ho
 exact ⟨o,by rw [Ke _ _ e];exact h1,h2⟩
end
end Go.Proofs.Ytjeakjakgocoaaa
