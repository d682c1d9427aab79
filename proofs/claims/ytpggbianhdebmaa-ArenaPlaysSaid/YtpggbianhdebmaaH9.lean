/- Part H9 of the ghost memory: lemmas and contracts used by the proofs of this seat's laws; each theorem bears its own conditions. -/
import Derived.Test.YtpggbianhdebmaaH8
namespace Go.Proofs.Ytpggbianhdebmaa
open Go.RowKit
set_option linter.unusedVariables false
set_option linter.unusedSimpArgs false
abbrev Arr (α:Type) (N:Nat):={xs:List α // xs.length=N}
def Arr.put {α:Type} {N:Nat} (a:Arr α N) (i:Int) (x:α):Arr α N:=⟨Yr a.1 i x,by rw [Yr,List.length_set,a.2]⟩
section
variable {α ρ:Type} {N s:Nat} {i:Int} {f:α→List G} {T:X0} {t e:TypeId} {ti:TyI} {r:ρ}
theorem Arr.len (a:Arr α N):a.1.length=N:=a.2
theorem Arr.put_eq (a:Arr α N) (i:Int) (x:α):Yr a.1 i x=(a.put i x).1:=rfl
end
theorem Za (k:Nat):((no_index (OfNat.ofNat k:Nat)):Int)=(OfNat.ofNat k:Int):=rfl
theorem bM2 {α ρ:Type} {r:ρ} {i:Int} {b:Nat} {c:Int} {x:α} {K:List α→Option ρ} (hc:(b:Int)=c) (h:(Zhc b i x).bind K=some r):∃ zs,0≤i∧c * i≤140737488355328∧i≤140737488355328∧zs=List.replicate i.toNat x∧K zs=some r:=by
 subst hc;exact bM h
end Go.Proofs.Ytpggbianhdebmaa
