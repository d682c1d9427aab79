/-
  NARROWER THAN 'FOR EVERY INPUT', by the rows' own cells (each row's printed sentence says how): ComposeMakes: loops · ComposeSome: loops · TopAssociates: loops · TopConverse: loops.
  DERIVED. THE GIVEN ROWS OF THIS SEAT. 5 by the template 'for every input the law returns true; each argument reads behind the call as it read before'; 0 by the template 'total and deterministic' (their statements: YtbjcopkgdjombaaTotals.lean).
  GIVEN WITH THE SEED: the statements are not yours to turn. If you find one false, say at which input.
  Laid BY PROGRAM, IN A SANDBOX (cutbox-rows.mjs): the forced cells as the released guide's own fill.sh prints them over the translation 657426e9061f9cad… (all of the seat's roots in one cut). By AI agents, Wed Nov 11 2026. No macro, syntax, notation, axiom, sorry.
-/
import Derived.Test.YtbjcopkgdjombaaChecked
import GoSem.Claim
import GoSem.ClaimJoined
import GoSem.ClaimMapViews
import Derived.JoinedTies
import Derived.KernelRfl
namespace Go.Proofs.Ytbjcopkgdjombaa
/- THE CELL 'sum', in the pinned program and in every row, IS THE sha256 OF THE DUMP (.gsa) THAT YtbjcopkgdjombaaProg.lean LOADS. Nothing in Lean hashes anything: it is a label: what it is worth is what the hold of that sum in a sandbox is worth. -/
noncomputable def Try.pinned : Pinned := { name := "ytbjcopkgdjombaa", sum := "657426e9061f9cad2ec710d06cca60f8306f2f5ac54b5960e430911f04b348df", checked := Try.checked }
namespace Rows
def none {H : Type} : Left H := { results := [], args := [] }

/-- 'centolaw25.ComposeMakes': WHATEVER THE INPUT: true; the input reads as it did. -/
def composeMakesSpec : ChangeSpec := { name := "composeMakes", fn := fun _ => fun
  | [d1, d2] => { results := [.lit (.bool true)], args := [d1, d2] }
  | _ => none }
def composeMakesRow : OpenClaim := { program := "ytbjcopkgdjombaa", sum := "657426e9061f9cad2ec710d06cca60f8306f2f5ac54b5960e430911f04b348df", func := "cento/centolaw25.ComposeMakes", spec := "composeMakes", unfollowed := true, recurses := true, loops := true, apart := false }
def ComposeMakesSaid : Prop := composeMakesRow.holds Try.pinned (OpenSpec.ofChange composeMakesSpec)

/-- ITS FALSE NEIGHBOUR: 'it returns false'. Refute it at one input. -/
def composeMakesWrong : ChangeSpec := { name := "composeMakes", fn := fun _ => fun
  | [d1, d2] => { results := [.lit (.bool false)], args := [d1, d2] }
  | _ => none }
def ComposeMakesWrongFalsely : Prop := composeMakesRow.holds Try.pinned (OpenSpec.ofChange composeMakesWrong)

/-- 'centolaw25.ComposeSome': WHATEVER THE INPUT: true; the input reads as it did. -/
def composeSomeSpec : ChangeSpec := { name := "composeSome", fn := fun _ => fun
  | [d1, d2] => { results := [.lit (.bool true)], args := [d1, d2] }
  | _ => none }
def composeSomeRow : OpenClaim := { program := "ytbjcopkgdjombaa", sum := "657426e9061f9cad2ec710d06cca60f8306f2f5ac54b5960e430911f04b348df", func := "cento/centolaw25.ComposeSome", spec := "composeSome", unfollowed := true, recurses := true, loops := true, apart := false }
def ComposeSomeSaid : Prop := composeSomeRow.holds Try.pinned (OpenSpec.ofChange composeSomeSpec)

/-- ITS FALSE NEIGHBOUR: 'it returns false'. Refute it at one input. -/
def composeSomeWrong : ChangeSpec := { name := "composeSome", fn := fun _ => fun
  | [d1, d2] => { results := [.lit (.bool false)], args := [d1, d2] }
  | _ => none }
def ComposeSomeWrongFalsely : Prop := composeSomeRow.holds Try.pinned (OpenSpec.ofChange composeSomeWrong)

/-- 'centolaw25.ComposeWords': WHATEVER THE INPUT: true; the input reads as it did. -/
def composeWordsSpec : ChangeSpec := { name := "composeWords", fn := fun _ => fun
  | [d1, d2] => { results := [.lit (.bool true)], args := [d1, d2] }
  | _ => none }
def composeWordsRow : OpenClaim := { program := "ytbjcopkgdjombaa", sum := "657426e9061f9cad2ec710d06cca60f8306f2f5ac54b5960e430911f04b348df", func := "cento/centolaw25.ComposeWords", spec := "composeWords", unfollowed := true, recurses := true, apart := false }
def ComposeWordsSaid : Prop := composeWordsRow.holds Try.pinned (OpenSpec.ofChange composeWordsSpec)

/-- ITS FALSE NEIGHBOUR: 'it returns false'. Refute it at one input. -/
def composeWordsWrong : ChangeSpec := { name := "composeWords", fn := fun _ => fun
  | [d1, d2] => { results := [.lit (.bool false)], args := [d1, d2] }
  | _ => none }
def ComposeWordsWrongFalsely : Prop := composeWordsRow.holds Try.pinned (OpenSpec.ofChange composeWordsWrong)

/-- 'centotop.TopAssociates': WHATEVER THE INPUT: true; the input reads as it did. -/
def topAssociatesSpec : ChangeSpec := { name := "topAssociates", fn := fun _ => fun
  | [d1, d2, d3, d4] => { results := [.lit (.bool true)], args := [d1, d2, d3, d4] }
  | _ => none }
def topAssociatesRow : OpenClaim := { program := "ytbjcopkgdjombaa", sum := "657426e9061f9cad2ec710d06cca60f8306f2f5ac54b5960e430911f04b348df", func := "cento/centotop.TopAssociates", spec := "topAssociates", unfollowed := true, recurses := true, loops := true, apart := false }
def TopAssociatesSaid : Prop := topAssociatesRow.holds Try.pinned (OpenSpec.ofChange topAssociatesSpec)

/-- ITS FALSE NEIGHBOUR: 'it returns false'. Refute it at one input. -/
def topAssociatesWrong : ChangeSpec := { name := "topAssociates", fn := fun _ => fun
  | [d1, d2, d3, d4] => { results := [.lit (.bool false)], args := [d1, d2, d3, d4] }
  | _ => none }
def TopAssociatesWrongFalsely : Prop := topAssociatesRow.holds Try.pinned (OpenSpec.ofChange topAssociatesWrong)

/-- 'centotop.TopConverse': WHATEVER THE INPUT: true; the input reads as it did. -/
def topConverseSpec : ChangeSpec := { name := "topConverse", fn := fun _ => fun
  | [d1, d2, d3] => { results := [.lit (.bool true)], args := [d1, d2, d3] }
  | _ => none }
def topConverseRow : OpenClaim := { program := "ytbjcopkgdjombaa", sum := "657426e9061f9cad2ec710d06cca60f8306f2f5ac54b5960e430911f04b348df", func := "cento/centotop.TopConverse", spec := "topConverse", unfollowed := true, recurses := true, loops := true, apart := false }
def TopConverseSaid : Prop := topConverseRow.holds Try.pinned (OpenSpec.ofChange topConverseSpec)

/-- ITS FALSE NEIGHBOUR: 'it returns false'. Refute it at one input. -/
def topConverseWrong : ChangeSpec := { name := "topConverse", fn := fun _ => fun
  | [d1, d2, d3] => { results := [.lit (.bool false)], args := [d1, d2, d3] }
  | _ => none }
def TopConverseWrongFalsely : Prop := topConverseRow.holds Try.pinned (OpenSpec.ofChange topConverseWrong)

/- THE SECOND FORM. 'bulk': how many values and letters a reading holds, each counted each time it is reached (what is shared counts as often as it is met; a slice's spare places count too). A statement '..UptoSaid' is the law's where the arguments, and the package variables that the reading takes, are together of bulk at most 1048576: NARROWER than '..Said'. Prove '..Said' where nothing that the law and all that it calls make is longer than what came in: it says more and counts as full. Else prove '..UptoSaid'. A law counts once. -/
mutual
def uptoBulk {H : Type} : DataW H → Nat
  | .lit (.string bytes) => bytes.length + 1
  | .lit _ => 1
  | .nil => 1
  | .ptr d => uptoBulk d + 1
  | .slice elems spare => uptoBulkAll elems + uptoBulkAll spare + 1
  | .agg parts => uptoBulkAll parts + 1
  | .iface _ d => uptoBulk d + 1
  | .map entries => uptoBulkEntries entries + 1
  | .held _ => 1
def uptoBulkAll {H : Type} : List (DataW H) → Nat
  | [] => 0
  | d :: r => uptoBulk d + uptoBulkAll r
def uptoBulkEntries {H : Type} : List (Lit × DataW H) → Nat
  | [] => 0
  | x :: r => uptoBulkEntry x + uptoBulkEntries r
def uptoBulkEntry {H : Type} : Lit × DataW H → Nat
  | (.string bytes, d) => bytes.length + uptoBulk d + 1
  | (_, d) => uptoBulk d + 1
 end
def uptoSmall : (H : Type) → List (DataW H) → Bool := fun _ ds => decide (uptoBulkAll ds ≤ 1048576)
def OpenSpec.upto (s : _root_.Go.ChangeSpec) : _root_.Go.OpenSpec := { _root_.Go.OpenSpec.ofChange s with cond := some uptoSmall }

/-- 'centolaw25.ComposeMakes', WHERE WHAT IT READS IS OF BULK AT MOST 1048576: true; the input reads as it did. -/
def composeMakesUptoRow : OpenClaim := { program := "ytbjcopkgdjombaa", sum := "657426e9061f9cad2ec710d06cca60f8306f2f5ac54b5960e430911f04b348df", func := "cento/centolaw25.ComposeMakes", spec := "composeMakes", unfollowed := true, recurses := true, loops := true, apart := false, narrowed := true }
def ComposeMakesUptoSaid : Prop := composeMakesUptoRow.holds Try.pinned (OpenSpec.upto composeMakesSpec)

/-- 'centolaw25.ComposeSome', WHERE WHAT IT READS IS OF BULK AT MOST 1048576: true; the input reads as it did. -/
def composeSomeUptoRow : OpenClaim := { program := "ytbjcopkgdjombaa", sum := "657426e9061f9cad2ec710d06cca60f8306f2f5ac54b5960e430911f04b348df", func := "cento/centolaw25.ComposeSome", spec := "composeSome", unfollowed := true, recurses := true, loops := true, apart := false, narrowed := true }
def ComposeSomeUptoSaid : Prop := composeSomeUptoRow.holds Try.pinned (OpenSpec.upto composeSomeSpec)

/-- 'centolaw25.ComposeWords', WHERE WHAT IT READS IS OF BULK AT MOST 1048576: true; the input reads as it did. -/
def composeWordsUptoRow : OpenClaim := { program := "ytbjcopkgdjombaa", sum := "657426e9061f9cad2ec710d06cca60f8306f2f5ac54b5960e430911f04b348df", func := "cento/centolaw25.ComposeWords", spec := "composeWords", unfollowed := true, recurses := true, apart := false, narrowed := true }
def ComposeWordsUptoSaid : Prop := composeWordsUptoRow.holds Try.pinned (OpenSpec.upto composeWordsSpec)

/-- 'centotop.TopAssociates', WHERE WHAT IT READS IS OF BULK AT MOST 1048576: true; the input reads as it did. -/
def topAssociatesUptoRow : OpenClaim := { program := "ytbjcopkgdjombaa", sum := "657426e9061f9cad2ec710d06cca60f8306f2f5ac54b5960e430911f04b348df", func := "cento/centotop.TopAssociates", spec := "topAssociates", unfollowed := true, recurses := true, loops := true, apart := false, narrowed := true }
def TopAssociatesUptoSaid : Prop := topAssociatesUptoRow.holds Try.pinned (OpenSpec.upto topAssociatesSpec)

/-- 'centotop.TopConverse', WHERE WHAT IT READS IS OF BULK AT MOST 1048576: true; the input reads as it did. -/
def topConverseUptoRow : OpenClaim := { program := "ytbjcopkgdjombaa", sum := "657426e9061f9cad2ec710d06cca60f8306f2f5ac54b5960e430911f04b348df", func := "cento/centotop.TopConverse", spec := "topConverse", unfollowed := true, recurses := true, loops := true, apart := false, narrowed := true }
def TopConverseUptoSaid : Prop := topConverseUptoRow.holds Try.pinned (OpenSpec.upto topConverseSpec)

end Rows
end Go.Proofs.Ytbjcopkgdjombaa
