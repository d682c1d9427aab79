/-
  NARROWER THAN 'FOR EVERY INPUT', by the rows' own cells (each row's printed sentence says how): CanonEncodes: loops.
  DERIVED. THE GIVEN ROWS OF THIS SEAT. 2 by the template 'for every input the law returns true; each argument reads behind the call as it read before'; 0 by the template 'total and deterministic' (their statements: YtnapihlnlajlpaaTotals.lean).
  GIVEN WITH THE SEED: the statements are not yours to turn. If you find one false, say at which input.
  Laid BY PROGRAM, IN A SANDBOX (cutbox-rows.mjs): the forced cells as the released guide's own fill.sh prints them over the translation 59bf4c732a09dbe8… (all of the seat's roots in one cut). By AI agents, Wed Nov 11 2026. No macro, syntax, notation, axiom, sorry.
-/
import Derived.Test.YtnapihlnlajlpaaChecked
import GoSem.Claim
import GoSem.ClaimJoined
import GoSem.ClaimMapViews
import Derived.JoinedTies
import Derived.KernelRfl
namespace Go.Proofs.Ytnapihlnlajlpaa
/- THE CELL 'sum', in the pinned program and in every row, IS THE sha256 OF THE DUMP (.gsa) THAT YtnapihlnlajlpaaProg.lean LOADS. Nothing in Lean hashes anything: it is a label: what it is worth is what the hold of that sum in a sandbox is worth. -/
noncomputable def Try.pinned : Pinned := { name := "ytnapihlnlajlpaa", sum := "59bf4c732a09dbe8c2b0675ce506c1123669f92867e9c6a304210d78791d39ea", checked := Try.checked }
namespace Rows
def none {H : Type} : Left H := { results := [], args := [] }

/-- 'centolaw12.CanonEncodes': WHATEVER THE INPUT: true; the input reads as it did. -/
def canonEncodesSpec : ChangeSpec := { name := "canonEncodes", fn := fun _ => fun
  | [d1, d2] => { results := [.lit (.bool true)], args := [d1, d2] }
  | _ => none }
def canonEncodesRow : OpenClaim := { program := "ytnapihlnlajlpaa", sum := "59bf4c732a09dbe8c2b0675ce506c1123669f92867e9c6a304210d78791d39ea", func := "cento/centolaw12.CanonEncodes", spec := "canonEncodes", recurses := true, loops := true, apart := false }
def CanonEncodesSaid : Prop := canonEncodesRow.holds Try.pinned (OpenSpec.ofChange canonEncodesSpec)

/-- ITS FALSE NEIGHBOUR: 'it returns false'. Refute it at one input. -/
def canonEncodesWrong : ChangeSpec := { name := "canonEncodes", fn := fun _ => fun
  | [d1, d2] => { results := [.lit (.bool false)], args := [d1, d2] }
  | _ => none }
def CanonEncodesWrongFalsely : Prop := canonEncodesRow.holds Try.pinned (OpenSpec.ofChange canonEncodesWrong)

/-- 'centolaw14.CopyWords': WHATEVER THE INPUT: true; the input reads as it did. -/
def copyWordsSpec : ChangeSpec := { name := "copyWords", fn := fun _ => fun
  | [d1, d2, d3] => { results := [.lit (.bool true)], args := [d1, d2, d3] }
  | _ => none }
def copyWordsRow : OpenClaim := { program := "ytnapihlnlajlpaa", sum := "59bf4c732a09dbe8c2b0675ce506c1123669f92867e9c6a304210d78791d39ea", func := "cento/centolaw14.CopyWords", spec := "copyWords", recurses := true, apart := false }
def CopyWordsSaid : Prop := copyWordsRow.holds Try.pinned (OpenSpec.ofChange copyWordsSpec)

/-- ITS FALSE NEIGHBOUR: 'it returns false'. Refute it at one input. -/
def copyWordsWrong : ChangeSpec := { name := "copyWords", fn := fun _ => fun
  | [d1, d2, d3] => { results := [.lit (.bool false)], args := [d1, d2, d3] }
  | _ => none }
def CopyWordsWrongFalsely : Prop := copyWordsRow.holds Try.pinned (OpenSpec.ofChange copyWordsWrong)

/- THE SECOND FORM. 'bulk': how many values and letters a reading holds, each counted each time it is reached (what is shared counts as often as it is met; a slice's spare places count too). A statement '..UptoSaid' is the law's where the arguments, and the package variables that the reading takes, are together of bulk at most 1048576: NARROWER than '..Said'. Prove '..Said' where nothing that the law and all that it calls make is longer than what came in: it says more and counts as full. Else prove '..UptoSaid'. A law counts once. -/
mutual
def uptoBulk {H : Type} : DataW H → Nat
  | .lit (.string bytes) => bytes.length + 1
  | .lit _ => 1
  | .nil => 1
  | .ptr d => uptoBulk d + 1
  | .slice elems spare => uptoBulkAll elems + uptoBulkAll spare + 1
  | .agg parts => uptoBulkAll parts + 1
  | .iface _ d => uptoBulk d + 1
  | .map entries => uptoBulkEntries entries + 1
  | .held _ => 1
def uptoBulkAll {H : Type} : List (DataW H) → Nat
  | [] => 0
  | d :: r => uptoBulk d + uptoBulkAll r
def uptoBulkEntries {H : Type} : List (Lit × DataW H) → Nat
  | [] => 0
  | x :: r => uptoBulkEntry x + uptoBulkEntries r
def uptoBulkEntry {H : Type} : Lit × DataW H → Nat
  | (.string bytes, d) => bytes.length + uptoBulk d + 1
  | (_, d) => uptoBulk d + 1
 end
def uptoSmall : (H : Type) → List (DataW H) → Bool := fun _ ds => decide (uptoBulkAll ds ≤ 1048576)
def OpenSpec.upto (s : _root_.Go.ChangeSpec) : _root_.Go.OpenSpec := { _root_.Go.OpenSpec.ofChange s with cond := some uptoSmall }

/-- 'centolaw12.CanonEncodes', WHERE WHAT IT READS IS OF BULK AT MOST 1048576: true; the input reads as it did. -/
def canonEncodesUptoRow : OpenClaim := { program := "ytnapihlnlajlpaa", sum := "59bf4c732a09dbe8c2b0675ce506c1123669f92867e9c6a304210d78791d39ea", func := "cento/centolaw12.CanonEncodes", spec := "canonEncodes", recurses := true, loops := true, apart := false, narrowed := true }
def CanonEncodesUptoSaid : Prop := canonEncodesUptoRow.holds Try.pinned (OpenSpec.upto canonEncodesSpec)

/-- 'centolaw14.CopyWords', WHERE WHAT IT READS IS OF BULK AT MOST 1048576: true; the input reads as it did. -/
def copyWordsUptoRow : OpenClaim := { program := "ytnapihlnlajlpaa", sum := "59bf4c732a09dbe8c2b0675ce506c1123669f92867e9c6a304210d78791d39ea", func := "cento/centolaw14.CopyWords", spec := "copyWords", recurses := true, apart := false, narrowed := true }
def CopyWordsUptoSaid : Prop := copyWordsUptoRow.holds Try.pinned (OpenSpec.upto copyWordsSpec)

end Rows
end Go.Proofs.Ytnapihlnlajlpaa
