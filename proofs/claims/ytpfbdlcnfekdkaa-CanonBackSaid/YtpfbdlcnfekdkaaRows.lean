/-
  NARROWER THAN 'FOR EVERY INPUT', by the rows' own cells (each row's printed sentence says how): CanonEncodes: loops · CanonBack: loops · CanonOne: loops.
  DERIVED. THE GIVEN ROWS OF THIS SEAT. 5 by the template 'for every input the law returns true; each argument reads behind the call as it read before'; 0 by the template 'total and deterministic' (their statements: YtpfbdlcnfekdkaaTotals.lean).
  GIVEN WITH THE SEED: the statements are not yours to turn. If you find one false, say at which input.
  Laid BY PROGRAM, IN A SANDBOX (cutbox-rows.mjs): the forced cells as the released guide's own fill.sh prints them over the translation 2306c431e2c0ec2e… (all of the seat's roots in one cut). By AI agents, Wed Nov 11 2026. No macro, syntax, notation, axiom, sorry.
-/
import Derived.Test.YtpfbdlcnfekdkaaChecked
import GoSem.Claim
import GoSem.ClaimJoined
import GoSem.ClaimMapViews
import Derived.JoinedTies
import Derived.KernelRfl
namespace Go.Proofs.Ytpfbdlcnfekdkaa
/- THE CELL 'sum', in the pinned program and in every row, IS THE sha256 OF THE DUMP (.gsa) THAT YtpfbdlcnfekdkaaProg.lean LOADS. Nothing in Lean hashes anything: it is a label: what it is worth is what the hold of that sum in a sandbox is worth. -/
noncomputable def Try.pinned : Pinned := { name := "ytpfbdlcnfekdkaa", sum := "2306c431e2c0ec2ee4d5a2c8b5e683244f53f5774bbacdeb956ba4a734925027", checked := Try.checked }
namespace Rows
def none {H : Type} : Left H := { results := [], args := [] }

/-- 'centolaw11.UnfoldMoves': WHATEVER THE INPUT: true; the input reads as it did. -/
def unfoldMovesSpec : ChangeSpec := { name := "unfoldMoves", fn := fun _ => fun
  | [d1, d2, d3] => { results := [.lit (.bool true)], args := [d1, d2, d3] }
  | _ => none }
def unfoldMovesRow : OpenClaim := { program := "ytpfbdlcnfekdkaa", sum := "2306c431e2c0ec2ee4d5a2c8b5e683244f53f5774bbacdeb956ba4a734925027", func := "cento/centolaw11.UnfoldMoves", spec := "unfoldMoves", recurses := true, apart := false }
def UnfoldMovesSaid : Prop := unfoldMovesRow.holds Try.pinned (OpenSpec.ofChange unfoldMovesSpec)

/-- ITS FALSE NEIGHBOUR: 'it returns false'. Refute it at one input. -/
def unfoldMovesWrong : ChangeSpec := { name := "unfoldMoves", fn := fun _ => fun
  | [d1, d2, d3] => { results := [.lit (.bool false)], args := [d1, d2, d3] }
  | _ => none }
def UnfoldMovesWrongFalsely : Prop := unfoldMovesRow.holds Try.pinned (OpenSpec.ofChange unfoldMovesWrong)

/-- 'centolaw12.CanonEncodes': WHATEVER THE INPUT: true; the input reads as it did. -/
def canonEncodesSpec : ChangeSpec := { name := "canonEncodes", fn := fun _ => fun
  | [d1, d2] => { results := [.lit (.bool true)], args := [d1, d2] }
  | _ => none }
def canonEncodesRow : OpenClaim := { program := "ytpfbdlcnfekdkaa", sum := "2306c431e2c0ec2ee4d5a2c8b5e683244f53f5774bbacdeb956ba4a734925027", func := "cento/centolaw12.CanonEncodes", spec := "canonEncodes", recurses := true, loops := true, apart := false }
def CanonEncodesSaid : Prop := canonEncodesRow.holds Try.pinned (OpenSpec.ofChange canonEncodesSpec)

/-- ITS FALSE NEIGHBOUR: 'it returns false'. Refute it at one input. -/
def canonEncodesWrong : ChangeSpec := { name := "canonEncodes", fn := fun _ => fun
  | [d1, d2] => { results := [.lit (.bool false)], args := [d1, d2] }
  | _ => none }
def CanonEncodesWrongFalsely : Prop := canonEncodesRow.holds Try.pinned (OpenSpec.ofChange canonEncodesWrong)

/-- 'centolaw12.CanonBack': WHATEVER THE INPUT: true; the input reads as it did. -/
def canonBackSpec : ChangeSpec := { name := "canonBack", fn := fun _ => fun
  | [d] => { results := [.lit (.bool true)], args := [d] }
  | _ => none }
def canonBackRow : OpenClaim := { program := "ytpfbdlcnfekdkaa", sum := "2306c431e2c0ec2ee4d5a2c8b5e683244f53f5774bbacdeb956ba4a734925027", func := "cento/centolaw12.CanonBack", spec := "canonBack", recurses := true, loops := true, apart := false }
def CanonBackSaid : Prop := canonBackRow.holds Try.pinned (OpenSpec.ofChange canonBackSpec)

/-- ITS FALSE NEIGHBOUR: 'it returns false'. Refute it at one input. -/
def canonBackWrong : ChangeSpec := { name := "canonBack", fn := fun _ => fun
  | [d] => { results := [.lit (.bool false)], args := [d] }
  | _ => none }
def CanonBackWrongFalsely : Prop := canonBackRow.holds Try.pinned (OpenSpec.ofChange canonBackWrong)

/-- 'centolaw12.CanonOne': WHATEVER THE INPUT: true; the input reads as it did. -/
def canonOneSpec : ChangeSpec := { name := "canonOne", fn := fun _ => fun
  | [d1, d2] => { results := [.lit (.bool true)], args := [d1, d2] }
  | _ => none }
def canonOneRow : OpenClaim := { program := "ytpfbdlcnfekdkaa", sum := "2306c431e2c0ec2ee4d5a2c8b5e683244f53f5774bbacdeb956ba4a734925027", func := "cento/centolaw12.CanonOne", spec := "canonOne", recurses := true, loops := true, apart := false }
def CanonOneSaid : Prop := canonOneRow.holds Try.pinned (OpenSpec.ofChange canonOneSpec)

/-- ITS FALSE NEIGHBOUR: 'it returns false'. Refute it at one input. -/
def canonOneWrong : ChangeSpec := { name := "canonOne", fn := fun _ => fun
  | [d1, d2] => { results := [.lit (.bool false)], args := [d1, d2] }
  | _ => none }
def CanonOneWrongFalsely : Prop := canonOneRow.holds Try.pinned (OpenSpec.ofChange canonOneWrong)

/-- 'centolaw14.CopyEnds': WHATEVER THE INPUT: true; the input reads as it did. -/
def copyEndsSpec : ChangeSpec := { name := "copyEnds", fn := fun _ => fun
  | [d1, d2, d3] => { results := [.lit (.bool true)], args := [d1, d2, d3] }
  | _ => none }
def copyEndsRow : OpenClaim := { program := "ytpfbdlcnfekdkaa", sum := "2306c431e2c0ec2ee4d5a2c8b5e683244f53f5774bbacdeb956ba4a734925027", func := "cento/centolaw14.CopyEnds", spec := "copyEnds", recurses := true, apart := false }
def CopyEndsSaid : Prop := copyEndsRow.holds Try.pinned (OpenSpec.ofChange copyEndsSpec)

/-- ITS FALSE NEIGHBOUR: 'it returns false'. Refute it at one input. -/
def copyEndsWrong : ChangeSpec := { name := "copyEnds", fn := fun _ => fun
  | [d1, d2, d3] => { results := [.lit (.bool false)], args := [d1, d2, d3] }
  | _ => none }
def CopyEndsWrongFalsely : Prop := copyEndsRow.holds Try.pinned (OpenSpec.ofChange copyEndsWrong)

/- THE SECOND FORM. 'bulk': how many values and letters a reading holds, each counted each time it is reached (what is shared counts as often as it is met; a slice's spare places count too). A statement '..UptoSaid' is the law's where the arguments, and the package variables that the reading takes, are together of bulk at most 1048576: NARROWER than '..Said'. Prove '..Said' where nothing that the law and all that it calls make is longer than what came in: it says more and counts as full. Else prove '..UptoSaid'. A law counts once. -/
mutual
def uptoBulk {H : Type} : DataW H → Nat
  | .lit (.string bytes) => bytes.length + 1
  | .lit _ => 1
  | .nil => 1
  | .ptr d => uptoBulk d + 1
  | .slice elems spare => uptoBulkAll elems + uptoBulkAll spare + 1
  | .agg parts => uptoBulkAll parts + 1
  | .iface _ d => uptoBulk d + 1
  | .map entries => uptoBulkEntries entries + 1
  | .held _ => 1
def uptoBulkAll {H : Type} : List (DataW H) → Nat
  | [] => 0
  | d :: r => uptoBulk d + uptoBulkAll r
def uptoBulkEntries {H : Type} : List (Lit × DataW H) → Nat
  | [] => 0
  | x :: r => uptoBulkEntry x + uptoBulkEntries r
def uptoBulkEntry {H : Type} : Lit × DataW H → Nat
  | (.string bytes, d) => bytes.length + uptoBulk d + 1
  | (_, d) => uptoBulk d + 1
 end
def uptoSmall : (H : Type) → List (DataW H) → Bool := fun _ ds => decide (uptoBulkAll ds ≤ 1048576)
def OpenSpec.upto (s : _root_.Go.ChangeSpec) : _root_.Go.OpenSpec := { _root_.Go.OpenSpec.ofChange s with cond := some uptoSmall }

/-- 'centolaw11.UnfoldMoves', WHERE WHAT IT READS IS OF BULK AT MOST 1048576: true; the input reads as it did. -/
def unfoldMovesUptoRow : OpenClaim := { program := "ytpfbdlcnfekdkaa", sum := "2306c431e2c0ec2ee4d5a2c8b5e683244f53f5774bbacdeb956ba4a734925027", func := "cento/centolaw11.UnfoldMoves", spec := "unfoldMoves", recurses := true, apart := false, narrowed := true }
def UnfoldMovesUptoSaid : Prop := unfoldMovesUptoRow.holds Try.pinned (OpenSpec.upto unfoldMovesSpec)

/-- 'centolaw12.CanonEncodes', WHERE WHAT IT READS IS OF BULK AT MOST 1048576: true; the input reads as it did. -/
def canonEncodesUptoRow : OpenClaim := { program := "ytpfbdlcnfekdkaa", sum := "2306c431e2c0ec2ee4d5a2c8b5e683244f53f5774bbacdeb956ba4a734925027", func := "cento/centolaw12.CanonEncodes", spec := "canonEncodes", recurses := true, loops := true, apart := false, narrowed := true }
def CanonEncodesUptoSaid : Prop := canonEncodesUptoRow.holds Try.pinned (OpenSpec.upto canonEncodesSpec)

/-- 'centolaw12.CanonBack', WHERE WHAT IT READS IS OF BULK AT MOST 1048576: true; the input reads as it did. -/
def canonBackUptoRow : OpenClaim := { program := "ytpfbdlcnfekdkaa", sum := "2306c431e2c0ec2ee4d5a2c8b5e683244f53f5774bbacdeb956ba4a734925027", func := "cento/centolaw12.CanonBack", spec := "canonBack", recurses := true, loops := true, apart := false, narrowed := true }
def CanonBackUptoSaid : Prop := canonBackUptoRow.holds Try.pinned (OpenSpec.upto canonBackSpec)

/-- 'centolaw12.CanonOne', WHERE WHAT IT READS IS OF BULK AT MOST 1048576: true; the input reads as it did. -/
def canonOneUptoRow : OpenClaim := { program := "ytpfbdlcnfekdkaa", sum := "2306c431e2c0ec2ee4d5a2c8b5e683244f53f5774bbacdeb956ba4a734925027", func := "cento/centolaw12.CanonOne", spec := "canonOne", recurses := true, loops := true, apart := false, narrowed := true }
def CanonOneUptoSaid : Prop := canonOneUptoRow.holds Try.pinned (OpenSpec.upto canonOneSpec)

/-- 'centolaw14.CopyEnds', WHERE WHAT IT READS IS OF BULK AT MOST 1048576: true; the input reads as it did. -/
def copyEndsUptoRow : OpenClaim := { program := "ytpfbdlcnfekdkaa", sum := "2306c431e2c0ec2ee4d5a2c8b5e683244f53f5774bbacdeb956ba4a734925027", func := "cento/centolaw14.CopyEnds", spec := "copyEnds", recurses := true, apart := false, narrowed := true }
def CopyEndsUptoSaid : Prop := copyEndsUptoRow.holds Try.pinned (OpenSpec.upto copyEndsSpec)

end Rows
end Go.Proofs.Ytpfbdlcnfekdkaa
