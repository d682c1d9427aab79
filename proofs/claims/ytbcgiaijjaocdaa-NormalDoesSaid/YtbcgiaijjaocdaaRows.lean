/-
  NARROWER THAN 'FOR EVERY INPUT', by the rows' own cells (each row's printed sentence says how): NormalWrites: loops · NormalDoes: loops · NormalOnce: loops · InvertTurns: loops · InvertBack: loops · InvertTwice: loops · AlignThrough: loops · AlignBehind: loops · AlignWhole: loops · PathGets: loops.
  DERIVED. THE GIVEN ROWS OF THIS SEAT. 12 by the template 'for every input the law returns true; each argument reads behind the call as it read before'; 0 by the template 'total and deterministic' (their statements: YtbcgiaijjaocdaaTotals.lean).
  GIVEN WITH THE SEED: the statements are not yours to turn. If you find one false, say at which input.
  Laid BY PROGRAM, IN A SANDBOX (cutbox-rows.mjs): the forced cells as the released guide's own fill.sh prints them over the translation d19a5a8411649cab… (all of the seat's roots in one cut). By AI agents, Wed Nov 11 2026. No macro, syntax, notation, axiom, sorry.
-/
import Derived.Test.YtbcgiaijjaocdaaChecked
import GoSem.Claim
import GoSem.ClaimJoined
import GoSem.ClaimMapViews
import Derived.JoinedTies
import Derived.KernelRfl
namespace Go.Proofs.Ytbcgiaijjaocdaa
/- THE CELL 'sum', in the pinned program and in every row, IS THE sha256 OF THE DUMP (.gsa) THAT YtbcgiaijjaocdaaProg.lean LOADS. Nothing in Lean hashes anything: it is a label: what it is worth is what the hold of that sum in a sandbox is worth. -/
noncomputable def Try.pinned : Pinned := { name := "ytbcgiaijjaocdaa", sum := "d19a5a8411649cab4accf29e88c520d10da070826b7e20bf6dc4922df076c4f9", checked := Try.checked }
namespace Rows
def none {H : Type} : Left H := { results := [], args := [] }

/-- 'centolaw22.NormalWrites': WHATEVER THE INPUT: true; the input reads as it did. -/
def normalWritesSpec : ChangeSpec := { name := "normalWrites", fn := fun _ => fun
  | [d1, d2] => { results := [.lit (.bool true)], args := [d1, d2] }
  | _ => none }
def normalWritesRow : OpenClaim := { program := "ytbcgiaijjaocdaa", sum := "d19a5a8411649cab4accf29e88c520d10da070826b7e20bf6dc4922df076c4f9", func := "cento/centolaw22.NormalWrites", spec := "normalWrites", recurses := true, loops := true, apart := false }
def NormalWritesSaid : Prop := normalWritesRow.holds Try.pinned (OpenSpec.ofChange normalWritesSpec)

/-- ITS FALSE NEIGHBOUR: 'it returns false'. Refute it at one input. -/
def normalWritesWrong : ChangeSpec := { name := "normalWrites", fn := fun _ => fun
  | [d1, d2] => { results := [.lit (.bool false)], args := [d1, d2] }
  | _ => none }
def NormalWritesWrongFalsely : Prop := normalWritesRow.holds Try.pinned (OpenSpec.ofChange normalWritesWrong)

/-- 'centolaw22.NormalDoes': WHATEVER THE INPUT: true; the input reads as it did. -/
def normalDoesSpec : ChangeSpec := { name := "normalDoes", fn := fun _ => fun
  | [d1, d2] => { results := [.lit (.bool true)], args := [d1, d2] }
  | _ => none }
def normalDoesRow : OpenClaim := { program := "ytbcgiaijjaocdaa", sum := "d19a5a8411649cab4accf29e88c520d10da070826b7e20bf6dc4922df076c4f9", func := "cento/centolaw22.NormalDoes", spec := "normalDoes", unfollowed := true, recurses := true, loops := true, apart := false }
def NormalDoesSaid : Prop := normalDoesRow.holds Try.pinned (OpenSpec.ofChange normalDoesSpec)

/-- ITS FALSE NEIGHBOUR: 'it returns false'. Refute it at one input. -/
def normalDoesWrong : ChangeSpec := { name := "normalDoes", fn := fun _ => fun
  | [d1, d2] => { results := [.lit (.bool false)], args := [d1, d2] }
  | _ => none }
def NormalDoesWrongFalsely : Prop := normalDoesRow.holds Try.pinned (OpenSpec.ofChange normalDoesWrong)

/-- 'centolaw22.NormalOnce': WHATEVER THE INPUT: true; the input reads as it did. -/
def normalOnceSpec : ChangeSpec := { name := "normalOnce", fn := fun _ => fun
  | [d] => { results := [.lit (.bool true)], args := [d] }
  | _ => none }
def normalOnceRow : OpenClaim := { program := "ytbcgiaijjaocdaa", sum := "d19a5a8411649cab4accf29e88c520d10da070826b7e20bf6dc4922df076c4f9", func := "cento/centolaw22.NormalOnce", spec := "normalOnce", recurses := true, loops := true, apart := false }
def NormalOnceSaid : Prop := normalOnceRow.holds Try.pinned (OpenSpec.ofChange normalOnceSpec)

/-- ITS FALSE NEIGHBOUR: 'it returns false'. Refute it at one input. -/
def normalOnceWrong : ChangeSpec := { name := "normalOnce", fn := fun _ => fun
  | [d] => { results := [.lit (.bool false)], args := [d] }
  | _ => none }
def NormalOnceWrongFalsely : Prop := normalOnceRow.holds Try.pinned (OpenSpec.ofChange normalOnceWrong)

/-- 'centolaw23.InvertTurns': WHATEVER THE INPUT: true; the input reads as it did. -/
def invertTurnsSpec : ChangeSpec := { name := "invertTurns", fn := fun _ => fun
  | [d] => { results := [.lit (.bool true)], args := [d] }
  | _ => none }
def invertTurnsRow : OpenClaim := { program := "ytbcgiaijjaocdaa", sum := "d19a5a8411649cab4accf29e88c520d10da070826b7e20bf6dc4922df076c4f9", func := "cento/centolaw23.InvertTurns", spec := "invertTurns", unfollowed := true, recurses := true, loops := true, apart := false }
def InvertTurnsSaid : Prop := invertTurnsRow.holds Try.pinned (OpenSpec.ofChange invertTurnsSpec)

/-- ITS FALSE NEIGHBOUR: 'it returns false'. Refute it at one input. -/
def invertTurnsWrong : ChangeSpec := { name := "invertTurns", fn := fun _ => fun
  | [d] => { results := [.lit (.bool false)], args := [d] }
  | _ => none }
def InvertTurnsWrongFalsely : Prop := invertTurnsRow.holds Try.pinned (OpenSpec.ofChange invertTurnsWrong)

/-- 'centolaw23.InvertBack': WHATEVER THE INPUT: true; the input reads as it did. -/
def invertBackSpec : ChangeSpec := { name := "invertBack", fn := fun _ => fun
  | [d1, d2] => { results := [.lit (.bool true)], args := [d1, d2] }
  | _ => none }
def invertBackRow : OpenClaim := { program := "ytbcgiaijjaocdaa", sum := "d19a5a8411649cab4accf29e88c520d10da070826b7e20bf6dc4922df076c4f9", func := "cento/centolaw23.InvertBack", spec := "invertBack", unfollowed := true, recurses := true, loops := true, apart := false }
def InvertBackSaid : Prop := invertBackRow.holds Try.pinned (OpenSpec.ofChange invertBackSpec)

/-- ITS FALSE NEIGHBOUR: 'it returns false'. Refute it at one input. -/
def invertBackWrong : ChangeSpec := { name := "invertBack", fn := fun _ => fun
  | [d1, d2] => { results := [.lit (.bool false)], args := [d1, d2] }
  | _ => none }
def InvertBackWrongFalsely : Prop := invertBackRow.holds Try.pinned (OpenSpec.ofChange invertBackWrong)

/-- 'centolaw23.InvertTwice': WHATEVER THE INPUT: true; the input reads as it did. -/
def invertTwiceSpec : ChangeSpec := { name := "invertTwice", fn := fun _ => fun
  | [d] => { results := [.lit (.bool true)], args := [d] }
  | _ => none }
def invertTwiceRow : OpenClaim := { program := "ytbcgiaijjaocdaa", sum := "d19a5a8411649cab4accf29e88c520d10da070826b7e20bf6dc4922df076c4f9", func := "cento/centolaw23.InvertTwice", spec := "invertTwice", recurses := true, loops := true, apart := false }
def InvertTwiceSaid : Prop := invertTwiceRow.holds Try.pinned (OpenSpec.ofChange invertTwiceSpec)

/-- ITS FALSE NEIGHBOUR: 'it returns false'. Refute it at one input. -/
def invertTwiceWrong : ChangeSpec := { name := "invertTwice", fn := fun _ => fun
  | [d] => { results := [.lit (.bool false)], args := [d] }
  | _ => none }
def InvertTwiceWrongFalsely : Prop := invertTwiceRow.holds Try.pinned (OpenSpec.ofChange invertTwiceWrong)

/-- 'centolaw24.AlignThrough': WHATEVER THE INPUT: true; the input reads as it did. -/
def alignThroughSpec : ChangeSpec := { name := "alignThrough", fn := fun _ => fun
  | [d1, d2] => { results := [.lit (.bool true)], args := [d1, d2] }
  | _ => none }
def alignThroughRow : OpenClaim := { program := "ytbcgiaijjaocdaa", sum := "d19a5a8411649cab4accf29e88c520d10da070826b7e20bf6dc4922df076c4f9", func := "cento/centolaw24.AlignThrough", spec := "alignThrough", recurses := true, loops := true, apart := false }
def AlignThroughSaid : Prop := alignThroughRow.holds Try.pinned (OpenSpec.ofChange alignThroughSpec)

/-- ITS FALSE NEIGHBOUR: 'it returns false'. Refute it at one input. -/
def alignThroughWrong : ChangeSpec := { name := "alignThrough", fn := fun _ => fun
  | [d1, d2] => { results := [.lit (.bool false)], args := [d1, d2] }
  | _ => none }
def AlignThroughWrongFalsely : Prop := alignThroughRow.holds Try.pinned (OpenSpec.ofChange alignThroughWrong)

/-- 'centolaw24.AlignBehind': WHATEVER THE INPUT: true; the input reads as it did. -/
def alignBehindSpec : ChangeSpec := { name := "alignBehind", fn := fun _ => fun
  | [d1, d2] => { results := [.lit (.bool true)], args := [d1, d2] }
  | _ => none }
def alignBehindRow : OpenClaim := { program := "ytbcgiaijjaocdaa", sum := "d19a5a8411649cab4accf29e88c520d10da070826b7e20bf6dc4922df076c4f9", func := "cento/centolaw24.AlignBehind", spec := "alignBehind", recurses := true, loops := true, apart := false }
def AlignBehindSaid : Prop := alignBehindRow.holds Try.pinned (OpenSpec.ofChange alignBehindSpec)

/-- ITS FALSE NEIGHBOUR: 'it returns false'. Refute it at one input. -/
def alignBehindWrong : ChangeSpec := { name := "alignBehind", fn := fun _ => fun
  | [d1, d2] => { results := [.lit (.bool false)], args := [d1, d2] }
  | _ => none }
def AlignBehindWrongFalsely : Prop := alignBehindRow.holds Try.pinned (OpenSpec.ofChange alignBehindWrong)

/-- 'centolaw24.AlignWhole': WHATEVER THE INPUT: true; the input reads as it did. -/
def alignWholeSpec : ChangeSpec := { name := "alignWhole", fn := fun _ => fun
  | [d1, d2] => { results := [.lit (.bool true)], args := [d1, d2] }
  | _ => none }
def alignWholeRow : OpenClaim := { program := "ytbcgiaijjaocdaa", sum := "d19a5a8411649cab4accf29e88c520d10da070826b7e20bf6dc4922df076c4f9", func := "cento/centolaw24.AlignWhole", spec := "alignWhole", recurses := true, loops := true, apart := false }
def AlignWholeSaid : Prop := alignWholeRow.holds Try.pinned (OpenSpec.ofChange alignWholeSpec)

/-- ITS FALSE NEIGHBOUR: 'it returns false'. Refute it at one input. -/
def alignWholeWrong : ChangeSpec := { name := "alignWhole", fn := fun _ => fun
  | [d1, d2] => { results := [.lit (.bool false)], args := [d1, d2] }
  | _ => none }
def AlignWholeWrongFalsely : Prop := alignWholeRow.holds Try.pinned (OpenSpec.ofChange alignWholeWrong)

/-- 'centolaw25.ComposeWords': WHATEVER THE INPUT: true; the input reads as it did. -/
def composeWordsSpec : ChangeSpec := { name := "composeWords", fn := fun _ => fun
  | [d1, d2] => { results := [.lit (.bool true)], args := [d1, d2] }
  | _ => none }
def composeWordsRow : OpenClaim := { program := "ytbcgiaijjaocdaa", sum := "d19a5a8411649cab4accf29e88c520d10da070826b7e20bf6dc4922df076c4f9", func := "cento/centolaw25.ComposeWords", spec := "composeWords", unfollowed := true, recurses := true, apart := false }
def ComposeWordsSaid : Prop := composeWordsRow.holds Try.pinned (OpenSpec.ofChange composeWordsSpec)

/-- ITS FALSE NEIGHBOUR: 'it returns false'. Refute it at one input. -/
def composeWordsWrong : ChangeSpec := { name := "composeWords", fn := fun _ => fun
  | [d1, d2] => { results := [.lit (.bool false)], args := [d1, d2] }
  | _ => none }
def ComposeWordsWrongFalsely : Prop := composeWordsRow.holds Try.pinned (OpenSpec.ofChange composeWordsWrong)

/-- 'centolaw31.PathGets': WHATEVER THE INPUT: true; the input reads as it did. -/
def pathGetsSpec : ChangeSpec := { name := "pathGets", fn := fun _ => fun
  | [d1, d2] => { results := [.lit (.bool true)], args := [d1, d2] }
  | _ => none }
def pathGetsRow : OpenClaim := { program := "ytbcgiaijjaocdaa", sum := "d19a5a8411649cab4accf29e88c520d10da070826b7e20bf6dc4922df076c4f9", func := "cento/centolaw31.PathGets", spec := "pathGets", unfollowed := true, recurses := true, loops := true, apart := false }
def PathGetsSaid : Prop := pathGetsRow.holds Try.pinned (OpenSpec.ofChange pathGetsSpec)

/-- ITS FALSE NEIGHBOUR: 'it returns false'. Refute it at one input. -/
def pathGetsWrong : ChangeSpec := { name := "pathGets", fn := fun _ => fun
  | [d1, d2] => { results := [.lit (.bool false)], args := [d1, d2] }
  | _ => none }
def PathGetsWrongFalsely : Prop := pathGetsRow.holds Try.pinned (OpenSpec.ofChange pathGetsWrong)

/-- 'centolaw31.PathCompares': WHATEVER THE INPUT: true; the input reads as it did. -/
def pathComparesSpec : ChangeSpec := { name := "pathCompares", fn := fun _ => fun
  | [d1, d2] => { results := [.lit (.bool true)], args := [d1, d2] }
  | _ => none }
def pathComparesRow : OpenClaim := { program := "ytbcgiaijjaocdaa", sum := "d19a5a8411649cab4accf29e88c520d10da070826b7e20bf6dc4922df076c4f9", func := "cento/centolaw31.PathCompares", spec := "pathCompares", unfollowed := true, recurses := true, apart := false }
def PathComparesSaid : Prop := pathComparesRow.holds Try.pinned (OpenSpec.ofChange pathComparesSpec)

/-- ITS FALSE NEIGHBOUR: 'it returns false'. Refute it at one input. -/
def pathComparesWrong : ChangeSpec := { name := "pathCompares", fn := fun _ => fun
  | [d1, d2] => { results := [.lit (.bool false)], args := [d1, d2] }
  | _ => none }
def PathComparesWrongFalsely : Prop := pathComparesRow.holds Try.pinned (OpenSpec.ofChange pathComparesWrong)

/- THE SECOND FORM. 'bulk': how many values and letters a reading holds, each counted each time it is reached (what is shared counts as often as it is met; a slice's spare places count too). A statement '..UptoSaid' is the law's where the arguments, and the package variables that the reading takes, are together of bulk at most 1048576: NARROWER than '..Said'. Prove '..Said' where nothing that the law and all that it calls make is longer than what came in: it says more and counts as full. Else prove '..UptoSaid'. A law counts once. -/
mutual
def uptoBulk {H : Type} : DataW H → Nat
  | .lit (.string bytes) => bytes.length + 1
  | .lit _ => 1
  | .nil => 1
  | .ptr d => uptoBulk d + 1
  | .slice elems spare => uptoBulkAll elems + uptoBulkAll spare + 1
  | .agg parts => uptoBulkAll parts + 1
  | .iface _ d => uptoBulk d + 1
  | .map entries => uptoBulkEntries entries + 1
  | .held _ => 1
def uptoBulkAll {H : Type} : List (DataW H) → Nat
  | [] => 0
  | d :: r => uptoBulk d + uptoBulkAll r
def uptoBulkEntries {H : Type} : List (Lit × DataW H) → Nat
  | [] => 0
  | x :: r => uptoBulkEntry x + uptoBulkEntries r
def uptoBulkEntry {H : Type} : Lit × DataW H → Nat
  | (.string bytes, d) => bytes.length + uptoBulk d + 1
  | (_, d) => uptoBulk d + 1
 end
def uptoSmall : (H : Type) → List (DataW H) → Bool := fun _ ds => decide (uptoBulkAll ds ≤ 1048576)
def OpenSpec.upto (s : _root_.Go.ChangeSpec) : _root_.Go.OpenSpec := { _root_.Go.OpenSpec.ofChange s with cond := some uptoSmall }

/-- 'centolaw22.NormalWrites', WHERE WHAT IT READS IS OF BULK AT MOST 1048576: true; the input reads as it did. -/
def normalWritesUptoRow : OpenClaim := { program := "ytbcgiaijjaocdaa", sum := "d19a5a8411649cab4accf29e88c520d10da070826b7e20bf6dc4922df076c4f9", func := "cento/centolaw22.NormalWrites", spec := "normalWrites", recurses := true, loops := true, apart := false, narrowed := true }
def NormalWritesUptoSaid : Prop := normalWritesUptoRow.holds Try.pinned (OpenSpec.upto normalWritesSpec)

/-- 'centolaw22.NormalDoes', WHERE WHAT IT READS IS OF BULK AT MOST 1048576: true; the input reads as it did. -/
def normalDoesUptoRow : OpenClaim := { program := "ytbcgiaijjaocdaa", sum := "d19a5a8411649cab4accf29e88c520d10da070826b7e20bf6dc4922df076c4f9", func := "cento/centolaw22.NormalDoes", spec := "normalDoes", unfollowed := true, recurses := true, loops := true, apart := false, narrowed := true }
def NormalDoesUptoSaid : Prop := normalDoesUptoRow.holds Try.pinned (OpenSpec.upto normalDoesSpec)

/-- 'centolaw22.NormalOnce', WHERE WHAT IT READS IS OF BULK AT MOST 1048576: true; the input reads as it did. -/
def normalOnceUptoRow : OpenClaim := { program := "ytbcgiaijjaocdaa", sum := "d19a5a8411649cab4accf29e88c520d10da070826b7e20bf6dc4922df076c4f9", func := "cento/centolaw22.NormalOnce", spec := "normalOnce", recurses := true, loops := true, apart := false, narrowed := true }
def NormalOnceUptoSaid : Prop := normalOnceUptoRow.holds Try.pinned (OpenSpec.upto normalOnceSpec)

/-- 'centolaw23.InvertTurns', WHERE WHAT IT READS IS OF BULK AT MOST 1048576: true; the input reads as it did. -/
def invertTurnsUptoRow : OpenClaim := { program := "ytbcgiaijjaocdaa", sum := "d19a5a8411649cab4accf29e88c520d10da070826b7e20bf6dc4922df076c4f9", func := "cento/centolaw23.InvertTurns", spec := "invertTurns", unfollowed := true, recurses := true, loops := true, apart := false, narrowed := true }
def InvertTurnsUptoSaid : Prop := invertTurnsUptoRow.holds Try.pinned (OpenSpec.upto invertTurnsSpec)

/-- 'centolaw23.InvertBack', WHERE WHAT IT READS IS OF BULK AT MOST 1048576: true; the input reads as it did. -/
def invertBackUptoRow : OpenClaim := { program := "ytbcgiaijjaocdaa", sum := "d19a5a8411649cab4accf29e88c520d10da070826b7e20bf6dc4922df076c4f9", func := "cento/centolaw23.InvertBack", spec := "invertBack", unfollowed := true, recurses := true, loops := true, apart := false, narrowed := true }
def InvertBackUptoSaid : Prop := invertBackUptoRow.holds Try.pinned (OpenSpec.upto invertBackSpec)

/-- 'centolaw23.InvertTwice', WHERE WHAT IT READS IS OF BULK AT MOST 1048576: true; the input reads as it did. -/
def invertTwiceUptoRow : OpenClaim := { program := "ytbcgiaijjaocdaa", sum := "d19a5a8411649cab4accf29e88c520d10da070826b7e20bf6dc4922df076c4f9", func := "cento/centolaw23.InvertTwice", spec := "invertTwice", recurses := true, loops := true, apart := false, narrowed := true }
def InvertTwiceUptoSaid : Prop := invertTwiceUptoRow.holds Try.pinned (OpenSpec.upto invertTwiceSpec)

/-- 'centolaw24.AlignThrough', WHERE WHAT IT READS IS OF BULK AT MOST 1048576: true; the input reads as it did. -/
def alignThroughUptoRow : OpenClaim := { program := "ytbcgiaijjaocdaa", sum := "d19a5a8411649cab4accf29e88c520d10da070826b7e20bf6dc4922df076c4f9", func := "cento/centolaw24.AlignThrough", spec := "alignThrough", recurses := true, loops := true, apart := false, narrowed := true }
def AlignThroughUptoSaid : Prop := alignThroughUptoRow.holds Try.pinned (OpenSpec.upto alignThroughSpec)

/-- 'centolaw24.AlignBehind', WHERE WHAT IT READS IS OF BULK AT MOST 1048576: true; the input reads as it did. -/
def alignBehindUptoRow : OpenClaim := { program := "ytbcgiaijjaocdaa", sum := "d19a5a8411649cab4accf29e88c520d10da070826b7e20bf6dc4922df076c4f9", func := "cento/centolaw24.AlignBehind", spec := "alignBehind", recurses := true, loops := true, apart := false, narrowed := true }
def AlignBehindUptoSaid : Prop := alignBehindUptoRow.holds Try.pinned (OpenSpec.upto alignBehindSpec)

/-- 'centolaw24.AlignWhole', WHERE WHAT IT READS IS OF BULK AT MOST 1048576: true; the input reads as it did. -/
def alignWholeUptoRow : OpenClaim := { program := "ytbcgiaijjaocdaa", sum := "d19a5a8411649cab4accf29e88c520d10da070826b7e20bf6dc4922df076c4f9", func := "cento/centolaw24.AlignWhole", spec := "alignWhole", recurses := true, loops := true, apart := false, narrowed := true }
def AlignWholeUptoSaid : Prop := alignWholeUptoRow.holds Try.pinned (OpenSpec.upto alignWholeSpec)

/-- 'centolaw25.ComposeWords', WHERE WHAT IT READS IS OF BULK AT MOST 1048576: true; the input reads as it did. -/
def composeWordsUptoRow : OpenClaim := { program := "ytbcgiaijjaocdaa", sum := "d19a5a8411649cab4accf29e88c520d10da070826b7e20bf6dc4922df076c4f9", func := "cento/centolaw25.ComposeWords", spec := "composeWords", unfollowed := true, recurses := true, apart := false, narrowed := true }
def ComposeWordsUptoSaid : Prop := composeWordsUptoRow.holds Try.pinned (OpenSpec.upto composeWordsSpec)

/-- 'centolaw31.PathGets', WHERE WHAT IT READS IS OF BULK AT MOST 1048576: true; the input reads as it did. -/
def pathGetsUptoRow : OpenClaim := { program := "ytbcgiaijjaocdaa", sum := "d19a5a8411649cab4accf29e88c520d10da070826b7e20bf6dc4922df076c4f9", func := "cento/centolaw31.PathGets", spec := "pathGets", unfollowed := true, recurses := true, loops := true, apart := false, narrowed := true }
def PathGetsUptoSaid : Prop := pathGetsUptoRow.holds Try.pinned (OpenSpec.upto pathGetsSpec)

/-- 'centolaw31.PathCompares', WHERE WHAT IT READS IS OF BULK AT MOST 1048576: true; the input reads as it did. -/
def pathComparesUptoRow : OpenClaim := { program := "ytbcgiaijjaocdaa", sum := "d19a5a8411649cab4accf29e88c520d10da070826b7e20bf6dc4922df076c4f9", func := "cento/centolaw31.PathCompares", spec := "pathCompares", unfollowed := true, recurses := true, apart := false, narrowed := true }
def PathComparesUptoSaid : Prop := pathComparesUptoRow.holds Try.pinned (OpenSpec.upto pathComparesSpec)

end Rows
end Go.Proofs.Ytbcgiaijjaocdaa
