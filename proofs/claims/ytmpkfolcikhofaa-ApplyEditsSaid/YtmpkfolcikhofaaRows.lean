/-
  NARROWER THAN 'FOR EVERY INPUT', by the rows' own cells (each row's printed sentence says how): TreeRight: loops · TreeNorms: loops · TreeEqual: loops · PairScores: loops · EditRight: loops · EditEqual: loops · EditParts: loops · ApplyEdits: loops · ApplyMeans: loops · ApplyApart: loops · ApplySame: loops.
  DERIVED. THE GIVEN ROWS OF THIS SEAT. 12 by the template 'for every input the law returns true; each argument reads behind the call as it read before'; 0 by the template 'total and deterministic' (their statements: YtmpkfolcikhofaaTotals.lean).
  GIVEN WITH THE SEED: the statements are not yours to turn. If you find one false, say at which input.
  Laid BY PROGRAM, IN A SANDBOX (cutbox-rows.mjs): the forced cells as the released guide's own fill.sh prints them over the translation 1af38947f8da391c… (all of the seat's roots in one cut). By AI agents, Wed Nov 11 2026. No macro, syntax, notation, axiom, sorry.
-/
import Derived.Test.YtmpkfolcikhofaaChecked
import GoSem.Claim
import GoSem.ClaimJoined
import GoSem.ClaimMapViews
import Derived.JoinedTies
import Derived.KernelRfl
namespace Go.Proofs.Ytmpkfolcikhofaa
/- THE CELL 'sum', in the pinned program and in every row, IS THE sha256 OF THE DUMP (.gsa) THAT YtmpkfolcikhofaaProg.lean LOADS. Nothing in Lean hashes anything: it is a label: what it is worth is what the hold of that sum in a sandbox is worth. -/
noncomputable def Try.pinned : Pinned := { name := "ytmpkfolcikhofaa", sum := "1af38947f8da391c1147b5f1ce53054249270a41723169286ebefb272951ad2f", checked := Try.checked }
namespace Rows
def none {H : Type} : Left H := { results := [], args := [] }

/-- 'centolaw07.TreeRight': WHATEVER THE INPUT: true; the input reads as it did. -/
def treeRightSpec : ChangeSpec := { name := "treeRight", fn := fun _ => fun
  | [d1, d2] => { results := [.lit (.bool true)], args := [d1, d2] }
  | _ => none }
def treeRightRow : OpenClaim := { program := "ytmpkfolcikhofaa", sum := "1af38947f8da391c1147b5f1ce53054249270a41723169286ebefb272951ad2f", func := "cento/centolaw07.TreeRight", spec := "treeRight", unfollowed := true, recurses := true, loops := true, apart := false }
def TreeRightSaid : Prop := treeRightRow.holds Try.pinned (OpenSpec.ofChange treeRightSpec)

/-- ITS FALSE NEIGHBOUR: 'it returns false'. Refute it at one input. -/
def treeRightWrong : ChangeSpec := { name := "treeRight", fn := fun _ => fun
  | [d1, d2] => { results := [.lit (.bool false)], args := [d1, d2] }
  | _ => none }
def TreeRightWrongFalsely : Prop := treeRightRow.holds Try.pinned (OpenSpec.ofChange treeRightWrong)

/-- 'centolaw07.TreeNorms': WHATEVER THE INPUT: true; the input reads as it did. -/
def treeNormsSpec : ChangeSpec := { name := "treeNorms", fn := fun _ => fun
  | [d] => { results := [.lit (.bool true)], args := [d] }
  | _ => none }
def treeNormsRow : OpenClaim := { program := "ytmpkfolcikhofaa", sum := "1af38947f8da391c1147b5f1ce53054249270a41723169286ebefb272951ad2f", func := "cento/centolaw07.TreeNorms", spec := "treeNorms", unfollowed := true, recurses := true, loops := true, apart := false }
def TreeNormsSaid : Prop := treeNormsRow.holds Try.pinned (OpenSpec.ofChange treeNormsSpec)

/-- ITS FALSE NEIGHBOUR: 'it returns false'. Refute it at one input. -/
def treeNormsWrong : ChangeSpec := { name := "treeNorms", fn := fun _ => fun
  | [d] => { results := [.lit (.bool false)], args := [d] }
  | _ => none }
def TreeNormsWrongFalsely : Prop := treeNormsRow.holds Try.pinned (OpenSpec.ofChange treeNormsWrong)

/-- 'centolaw07.TreeEqual': WHATEVER THE INPUT: true; the input reads as it did. -/
def treeEqualSpec : ChangeSpec := { name := "treeEqual", fn := fun _ => fun
  | [d1, d2] => { results := [.lit (.bool true)], args := [d1, d2] }
  | _ => none }
def treeEqualRow : OpenClaim := { program := "ytmpkfolcikhofaa", sum := "1af38947f8da391c1147b5f1ce53054249270a41723169286ebefb272951ad2f", func := "cento/centolaw07.TreeEqual", spec := "treeEqual", unfollowed := true, recurses := true, loops := true, apart := false }
def TreeEqualSaid : Prop := treeEqualRow.holds Try.pinned (OpenSpec.ofChange treeEqualSpec)

/-- ITS FALSE NEIGHBOUR: 'it returns false'. Refute it at one input. -/
def treeEqualWrong : ChangeSpec := { name := "treeEqual", fn := fun _ => fun
  | [d1, d2] => { results := [.lit (.bool false)], args := [d1, d2] }
  | _ => none }
def TreeEqualWrongFalsely : Prop := treeEqualRow.holds Try.pinned (OpenSpec.ofChange treeEqualWrong)

/-- 'centolaw17.ScriptNormal': WHATEVER THE INPUT: true; the input reads as it did. -/
def scriptNormalSpec : ChangeSpec := { name := "scriptNormal", fn := fun _ => fun
  | [d] => { results := [.lit (.bool true)], args := [d] }
  | _ => none }
def scriptNormalRow : OpenClaim := { program := "ytmpkfolcikhofaa", sum := "1af38947f8da391c1147b5f1ce53054249270a41723169286ebefb272951ad2f", func := "cento/centolaw17.ScriptNormal", spec := "scriptNormal", unfollowed := true, recurses := true, apart := false }
def ScriptNormalSaid : Prop := scriptNormalRow.holds Try.pinned (OpenSpec.ofChange scriptNormalSpec)

/-- ITS FALSE NEIGHBOUR: 'it returns false'. Refute it at one input. -/
def scriptNormalWrong : ChangeSpec := { name := "scriptNormal", fn := fun _ => fun
  | [d] => { results := [.lit (.bool false)], args := [d] }
  | _ => none }
def ScriptNormalWrongFalsely : Prop := scriptNormalRow.holds Try.pinned (OpenSpec.ofChange scriptNormalWrong)

/-- 'centolaw19.PairScores': WHATEVER THE INPUT: true; the input reads as it did. -/
def pairScoresSpec : ChangeSpec := { name := "pairScores", fn := fun _ => fun
  | [d1, d2] => { results := [.lit (.bool true)], args := [d1, d2] }
  | _ => none }
def pairScoresRow : OpenClaim := { program := "ytmpkfolcikhofaa", sum := "1af38947f8da391c1147b5f1ce53054249270a41723169286ebefb272951ad2f", func := "cento/centolaw19.PairScores", spec := "pairScores", unfollowed := true, recurses := true, loops := true, apart := false }
def PairScoresSaid : Prop := pairScoresRow.holds Try.pinned (OpenSpec.ofChange pairScoresSpec)

/-- ITS FALSE NEIGHBOUR: 'it returns false'. Refute it at one input. -/
def pairScoresWrong : ChangeSpec := { name := "pairScores", fn := fun _ => fun
  | [d1, d2] => { results := [.lit (.bool false)], args := [d1, d2] }
  | _ => none }
def PairScoresWrongFalsely : Prop := pairScoresRow.holds Try.pinned (OpenSpec.ofChange pairScoresWrong)

/-- 'centolaw20.EditRight': WHATEVER THE INPUT: true; the input reads as it did. -/
def editRightSpec : ChangeSpec := { name := "editRight", fn := fun _ => fun
  | [d] => { results := [.lit (.bool true)], args := [d] }
  | _ => none }
def editRightRow : OpenClaim := { program := "ytmpkfolcikhofaa", sum := "1af38947f8da391c1147b5f1ce53054249270a41723169286ebefb272951ad2f", func := "cento/centolaw20.EditRight", spec := "editRight", unfollowed := true, recurses := true, loops := true, apart := false }
def EditRightSaid : Prop := editRightRow.holds Try.pinned (OpenSpec.ofChange editRightSpec)

/-- ITS FALSE NEIGHBOUR: 'it returns false'. Refute it at one input. -/
def editRightWrong : ChangeSpec := { name := "editRight", fn := fun _ => fun
  | [d] => { results := [.lit (.bool false)], args := [d] }
  | _ => none }
def EditRightWrongFalsely : Prop := editRightRow.holds Try.pinned (OpenSpec.ofChange editRightWrong)

/-- 'centolaw20.EditEqual': WHATEVER THE INPUT: true; the input reads as it did. -/
def editEqualSpec : ChangeSpec := { name := "editEqual", fn := fun _ => fun
  | [d1, d2] => { results := [.lit (.bool true)], args := [d1, d2] }
  | _ => none }
def editEqualRow : OpenClaim := { program := "ytmpkfolcikhofaa", sum := "1af38947f8da391c1147b5f1ce53054249270a41723169286ebefb272951ad2f", func := "cento/centolaw20.EditEqual", spec := "editEqual", unfollowed := true, recurses := true, loops := true, apart := false }
def EditEqualSaid : Prop := editEqualRow.holds Try.pinned (OpenSpec.ofChange editEqualSpec)

/-- ITS FALSE NEIGHBOUR: 'it returns false'. Refute it at one input. -/
def editEqualWrong : ChangeSpec := { name := "editEqual", fn := fun _ => fun
  | [d1, d2] => { results := [.lit (.bool false)], args := [d1, d2] }
  | _ => none }
def EditEqualWrongFalsely : Prop := editEqualRow.holds Try.pinned (OpenSpec.ofChange editEqualWrong)

/-- 'centolaw20.EditParts': WHATEVER THE INPUT: true; the input reads as it did. -/
def editPartsSpec : ChangeSpec := { name := "editParts", fn := fun _ => fun
  | [d] => { results := [.lit (.bool true)], args := [d] }
  | _ => none }
def editPartsRow : OpenClaim := { program := "ytmpkfolcikhofaa", sum := "1af38947f8da391c1147b5f1ce53054249270a41723169286ebefb272951ad2f", func := "cento/centolaw20.EditParts", spec := "editParts", unfollowed := true, recurses := true, loops := true, apart := false }
def EditPartsSaid : Prop := editPartsRow.holds Try.pinned (OpenSpec.ofChange editPartsSpec)

/-- ITS FALSE NEIGHBOUR: 'it returns false'. Refute it at one input. -/
def editPartsWrong : ChangeSpec := { name := "editParts", fn := fun _ => fun
  | [d] => { results := [.lit (.bool false)], args := [d] }
  | _ => none }
def EditPartsWrongFalsely : Prop := editPartsRow.holds Try.pinned (OpenSpec.ofChange editPartsWrong)

/-- 'centolaw21.ApplyEdits': WHATEVER THE INPUT: true; the input reads as it did. -/
def applyEditsSpec : ChangeSpec := { name := "applyEdits", fn := fun _ => fun
  | [d1, d2] => { results := [.lit (.bool true)], args := [d1, d2] }
  | _ => none }
def applyEditsRow : OpenClaim := { program := "ytmpkfolcikhofaa", sum := "1af38947f8da391c1147b5f1ce53054249270a41723169286ebefb272951ad2f", func := "cento/centolaw21.ApplyEdits", spec := "applyEdits", unfollowed := true, recurses := true, loops := true, apart := false }
def ApplyEditsSaid : Prop := applyEditsRow.holds Try.pinned (OpenSpec.ofChange applyEditsSpec)

/-- ITS FALSE NEIGHBOUR: 'it returns false'. Refute it at one input. -/
def applyEditsWrong : ChangeSpec := { name := "applyEdits", fn := fun _ => fun
  | [d1, d2] => { results := [.lit (.bool false)], args := [d1, d2] }
  | _ => none }
def ApplyEditsWrongFalsely : Prop := applyEditsRow.holds Try.pinned (OpenSpec.ofChange applyEditsWrong)

/-- 'centolaw21.ApplyMeans': WHATEVER THE INPUT: true; the input reads as it did. -/
def applyMeansSpec : ChangeSpec := { name := "applyMeans", fn := fun _ => fun
  | [d1, d2] => { results := [.lit (.bool true)], args := [d1, d2] }
  | _ => none }
def applyMeansRow : OpenClaim := { program := "ytmpkfolcikhofaa", sum := "1af38947f8da391c1147b5f1ce53054249270a41723169286ebefb272951ad2f", func := "cento/centolaw21.ApplyMeans", spec := "applyMeans", unfollowed := true, recurses := true, loops := true, apart := false }
def ApplyMeansSaid : Prop := applyMeansRow.holds Try.pinned (OpenSpec.ofChange applyMeansSpec)

/-- ITS FALSE NEIGHBOUR: 'it returns false'. Refute it at one input. -/
def applyMeansWrong : ChangeSpec := { name := "applyMeans", fn := fun _ => fun
  | [d1, d2] => { results := [.lit (.bool false)], args := [d1, d2] }
  | _ => none }
def ApplyMeansWrongFalsely : Prop := applyMeansRow.holds Try.pinned (OpenSpec.ofChange applyMeansWrong)

/-- 'centolaw21.ApplyApart': WHATEVER THE INPUT: true; the input reads as it did. -/
def applyApartSpec : ChangeSpec := { name := "applyApart", fn := fun _ => fun
  | [d1, d2, d3] => { results := [.lit (.bool true)], args := [d1, d2, d3] }
  | _ => none }
def applyApartRow : OpenClaim := { program := "ytmpkfolcikhofaa", sum := "1af38947f8da391c1147b5f1ce53054249270a41723169286ebefb272951ad2f", func := "cento/centolaw21.ApplyApart", spec := "applyApart", unfollowed := true, recurses := true, loops := true, apart := false }
def ApplyApartSaid : Prop := applyApartRow.holds Try.pinned (OpenSpec.ofChange applyApartSpec)

/-- ITS FALSE NEIGHBOUR: 'it returns false'. Refute it at one input. -/
def applyApartWrong : ChangeSpec := { name := "applyApart", fn := fun _ => fun
  | [d1, d2, d3] => { results := [.lit (.bool false)], args := [d1, d2, d3] }
  | _ => none }
def ApplyApartWrongFalsely : Prop := applyApartRow.holds Try.pinned (OpenSpec.ofChange applyApartWrong)

/-- 'centolaw21.ApplySame': WHATEVER THE INPUT: true; the input reads as it did. -/
def applySameSpec : ChangeSpec := { name := "applySame", fn := fun _ => fun
  | [d1, d2, d3] => { results := [.lit (.bool true)], args := [d1, d2, d3] }
  | _ => none }
def applySameRow : OpenClaim := { program := "ytmpkfolcikhofaa", sum := "1af38947f8da391c1147b5f1ce53054249270a41723169286ebefb272951ad2f", func := "cento/centolaw21.ApplySame", spec := "applySame", unfollowed := true, recurses := true, loops := true, apart := false }
def ApplySameSaid : Prop := applySameRow.holds Try.pinned (OpenSpec.ofChange applySameSpec)

/-- ITS FALSE NEIGHBOUR: 'it returns false'. Refute it at one input. -/
def applySameWrong : ChangeSpec := { name := "applySame", fn := fun _ => fun
  | [d1, d2, d3] => { results := [.lit (.bool false)], args := [d1, d2, d3] }
  | _ => none }
def ApplySameWrongFalsely : Prop := applySameRow.holds Try.pinned (OpenSpec.ofChange applySameWrong)

/- THE SECOND FORM. 'bulk': how many values and letters a reading holds, each counted each time it is reached (what is shared counts as often as it is met; a slice's spare places count too). A statement '..UptoSaid' is the law's where the arguments, and the package variables that the reading takes, are together of bulk at most 1048576: NARROWER than '..Said'. Prove '..Said' where nothing that the law and all that it calls make is longer than what came in: it says more and counts as full. Else prove '..UptoSaid'. A law counts once. -/
mutual
def uptoBulk {H : Type} : DataW H → Nat
  | .lit (.string bytes) => bytes.length + 1
  | .lit _ => 1
  | .nil => 1
  | .ptr d => uptoBulk d + 1
  | .slice elems spare => uptoBulkAll elems + uptoBulkAll spare + 1
  | .agg parts => uptoBulkAll parts + 1
  | .iface _ d => uptoBulk d + 1
  | .map entries => uptoBulkEntries entries + 1
  | .held _ => 1
def uptoBulkAll {H : Type} : List (DataW H) → Nat
  | [] => 0
  | d :: r => uptoBulk d + uptoBulkAll r
def uptoBulkEntries {H : Type} : List (Lit × DataW H) → Nat
  | [] => 0
  | x :: r => uptoBulkEntry x + uptoBulkEntries r
def uptoBulkEntry {H : Type} : Lit × DataW H → Nat
  | (.string bytes, d) => bytes.length + uptoBulk d + 1
  | (_, d) => uptoBulk d + 1
 end
def uptoSmall : (H : Type) → List (DataW H) → Bool := fun _ ds => decide (uptoBulkAll ds ≤ 1048576)
def OpenSpec.upto (s : _root_.Go.ChangeSpec) : _root_.Go.OpenSpec := { _root_.Go.OpenSpec.ofChange s with cond := some uptoSmall }

/-- 'centolaw07.TreeRight', WHERE WHAT IT READS IS OF BULK AT MOST 1048576: true; the input reads as it did. -/
def treeRightUptoRow : OpenClaim := { program := "ytmpkfolcikhofaa", sum := "1af38947f8da391c1147b5f1ce53054249270a41723169286ebefb272951ad2f", func := "cento/centolaw07.TreeRight", spec := "treeRight", unfollowed := true, recurses := true, loops := true, apart := false, narrowed := true }
def TreeRightUptoSaid : Prop := treeRightUptoRow.holds Try.pinned (OpenSpec.upto treeRightSpec)

/-- 'centolaw07.TreeNorms', WHERE WHAT IT READS IS OF BULK AT MOST 1048576: true; the input reads as it did. -/
def treeNormsUptoRow : OpenClaim := { program := "ytmpkfolcikhofaa", sum := "1af38947f8da391c1147b5f1ce53054249270a41723169286ebefb272951ad2f", func := "cento/centolaw07.TreeNorms", spec := "treeNorms", unfollowed := true, recurses := true, loops := true, apart := false, narrowed := true }
def TreeNormsUptoSaid : Prop := treeNormsUptoRow.holds Try.pinned (OpenSpec.upto treeNormsSpec)

/-- 'centolaw07.TreeEqual', WHERE WHAT IT READS IS OF BULK AT MOST 1048576: true; the input reads as it did. -/
def treeEqualUptoRow : OpenClaim := { program := "ytmpkfolcikhofaa", sum := "1af38947f8da391c1147b5f1ce53054249270a41723169286ebefb272951ad2f", func := "cento/centolaw07.TreeEqual", spec := "treeEqual", unfollowed := true, recurses := true, loops := true, apart := false, narrowed := true }
def TreeEqualUptoSaid : Prop := treeEqualUptoRow.holds Try.pinned (OpenSpec.upto treeEqualSpec)

/-- 'centolaw17.ScriptNormal', WHERE WHAT IT READS IS OF BULK AT MOST 1048576: true; the input reads as it did. -/
def scriptNormalUptoRow : OpenClaim := { program := "ytmpkfolcikhofaa", sum := "1af38947f8da391c1147b5f1ce53054249270a41723169286ebefb272951ad2f", func := "cento/centolaw17.ScriptNormal", spec := "scriptNormal", unfollowed := true, recurses := true, apart := false, narrowed := true }
def ScriptNormalUptoSaid : Prop := scriptNormalUptoRow.holds Try.pinned (OpenSpec.upto scriptNormalSpec)

/-- 'centolaw19.PairScores', WHERE WHAT IT READS IS OF BULK AT MOST 1048576: true; the input reads as it did. -/
def pairScoresUptoRow : OpenClaim := { program := "ytmpkfolcikhofaa", sum := "1af38947f8da391c1147b5f1ce53054249270a41723169286ebefb272951ad2f", func := "cento/centolaw19.PairScores", spec := "pairScores", unfollowed := true, recurses := true, loops := true, apart := false, narrowed := true }
def PairScoresUptoSaid : Prop := pairScoresUptoRow.holds Try.pinned (OpenSpec.upto pairScoresSpec)

/-- 'centolaw20.EditRight', WHERE WHAT IT READS IS OF BULK AT MOST 1048576: true; the input reads as it did. -/
def editRightUptoRow : OpenClaim := { program := "ytmpkfolcikhofaa", sum := "1af38947f8da391c1147b5f1ce53054249270a41723169286ebefb272951ad2f", func := "cento/centolaw20.EditRight", spec := "editRight", unfollowed := true, recurses := true, loops := true, apart := false, narrowed := true }
def EditRightUptoSaid : Prop := editRightUptoRow.holds Try.pinned (OpenSpec.upto editRightSpec)

/-- 'centolaw20.EditEqual', WHERE WHAT IT READS IS OF BULK AT MOST 1048576: true; the input reads as it did. -/
def editEqualUptoRow : OpenClaim := { program := "ytmpkfolcikhofaa", sum := "1af38947f8da391c1147b5f1ce53054249270a41723169286ebefb272951ad2f", func := "cento/centolaw20.EditEqual", spec := "editEqual", unfollowed := true, recurses := true, loops := true, apart := false, narrowed := true }
def EditEqualUptoSaid : Prop := editEqualUptoRow.holds Try.pinned (OpenSpec.upto editEqualSpec)

/-- 'centolaw20.EditParts', WHERE WHAT IT READS IS OF BULK AT MOST 1048576: true; the input reads as it did. -/
def editPartsUptoRow : OpenClaim := { program := "ytmpkfolcikhofaa", sum := "1af38947f8da391c1147b5f1ce53054249270a41723169286ebefb272951ad2f", func := "cento/centolaw20.EditParts", spec := "editParts", unfollowed := true, recurses := true, loops := true, apart := false, narrowed := true }
def EditPartsUptoSaid : Prop := editPartsUptoRow.holds Try.pinned (OpenSpec.upto editPartsSpec)

/-- 'centolaw21.ApplyEdits', WHERE WHAT IT READS IS OF BULK AT MOST 1048576: true; the input reads as it did. -/
def applyEditsUptoRow : OpenClaim := { program := "ytmpkfolcikhofaa", sum := "1af38947f8da391c1147b5f1ce53054249270a41723169286ebefb272951ad2f", func := "cento/centolaw21.ApplyEdits", spec := "applyEdits", unfollowed := true, recurses := true, loops := true, apart := false, narrowed := true }
def ApplyEditsUptoSaid : Prop := applyEditsUptoRow.holds Try.pinned (OpenSpec.upto applyEditsSpec)

/-- 'centolaw21.ApplyMeans', WHERE WHAT IT READS IS OF BULK AT MOST 1048576: true; the input reads as it did. -/
def applyMeansUptoRow : OpenClaim := { program := "ytmpkfolcikhofaa", sum := "1af38947f8da391c1147b5f1ce53054249270a41723169286ebefb272951ad2f", func := "cento/centolaw21.ApplyMeans", spec := "applyMeans", unfollowed := true, recurses := true, loops := true, apart := false, narrowed := true }
def ApplyMeansUptoSaid : Prop := applyMeansUptoRow.holds Try.pinned (OpenSpec.upto applyMeansSpec)

/-- 'centolaw21.ApplyApart', WHERE WHAT IT READS IS OF BULK AT MOST 1048576: true; the input reads as it did. -/
def applyApartUptoRow : OpenClaim := { program := "ytmpkfolcikhofaa", sum := "1af38947f8da391c1147b5f1ce53054249270a41723169286ebefb272951ad2f", func := "cento/centolaw21.ApplyApart", spec := "applyApart", unfollowed := true, recurses := true, loops := true, apart := false, narrowed := true }
def ApplyApartUptoSaid : Prop := applyApartUptoRow.holds Try.pinned (OpenSpec.upto applyApartSpec)

/-- 'centolaw21.ApplySame', WHERE WHAT IT READS IS OF BULK AT MOST 1048576: true; the input reads as it did. -/
def applySameUptoRow : OpenClaim := { program := "ytmpkfolcikhofaa", sum := "1af38947f8da391c1147b5f1ce53054249270a41723169286ebefb272951ad2f", func := "cento/centolaw21.ApplySame", spec := "applySame", unfollowed := true, recurses := true, loops := true, apart := false, narrowed := true }
def ApplySameUptoSaid : Prop := applySameUptoRow.holds Try.pinned (OpenSpec.upto applySameSpec)

end Rows
end Go.Proofs.Ytmpkfolcikhofaa
