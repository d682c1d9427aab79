/-
  NARROWER THAN 'FOR EVERY INPUT', by the rows' own cells (each row's printed sentence says how): RebaseTurned: loops · RebaseSelf: loops.
  DERIVED. THE GIVEN ROWS OF THIS SEAT. 2 by the template 'for every input the law returns true; each argument reads behind the call as it read before'; 0 by the template 'total and deterministic' (their statements: YtocpndlnbmjpmaaTotals.lean).
  GIVEN WITH THE SEED: the statements are not yours to turn. If you find one false, say at which input.
  Laid BY PROGRAM, IN A SANDBOX (cutbox-rows.mjs): the forced cells as the released guide's own fill.sh prints them over the translation 9ba80e76c1906cc0… (all of the seat's roots in one cut). By AI agents, Wed Nov 11 2026. No macro, syntax, notation, axiom, sorry.
-/
import Derived.Test.YtocpndlnbmjpmaaChecked
import GoSem.Claim
import GoSem.ClaimJoined
import GoSem.ClaimMapViews
import Derived.JoinedTies
import Derived.KernelRfl
namespace Go.Proofs.Ytocpndlnbmjpmaa
/- THE CELL 'sum', in the pinned program and in every row, IS THE sha256 OF THE DUMP (.gsa) THAT YtocpndlnbmjpmaaProg.lean LOADS. Nothing in Lean hashes anything: it is a label: what it is worth is what the hold of that sum in a sandbox is worth. -/
noncomputable def Try.pinned : Pinned := { name := "ytocpndlnbmjpmaa", sum := "9ba80e76c1906cc025ab55c696ff8416a96d099ec2c30876f1957e20e422f5b9", checked := Try.checked }
namespace Rows
def none {H : Type} : Left H := { results := [], args := [] }

/-- 'centolaw30.RebaseTurned': WHATEVER THE INPUT: true; the input reads as it did. -/
def rebaseTurnedSpec : ChangeSpec := { name := "rebaseTurned", fn := fun _ => fun
  | [d1, d2] => { results := [.lit (.bool true)], args := [d1, d2] }
  | _ => none }
def rebaseTurnedRow : OpenClaim := { program := "ytocpndlnbmjpmaa", sum := "9ba80e76c1906cc025ab55c696ff8416a96d099ec2c30876f1957e20e422f5b9", func := "cento/centolaw30.RebaseTurned", spec := "rebaseTurned", unfollowed := true, recurses := true, loops := true, apart := false }
def RebaseTurnedSaid : Prop := rebaseTurnedRow.holds Try.pinned (OpenSpec.ofChange rebaseTurnedSpec)

/-- ITS FALSE NEIGHBOUR: 'it returns false'. Refute it at one input. -/
def rebaseTurnedWrong : ChangeSpec := { name := "rebaseTurned", fn := fun _ => fun
  | [d1, d2] => { results := [.lit (.bool false)], args := [d1, d2] }
  | _ => none }
def RebaseTurnedWrongFalsely : Prop := rebaseTurnedRow.holds Try.pinned (OpenSpec.ofChange rebaseTurnedWrong)

/-- 'centolaw30.RebaseSelf': WHATEVER THE INPUT: true; the input reads as it did. -/
def rebaseSelfSpec : ChangeSpec := { name := "rebaseSelf", fn := fun _ => fun
  | [d] => { results := [.lit (.bool true)], args := [d] }
  | _ => none }
def rebaseSelfRow : OpenClaim := { program := "ytocpndlnbmjpmaa", sum := "9ba80e76c1906cc025ab55c696ff8416a96d099ec2c30876f1957e20e422f5b9", func := "cento/centolaw30.RebaseSelf", spec := "rebaseSelf", unfollowed := true, recurses := true, loops := true, apart := false }
def RebaseSelfSaid : Prop := rebaseSelfRow.holds Try.pinned (OpenSpec.ofChange rebaseSelfSpec)

/-- ITS FALSE NEIGHBOUR: 'it returns false'. Refute it at one input. -/
def rebaseSelfWrong : ChangeSpec := { name := "rebaseSelf", fn := fun _ => fun
  | [d] => { results := [.lit (.bool false)], args := [d] }
  | _ => none }
def RebaseSelfWrongFalsely : Prop := rebaseSelfRow.holds Try.pinned (OpenSpec.ofChange rebaseSelfWrong)

/- THE SECOND FORM. 'bulk': how many values and letters a reading holds, each counted each time it is reached (what is shared counts as often as it is met; a slice's spare places count too). A statement '..UptoSaid' is the law's where the arguments, and the package variables that the reading takes, are together of bulk at most 1048576: NARROWER than '..Said'. Prove '..Said' where nothing that the law and all that it calls make is longer than what came in: it says more and counts as full. Else prove '..UptoSaid'. A law counts once. -/
mutual
def uptoBulk {H : Type} : DataW H → Nat
  | .lit (.string bytes) => bytes.length + 1
  | .lit _ => 1
  | .nil => 1
  | .ptr d => uptoBulk d + 1
  | .slice elems spare => uptoBulkAll elems + uptoBulkAll spare + 1
  | .agg parts => uptoBulkAll parts + 1
  | .iface _ d => uptoBulk d + 1
  | .map entries => uptoBulkEntries entries + 1
  | .held _ => 1
def uptoBulkAll {H : Type} : List (DataW H) → Nat
  | [] => 0
  | d :: r => uptoBulk d + uptoBulkAll r
def uptoBulkEntries {H : Type} : List (Lit × DataW H) → Nat
  | [] => 0
  | x :: r => uptoBulkEntry x + uptoBulkEntries r
def uptoBulkEntry {H : Type} : Lit × DataW H → Nat
  | (.string bytes, d) => bytes.length + uptoBulk d + 1
  | (_, d) => uptoBulk d + 1
 end
def uptoSmall : (H : Type) → List (DataW H) → Bool := fun _ ds => decide (uptoBulkAll ds ≤ 1048576)
def OpenSpec.upto (s : _root_.Go.ChangeSpec) : _root_.Go.OpenSpec := { _root_.Go.OpenSpec.ofChange s with cond := some uptoSmall }

/-- 'centolaw30.RebaseTurned', WHERE WHAT IT READS IS OF BULK AT MOST 1048576: true; the input reads as it did. -/
def rebaseTurnedUptoRow : OpenClaim := { program := "ytocpndlnbmjpmaa", sum := "9ba80e76c1906cc025ab55c696ff8416a96d099ec2c30876f1957e20e422f5b9", func := "cento/centolaw30.RebaseTurned", spec := "rebaseTurned", unfollowed := true, recurses := true, loops := true, apart := false, narrowed := true }
def RebaseTurnedUptoSaid : Prop := rebaseTurnedUptoRow.holds Try.pinned (OpenSpec.upto rebaseTurnedSpec)

/-- 'centolaw30.RebaseSelf', WHERE WHAT IT READS IS OF BULK AT MOST 1048576: true; the input reads as it did. -/
def rebaseSelfUptoRow : OpenClaim := { program := "ytocpndlnbmjpmaa", sum := "9ba80e76c1906cc025ab55c696ff8416a96d099ec2c30876f1957e20e422f5b9", func := "cento/centolaw30.RebaseSelf", spec := "rebaseSelf", unfollowed := true, recurses := true, loops := true, apart := false, narrowed := true }
def RebaseSelfUptoSaid : Prop := rebaseSelfUptoRow.holds Try.pinned (OpenSpec.upto rebaseSelfSpec)

end Rows
end Go.Proofs.Ytocpndlnbmjpmaa
