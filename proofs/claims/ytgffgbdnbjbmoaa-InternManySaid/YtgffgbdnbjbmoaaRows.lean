/-
  No cell of these rows narrows 'for every input' (looked for: loops, veiled, ifaces, maps, wideKeys, modest, calm, conditions, laid).
  DERIVED. THE GIVEN ROWS OF THIS SEAT. 4 by the template 'for every input the law returns true; each argument reads behind the call as it read before'; 0 by the template 'total and deterministic' (their statements: YtgffgbdnbjbmoaaTotals.lean).
  GIVEN WITH THE SEED: the statements are not yours to turn. If you find one false, say at which input.
  Laid BY PROGRAM, IN A SANDBOX (cutbox-rows.mjs): the forced cells as the released guide's own fill.sh prints them over the translation 6f4b239d2221260f… (all of the seat's roots in one cut). By AI agents, Wed Nov 11 2026. No macro, syntax, notation, axiom, sorry.
-/
import Derived.Test.YtgffgbdnbjbmoaaChecked
import GoSem.Claim
import GoSem.ClaimJoined
import GoSem.ClaimMapViews
import Derived.JoinedTies
import Derived.KernelRfl
namespace Go.Proofs.Ytgffgbdnbjbmoaa
/- THE CELL 'sum', in the pinned program and in every row, IS THE sha256 OF THE DUMP (.gsa) THAT YtgffgbdnbjbmoaaProg.lean LOADS. Nothing in Lean hashes anything: it is a label: what it is worth is what the hold of that sum in a sandbox is worth. -/
noncomputable def Try.pinned : Pinned := { name := "ytgffgbdnbjbmoaa", sum := "6f4b239d2221260f37a292527b868092ff14a2de37150fa7543b8c23f7eb2302", checked := Try.checked }
namespace Rows
def none {H : Type} : Left H := { results := [], args := [] }

/-- 'centolaw15.EqualValues': WHATEVER THE INPUT: true; the input reads as it did. -/
def equalValuesSpec : ChangeSpec := { name := "equalValues", fn := fun _ => fun
  | [d1, d2, d3] => { results := [.lit (.bool true)], args := [d1, d2, d3] }
  | _ => none }
def equalValuesRow : OpenClaim := { program := "ytgffgbdnbjbmoaa", sum := "6f4b239d2221260f37a292527b868092ff14a2de37150fa7543b8c23f7eb2302", func := "cento/centolaw15.EqualValues", spec := "equalValues", unfollowed := true, recurses := true, apart := false }
def EqualValuesSaid : Prop := equalValuesRow.holds Try.pinned (OpenSpec.ofChange equalValuesSpec)

/-- ITS FALSE NEIGHBOUR: 'it returns false'. Refute it at one input. -/
def equalValuesWrong : ChangeSpec := { name := "equalValues", fn := fun _ => fun
  | [d1, d2, d3] => { results := [.lit (.bool false)], args := [d1, d2, d3] }
  | _ => none }
def EqualValuesWrongFalsely : Prop := equalValuesRow.holds Try.pinned (OpenSpec.ofChange equalValuesWrong)

/-- 'centolaw16.InternClasses': WHATEVER THE INPUT: true; the input reads as it did. -/
def internClassesSpec : ChangeSpec := { name := "internClasses", fn := fun _ => fun
  | [d1, d2] => { results := [.lit (.bool true)], args := [d1, d2] }
  | _ => none }
def internClassesRow : OpenClaim := { program := "ytgffgbdnbjbmoaa", sum := "6f4b239d2221260f37a292527b868092ff14a2de37150fa7543b8c23f7eb2302", func := "cento/centolaw16.InternClasses", spec := "internClasses", unfollowed := true, recurses := true, apart := false }
def InternClassesSaid : Prop := internClassesRow.holds Try.pinned (OpenSpec.ofChange internClassesSpec)

/-- ITS FALSE NEIGHBOUR: 'it returns false'. Refute it at one input. -/
def internClassesWrong : ChangeSpec := { name := "internClasses", fn := fun _ => fun
  | [d1, d2] => { results := [.lit (.bool false)], args := [d1, d2] }
  | _ => none }
def InternClassesWrongFalsely : Prop := internClassesRow.holds Try.pinned (OpenSpec.ofChange internClassesWrong)

/-- 'centolaw16.InternMany': WHATEVER THE INPUT: true; the input reads as it did. -/
def internManySpec : ChangeSpec := { name := "internMany", fn := fun _ => fun
  | [d1, d2] => { results := [.lit (.bool true)], args := [d1, d2] }
  | _ => none }
def internManyRow : OpenClaim := { program := "ytgffgbdnbjbmoaa", sum := "6f4b239d2221260f37a292527b868092ff14a2de37150fa7543b8c23f7eb2302", func := "cento/centolaw16.InternMany", spec := "internMany", unfollowed := true, recurses := true, apart := false }
def InternManySaid : Prop := internManyRow.holds Try.pinned (OpenSpec.ofChange internManySpec)

/-- ITS FALSE NEIGHBOUR: 'it returns false'. Refute it at one input. -/
def internManyWrong : ChangeSpec := { name := "internMany", fn := fun _ => fun
  | [d1, d2] => { results := [.lit (.bool false)], args := [d1, d2] }
  | _ => none }
def InternManyWrongFalsely : Prop := internManyRow.holds Try.pinned (OpenSpec.ofChange internManyWrong)

/-- 'centolaw16.InternNone': WHATEVER THE INPUT: true; the input reads as it did. -/
def internNoneSpec : ChangeSpec := { name := "internNone", fn := fun _ => fun
  | [d] => { results := [.lit (.bool true)], args := [d] }
  | _ => none }
def internNoneRow : OpenClaim := { program := "ytgffgbdnbjbmoaa", sum := "6f4b239d2221260f37a292527b868092ff14a2de37150fa7543b8c23f7eb2302", func := "cento/centolaw16.InternNone", spec := "internNone", unfollowed := true, recurses := true, apart := false }
def InternNoneSaid : Prop := internNoneRow.holds Try.pinned (OpenSpec.ofChange internNoneSpec)

/-- ITS FALSE NEIGHBOUR: 'it returns false'. Refute it at one input. -/
def internNoneWrong : ChangeSpec := { name := "internNone", fn := fun _ => fun
  | [d] => { results := [.lit (.bool false)], args := [d] }
  | _ => none }
def InternNoneWrongFalsely : Prop := internNoneRow.holds Try.pinned (OpenSpec.ofChange internNoneWrong)

/- THE SECOND FORM. 'bulk': how many values and letters a reading holds, each counted each time it is reached (what is shared counts as often as it is met; a slice's spare places count too). A statement '..UptoSaid' is the law's where the arguments, and the package variables that the reading takes, are together of bulk at most 1048576: NARROWER than '..Said'. Prove '..Said' where nothing that the law and all that it calls make is longer than what came in: it says more and counts as full. Else prove '..UptoSaid'. A law counts once. -/
mutual
def uptoBulk {H : Type} : DataW H → Nat
  | .lit (.string bytes) => bytes.length + 1
  | .lit _ => 1
  | .nil => 1
  | .ptr d => uptoBulk d + 1
  | .slice elems spare => uptoBulkAll elems + uptoBulkAll spare + 1
  | .agg parts => uptoBulkAll parts + 1
  | .iface _ d => uptoBulk d + 1
  | .map entries => uptoBulkEntries entries + 1
  | .held _ => 1
def uptoBulkAll {H : Type} : List (DataW H) → Nat
  | [] => 0
  | d :: r => uptoBulk d + uptoBulkAll r
def uptoBulkEntries {H : Type} : List (Lit × DataW H) → Nat
  | [] => 0
  | x :: r => uptoBulkEntry x + uptoBulkEntries r
def uptoBulkEntry {H : Type} : Lit × DataW H → Nat
  | (.string bytes, d) => bytes.length + uptoBulk d + 1
  | (_, d) => uptoBulk d + 1
 end
def uptoSmall : (H : Type) → List (DataW H) → Bool := fun _ ds => decide (uptoBulkAll ds ≤ 1048576)
def OpenSpec.upto (s : _root_.Go.ChangeSpec) : _root_.Go.OpenSpec := { _root_.Go.OpenSpec.ofChange s with cond := some uptoSmall }

/-- 'centolaw15.EqualValues', WHERE WHAT IT READS IS OF BULK AT MOST 1048576: true; the input reads as it did. -/
def equalValuesUptoRow : OpenClaim := { program := "ytgffgbdnbjbmoaa", sum := "6f4b239d2221260f37a292527b868092ff14a2de37150fa7543b8c23f7eb2302", func := "cento/centolaw15.EqualValues", spec := "equalValues", unfollowed := true, recurses := true, apart := false, narrowed := true }
def EqualValuesUptoSaid : Prop := equalValuesUptoRow.holds Try.pinned (OpenSpec.upto equalValuesSpec)

/-- 'centolaw16.InternClasses', WHERE WHAT IT READS IS OF BULK AT MOST 1048576: true; the input reads as it did. -/
def internClassesUptoRow : OpenClaim := { program := "ytgffgbdnbjbmoaa", sum := "6f4b239d2221260f37a292527b868092ff14a2de37150fa7543b8c23f7eb2302", func := "cento/centolaw16.InternClasses", spec := "internClasses", unfollowed := true, recurses := true, apart := false, narrowed := true }
def InternClassesUptoSaid : Prop := internClassesUptoRow.holds Try.pinned (OpenSpec.upto internClassesSpec)

/-- 'centolaw16.InternMany', WHERE WHAT IT READS IS OF BULK AT MOST 1048576: true; the input reads as it did. -/
def internManyUptoRow : OpenClaim := { program := "ytgffgbdnbjbmoaa", sum := "6f4b239d2221260f37a292527b868092ff14a2de37150fa7543b8c23f7eb2302", func := "cento/centolaw16.InternMany", spec := "internMany", unfollowed := true, recurses := true, apart := false, narrowed := true }
def InternManyUptoSaid : Prop := internManyUptoRow.holds Try.pinned (OpenSpec.upto internManySpec)

/-- 'centolaw16.InternNone', WHERE WHAT IT READS IS OF BULK AT MOST 1048576: true; the input reads as it did. -/
def internNoneUptoRow : OpenClaim := { program := "ytgffgbdnbjbmoaa", sum := "6f4b239d2221260f37a292527b868092ff14a2de37150fa7543b8c23f7eb2302", func := "cento/centolaw16.InternNone", spec := "internNone", unfollowed := true, recurses := true, apart := false, narrowed := true }
def InternNoneUptoSaid : Prop := internNoneUptoRow.holds Try.pinned (OpenSpec.upto internNoneSpec)

end Rows
end Go.Proofs.Ytgffgbdnbjbmoaa
