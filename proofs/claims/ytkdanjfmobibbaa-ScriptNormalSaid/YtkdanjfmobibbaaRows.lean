/-
  No cell of these rows narrows 'for every input' (looked for: loops, veiled, ifaces, maps, wideKeys, modest, calm, conditions, laid).
  DERIVED. THE GIVEN ROWS OF THIS SEAT. 12 by the template 'for every input the law returns true; each argument reads behind the call as it read before'; 0 by the template 'total and deterministic' (their statements: YtkdanjfmobibbaaTotals.lean).
  GIVEN WITH THE SEED: the statements are not yours to turn. If you find one false, say at which input.
  Laid BY PROGRAM, IN A SANDBOX (cutbox-rows.mjs): the forced cells as the released guide's own fill.sh prints them over the translation de8d16d546afa9ec… (all of the seat's roots in one cut). By AI agents, Wed Nov 11 2026. No macro, syntax, notation, axiom, sorry.
-/
import Derived.Test.YtkdanjfmobibbaaChecked
import GoSem.Claim
import GoSem.ClaimJoined
import GoSem.ClaimMapViews
import Derived.JoinedTies
import Derived.KernelRfl
namespace Go.Proofs.Ytkdanjfmobibbaa
/- THE CELL 'sum', in the pinned program and in every row, IS THE sha256 OF THE DUMP (.gsa) THAT YtkdanjfmobibbaaProg.lean LOADS. Nothing in Lean hashes anything: it is a label: what it is worth is what the hold of that sum in a sandbox is worth. -/
noncomputable def Try.pinned : Pinned := { name := "ytkdanjfmobibbaa", sum := "de8d16d546afa9ece286ccd8dbda51f992ebe6d794d64955b44acbfe8198b132", checked := Try.checked }
namespace Rows
def none {H : Type} : Left H := { results := [], args := [] }

/-- 'centolaw05.ArenaApart': WHATEVER THE INPUT: true; the input reads as it did. -/
def arenaApartSpec : ChangeSpec := { name := "arenaApart", fn := fun _ => fun
  | [d1, d2, d3] => { results := [.lit (.bool true)], args := [d1, d2, d3] }
  | _ => none }
def arenaApartRow : OpenClaim := { program := "ytkdanjfmobibbaa", sum := "de8d16d546afa9ece286ccd8dbda51f992ebe6d794d64955b44acbfe8198b132", func := "cento/centolaw05.ArenaApart", spec := "arenaApart", apart := false }
def ArenaApartSaid : Prop := arenaApartRow.holds Try.pinned (OpenSpec.ofChange arenaApartSpec)

/-- ITS FALSE NEIGHBOUR: 'it returns false'. Refute it at one input. -/
def arenaApartWrong : ChangeSpec := { name := "arenaApart", fn := fun _ => fun
  | [d1, d2, d3] => { results := [.lit (.bool false)], args := [d1, d2, d3] }
  | _ => none }
def ArenaApartWrongFalsely : Prop := arenaApartRow.holds Try.pinned (OpenSpec.ofChange arenaApartWrong)

/-- 'centolaw05.ArenaNone': WHATEVER THE INPUT: true; the input reads as it did. -/
def arenaNoneSpec : ChangeSpec := { name := "arenaNone", fn := fun _ => fun
  | [d] => { results := [.lit (.bool true)], args := [d] }
  | _ => none }
def arenaNoneRow : OpenClaim := { program := "ytkdanjfmobibbaa", sum := "de8d16d546afa9ece286ccd8dbda51f992ebe6d794d64955b44acbfe8198b132", func := "cento/centolaw05.ArenaNone", spec := "arenaNone", apart := false }
def ArenaNoneSaid : Prop := arenaNoneRow.holds Try.pinned (OpenSpec.ofChange arenaNoneSpec)

/-- ITS FALSE NEIGHBOUR: 'it returns false'. Refute it at one input. -/
def arenaNoneWrong : ChangeSpec := { name := "arenaNone", fn := fun _ => fun
  | [d] => { results := [.lit (.bool false)], args := [d] }
  | _ => none }
def ArenaNoneWrongFalsely : Prop := arenaNoneRow.holds Try.pinned (OpenSpec.ofChange arenaNoneWrong)

/-- 'centolaw17.ScriptNormal': WHATEVER THE INPUT: true; the input reads as it did. -/
def scriptNormalSpec : ChangeSpec := { name := "scriptNormal", fn := fun _ => fun
  | [d] => { results := [.lit (.bool true)], args := [d] }
  | _ => none }
def scriptNormalRow : OpenClaim := { program := "ytkdanjfmobibbaa", sum := "de8d16d546afa9ece286ccd8dbda51f992ebe6d794d64955b44acbfe8198b132", func := "cento/centolaw17.ScriptNormal", spec := "scriptNormal", unfollowed := true, recurses := true, apart := false }
def ScriptNormalSaid : Prop := scriptNormalRow.holds Try.pinned (OpenSpec.ofChange scriptNormalSpec)

/-- ITS FALSE NEIGHBOUR: 'it returns false'. Refute it at one input. -/
def scriptNormalWrong : ChangeSpec := { name := "scriptNormal", fn := fun _ => fun
  | [d] => { results := [.lit (.bool false)], args := [d] }
  | _ => none }
def ScriptNormalWrongFalsely : Prop := scriptNormalRow.holds Try.pinned (OpenSpec.ofChange scriptNormalWrong)

/-- 'centolaw18.LcsDiffs': WHATEVER THE INPUT: true; the input reads as it did. -/
def lcsDiffsSpec : ChangeSpec := { name := "lcsDiffs", fn := fun _ => fun
  | [d1, d2, d3] => { results := [.lit (.bool true)], args := [d1, d2, d3] }
  | _ => none }
def lcsDiffsRow : OpenClaim := { program := "ytkdanjfmobibbaa", sum := "de8d16d546afa9ece286ccd8dbda51f992ebe6d794d64955b44acbfe8198b132", func := "cento/centolaw18.LcsDiffs", spec := "lcsDiffs", unfollowed := true, recurses := true, apart := false }
def LcsDiffsSaid : Prop := lcsDiffsRow.holds Try.pinned (OpenSpec.ofChange lcsDiffsSpec)

/-- ITS FALSE NEIGHBOUR: 'it returns false'. Refute it at one input. -/
def lcsDiffsWrong : ChangeSpec := { name := "lcsDiffs", fn := fun _ => fun
  | [d1, d2, d3] => { results := [.lit (.bool false)], args := [d1, d2, d3] }
  | _ => none }
def LcsDiffsWrongFalsely : Prop := lcsDiffsRow.holds Try.pinned (OpenSpec.ofChange lcsDiffsWrong)

/-- 'centolaw18.LcsDistance': WHATEVER THE INPUT: true; the input reads as it did. -/
def lcsDistanceSpec : ChangeSpec := { name := "lcsDistance", fn := fun _ => fun
  | [d1, d2, d3] => { results := [.lit (.bool true)], args := [d1, d2, d3] }
  | _ => none }
def lcsDistanceRow : OpenClaim := { program := "ytkdanjfmobibbaa", sum := "de8d16d546afa9ece286ccd8dbda51f992ebe6d794d64955b44acbfe8198b132", func := "cento/centolaw18.LcsDistance", spec := "lcsDistance", unfollowed := true, recurses := true, apart := false }
def LcsDistanceSaid : Prop := lcsDistanceRow.holds Try.pinned (OpenSpec.ofChange lcsDistanceSpec)

/-- ITS FALSE NEIGHBOUR: 'it returns false'. Refute it at one input. -/
def lcsDistanceWrong : ChangeSpec := { name := "lcsDistance", fn := fun _ => fun
  | [d1, d2, d3] => { results := [.lit (.bool false)], args := [d1, d2, d3] }
  | _ => none }
def LcsDistanceWrongFalsely : Prop := lcsDistanceRow.holds Try.pinned (OpenSpec.ofChange lcsDistanceWrong)

/-- 'centolaw18.LcsKeeps': WHATEVER THE INPUT: true; the input reads as it did. -/
def lcsKeepsSpec : ChangeSpec := { name := "lcsKeeps", fn := fun _ => fun
  | [d1, d2] => { results := [.lit (.bool true)], args := [d1, d2] }
  | _ => none }
def lcsKeepsRow : OpenClaim := { program := "ytkdanjfmobibbaa", sum := "de8d16d546afa9ece286ccd8dbda51f992ebe6d794d64955b44acbfe8198b132", func := "cento/centolaw18.LcsKeeps", spec := "lcsKeeps", unfollowed := true, recurses := true, apart := false }
def LcsKeepsSaid : Prop := lcsKeepsRow.holds Try.pinned (OpenSpec.ofChange lcsKeepsSpec)

/-- ITS FALSE NEIGHBOUR: 'it returns false'. Refute it at one input. -/
def lcsKeepsWrong : ChangeSpec := { name := "lcsKeeps", fn := fun _ => fun
  | [d1, d2] => { results := [.lit (.bool false)], args := [d1, d2] }
  | _ => none }
def LcsKeepsWrongFalsely : Prop := lcsKeepsRow.holds Try.pinned (OpenSpec.ofChange lcsKeepsWrong)

/-- 'centolaw18.LcsNoMore': WHATEVER THE INPUT: true; the input reads as it did. -/
def lcsNoMoreSpec : ChangeSpec := { name := "lcsNoMore", fn := fun _ => fun
  | [d1, d2, d3] => { results := [.lit (.bool true)], args := [d1, d2, d3] }
  | _ => none }
def lcsNoMoreRow : OpenClaim := { program := "ytkdanjfmobibbaa", sum := "de8d16d546afa9ece286ccd8dbda51f992ebe6d794d64955b44acbfe8198b132", func := "cento/centolaw18.LcsNoMore", spec := "lcsNoMore", unfollowed := true, recurses := true, apart := false }
def LcsNoMoreSaid : Prop := lcsNoMoreRow.holds Try.pinned (OpenSpec.ofChange lcsNoMoreSpec)

/-- ITS FALSE NEIGHBOUR: 'it returns false'. Refute it at one input. -/
def lcsNoMoreWrong : ChangeSpec := { name := "lcsNoMore", fn := fun _ => fun
  | [d1, d2, d3] => { results := [.lit (.bool false)], args := [d1, d2, d3] }
  | _ => none }
def LcsNoMoreWrongFalsely : Prop := lcsNoMoreRow.holds Try.pinned (OpenSpec.ofChange lcsNoMoreWrong)

/-- 'centolaw19.PairPicks': WHATEVER THE INPUT: true; the input reads as it did. -/
def pairPicksSpec : ChangeSpec := { name := "pairPicks", fn := fun _ => fun
  | [d] => { results := [.lit (.bool true)], args := [d] }
  | _ => none }
def pairPicksRow : OpenClaim := { program := "ytkdanjfmobibbaa", sum := "de8d16d546afa9ece286ccd8dbda51f992ebe6d794d64955b44acbfe8198b132", func := "cento/centolaw19.PairPicks", spec := "pairPicks", unfollowed := true, recurses := true, apart := false }
def PairPicksSaid : Prop := pairPicksRow.holds Try.pinned (OpenSpec.ofChange pairPicksSpec)

/-- ITS FALSE NEIGHBOUR: 'it returns false'. Refute it at one input. -/
def pairPicksWrong : ChangeSpec := { name := "pairPicks", fn := fun _ => fun
  | [d] => { results := [.lit (.bool false)], args := [d] }
  | _ => none }
def PairPicksWrongFalsely : Prop := pairPicksRow.holds Try.pinned (OpenSpec.ofChange pairPicksWrong)

/-- 'centolaw19.PairRises': WHATEVER THE INPUT: true; the input reads as it did. -/
def pairRisesSpec : ChangeSpec := { name := "pairRises", fn := fun _ => fun
  | [d] => { results := [.lit (.bool true)], args := [d] }
  | _ => none }
def pairRisesRow : OpenClaim := { program := "ytkdanjfmobibbaa", sum := "de8d16d546afa9ece286ccd8dbda51f992ebe6d794d64955b44acbfe8198b132", func := "cento/centolaw19.PairRises", spec := "pairRises", unfollowed := true, recurses := true, apart := false }
def PairRisesSaid : Prop := pairRisesRow.holds Try.pinned (OpenSpec.ofChange pairRisesSpec)

/-- ITS FALSE NEIGHBOUR: 'it returns false'. Refute it at one input. -/
def pairRisesWrong : ChangeSpec := { name := "pairRises", fn := fun _ => fun
  | [d] => { results := [.lit (.bool false)], args := [d] }
  | _ => none }
def PairRisesWrongFalsely : Prop := pairRisesRow.holds Try.pinned (OpenSpec.ofChange pairRisesWrong)

/-- 'centolaw35.SlotsPlay': WHATEVER THE INPUT: true; the input reads as it did. -/
def slotsPlaySpec : ChangeSpec := { name := "slotsPlay", fn := fun _ => fun
  | [d] => { results := [.lit (.bool true)], args := [d] }
  | _ => none }
def slotsPlayRow : OpenClaim := { program := "ytkdanjfmobibbaa", sum := "de8d16d546afa9ece286ccd8dbda51f992ebe6d794d64955b44acbfe8198b132", func := "cento/centolaw35.SlotsPlay", spec := "slotsPlay", apart := false }
def SlotsPlaySaid : Prop := slotsPlayRow.holds Try.pinned (OpenSpec.ofChange slotsPlaySpec)

/-- ITS FALSE NEIGHBOUR: 'it returns false'. Refute it at one input. -/
def slotsPlayWrong : ChangeSpec := { name := "slotsPlay", fn := fun _ => fun
  | [d] => { results := [.lit (.bool false)], args := [d] }
  | _ => none }
def SlotsPlayWrongFalsely : Prop := slotsPlayRow.holds Try.pinned (OpenSpec.ofChange slotsPlayWrong)

/-- 'centolaw35.SlotsTwin': WHATEVER THE INPUT: true; the input reads as it did. -/
def slotsTwinSpec : ChangeSpec := { name := "slotsTwin", fn := fun _ => fun
  | [d1, d2] => { results := [.lit (.bool true)], args := [d1, d2] }
  | _ => none }
def slotsTwinRow : OpenClaim := { program := "ytkdanjfmobibbaa", sum := "de8d16d546afa9ece286ccd8dbda51f992ebe6d794d64955b44acbfe8198b132", func := "cento/centolaw35.SlotsTwin", spec := "slotsTwin", apart := false }
def SlotsTwinSaid : Prop := slotsTwinRow.holds Try.pinned (OpenSpec.ofChange slotsTwinSpec)

/-- ITS FALSE NEIGHBOUR: 'it returns false'. Refute it at one input. -/
def slotsTwinWrong : ChangeSpec := { name := "slotsTwin", fn := fun _ => fun
  | [d1, d2] => { results := [.lit (.bool false)], args := [d1, d2] }
  | _ => none }
def SlotsTwinWrongFalsely : Prop := slotsTwinRow.holds Try.pinned (OpenSpec.ofChange slotsTwinWrong)

/-- 'centolaw35.SlotsNone': WHATEVER THE INPUT: true; the input reads as it did. -/
def slotsNoneSpec : ChangeSpec := { name := "slotsNone", fn := fun _ => fun
  | [d] => { results := [.lit (.bool true)], args := [d] }
  | _ => none }
def slotsNoneRow : OpenClaim := { program := "ytkdanjfmobibbaa", sum := "de8d16d546afa9ece286ccd8dbda51f992ebe6d794d64955b44acbfe8198b132", func := "cento/centolaw35.SlotsNone", spec := "slotsNone", apart := false }
def SlotsNoneSaid : Prop := slotsNoneRow.holds Try.pinned (OpenSpec.ofChange slotsNoneSpec)

/-- ITS FALSE NEIGHBOUR: 'it returns false'. Refute it at one input. -/
def slotsNoneWrong : ChangeSpec := { name := "slotsNone", fn := fun _ => fun
  | [d] => { results := [.lit (.bool false)], args := [d] }
  | _ => none }
def SlotsNoneWrongFalsely : Prop := slotsNoneRow.holds Try.pinned (OpenSpec.ofChange slotsNoneWrong)

/- THE SECOND FORM. 'bulk': how many values and letters a reading holds, each counted each time it is reached (what is shared counts as often as it is met; a slice's spare places count too). A statement '..UptoSaid' is the law's where the arguments, and the package variables that the reading takes, are together of bulk at most 1048576: NARROWER than '..Said'. Prove '..Said' where nothing that the law and all that it calls make is longer than what came in: it says more and counts as full. Else prove '..UptoSaid'. A law counts once. -/
mutual
def uptoBulk {H : Type} : DataW H → Nat
  | .lit (.string bytes) => bytes.length + 1
  | .lit _ => 1
  | .nil => 1
  | .ptr d => uptoBulk d + 1
  | .slice elems spare => uptoBulkAll elems + uptoBulkAll spare + 1
  | .agg parts => uptoBulkAll parts + 1
  | .iface _ d => uptoBulk d + 1
  | .map entries => uptoBulkEntries entries + 1
  | .held _ => 1
def uptoBulkAll {H : Type} : List (DataW H) → Nat
  | [] => 0
  | d :: r => uptoBulk d + uptoBulkAll r
def uptoBulkEntries {H : Type} : List (Lit × DataW H) → Nat
  | [] => 0
  | x :: r => uptoBulkEntry x + uptoBulkEntries r
def uptoBulkEntry {H : Type} : Lit × DataW H → Nat
  | (.string bytes, d) => bytes.length + uptoBulk d + 1
  | (_, d) => uptoBulk d + 1
 end
def uptoSmall : (H : Type) → List (DataW H) → Bool := fun _ ds => decide (uptoBulkAll ds ≤ 1048576)
def OpenSpec.upto (s : _root_.Go.ChangeSpec) : _root_.Go.OpenSpec := { _root_.Go.OpenSpec.ofChange s with cond := some uptoSmall }

/-- 'centolaw05.ArenaApart', WHERE WHAT IT READS IS OF BULK AT MOST 1048576: true; the input reads as it did. -/
def arenaApartUptoRow : OpenClaim := { program := "ytkdanjfmobibbaa", sum := "de8d16d546afa9ece286ccd8dbda51f992ebe6d794d64955b44acbfe8198b132", func := "cento/centolaw05.ArenaApart", spec := "arenaApart", apart := false, narrowed := true }
def ArenaApartUptoSaid : Prop := arenaApartUptoRow.holds Try.pinned (OpenSpec.upto arenaApartSpec)

/-- 'centolaw05.ArenaNone', WHERE WHAT IT READS IS OF BULK AT MOST 1048576: true; the input reads as it did. -/
def arenaNoneUptoRow : OpenClaim := { program := "ytkdanjfmobibbaa", sum := "de8d16d546afa9ece286ccd8dbda51f992ebe6d794d64955b44acbfe8198b132", func := "cento/centolaw05.ArenaNone", spec := "arenaNone", apart := false, narrowed := true }
def ArenaNoneUptoSaid : Prop := arenaNoneUptoRow.holds Try.pinned (OpenSpec.upto arenaNoneSpec)

/-- 'centolaw17.ScriptNormal', WHERE WHAT IT READS IS OF BULK AT MOST 1048576: true; the input reads as it did. -/
def scriptNormalUptoRow : OpenClaim := { program := "ytkdanjfmobibbaa", sum := "de8d16d546afa9ece286ccd8dbda51f992ebe6d794d64955b44acbfe8198b132", func := "cento/centolaw17.ScriptNormal", spec := "scriptNormal", unfollowed := true, recurses := true, apart := false, narrowed := true }
def ScriptNormalUptoSaid : Prop := scriptNormalUptoRow.holds Try.pinned (OpenSpec.upto scriptNormalSpec)

/-- 'centolaw18.LcsDiffs', WHERE WHAT IT READS IS OF BULK AT MOST 1048576: true; the input reads as it did. -/
def lcsDiffsUptoRow : OpenClaim := { program := "ytkdanjfmobibbaa", sum := "de8d16d546afa9ece286ccd8dbda51f992ebe6d794d64955b44acbfe8198b132", func := "cento/centolaw18.LcsDiffs", spec := "lcsDiffs", unfollowed := true, recurses := true, apart := false, narrowed := true }
def LcsDiffsUptoSaid : Prop := lcsDiffsUptoRow.holds Try.pinned (OpenSpec.upto lcsDiffsSpec)

/-- 'centolaw18.LcsDistance', WHERE WHAT IT READS IS OF BULK AT MOST 1048576: true; the input reads as it did. -/
def lcsDistanceUptoRow : OpenClaim := { program := "ytkdanjfmobibbaa", sum := "de8d16d546afa9ece286ccd8dbda51f992ebe6d794d64955b44acbfe8198b132", func := "cento/centolaw18.LcsDistance", spec := "lcsDistance", unfollowed := true, recurses := true, apart := false, narrowed := true }
def LcsDistanceUptoSaid : Prop := lcsDistanceUptoRow.holds Try.pinned (OpenSpec.upto lcsDistanceSpec)

/-- 'centolaw18.LcsKeeps', WHERE WHAT IT READS IS OF BULK AT MOST 1048576: true; the input reads as it did. -/
def lcsKeepsUptoRow : OpenClaim := { program := "ytkdanjfmobibbaa", sum := "de8d16d546afa9ece286ccd8dbda51f992ebe6d794d64955b44acbfe8198b132", func := "cento/centolaw18.LcsKeeps", spec := "lcsKeeps", unfollowed := true, recurses := true, apart := false, narrowed := true }
def LcsKeepsUptoSaid : Prop := lcsKeepsUptoRow.holds Try.pinned (OpenSpec.upto lcsKeepsSpec)

/-- 'centolaw18.LcsNoMore', WHERE WHAT IT READS IS OF BULK AT MOST 1048576: true; the input reads as it did. -/
def lcsNoMoreUptoRow : OpenClaim := { program := "ytkdanjfmobibbaa", sum := "de8d16d546afa9ece286ccd8dbda51f992ebe6d794d64955b44acbfe8198b132", func := "cento/centolaw18.LcsNoMore", spec := "lcsNoMore", unfollowed := true, recurses := true, apart := false, narrowed := true }
def LcsNoMoreUptoSaid : Prop := lcsNoMoreUptoRow.holds Try.pinned (OpenSpec.upto lcsNoMoreSpec)

/-- 'centolaw19.PairPicks', WHERE WHAT IT READS IS OF BULK AT MOST 1048576: true; the input reads as it did. -/
def pairPicksUptoRow : OpenClaim := { program := "ytkdanjfmobibbaa", sum := "de8d16d546afa9ece286ccd8dbda51f992ebe6d794d64955b44acbfe8198b132", func := "cento/centolaw19.PairPicks", spec := "pairPicks", unfollowed := true, recurses := true, apart := false, narrowed := true }
def PairPicksUptoSaid : Prop := pairPicksUptoRow.holds Try.pinned (OpenSpec.upto pairPicksSpec)

/-- 'centolaw19.PairRises', WHERE WHAT IT READS IS OF BULK AT MOST 1048576: true; the input reads as it did. -/
def pairRisesUptoRow : OpenClaim := { program := "ytkdanjfmobibbaa", sum := "de8d16d546afa9ece286ccd8dbda51f992ebe6d794d64955b44acbfe8198b132", func := "cento/centolaw19.PairRises", spec := "pairRises", unfollowed := true, recurses := true, apart := false, narrowed := true }
def PairRisesUptoSaid : Prop := pairRisesUptoRow.holds Try.pinned (OpenSpec.upto pairRisesSpec)

/-- 'centolaw35.SlotsPlay', WHERE WHAT IT READS IS OF BULK AT MOST 1048576: true; the input reads as it did. -/
def slotsPlayUptoRow : OpenClaim := { program := "ytkdanjfmobibbaa", sum := "de8d16d546afa9ece286ccd8dbda51f992ebe6d794d64955b44acbfe8198b132", func := "cento/centolaw35.SlotsPlay", spec := "slotsPlay", apart := false, narrowed := true }
def SlotsPlayUptoSaid : Prop := slotsPlayUptoRow.holds Try.pinned (OpenSpec.upto slotsPlaySpec)

/-- 'centolaw35.SlotsTwin', WHERE WHAT IT READS IS OF BULK AT MOST 1048576: true; the input reads as it did. -/
def slotsTwinUptoRow : OpenClaim := { program := "ytkdanjfmobibbaa", sum := "de8d16d546afa9ece286ccd8dbda51f992ebe6d794d64955b44acbfe8198b132", func := "cento/centolaw35.SlotsTwin", spec := "slotsTwin", apart := false, narrowed := true }
def SlotsTwinUptoSaid : Prop := slotsTwinUptoRow.holds Try.pinned (OpenSpec.upto slotsTwinSpec)

/-- 'centolaw35.SlotsNone', WHERE WHAT IT READS IS OF BULK AT MOST 1048576: true; the input reads as it did. -/
def slotsNoneUptoRow : OpenClaim := { program := "ytkdanjfmobibbaa", sum := "de8d16d546afa9ece286ccd8dbda51f992ebe6d794d64955b44acbfe8198b132", func := "cento/centolaw35.SlotsNone", spec := "slotsNone", apart := false, narrowed := true }
def SlotsNoneUptoSaid : Prop := slotsNoneUptoRow.holds Try.pinned (OpenSpec.upto slotsNoneSpec)

end Rows
end Go.Proofs.Ytkdanjfmobibbaa
