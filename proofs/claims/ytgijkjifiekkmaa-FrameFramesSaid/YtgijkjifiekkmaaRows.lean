/-
  No cell of these rows narrows 'for every input' (looked for: loops, veiled, ifaces, maps, wideKeys, modest, calm, conditions, laid).
  DERIVED. THE GIVEN ROWS OF THIS SEAT. 12 by the template 'for every input the law returns true; each argument reads behind the call as it read before'; 0 by the template 'total and deterministic' (their statements: YtgijkjifiekkmaaTotals.lean).
  GIVEN WITH THE SEED: the statements are not yours to turn. If you find one false, say at which input.
  Laid BY PROGRAM, IN A SANDBOX (cutbox-rows.mjs): the forced cells as the released guide's own fill.sh prints them over the translation 47d78131fbbd89de… (all of the seat's roots in one cut). By AI agents, Wed Nov 11 2026. No macro, syntax, notation, axiom, sorry.
-/
import Derived.Test.YtgijkjifiekkmaaChecked
import GoSem.Claim
import GoSem.ClaimJoined
import GoSem.ClaimMapViews
import Derived.JoinedTies
import Derived.KernelRfl
namespace Go.Proofs.Ytgijkjifiekkmaa
/- THE CELL 'sum', in the pinned program and in every row, IS THE sha256 OF THE DUMP (.gsa) THAT YtgijkjifiekkmaaProg.lean LOADS. Nothing in Lean hashes anything: it is a label: what it is worth is what the hold of that sum in a sandbox is worth. -/
noncomputable def Try.pinned : Pinned := { name := "ytgijkjifiekkmaa", sum := "47d78131fbbd89de2838d8ada4f7679ae2d79c82f1083483938e83b3253dbb3c", checked := Try.checked }
namespace Rows
def none {H : Type} : Left H := { results := [], args := [] }

/-- 'centolaw03.FrameFrames': WHATEVER THE INPUT: true; the input reads as it did. -/
def frameFramesSpec : ChangeSpec := { name := "frameFrames", fn := fun _ => fun
  | [d] => { results := [.lit (.bool true)], args := [d] }
  | _ => none }
def frameFramesRow : OpenClaim := { program := "ytgijkjifiekkmaa", sum := "47d78131fbbd89de2838d8ada4f7679ae2d79c82f1083483938e83b3253dbb3c", func := "cento/centolaw03.FrameFrames", spec := "frameFrames", apart := false }
def FrameFramesSaid : Prop := frameFramesRow.holds Try.pinned (OpenSpec.ofChange frameFramesSpec)

/-- ITS FALSE NEIGHBOUR: 'it returns false'. Refute it at one input. -/
def frameFramesWrong : ChangeSpec := { name := "frameFrames", fn := fun _ => fun
  | [d] => { results := [.lit (.bool false)], args := [d] }
  | _ => none }
def FrameFramesWrongFalsely : Prop := frameFramesRow.holds Try.pinned (OpenSpec.ofChange frameFramesWrong)

/-- 'centolaw03.FrameUnframes': WHATEVER THE INPUT: true; the input reads as it did. -/
def frameUnframesSpec : ChangeSpec := { name := "frameUnframes", fn := fun _ => fun
  | [d] => { results := [.lit (.bool true)], args := [d] }
  | _ => none }
def frameUnframesRow : OpenClaim := { program := "ytgijkjifiekkmaa", sum := "47d78131fbbd89de2838d8ada4f7679ae2d79c82f1083483938e83b3253dbb3c", func := "cento/centolaw03.FrameUnframes", spec := "frameUnframes", apart := false }
def FrameUnframesSaid : Prop := frameUnframesRow.holds Try.pinned (OpenSpec.ofChange frameUnframesSpec)

/-- ITS FALSE NEIGHBOUR: 'it returns false'. Refute it at one input. -/
def frameUnframesWrong : ChangeSpec := { name := "frameUnframes", fn := fun _ => fun
  | [d] => { results := [.lit (.bool false)], args := [d] }
  | _ => none }
def FrameUnframesWrongFalsely : Prop := frameUnframesRow.holds Try.pinned (OpenSpec.ofChange frameUnframesWrong)

/-- 'centolaw03.FrameMost': WHATEVER THE INPUT: true; the input reads as it did. -/
def frameMostSpec : ChangeSpec := { name := "frameMost", fn := fun _ => fun
  | [d] => { results := [.lit (.bool true)], args := [d] }
  | _ => none }
def frameMostRow : OpenClaim := { program := "ytgijkjifiekkmaa", sum := "47d78131fbbd89de2838d8ada4f7679ae2d79c82f1083483938e83b3253dbb3c", func := "cento/centolaw03.FrameMost", spec := "frameMost", apart := false }
def FrameMostSaid : Prop := frameMostRow.holds Try.pinned (OpenSpec.ofChange frameMostSpec)

/-- ITS FALSE NEIGHBOUR: 'it returns false'. Refute it at one input. -/
def frameMostWrong : ChangeSpec := { name := "frameMost", fn := fun _ => fun
  | [d] => { results := [.lit (.bool false)], args := [d] }
  | _ => none }
def FrameMostWrongFalsely : Prop := frameMostRow.holds Try.pinned (OpenSpec.ofChange frameMostWrong)

/-- 'centolaw04.PtrDecodes': WHATEVER THE INPUT: true; the input reads as it did. -/
def ptrDecodesSpec : ChangeSpec := { name := "ptrDecodes", fn := fun _ => fun
  | [d] => { results := [.lit (.bool true)], args := [d] }
  | _ => none }
def ptrDecodesRow : OpenClaim := { program := "ytgijkjifiekkmaa", sum := "47d78131fbbd89de2838d8ada4f7679ae2d79c82f1083483938e83b3253dbb3c", func := "cento/centolaw04.PtrDecodes", spec := "ptrDecodes", apart := false }
def PtrDecodesSaid : Prop := ptrDecodesRow.holds Try.pinned (OpenSpec.ofChange ptrDecodesSpec)

/-- ITS FALSE NEIGHBOUR: 'it returns false'. Refute it at one input. -/
def ptrDecodesWrong : ChangeSpec := { name := "ptrDecodes", fn := fun _ => fun
  | [d] => { results := [.lit (.bool false)], args := [d] }
  | _ => none }
def PtrDecodesWrongFalsely : Prop := ptrDecodesRow.holds Try.pinned (OpenSpec.ofChange ptrDecodesWrong)

/-- 'centolaw04.PtrEncodes': WHATEVER THE INPUT: true; the input reads as it did. -/
def ptrEncodesSpec : ChangeSpec := { name := "ptrEncodes", fn := fun _ => fun
  | [d] => { results := [.lit (.bool true)], args := [d] }
  | _ => none }
def ptrEncodesRow : OpenClaim := { program := "ytgijkjifiekkmaa", sum := "47d78131fbbd89de2838d8ada4f7679ae2d79c82f1083483938e83b3253dbb3c", func := "cento/centolaw04.PtrEncodes", spec := "ptrEncodes", apart := false }
def PtrEncodesSaid : Prop := ptrEncodesRow.holds Try.pinned (OpenSpec.ofChange ptrEncodesSpec)

/-- ITS FALSE NEIGHBOUR: 'it returns false'. Refute it at one input. -/
def ptrEncodesWrong : ChangeSpec := { name := "ptrEncodes", fn := fun _ => fun
  | [d] => { results := [.lit (.bool false)], args := [d] }
  | _ => none }
def PtrEncodesWrongFalsely : Prop := ptrEncodesRow.holds Try.pinned (OpenSpec.ofChange ptrEncodesWrong)

/-- 'centolaw05.ArenaPlays': WHATEVER THE INPUT: true; the input reads as it did. -/
def arenaPlaysSpec : ChangeSpec := { name := "arenaPlays", fn := fun _ => fun
  | [d1, d2, d3] => { results := [.lit (.bool true)], args := [d1, d2, d3] }
  | _ => none }
def arenaPlaysRow : OpenClaim := { program := "ytgijkjifiekkmaa", sum := "47d78131fbbd89de2838d8ada4f7679ae2d79c82f1083483938e83b3253dbb3c", func := "cento/centolaw05.ArenaPlays", spec := "arenaPlays", apart := false }
def ArenaPlaysSaid : Prop := arenaPlaysRow.holds Try.pinned (OpenSpec.ofChange arenaPlaysSpec)

/-- ITS FALSE NEIGHBOUR: 'it returns false'. Refute it at one input. -/
def arenaPlaysWrong : ChangeSpec := { name := "arenaPlays", fn := fun _ => fun
  | [d1, d2, d3] => { results := [.lit (.bool false)], args := [d1, d2, d3] }
  | _ => none }
def ArenaPlaysWrongFalsely : Prop := arenaPlaysRow.holds Try.pinned (OpenSpec.ofChange arenaPlaysWrong)

/-- 'centolaw05.ArenaApart': WHATEVER THE INPUT: true; the input reads as it did. -/
def arenaApartSpec : ChangeSpec := { name := "arenaApart", fn := fun _ => fun
  | [d1, d2, d3] => { results := [.lit (.bool true)], args := [d1, d2, d3] }
  | _ => none }
def arenaApartRow : OpenClaim := { program := "ytgijkjifiekkmaa", sum := "47d78131fbbd89de2838d8ada4f7679ae2d79c82f1083483938e83b3253dbb3c", func := "cento/centolaw05.ArenaApart", spec := "arenaApart", apart := false }
def ArenaApartSaid : Prop := arenaApartRow.holds Try.pinned (OpenSpec.ofChange arenaApartSpec)

/-- ITS FALSE NEIGHBOUR: 'it returns false'. Refute it at one input. -/
def arenaApartWrong : ChangeSpec := { name := "arenaApart", fn := fun _ => fun
  | [d1, d2, d3] => { results := [.lit (.bool false)], args := [d1, d2, d3] }
  | _ => none }
def ArenaApartWrongFalsely : Prop := arenaApartRow.holds Try.pinned (OpenSpec.ofChange arenaApartWrong)

/-- 'centolaw05.ArenaOf': WHATEVER THE INPUT: true; the input reads as it did. -/
def arenaOfSpec : ChangeSpec := { name := "arenaOf", fn := fun _ => fun
  | [d1, d2, d3, d4] => { results := [.lit (.bool true)], args := [d1, d2, d3, d4] }
  | _ => none }
def arenaOfRow : OpenClaim := { program := "ytgijkjifiekkmaa", sum := "47d78131fbbd89de2838d8ada4f7679ae2d79c82f1083483938e83b3253dbb3c", func := "cento/centolaw05.ArenaOf", spec := "arenaOf", apart := false }
def ArenaOfSaid : Prop := arenaOfRow.holds Try.pinned (OpenSpec.ofChange arenaOfSpec)

/-- ITS FALSE NEIGHBOUR: 'it returns false'. Refute it at one input. -/
def arenaOfWrong : ChangeSpec := { name := "arenaOf", fn := fun _ => fun
  | [d1, d2, d3, d4] => { results := [.lit (.bool false)], args := [d1, d2, d3, d4] }
  | _ => none }
def ArenaOfWrongFalsely : Prop := arenaOfRow.holds Try.pinned (OpenSpec.ofChange arenaOfWrong)

/-- 'centolaw05.ArenaNone': WHATEVER THE INPUT: true; the input reads as it did. -/
def arenaNoneSpec : ChangeSpec := { name := "arenaNone", fn := fun _ => fun
  | [d] => { results := [.lit (.bool true)], args := [d] }
  | _ => none }
def arenaNoneRow : OpenClaim := { program := "ytgijkjifiekkmaa", sum := "47d78131fbbd89de2838d8ada4f7679ae2d79c82f1083483938e83b3253dbb3c", func := "cento/centolaw05.ArenaNone", spec := "arenaNone", apart := false }
def ArenaNoneSaid : Prop := arenaNoneRow.holds Try.pinned (OpenSpec.ofChange arenaNoneSpec)

/-- ITS FALSE NEIGHBOUR: 'it returns false'. Refute it at one input. -/
def arenaNoneWrong : ChangeSpec := { name := "arenaNone", fn := fun _ => fun
  | [d] => { results := [.lit (.bool false)], args := [d] }
  | _ => none }
def ArenaNoneWrongFalsely : Prop := arenaNoneRow.holds Try.pinned (OpenSpec.ofChange arenaNoneWrong)

/-- 'centolaw06.FarFollows': WHATEVER THE INPUT: true; the input reads as it did. -/
def farFollowsSpec : ChangeSpec := { name := "farFollows", fn := fun _ => fun
  | [d1, d2, d3] => { results := [.lit (.bool true)], args := [d1, d2, d3] }
  | _ => none }
def farFollowsRow : OpenClaim := { program := "ytgijkjifiekkmaa", sum := "47d78131fbbd89de2838d8ada4f7679ae2d79c82f1083483938e83b3253dbb3c", func := "cento/centolaw06.FarFollows", spec := "farFollows", apart := false }
def FarFollowsSaid : Prop := farFollowsRow.holds Try.pinned (OpenSpec.ofChange farFollowsSpec)

/-- ITS FALSE NEIGHBOUR: 'it returns false'. Refute it at one input. -/
def farFollowsWrong : ChangeSpec := { name := "farFollows", fn := fun _ => fun
  | [d1, d2, d3] => { results := [.lit (.bool false)], args := [d1, d2, d3] }
  | _ => none }
def FarFollowsWrongFalsely : Prop := farFollowsRow.holds Try.pinned (OpenSpec.ofChange farFollowsWrong)

/-- 'centolaw06.FarWithin': WHATEVER THE INPUT: true; the input reads as it did. -/
def farWithinSpec : ChangeSpec := { name := "farWithin", fn := fun _ => fun
  | [d1, d2, d3] => { results := [.lit (.bool true)], args := [d1, d2, d3] }
  | _ => none }
def farWithinRow : OpenClaim := { program := "ytgijkjifiekkmaa", sum := "47d78131fbbd89de2838d8ada4f7679ae2d79c82f1083483938e83b3253dbb3c", func := "cento/centolaw06.FarWithin", spec := "farWithin", apart := false }
def FarWithinSaid : Prop := farWithinRow.holds Try.pinned (OpenSpec.ofChange farWithinSpec)

/-- ITS FALSE NEIGHBOUR: 'it returns false'. Refute it at one input. -/
def farWithinWrong : ChangeSpec := { name := "farWithin", fn := fun _ => fun
  | [d1, d2, d3] => { results := [.lit (.bool false)], args := [d1, d2, d3] }
  | _ => none }
def FarWithinWrongFalsely : Prop := farWithinRow.holds Try.pinned (OpenSpec.ofChange farWithinWrong)

/-- 'centolaw06.FarPads': WHATEVER THE INPUT: true; the input reads as it did. -/
def farPadsSpec : ChangeSpec := { name := "farPads", fn := fun _ => fun
  | [d1, d2] => { results := [.lit (.bool true)], args := [d1, d2] }
  | _ => none }
def farPadsRow : OpenClaim := { program := "ytgijkjifiekkmaa", sum := "47d78131fbbd89de2838d8ada4f7679ae2d79c82f1083483938e83b3253dbb3c", func := "cento/centolaw06.FarPads", spec := "farPads", apart := false }
def FarPadsSaid : Prop := farPadsRow.holds Try.pinned (OpenSpec.ofChange farPadsSpec)

/-- ITS FALSE NEIGHBOUR: 'it returns false'. Refute it at one input. -/
def farPadsWrong : ChangeSpec := { name := "farPads", fn := fun _ => fun
  | [d1, d2] => { results := [.lit (.bool false)], args := [d1, d2] }
  | _ => none }
def FarPadsWrongFalsely : Prop := farPadsRow.holds Try.pinned (OpenSpec.ofChange farPadsWrong)

/- THE SECOND FORM. 'bulk': how many values and letters a reading holds, each counted each time it is reached (what is shared counts as often as it is met; a slice's spare places count too). A statement '..UptoSaid' is the law's where the arguments, and the package variables that the reading takes, are together of bulk at most 1048576: NARROWER than '..Said'. Prove '..Said' where nothing that the law and all that it calls make is longer than what came in: it says more and counts as full. Else prove '..UptoSaid'. A law counts once. -/
mutual
def uptoBulk {H : Type} : DataW H → Nat
  | .lit (.string bytes) => bytes.length + 1
  | .lit _ => 1
  | .nil => 1
  | .ptr d => uptoBulk d + 1
  | .slice elems spare => uptoBulkAll elems + uptoBulkAll spare + 1
  | .agg parts => uptoBulkAll parts + 1
  | .iface _ d => uptoBulk d + 1
  | .map entries => uptoBulkEntries entries + 1
  | .held _ => 1
def uptoBulkAll {H : Type} : List (DataW H) → Nat
  | [] => 0
  | d :: r => uptoBulk d + uptoBulkAll r
def uptoBulkEntries {H : Type} : List (Lit × DataW H) → Nat
  | [] => 0
  | x :: r => uptoBulkEntry x + uptoBulkEntries r
def uptoBulkEntry {H : Type} : Lit × DataW H → Nat
  | (.string bytes, d) => bytes.length + uptoBulk d + 1
  | (_, d) => uptoBulk d + 1
 end
def uptoSmall : (H : Type) → List (DataW H) → Bool := fun _ ds => decide (uptoBulkAll ds ≤ 1048576)
def OpenSpec.upto (s : _root_.Go.ChangeSpec) : _root_.Go.OpenSpec := { _root_.Go.OpenSpec.ofChange s with cond := some uptoSmall }

/-- 'centolaw03.FrameFrames', WHERE WHAT IT READS IS OF BULK AT MOST 1048576: true; the input reads as it did. -/
def frameFramesUptoRow : OpenClaim := { program := "ytgijkjifiekkmaa", sum := "47d78131fbbd89de2838d8ada4f7679ae2d79c82f1083483938e83b3253dbb3c", func := "cento/centolaw03.FrameFrames", spec := "frameFrames", apart := false, narrowed := true }
def FrameFramesUptoSaid : Prop := frameFramesUptoRow.holds Try.pinned (OpenSpec.upto frameFramesSpec)

/-- 'centolaw03.FrameUnframes', WHERE WHAT IT READS IS OF BULK AT MOST 1048576: true; the input reads as it did. -/
def frameUnframesUptoRow : OpenClaim := { program := "ytgijkjifiekkmaa", sum := "47d78131fbbd89de2838d8ada4f7679ae2d79c82f1083483938e83b3253dbb3c", func := "cento/centolaw03.FrameUnframes", spec := "frameUnframes", apart := false, narrowed := true }
def FrameUnframesUptoSaid : Prop := frameUnframesUptoRow.holds Try.pinned (OpenSpec.upto frameUnframesSpec)

/-- 'centolaw03.FrameMost', WHERE WHAT IT READS IS OF BULK AT MOST 1048576: true; the input reads as it did. -/
def frameMostUptoRow : OpenClaim := { program := "ytgijkjifiekkmaa", sum := "47d78131fbbd89de2838d8ada4f7679ae2d79c82f1083483938e83b3253dbb3c", func := "cento/centolaw03.FrameMost", spec := "frameMost", apart := false, narrowed := true }
def FrameMostUptoSaid : Prop := frameMostUptoRow.holds Try.pinned (OpenSpec.upto frameMostSpec)

/-- 'centolaw04.PtrDecodes', WHERE WHAT IT READS IS OF BULK AT MOST 1048576: true; the input reads as it did. -/
def ptrDecodesUptoRow : OpenClaim := { program := "ytgijkjifiekkmaa", sum := "47d78131fbbd89de2838d8ada4f7679ae2d79c82f1083483938e83b3253dbb3c", func := "cento/centolaw04.PtrDecodes", spec := "ptrDecodes", apart := false, narrowed := true }
def PtrDecodesUptoSaid : Prop := ptrDecodesUptoRow.holds Try.pinned (OpenSpec.upto ptrDecodesSpec)

/-- 'centolaw04.PtrEncodes', WHERE WHAT IT READS IS OF BULK AT MOST 1048576: true; the input reads as it did. -/
def ptrEncodesUptoRow : OpenClaim := { program := "ytgijkjifiekkmaa", sum := "47d78131fbbd89de2838d8ada4f7679ae2d79c82f1083483938e83b3253dbb3c", func := "cento/centolaw04.PtrEncodes", spec := "ptrEncodes", apart := false, narrowed := true }
def PtrEncodesUptoSaid : Prop := ptrEncodesUptoRow.holds Try.pinned (OpenSpec.upto ptrEncodesSpec)

/-- 'centolaw05.ArenaPlays', WHERE WHAT IT READS IS OF BULK AT MOST 1048576: true; the input reads as it did. -/
def arenaPlaysUptoRow : OpenClaim := { program := "ytgijkjifiekkmaa", sum := "47d78131fbbd89de2838d8ada4f7679ae2d79c82f1083483938e83b3253dbb3c", func := "cento/centolaw05.ArenaPlays", spec := "arenaPlays", apart := false, narrowed := true }
def ArenaPlaysUptoSaid : Prop := arenaPlaysUptoRow.holds Try.pinned (OpenSpec.upto arenaPlaysSpec)

/-- 'centolaw05.ArenaApart', WHERE WHAT IT READS IS OF BULK AT MOST 1048576: true; the input reads as it did. -/
def arenaApartUptoRow : OpenClaim := { program := "ytgijkjifiekkmaa", sum := "47d78131fbbd89de2838d8ada4f7679ae2d79c82f1083483938e83b3253dbb3c", func := "cento/centolaw05.ArenaApart", spec := "arenaApart", apart := false, narrowed := true }
def ArenaApartUptoSaid : Prop := arenaApartUptoRow.holds Try.pinned (OpenSpec.upto arenaApartSpec)

/-- 'centolaw05.ArenaOf', WHERE WHAT IT READS IS OF BULK AT MOST 1048576: true; the input reads as it did. -/
def arenaOfUptoRow : OpenClaim := { program := "ytgijkjifiekkmaa", sum := "47d78131fbbd89de2838d8ada4f7679ae2d79c82f1083483938e83b3253dbb3c", func := "cento/centolaw05.ArenaOf", spec := "arenaOf", apart := false, narrowed := true }
def ArenaOfUptoSaid : Prop := arenaOfUptoRow.holds Try.pinned (OpenSpec.upto arenaOfSpec)

/-- 'centolaw05.ArenaNone', WHERE WHAT IT READS IS OF BULK AT MOST 1048576: true; the input reads as it did. -/
def arenaNoneUptoRow : OpenClaim := { program := "ytgijkjifiekkmaa", sum := "47d78131fbbd89de2838d8ada4f7679ae2d79c82f1083483938e83b3253dbb3c", func := "cento/centolaw05.ArenaNone", spec := "arenaNone", apart := false, narrowed := true }
def ArenaNoneUptoSaid : Prop := arenaNoneUptoRow.holds Try.pinned (OpenSpec.upto arenaNoneSpec)

/-- 'centolaw06.FarFollows', WHERE WHAT IT READS IS OF BULK AT MOST 1048576: true; the input reads as it did. -/
def farFollowsUptoRow : OpenClaim := { program := "ytgijkjifiekkmaa", sum := "47d78131fbbd89de2838d8ada4f7679ae2d79c82f1083483938e83b3253dbb3c", func := "cento/centolaw06.FarFollows", spec := "farFollows", apart := false, narrowed := true }
def FarFollowsUptoSaid : Prop := farFollowsUptoRow.holds Try.pinned (OpenSpec.upto farFollowsSpec)

/-- 'centolaw06.FarWithin', WHERE WHAT IT READS IS OF BULK AT MOST 1048576: true; the input reads as it did. -/
def farWithinUptoRow : OpenClaim := { program := "ytgijkjifiekkmaa", sum := "47d78131fbbd89de2838d8ada4f7679ae2d79c82f1083483938e83b3253dbb3c", func := "cento/centolaw06.FarWithin", spec := "farWithin", apart := false, narrowed := true }
def FarWithinUptoSaid : Prop := farWithinUptoRow.holds Try.pinned (OpenSpec.upto farWithinSpec)

/-- 'centolaw06.FarPads', WHERE WHAT IT READS IS OF BULK AT MOST 1048576: true; the input reads as it did. -/
def farPadsUptoRow : OpenClaim := { program := "ytgijkjifiekkmaa", sum := "47d78131fbbd89de2838d8ada4f7679ae2d79c82f1083483938e83b3253dbb3c", func := "cento/centolaw06.FarPads", spec := "farPads", apart := false, narrowed := true }
def FarPadsUptoSaid : Prop := farPadsUptoRow.holds Try.pinned (OpenSpec.upto farPadsSpec)

end Rows
end Go.Proofs.Ytgijkjifiekkmaa
