/- Lemmas and contracts used by the proofs of this seat's laws (part U6); each theorem bears its own conditions. -/
import Derived.Test.YtcpapdjjeinpmaaRows
import Derived.Test.YtcpapdjjeinpmaaNum
import Derived.Test.YtcpapdjjeinpmaaMem
import Derived.Test.YtcpapdjjeinpmaaPk
import Derived.Test.YtcpapdjjeinpmaaWordB
import Derived.Test.YtcpapdjjeinpmaaOps
import Derived.Test.YtcpapdjjeinpmaaU1
import Derived.Test.YtcpapdjjeinpmaaU2
import Derived.Test.YtcpapdjjeinpmaaU3
import Derived.Test.YtcpapdjjeinpmaaU4
import Derived.Test.YtcpapdjjeinpmaaU5
import Derived.WalkKit
import Derived.WalkSpells
import Derived.WalkLawsBesides
import Derived.Lib.Hide
import Derived.BigQuiet
import Derived.StillTailTactics
import Derived.Deep.RegionHeld3
import Derived.Deep.AppendLies
import Derived.Laws.CopyOwn
import Derived.Deep.QuietTactic
namespace Go.Proofs.Ytcpapdjjeinpmaa
open Go.RowKit
set_option linter.unusedVariables false
def restLen (w : World) (g : Nat) : Nat := match w.heap[g]? with | some (.cells cs _ _) => sliceLen (cs.getD 0 undef) | _ => 0
theorem US.restLen {w : World} {base g B : Nat} {rest words : List Nat} {most : Int} (h : US w base g B rest words most) : restLen w g = rest.length := by
  obtain ⟨⟨A, c, v, hblk, _⟩, _, _⟩ := h
  unfold Proofs.Ytcpapdjjeinpmaa.restLen
  rw [hblk]
  rfl
/-- what Unpack hands back -/
def RetU (res : List Nat × Nat) (w : World) (e : Ending) (w' : World) : Prop :=
  ∃ A c, e = .returned (.tuple #[.slice A res.1.length c, .int .i64 (res.2 : Nat)]) ∧ RdS w' w'.heap.size A (u64s res.1) ∧ Below w.heap.size w w'
set_option maxHeartbeats 2000000 in
theorem unpack_any (b : List Nat) (m : Int) (B cp : Nat) (A : Option Addr) (w : World) (hA : RdS w B A (u8s b)) (hB : B ≤ w.heap.size) (h8 : ∀ n ∈ b, n < 256) (hcp : b.length ≤ cp) (hl : b.length ≤ 68719476736) (hm : m ≤ 9223372036854775807) :
    Calls Try.prog 41 #[.slice A b.length cp, .int .i64 m] w (RetU (unpG b [] m.toNat) w) := by
  have hmx : ∀ W, (Builtin.max_ #[3, 3] 3 #[.int .i64 m, .int .i64 0]).run Try.prog W = .ok (.int .i64 (m.toNat : Nat)) W := fun W => by
    rw [run_max_int2, show (if (0 : Int) > m then (0 : Int) else m) = ((m.toNat : Nat) : Int) by split <;> omega]
  have hmb : m.toNat ≤ 9223372036854775807 := by omega
  generalize m.toNat = mm at *
  go_enter Try.func41, Try.ntmps41
  go_wp2_with fail
  clear hmx
  go_loopw [7] (fun _ wr => ∃ rest words : List Nat, US wr w.heap.size w.heap.size w.heap.size rest words (mm : Int) ∧ unpG rest words mm = unpG b [] mm ∧ (∀ n ∈ rest, n < 256) ∧ words.length + 128 * rest.length ≤ 8796093022208 ∧ Below w.heap.size w wr) (fun _ wr => restLen wr w.heap.size)
  case atStart => exact ⟨b, [], ⟨⟨A, cp, .slice none 0 0, heap_alloc_new w _, (hA.mono hB).below ((Below.refl _ _).alloc (Nat.le_refl _) _), hcp, by simpa [u64s] using World.ownsRow_nil (w.alloc _) w.heap.size 31 1⟩, Nat.le_refl _, Nat.le_refl _⟩, rfl, h8, by simp; omega, (Below.refl _ _).alloc (Nat.le_refl _) _⟩
  case round =>
    obtain ⟨rest, words, hU, hun, hr8, hM, hbr⟩ := hrel
    have HRL := Lib.hid hU.restLen
    have hlt := hU.lt
    have HU := Lib.hid hU
    have HUN := Lib.hid hun
    have HR8 := Lib.hid hr8
    obtain ⟨⟨Ar, cr, v, hblk, hrd, hc, hown⟩, _, _⟩ := id hU
    have c0 : wr.cell? ⟨w.heap.size, 0, none⟩ = some (.slice Ar rest.length cr) := blk_cell hblk 0
    clear hU hun hr8 hrd
    cases rest with
    | nil =>
      have hun2 : (words, 0) = unpG b [] mm := by have := HUN.out; rw [unpG_nil] at this; exact this
      have HUN2 := Lib.hid hun2
      obtain ⟨Av, cv, hv, hvc, hvr⟩ := own_rd hown
      subst hv
      have c1 : wr.cell? ⟨w.heap.size, 1, none⟩ = some (.slice Av words.length cv) := blk_cell hblk 1
      have HVR := Lib.hid hvr
      clear hun2 hvr hown hblk
      go_wp2
      go_ret2
      exact ⟨Av, cv, by rw [← HUN2.out]; rfl, by rw [← HUN2.out]; exact HVR.out, hbr⟩
    | cons t r =>
      have hun2 := HUN.out
      rw [unpG_cons] at hun2
      have HUN2 := Lib.hid hun2
      have hpos : 0 < ((r.length : Int) + 1) := by omega
      simp only [List.length_cons] at *
      have ht8 := HR8.out t (.head _)
      have hnl := nextM_len t r words mm
      have hnr := nextM_room t r words mm 8796093022208 ht8 (fun n hn => HR8.out n (.tail _ hn)) (fun h => popN_pos ht8 h) hM
      have HNR := Lib.hid hnr
      have hmem : ∀ n ∈ (nextM t r words mm).2.1, n < 256 := fun n hn => HR8.out n (.tail _ (mem_nextM hn))
      have HMEM := Lib.hid hmem
      have HCALL := Lib.hid (next_any t w.heap.size w.heap.size w.heap.size r words mm wr hmb HR8.out hM HU.out)
      clear hun2 hnr hmem hown hblk
      generalize nextM t r words mm = nm at *
      go_wp2_with fail
      refine HCALL.out.mono ?_
      rintro e w2 ⟨rfl, hU2, hb2⟩
      have HU2 := Lib.hid hU2
      clear hU2
      obtain ⟨code, rest2, words2⟩ := nm
      dsimp only at *
      by_cases h0 : code = 0
      · have ht0 : ((code : Int) != 0) = false := by rw [h0]; rfl
        have HC := Lib.hid h0
        have hU3 := HU2.out h0
        have hrl2 := hU3.restLen
        have HU3 := Lib.hid hU3
        have HRL2 := Lib.hid hrl2
        clear h0 hU3 hrl2
        go_wp2
        go_roundw
        case rel => exact ⟨rest2, words2, HU3.out, by have := HUN2.out; rw [if_pos HC.out] at this; exact this, HMEM.out, HNR.out HC.out, hbr.trans hb2⟩
        case measure =>
          show restLen _ _ < restLen _ _
          rw [HRL2.out, HRL.out]; omega
      · have ht0 : ((code : Int) != 0) = true := bne_iff_ne.2 (by omega)
        have hun3 : ([], code) = unpG b [] mm := by have := HUN2.out; rw [if_neg h0] at this; exact this
        have HUN3 := Lib.hid hun3
        clear h0 hun3
        go_wp2
        go_ret2
        exact ⟨none, 0, by rw [← HUN3.out]; rfl, RdS.nil _ _ _ |> fun h => by rw [← HUN3.out]; exact h, hbr.trans hb2⟩

end Go.Proofs.Ytcpapdjjeinpmaa
