/- Lemmas and contracts used by the proofs of this seat's laws (part U1); each theorem bears its own conditions. -/
import Derived.Test.YtcpapdjjeinpmaaRows
import Derived.Test.YtcpapdjjeinpmaaNum
import Derived.Test.YtcpapdjjeinpmaaMem
import Derived.Test.YtcpapdjjeinpmaaPk
import Derived.Test.YtcpapdjjeinpmaaOps
import Derived.WalkKit
import Derived.WalkSpells
import Derived.WalkLawsBesides
import Derived.Lib.Hide
import Derived.BigQuiet
import Derived.StillTailTactics
import Derived.Deep.RegionHeld3
import Derived.Deep.AppendLies
import Derived.Laws.CopyOwn
import Derived.Deep.QuietTactic
namespace Go.Proofs.Ytcpapdjjeinpmaa
open Go.RowKit
set_option linter.unusedVariables false
/-- the state of an unpacker: block g, what rests, what was laid -/
structure US (w : World) (base g B : Nat) (rest words : List Nat) (most : Int) : Prop where
  ex : ∃ A c v, w.heap[g]? = some (.cells #[.slice A rest.length c, v, .int .i64 most] 67 (0, 0)) ∧ RdS w B A (u8s rest) ∧ rest.length ≤ c ∧ w.ownsRow base 31 1 v words.length (u64s words)
  le : B ≤ base
  ge : base ≤ g
def CutP (base g B : Nat) (rest words : List Nat) (most : Int) (n : Nat) (w : World) (e : Ending) (w' : World) : Prop :=
  ∃ A, e = .returned (.tuple #[.slice A n n, .bool true]) ∧ RdS w' B A (u8s (rest.take n)) ∧ US w' base g B (rest.drop n) words most ∧ Below base w w'
theorem cut8c (A : Option Addr) (n c k : Nat) (h1 : k ≤ n) (h2 : n ≤ c) (W : World) : (Instr.slice 23 (.slice A n c) none (some (.int .i64 (k : Int))) (some (.int .i64 (k : Int)))).run Try.prog W = .ok (.slice A k k) W := by
  obtain ⟨i0, hi, hz0, hz1, hz2⟩ := info_parts info8
  exact run_cut3 Try.underlying23 hi hz1 A n c k h1 h2 W
set_option maxHeartbeats 1000000 in
theorem cut_ok (n : Int) (base g B : Nat) (rest words : List Nat) (most : Int) (w : World) (h0 : 0 ≤ n) (hn : n.toNat ≤ rest.length) (hr : rest.length ≤ 140737488351232) (hU : US w base g B rest words most) :
    Calls Try.prog 51 #[.pointer (some ⟨g, 0, none⟩), .int .i64 n] w (CutP base g B rest words most n.toNat w) := by
  obtain ⟨n, rfl⟩ := Int.eq_ofNat_of_zero_le h0
  rw [Int.toNat_natCast] at *
  obtain ⟨⟨A, c, v, hblk, hrd, hc, hown⟩, hBb, hbg⟩ := hU
  have c0 : w.cell? ⟨g, 0, none⟩ = some (.slice A rest.length c) := blk_cell hblk 0
  have f0 := blk_free hblk 0
  have hcut := fun W => cut8 A rest.length c n hn hc W
  have hcut3 := fun W => cut8c A rest.length c n hn hc W
  have hdl : (rest.drop n).length = rest.length - n := List.length_drop
  have HB := Lib.hid hblk
  have HR := Lib.hid hrd
  have HO := Lib.hid hown
  have HD := Lib.hid hdl
  have hcI : (rest.length : Int) ≤ (c : Int) := by omega
  clear hblk hrd hown hdl
  generalize hA2 : cutA A n c = A2 at *
  have HA2 := Lib.hid hA2
  clear hA2
  go_enter Try.func51, Try.ntmps51
  go_wp2
  go_ret2
  refine ⟨A, rfl, ?_, ⟨⟨A2, c - n, v, ?_, ?_, by rw [HD.out]; omega, ?_⟩, hBb, hbg⟩, (Below.refl _ _).setCell hbg _⟩
  · rw [u8s_take]; exact (HR.out.below ((Below.refl _ _).setCell (Nat.le_trans hBb hbg) _)).take n
  · have h := blk_set HB.out 0 (.slice A2 (rest.length - n) (c - n))
    rw [HD.out]; exact h
  · rw [u8s_drop, ← HA2.out]; exact (HR.out.below ((Below.refl _ _).setCell (Nat.le_trans hBb hbg) _)).cut (by rw [u8s_len]; exact hc)
  · exact own_set HB.out HO.out (by decide) 0 _
set_option maxHeartbeats 1000000 in
theorem cut_no (n : Int) (base g B : Nat) (rest words : List Nat) (most : Int) (w : World) (hn : (rest.length : Int) < n) (hU : US w base g B rest words most) :
    Calls Try.prog 51 #[.pointer (some ⟨g, 0, none⟩), .int .i64 n] w fun e w' => e = .returned (.tuple #[.slice none 0 0, .bool false]) ∧ w = w' := by
  obtain ⟨⟨A, c, v, hblk, hrd, hc, hown⟩, hBb, hbg⟩ := hU
  have c0 : w.cell? ⟨g, 0, none⟩ = some (.slice A rest.length c) := blk_cell hblk 0
  clear hblk hrd hown
  go_enter Try.func51, Try.ntmps51
  go_wp2
  go_ret2
  exact ⟨rfl, rfl⟩

end Go.Proofs.Ytcpapdjjeinpmaa
