/- Lemmas and contracts used by the proofs of this seat's laws (part U2); each theorem bears its own conditions. -/
import Derived.Test.YtcpapdjjeinpmaaRows
import Derived.Test.YtcpapdjjeinpmaaNum
import Derived.Test.YtcpapdjjeinpmaaMem
import Derived.Test.YtcpapdjjeinpmaaPk
import Derived.Test.YtcpapdjjeinpmaaOps
import Derived.Test.YtcpapdjjeinpmaaU1
import Derived.WalkKit
import Derived.WalkSpells
import Derived.WalkLawsBesides
import Derived.Lib.Hide
import Derived.BigQuiet
import Derived.StillTailTactics
import Derived.Deep.RegionHeld3
import Derived.Deep.AppendLies
import Derived.Laws.CopyOwn
import Derived.Deep.QuietTactic
namespace Go.Proofs.Ytcpapdjjeinpmaa
open Go.RowKit
set_option linter.unusedVariables false
set_option maxHeartbeats 1000000 in
theorem lay_ok (ws : List Nat) (A1 : Option Addr) (c1 B1 : Nat) (base g B : Nat) (rest words : List Nat) (most : Int) (w : World) (hb : base ≤ w.heap.size) (hm0 : 0 ≤ most ∧ most ≤ 9223372036854775807) (hsum : words.length + ws.length ≤ 17592186044416) (hfit : (words.length : Int) + ws.length ≤ most) (hrd1 : RdS w B1 A1 (u64s ws)) (hU : US w base g B rest words most) :
    Calls Try.prog 53 #[.pointer (some ⟨g, 0, none⟩), .slice A1 ws.length c1] w fun e w' => e = .returned (.bool true) ∧ US w' base g B rest (words ++ ws) most ∧ Below base w w' := by
  obtain ⟨⟨A, c, v, hblk, hrd, hc, hown⟩, hBb, hbg⟩ := hU
  obtain ⟨Av, cv, hv, hvc, hvr⟩ := own_rd hown
  subst hv
  have c1' : w.cell? ⟨g, 1, none⟩ = some (.slice Av words.length cv) := blk_cell hblk 1
  have c2' : w.cell? ⟨g, 2, none⟩ = some (.int .i64 most) := blk_cell hblk 2
  have hwI : IntKind.i64.wrap (most - (words.length : Int)) = most - (words.length : Int) := IntWalk.i64_in _ (by omega)
  have hle : ¬ most - (words.length : Int) < (ws.length : Int) := by omega
  have HB := Lib.hid hblk
  have HR := Lib.hid hrd
  have HO := Lib.hid hown
  have HR1 := Lib.hid hrd1
  clear hblk hrd hown hvr hrd1
  go_enter Try.func53, Try.ntmps53
  go_wp2
  go_quiet (fail)
  clear hwI
  go_wp2_with (at_builtin; refine app64 rfl _ _ rfl base _ words.length _ rfl (HO.out.drewN_ nq) B1 ws.length c1 A1 ws rfl rfl (HR1.out.drewN nq) hsum (by exact hb) ?_; intro v2 w2 hown2 hgrow; have hbw := (below_drewN (Below.refl base w) nq).grown hgrow (by exact hb) (own_base HO.out); have hblk2 := blk_grown (w := w.drewN nq) HB.out (HO.out.drewN_ nq) (by decide) hgrow; rw [← u64s_append] at hown2; obtain ⟨A2, c2, e2, hc2, hr2⟩ := own_rd hown2; subst e2; clear hr2; have HB2 := Lib.hid hblk2; have HO2 := Lib.hid hown2; have f1 := blk_free hblk2 1; have c12 : w2.cell? ⟨g, 1, none⟩ = some (.slice Av words.length cv) := blk_cell hblk2 1; clear hblk2 hown2 hgrow c1' c2')
  have HR2 := Lib.hid (HR.out.below (hbw.mono hBb))
  go_ret
  refine ⟨rfl, ⟨⟨A, c, .slice A2 (words.length + ws.length) c2, ?_, HR2.out.below ((Below.refl _ _).setCell (Nat.le_trans hBb hbg) _), hc, ?_⟩, hBb, hbg⟩, hbw.setCell hbg _⟩
  · exact blk_set HB2.out 1 _
  · rw [List.length_append]; exact own_set HB2.out HO2.out (by decide) 1 _
set_option maxHeartbeats 1000000 in
theorem lay_no (ws : List Nat) (A1 : Option Addr) (c1 : Nat) (base g B : Nat) (rest words : List Nat) (most : Int) (w : World) (hm0 : 0 ≤ most ∧ most ≤ 9223372036854775807) (hsum : words.length + ws.length ≤ 17592186044416) (hfit : most < (words.length : Int) + ws.length) (hU : US w base g B rest words most) :
    Calls Try.prog 53 #[.pointer (some ⟨g, 0, none⟩), .slice A1 ws.length c1] w fun e w' => e = .returned (.bool false) ∧ Drawn w w' := by
  obtain ⟨⟨A, c, v, hblk, hrd, hc, hown⟩, hBb, hbg⟩ := hU
  obtain ⟨Av, cv, hv, hvc, hvr⟩ := own_rd hown
  subst hv
  have c1' : w.cell? ⟨g, 1, none⟩ = some (.slice Av words.length cv) := blk_cell hblk 1
  have c2' : w.cell? ⟨g, 2, none⟩ = some (.int .i64 most) := blk_cell hblk 2
  have hwI : IntKind.i64.wrap (most - (words.length : Int)) = most - (words.length : Int) := IntWalk.i64_in _ (by omega)
  have hle : most - (words.length : Int) < (ws.length : Int) := by omega
  clear hblk hrd hown hvr
  go_enter Try.func53, Try.ntmps53
  go_wp2
  go_quiet (fail)
  clear hwI
  go_wp2
  go_ret
  exact ⟨rfl, _, rfl⟩

end Go.Proofs.Ytcpapdjjeinpmaa
