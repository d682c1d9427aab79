/- Lemmas and contracts used by the proofs of this seat's laws (part L1); each theorem bears its own conditions. -/
import Derived.Test.YtcpapdjjeinpmaaRows
import Derived.Test.YtcpapdjjeinpmaaNum
import Derived.Test.YtcpapdjjeinpmaaMem
import Derived.Test.YtcpapdjjeinpmaaWordB
import Derived.Test.YtcpapdjjeinpmaaS9
import Derived.WalkKit
import Derived.WalkSpells
import Derived.WalkLawsBesides
import Derived.Lib.Hide
import Derived.BigQuiet
import Derived.StillTailTactics
import Derived.Deep.RegionHeld3
import Derived.Deep.QuietTactic
namespace Go.Proofs.Ytcpapdjjeinpmaa
open Go.RowKit
set_option linter.unusedVariables false

theorem eq8_same (x0 x1 x2 x3 x4 x5 x6 x7 : Int) (w : World) : (Op.equalIn 10000 32 (.agg #[.int .u8 x0, .int .u8 x1, .int .u8 x2, .int .u8 x3, .int .u8 x4, .int .u8 x5, .int .u8 x6, .int .u8 x7]) (.agg #[.int .u8 x0, .int .u8 x1, .int .u8 x2, .int .u8 x3, .int .u8 x4, .int .u8 x5, .int .u8 x6, .int .u8 x7])).run Try.prog w = .ok true w := by
  have u3 := Try.underlying5
  have a3 := Try.isAgg5
  have z3 := Try.sizeOf5
  rw [show (10000 : Nat) = 9999 + 1 from rfl, Op.equalIn]
  simp only [Sem.run_bind, run_underlying Try.underlying32, Result.andThen_ok]
  simp only [Std.Legacy.Range.forIn_eq_forIn_range', Std.Legacy.Range.size, Nat.sub_zero, Nat.add_sub_cancel, Nat.div_one, List.range'_succ, List.range'_zero, List.forIn_cons, List.forIn_nil]
  go_simp

theorem bdd (n : Nat) (d : Int) : 0 ≤ (n : Int) / d % 256 ∧ (n : Int) / d % 256 < 256 := ⟨Int.emod_nonneg _ (by decide), Int.emod_lt_of_pos _ (by decide)⟩

theorem of_bytes (n : Nat) (w : World) (hn : W64 n) : Calls Try.prog 21 #[.agg #[.int .u8 ((n : Int) % 256), .int .u8 ((n : Int) / 256 % 256), .int .u8 ((n : Int) / 65536 % 256), .int .u8 ((n : Int) / 16777216 % 256), .int .u8 ((n : Int) / 4294967296 % 256), .int .u8 ((n : Int) / 1099511627776 % 256), .int .u8 ((n : Int) / 281474976710656 % 256), .int .u8 ((n : Int) / 72057594037927936 % 256)]] w fun e w' => e = .returned (.int .u64 n) ∧ Below w.heap.size w w' := by
  have h := of_any ((n : Int) % 256) ((n : Int) / 256 % 256) ((n : Int) / 65536 % 256) ((n : Int) / 16777216 % 256) ((n : Int) / 4294967296 % 256) ((n : Int) / 1099511627776 % 256) ((n : Int) / 281474976710656 % 256) ((n : Int) / 72057594037927936 % 256) w (by omega) (bdd n _) (bdd n _) (bdd n _) (bdd n _) (bdd n _) (bdd n _) (bdd n _)
  rw [ofB_bytes n hn] at h
  exact h
set_option maxHeartbeats 2000000 in
theorem wordBytes (n : Nat) (w : World) (hn : W64 n) : Calls Try.prog 4 #[.int .u64 n] w fun e w' => e = .returned (.bool true) ∧ Below w.heap.size w w' := by
  have heq := eq8_same
  go_enter Try.func4, Try.ntmps4
  go_wp2_with fail
  refine (bytes_any n _).mono ?_
  rintro e w1 ⟨rfl, hb1⟩
  go_wp2_with fail
  go_region_held3 (fun w' => w'.cell? ⟨w1.heap.size, 0, none⟩ = some (.int .u8 ((n : Int) % 256)) ∧ w'.cell? ⟨w1.heap.size, 1, none⟩ = some (.int .u8 ((n : Int) / 256 % 256)) ∧ w'.cell? ⟨w1.heap.size, 2, none⟩ = some (.int .u8 ((n : Int) / 65536 % 256)) ∧ w'.cell? ⟨w1.heap.size, 3, none⟩ = some (.int .u8 ((n : Int) / 16777216 % 256)) ∧ w'.cell? ⟨w1.heap.size, 4, none⟩ = some (.int .u8 ((n : Int) / 4294967296 % 256)) ∧ w'.cell? ⟨w1.heap.size, 5, none⟩ = some (.int .u8 ((n : Int) / 1099511627776 % 256)) ∧ w'.cell? ⟨w1.heap.size, 6, none⟩ = some (.int .u8 ((n : Int) / 281474976710656 % 256)) ∧ w'.cell? ⟨w1.heap.size, 7, none⟩ = some (.int .u8 ((n : Int) / 72057594037927936 % 256))) (first | go_keep | (go_split_ands; refine ⟨?_, ?_, ?_, ?_, ?_, ?_, ?_, ?_⟩ <;> (rw [hcc]; assumption)))
    (first
     | (go_at_call 20; refine (rbytes_any n _ hn).mono ?_; rintro e w2 ⟨rfl, hb2⟩; have hcc := fun o => bcell (o := o) (b := w1.heap.size) hb2 (by simp))
     | (go_at_call 21; refine (of_bytes n _ hn).mono ?_; rintro e w3 ⟨rfl, hb3⟩; have hcc := fun o => bcell (o := o) (b := w1.heap.size) hb3 (by have := hb2.size; simp at this ⊢; omega))
     | (go_at_call 18; refine (awake1 _).mono ?_; rintro e w4 ⟨rfl, hb4⟩; have hcc := fun o => bcell (o := o) (b := w1.heap.size) hb4 (by have := hb2.size; have := hb3.size; simp at *; omega)))
  go_wp2
  go_ret
  exact ⟨rfl, by first | exact bstep (bstep (bstep (balloc hb1 _).drew hb2) hb3) hb4 | exact bstep (bstep (bstep (balloc hb1 _) hb2) hb3) hb4⟩

end Go.Proofs.Ytcpapdjjeinpmaa
