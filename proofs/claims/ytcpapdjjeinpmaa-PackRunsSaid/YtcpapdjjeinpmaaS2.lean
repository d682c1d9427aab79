/- Lemmas and contracts used by the proofs of this seat's laws (part S2); each theorem bears its own conditions. -/
import Derived.Test.YtcpapdjjeinpmaaRows
import Derived.Test.YtcpapdjjeinpmaaNum
import Derived.Test.YtcpapdjjeinpmaaMem
import Derived.WalkKit
import Derived.WalkSpells
import Derived.WalkLawsBesides
import Derived.Lib.Hide
import Derived.BigQuiet
import Derived.Deep.QuietTactic
namespace Go.Proofs.Ytcpapdjjeinpmaa
open Go.RowKit
set_option linter.unusedVariables false
set_option maxHeartbeats 1000000 in
theorem width_ok (c : Int) (w : World) (h0 : 0 ≤ c) (h : c < 6) :
    Calls Try.prog 27 #[.int .i64 c] w fun e w' => e = .returned (.tuple #[.int .i64 (widthOf c.toNat : Nat), .bool true]) ∧ Below w.heap.size w w' := by
  have hc : c = 0 ∨ c = 1 ∨ c = 2 ∨ c = 3 ∨ c = 4 ∨ c = 5 := by omega
  rcases hc with rfl | rfl | rfl | rfl | rfl | rfl
  all_goals
    go_enter Try.func27, Try.ntmps27
    go_wp2
    go_ret2
    exact ⟨rfl, (Below.refl _ _).alloc (Nat.le_refl _) _⟩
set_option maxHeartbeats 1000000 in
theorem width_no (c : Int) (w : World) (h : c < 0 ∨ 6 ≤ c) :
    Calls Try.prog 27 #[.int .i64 c] w fun e w' => e = .returned (.tuple #[.int .i64 0, .bool false]) ∧ Below w.heap.size w w' := by
  rcases h with h | h
  · go_enter Try.func27, Try.ntmps27
    go_wp2
    go_ret2
    exact ⟨rfl, (Below.refl _ _).alloc (Nat.le_refl _) _⟩
  · have h' : ¬ c < 0 := by omega
    go_enter Try.func27, Try.ntmps27
    go_wp2
    go_ret2
    exact ⟨rfl, (Below.refl _ _).alloc (Nat.le_refl _) _⟩
set_option maxHeartbeats 1000000 in
theorem rwidth_ok (c : Int) (w : World) (h0 : 0 ≤ c) (h : c < 6) :
    Calls Try.prog 28 #[.int .i64 c] w fun e w' => e = .returned (.int .i64 (widthOf c.toNat : Nat)) ∧ w = w' := by
  have hc : c = 0 ∨ c = 1 ∨ c = 2 ∨ c = 3 ∨ c = 4 ∨ c = 5 := by omega
  rcases hc with rfl | rfl | rfl | rfl | rfl | rfl
  all_goals
    go_enter Try.func28, Try.ntmps28
    go_wp2
    go_ret
    exact ⟨rfl, rfl⟩
set_option maxHeartbeats 1000000 in
theorem rwidth_no (c : Int) (w : World) (h : c < 0 ∨ 6 ≤ c) :
    Calls Try.prog 28 #[.int .i64 c] w fun e w' => e = .returned (.int .i64 (-1)) ∧ w = w' := by
  have e0 : (c == 0) = false := beq_eq_false_iff_ne.2 (by omega)
  have e1 : (c == 1) = false := beq_eq_false_iff_ne.2 (by omega)
  have e2 : (c == 2) = false := beq_eq_false_iff_ne.2 (by omega)
  have e3 : (c == 3) = false := beq_eq_false_iff_ne.2 (by omega)
  have e4 : (c == 4) = false := beq_eq_false_iff_ne.2 (by omega)
  have e5 : (c == 5) = false := beq_eq_false_iff_ne.2 (by omega)
  go_enter Try.func28, Try.ntmps28
  go_wp2
  go_ret
  exact ⟨rfl, rfl⟩

end Go.Proofs.Ytcpapdjjeinpmaa
