/- Plain facts on this seat's mirrors (part BPz); each theorem bears its own conditions. -/
import Derived.Test.YtjeolggpgclgkaaBD
import Derived.Test.YtjeolggpgclgkaaBE
import Derived.IntWalk
namespace Go.Proofs.Ytjeolggpgclgkaa
open Go.RowKit
set_option linter.unusedVariables false
set_option linter.unusedSimpArgs false
abbrev Tr := S_api_Tree
theorem i64s {x : Int} (h1 : -9223372036854775808 ≤ x) (h2 : x ≤ 9223372036854775807) : IntKind.i64.wrap x = x := i64w ⟨h1, h2⟩
/-- what an index counts up to -/
theorem kid_lt {t x : Tr} (h : x ∈ t.Kids) : SizeOf.sizeOf x < SizeOf.sizeOf t := by
  obtain ⟨k, w, ks⟩ := t
  have := List.sizeOf_lt_of_mem h
  simp only [S_api_Tree.mk.sizeOf_spec]
  simp only at this
  omega
/-- rounds over a list's kids with an index alone -/
theorem loop_any {α R : Type} (xs : List α) (step : Int → Option (Int ⊕ R)) (p : α → Bool) (e o : R) (hl : (xs.length : Int) ≤ 140737488355328)
    (h1 : ∀ (i : Nat) (x : α), i < xs.length → xs[i]? = some x → x ∈ xs → step i = some (if p x = true then .inr e else .inl (IntKind.i64.wrap ((i : Int) + 1)))) (h2 : step xs.length = some (.inr o)) : runLoop step 0 = some (if xs.any p = true then e else o) := by
  have hloop := loop_each xs (fun i (_ : Unit) => i) step (fun _ x => some (if p x = true then .inr e else .inl ())) (fun _ => o) (fun i s x hi hx => by
    rw [h1 i x hi hx (List.mem_of_getElem? hx), i64s (by omega) (by omega)]
    cases p x <;> rfl) (fun _ => h2) ()
  refine hloop.trans ?_
  rw [foldE_find p (fun s _ => s) e (fun _ _ => True) xs.length xs () 0 (by omega) trivial (fun s k x _ _ _ => ⟨by cases p x <;> rfl, fun _ => trivial⟩)]
theorem lt_t {i n : Nat} (h : i < n) : decide ((i : Int) < (n : Int)) = true := by rw [decide_eq_true_eq]; omega
theorem lt_f {n : Nat} : decide ((n : Int) < (n : Int)) = false := by rw [decide_eq_false_iff_not]; omega
theorem gt_t {n : Nat} : decide (0 < ((n + 1 : Nat) : Int)) = true := by rw [decide_eq_true_eq]; omega
/-- lengths and words as memory has them, all the way down -/
inductive Bd : Tr → Prop
  | mk (t : Tr) (h1 : t.Words.length * 8 ≤ 140737488355328) (h2 : t.Kids.length * 56 ≤ 140737488355328) (h3 : ∀ w ∈ t.Words, 0 ≤ w ∧ w < 18446744073709551616) (h4 : ∀ k ∈ t.Kids, Bd k) : Bd t
theorem Bd.w {t : Tr} (h : Bd t) : t.Words.length * 8 ≤ 140737488355328 := by cases h; assumption
theorem Bd.k {t : Tr} (h : Bd t) : t.Kids.length * 56 ≤ 140737488355328 := by cases h; assumption
theorem Bd.u {t : Tr} (h : Bd t) : ∀ w ∈ t.Words, 0 ≤ w ∧ w < 18446744073709551616 := by cases h; assumption
theorem Bd.all {t : Tr} (h : Bd t) : ∀ k ∈ t.Kids, Bd k := by cases h; assumption
end Go.Proofs.Ytjeolggpgclgkaa
