/- Plain facts on this seat's mirrors (part LPg); each theorem bears its own conditions. -/
import Derived.Test.YtkdanjfmobibbaaLD
import Derived.Test.YtkdanjfmobibbaaLE
import Derived.IntWalk
namespace Go.Proofs.Ytkdanjfmobibbaa
open Go.RowKit
set_option linter.unusedVariables false
set_option linter.unusedSimpArgs false
theorem w64 {x : Int} (h1 : -9223372036854775808 ≤ x) (h2 : x ≤ 9223372036854775807) : IntKind.i64.wrap x = x := i64w ⟨h1, h2⟩
theorem loop_st0 {α R : Type} (xs : List α) (step : Int → Option (Int ⊕ R)) (p : α → Bool) (e o : R) (hl : (xs.length : Int) ≤ 140737488355328)
    (h1 : ∀ (i : Nat) (x : α), i < xs.length → xs[i]? = some x → step (i : Int) = some (if p x = true then .inl (IntKind.i64.wrap ((i : Int) + 1)) else .inr e)) (h2 : step (xs.length : Int) = some (.inr o)) : runLoop step 0 = some (if xs.all p = true then o else e) := by
  have hloop := loop_each xs (fun i (_ : Unit) => i) step (fun _ x => some (if p x = true then .inl () else .inr e)) (fun _ => o) (fun i u x hi hx => by
    rw [h1 i x hi hx, w64 (by omega) (by omega)]
    cases p x <;> rfl) (fun _ => h2) ()
  refine hloop.trans ?_
  rw [foldE_find (fun x => !p x) (fun s _ => s) e (fun _ _ => True) xs.length xs () 0 (by omega) trivial (fun s k x _ _ _ => ⟨by cases p x <;> rfl, fun _ => trivial⟩)]
  congr 1
  have : (xs.any fun x => !p x) = !(xs.all p) := by simp [List.all_eq_not_any_not]
  rw [this]
  cases xs.all p <;> rfl
/-- rounds that make something, with what holds after so many -/
theorem loop_mk {α S R σ : Type} (xs : List α) (mk : Int → S → σ) (f : S → α → S) (out : S → R) (I : S → Nat → Prop) (step : σ → Option (σ ⊕ R))
    (h1 : ∀ (i : Nat) (s : S) (x : α), i < xs.length → xs[i]? = some x → I s i → step (mk i s) = some (.inl (mk ((i + 1 : Nat) : Int) (f s x))) ∧ I (f s x) (i + 1)) (h2 : ∀ s, I s xs.length → step (mk xs.length s) = some (.inr (out s))) (s : S) (hs : I s 0) : runLoop step (mk 0 s) = some (out (xs.foldl f s)) ∧ I (xs.foldl f s) xs.length := by
  have key : ∀ (l pre : List α) (s : S), xs = pre ++ l → I s pre.length → runLoop step (mk (pre.length : Nat) s) = some (out (l.foldl f s)) ∧ I (l.foldl f s) xs.length := fun l => by
    induction l with
    | nil =>
      intro pre s hp hI
      rw [List.append_nil] at hp
      subst hp
      rw [List.foldl_nil]
      exact ⟨runLoop_end (h2 s hI), hI⟩
    | cons x l ih =>
      intro pre s hp hI
      have hx : xs[pre.length]? = some x := by rw [hp, List.getElem?_append_right (Nat.le_refl _)]; simp
      have hlt : pre.length < xs.length := by rw [hp, List.length_append, List.length_cons]; omega
      obtain ⟨g1, g2⟩ := h1 pre.length s x hlt hx hI
      rw [runLoop_step g1, List.foldl_cons]
      have := ih (pre ++ [x]) (f s x) (by rw [hp, List.append_assoc]; rfl) (by rw [List.length_append]; exact g2)
      rw [List.length_append] at this
      exact this
  exact key xs [] s rfl hs

end Go.Proofs.Ytkdanjfmobibbaa
