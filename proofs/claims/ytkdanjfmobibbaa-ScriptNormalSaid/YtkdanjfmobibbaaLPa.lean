/- Plain facts on this seat's mirrors (part LPa); each theorem bears its own conditions. -/
import Derived.Test.YtkdanjfmobibbaaLPg
import Derived.IntWalk
namespace Go.Proofs.Ytkdanjfmobibbaa
open Go.RowKit
set_option linter.unusedVariables false
set_option linter.unusedSimpArgs false
abbrev Stp := S_centoref17_Step
abbrev A3 := Arr Int 3
def rgt (s : Stp) : Bool := decide (0 ≤ s.Kind) && (decide (s.Kind ≤ 2) && (decide (1 ≤ s.N) && decide (s.N ≤ 1048576)))
theorem rgt_iff {s : Stp} : rgt s = true ↔ 0 ≤ s.Kind ∧ s.Kind ≤ 2 ∧ 1 ≤ s.N ∧ s.N ≤ 1048576 := by
  unfold rgt
  simp only [Bool.and_eq_true, decide_eq_true_eq]
theorem may_ok (s : Stp) : m_script_Step_may s = some (rgt s) := by
  unfold m_script_Step_may rgt
  cases decide (0 ≤ s.Kind) <;> cases decide (s.Kind ≤ 2) <;> cases decide (1 ≤ s.N) <;> rfl
theorem rright_ok (s : Stp) : m_centoref17_Right s = some (rgt s) := by
  unfold m_centoref17_Right rgt
  cases decide (0 ≤ s.Kind) <;> cases decide (s.Kind ≤ 2) <;> cases decide (1 ≤ s.N) <;> rfl
theorem app1 {l : List Stp} {x : Stp} {k : Nat} (h : l.length ≤ k) (hk : k ≤ 1000) : appI 16 l [x] = some (l ++ [x]) := appI_ok (by rw [List.length_cons, List.length_nil]; omega) (by rw [List.length_cons, List.length_nil]; omega)
theorem foldl_snoc {α : Type} : ∀ (l acc : List α), l.foldl (fun a x => a ++ [x]) acc = acc ++ l
  | [], acc => by simp
  | x :: l, acc => by rw [List.foldl_cons, foldl_snoc l, List.append_assoc]; rfl
theorem mine_ok (l : List Stp) (hl : l.length ≤ 999) : m_centolaw17_Mine l = some l := by
  unfold m_centolaw17_Mine
  have := (loop_mk l (fun i (a : List Stp) => (i, a)) (fun a x => a ++ [x]) id (fun a k => a.length ≤ k) (m_centolaw17_Mine_L0 l) (fun i a x hi hx hI => by
    unfold m_centolaw17_Mine_L0
    rw [show decide ((i : Int) < (l.length : Int)) = true from decide_eq_true (by omega), getI_of hx, w64 (by omega) (by omega)]
    refine ⟨?_, by rw [List.length_append]; simp; omega⟩
    simp only [cond_true, Option.bind_some]
    rw [app1 hI (by omega)]
    rfl) (fun a _ => by
    unfold m_centolaw17_Mine_L0
    rw [show decide ((l.length : Int) < (l.length : Int)) = false from decide_eq_false (by omega)]
    rfl) [] (Nat.le_refl _)).1
  rw [this, foldl_snoc]
  rfl
theorem theirs_ok (l : List Stp) (hl : l.length ≤ 999) : m_centolaw17_Theirs l = some l := by
  unfold m_centolaw17_Theirs
  have := (loop_mk l (fun i (a : List Stp) => (i, a)) (fun a x => a ++ [x]) id (fun a k => a.length ≤ k) (m_centolaw17_Theirs_L0 l) (fun i a x hi hx hI => by
    unfold m_centolaw17_Theirs_L0
    rw [show decide ((i : Int) < (l.length : Int)) = true from decide_eq_true (by omega), getI_of hx, w64 (by omega) (by omega)]
    refine ⟨?_, by rw [List.length_append]; simp; omega⟩
    simp only [cond_true, Option.bind_some]
    rw [app1 hI (by omega)]
    rfl) (fun a _ => by
    unfold m_centolaw17_Theirs_L0
    rw [show decide ((l.length : Int) < (l.length : Int)) = false from decide_eq_false (by omega)]
    rfl) [] (Nat.le_refl _)).1
  rw [this, foldl_snoc]
  rfl
theorem same17 (a : List Stp) (hl : a.length ≤ 2000) : m_centoref17_Same a a = some true := by
  unfold m_centoref17_Same
  rw [show ((a.length : Int) != (a.length : Int)) = false from bne_self_eq_false _]
  rw [loop_st0 a (m_centoref17_Same_L0 a a) (fun _ => true) (.inl ()) (.inr ()) (by omega) (fun i x hi hx => by
    unfold m_centoref17_Same_L0
    rw [show decide ((i : Int) < (a.length : Int)) = true from decide_eq_true (by omega), getI_of hx]
    simp) (by
    unfold m_centoref17_Same_L0
    rw [show decide ((a.length : Int) < (a.length : Int)) = false from decide_eq_false (by omega)]
    rfl)]
  simp
/-- three numbers -/
def a3 (a b c : Int) : A3 := ⟨[a, b, c], rfl⟩
theorem a3_of (g : A3) : ∃ a b c, g = a3 a b c := by
  obtain ⟨l, h⟩ := g
  match l, h with
  | [a, b, c], _ => exact ⟨a, b, c, rfl⟩
def at3 (g : A3) (k : Int) : Int := (g.1[k.toNat]?).getD 0
theorem at3_get (g : A3) {k : Int} (h : 0 ≤ k ∧ k ≤ 2) : getI g.1 k = some (at3 g k) := by
  unfold getI at3
  rw [if_pos h.1]
  have : k.toNat < g.1.length := by rw [g.2]; omega
  rw [List.getElem?_eq_getElem this]
  rfl
theorem k3 {k : Int} (h : 0 ≤ k ∧ k ≤ 2) : k = 0 ∨ k = 1 ∨ k = 2 := by omega
/-- numbers that are small -/
def sm (g : A3) (B : Int) : Prop := ∀ k, 0 ≤ k ∧ k ≤ 2 → 0 ≤ at3 g k ∧ at3 g k ≤ B
theorem at3_put (g : A3) {k j : Int} (h : 0 ≤ k ∧ k ≤ 2) (hj : 0 ≤ j ∧ j ≤ 2) (x : Int) : at3 (g.put k x) j = if j = k then x else at3 g j := by
  obtain ⟨a, b, c, rfl⟩ := a3_of g
  rcases k3 h with rfl | rfl | rfl <;> rcases k3 hj with rfl | rfl | rfl <;> rfl
theorem sm_put {g : A3} {B B' : Int} (h : sm g B) (hB : B ≤ B') {k x : Int} (hk : 0 ≤ k ∧ k ≤ 2) (hx : 0 ≤ x ∧ x ≤ B') : sm (g.put k x) B' := fun j hj => by
  rw [at3_put g hk hj]
  split
  · exact hx
  · have := h j hj; omega
/-- how many of each kind -/
def cntF (g : A3) (x : Stp) : A3 := if rgt x = true then g.put x.Kind (IntKind.i64.wrap (at3 g x.Kind + x.N)) else g
def cnt (l : List Stp) : A3 := l.foldl cntF (a3 0 0 0)
theorem cntF_sm {g : A3} {i : Nat} (h : sm g ((i : Int) * 1048576)) (hi : i ≤ 1000) (x : Stp) : sm (cntF g x) (((i + 1 : Nat) : Int) * 1048576) := by
  unfold cntF
  cases hr : rgt x with
  | false => intro j hj; have := h j hj; simp only [Bool.false_eq_true, if_false]; omega
  | true =>
    obtain ⟨h0, h1, h2, h3⟩ := rgt_iff.1 hr
    have := h x.Kind ⟨h0, h1⟩
    rw [if_pos rfl, w64 (by omega) (by omega)]
    exact sm_put h (by omega) ⟨h0, h1⟩ (by omega)
theorem sm0 : sm (a3 0 0 0) (((0 : Nat) : Int) * 1048576) := fun k hk => by
  rcases k3 hk with rfl | rfl | rfl <;> decide
theorem counts_ok (l : List Stp) (hl : l.length ≤ 999) : m_script_Counts l = some (cnt l) ∧ sm (cnt l) ((l.length : Int) * 1048576) := by
  have := loop_mk l (fun i (g : A3) => (i, g)) cntF id (fun g k => sm g ((k : Int) * 1048576)) (m_script_Counts_L0 l) (fun i g x hi hx hI => by
    refine ⟨?_, cntF_sm hI (by omega) x⟩
    unfold m_script_Counts_L0
    rw [show decide ((i : Int) < (l.length : Int)) = true from decide_eq_true (by omega), getI_of hx, w64 (by omega) (by omega)]
    simp only [cond_true, Option.bind_some, may_ok]
    unfold cntF
    cases hr : rgt x with
    | false => rfl
    | true =>
      obtain ⟨h0, h1, h2, h3⟩ := rgt_iff.1 hr
      rw [at3_get g ⟨h0, h1⟩]
      rfl) (fun g _ => by
    unfold m_script_Counts_L0
    rw [show decide ((l.length : Int) < (l.length : Int)) = false from decide_eq_false (by omega)]
    rfl) (a3 0 0 0) sm0
  refine ⟨?_, this.2⟩
  unfold m_script_Counts
  simp only [Option.bind_some]
  exact (congrArg (fun z => Option.bind z _) this.1).trans rfl
theorem count_loop (l : List Stp) (hl : l.length ≤ 999) : runLoop (m_centolaw17_ScriptNormal_L0 l) (0, a3 0 0 0) = some (cnt l) :=
  (loop_mk l (fun i (g : A3) => (i, g)) cntF id (fun g k => sm g ((k : Int) * 1048576)) (m_centolaw17_ScriptNormal_L0 l) (fun i g x hi hx hI => by
    refine ⟨?_, cntF_sm hI (by omega) x⟩
    unfold m_centolaw17_ScriptNormal_L0
    rw [show decide ((i : Int) < (l.length : Int)) = true from decide_eq_true (by omega), getI_of hx, w64 (by omega) (by omega)]
    simp only [cond_true, Option.bind_some, rright_ok]
    unfold cntF
    cases hr : rgt x with
    | false => rfl
    | true =>
      obtain ⟨h0, h1, h2, h3⟩ := rgt_iff.1 hr
      rw [at3_get g ⟨h0, h1⟩]
      rfl) (fun g _ => by
    unfold m_centolaw17_ScriptNormal_L0
    rw [show decide ((l.length : Int) < (l.length : Int)) = false from decide_eq_false (by omega)]
    rfl) (a3 0 0 0) sm0).1
theorem sizes_ok (l : List Stp) (hl : l.length ≤ 999) : m_script_Sizes l = some (if l.all rgt = true then (at3 (cnt l) 0 + at3 (cnt l) 1, at3 (cnt l) 0 + at3 (cnt l) 2, true) else (0, 0, false)) := by
  unfold m_script_Sizes
  rw [loop_st0 l (m_script_Sizes_L0 l) rgt (.inl ()) (.inr ()) (by omega) (fun i x hi hx => by
    unfold m_script_Sizes_L0
    rw [show decide ((i : Int) < (l.length : Int)) = true from decide_eq_true (by omega), getI_of hx]
    simp only [cond_true, Option.bind_some, may_ok]
    cases rgt x <;> rfl) (by
    unfold m_script_Sizes_L0
    rw [show decide ((l.length : Int) < (l.length : Int)) = false from decide_eq_false (by omega)]
    rfl)]
  cases l.all rgt with
  | false => rfl
  | true =>
    obtain ⟨c1, c2⟩ := counts_ok l hl
    have b0 := c2 0 (by decide)
    have b1 := c2 1 (by decide)
    have b2 := c2 2 (by decide)
    simp only [if_true, Option.bind_some, c1]
    rw [at3_get _ (k := 0) (by decide), at3_get _ (k := 1) (by decide), at3_get _ (k := 2) (by decide)]
    simp only [Option.bind_some]
    rw [w64 (by omega) (by omega), w64 (by omega) (by omega)]
/-- the reference's sizes -/
theorem rsizes_ok (l : List Stp) (hl : l.length ≤ 999) : m_centoref17_Sizes l = some (if l.all rgt = true then (at3 (cnt l) 0 + at3 (cnt l) 1, at3 (cnt l) 0 + at3 (cnt l) 2, true) else (0, 0, false)) := by
  have key : ∀ (r : List Stp) (i : Nat) (g : A3), l.drop i = r → i ≤ l.length → sm g ((i : Int) * 1048576) →
      runLoop (m_centoref17_Sizes_L0 l) (at3 g 0 + at3 g 1, at3 g 0 + at3 g 2, (i : Int)) = some (if r.all rgt = true then .inr (at3 (r.foldl cntF g) 0 + at3 (r.foldl cntF g) 1, at3 (r.foldl cntF g) 0 + at3 (r.foldl cntF g) 2) else .inl ()) := fun r => by
    induction r with
    | nil =>
      intro i g hd hi hg
      have e : i = l.length := by
        have := congrArg List.length hd
        rw [List.length_drop, List.length_nil] at this
        omega
      subst e
      refine runLoop_end ?_
      unfold m_centoref17_Sizes_L0
      simp only
      rw [show decide ((l.length : Int) < (l.length : Int)) = false from decide_eq_false (by omega)]
      rfl
    | cons x r ih =>
      intro i g hd hi hg
      have hi' : i < l.length := by
        rcases Nat.lt_or_ge i l.length with q | q
        · exact q
        · rw [List.drop_eq_nil_of_le q] at hd; cases hd
      have hx : l[i]? = some x := by
        have := congrArg (·[0]?) hd
        simpa using this
      have hd' : l.drop (i + 1) = r := by
        have := congrArg (List.drop 1) hd
        rw [List.drop_drop] at this
        simpa [Nat.add_comm] using this
      have b0 := hg 0 (by decide)
      have b1 := hg 1 (by decide)
      have b2 := hg 2 (by decide)
      rw [List.all_cons, List.foldl_cons]
      cases hr : rgt x with
      | false =>
        refine runLoop_end ?_
        unfold m_centoref17_Sizes_L0
        simp only
        rw [show decide ((i : Int) < (l.length : Int)) = true from decide_eq_true (by omega), getI_of hx]
        simp [rright_ok, hr]
      | true =>
        obtain ⟨h0, h1, h2, h3⟩ := rgt_iff.1 hr
        have hs := cntF_sm hg (by omega) x
        have e0 : at3 (cntF g x) 0 = if x.Kind = 0 then at3 g 0 + x.N else at3 g 0 := by
          unfold cntF
          rw [if_pos hr, at3_put g ⟨h0, h1⟩ (by decide)]
          split
          · rename_i e; rw [if_pos e.symm, ← e]; rw [w64 (by omega) (by omega)]
          · rename_i e; rw [if_neg (fun q => e q.symm)]
        have e1 : at3 (cntF g x) 1 = if x.Kind = 1 then at3 g 1 + x.N else at3 g 1 := by
          unfold cntF
          rw [if_pos hr, at3_put g ⟨h0, h1⟩ (by decide)]
          split
          · rename_i e; rw [if_pos e.symm, ← e]; rw [w64 (by omega) (by omega)]
          · rename_i e; rw [if_neg (fun q => e q.symm)]
        have e2 : at3 (cntF g x) 2 = if x.Kind = 2 then at3 g 2 + x.N else at3 g 2 := by
          unfold cntF
          rw [if_pos hr, at3_put g ⟨h0, h1⟩ (by decide)]
          split
          · rename_i e; rw [if_pos e.symm, ← e]; rw [w64 (by omega) (by omega)]
          · rename_i e; rw [if_neg (fun q => e q.symm)]
        have hstep : m_centoref17_Sizes_L0 l (at3 g 0 + at3 g 1, at3 g 0 + at3 g 2, (i : Int)) = some (.inl (at3 (cntF g x) 0 + at3 (cntF g x) 1, at3 (cntF g x) 0 + at3 (cntF g x) 2, ((i + 1 : Nat) : Int))) := by
          unfold m_centoref17_Sizes_L0
          simp only
          rw [show decide ((i : Int) < (l.length : Int)) = true from decide_eq_true (by omega), getI_of hx]
          simp only [cond_true, Option.bind_some, rright_ok, hr, Bool.not_true, cond_false]
          rw [e0, e1, e2, w64 (x := (i : Int) + 1) (by omega) (by omega)]
          rcases k3 ⟨h0, h1⟩ with hk | hk | hk
          · simp only [hk]
            simp only [show decide ((0 : Int) < 2) = true from rfl, show ((0 : Int) != 1) = true from rfl, cond_true, Option.bind_some, if_true, show ¬ (0 : Int) = 1 from by decide, show ¬ (0 : Int) = 2 from by decide, if_false]
            rw [w64 (by omega) (by omega), w64 (by omega) (by omega)]
            simp only [Option.some.injEq, Sum.inl.injEq, Prod.mk.injEq, true_and]
            omega
          · simp only [hk]
            simp only [show decide ((1 : Int) < 2) = true from rfl, show ((1 : Int) != 1) = false from rfl, cond_true, cond_false, Option.bind_some, if_true, show ¬ (1 : Int) = 0 from by decide, show ¬ (1 : Int) = 2 from by decide, if_false]
            rw [w64 (by omega) (by omega)]
            simp only [Option.some.injEq, Sum.inl.injEq, Prod.mk.injEq, true_and]
            omega
          · simp only [hk]
            simp only [show decide ((2 : Int) < 2) = false from rfl, show ((2 : Int) != 1) = true from rfl, cond_true, cond_false, Option.bind_some, if_true, show ¬ (2 : Int) = 0 from by decide, show ¬ (2 : Int) = 1 from by decide, if_false]
            rw [w64 (by omega) (by omega)]
            simp only [Option.some.injEq, Sum.inl.injEq, Prod.mk.injEq, true_and]
            omega
        rw [runLoop_step hstep, Bool.true_and]
        exact ih (i + 1) _ hd' (by omega) hs
  have := key l 0 (a3 0 0 0) rfl (Nat.zero_le _) sm0
  unfold m_centoref17_Sizes
  rw [show ((0 : Int), (0 : Int), (0 : Int)) = (at3 (a3 0 0 0) 0 + at3 (a3 0 0 0) 1, at3 (a3 0 0 0) 0 + at3 (a3 0 0 0) 2, ((0 : Nat) : Int)) from rfl, this]
  unfold cnt
  cases l.all rgt <;> rfl

end Go.Proofs.Ytkdanjfmobibbaa
