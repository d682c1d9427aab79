/- Plain facts on this seat's mirrors (part AP3d); each theorem bears its own conditions. -/
import Derived.Test.YtgijkjifiekkmaaAP3c
import Derived.IntWalk
namespace Go.Proofs.Ytgijkjifiekkmaa
open Go.RowKit
set_option linter.unusedVariables false
set_option linter.unusedSimpArgs false
/-- segments' sizes -/
def isN (x : Int) : Prop := 0 ≤ x ∧ x ≤ 65536
def sumP : List Int → Nat
  | [] => 0
  | x :: l => x.toNat + sumP l
def cutP : List Int → List Int → List (List Int)
  | [], _ => []
  | n :: l, r => wordsP (r.take (8 * n.toNat)) :: cutP l (r.drop (8 * n.toNat))
theorem sum_fold : ∀ (l : List Int), (∀ x ∈ l, isN x) → ∀ s : Int, l.foldl (fun s x => s + x) s = s + sumP l
  | [], _, s => by simp [sumP]
  | x :: l, h, s => by
    have hx := h x (.head _)
    unfold isN at hx
    rw [List.foldl_cons, sum_fold l (fun y hy => h y (.tail _ hy))]
    simp only [sumP]
    omega
theorem sumP_le : ∀ (l : List Int), (∀ x ∈ l, isN x) → sumP l ≤ 65536 * l.length
  | [], _ => by simp [sumP]
  | x :: l, h => by
    have hx := h x (.head _)
    unfold isN at hx
    have := sumP_le l (fun y hy => h y (.tail _ hy))
    simp only [sumP, List.length_cons]
    omega
theorem unf_l0 (y : List Int × Int) (hy : ∀ x ∈ y.1, isN x) (hl : y.1.length ≤ 1000) : runLoop (m_frame_Unframe_L0 y) (0, 0) = some (sumP y.1 : Int) := by
  have hloop := loop_each y.1 (fun i (s : Int) => (s, i)) (m_frame_Unframe_L0 y) (fun s x => some (.inl (IntKind.i64.wrap (s + x)))) (fun s => s) (fun i s x hi hx => by
    unfold m_frame_Unframe_L0
    simp only
    have : decide ((i : Int) < y.1.length) = true := by rw [decide_eq_true_eq]; omega
    rw [this, cond_true, getI_of hx, Option.bind_some, i64w (x := (i : Int) + 1) (by omega)]
    rfl) (fun s => by
    unfold m_frame_Unframe_L0
    simp only
    have : decide ((y.1.length : Int) < y.1.length) = false := by rw [decide_eq_false_iff_not]; omega
    rw [this, cond_false]) 0
  refine hloop.trans ?_
  rw [foldE_map (fun (s : Int) (x : Int) => s + x) (fun (s : Int) k => 0 ≤ s ∧ s ≤ 65536 * (k : Int)) y.1.length y.1 0 0 (by omega) (by omega) (fun s k x hx hk hI => ?_), sum_fold y.1 hy, Int.zero_add]
  have := hy x hx
  unfold isN at this
  rw [i64w (by omega)]
  exact ⟨rfl, by omega⟩
theorem unf_l1 (y : List Int × Int) (hy : ∀ x ∈ y.1, isN x) (hl : y.1.length ≤ 1000) (r : List Int) (hr : ∀ x ∈ r, isB x) (hrl : r.length = 8 * sumP y.1) :
    runLoop (m_frame_Unframe_L1 y) (r, 0, []) = some (cutP y.1 r) := by
  have hloop := loop_each y.1 (fun i (s : List Int × List (List Int)) => (s.1, i, s.2)) (m_frame_Unframe_L1 y) (fun s x => (subI s.1 0 (IntKind.i64.wrap (8 * x))).bind fun l15 => (m_word_Words l15).bind fun y16 => (appI 24 s.2 ([y16.1] : List (List Int))).bind fun l18 => (subI s.1 (IntKind.i64.wrap (8 * x)) (s.1.length : Int)).bind fun l19 => some (.inl (l19, l18))) (fun s => s.2) (fun i s x hi hx => by
    unfold m_frame_Unframe_L1
    simp only
    have : decide ((i : Int) < y.1.length) = true := by rw [decide_eq_true_eq]; omega
    rw [this, cond_true, getI_of hx, Option.bind_some, i64w (x := (i : Int) + 1) (by omega)]
    cases subI s.1 0 (IntKind.i64.wrap (8 * x)) with
    | none => rfl
    | some l15 =>
      simp only [Option.bind_some]
      cases m_word_Words l15 with
      | none => rfl
      | some y16 =>
        simp only [Option.bind_some]
        cases appI 24 s.2 ([y16.1] : List (List Int)) with
        | none => rfl
        | some l18 =>
          simp only [Option.bind_some]
          cases subI s.1 (IntKind.i64.wrap (8 * x)) (s.1.length : Int) with
          | none => rfl
          | some l19 => rfl) (fun s => by
    unfold m_frame_Unframe_L1
    simp only
    have : decide ((y.1.length : Int) < y.1.length) = false := by rw [decide_eq_false_iff_not]; omega
    rw [this, cond_false]) (r, [])
  refine hloop.trans ?_
  have key : ∀ (l : List Int) (r : List Int) (out : List (List Int)), (∀ x ∈ l, isN x) → (∀ x ∈ r, isB x) → r.length = 8 * sumP l → out.length + l.length ≤ 1000 → sumP l ≤ 100000000 →
      foldE (fun (s : List Int × List (List Int)) x => (subI s.1 0 (IntKind.i64.wrap (8 * x))).bind fun l15 => (m_word_Words l15).bind fun y16 => (appI 24 s.2 ([y16.1] : List (List Int))).bind fun l18 => (subI s.1 (IntKind.i64.wrap (8 * x)) (s.1.length : Int)).bind fun l19 => some (.inl (l19, l18))) (fun s => s.2) l (r, out) = some (out ++ cutP l r) := fun l => by
    induction l with
    | nil => intro r out _ _ _ _ _; simp [foldE, cutP]
    | cons x l ih =>
      intro r out hx hr hrl ho hs
      have h0 := hx x (.head _)
      unfold isN at h0
      simp only [sumP] at hrl hs
      rw [List.length_cons] at ho
      unfold foldE
      simp only
      rw [i64w (x := 8 * x) (by omega), subI_ok (by omega) (by omega) (by omega), Option.bind_some]
      have e1 : ((r.drop (Int.toNat 0)).take ((8 * x) - 0).toNat) = r.take (8 * x.toNat) := by
        rw [show ((8 * x) - 0).toNat = 8 * x.toNat by omega]; rfl
      have e2 : ((r.drop (8 * x).toNat).take ((r.length : Int) - 8 * x).toNat) = r.drop (8 * x.toNat) := by
        rw [show (8 * x).toNat = 8 * x.toNat by omega, List.take_of_length_le (by rw [List.length_drop]; omega)]
      have e3 : (r.take (8 * x.toNat)).length = 8 * x.toNat := by rw [List.length_take]; omega
      rw [e1, words_p _ (fun z hz => hr z (List.mem_of_mem_take hz)) (by omega), if_pos (by omega), Option.bind_some, appI_ok (by simp only [List.length_cons, List.length_nil]; omega) (by simp only [List.length_cons, List.length_nil]; omega), Option.bind_some, subI_ok (by omega) (by omega) (by omega), Option.bind_some, e2]
      have := ih (r.drop (8 * x.toNat)) (out ++ [wordsP (r.take (8 * x.toNat))]) (fun z hz => hx z (.tail _ hz)) (fun z hz => hr z (List.mem_of_mem_drop hz)) (by rw [List.length_drop]; omega) (by rw [List.length_append]; simp only [List.length_cons, List.length_nil]; omega) (by omega)
      simp only
      rw [this]
      simp [cutP]
  have hsum := sumP_le y.1 hy
  have := key y.1 r [] hy hr hrl (by simp only [List.length_nil]; omega) (by omega)
  rw [List.nil_append] at this
  exact this

end Go.Proofs.Ytgijkjifiekkmaa
