/- Plain facts on this seat's mirrors (part BPb); each theorem bears its own conditions. -/
import Derived.Test.YtjeolggpgclgkaaBPa
import Derived.Test.YtjeolggpgclgkaaBPw
import Derived.IntWalk
namespace Go.Proofs.Ytjeolggpgclgkaa
open Go.RowKit
set_option linter.unusedVariables false
set_option linter.unusedSimpArgs false
abbrev Ed := S_api_Edit
theorem kidE_lt {e : Ed} {k : S_api_KidEdit} (h : k ∈ e.Kids) : SizeOf.sizeOf k.E < SizeOf.sizeOf e := by
  obtain ⟨a, b, c, d, ks, f, g⟩ := e
  obtain ⟨i, x⟩ := k
  have h1 := List.sizeOf_lt_of_mem h
  simp only [S_api_Edit.mk.sizeOf_spec, S_api_KidEdit.mk.sizeOf_spec] at h1 ⊢
  omega
theorem opE_lt {e : Ed} {o : S_api_Op} (h : o ∈ e.Ops) : SizeOf.sizeOf o.E < SizeOf.sizeOf e := by
  obtain ⟨a, b, c, d, ks, f, os⟩ := e
  obtain ⟨i, n, l, x⟩ := o
  have h1 := List.sizeOf_lt_of_mem h
  simp only [S_api_Edit.mk.sizeOf_spec, S_api_Op.mk.sizeOf_spec] at h1 ⊢
  omega
theorem edit_pos (e : Ed) : 0 < SizeOf.sizeOf e := by
  obtain ⟨a, b, c, d, ks, f, g⟩ := e
  simp only [S_api_Edit.mk.sizeOf_spec]
  omega
/-- an edit's lists are as long as may be, its words are words -/
inductive BE : Ed → Prop
  | mk (e : Ed) (h1 : Bd e.Old) (h2 : Bd e.New) (h3 : (e.Words.length : Int) ≤ 140737488355328) (h4 : ∀ w ∈ e.Words, (0 ≤ w.Mask ∧ w.Mask < 256) ∧ (0 ≤ w.Old ∧ w.Old < 18446744073709551616) ∧ (0 ≤ w.New ∧ w.New < 18446744073709551616))
      (h5 : (e.Kids.length : Int) ≤ 140737488355328) (h6 : ∀ k ∈ e.Kids, BE k.E) (h7 : (e.Ops.length : Int) ≤ 140737488355328) (h8 : ∀ o ∈ e.Ops, o.L.length * 56 ≤ 140737488355328 ∧ ∀ t ∈ o.L, Bd t) (h9 : ∀ o ∈ e.Ops, BE o.E) : BE e
theorem BE.old {e : Ed} (h : BE e) : Bd e.Old := by cases h; assumption
theorem BE.new {e : Ed} (h : BE e) : Bd e.New := by cases h; assumption
theorem BE.w {e : Ed} (h : BE e) : (e.Words.length : Int) ≤ 140737488355328 := by cases h; assumption
theorem BE.ws {e : Ed} (h : BE e) : ∀ w ∈ e.Words, (0 ≤ w.Mask ∧ w.Mask < 256) ∧ (0 ≤ w.Old ∧ w.Old < 18446744073709551616) ∧ (0 ≤ w.New ∧ w.New < 18446744073709551616) := by cases h; assumption
theorem BE.k {e : Ed} (h : BE e) : (e.Kids.length : Int) ≤ 140737488355328 := by cases h; assumption
theorem BE.ks {e : Ed} (h : BE e) : ∀ k ∈ e.Kids, BE k.E := by cases h; assumption
theorem BE.o {e : Ed} (h : BE e) : (e.Ops.length : Int) ≤ 140737488355328 := by cases h; assumption
theorem BE.l {e : Ed} (h : BE e) : ∀ o ∈ e.Ops, o.L.length * 56 ≤ 140737488355328 ∧ ∀ t ∈ o.L, Bd t := by cases h; assumption
theorem BE.os {e : Ed} (h : BE e) : ∀ o ∈ e.Ops, BE o.E := by cases h; assumption
theorem cond_beq {α : Type} (a b : Int) (x y : α) : cond (a == b) x y = if a = b then x else y := by
  by_cases h : a = b
  · rw [beq_iff_eq.2 h, if_pos h]; rfl
  · rw [beq_eq_false_iff_ne.2 h, if_neg h]; rfl
theorem cond_bne {α : Type} (a b : Int) (x y : α) : cond (a != b) x y = if a = b then y else x := by
  by_cases h : a = b
  · have : (a != b) = false := by simp [h]
    rw [this, if_pos h]; rfl
  · have : (a != b) = true := by simp [h]
    rw [this, if_neg h]; rfl
/-- one after another, each looked at beside the place of the one ahead -/
def chk {α : Type} (pl : α → Int) (ok : Int → α → Bool) : Int → List α → Bool
  | _, [] => true
  | p, x :: xs => ok p x && chk pl ok (pl x) xs
theorem loop_chk {α R : Type} (xs : List α) (pl : α → Int) (ok : Int → α → Bool) (step : Int × Int → Option ((Int × Int) ⊕ R)) (e o : R) (hl : (xs.length : Int) ≤ 140737488355328)
    (h1 : ∀ (p : Int) (i : Nat) (x : α), i < xs.length → xs[i]? = some x → x ∈ xs → step (p, (i : Int)) = some (if ok p x = true then .inl (pl x, IntKind.i64.wrap ((i : Int) + 1)) else .inr e)) (h2 : ∀ p, step (p, (xs.length : Int)) = some (.inr o)) (p : Int) : runLoop step (p, 0) = some (if chk pl ok p xs = true then o else e) := by
  have key : ∀ (ys : List α) (i : Nat) (p : Int), xs.drop i = ys → i ≤ xs.length → runLoop step (p, (i : Int)) = some (if chk pl ok p ys = true then o else e) := fun ys => by
    induction ys with
    | nil =>
      intro i p h hi
      have : i = xs.length := by
        have := congrArg List.length h
        rw [List.length_drop, List.length_nil] at this
        omega
      subst this
      exact runLoop_end (h2 p)
    | cons x ys ih =>
      intro i p h hi
      have hx : xs[i]? = some x := by
        have := congrArg (fun l => l[0]?) h
        simpa using this
      have hi' : i < xs.length := by
        rcases Nat.lt_or_ge i xs.length with h' | h'
        · exact h'
        · rw [List.getElem?_eq_none h'] at hx; cases hx
      have hs := h1 p i x hi' hx (List.mem_of_getElem? hx)
      have hd : xs.drop (i + 1) = ys := by
        have := congrArg List.tail h
        rwa [List.tail_drop, List.tail_cons] at this
      cases hk : ok p x with
      | false =>
        rw [hk] at hs
        rw [runLoop_end (by simpa using hs)]
        simp [chk, hk]
      | true =>
        rw [hk, if_pos rfl, i64s (by omega) (by omega)] at hs
        have e1 : (i : Int) + 1 = ((i + 1 : Nat) : Int) := by omega
        rw [e1] at hs
        rw [runLoop_step hs, ih (i + 1) (pl x) hd (by omega)]
        simp [chk, hk]
  exact key xs 0 p rfl (Nat.zero_le _)
/-- is a tree none? -/
def noneT (t : Tr) : Bool := t.Kind == 0 && (t.Words.length == 0 && t.Kids.length == 0)
theorem none_ok {t : Tr} (h : Bd t) : m_centoref20_none t = some (noneT t) := by
  have := h.w
  have := h.k
  unfold m_centoref20_none noneT
  rw [i64s (by omega) (by omega), cond_and]
  congr 2
  rw [Bool.eq_iff_iff, Bool.and_eq_true, beq_iff_eq, beq_iff_eq, beq_iff_eq]
  omega
theorem something_ok {t : Tr} (h : Bd t) : m_edit_something t = some (!noneT t) := by
  have := h.w
  have := h.k
  unfold m_edit_something noneT
  rw [i64s (by omega) (by omega)]
  congr 1
  cases h0 : t.Kind == 0 with
  | false => simp only [bne, h0]; rfl
  | true =>
    simp only [bne, h0, Bool.not_true, cond_false, Bool.true_and]
    rw [Bool.eq_iff_iff, Bool.not_eq_true', decide_eq_true_eq, Bool.and_eq_false_iff, beq_eq_false_iff_ne, beq_eq_false_iff_ne]
    omega
def noWK (e : Ed) : Bool := e.Words.length == 0 && e.Kids.length == 0
def noLO (e : Ed) : Bool := e.List_ == 0 && e.Ops.length == 0
theorem wk_pos {e : Ed} (h : BE e) : decide (0 < IntKind.i64.wrap ((e.Words.length : Int) + (e.Kids.length : Int))) = !noWK e := by
  have := h.w
  have := h.k
  unfold noWK
  rw [i64s (by omega) (by omega), Bool.eq_iff_iff, Bool.not_eq_true', decide_eq_true_eq, Bool.and_eq_false_iff, beq_eq_false_iff_ne, beq_eq_false_iff_ne]
  omega
theorem lo_pos (e : Ed) : cond (e.List_ != 0) true (decide (0 < (e.Ops.length : Int))) = !noLO e := by
  unfold noLO
  cases h0 : e.List_ == 0 with
  | false => simp only [bne, h0]; rfl
  | true =>
    simp only [bne, h0, Bool.not_true, cond_false, Bool.true_and]
    rw [Bool.eq_iff_iff, Bool.not_eq_true', decide_eq_true_eq, beq_eq_false_iff_ne]
    omega
def none2 (e : Ed) : Bool := noneT e.Old && noneT e.New
/-- an edit that changes nothing -/
def sameE (e : Ed) : Bool := e.Kind == 0 && (none2 e && (noWK e && noLO e))
theorem right1_ok {e : Ed} (h : BE e) (a b c : Bool) : m_edit_right_1 a b c e = some ((!a || none2 e) && ((!b || noWK e) && (!c || noLO e))) := by
  unfold m_edit_right_1
  rw [something_ok h.old, something_ok h.new, wk_pos h, lo_pos]
  unfold none2
  simp only [Option.bind_some]
  generalize noneT e.Old = p
  generalize noneT e.New = q
  generalize noWK e = r
  generalize noLO e = s
  revert a b c p q r s
  decide
theorem same_okE {e : Ed} (h : BE e) : m_centoref20_same e = some (sameE e) := by
  have := h.w
  have := h.k
  have := h.o
  unfold m_centoref20_same sameE
  rw [none_ok h.old, none_ok h.new]
  simp only [Option.bind_some]
  have e1 : (IntKind.i64.wrap (IntKind.i64.wrap ((e.Words.length : Int) + (e.Kids.length : Int)) + (e.Ops.length : Int)) == 0) = (noWK e && e.Ops.length == 0) := by
    unfold noWK
    rw [i64s (x := (e.Words.length : Int) + (e.Kids.length : Int)) (by omega) (by omega), i64s (by omega) (by omega), Bool.eq_iff_iff, Bool.and_eq_true, Bool.and_eq_true, beq_iff_eq, beq_iff_eq, beq_iff_eq, beq_iff_eq]
    omega
  rw [e1]
  unfold none2 noLO
  generalize noneT e.Old = p
  generalize noneT e.New = q
  generalize noWK e = r
  generalize (e.List_ == 0) = s
  generalize (e.Ops.length == 0) = u
  generalize (e.Kind == 0) = v
  revert p q r s u v
  decide
/-- may one edit of a word stand? -/
def okW (p : Int) (w : S_api_WordEdit) : Bool := !(((((decide (w.At ≤ p) || decide (65534 < w.At)) || w.Mask == 0) || !(wi w.Old w.Mask)) || !(wi w.New w.Mask)))
theorem rightWords_ok {l : List S_api_WordEdit} (hl : (l.length : Int) ≤ 140737488355328) (h : ∀ w ∈ l, (0 ≤ w.Mask ∧ w.Mask < 256) ∧ (0 ≤ w.Old ∧ w.Old < 18446744073709551616) ∧ (0 ≤ w.New ∧ w.New < 18446744073709551616)) : m_edit_rightWords l = some (chk (·.At) okW (-1) l) := by
  unfold m_edit_rightWords
  rw [loop_chk l (·.At) okW (m_edit_rightWords_L0 l) (.inl ()) (.inr ()) hl (fun p i x hi hx hm => by
    obtain ⟨h1, h2, h3⟩ := h x hm
    have ew : m_word_Wide x.Mask = some ((wideN x.Mask.toNat 8 : Nat) : Int) := by
      have := wide_ok x.Mask.toNat (by omega)
      rwa [Int.toNat_of_nonneg h1.1] at this
    unfold m_edit_rightWords_L0
    simp only
    rw [lt_t hi, cond_true, getI_of hx, Option.bind_some, ew, Option.bind_some, outside_ok h2.1 h2.2 h1.1 h1.2, outside_ok h3.1 h3.2 h1.1 h1.2]
    unfold okW
    generalize decide (x.At ≤ p) = q1
    generalize decide (65534 < x.At) = q2
    generalize (x.Mask == 0) = q3
    generalize wi x.Old x.Mask = q4
    generalize wi x.New x.Mask = q5
    cases q1 <;> cases q2 <;> cases q3 <;> cases q4 <;> cases q5 <;> rfl) (fun p => by unfold m_edit_rightWords_L0; simp only; rw [lt_f]; rfl) (-1), Option.bind_some]
  cases chk (·.At) okW (-1) l <;> rfl
theorem rWords_ok {e : Ed} (h : BE e) : runLoop (b_centoref20_Right_L0 e) (-1, 0) = some (if chk (·.At) okW (-1) e.Words = true then Sum.inr () else Sum.inl ()) :=
  loop_chk e.Words (·.At) okW (b_centoref20_Right_L0 e) (.inl ()) (.inr ()) h.w (fun p i x hi hx hm => by
    obtain ⟨h1, h2, h3⟩ := h.ws x hm
    unfold b_centoref20_Right_L0
    simp only
    rw [lt_t hi, cond_true, getI_of hx, Option.bind_some, within_ok h2.1 h2.2 h1.1 h1.2, within_ok h3.1 h3.2 h1.1 h1.2]
    simp only [Option.bind_some]
    unfold okW
    generalize decide (x.At ≤ p) = q1
    generalize decide (65534 < x.At) = q2
    generalize (x.Mask == 0) = q3
    generalize wi x.Old x.Mask = q4
    generalize wi x.New x.Mask = q5
    cases q1 <;> cases q2 <;> cases q3 <;> cases q4 <;> cases q5 <;> rfl) (fun p => by unfold b_centoref20_Right_L0; simp only; rw [lt_f]; rfl) (-1)
/-- rounds over a list with something carried along -/
theorem loop_fold {α S R σ : Type} (xs : List α) (mk : S → Int → σ) (f : S → α → S) (out : S → R) (I : S → Prop) (step : σ → Option (σ ⊕ R)) (hl : (xs.length : Int) ≤ 140737488355328)
    (h1 : ∀ (s : S) (i : Nat) (x : α), I s → i < xs.length → xs[i]? = some x → x ∈ xs → I (f s x) ∧ step (mk s (i : Int)) = some (.inl (mk (f s x) (IntKind.i64.wrap ((i : Int) + 1))))) (h2 : ∀ s, I s → step (mk s (xs.length : Int)) = some (.inr (out s))) (s : S) (hs : I s) : runLoop step (mk s 0) = some (out (xs.foldl f s)) ∧ I (xs.foldl f s) := by
  have key : ∀ (ys : List α) (i : Nat) (s : S), I s → xs.drop i = ys → i ≤ xs.length → runLoop step (mk s (i : Int)) = some (out (ys.foldl f s)) ∧ I (ys.foldl f s) := fun ys => by
    induction ys with
    | nil =>
      intro i s hI h hi
      have : i = xs.length := by
        have := congrArg List.length h
        rw [List.length_drop, List.length_nil] at this
        omega
      subst this
      exact ⟨runLoop_end (h2 s hI), hI⟩
    | cons x ys ih =>
      intro i s hI h hi
      have hx : xs[i]? = some x := by
        have := congrArg (fun l => l[0]?) h
        simpa using this
      have hi' : i < xs.length := by
        rcases Nat.lt_or_ge i xs.length with h' | h'
        · exact h'
        · rw [List.getElem?_eq_none h'] at hx; cases hx
      obtain ⟨hI', hs⟩ := h1 s i x hI hi' hx (List.mem_of_getElem? hx)
      have hd : xs.drop (i + 1) = ys := by
        have := congrArg List.tail h
        rwa [List.tail_drop, List.tail_cons] at this
      have e1 : (i : Int) + 1 = ((i + 1 : Nat) : Int) := by omega
      rw [i64s (by omega) (by omega), e1] at hs
      rw [runLoop_step hs]
      exact ih (i + 1) (f s x) hI' hd (by omega)
  exact key xs 0 s hs rfl (Nat.zero_le _)
def thr (o : S_api_Op) : Int := if o.Kind = 0 then (if 1048576 < (if o.N < 0 then 0 else o.N) then 1048576 else (if o.N < 0 then 0 else o.N)) else if o.Kind = 1 ∨ o.Kind = 2 then (o.L.length : Int) else if o.Kind = 3 then 1 else 0
theorem thr_ok (o : S_api_Op) : m_edit_through o = some (thr o) := by
  unfold m_edit_through thr
  by_cases h0 : o.Kind = 0
  · simp [h0]
  by_cases h1 : o.Kind = 1
  · simp [h1]
  by_cases h2 : o.Kind = 2
  · simp [h2]
  by_cases h3 : o.Kind = 3
  · simp [h3]
  · have e0 : (o.Kind == 0) = false := by simp [h0]
    have e1 : (o.Kind == 1) = false := by simp [h1]
    have e2 : (o.Kind == 2) = false := by simp [h2]
    have e3 : (o.Kind == 3) = false := by simp [h3]
    have h12 : ¬ (o.Kind = 1 ∨ o.Kind = 2) := by omega
    rw [e0, e1, e2, e3, if_neg h0, if_neg h12, if_neg h3]
    rfl
theorem thr_bd {o : S_api_Op} (h : o.L.length * 56 ≤ 140737488355328) : 0 ≤ thr o ∧ thr o ≤ 140737488355328 := by
  unfold thr
  repeat' split
  all_goals omega
def capI (x : Int) : Int := if 1048576 < x then 1048576 else x
def stI (s : Int × Int) (o : S_api_Op) : Int × Int := (if o.Kind = 2 then s.1 else capI (s.1 + thr o), if o.Kind = 1 then s.2 else capI (s.2 + thr o))
def Sm (s : Int × Int) : Prop := (0 ≤ s.1 ∧ s.1 ≤ 1048576) ∧ (0 ≤ s.2 ∧ s.2 ≤ 1048576)
theorem stI_sm {s : Int × Int} {o : S_api_Op} (hs : Sm s) (h : o.L.length * 56 ≤ 140737488355328) : Sm (stI s o) := by
  have := thr_bd h
  unfold Sm at hs ⊢
  unfold stI capI
  refine ⟨?_, ?_⟩
  · simp only
    split
    · omega
    · split <;> omega
  · simp only
    split
    · omega
    · split <;> omega
theorem lenI_ok {e : Ed} (h : BE e) : m_edit_Lengths e = some (e.Ops.foldl stI (0, 0)) ∧ Sm (e.Ops.foldl stI (0, 0)) := by
  obtain ⟨h1, h2⟩ := loop_fold e.Ops (fun (s : Int × Int) i => (s.1, s.2, i)) stI (fun s => (s.1, s.2)) Sm (m_edit_Lengths_L0 e) h.o (fun s i x hs hi hx hm => by
    have hb := (h.l x hm).1
    have ht := thr_bd hb
    refine ⟨stI_sm hs hb, ?_⟩
    unfold Sm at hs
    unfold m_edit_Lengths_L0
    simp only
    rw [lt_t hi, cond_true, getI_of hx, Option.bind_some, thr_ok]
    simp only [Option.bind_some]
    rw [i64s (x := s.1 + thr x) (by omega) (by omega), i64s (x := s.2 + thr x) (by omega) (by omega)]
    unfold stI capI
    rw [cond_bne]
    by_cases k2 : x.Kind = 2
    · simp [k2]
    · by_cases k1 : x.Kind = 1
      · simp [k1]
      · simp [k1, k2, cond_bne]) (fun s _ => by unfold m_edit_Lengths_L0; simp only; rw [lt_f]; rfl) (0, 0) (by unfold Sm; simp)
  refine ⟨?_, h2⟩
  unfold m_edit_Lengths
  rw [h1]
  rfl
def incR (o : S_api_Op) : Int := if o.Kind = 3 then 1 else IntKind.i64.wrap (o.N + (o.L.length : Int))
def stR (s : Int × Int) (o : S_api_Op) : Int × Int := (capI (if o.Kind = 2 then s.1 else IntKind.i64.wrap (s.1 + incR o)), capI (if o.Kind = 1 then s.2 else IntKind.i64.wrap (s.2 + incR o)))
theorem lenR_ok {e : Ed} (h : BE e) : m_centoref20_Lengths e = some (e.Ops.foldl stR (0, 0)) := by
  obtain ⟨h1, _⟩ := loop_fold e.Ops (fun (s : Int × Int) i => (s.1, s.2, i)) stR (fun s => (s.1, s.2)) (fun _ => True) (m_centoref20_Lengths_L0 e) h.o (fun s i x hs hi hx hm => by
    refine ⟨trivial, ?_⟩
    have hc : ∀ a b : Int, ((cond (decide (1048576 < a)) (some 1048576) (some a)).bind fun (z10 : Int) => cond (decide (1048576 < b)) (some (z10, 1048576)) (some (z10, b))) = some (capI a, capI b) := fun a b => by
      unfold capI
      by_cases q1 : 1048576 < a <;> by_cases q2 : 1048576 < b <;> simp [q1, q2]
    unfold m_centoref20_Lengths_L0
    simp only
    rw [lt_t hi, cond_true, getI_of hx, Option.bind_some]
    have e1 : cond (x.Kind == 3) (some 1) (some (IntKind.i64.wrap (x.N + (x.L.length : Int)))) = some (incR x) := by
      unfold incR
      rw [cond_beq]
      split <;> rfl
    rw [e1, Option.bind_some]
    have e2 : cond (x.Kind != 2) (some (IntKind.i64.wrap (s.1 + incR x))) (some s.1) = some (if x.Kind = 2 then s.1 else IntKind.i64.wrap (s.1 + incR x)) := by
      rw [cond_bne]; split <;> rfl
    have e3 : cond (x.Kind != 1) (some (IntKind.i64.wrap (s.2 + incR x))) (some s.2) = some (if x.Kind = 1 then s.2 else IntKind.i64.wrap (s.2 + incR x)) := by
      rw [cond_bne]; split <;> rfl
    rw [e2, Option.bind_some, e3, Option.bind_some, hc]
    rfl) (fun s _ => by unfold m_centoref20_Lengths_L0; simp only; rw [lt_f]; rfl) (0, 0) trivial
  unfold m_centoref20_Lengths
  rw [h1]
  rfl
/-- may an edit descend to a kid of such a list? -/
def descP (l : Int) (e : Ed) : Bool := if l = 8 then e.Kind != 0 else if l = 9 then e.Kind == 2 || (e.Kind == 1 && (e.Old.Kind == 1 && e.New.Kind == 1)) else false
theorem desc_ok (l : Int) (e : Ed) : m_edit_descends l e = some (descP l e) := by
  unfold m_edit_descends descP
  by_cases h8 : l = 8
  · simp [h8]
  by_cases h9 : l = 9
  · subst h9
    generalize (e.Kind == 2) = a
    generalize (e.Kind == 1) = b
    generalize (e.Old.Kind == 1) = c
    generalize (e.New.Kind == 1) = d
    have k8 : ((9 : Int) == 8) = false := rfl
    have k9 : ((9 : Int) == 9) = true := rfl
    rw [k8, k9, if_neg (by decide), if_pos rfl]
    cases a <;> cases b <;> cases c <;> cases d <;> rfl
  · have k8 : (l == 8) = false := by simp [h8]
    have k9 : (l == 9) = false := by simp [h9]
    rw [k8, k9, if_neg h8, if_neg h9]
    rfl
/-- may an op stand in an edit of a list? -/
def okO (l : Int) (o : S_api_Op) (r : Bool) : Bool :=
  if o.Kind = 0 then (decide (1 ≤ o.N) && decide (o.N ≤ 1048576)) && (o.L.length == 0 && sameE o.E)
  else if o.Kind = 1 ∨ o.Kind = 2 then o.N == 0 && (decide (0 < o.L.length) && ((o.L.all fun t => rt t 63 && okk l t) && sameE o.E))
  else if o.Kind = 3 then o.N == 0 && (o.L.length == 0 && (o.E.Kind != 0 && (descP l o.E && r)))
  else false
def lensB (s : Int × Int) : Bool := decide (s.1 < 1048576) && decide (s.2 < 1048576)
theorem ok_thr {l : Int} {o : S_api_Op} {r : Bool} (h : okO l o r = true) : o.N + (o.L.length : Int) = (if o.Kind = 3 then 0 else thr o) ∧ 0 ≤ thr o := by
  unfold okO at h
  unfold thr
  by_cases h0 : o.Kind = 0
  · rw [if_pos h0] at h
    simp only [Bool.and_eq_true, decide_eq_true_eq, beq_iff_eq] at h
    simp only [h0, if_pos]
    refine ⟨?_, ?_⟩
    · rw [if_neg (by decide)]
      repeat' split
      all_goals omega
    · repeat' split
      all_goals omega
  rw [if_neg h0] at h
  by_cases h12 : o.Kind = 1 ∨ o.Kind = 2
  · rw [if_pos h12] at h
    simp only [Bool.and_eq_true, beq_iff_eq] at h
    rw [if_neg h0, if_pos h12, if_neg (by omega)]
    omega
  rw [if_neg h12] at h
  by_cases h3 : o.Kind = 3
  · rw [if_pos h3] at h
    simp only [Bool.and_eq_true, beq_iff_eq] at h
    rw [if_neg h0, if_neg h12, if_pos h3, if_pos h3]
    omega
  · rw [if_neg h3] at h
    cases h
theorem stR_stI {l : Int} {o : S_api_Op} {r : Bool} {s : Int × Int} (h : okO l o r = true) (hs : Sm s) (hl : o.L.length * 56 ≤ 140737488355328) : stR s o = stI s o := by
  have ht := thr_bd hl
  have hk := ok_thr h
  have hi : incR o = thr o := by
    unfold incR
    by_cases h3 : o.Kind = 3
    · rw [if_pos h3]
      unfold thr
      rw [if_neg (by omega), if_neg (by omega), if_pos h3]
    · rw [if_neg h3] at hk ⊢
      rw [i64s (by omega) (by omega)]
      exact hk.1
  unfold Sm at hs
  unfold stR stI
  rw [hi, i64s (by omega) (by omega), i64s (by omega) (by omega)]
  have hc : ∀ x : Int, x ≤ 1048576 → capI x = x := fun x hx => by unfold capI; rw [if_neg (by omega)]
  refine Prod.ext ?_ ?_
  · simp only
    split
    · exact hc _ hs.1.2
    · rfl
  · simp only
    split
    · exact hc _ hs.2.2
    · rfl
theorem fold_same {l : Int} (r : S_api_Op → Bool) : ∀ (os : List S_api_Op) (s : Int × Int), Sm s → (∀ o ∈ os, okO l o (r o) = true) → (∀ o ∈ os, o.L.length * 56 ≤ 140737488355328) → os.foldl stR s = os.foldl stI s ∧ Sm (os.foldl stI s)
  | [], s, hs, _, _ => ⟨rfl, hs⟩
  | o :: os, s, hs, h, hl => by
    have h1 := stR_stI (h o (.head _)) hs (hl o (.head _))
    have := fold_same r os (stI s o) (stI_sm hs (hl o (.head _))) (fun x hx => h x (.tail _ hx)) (fun x hx => hl x (.tail _ hx))
    rw [List.foldl_cons, List.foldl_cons, h1]
    exact this
theorem fold_up : ∀ (os : List S_api_Op) (s : Int × Int), Sm s → (∀ o ∈ os, o.L.length * 56 ≤ 140737488355328) → (s.1 = 1048576 → (os.foldl stI s).1 = 1048576) ∧ (s.2 = 1048576 → (os.foldl stI s).2 = 1048576)
  | [], s, _, _ => ⟨id, id⟩
  | o :: os, s, hs, hl => by
    have ht := thr_bd (hl o (.head _))
    have := fold_up os (stI s o) (stI_sm hs (hl o (.head _))) (fun x hx => hl x (.tail _ hx))
    rw [List.foldl_cons]
    refine ⟨fun h => this.1 ?_, fun h => this.2 ?_⟩
    · unfold stI capI
      simp only
      repeat' split
      all_goals omega
    · unfold stI capI
      simp only
      repeat' split
      all_goals omega
theorem fold_len {l : Int} (r : S_api_Op → Bool) : ∀ (os : List S_api_Op) (s : Int × Int), Sm s → (∀ o ∈ os, okO l o (r o) = true) → (∀ o ∈ os, o.L.length * 56 ≤ 140737488355328) → lensB (os.foldl stI s) = true → ∀ o ∈ os, o.L.length < 1048576
  | [], s, hs, _, _, _ => fun o h => by simp at h
  | o :: os, s, hs, h, hl, hb => by
    have hsm := stI_sm hs (hl o (.head _))
    have hup := fold_up os (stI s o) hsm (fun x hx => hl x (.tail _ hx))
    rw [List.foldl_cons] at hb
    intro x hx
    rcases List.mem_cons.1 hx with rfl | hx
    · have hb' := hb
      unfold lensB at hb'
      rw [Bool.and_eq_true, decide_eq_true_eq, decide_eq_true_eq] at hb'
      have n1 : (stI s x).1 ≠ 1048576 := fun q => by have := hup.1 q; omega
      have n2 : (stI s x).2 ≠ 1048576 := fun q => by have := hup.2 q; omega
      have hk := ok_thr (h x (.head _))
      have ht := thr_bd (hl x (.head _))
      have ho := h x (.head _)
      unfold Sm at hs
      unfold okO at ho
      unfold stI capI at n1 n2
      simp only at n1 n2
      by_cases h0 : x.Kind = 0
      · rw [if_pos h0] at ho
        simp only [Bool.and_eq_true, decide_eq_true_eq, beq_iff_eq] at ho
        omega
      rw [if_neg h0] at ho
      by_cases h1 : x.Kind = 1
      · rw [if_pos (.inl h1)] at ho
        rw [if_neg (by omega)] at hk n1
        simp only [Bool.and_eq_true, beq_iff_eq] at ho
        split at n1 <;> omega
      by_cases h2 : x.Kind = 2
      · rw [if_pos (.inr h2)] at ho
        rw [if_neg (by omega)] at hk n2
        simp only [Bool.and_eq_true, beq_iff_eq] at ho
        split at n2 <;> omega
      rw [if_neg (by omega)] at ho
      by_cases h3 : x.Kind = 3
      · rw [if_pos h3] at ho
        simp only [Bool.and_eq_true, beq_iff_eq] at ho
        omega
      · rw [if_neg h3] at ho
        cases ho
    · exact fold_len r os (stI s o) hsm (fun x hx => h x (.tail _ hx)) (fun x hx => hl x (.tail _ hx)) hb x hx
/-- the program's reading of an op and the reference's, where the lengths are no longer than may be -/
theorem ops_both {l : Int} (r : S_api_Op → Bool) (os : List S_api_Op) (hl : ∀ o ∈ os, o.L.length * 56 ≤ 140737488355328) :
    ((os.all fun o => okO l o (r o) && decide (o.L.length < 1048576)) && lensB (os.foldl stI (0, 0))) = ((os.all fun o => okO l o (r o)) && lensB (os.foldl stR (0, 0))) := by
  have h0 : Sm (0, 0) := by unfold Sm; simp
  cases ha : os.all fun o => okO l o (r o) with
  | false =>
    rw [all_and, ha, Bool.false_and, Bool.false_and, Bool.false_and]
  | true =>
    have hall : ∀ o ∈ os, okO l o (r o) = true := List.all_eq_true.1 ha
    have h1 := fold_same r os (0, 0) h0 hall hl
    rw [all_and, ha, h1.1, Bool.true_and, Bool.true_and]
    cases hb : lensB (os.foldl stI (0, 0)) with
    | false => rw [Bool.and_false]
    | true =>
      have := fold_len r os (0, 0) h0 hall hl hb
      rw [Bool.and_true]
      exact List.all_eq_true.2 fun o ho => decide_eq_true (this o ho)

end Go.Proofs.Ytjeolggpgclgkaa
