/- Plain facts on this seat's mirrors (part IP2); each theorem bears its own conditions. -/
import Derived.Test.YtgffgbdnbjbmoaaIP1
import Derived.IntWalk
namespace Go.Proofs.Ytgffgbdnbjbmoaa
open Go.RowKit
set_option linter.unusedVariables false
set_option linter.unusedSimpArgs false
def trN {α : Type} (p : α → Bool) (l : List α) : Nat → Nat
  | 0 => 0
  | n + 1 => match l[n]? with
    | some x => if p x = true then trN p l n else n + 1
    | none => 0
theorem Zkx {α : Type} {p : α → Bool} {x : α} (h : p x = true) : ∀ l : List α, tr p (l ++ [x]) = tr p l
  | [] => by simp [tr, h]
  | y :: l => by simp only [List.cons_append, tr, Zkx h l]
theorem Zkw {α : Type} {p : α → Bool} {x : α} (h : p x = false) : ∀ l : List α, tr p (l ++ [x]) = l ++ [x]
  | [] => by simp [tr, h]
  | y :: l => by
    simp only [List.cons_append, tr, Zkw h l]
    cases hl : l ++ [x] with
    | nil => simp at hl
    | cons a b => rfl
theorem Zqh {α : Type} {p : α → Bool} {l : List α} : ∀ n, n ≤ l.length → l.take (trN p l n) = tr p (l.take n) ∧ trN p l n ≤ n
  | 0, _ => by simp [trN, tr]
  | n + 1, h => by
    have hn : l[n]? = some l[n] := List.getElem?_eq_getElem (by omega)
    have e : l.take (n + 1) = l.take n ++ [l[n]] := by rw [List.take_add_one, hn]; rfl
    obtain ⟨h1, h2⟩ := Zqh (p := p) (l := l) n (by omega)
    unfold trN
    rw [hn]
    simp only
    split
    · rename_i hp
      rw [e, Zkx hp]
      exact ⟨h1, by omega⟩
    rename_i hp
    rw [e, Zkw (by simpa using hp), ← e]
    exact ⟨rfl, Nat.le_refl _⟩
theorem Zea {α : Type} (p : α → Bool) : ∀ l : List α, (tr p l).length ≤ l.length
  | [] => by simp [tr]
  | x :: l => by
    have := Zea p l
    simp only [tr]
    split
    · split <;> simp
    rename_i y ys he
    rw [he] at this
    simp at this ⊢
    omega
theorem Zqj {α : Type} {p : α → Bool} {x : α} : ∀ {l : List α}, x ∈ tr p l → x ∈ l
  | [], h => by simp [tr] at h
  | y :: l, h => by
    simp only [tr] at h
    split at h
    · split at h
      · simp at h
      simp at h; simp [h]
    rename_i z zs he
    rw [← he] at h
    rcases List.mem_cons.1 h with h | h
    · simp [h]
    exact List.mem_cons_of_mem _ (Zqj h)
theorem Z1l {α : Type} {p : α → Bool} : ∀ l : List α, tr p (tr p l) = tr p l
  | [] => rfl
  | x :: l => by
    have ih := Z1l (p := p) l
    simp only [tr]
    cases h : tr p l with
    | nil =>
      simp only
      cases hx : p x <;> simp [tr, hx]
    | cons y ys =>
      rw [h] at ih
      simp only [tr] at ih ⊢
      rw [ih]
theorem Zuo {α β : Type} {p : α → Bool} {q : β → Bool} {f : α → β} (h : ∀ x, q (f x) = p x) : ∀ l : List α, tr q (l.map f) = (tr p l).map f
  | [] => rfl
  | x :: l => by
    simp only [List.map_cons, tr, Zuo h l]
    cases tr p l with
    | nil => simp only [List.map_nil, h]; split <;> rfl
    | cons y ys => rfl
theorem Z2d {α : Type} (l : List α) (p : α → Bool) (step : Int → Option (Int ⊕ Int)) (hl : (l.length : Int) ≤ 140737488355328)
    (h0 : step 0 = some (.inr 0)) (h1 : ∀ (n : Nat) (x : α), l[n]? = some x → n < l.length → step ((n + 1 : Nat) : Int) = some (if p x = true then .inl (n : Int) else .inr ((n + 1 : Nat) : Int))) : Zx step (l.length : Int) = some (trN p l l.length : Int) := by
  have key : ∀ n : Nat, n ≤ l.length → Zx step (n : Int) = some (trN p l n : Int) := fun n => by
    induction n with
    | zero => intro _; exact Yw h0
    | succ n ih =>
      intro hn
      have hx : l[n]? = some l[n] := List.getElem?_eq_getElem (by omega)
      have h := h1 n _ hx (by omega)
      unfold trN
      rw [hx]
      simp only
      split
      · rename_i hp
        rw [if_pos hp] at h
        rw [Xf h]
        exact ih (by omega)
      rename_i hp
      rw [if_neg hp] at h
      exact Yw h
  exact key l.length (Nat.le_refl _)
theorem Zs2 {α : Type} {l : List α} {n : Nat} (h : n ≤ l.length) : Zet l 0 (n : Int) = some (l.take n) := by
  rw [Zlf (by omega) (by omega) (by omega)]
  simp
theorem Z5j {n : Nat} : decide (0 < ((n + 1 : Nat) : Int)) = true := by rw [decide_eq_true_eq]; omega
theorem Z0l {l : List Int} (hl : l.length * 8 ≤ 140737488355328) : K2 l = some (tr (fun x => x == 0) l) := by
  have hloop := Z2d l (fun x => x == 0) (Jy l) (by omega) (by unfold Jy; rfl) (fun n x hx hn => by
    unfold Jy
    rw [Z5j, cond_true, Y3 (by omega) (by omega)]
    have e : ((n + 1 : Nat) : Int) - 1 = (n : Int) := by omega
    rw [e, Qp hx]
    simp only [Option.bind_some, cond_true]
    cases x == 0 <;> rfl)
  obtain ⟨h1, h2⟩ := Zqh (p := fun x => x == 0) (l := l) l.length (Nat.le_refl _)
  have h3 := Zea (fun x => x == 0) l
  unfold K2
  rw [hloop, Option.bind_some, Zs2 h2, Option.bind_some, h1, List.take_length, Gu (by rw [List.length_nil]; omega) (by rw [List.length_nil]; omega)]
  rfl
inductive Bd : Tr → Prop
  | mk (t : Tr) (h1 : t.Words.length * 8 ≤ 140737488355328) (h2 : t.Kids.length * 56 ≤ 140737488355328) (h3 : ∀ w ∈ t.Words, 0 ≤ w ∧ w < 18446744073709551616) (h4 : ∀ k ∈ t.Kids, Bd k) : Bd t
theorem Bd.w {t : Tr} (h : Bd t) : t.Words.length * 8 ≤ 140737488355328 := by cases h; assumption
theorem Bd.k {t : Tr} (h : Bd t) : t.Kids.length * 56 ≤ 140737488355328 := by cases h; assumption
theorem Bd.u {t : Tr} (h : Bd t) : ∀ w ∈ t.Words, 0 ≤ w ∧ w < 18446744073709551616 := by cases h; assumption
theorem Bd.all {t : Tr} (h : Bd t) : ∀ k ∈ t.Kids, Bd k := by cases h; assumption
def nrm (t : Tr) : Tr :=
  if t.Kind = 0 then ⟨0, [], []⟩
  else if t.Kind = 1 then ⟨1, tr (fun x => x == 0) t.Words, tr (fun x => x.Kind == 0) (t.Kids.attach.map fun k => nrm k.1)⟩
  else ⟨t.Kind, t.Words, t.Kids.attach.map fun k => nrm k.1⟩
termination_by SizeOf.sizeOf t
decreasing_by all_goals exact Zdb k.2
theorem Zju (t : Tr) : nrm t = if t.Kind = 0 then ⟨0, [], []⟩ else if t.Kind = 1 then ⟨1, tr (fun x => x == 0) t.Words, tr (fun x => x.Kind == 0) (t.Kids.map nrm)⟩ else ⟨t.Kind, t.Words, t.Kids.map nrm⟩ := by
  rw [nrm]
  simp only [List.attach_map_val]
theorem U4 (t : Tr) : (nrm t).Kind = t.Kind := by
  rw [Zju]
  split
  · rename_i h; exact h.symm
  split
  · rename_i h; exact h.symm
  rfl
theorem Zky {α : Type} {p : α → Bool} {x : α} {l : List α} (h : tr p l = []) : tr p (x :: l) = if p x = true then [] else [x] := by simp only [tr, h]
theorem Zun {α : Type} {p : α → Bool} {x : α} {l : List α} (h : tr p l ≠ []) : tr p (x :: l) = x :: tr p l := by
  simp only [tr]
  split
  · rename_i h'; exact absurd h' h
  rename_i h'; rw [h']
theorem Zvf : ∀ (l : List Tr) (n : Nat) (acc : Int), (l.zipIdx n).foldl (fun a p => if p.1.Kind = 0 then a else ((p.2 + 1 : Nat) : Int)) acc = if (tr (fun x => x.Kind == 0) l).length = 0 then acc else ((n + (tr (fun x => x.Kind == 0) l).length : Nat) : Int)
  | [], n, acc => by simp [tr]
  | x :: l, n, acc => by
    rw [List.zipIdx_cons, List.foldl_cons, Zvf l (n + 1)]
    by_cases h : tr (fun x => x.Kind == 0) l = []
    · rw [Zky h, h]
      by_cases hx : x.Kind = 0
      · simp [hx]
      simp [hx]
    have h' : (tr (fun x => x.Kind == 0) l).length ≠ 0 := by simpa using h
    rw [Zun h, if_neg h', List.length_cons, if_neg (by omega)]
    congr 1
    omega
theorem Zqk {α : Type} (p : α → Bool) (l : List α) : l.take (tr p l).length = tr p l := by
  obtain ⟨h1, h2⟩ := Zqh (p := p) (l := l) l.length (Nat.le_refl _)
  rw [List.take_length] at h1
  rw [← h1, List.length_take]
  congr 1
  omega
theorem Z0p {k : Nat} {t : Tr} (hl : t.Kids.length * 56 ≤ 140737488355328) (ih : ∀ x ∈ t.Kids, Y9 k x = some (nrm x)) :
    Zx (X0 (Y9 k) t) (0, 0, []) = some (if (tr (fun x => x.Kind == 0) (t.Kids.map nrm)).length = 0 then 0 else ((tr (fun x => x.Kind == 0) (t.Kids.map nrm)).length : Int), t.Kids.map nrm) := by
  have key : ∀ (l pre : List Tr) (a : Int), t.Kids = pre ++ l → Zx (X0 (Y9 k) t) (a, ((pre.length : Nat) : Int), pre.map nrm) = some (((l.map nrm).zipIdx pre.length).foldl (fun a p => if p.1.Kind = 0 then a else ((p.2 + 1 : Nat) : Int)) a, t.Kids.map nrm) := fun l => by
    induction l with
    | nil =>
      intro pre a hp
      rw [List.append_nil] at hp
      refine Yw ?_
      unfold X0
      simp only
      rw [hp, Zjs, cond_false]
      rfl
    | cons x l ihl =>
      intro pre a hp
      have hx : t.Kids[pre.length]? = some x := by rw [hp, List.getElem?_append_right (Nat.le_refl _), Nat.sub_self]; rfl
      have hi : pre.length < t.Kids.length := by rw [hp]; simp
      have hm : x ∈ t.Kids := List.mem_of_getElem? hx
      have hs : X0 (Y9 k) t (a, ((pre.length : Nat) : Int), pre.map nrm) = some (.inl (if x.Kind = 0 then a else ((pre.length + 1 : Nat) : Int), (((pre ++ [x]).length : Nat) : Int), (pre ++ [x]).map nrm)) := by
        unfold X0
        simp only
        rw [Zid hi, cond_true, Qp hx, Option.bind_some, ih x hm, Option.bind_some, Gu (by simp; omega) (by simp; omega), Option.bind_some, Y3 (by omega) (by omega), U4]
        have e : ((pre.length : Nat) : Int) + 1 = ((pre.length + 1 : Nat) : Int) := by omega
        rw [e]
        by_cases h0 : x.Kind = 0
        · simp [h0]
        have : (x.Kind != 0) = true := by simp [h0]
        rw [this, cond_true]
        simp [h0]
      rw [Xf hs, ihl (pre ++ [x]) _ (by rw [hp]; simp)]
      simp only [List.map_cons, List.zipIdx_cons, List.foldl_cons, List.length_append, List.length_singleton, U4]
  have := key t.Kids [] 0 rfl
  rw [Zvf] at this
  simpa using this
theorem Zss : ∀ (k : Nat) (t : Tr), Bd t → SizeOf.sizeOf t < k → Y9 k t = some (nrm t)
  | 0, t, _, h => by omega
  | k + 1, t, hb, hk => by
    have ih : ∀ x ∈ t.Kids, Y9 k x = some (nrm x) := fun x hx => Zss k x (hb.all x hx) (by have := Zdb hx; omega)
    have hw := hb.w
    have hkd := hb.k
    show Kz (Y9 k) t = _
    unfold Kz
    rw [Zju]
    by_cases h0 : t.Kind = 0
    · rw [if_pos h0, h0]; rfl
    have e0 : (t.Kind == 0) = false := by rw [beq_eq_false_iff_ne]; exact h0
    rw [if_neg h0, e0, cond_false, Z0p hkd ih, Option.bind_some]
    by_cases h1 : t.Kind = 1
    · have e1 : (t.Kind == 1) = true := by rw [beq_iff_eq]; exact h1
      rw [if_pos h1, e1, cond_true, Z0l hw, Option.bind_some]
      have l1 := Zea (fun x : Tr => x.Kind == 0) (t.Kids.map nrm)
      have l2 : (if (tr (fun x => x.Kind == 0) (t.Kids.map nrm)).length = 0 then (0 : Int) else ((tr (fun x => x.Kind == 0) (t.Kids.map nrm)).length : Int)) = ((tr (fun x => x.Kind == 0) (t.Kids.map nrm)).length : Int) := by
        split
        · rename_i h; rw [h]; rfl
        rfl
      simp only [l2]
      rw [Zs2 l1, Option.bind_some, Zqk]
    have e1 : (t.Kind == 1) = false := by rw [beq_eq_false_iff_ne]; exact h1
    rw [if_neg h1, e1, cond_false, Gu (by rw [List.length_nil]; omega) (by rw [List.length_nil]; omega)]
    rfl
theorem Z0q {t : Tr} (h : Bd t) : Gz t = some (nrm t) := Zpy (SizeOf.sizeOf t + 1) fun k hk => Zss k t h (by omega)
theorem Zz7 : ∀ (n : Nat) (t : Tr), SizeOf.sizeOf t < n → Bd t → Bd (nrm t)
  | 0, t, h, _ => by omega
  | n + 1, t, hn, hb => by
    have ih : ∀ x ∈ t.Kids, Bd (nrm x) := fun x hx => Zz7 n x (by have := Zdb hx; omega) (hb.all x hx)
    have hw := hb.w
    have hk := hb.k
    rw [Zju]
    split
    · exact .mk _ (by simp) (by simp) (fun w h => by simp at h) (fun w h => by simp at h)
    split
    · have l1 := Zea (fun x : Int => x == 0) t.Words
      have l2 := Zea (fun x : Tr => x.Kind == 0) (t.Kids.map nrm)
      rw [List.length_map] at l2
      refine .mk _ (by simp only; omega) (Nat.le_trans (Nat.mul_le_mul_right 56 l2) hk) (fun w h => hb.u w (Zqj h)) (fun x h => ?_)
      obtain ⟨y, hy, rfl⟩ := List.mem_map.1 (Zqj h)
      exact ih y hy
    refine .mk _ hw (by simp only [List.length_map]; exact hk) hb.u (fun x h => ?_)
    obtain ⟨y, hy, rfl⟩ := List.mem_map.1 h
    exact ih y hy
theorem Bd.nrm {t : Tr} (h : Bd t) : Bd (nrm t) := Zz7 _ t (Nat.lt_succ_self _) h
def eqT (a b : Tr) : Bool := a.Kind == b.Kind && (a.Words == b.Words && (a.Kids.length == b.Kids.length && (a.Kids.attach.zip b.Kids).all fun p => eqT p.1.1 p.2))
termination_by SizeOf.sizeOf a
decreasing_by exact Zdb p.1.2
def eqL : List Tr → List Tr → Bool
  | [], [] => true
  | x :: xs, y :: ys => eqT x y && eqL xs ys
  | _, _ => false
theorem Zxu : ∀ (l m : List Tr) (P : Tr → Prop) (l' : List {x // P x}), l'.map (·.1) = l → (l.length == m.length && (l'.zip m).all fun p => eqT p.1.1 p.2) = eqL l m
  | [], [], P, l', h => by cases l' <;> simp_all [eqL]
  | [], y :: m, P, l', h => by cases l' <;> simp_all [eqL]
  | x :: l, [], P, l', h => by cases l' <;> simp_all [eqL]
  | x :: l, y :: m, P, l', h => by
    cases l' with
    | nil => simp at h
    | cons z l' =>
      simp only [List.map_cons, List.cons.injEq] at h
      have ih := Zxu l m P l' h.2
      simp only [List.length_cons, List.zip_cons_cons, List.all_cons, eqL, h.1]
      rw [← ih]
      have : (l.length + 1 == m.length + 1) = (l.length == m.length) := by simp
      rw [this]
      cases l.length == m.length <;> cases eqT x y <;> rfl
theorem Zlw (a b : Tr) : eqT a b = (a.Kind == b.Kind && (a.Words == b.Words && eqL a.Kids b.Kids)) := by
  rw [eqT, Zxu a.Kids b.Kids (· ∈ a.Kids) a.Kids.attach (by simp)]
theorem Zlv (x y : Tr) (xs ys : List Tr) : eqL (x :: xs) (y :: ys) = (eqT x y && eqL xs ys) := rfl
theorem Zoa : ∀ (n : Nat) (a b : Tr), SizeOf.sizeOf a < n → (eqT a b = true ↔ a = b)
  | 0, a, b, h => by omega
  | n + 1, a, b, hn => by
    have ih : ∀ x ∈ a.Kids, ∀ y, eqT x y = true ↔ x = y := fun x hx y => Zoa n x y (by have := Zdb hx; omega)
    have hl : ∀ (l m : List Tr), (∀ x ∈ l, x ∈ a.Kids) → (eqL l m = true ↔ l = m) := fun l => by
      induction l with
      | nil => intro m _; cases m <;> simp [eqL]
      | cons x l ihl =>
        intro m hm
        cases m with
        | nil => simp [eqL]
        | cons y m => rw [Zlv, Bool.and_eq_true, ih x (hm x (.head _)) y, ihl m (fun z hz => hm z (.tail _ hz)), List.cons.injEq]
    rw [Zlw, Bool.and_eq_true, Bool.and_eq_true, hl a.Kids b.Kids (fun x hx => hx), beq_iff_eq, beq_iff_eq]
    obtain ⟨k, w, ks⟩ := a
    obtain ⟨k', w', ks'⟩ := b
    simp
theorem eqT_iff {a b : Tr} : eqT a b = true ↔ a = b := Zoa _ a b (Nat.lt_succ_self _)
theorem Zza (a : Tr) : eqT a a = true := eqT_iff.2 rfl
theorem Zy9 (a b : Tr) : eqT a b = eqT b a := by
  rw [Bool.eq_iff_iff, eqT_iff, eqT_iff]; exact ⟨Eq.symm, Eq.symm⟩
theorem Zy3 : ∀ (a b : List Int), a.length = b.length → (a.zip b).any (fun p => p.1 != p.2) = !(a == b)
  | [], [], _ => rfl
  | [], _ :: _, h => by simp at h
  | _ :: _, [], h => by simp at h
  | x :: a, y :: b, h => by
    have ih := Zy3 a b (by simpa using h)
    rw [List.zip_cons_cons, List.any_cons, ih]
    by_cases hxy : x = y
    · subst hxy; simp
    simp [bne, hxy]
theorem Zmj {R : Type} (a b : List Int) (step : Int → Option (Int ⊕ R)) (e o : R) (hab : a.length = b.length) (hl : (a.length : Int) ≤ 140737488355328)
    (h1 : ∀ (i : Nat) (x y : Int), i < a.length → a[i]? = some x → b[i]? = some y → step i = some (if (x != y) = true then .inr e else .inl (IntKind.i64.wrap ((i : Int) + 1)))) (h2 : step a.length = some (.inr o)) :
    Zx step 0 = some (if (a == b) = true then o else e) := by
  have hz : (a.zip b).length = a.length := by rw [List.length_zip]; omega
  have := Zr2 (a.zip b) step (fun p => p.1 != p.2) e o (by rw [hz]; exact hl) (fun i p hi hp hm => by
    rw [hz] at hi
    have ha : a[i]? = some a[i] := List.getElem?_eq_getElem hi
    have hb : b[i]? = some b[i] := List.getElem?_eq_getElem (by omega)
    have : p = (a[i], b[i]) := by
      rw [List.getElem?_eq_getElem (by rw [hz]; exact hi)] at hp
      injection hp with hp
      rw [← hp, List.getElem_zip]
    subst this
    exact h1 i _ _ hi ha hb) (by rw [hz]; exact h2)
  rw [this, Zy3 a b hab]
  cases a == b <;> rfl
theorem Zmf {a b : Nat} : ((a : Int) != (b : Int)) = !(a == b) := by
  rw [Bool.eq_iff_iff]; simp; omega
theorem Zpd {a b : List Int} (h : ¬ a.length = b.length) : (a == b) = false := by
  rw [beq_eq_false_iff_ne]; intro e; exact h (by rw [e])
theorem Z0s {a b : List Int} (h : (a.length : Int) ≤ 140737488355328) : K1 a b = some (a == b) := by
  unfold K1
  rw [Zmf]
  by_cases hab : a.length = b.length
  · have : (!(a.length == b.length)) = false := by simp [hab]
    rw [this, cond_false, Zmj a b (Jx a b) (.inl ()) (.inr ()) hab h (fun i x y hi hx hy => by
      unfold Jx
      rw [Zid hi, cond_true, Qp hx, Option.bind_some, Qp hy, Option.bind_some]
      cases x != y <;> rfl) (by unfold Jx; rw [Zjs]; rfl)]
    cases a == b <;> rfl
  have : (!(a.length == b.length)) = true := by simp [hab]
  rw [this, cond_true, Zpd hab]
theorem Z3a (q : Tr → Tr → Bool) : ∀ (a b : List Tr), (a.zip b).any (fun p => !q p.1 p.2) = !((a.zip b).all fun p => q p.1 p.2)
  | [], b => by simp
  | x :: a, [] => by simp
  | x :: a, y :: b => by rw [List.zip_cons_cons, List.any_cons, Z3a q a b, List.all_cons]; cases q x y <;> rfl
theorem Zyh {R : Type} (a b : List Tr) (q : Tr → Tr → Bool) (step : Int → Option (Int ⊕ R)) (e o : R) (hab : a.length = b.length) (hl : (a.length : Int) ≤ 140737488355328)
    (h1 : ∀ (i : Nat) (x y : Tr), i < a.length → a[i]? = some x → b[i]? = some y → x ∈ a → y ∈ b → step i = some (if (!q x y) = true then .inr e else .inl (IntKind.i64.wrap ((i : Int) + 1)))) (h2 : step a.length = some (.inr o)) :
    Zx step 0 = some (if ((a.zip b).all fun p => q p.1 p.2) = true then o else e) := by
  have hz : (a.zip b).length = a.length := by rw [List.length_zip]; omega
  have := Zr2 (a.zip b) step (fun p => !q p.1 p.2) e o (by rw [hz]; exact hl) (fun i p hi hp hm => by
    rw [hz] at hi
    have ha : a[i]? = some a[i] := List.getElem?_eq_getElem hi
    have hb : b[i]? = some b[i] := List.getElem?_eq_getElem (by omega)
    have : p = (a[i], b[i]) := by
      rw [List.getElem?_eq_getElem (by rw [hz]; exact hi)] at hp
      injection hp with hp
      rw [← hp, List.getElem_zip]
    subst this
    exact h1 i _ _ hi ha hb (List.getElem_mem _) (List.getElem_mem _)) (by rw [hz]; exact h2)
  rw [this, Z3a q a b]
  cases (a.zip b).all fun p => q p.1 p.2 <;> rfl
theorem Zqz : ∀ (a b : List Tr), a.length = b.length → ((a.zip b).all fun p => eqT p.1 p.2) = eqL a b
  | [], [], _ => rfl
  | [], _ :: _, h => by simp at h
  | _ :: _, [], h => by simp at h
  | x :: a, y :: b, h => by
    have ih := Zqz a b (by simpa using h)
    rw [List.zip_cons_cons, List.all_cons, ih]; rfl
theorem Zpe : ∀ (a b : List Tr), a.length ≠ b.length → eqL a b = false
  | [], [], h => by simp at h
  | [], _ :: _, _ => rfl
  | _ :: _, [], _ => rfl
  | x :: a, y :: b, h => by rw [Zlv, Zpe a b (by simpa using h), Bool.and_false]
theorem Zwe : ∀ (k : Nat) (a b : Tr), Bd a → Bd b → SizeOf.sizeOf a < k → Qs k a b = some (eqT a b)
  | 0, a, b, _, _, h => by omega
  | k + 1, a, b, ha, hb, hk => by
    have ih : ∀ x ∈ a.Kids, ∀ y ∈ b.Kids, Qs k x y = some (eqT x y) := fun x hx y hy => Zwe k x y (ha.all x hx) (hb.all y hy) (by have := Zdb hx; omega)
    have hw := ha.w
    have hkd := ha.k
    show K0 (Qs k) a b = _
    unfold K0
    rw [Zlw, Z0s (by omega), Option.bind_some, Zmf]
    by_cases h0 : a.Kind = b.Kind
    · have e0 : (a.Kind != b.Kind) = false := by simp [h0]
      have e1 : (a.Kind == b.Kind) = true := by simp [h0]
      rw [e0, e1, cond_false, cond_false, Option.bind_some, Bool.true_and]
      cases hw' : a.Words == b.Words with
      | false => rfl
      | true =>
        rw [Bool.not_true, cond_false, Bool.true_and]
        by_cases hab : a.Kids.length = b.Kids.length
        · have : (!(a.Kids.length == b.Kids.length)) = false := by simp [hab]
          rw [this, cond_false, Zyh a.Kids b.Kids eqT (Jv (Qs k) a b) (.inl ()) (.inr ()) hab (by omega) (fun i x y hi hx hy hmx hmy => by
            unfold Jv
            rw [Zid hi, cond_true, Qp hx, Option.bind_some, Qp hy, Option.bind_some, ih x hmx y hmy, Option.bind_some]
            cases eqT x y <;> rfl) (by unfold Jv; rw [Zjs]; rfl)]
          rw [Zqz a.Kids b.Kids hab]
          cases eqL a.Kids b.Kids <;> rfl
        have : (!(a.Kids.length == b.Kids.length)) = true := by simp [hab]
        rw [this, cond_true, Zpe _ _ hab]
    have e0 : (a.Kind != b.Kind) = true := by simp [h0]
    have e1 : (a.Kind == b.Kind) = false := by simp [h0]
    rw [e0, e1]; rfl
theorem Z2t {a b : Tr} (ha : Bd a) (hb : Bd b) : G0 a b = some (eqT a b) := Zpy (SizeOf.sizeOf a + 1) fun k hk => Zwe k a b ha hb (by omega)
theorem Zr7 {t : Tr} (h : t.Kind = 0) : nrm t = ⟨0, [], []⟩ := by rw [Zju, if_pos h]
theorem Ze8 {t : Tr} (h : t.Kind = 1) : nrm t = ⟨1, tr (fun x => x == 0) t.Words, tr (fun x => x.Kind == 0) (t.Kids.map nrm)⟩ := by rw [Zju, if_neg (by rw [h]; decide), if_pos h]
theorem Zej {t : Tr} (h0 : ¬ t.Kind = 0) (h1 : ¬ t.Kind = 1) : nrm t = ⟨t.Kind, t.Words, t.Kids.map nrm⟩ := by rw [Zju, if_neg h0, if_neg h1]
theorem Zvd {α : Type} {f : α → Nat} {x : α} : ∀ {l : List α}, x ∈ l → f x ≤ (l.map f).sum
  | y :: l, h => by
    simp only [List.map_cons, List.sum_cons]
    rcases List.mem_cons.1 h with rfl | h
    · omega
    have := Zvd (f := f) h
    omega
theorem Z1k {α : Type} (p : α → Bool) (f : α → Nat) : ∀ l : List α, ((tr p l).map f).sum ≤ (l.map f).sum
  | [] => by simp [tr]
  | x :: l => by
    have ih := Z1k p f l
    simp only [tr]
    split
    · split <;> simp
    rename_i y ys he
    rw [he] at ih
    simp only [List.map_cons, List.sum_cons] at ih ⊢
    omega
section
variable {A : Zf}
theorem Zt2 {f : Za → Int → Tr × Int × Int} {g : Int → Za × Int} {Q : Tr → Prop} (hQ : ∀ i left, Q (f (g i).1 left).1) : ∀ (m i : Nat) (left : Int) (acc : List Tr), (∀ t ∈ acc, Q t) → (∀ t ∈ (Xt f g m i left acc).1, Q t) ∧ (Xt f g m i left acc).1.length ≤ acc.length + m
  | 0, i, left, acc, h => ⟨h, Nat.le_refl _⟩
  | m + 1, i, left, acc, h => by
    rw [Xt]
    split
    · exact ⟨h, by simp only; omega⟩
    split
    · exact ⟨h, by simp only; omega⟩
    obtain ⟨h1, h2⟩ := Zt2 hQ m (i + 1) (f (g i).1 left).2.1 (acc ++ [(f (g i).1 left).1]) fun t ht => by
      rcases List.mem_append.1 ht with ht | ht
      · exact h t ht
      rw [List.mem_singleton] at ht; subst ht; exact hQ i left
    exact ⟨h1, by rw [List.length_append, List.length_singleton] at h2; omega⟩
theorem Z2i {w c j : Int} (hw : 0 ≤ w ∧ w < 18446744073709551616) : 0 ≤ Zr8 w c j ∧ Zr8 w c j < 18446744073709551616 := by
  unfold Zr8
  have h1 : w.toNat / 2 ^ (j * wdt c).toNat % 2 ^ (wdt c).toNat ≤ w.toNat / 2 ^ (j * wdt c).toNat := Nat.mod_le _ _
  have h2 : w.toNat / 2 ^ (j * wdt c).toNat ≤ w.toNat := Nat.div_le_self _ _
  omega
theorem Ze2 (hw : WS A.segments) (r : Za) : ∀ w ∈ Yz A r, 0 ≤ w ∧ w < 18446744073709551616 := by
  unfold Yz
  split
  · intro w hm
    rw [List.mem_singleton] at hm
    subst hm
    unfold Zt9
    split
    · omega
    exact Z2i (Zfq hw _ _)
  split
  · exact fun w hm => Z0u hw _ w (List.mem_of_mem_drop (List.mem_of_mem_take hm))
  exact fun w hm => by cases hm
theorem Zcy {r : Za} (h : OKr A r) : (Yz A r).length ≤ 65536 := by
  unfold Yz
  cases h with
  | z => simp [r0]
  | st s a d p hd hp hin => simp only [show ¬ (1 : Int) = 10 from by decide, if_false, if_true, List.length_take]; omega
  | li k s a n hk hn hin => simp only; rw [if_neg (by omega), if_neg (by omega)]; simp
  | co => simp
  | at_ => simp
theorem Z2g (hw : WS A.segments) : ∀ (d : Nat) r left, OKr A r → 0 ≤ left → left ≤ 65536 → Bd (Zbo A d r left).1 := fun d => by
  have key : ∀ (f : Za → Int → Tr × Int × Int), True := fun _ => trivial
  clear key
  have hst : ∀ (f : Za → Int → Tr × Int × Int), (∀ r left, OKr A r → Bd (f r left).1) → ∀ r left, OKr A r → r.ptrs ≤ 65536 → Bd (stK A f r left).1 := fun f hf r left hr hp => by
    unfold stK
    have := Zt2 (f := f) (g := Y8 A r) (Q := Bd) (fun i left => hf _ left (Vg hr i)) r.ptrs.toNat 0 left [] (by simp)
    refine .mk _ (by simp only; have := Zcy hr; omega) (by simp only; have := this.2; simp only [List.length_nil] at this; omega) (Ze2 hw r) this.1
  have main : ∀ r left, OKr A r → Bd (Zbo A d r left).1 := by
    induction d using Nat.strongRecOn with
    | ind d ih =>
      intro r left hr
      have hbad : ∀ r left, Bd (bad r left).1 := fun r left => .mk _ (by simp [bad]) (by simp [bad]) (by simp [bad]) (by simp [bad])
      have hP : ∀ k, 1 ≤ k → ∀ r left, OKr A r → Bd (Vs A k d r left).1 := fun k hk r left hr => by
        unfold Vs
        split
        · exact ih _ (by omega) r left hr
        exact hbad _ _
      rw [Zk8]
      unfold Zhm
      have hwl := Zcy hr
      split
      · exact .mk _ (by simp only; omega) (by simp) (Ze2 hw r) (by simp)
      split
      · exact .mk _ (by simp only; omega) (by simp) (Ze2 hw r) (by simp)
      have hkn := Zdc hr
      have hQ : ∀ (i : Int) left, Bd (Zco A (Vs A 1 d) (Vs A 2 d) r (Y8 A r i).1 left).1 := fun i left => by
        unfold Zco
        split
        · rename_i k9
          have hkr := Vg hr i
          refine hst _ (fun r left hr => hP 2 (by omega) r left hr) _ _ hkr ?_
          cases hkr' : (Y8 A r i).1 with
          | mk a b c d e f g h j =>
            rw [hkr'] at hkr
            cases hkr with
            | z => simp
            | st s a d p hd hp hin => simp only; omega
            | li k s a n hk => simp
            | co s a d p n hd hp hn => simp only; omega
            | at_ => simp
        split
        · exact hP 1 (by omega) _ _ (Vg hr i)
        unfold Zip
        have := Zcy (Vg hr i)
        exact .mk _ (by simp only; omega) (by simp) (Ze2 hw _) (by simp)
      have := Zt2 (f := Zco A (Vs A 1 d) (Vs A 2 d) r) (g := Y8 A r) (Q := Bd) hQ (Yd r).toNat 0 (left - wtR r) [] (by simp)
      refine .mk _ (by simp only; omega) ?_ (Ze2 hw r) this.1
      have h2 := this.2
      simp only [List.length_nil] at h2 ⊢
      omega
  exact fun r left hr _ _ => main r left hr
end
section
variable {A : Zf}
theorem Z25 (x : Zw) : ((Zcr A x).2.2 ≠ 0 ∧ (Zcr A x).1 = ⟨0, [], []⟩ ∧ (Zy6 A x).2 = (Zcr A x).2.2) ∨ ((Zcr A x).2.2 = 0 ∧ (Zy6 A x).2 = 0 ∧ (atR A 0 0).2 = 0 ∧ (Zbo A (Vb x).Depth.toNat (atR A 0 0).1 (Vb x).Weight).2.2 = 0 ∧ (Zcr A x).1 = (Zbo A (Vb x).Depth.toNat (atR A 0 0).1 (Vb x).Weight).1) := by
  have hc : (Zy6 A x).2 = (Zcr A x).2.2 := by rw [← Z26]
  unfold Zcr at hc ⊢
  by_cases h : (atR A 0 0).2 ≠ 0
  · rw [if_pos h] at hc ⊢
    exact .inl ⟨h, rfl, hc⟩
  rw [if_neg h] at hc ⊢
  simp only at hc ⊢
  by_cases hq : (Zbo A (Vb x).Depth.toNat (atR A 0 0).1 (Vb x).Weight).2.2 ≠ 0
  · rw [if_pos hq] at hc ⊢
    exact .inl ⟨hq, rfl, hc⟩
  rw [if_neg hq] at hc ⊢
  exact .inr ⟨rfl, hc, by omega, by omega, rfl⟩
theorem Z5p (x : Zw) : (Vb x).Depth.toNat ≤ 64 ∧ 0 ≤ (Vb x).Weight ∧ (Vb x).Weight ≤ 65536 := by
  have hd : 0 ≤ (Vb x).Depth ∧ (Vb x).Depth ≤ 64 := Zfx _ _ (by decide)
  have hW : 0 ≤ (Vb x).Weight ∧ (Vb x).Weight ≤ 65536 := Zfx _ _ (by decide)
  omega
theorem Z24 (hw : WS A.segments) (x : Zw) : Bd (Zcr A x).1 := by
  have hl := Z5p x
  rcases Z25 (A := A) x with ⟨h1, h2, h3⟩ | ⟨h1, h2, h3, h4, h5⟩
  · rw [h2]; exact .mk _ (by simp) (by simp) (by simp) (by simp)
  rw [h5]; exact Z2g hw _ _ _ (Zjj 0 0) hl.2.1 hl.2.2
end
section
variable {A : Zf}
theorem Z5m {r : Za} (h : r.kind = 9) {i : Int} (hi : 0 ≤ i ∧ i < Yd r) : Y8 A r i = (⟨some A, 1, r.segment, r.at_ + 1 + i * (r.words + r.ptrs), r.words, r.ptrs, 0, 0, 0⟩, 0) := by
  unfold Y8
  rw [if_neg (by omega), if_neg (by omega), if_neg (by omega), if_pos h]
theorem Z5l {r : Za} (h : 2 ≤ r.kind ∧ r.kind ≤ 7) {i : Int} (hi : 0 ≤ i ∧ i < Yd r) : Y8 A r i = (⟨some A, 10, r.segment, r.at_, 0, 0, 0, r.kind - 2, i⟩, 0) := by
  unfold Y8
  rw [if_neg (by omega), if_neg (by omega), if_neg (by omega), if_neg (by omega)]
end
def Zod {α σ : Type} (f : σ → Nat → α → σ) : σ → Nat → List α → σ
  | s, _, [] => s
  | s, i, x :: xs => Zod f (f s i x) (i + 1) xs
theorem Zt6 {α σ S R : Type} (xs : List α) (pack : Int → σ → S) (out : σ → R) (step : S → Option (S ⊕ R)) (f : σ → Nat → α → σ) (I : Nat → σ → Prop) (hl : (xs.length : Int) ≤ 140737488355328)
    (h1 : ∀ (i : Nat) (s : σ) (x : α), i < xs.length → xs[i]? = some x → x ∈ xs → I i s → step (pack i s) = some (.inl (pack (IntKind.i64.wrap ((i : Int) + 1)) (f s i x))) ∧ I (i + 1) (f s i x))
    (h2 : ∀ s, I xs.length s → step (pack xs.length s) = some (.inr (out s))) (s : σ) (h0 : I 0 s) : Zx step (pack 0 s) = some (out (Zod f s 0 xs)) ∧ I xs.length (Zod f s 0 xs) := by
  have key : ∀ (l pre : List α) (s : σ), xs = pre ++ l → I pre.length s → Zx step (pack (pre.length : Nat) s) = some (out (Zod f s pre.length l)) ∧ I xs.length (Zod f s pre.length l) := fun l => by
    induction l with
    | nil =>
      intro pre s hp hi
      rw [List.append_nil] at hp
      subst hp
      exact ⟨Yw (h2 s hi), hi⟩
    | cons x l ih =>
      intro pre s hp hI
      have hx : xs[pre.length]? = some x := by rw [hp, List.getElem?_append_right (Nat.le_refl _), Nat.sub_self]; rfl
      have hi : pre.length < xs.length := by rw [hp]; simp
      obtain ⟨a, b⟩ := h1 pre.length s x hi hx (List.mem_of_getElem? hx) hI
      rw [Y3 (by omega) (by omega)] at a
      have := ih (pre ++ [x]) (f s pre.length x) (by rw [hp]; simp) (by rw [List.length_append, List.length_singleton]; exact b)
      rw [List.length_append, List.length_singleton] at this
      exact ⟨(Xf a).trans this.1, this.2⟩
  exact key xs [] s rfl h0
def nd (t : Tr) : Nat := 1 + (t.Kids.attach.map fun k => nd k.1).sum
termination_by SizeOf.sizeOf t
decreasing_by exact Zdb k.2
theorem Zoj (t : Tr) : nd t = 1 + (t.Kids.map nd).sum := by
  rw [nd]
  simp
def ndl (l : List Tr) : Nat := (l.map nd).sum
theorem Z2h (l : List Tr) (x : Tr) : ndl (l ++ [x]) = ndl l + nd x := by simp [ndl]
inductive Mn (A : Zf) : Za → Tr → Prop
  | mk {r : Za} {t : Tr} (hr : OKr A r) (hk : t.Kind = r.kind) (hw : t.Words = Yz A r) (hl : (t.Kids.length : Int) = Yd r) (he : ∀ (i : Nat) (x : Tr), t.Kids[i]? = some x → (Y8 A r i).2 = 0) (h : ∀ (i : Nat) (x : Tr), t.Kids[i]? = some x → Mn A (Y8 A r i).1 x) : Mn A r t
section
variable {A : Zf}
theorem Z3e {f : Za → Int → Tr × Int × Int} {g : Int → Za × Int} {e : Int} {n : Nat}
    (hQ : ∀ (i : Nat) (l : Int), i < n → 0 ≤ l → (g i).2 = 0 → (f (g i).1 l).2.2 = 0 → Mn A (g i).1 (f (g i).1 l).1 ∧ (nd (f (g i).1 l).1 : Int) ≤ e + (l - (f (g i).1 l).2.1) ∧ 0 ≤ (f (g i).1 l).2.1) :
    ∀ (m i : Nat) (left : Int) (acc : List Tr), i + m = n → 0 ≤ left → acc.length = i → (∀ (j : Nat) x, acc[j]? = some x → (g j).2 = 0 ∧ Mn A (g j).1 x) → (Xt f g m i left acc).2.2 = 0 →
      (Xt f g m i left acc).1.length = n ∧ (∀ (j : Nat) x, (Xt f g m i left acc).1[j]? = some x → (g j).2 = 0 ∧ Mn A (g j).1 x) ∧ (ndl (Xt f g m i left acc).1 : Int) ≤ ndl acc + (m : Int) * e + (left - (Xt f g m i left acc).2.1)
  | 0, i, left, acc, hi, h0, ha, hA, h => by
    refine ⟨by simp only [Xt]; omega, by simp only [Xt]; exact hA, ?_⟩
    simp only [Xt]
    omega
  | m + 1, i, left, acc, hi, h0, ha, hA, h => by
    rw [Xt] at h ⊢
    by_cases h1 : (g i).2 ≠ 0
    · rw [if_pos h1] at h; exact absurd h h1
    rw [if_neg h1] at h ⊢
    by_cases h2 : (f (g i).1 left).2.2 ≠ 0
    · rw [if_pos h2] at h; exact absurd h h2
    rw [if_neg h2] at h ⊢
    obtain ⟨a1, a2, a3⟩ := hQ i left (by omega) h0 (by omega) (by omega)
    obtain ⟨b1, b2, b3⟩ := Z3e hQ m (i + 1) _ _ (by omega) a3 (by rw [List.length_append, ha]; rfl) (fun j x hx => by
      rcases Nat.lt_or_ge j acc.length with hj | hj
      · rw [List.getElem?_append_left hj] at hx; exact hA j x hx
      rw [List.getElem?_append_right hj] at hx
      have hj0 : j - acc.length = 0 := by
        rcases Nat.eq_zero_or_pos (j - acc.length) with q | q
        · exact q
        rw [List.getElem?_eq_none (by simp; omega)] at hx; cases hx
      rw [hj0] at hx
      simp only [List.getElem?_cons_zero, Option.some.injEq] at hx
      subst hx
      have : j = i := by omega
      subst this
      exact ⟨by omega, a1⟩) h
    refine ⟨b1, b2, ?_⟩
    rw [Z2h] at b3
    have : (((m + 1 : Nat)) : Int) * e = (m : Int) * e + e := by rw [show ((m + 1 : Nat) : Int) = (m : Int) + 1 from rfl, Int.add_mul, Int.one_mul]
    rw [this]
    omega
def HM (A : Zf) (f : Za → Int → Tr × Int × Int) : Prop := ∀ k left, OKr A k → 0 ≤ left → (f k left).2.2 = 0 → Mn A k (f k left).1 ∧ (nd (f k left).1 : Int) ≤ 1 + (left - (f k left).2.1) ∧ 0 ≤ (f k left).2.1
theorem Z5k : HM A bad := fun k left _ _ h => by simp [bad] at h
theorem Zla {f : Za → Int → Tr × Int × Int} {e : Int} {r : Za} (hr : OKr A r) {left : Int} (h0 : 0 ≤ left)
    (hQ : ∀ (i : Nat) (l : Int), i < (Yd r).toNat → 0 ≤ l → (Y8 A r i).2 = 0 → (f (Y8 A r i).1 l).2.2 = 0 → Mn A (Y8 A r i).1 (f (Y8 A r i).1 l).1 ∧ (nd (f (Y8 A r i).1 l).1 : Int) ≤ e + (l - (f (Y8 A r i).1 l).2.1) ∧ 0 ≤ (f (Y8 A r i).1 l).2.1)
    (h : (Xt f (Y8 A r) (Yd r).toNat 0 left []).2.2 = 0) :
    Mn A r ⟨r.kind, Yz A r, (Xt f (Y8 A r) (Yd r).toNat 0 left []).1⟩ ∧ (nd ⟨r.kind, Yz A r, (Xt f (Y8 A r) (Yd r).toNat 0 left []).1⟩ : Int) ≤ 1 + Yd r * e + (left - (Xt f (Y8 A r) (Yd r).toNat 0 left []).2.1) := by
  have hkn := Zdc hr
  obtain ⟨a1, a2, a3⟩ := Z3e hQ (Yd r).toNat 0 left [] (by omega) h0 rfl (fun j x hx => by simp at hx) h
  refine ⟨.mk hr rfl rfl ?_ (fun i x hx => (a2 i x hx).1) (fun i x hx => (a2 i x hx).2), ?_⟩
  · show ((Xt f (Y8 A r) (Yd r).toNat 0 left []).1.length : Int) = Yd r
    rw [a1]
    omega
  rw [Zoj]
  simp only
  rw [show (((Yd r).toNat : Nat) : Int) = Yd r by omega] at a3
  unfold ndl at a3
  simp only [List.map_nil, List.sum_nil] at a3
  omega
theorem Z2b (hw : WS A.segments) : ∀ d, HM A (Zbo A d) := fun d => by
  induction d using Nat.strongRecOn with
  | ind d ih =>
    intro r left hr h0 h
    have hP : ∀ k, 1 ≤ k → HM A (Vs A k d) := fun k hk => by
      unfold Vs
      split
      · exact ih _ (by omega)
      exact Z5k
    have hlf := Zk7 hw d r left hr h0 h
    refine (fun (q : Mn A r (Zbo A d r left).1 ∧ (nd (Zbo A d r left).1 : Int) ≤ 1 + (left - (Zbo A d r left).2.1)) => ⟨q.1, q.2, hlf.1⟩) ?_
    have hwt := Z1z hw hr
    have hkn := Zdc hr
    rw [Zk8] at h hlf ⊢
    unfold Zhm at h hlf ⊢
    by_cases k0 : r.kind = 0
    · rw [if_pos k0]
      have hz : Yd r = 0 := by
        cases hr with
        | z => rfl
        | st => simp at k0
        | li k s a n hk => simp only at k0; omega
        | co => simp at k0
        | at_ => simp at k0
      refine ⟨.mk hr rfl rfl (by simp [hz]) (fun i x hx => by simp at hx) (fun i x hx => by simp at hx), ?_⟩
      rw [Zoj]
      simp
    rw [if_neg k0] at h hlf ⊢
    by_cases hb : d < lvR r ∨ left < wtR r
    · rw [if_pos hb] at h; simp at h
    rw [if_neg hb] at h hlf ⊢
    simp only at h hlf ⊢
    by_cases k9 : r.kind = 9
    · have ef : Zco A (Vs A 1 d) (Vs A 2 d) r = stK A (Vs A 2 d) := by unfold Zco; rw [if_pos k9]
      rw [ef] at h hlf ⊢
      have ew : wtR r = 1 + r.count * (1 + r.words + r.ptrs) := by unfold wtR; rw [if_neg k0, if_neg (by omega), if_pos k9]
      have ekn : Yd r = r.count := by unfold Yd; rw [if_neg (by omega)]
      have hrg : 0 ≤ r.words ∧ 0 ≤ r.ptrs := by
        cases hr with
        | z => simp [r0] at k0
        | st => simp at k9
        | li k s a n hk => simp only at k9; omega
        | co s a d' p n hd hp => simp only; omega
        | at_ => simp at k9
      obtain ⟨m1, m2⟩ := Zla (e := 1 + r.ptrs) hr (left := left - wtR r) (by omega) (fun i l hi hl g0 e0 => by
        have hks := Z5m (A := A) k9 (i := (i : Int)) (by omega)
        have hko := Vg hr (i : Int)
        have e1 : (Y8 A r (i : Int)).1.kind = 1 := by rw [hks]
        have e3 : (Y8 A r (i : Int)).1.ptrs = r.ptrs := by rw [hks]
        have ek : Yd (Y8 A r (i : Int)).1 = r.ptrs := by unfold Yd; rw [if_pos e1, e3]
        unfold stK at e0 ⊢
        simp only at e0 ⊢
        rw [e3, ← ek] at e0 ⊢
        have hgl := Zk6 (Zmg hw 2 d) (fun i' => Vg hko i') _ _ _ [] hl e0
        obtain ⟨n1, n2⟩ := Zla (f := Vs A 2 d) (e := 1) hko hl (fun i' l' hi' hl' g0' e0' => hP 2 (by omega) _ _ (Vg hko i') hl' e0') e0
        rw [e1] at n1 n2
        rw [ek] at n1 n2 hgl ⊢
        exact ⟨n1, by omega, hgl.1⟩) h
      refine ⟨m1, ?_⟩
      have : Yd r * (1 + r.ptrs) ≤ r.count * (1 + r.words + r.ptrs) := by
        rw [ekn]
        exact Int.mul_le_mul_of_nonneg_left (by omega) (by omega)
      omega
    by_cases k18 : r.kind = 1 ∨ r.kind = 8
    · have ef : Zco A (Vs A 1 d) (Vs A 2 d) r = Vs A 1 d := by unfold Zco; rw [if_neg k9, if_pos k18]
      rw [ef] at h hlf ⊢
      obtain ⟨m1, m2⟩ := Zla (e := 1) hr (left := left - wtR r) (by omega) (fun i l hi hl g0 e0 => hP 1 (by omega) _ _ (Vg hr i) hl e0) h
      refine ⟨m1, ?_⟩
      have : 1 + Yd r ≤ wtR r := by
        unfold wtR Yd
        rw [if_neg k0]
        by_cases k1 : r.kind = 1
        · rw [if_pos k1, if_pos k1]
          cases hr with
          | z => simp [r0] at k0
          | st s a d' p hd hp => simp only; omega
          | li k s a n hk => simp only at k1; omega
          | co s a d' p n hd hp => simp at k1
          | at_ => simp at k1
        rw [if_neg k1, if_neg k9, if_neg k1]
        omega
      omega
    have ef : Zco A (Vs A 1 d) (Vs A 2 d) r = Zip A := by unfold Zco; rw [if_neg k9, if_neg k18]
    rw [ef] at h hlf ⊢
    have hnn : Yd r = 0 ∨ 2 ≤ r.kind ∧ r.kind ≤ 7 := by
      cases hr with
      | z => exact .inl rfl
      | st => simp at k18
      | li k s a n hk => simp only at k18 ⊢; exact .inr (by omega)
      | co => simp at k9
      | at_ => exact .inl rfl
    obtain ⟨m1, m2⟩ := Zla (f := Zip A) (e := 1) hr (left := left - wtR r) (by omega) (fun i l hi hl g0 e0 => by
      have hks := Z5l (A := A) (r := r) (by omega) (i := (i : Int)) (by omega)
      have e2 : Yd (Y8 A r (i : Int)).1 = 0 := by rw [hks]; rfl
      refine ⟨.mk (Vg hr i) rfl rfl (by simp [Zip, e2]) (fun i x hx => by simp [Zip] at hx) (fun i x hx => by simp [Zip] at hx), ?_, hl⟩
      rw [Zoj]
      simp [Zip]) h
    refine ⟨m1, ?_⟩
    have : 1 + Yd r ≤ wtR r := by
      unfold wtR Yd
      rw [if_neg k0, if_neg (by omega), if_neg (by omega), if_neg k9]
      omega
    omega
end
theorem Z23 {α : Type} (p : α → Bool) (l : List α) : trN p l l.length = (tr p l).length := by
  obtain ⟨h1, h2⟩ := Zqh (p := p) (l := l) l.length (Nat.le_refl _)
  rw [List.take_length] at h1
  rw [← h1, List.length_take]
  omega
theorem Zr3 {α R : Type} (l : List α) (p : α → Bool) (step : Int → Option (Int ⊕ R)) (g : Nat → R)
    (h0 : step 0 = some (.inr (g 0))) (h1 : ∀ (n : Nat) (x : α), l[n]? = some x → n < l.length → step ((n + 1 : Nat) : Int) = some (if p x = true then .inl (n : Int) else .inr (g (n + 1)))) : Zx step (l.length : Int) = some (g (tr p l).length) := by
  have key : ∀ n : Nat, n ≤ l.length → Zx step (n : Int) = some (g (trN p l n)) := fun n => by
    induction n with
    | zero => intro _; exact Yw h0
    | succ n ih =>
      intro hn
      have hx : l[n]? = some l[n] := List.getElem?_eq_getElem (by omega)
      have h := h1 n _ hx (by omega)
      unfold trN
      rw [hx]
      simp only
      split
      · rename_i hp
        rw [if_pos hp] at h
        rw [Xf h]
        exact ih (by omega)
      rename_i hp
      rw [if_neg hp] at h
      exact Yw h
  rw [← Z23]
  exact key l.length (Nat.le_refl _)
section
variable {A B : Zf}
theorem Mn.ok {r : Za} {t : Tr} (h : Mn A r t) : OKr A r := by cases h; assumption
theorem Mn.kd {r : Za} {t : Tr} (h : Mn A r t) : t.Kind = r.kind := by cases h; assumption
theorem Mn.wd {r : Za} {t : Tr} (h : Mn A r t) : t.Words = Yz A r := by cases h; assumption
theorem Mn.ln {r : Za} {t : Tr} (h : Mn A r t) : (t.Kids.length : Int) = Yd r := by cases h; assumption
theorem Mn.er {r : Za} {t : Tr} (h : Mn A r t) : ∀ (i : Nat) (x : Tr), t.Kids[i]? = some x → (Y8 A r i).2 = 0 := by cases h; assumption
theorem Mn.kid {r : Za} {t : Tr} (h : Mn A r t) : ∀ (i : Nat) (x : Tr), t.Kids[i]? = some x → Mn A (Y8 A r i).1 x := by cases h; assumption
theorem Zpz (hw : WS A.segments) {r : Za} (h : OKr A r) : Ue r = some ((tr (fun x => x == 0) (Yz A r)).length : Int) := by
  have hl := Zni hw h
  have hle := Zcy h
  have hloop := Zr3 (Yz A r) (fun x => x == 0) (G3 r) (fun n => (n : Int)) rfl (fun n x hx hn => by
    unfold G3
    rw [Z5j, cond_true, Y3 (by omega) (by omega), show ((n + 1 : Nat) : Int) - 1 = (n : Int) by omega, Zlg hw h, Option.bind_some]
    have : Zo9 A r n = x := by
      rw [← Zg6 hw h hn]
      rw [List.getElem?_eq_getElem hn] at hx
      injection hx
    rw [this]
    simp only [Option.bind_some, cond_true]
    cases x == 0 <;> rfl)
  unfold Ue
  rw [Zor, ← hl, Option.bind_some, hloop]
  rfl
theorem Zqi {p : Int → Bool} {l : List Int} {i : Nat} (hi : i < (tr p l).length) : ∃ h : i < l.length, (tr p l)[i]? = some (l[i]'h) := by
  have h := Zqk p l
  have hl := Zea p l
  refine ⟨by omega, ?_⟩
  rw [← h, List.getElem?_take, if_pos hi, List.getElem?_eq_getElem (by omega)]
theorem Zqc (hA : WS A.segments) (hB : WS B.segments) {a b : Za} (ha : OKr A a) (hb : OKr B b) : K3 a b = some (tr (fun x => x == 0) (Yz A a) == tr (fun x => x == 0) (Yz B b)) := by
  have hle := Zcy ha
  have htl := Zea (fun x : Int => x == 0) (Yz A a)
  unfold K3
  rw [Zpz hA ha, Option.bind_some, Zpz hB hb, Option.bind_some, Zmf]
  by_cases hl : (tr (fun x => x == 0) (Yz B b)).length = (tr (fun x => x == 0) (Yz A a)).length
  · rw [show (!((tr (fun x => x == 0) (Yz B b)).length == (tr (fun x => x == 0) (Yz A a)).length)) = false by simp [hl], cond_false]
    rw [Zmj (tr (fun x => x == 0) (Yz A a)) (tr (fun x => x == 0) (Yz B b)) (Jz a b ((tr (fun x => x == 0) (Yz A a)).length : Int)) (.inl ()) (.inr ()) hl.symm (by omega) (fun i x y hi hx hy => by
      unfold Jz
      obtain ⟨i1, e1⟩ := Zqi hi
      obtain ⟨i2, e2⟩ := Zqi (l := Yz B b) (p := fun x => x == 0) (i := i) (by omega)
      rw [e1] at hx
      rw [e2] at hy
      injection hx with hx
      injection hy with hy
      rw [Zid hi, cond_true, Zlg hA ha, Option.bind_some, Zlg hB hb, Option.bind_some, ← Zg6 hA ha i1, ← Zg6 hB hb i2, hx, hy]
      cases x != y <;> rfl) (by unfold Jz; rw [Zjs]; rfl)]
    cases tr (fun x => x == 0) (Yz A a) == tr (fun x => x == 0) (Yz B b) <;> rfl
  rw [show (!((tr (fun x => x == 0) (Yz B b)).length == (tr (fun x => x == 0) (Yz A a)).length)) = true by simp [hl], cond_true, Zpd (fun q => hl q.symm)]
theorem Z1o (hw : WS A.segments) {r : Za} {t : Tr} (h : Mn A r t) : Zbm r = some (((tr (fun x => x.Kind == 0) t.Kids).length : Int), 0) := by
  have hl := h.ln
  have hkn := Zdc h.ok
  have hloop := Zr3 (R := (Int × Int) ⊕ Unit) t.Kids (fun x => x.Kind == 0) (G4 r) (fun n => match n with | 0 => .inr () | n + 1 => .inl (((n + 1 : Nat) : Int), 0)) rfl (fun n x hx hn => by
    have e1 := h.er n x hx
    have e2 := (h.kid n x hx).kd
    unfold G4
    rw [Z5j, cond_true, Y3 (by omega) (by omega), show ((n + 1 : Nat) : Int) - 1 = (n : Int) by omega, Zmb hw h.ok, Option.bind_some, e1, show ((0 : Int) != 0) = false from rfl, cond_false, show Yx (Y8 A r n).1 = some (Y8 A r n).1.kind from rfl, Option.bind_some, cond_false, Option.bind_some, ← e2]
    rcases Bool.eq_false_or_eq_true (x.Kind == 0) with q | q
    · rw [show (x.Kind != 0) = false by unfold bne; rw [q]; rfl, cond_false, if_pos q]
    rw [show (x.Kind != 0) = true by unfold bne; rw [q]; rfl, cond_true, if_neg (by rw [q]; decide)])
  unfold Zbm
  rw [Zjc, ← hl, Option.bind_some, hloop]
  cases (tr (fun x => x.Kind == 0) t.Kids).length <;> rfl
def tk (t : Tr) : List Tr := if t.Kind = 1 then tr (fun x => x.Kind == 0) t.Kids else t.Kids
theorem Zul (t : Tr) {i : Nat} {x : Tr} (h : (tk t)[i]? = some x) : t.Kids[i]? = some x := by
  unfold tk at h
  split at h
  · rw [← Zqk, List.getElem?_take] at h
    split at h
    · exact h
    cases h
  exact h
theorem Zqd {t x : Tr} (h : x ∈ tk t) : x ∈ t.Kids := by
  unfold tk at h
  split at h
  · exact Zqj h
  exact h
theorem Zz6 (t : Tr) : ndl (tk t) + 1 ≤ nd t := by
  rw [Zoj]
  unfold ndl tk
  split
  · have := Z1k (fun x : Tr => x.Kind == 0) nd t.Kids
    omega
  omega
theorem Zlu (hw : WS A.segments) {r : Za} {t : Tr} (h : Mn A r t) : Vw r = some (((tk t).length : Int), 0) := by
  have hk := h.kd
  unfold Vw tk
  rw [show Yx r = some r.kind from rfl, Option.bind_some, ← hk]
  by_cases h1 : t.Kind = 1
  · rw [show (t.Kind != 1) = false from by rw [h1]; rfl, cond_false, Z1o hw h, if_pos h1]
    rfl
  rw [show (t.Kind != 1) = true from bne_iff_ne.2 h1, cond_true, Zjc, if_neg h1, h.ln]
  rfl
def eqv (t u : Tr) : Bool := eqT (nrm t) (nrm u)
theorem Zzc {t u : Tr} (h : t.Kind ≠ u.Kind) : eqv t u = false := by
  unfold eqv
  rw [Zlw, U4, U4, beq_eq_false_iff_ne.2 h]
  rfl
theorem Mn.w0 {r : Za} {t : Tr} (h : Mn A r t) (h1 : t.Kind ≠ 1) (h10 : t.Kind ≠ 10) : t.Words = [] := by
  rw [h.wd]
  unfold Yz
  rw [← h.kd, if_neg h10, if_neg h1]
theorem Mn.w1 {r : Za} {t : Tr} (h : Mn A r t) (h10 : t.Kind = 10) : ∃ x, t.Words = [x] := by
  rw [h.wd]
  unfold Yz
  rw [← h.kd, if_pos h10]
  exact ⟨_, rfl⟩
theorem Mn.k0 {r : Za} {t : Tr} (h : Mn A r t) (h0 : t.Kind = 0) : t.Kids = [] := by
  have hl := h.ln
  have hz : Yd r = 0 := by
    have hk := h.kd
    have hr := h.ok
    cases hr with
    | z => rfl
    | st => simp at hk; omega
    | li k s a n hk' => simp only at hk; omega
    | co => simp at hk; omega
    | at_ => simp at hk; omega
  exact List.eq_nil_of_length_eq_zero (by omega)
theorem Z5v (x y : Int) : (tr (fun x => x == 0) [x] == tr (fun x => x == 0) [y]) = ([x] == [y]) := by
  have e : ∀ x : Int, tr (fun x => x == 0) [x] = if x = 0 then [] else [x] := fun x => by
    rw [Zky (l := []) rfl]
    simp only [beq_iff_eq]
  rw [e, e]
  by_cases hx : x = 0
  · by_cases hy : y = 0
    · rw [if_pos hx, if_pos hy, hx, hy]; rfl
    rw [if_pos hx, if_neg hy, hx]
    rw [Bool.eq_iff_iff, beq_iff_eq, beq_iff_eq]
    exact ⟨fun q => by (cases q), fun q => by injection q with q; exact absurd q.symm hy⟩
  by_cases hy : y = 0
  · rw [if_neg hx, if_pos hy, hy]
    rw [Bool.eq_iff_iff, beq_iff_eq, beq_iff_eq]
    exact ⟨fun q => by (cases q), fun q => by injection q with q; exact absurd q hx⟩
  rw [if_neg hx, if_neg hy]
theorem Z5f {a b : Za} {t u : Tr} (ha : Mn A a t) (hb : Mn B b u) (hk : t.Kind = u.Kind) : eqv t u = ((tr (fun x => x == 0) t.Words == tr (fun x => x == 0) u.Words) && eqL ((tk t).map nrm) ((tk u).map nrm)) := by
  unfold eqv
  rw [Zlw, U4, U4, beq_iff_eq.2 hk, Bool.true_and]
  by_cases h0 : t.Kind = 0
  · have h0' : u.Kind = 0 := hk ▸ h0
    rw [Zr7 h0, Zr7 h0', ha.w0 (by omega) (by omega), hb.w0 (by omega) (by omega)]
    unfold tk
    rw [if_neg (by omega), if_neg (by omega), ha.k0 h0, hb.k0 h0']
    rfl
  by_cases h1 : t.Kind = 1
  · have h1' : u.Kind = 1 := hk ▸ h1
    have q1 : ∀ l : List Tr, tr (fun x : Tr => x.Kind == 0) (l.map nrm) = (tr (fun x : Tr => x.Kind == 0) l).map nrm := Zuo (fun x => by rw [U4])
    rw [Ze8 h1, Ze8 h1']
    unfold tk
    rw [if_pos h1, if_pos h1', q1, q1]
  have h0' : ¬ u.Kind = 0 := fun q => h0 (hk.trans q)
  have h1' : ¬ u.Kind = 1 := fun q => h1 (hk.trans q)
  rw [Zej h0 h1, Zej h0' h1']
  unfold tk
  rw [if_neg h1, if_neg h1']
  by_cases h10 : t.Kind = 10
  · obtain ⟨x, ex⟩ := ha.w1 h10
    obtain ⟨y, ey⟩ := hb.w1 (hk ▸ h10)
    rw [ex, ey, Z5v]
  rw [ha.w0 h1 h10, hb.w0 h1' (fun q => h10 (hk.trans q))]
  rfl
end
section
variable {A B : Zf}
theorem Zq7 (hA : WS A.segments) (hB : WS B.segments) {F : Zh → Za → Za → Option (Bool × Int × Zh)} {a b : Za} (ha : OKr A a) (hb : OKr B b) {n : Nat} (hn : n ≤ 1073741824) :
    ∀ (ks ls : List Tr) (i : Nat) (c : Int), n = i + ks.length → ks.length = ls.length → (∀ (j : Nat) x, ks[j]? = some x → (Y8 A a ((i + j : Nat) : Int)).2 = 0 ∧ Mn A (Y8 A a ((i + j : Nat) : Int)).1 x) → (∀ (j : Nat) x, ls[j]? = some x → (Y8 B b ((i + j : Nat) : Int)).2 = 0 ∧ Mn B (Y8 B b ((i + j : Nat) : Int)).1 x) →
      (∀ x ∈ ks, ∀ p q y (c : Int), Mn A p x → Mn B q y → (nd x : Int) ≤ c → c ≤ 70000 → ∃ c', F ⟨c⟩ p q = some (eqv x y, 0, ⟨c'⟩) ∧ c - nd x ≤ c' ∧ c' ≤ c) → (ndl ks : Int) ≤ c → c ≤ 70000 →
      ∃ c', Zx (Yu F a b (n : Int)) ((i : Int), c) = some (if eqL (ks.map nrm) (ls.map nrm) = true then .inr c' else .inl (0, c')) ∧ c - ndl ks ≤ c' ∧ c' ≤ c
  | [], [], i, c, hi, _, _, _, _, hc, hc2 => by
    refine ⟨c, ?_, by omega, Int.le_refl _⟩
    refine Yw ?_
    unfold Yu
    simp only [List.length_nil, Nat.add_zero] at hi
    subst hi
    simp only
    rw [Zjs, cond_false]
    rfl
  | [], y :: ls, i, c, hi, hl, _, _, _, hc, hc2 => by simp at hl
  | x :: ks, [], i, c, hi, hl, _, _, _, hc, hc2 => by simp at hl
  | x :: ks, y :: ls, i, c, hi, hl, hk, hk', ih, hc, hc2 => by
    obtain ⟨a1, a2⟩ := hk 0 x rfl
    obtain ⟨b1, b2⟩ := hk' 0 y rfl
    rw [Nat.add_zero] at a1 a2 b1 b2
    have hnd : (ndl (x :: ks) : Int) = nd x + ndl ks := by unfold ndl; rw [List.map_cons, List.sum_cons]; omega
    rw [hnd] at hc ⊢
    obtain ⟨c1, e1, l1, l2⟩ := ih x (.head _) _ _ y c a2 b2 (by omega) hc2
    simp only [List.length_cons] at hi hl
    have hs : Yu F a b (n : Int) ((i : Int), c) = some (if eqv x y = true then .inl (((i + 1 : Nat) : Int), c1) else .inr (.inl (0, c1))) := by
      unfold Yu
      simp only
      rw [Zid (by omega), cond_true, Zmb hA ha, Option.bind_some, a1, show ((0 : Int) != 0) = false from rfl, cond_false, Zmb hB hb, Option.bind_some, b1, show ((0 : Int) != 0) = false from rfl, cond_false, e1, Option.bind_some]
      simp only
      rw [show ((0 : Int) != 0) = false from rfl, Y3 (by omega) (by omega)]
      cases eqv x y <;> rfl
    rw [List.map_cons, List.map_cons, Zlv]
    by_cases q : eqv x y = true
    · rw [if_pos q] at hs
      rw [Xf hs]
      obtain ⟨c', f1, f2, f3⟩ := Zq7 hA hB ha hb hn ks ls (i + 1) c1 (by omega) (by omega) (fun j x hx => by
        have := hk (j + 1) x hx
        rw [show i + 1 + j = i + (j + 1) by omega]
        exact this) (fun j x hx => by
        have := hk' (j + 1) x hx
        rw [show i + 1 + j = i + (j + 1) by omega]
        exact this) (fun z hz => ih z (.tail _ hz)) (by omega) (by omega)
      refine ⟨c', ?_, by omega, by omega⟩
      rw [f1, show eqT (nrm x) (nrm y) = true from q, Bool.true_and]
    rw [if_neg q] at hs
    refine ⟨c1, ?_, by have : 0 ≤ (ndl ks : Int) := by omega
                       omega, l2⟩
    rw [Yw hs, show eqT (nrm x) (nrm y) = false from by unfold eqv at q; simpa using q, Bool.false_and, if_neg (by decide)]
theorem Zz5 (t : Tr) : 1 ≤ nd t := by rw [Zoj]; omega
theorem Z3c (hA : WS A.segments) (hB : WS B.segments) : ∀ (K : Nat), (∀ a b t u (c : Int), Mn A a t → Mn B b u → 2 * SizeOf.sizeOf t + 1 < K → (nd t : Int) ≤ c → c ≤ 70000 → ∃ c', (Zr K).1 ⟨c⟩ a b = some (eqv t u, 0, ⟨c'⟩) ∧ c - nd t ≤ c' ∧ c' ≤ c) ∧
    (∀ a b t u (c : Int), Mn A a t → Mn B b u → 2 * SizeOf.sizeOf t < K → (tk t).length = (tk u).length → (ndl (tk t) : Int) ≤ c → c ≤ 70000 → ∃ c', (Zr K).2 ⟨c⟩ a b ((tk t).length : Int) = some (eqL ((tk t).map nrm) ((tk u).map nrm), 0, ⟨c'⟩) ∧ c - ndl (tk t) ≤ c' ∧ c' ≤ c)
  | 0 => ⟨fun a b t u c _ _ h => by omega, fun a b t u c _ _ h => by omega⟩
  | K + 1 => by
    obtain ⟨i1, i2⟩ := Z3c hA hB K
    refine ⟨fun a b t u c ha hb hK hc hc2 => ?_, fun a b t u c ha hb hK hl hc hc2 => ?_⟩
    · show ∃ c', Xb (Zr K).1 (Zr K).2 ⟨c⟩ a b = _ ∧ _
      have hp := Zz5 t
      have hp2 := Zz6 t
      unfold Xb
      simp only
      rw [Vv (show ¬ c = 0 by omega), cond_false, show Yx a = some a.kind from rfl, show Yx b = some b.kind from rfl, Option.bind_some, Option.bind_some, ← ha.kd, ← hb.kd, Y3 (x := c - 1) (by omega) (by omega), Zqc hA hB ha.ok hb.ok]
      by_cases hk : t.Kind = u.Kind
      · rw [show (t.Kind != u.Kind) = false from bne_eq_false_iff_eq.2 hk, cond_false, Option.bind_some, cond_false, Option.bind_some, Z5f ha hb hk, ← ha.wd, ← hb.wd]
        cases hw : tr (fun x => x == 0) t.Words == tr (fun x => x == 0) u.Words with
        | false => exact ⟨c - 1, rfl, by omega, by omega⟩
        | true =>
          simp only [Bool.not_true, cond_false, Bool.true_and]
          rw [Zlu hA ha, Option.bind_some]
          simp only
          rw [show ((0 : Int) != 0) = false from rfl, cond_false, Zlu hB hb, Option.bind_some]
          simp only
          rw [show ((0 : Int) != 0) = false from rfl, cond_false, Zmf]
          by_cases hl : (tk t).length = (tk u).length
          · rw [show (!((tk t).length == (tk u).length)) = false by simp [hl], cond_false]
            obtain ⟨c', e1, e2, e3⟩ := i2 a b t u (c - 1) ha hb (by omega) hl (by omega) (by omega)
            refine ⟨c', ?_, by omega, by omega⟩
            rw [e1]
            rfl
          rw [show (!((tk t).length == (tk u).length)) = true by simp [hl], cond_true, Zpe _ _ (by simpa using hl)]
          exact ⟨c - 1, rfl, by omega, by omega⟩
      rw [bne_iff_ne.2 hk, cond_true, Option.bind_some, cond_true, Zzc hk]
      exact ⟨c - 1, rfl, by omega, by omega⟩
    show ∃ c', Yv (Zr K).1 (Zr K).2 ⟨c⟩ a b _ = _ ∧ _
    have hkn := Zdc ha.ok
    have hln := ha.ln
    have htk : (tk t).length ≤ t.Kids.length := by
      unfold tk
      split
      · exact Zea _ _
      exact Nat.le_refl _
    obtain ⟨c', e1, e2, e3⟩ := Zq7 hA hB (F := (Zr K).1) ha.ok hb.ok (n := (tk t).length) (by omega) (tk t) (tk u) 0 c (by omega) hl (fun j x hx => by
      have := Zul t hx
      rw [Nat.zero_add]
      exact ⟨ha.er j x this, ha.kid j x this⟩) (fun j x hx => by
      have := Zul u hx
      rw [Nat.zero_add]
      exact ⟨hb.er j x this, hb.kid j x this⟩) (fun x hx p q y c hp hq h1 h2 => i1 p q x y c hp hq (by have := Zdb (Zqd hx); omega) h1 h2) hc hc2
    unfold Yv
    rw [show (((0 : Nat)) : Int) = 0 from rfl] at e1
    refine ⟨c', ?_, e2, e3⟩
    simp only
    rw [e1]
    cases eqL ((tk t).map nrm) ((tk u).map nrm) <;> rfl
theorem Zut : ∀ (k : Nat), LE3 (Zr k).1 (Zr (k + 1)).1 ∧ ∀ x y z w r, (Zr k).2 x y z w = some r → (Zr (k + 1)).2 x y z w = some r
  | 0 => ⟨fun x y z r h => (by cases h), fun x y z w r h => (by cases h)⟩
  | k + 1 => by
    obtain ⟨i1, i2⟩ := Zut k
    refine ⟨fun x y z r h => ?_, fun x y z w r h => ?_⟩
    · have h' : Xb (Zr k).1 (Zr k).2 x y z = some r := h
      show Xb (Zr (k + 1)).1 (Zr (k + 1)).2 x y z = some r
      unfold Xb at h' ⊢
      refine Gv _ (fun _ h => h) (fun r h => Vf (fun _ h => h) (fun z r h => Gv _ (fun _ h => h) (fun r h => Vf (fun _ h => h) (fun z r h => Gv _ (fun _ h => h) (fun r h => Vf (fun _ h => h) (fun z r h => Gv _ (fun _ h => h) (fun r h => Vf (fun z h => i2 _ _ _ _ _ h) (fun _ _ h => h) h) r h) h) r h) h) r h) h) r h'
    have h' : Yv (Zr k).1 (Zr k).2 x y z w = some r := h
    show Yv (Zr (k + 1)).1 (Zr (k + 1)).2 x y z w = some r
    unfold Yv at h' ⊢
    refine Vf (fun q h => Zm1 (fun s q h => ?_) h) (fun _ _ h => h) h'
    unfold Yu at h ⊢
    refine Gv _ (fun r h => Vf (fun _ h => h) (fun z r h => Gv _ (fun _ h => h) (fun r h => Vf (fun _ h => h) (fun z r h => Gv _ (fun _ h => h) (fun r h => Vf (fun q h => i1 _ _ _ _ h) (fun _ _ h => h) h) r h) h) r h) h) (fun _ h => h) q h
theorem Z0t (hA : WS A.segments) (hB : WS B.segments) {a b : Za} {t u : Tr} (ha : Mn A a t) (hb : Mn B b u) (hn : (nd t : Int) ≤ 65537) : Uf a b = some (eqv t u, 0) := by
  obtain ⟨c', e1, _⟩ := (Z3c hA hB (2 * SizeOf.sizeOf t + 2)).1 a b t u 65537 ha hb (by omega) hn (by omega)
  have : V7 ⟨65537⟩ a b = some (eqv t u, 0, ⟨c'⟩) := Zru (fun k r h => (Zut k).1 _ _ _ r h) e1
  unfold Uf
  rw [this]
  rfl
end
theorem Z1n {A : Zf} (hw : WS A.segments) (x : Zw) (h : (Zcr A x).2.2 = 0) : Mn A (atR A 0 0).1 (Zcr A x).1 ∧ (nd (Zcr A x).1 : Int) ≤ 65537 := by
  have hW : 0 ≤ (Vb x).Weight ∧ (Vb x).Weight ≤ 65536 := Zfx _ _ (by decide)
  unfold Zcr at h ⊢
  by_cases h1 : (atR A 0 0).2 ≠ 0
  · rw [if_pos h1] at h; exact absurd h h1
  rw [if_neg h1] at h ⊢
  simp only at h ⊢
  by_cases hq : (Zbo A (Vb x).Depth.toNat (atR A 0 0).1 (Vb x).Weight).2.2 ≠ 0
  · rw [if_pos hq] at h; exact absurd h hq
  rw [if_neg hq] at h ⊢
  obtain ⟨a1, a2, a3⟩ := Z2b hw (Vb x).Depth.toNat (atR A 0 0).1 (Vb x).Weight (Zjj 0 0) hW.1 (by omega)
  exact ⟨a1, by simp only; omega⟩
theorem Zq9 (t : Tr) : eqv t t = true := Zza _
theorem Zq8 (t u : Tr) : eqv t u = eqv u t := Zy9 _ _
theorem Zzd {t u v : Tr} (h : eqv t u = true) : eqv t v = eqv u v := by
  unfold eqv at *
  rw [eqT_iff.1 h]
def mx (s n : Int) : Int := IntKind.u64.wrap (Zbl .u64 (IntKind.u64.wrap ((IntKind.u64.wrap (Zbl .u64 s n)) * 11400714819323198485)) (Int.fdiv (IntKind.u64.wrap ((IntKind.u64.wrap (Zbl .u64 s n)) * 11400714819323198485)) (2 ^ min (Int.toNat 32) 64)))
theorem Zt8 (s c n : Int) : X2 ⟨s, c⟩ n = some ⟨mx s n, c⟩ := rfl
noncomputable def hxN : Nat → Tr → Int → Int
  | 0, _, s => s
  | k + 1, t, s => if t.Kind = 0 then mx (mx (mx s (IntKind.u64.wrap 0)) (IntKind.u64.wrap ((0 : Nat) : Int))) (IntKind.u64.wrap ((0 : Nat) : Int))
    else (tk t).foldl (fun s x => hxN k x s) ((tr (fun x => x == 0) t.Words).foldl mx (mx (mx (mx s (IntKind.u64.wrap t.Kind)) (IntKind.u64.wrap ((tk t).length : Int))) (IntKind.u64.wrap ((tr (fun x => x == 0) t.Words).length : Int))))
theorem Zrq (k : Nat) (t : Tr) (s : Int) : hxN (k + 1) t s = if t.Kind = 0 then mx (mx (mx s (IntKind.u64.wrap 0)) (IntKind.u64.wrap ((0 : Nat) : Int))) (IntKind.u64.wrap ((0 : Nat) : Int))
    else (tk t).foldl (fun s x => hxN k x s) ((tr (fun x => x == 0) t.Words).foldl mx (mx (mx (mx s (IntKind.u64.wrap t.Kind)) (IntKind.u64.wrap ((tk t).length : Int))) (IntKind.u64.wrap ((tr (fun x => x == 0) t.Words).length : Int)))) := by
  rw [hxN]
theorem Zhz {α σ : Type} {f g : σ → α → σ} : ∀ (l : List α) (s : σ), (∀ x ∈ l, ∀ s, f s x = g s x) → l.foldl f s = l.foldl g s
  | [], _, _ => rfl
  | x :: l, s, h => by
    rw [List.foldl_cons, List.foldl_cons, h x (.head _)]
    exact Zhz l _ fun y hy => h y (.tail _ hy)
theorem Zma : ∀ (k k' : Nat) (t : Tr) (s : Int), SizeOf.sizeOf t < k → SizeOf.sizeOf t < k' → hxN k t s = hxN k' t s
  | 0, _, _, _, h, _ => by omega
  | _ + 1, 0, _, _, _, h => by omega
  | k + 1, k' + 1, t, s, h, h' => by
    unfold hxN
    split
    · rfl
    exact Zhz _ _ fun x hx s => Zma k k' x s (by have := Zdb (Zqd hx); omega) (by have := Zdb (Zqd hx); omega)
theorem Z5u {t : Tr} (h0 : ¬ t.Kind = 0) : tk (nrm t) = (tk t).map nrm := by
  unfold tk
  rw [U4]
  by_cases h1 : t.Kind = 1
  · rw [if_pos h1, if_pos h1, Ze8 h1]
    simp only
    rw [Z1l]
    exact Zuo (p := fun x : Tr => x.Kind == 0) (q := fun x : Tr => x.Kind == 0) (f := nrm) (fun x => by simp only [U4]) t.Kids
  rw [if_neg h1, if_neg h1, Zej h0 h1]
theorem Zpu : ∀ (k : Nat) (t : Tr) (s : Int), hxN k (nrm t) s = hxN k t s
  | 0, _, _ => rfl
  | k + 1, t, s => by
    unfold hxN
    rw [U4]
    by_cases h0 : t.Kind = 0
    · rw [if_pos h0, if_pos h0]
    rw [if_neg h0, if_neg h0, Z5u h0, List.length_map, List.foldl_map]
    have ew : tr (fun x => x == 0) (nrm t).Words = tr (fun x => x == 0) t.Words := by
      by_cases h1 : t.Kind = 1
      · rw [Ze8 h1]
        exact Z1l _
      rw [Zej h0 h1]
    rw [ew]
    exact Zhz _ _ fun x _ s => Zpu k x s
noncomputable def hx (t : Tr) : Int := hxN (SizeOf.sizeOf t + 1) t 0
theorem Zzn {t u : Tr} (h : eqv t u = true) : hx t = hx u := by
  unfold eqv at h
  have e := eqT_iff.1 h
  have a := Zpu (SizeOf.sizeOf t + SizeOf.sizeOf u + 1) t 0
  have b := Zpu (SizeOf.sizeOf t + SizeOf.sizeOf u + 1) u 0
  rw [e] at a
  unfold hx
  rw [Zma (SizeOf.sizeOf t + 1) (SizeOf.sizeOf t + SizeOf.sizeOf u + 1) t 0 (by omega) (by omega), Zma (SizeOf.sizeOf u + 1) (SizeOf.sizeOf t + SizeOf.sizeOf u + 1) u 0 (by omega) (by omega), ← a, ← b]
section
variable {A : Zf}
theorem Zke {α σ : Type} (g : σ → α → σ) : ∀ (l : List α) (s : σ) (i : Nat), Zod (fun s _ x => g s x) s i l = l.foldl g s
  | [], _, _ => rfl
  | x :: l, s, i => Zke g l (g s x) (i + 1)
theorem Zyd (hw : WS A.segments) {r : Za} {t : Tr} (h : Mn A r t) (s c : Int) : Qm r ⟨s, c⟩ = some ⟨(tr (fun x => x == 0) t.Words).foldl mx (mx s (IntKind.u64.wrap ((tr (fun x => x == 0) t.Words).length : Int))), c⟩ := by
  unfold Qm
  rw [Zpz hw h.ok, Option.bind_some, Zt8, Option.bind_some, ← h.wd]
  have hle := Zea (fun x : Int => x == 0) t.Words
  have hl2 : t.Words.length ≤ 65536 := by rw [h.wd]; exact Zcy h.ok
  have main := (Zt6 (tr (fun x => x == 0) t.Words) (fun i (s : Int) => (i, s, c)) (fun s => (s, c)) (Xx r ((tr (fun x => x == 0) t.Words).length : Int)) (fun s _ x => mx s x) (fun _ _ => True) (by omega) (fun i s x hi hx _ _ => by
    refine ⟨?_, trivial⟩
    obtain ⟨hj, he⟩ := Zqi (p := fun x : Int => x == 0) (l := t.Words) hi
    have hj' : i < (Yz A r).length := by rw [← h.wd]; exact hj
    have hwr : Zo9 A r (i : Int) = x := by
      rw [← Zg6 hw h.ok hj']
      rw [hx] at he
      have h2 : (Yz A r)[i]? = some x := by rw [← h.wd, List.getElem?_eq_getElem hj]; exact he.symm
      rw [List.getElem?_eq_getElem hj'] at h2
      exact Option.some.inj h2
    unfold Xx
    simp only
    rw [Zid hi, cond_true, Zlg hw h.ok, Option.bind_some, hwr, Zt8]
    rfl) (fun s _ => by
    unfold Xx
    simp only
    rw [Zjs, cond_false]) (mx s (IntKind.u64.wrap ((tr (fun x => x == 0) t.Words).length : Int))) trivial).1
  simp only
  rw [main, Zke mx]
  rfl
theorem Zl9 (hw : WS A.segments) {F : Zo → Za → Option (Int × Zo)} {H : Tr → Int → Int} {r : Za} {t : Tr} (h : Mn A r t)
    (hF : ∀ x ∈ tk t, ∀ (q : Za) (s c : Int), Mn A q x → (nd x : Int) ≤ c → c ≤ 70000 → ∃ c', F ⟨s, c⟩ q = some (0, ⟨H x s, c'⟩) ∧ c - nd x ≤ c' ∧ c' ≤ c) (hn : (tk t).length ≤ 1073741824) :
    ∀ (l pre : List Tr) (s c : Int), tk t = pre ++ l → (ndl l : Int) ≤ c → c ≤ 70000 → ∃ c', Zx (Qz F r (((tk t).length : Int), 0)) (((pre.length : Nat) : Int), s, c) = some (.inr (l.foldl (fun s x => H x s) s, c')) ∧ c - ndl l ≤ c' ∧ c' ≤ c
  | [], pre, s, c, hp, _, _ => by
    rw [List.append_nil] at hp
    refine ⟨c, Yw ?_, by simp [ndl], Int.le_refl _⟩
    unfold Qz
    simp only
    rw [hp, Zjs, cond_false]
    rfl
  | x :: l, pre, s, c, hp, hc, hc2 => by
    have hx : (tk t)[pre.length]? = some x := by rw [hp, List.getElem?_append_right (Nat.le_refl _), Nat.sub_self]; rfl
    have hi : pre.length < (tk t).length := by rw [hp]; simp
    have hsum : ndl (x :: l) = nd x + ndl l := by simp [ndl]
    have hxk := Zul t hx
    obtain ⟨c1, e1, e2, e3⟩ := hF x (List.mem_of_getElem? hx) _ s c (h.kid _ _ hxk) (by omega) hc2
    obtain ⟨c2, f1, f2, f3⟩ := Zl9 hw h hF hn l (pre ++ [x]) (H x s) c1 (by rw [hp]; simp) (by omega) (by omega)
    rw [List.length_append, List.length_singleton] at f1
    refine ⟨c2, (Xf ?_).trans f1, by omega, by omega⟩
    unfold Qz
    simp only
    rw [Zid hi, cond_true, Zmb hw h.ok, Option.bind_some, h.er _ _ hxk, show ((0 : Int) != 0) = false from rfl, cond_false, e1, Option.bind_some]
    simp only
    rw [show ((0 : Int) != 0) = false from rfl, cond_false, Y3 (by omega) (by omega)]
    rfl
theorem Z2a (hw : WS A.segments) : ∀ (K : Nat) (t : Tr) (r : Za) (s c : Int), Mn A r t → SizeOf.sizeOf t < K → (nd t : Int) ≤ c → c ≤ 70000 → ∃ c', Yj K ⟨s, c⟩ r = some (0, ⟨hxN K t s, c'⟩) ∧ c - nd t ≤ c' ∧ c' ≤ c := fun K => by
  induction K with
  | zero =>
    intro t r s c _ h _ _
    omega
  | succ K ih =>
    intro t r s c h hK hc hc2
    have hp := Zz5 t
    have htk := Zz6 t
    have hkn := Zdc h.ok
    have hln := h.ln
    have htl : (tk t).length ≤ t.Kids.length := by
      unfold tk
      split
      · exact Zea _ _
      exact Nat.le_refl _
    show ∃ c', Xj (Yj K) ⟨s, c⟩ r = _ ∧ _
    unfold Xj
    simp only
    obtain ⟨c', e1, e2, e3⟩ := Zl9 hw (F := Yj K) (H := fun x s => hxN K x s) h (fun x hx q s c hq hc hc2 => ih x q s c hq (by have := Zdb (Zqd hx); omega) hc hc2) (by omega) (tk t) []
      ((tr (fun x => x == 0) t.Words).foldl mx (mx (mx (mx s (IntKind.u64.wrap t.Kind)) (IntKind.u64.wrap ((tk t).length : Int))) (IntKind.u64.wrap ((tr (fun x => x == 0) t.Words).length : Int)))) (c - 1) rfl (by omega) (by omega)
    rw [show (((([] : List Tr).length : Nat)) : Int) = 0 from rfl] at e1
    have eh : hxN (K + 1) t s = (tk t).foldl (fun s x => hxN K x s) ((tr (fun x => x == 0) t.Words).foldl mx (mx (mx (mx s (IntKind.u64.wrap t.Kind)) (IntKind.u64.wrap ((tk t).length : Int))) (IntKind.u64.wrap ((tr (fun x => x == 0) t.Words).length : Int)))) := by
      rw [Zrq]
      by_cases h0 : t.Kind = 0
      · have k0 := h.k0 h0
        have w0 := h.w0 (by omega) (by omega)
        have tk0 : tk t = [] := by unfold tk; rw [if_neg (by omega), k0]
        rw [if_pos h0, tk0, w0, h0]
        simp only [tr, List.foldl_nil, List.length_nil]
      rw [if_neg h0]
    have hwo := Zyd hw h
    have hM0 := Zt8
    rw [eh]
    clear eh ih
    obtain ⟨Y, hY⟩ : ∃ Y : Tr → Int → Int, (fun x s => hxN K x s) = Y := ⟨_, rfl⟩
    rw [show (fun (s : Int) (x : Tr) => hxN K x s) = fun s x => Y x s from by rw [← hY]] at e1 ⊢
    obtain ⟨M, hM⟩ : ∃ M, X2 = M := ⟨_, rfl⟩
    obtain ⟨X, hX⟩ : ∃ X, mx = X := ⟨_, rfl⟩
    rw [hX] at e1 ⊢
    rw [hM] at hM0 ⊢
    rw [hX] at hM0 hwo
    clear hM hX hY
    rw [Vv (show ¬ c = 0 by omega), cond_false, Zlu hw h, Option.bind_some, show Yx r = some r.kind from rfl]
    simp only [Option.bind_some]
    rw [show ((0 : Int) != 0) = false from rfl, cond_false, Y3 (x := c - 1) (by omega) (by omega), hM0]
    simp only [Option.bind_some]
    rw [hM0]
    simp only [Option.bind_some]
    rw [hwo, ← h.kd]
    simp only [Option.bind_some]
    rw [e1]
    exact ⟨c', rfl, by omega, by omega⟩
theorem Zog : ∀ (k : Nat) c r v, Yj k c r = some v → Yj (k + 1) c r = some v
  | 0, c, r, v, h => by cases h
  | k + 1, c, r, v, h => by
    have h' : Xj (Yj k) c r = some v := h
    show Xj (Yj (k + 1)) c r = some v
    unfold Xj at h' ⊢
    refine Gv _ (fun _ q => q) (fun _ => Vf (fun _ q => q) fun y => Gv _ (fun _ q => q) fun _ => Vf (fun _ q => q) fun u _ => Vf (fun _ q => q) fun w _ => Vf (fun _ q => q) fun z _ => Vf (fun _ q => q) fun a _ => Vf (fun x => Zm1 fun s y q => ?_) fun _ _ q => q) v h'
    exact Gv _ (fun _ => Vf (fun _ q => q) fun u => Gv _ (fun _ q => q) fun _ => Vf (fun x q => Zog k _ _ x q) fun _ _ q => q) (fun _ q => q) y q
theorem Zvc (hw : WS A.segments) {t : Tr} {r : Za} (h : Mn A r t) (hn : (nd t : Int) ≤ 65537) : Uo r = some (hx t, 0) := by
  obtain ⟨c', e1, e2, e3⟩ := Z2a hw (SizeOf.sizeOf t + 1) t r 0 65537 h (by omega) hn (by decide)
  have e : Ug ⟨0, 65537⟩ r = some (0, ⟨hx t, c'⟩) := Zru (F := fun k => Yj k ⟨0, 65537⟩ r) (fun k x => Zog k _ _ x) e1
  unfold Uo
  rw [e, Option.bind_some]
  rfl
end
theorem Zgo {R : Type} {step : Int → Option (Int ⊕ R)} {r : R} (p : Nat → Int) (m : Nat) (h1 : ∀ k, k < m → step (p k) = some (.inl (p (k + 1)))) (h2 : step (p m) = some (.inr r)) : Zx step (p 0) = some r := by
  have key : ∀ d k, k + d = m → Zx step (p k) = some r := fun d => by
    induction d with
    | zero =>
      intro k hk
      have : k = m := by omega
      subst this
      exact Yw h2
    | succ d ih =>
      intro k hk
      rw [Xf (h1 k (by omega))]
      exact ih (k + 1) (by omega)
  exact key m 0 (by omega)
theorem Z3h {p : Nat → Prop} (dp : ∀ k, p k ∨ ¬ p k) : ∀ n, p n → ∃ m, m ≤ n ∧ p m ∧ ∀ j, j < m → ¬ p j := fun n => by
  induction n using Nat.strongRecOn with
  | ind n ih =>
    intro h
    by_cases q : ∃ j, j < n ∧ p j
    · obtain ⟨j, hj, pj⟩ := q
      obtain ⟨m, h1, h2, h3⟩ := ih j hj pj
      exact ⟨m, by omega, h2, h3⟩
    exact ⟨n, Nat.le_refl _, h, fun j hj pj => q ⟨j, hj, pj⟩⟩
def pat (pl : List Int) (h : Int) (k : Nat) : Int := (pl[(h.toNat + k) % pl.length]?).getD 0
def nz (pl : List Int) : Nat := pl.countP fun x => !(x == 0)
structure PRt (hs : List Int) (pl : List Int) : Prop where
  rng : ∀ x ∈ pl, 0 ≤ x ∧ x ≤ hs.length
  fnd : ∀ (i : Nat) (h : Int), hs[i]? = some h → ∃ k, pat pl h k = (i : Int) + 1 ∧ ∀ j, j < k → pat pl h j ≠ 0
  cnt : nz pl ≤ hs.length
theorem Z2k {pl : List Int} (h : nz pl < pl.length) : ∃ q, q < pl.length ∧ pl[q]? = some 0 := by
  induction pl with
  | nil => simp at h
  | cons x pl ih =>
    by_cases hx : x = 0
    · subst hx
      exact ⟨0, by simp, rfl⟩
    have e : nz (x :: pl) = nz pl + 1 := by
      unfold nz
      rw [List.countP_cons_of_pos (by simp [hx])]
    rw [e, List.length_cons] at h
    obtain ⟨q, h1, h2⟩ := ih (by omega)
    exact ⟨q + 1, by rw [List.length_cons]; omega, by simpa using h2⟩
theorem Zz8 : ∀ (pl : List Int) (q : Nat) (v : Int), nz (pl.set q v) ≤ nz pl + 1
  | [], q, v => by simp [nz]
  | x :: pl, 0, v => by
    unfold nz
    rw [List.set_cons_zero, List.countP_cons, List.countP_cons]
    split <;> split <;> omega
  | x :: pl, q + 1, v => by
    have := Zz8 pl q v
    unfold nz at this ⊢
    rw [List.set_cons_succ, List.countP_cons, List.countP_cons]
    omega
theorem Zsf {hs pl : List Int} (hP : PRt hs pl) (hn : hs.length < pl.length) (h : Int) : ∃ Z, pat pl h Z = 0 ∧ ∀ j, j < Z → pat pl h j ≠ 0 := by
  obtain ⟨q, h1, h2⟩ := Z2k (pl := pl) (by have := hP.cnt; omega)
  obtain ⟨Z, _, h3, h4⟩ := Z3h (p := fun k => pat pl h k = 0) (fun k => Decidable.em _) (q + (pl.length - h.toNat % pl.length)) (by
    have hm := Nat.mod_lt h.toNat (show 0 < pl.length by omega)
    have e : (h.toNat + (q + (pl.length - h.toNat % pl.length))) % pl.length = q := by
      have d := Nat.div_add_mod h.toNat pl.length
      have : h.toNat + (q + (pl.length - h.toNat % pl.length)) = q + pl.length * (h.toNat / pl.length + 1) := by
        rw [Nat.mul_add, Nat.mul_one]
        omega
      rw [this, Nat.add_mul_mod_self_left, Nat.mod_eq_of_lt h1]
    unfold pat
    rw [e, h2]
    rfl)
  exact ⟨Z, h3, h4⟩
theorem Zgx {pl : List Int} (hp : 0 < pl.length) (h : Int) (k : Nat) : pl[(h.toNat + k) % pl.length]? = some (pat pl h k) := by
  have := List.getElem?_eq_getElem (Nat.mod_lt (h.toNat + k) hp) (l := pl)
  unfold pat
  rw [this]
  rfl
theorem Zlc {pl : List Int} (hp : 0 < pl.length) (h g : Int) (k Z : Nat) (v : Int) : pat (pl.set ((g.toNat + Z) % pl.length) v) h k = if (h.toNat + k) % pl.length = (g.toNat + Z) % pl.length then v else pat pl h k := by
  unfold pat
  rw [List.length_set, List.getElem?_set]
  by_cases e : (g.toNat + Z) % pl.length = (h.toNat + k) % pl.length
  · rw [if_pos e, if_pos e.symm, if_pos (Nat.mod_lt _ hp)]
    rfl
  rw [if_neg e, if_neg (fun q => e q.symm)]
theorem PRt.push {hs pl : List Int} (hP : PRt hs pl) (hp : 0 < pl.length) {g : Int} {Z : Nat} (hz : pat pl g Z = 0) (hl : ∀ j, j < Z → pat pl g j ≠ 0) : PRt (hs ++ [g]) (pl.set ((g.toNat + Z) % pl.length) ((hs.length : Int) + 1)) := by
  refine ⟨fun x hx => ?_, fun i h hi => ?_, ?_⟩
  · rw [List.length_append, List.length_singleton]
    rcases List.mem_or_eq_of_mem_set hx with q | q
    · have := hP.rng x q
      omega
    omega
  · by_cases hlt : i < hs.length
    · rw [List.getElem?_append_left hlt] at hi
      obtain ⟨k, h1, h2⟩ := hP.fnd i h hi
      have far : ∀ j, pat pl h j ≠ 0 → ¬ (h.toNat + j) % pl.length = (g.toNat + Z) % pl.length := fun j hj e => by
        unfold pat at hz hj
        rw [e] at hj
        exact hj hz
      refine ⟨k, ?_, fun j hj => ?_⟩
      · rw [Zlc hp, if_neg (far k (by omega))]
        exact h1
      rw [Zlc hp, if_neg (far j (h2 j hj))]
      exact h2 j hj
    rw [List.getElem?_append_right (by omega)] at hi
    have hi0 : i - hs.length = 0 := by
      rcases Nat.eq_zero_or_pos (i - hs.length) with q | q
      · exact q
      rw [List.getElem?_eq_none (by simp; omega)] at hi
      cases hi
    rw [hi0] at hi
    have hg : g = h := by simpa using hi
    subst hg
    refine ⟨Z, ?_, fun j hj => ?_⟩
    · rw [Zlc hp, if_pos rfl]
      omega
    rw [Zlc hp]
    split
    · omega
    exact hl j hj
  have := Zz8 pl ((g.toNat + Z) % pl.length) ((hs.length : Int) + 1)
  have := hP.cnt
  rw [List.length_append, List.length_singleton]
  omega
theorem PRt.empty (P : Nat) : PRt [] (List.replicate P 0) := by
  refine ⟨fun x hx => ?_, fun i h hi => by simp at hi, ?_⟩
  · rw [(List.mem_replicate.1 hx).2]
    simp
  unfold nz
  rw [List.countP_replicate]
  simp
theorem Z5q (s n : Int) : 0 ≤ mx s n ∧ mx s n < 18446744073709551616 := by
  unfold mx
  generalize Zbl _ _ _ = z
  exact ⟨Int.emod_nonneg _ (by decide), Int.emod_lt_of_pos _ (by decide)⟩
theorem Zpk {α : Type} {f : Int → α → Int} (hf : ∀ s x, (0 ≤ s ∧ s < 18446744073709551616) → 0 ≤ f s x ∧ f s x < 18446744073709551616) : ∀ (l : List α) (s : Int), (0 ≤ s ∧ s < 18446744073709551616) → 0 ≤ l.foldl f s ∧ l.foldl f s < 18446744073709551616
  | [], _, h => h
  | x :: l, s, h => Zpk hf l _ (hf s x h)
theorem Z3f : ∀ (k : Nat) (t : Tr) (s : Int), (0 ≤ s ∧ s < 18446744073709551616) → 0 ≤ hxN k t s ∧ hxN k t s < 18446744073709551616
  | 0, _, _, h => h
  | k + 1, t, s, h => by
    rw [Zrq]
    split
    · exact Z5q _ _
    exact Zpk (fun s x hs => Z3f k x s hs) _ _ (Zpk (fun s x _ => Z5q s x) _ _ (Z5q _ _))
theorem Z58 (t : Tr) : 0 ≤ hx t ∧ hx t < 18446744073709551616 := Z3f _ t 0 (by decide)
theorem Zra {cl : List Zg} {pl : List Int} {h : Int} (hp : 0 < pl.length) (hl : pl.length ≤ 1000000000) (hh : 0 ≤ h) : X3 (some ⟨cl, pl⟩) h = some (((h.toNat + 0) % pl.length : Nat) : Int) := by
  have e : IntKind.u64.wrap (pl.length : Int) = (pl.length : Int) := IntWalk.u64_in _ (by omega)
  have hm := Nat.mod_lt h.toNat hp
  unfold X3
  rw [Option.bind_some]
  simp only
  rw [e]
  unfold X9
  rw [if_pos (by omega), Option.bind_some, Int.tmod_eq_emod_of_nonneg hh, Nat.add_zero]
  have : h % (pl.length : Int) = ((h.toNat % pl.length : Nat) : Int) := by
    rw [Int.natCast_emod, Int.toNat_of_nonneg hh]
  rw [this, Y3 (by omega) (by omega)]
theorem Zvv {cl : List Zg} {pl : List Int} {h : Int} (hp : 0 < pl.length) (hl : pl.length ≤ 1000000000) (k : Nat) : Jk (some ⟨cl, pl⟩) (((h.toNat + k) % pl.length : Nat) : Int) = some (((h.toNat + (k + 1)) % pl.length : Nat) : Int) := by
  have hm := Nat.mod_lt (h.toNat + k) hp
  unfold Jk
  rw [Option.bind_some]
  simp only
  unfold X9
  rw [if_pos (by omega), Option.bind_some, Y3 (by omega) (by omega)]
  have : ((((h.toNat + k) % pl.length : Nat) : Int) + 1) = ((((h.toNat + k) % pl.length + 1 : Nat)) : Int) := by omega
  rw [this, Int.tmod_eq_emod_of_nonneg (by omega), ← Int.natCast_emod]
  congr 2
  rw [Nat.add_mod, Nat.mod_mod, ← Nat.add_mod, Nat.add_assoc]
theorem Z19 {cl : List Zg} {pl : List Int} (hh : ∀ m ∈ cl, 0 ≤ m.hash) (hc : cl.length ≤ 1000000) (hp : pl.length ≤ 4000016) (hb : 2 * cl.length ≤ pl.length + 1) : ∃ pl', Jj ⟨cl, pl⟩ = some ⟨cl, pl'⟩ ∧ PRt (cl.map (·.hash)) pl' ∧ pl'.length = (if 16 < 2 * pl.length then 2 * pl.length else 16) := by
  obtain ⟨P, hP⟩ : ∃ P, P = if 16 < 2 * pl.length then 2 * pl.length else 16 := ⟨_, rfl⟩
  have hP1 : 2 * cl.length < P := by rw [hP]; split <;> omega
  have hP2 : P ≤ 8000032 := by rw [hP]; split <;> omega
  have e : (if 16 < (IntKind.i64.wrap (2 * (pl.length : Int))) then (IntKind.i64.wrap (2 * (pl.length : Int))) else 16) = (P : Int) := by
    rw [Y3 (by omega) (by omega), hP]
    split <;> split <;> omega
  have loop := Zt6 cl (fun i (s : List Int) => (i, s)) (fun s => s) (Jc ⟨cl, pl⟩) (fun s i m => s.set ((m.hash.toNat + (Classical.choose (p := fun Z => ∀ hs, PRt hs s → hs.length < s.length → pat s m.hash Z = 0 ∧ ∀ j, j < Z → pat s m.hash j ≠ 0) (by
      by_cases q : ∃ hs, PRt hs s ∧ hs.length < s.length
      · obtain ⟨hs, h1, h2⟩ := q
        obtain ⟨Z, h3, h4⟩ := Zsf h1 h2 m.hash
        exact ⟨Z, fun _ _ _ => ⟨h3, h4⟩⟩
      exact ⟨0, fun hs h1 h2 => absurd ⟨hs, h1, h2⟩ q⟩))) % s.length) ((i : Int) + 1)) (fun i s => PRt ((cl.take i).map (·.hash)) s ∧ s.length = P) (by omega) (fun i s m hi hx hm hI => by
    obtain ⟨i1, i2⟩ := hI
    have hlen : ((cl.take i).map (·.hash)).length = i := by rw [List.length_map, List.length_take]; omega
    generalize hch : Classical.choose _ = Z
    have hz : pat s m.hash Z = 0 ∧ ∀ j, j < Z → pat s m.hash j ≠ 0 := by
      rw [← hch]
      exact Classical.choose_spec (p := fun Z => ∀ hs, PRt hs s → hs.length < s.length → pat s m.hash Z = 0 ∧ ∀ j, j < Z → pat s m.hash j ≠ 0) _ _ i1 (by omega)
    clear hch
    have sp : 0 < s.length := by omega
    have sl : s.length ≤ 1000000000 := by omega
    refine ⟨?_, ?_, by rw [List.length_set]; exact i2⟩
    · unfold Jc
      simp only
      rw [Zid hi, cond_true, Qp hx, Option.bind_some, Zra sp sl (hh m hm), Option.bind_some]
      have inner := Zgo (step := Jd ⟨cl, pl⟩ ((i : Int), s)) (fun k => (((m.hash.toNat + k) % s.length : Nat) : Int)) Z (r := (((m.hash.toNat + Z) % s.length : Nat) : Int)) (fun k hk => by
        unfold Jd
        simp only
        rw [Qp (Zgx sp m.hash k), Option.bind_some, bne_iff_ne.2 (hz.2 k hk), cond_true, Zvv sp sl k]
        rfl) (by
        unfold Jd
        simp only
        rw [Qp (Zgx sp m.hash Z), Option.bind_some, hz.1]
        rfl)
      rw [inner, Option.bind_some, Qp (Zgx sp m.hash Z), Option.bind_some, Y3 (by omega) (by omega)]
      unfold Zdl
      rw [Int.toNat_natCast]
    · have := i1.push sp hz.1 hz.2
      rw [hlen] at this
      rw [List.take_add_one, hx, List.map_append]
      exact this) (fun s _ => by
    unfold Jc
    simp only
    rw [Zjs, cond_false]) (List.replicate P 0) ⟨by simpa using PRt.empty P, by simp⟩
  obtain ⟨l1, l2, l3⟩ := loop
  refine ⟨_, ?_, ?_, l3.trans hP⟩
  · unfold Jj
    simp only
    rw [e, Zr5 (by omega) (by omega) (by omega), Option.bind_some, Int.toNat_natCast]
    rw [show ((0 : Int), List.replicate P (0 : Int)) = (fun i (s : List Int) => (i, s)) 0 (List.replicate P 0) from rfl, l1]
    rfl
  rw [List.take_length] at l2
  exact l2
def VT (r : Za) (t : Tr) : Prop := ∃ A : Zf, WS A.segments ∧ Mn A r t ∧ (nd t : Int) ≤ 65537
def fi : List Tr → Tr → Nat
  | [], _ => 0
  | u :: l, t => if eqv u t = true then 0 else fi l t + 1
theorem Zzf : ∀ (l : List Tr) (t : Tr), fi l t ≤ l.length
  | [], _ => Nat.le_refl _
  | u :: l, t => by
    have := Zzf l t
    unfold fi
    rw [List.length_cons]
    split <;> omega
theorem Zze : ∀ {l : List Tr} {t : Tr}, fi l t < l.length → ∃ u, l[fi l t]? = some u ∧ eqv u t = true
  | [], _, h => by simp at h
  | u :: l, t, h => by
    unfold fi at h ⊢
    by_cases q : eqv u t = true
    · rw [if_pos q]
      exact ⟨u, rfl, q⟩
    rw [if_neg q, List.length_cons] at h
    rw [if_neg q]
    obtain ⟨v, h1, h2⟩ := Zze (l := l) (t := t) (by omega)
    exact ⟨v, by simpa using h1, h2⟩
theorem Zpf : ∀ {l : List Tr} {t : Tr} {j : Nat} {u : Tr}, j < fi l t → l[j]? = some u → eqv u t = false
  | [], _, _, _, _, hu => by simp at hu
  | v :: l, t, j, u, h, hu => by
    unfold fi at h
    by_cases q : eqv v t = true
    · rw [if_pos q] at h; omega
    rw [if_neg q] at h
    cases j with
    | zero =>
      have : v = u := by simpa using hu
      subst this
      simpa using q
    | succ j => exact Zpf (l := l) (t := t) (j := j) (by omega) (by simpa using hu)
def nxt (ts : List Tr) (t : Tr) : List Tr := if fi ts t < ts.length then ts else ts ++ [t]
structure TI (cl : List Zg) (pl : List Int) (ts : List Tr) : Prop where
  len : cl.length = ts.length
  mem : ∀ (i : Nat) (m : Zg) (t : Tr), cl[i]? = some m → ts[i]? = some t → VT m.r t ∧ m.hash = hx t
  dif : ∀ (i j : Nat) (t u : Tr), i < j → ts[i]? = some t → ts[j]? = some u → eqv t u = false
  plc : PRt (cl.map (·.hash)) pl
  few : 2 * cl.length ≤ pl.length + 1
  siz : pl.length ≤ 4 * cl.length + 16
theorem TI.empty : TI [] [] [] := ⟨rfl, fun i m t h => by simp at h, fun i j t u _ h => by simp at h, PRt.empty 0, by simp, by simp⟩
theorem TI.one {cl : List Zg} {pl : List Int} {ts : List Tr} (h : TI cl pl ts) {i j : Nat} {a b t : Tr} (ha : ts[i]? = some a) (hb : ts[j]? = some b) (e1 : eqv a t = true) (e2 : eqv b t = true) : i = j := by
  have e : eqv a b = true := by rw [Zzd e1, Zq8]; exact e2
  rcases Nat.lt_trichotomy i j with q | q | q
  · rw [h.dif i j a b q ha hb] at e; cases e
  · exact q
  have := h.dif j i b a q hb ha
  rw [Zq8, e] at this
  cases this
theorem Zz2 {m : Zg} {u : Tr} (hv : VT m.r u) (hh : m.hash = hx u) {r : Za} {t : Tr} (hr : VT r t) : J3 m ⟨hx t, r⟩ = some (eqv u t, 0) := by
  obtain ⟨A, a1, a2, a3⟩ := hv
  obtain ⟨B, b1, b2, b3⟩ := hr
  unfold J3
  simp only
  rw [hh]
  by_cases e : hx u = hx t
  · rw [show (hx u != hx t) = false from by rw [e]; simp, cond_false, Z0t a1 b1 a2 b2 a3]
    rfl
  rw [bne_iff_ne.2 e, cond_true]
  cases q : eqv u t with
  | false => rfl
  | true => exact absurd (Zzn q) e
theorem Zq4 {cl : List Zg} {pl : List Int} {ts : List Tr} (hI : TI cl pl ts) {r : Za} {t : Tr} (hv : VT r t) (hn : cl.length ≤ 100000) : ∃ cl' pl', Q2 ⟨cl, pl⟩ ⟨hx t, r⟩ = some (((fi ts t : Nat) : Int), 0, (⟨cl', pl'⟩ : Zl)) ∧ TI cl' pl' (nxt ts t) := by
  have hsz := hI.siz
  have hfw := hI.few
  have hln := hI.len
  have hhs : ∀ m ∈ cl, 0 ≤ m.hash := fun m hm => by
    obtain ⟨i, hi⟩ := List.mem_iff_getElem?.1 hm
    have hlt : i < ts.length := by
      rw [← hln]
      rcases Nat.lt_or_ge i cl.length with q | q
      · exact q
      rw [List.getElem?_eq_none q] at hi; cases hi
    rw [(hI.mem i m ts[i] hi (List.getElem?_eq_getElem hlt)).2]
    exact (Z58 _).1
  obtain ⟨pl1, g1, g2, g3, g4⟩ : ∃ pl1, ((cond (decide ((pl.length : Int) ≤ (IntKind.i64.wrap (2 * (cl.length : Int))))) ((Jj (⟨cl, pl⟩ : Zl)).bind fun y2 => some (y2.classes, y2.places)) (some (cl, pl))) : Option (List Zg × List Int)) = some (cl, pl1) ∧ PRt (cl.map (·.hash)) pl1 ∧ 2 * cl.length < pl1.length ∧ pl1.length ≤ 4 * cl.length + 16 := by
    rw [Y3 (by omega) (by omega)]
    by_cases q : pl.length ≤ 2 * cl.length
    · obtain ⟨pl', h1, h2, h3⟩ := Z19 (pl := pl) hhs (by omega) (by omega) hfw
      rw [decide_eq_true (by omega : (pl.length : Int) ≤ 2 * (cl.length : Int)), cond_true, h1]
      refine ⟨pl', rfl, h2, ?_, ?_⟩ <;> rw [h3] <;> split <;> omega
    rw [decide_eq_false (by omega : ¬ (pl.length : Int) ≤ 2 * (cl.length : Int)), cond_false]
    exact ⟨pl, rfl, hI.plc, by omega, hsz⟩
  have pp : 0 < pl1.length := by omega
  have ps : pl1.length ≤ 1000000000 := by omega
  obtain ⟨Z, z1, z2⟩ := Zsf g2 (by rw [List.length_map]; omega) (hx t)
  -- what is seen at a place that is not free
  have see : ∀ k, pat pl1 (hx t) k ≠ 0 → ∃ i u, pat pl1 (hx t) k = (i : Nat) + 1 ∧ ts[i]? = some u ∧ ((eqv u t = true → Ys ⟨hx t, r⟩ (cl, pl1) ((((hx t).toNat + k) % pl1.length : Nat) : Int) = some (.inr (.inl ((i : Nat), 0)))) ∧ (eqv u t = false → Ys ⟨hx t, r⟩ (cl, pl1) ((((hx t).toNat + k) % pl1.length : Nat) : Int) = some (.inl ((((hx t).toNat + (k + 1)) % pl1.length : Nat) : Int)))) := fun k hk => by
    have hm := Zgx pp (hx t) k
    have hr := g2.rng _ (List.mem_of_getElem? hm)
    rw [List.length_map] at hr
    obtain ⟨i, hi, hlt⟩ : ∃ i : Nat, pat pl1 (hx t) k - 1 = (i : Int) ∧ i < cl.length := ⟨(pat pl1 (hx t) k - 1).toNat, by omega, by omega⟩
    have hc : cl[i]? = some cl[i] := List.getElem?_eq_getElem hlt
    have hu : ts[i]? = some (ts[i]'(by omega)) := List.getElem?_eq_getElem (by omega)
    obtain ⟨v1, v2⟩ := hI.mem _ _ _ hc hu
    have hs := Zz2 v1 v2 hv
    refine ⟨i, _, by omega, hu, fun e => ?_, fun e => ?_⟩
    · unfold Ys
      simp only
      rw [Qp hm, Option.bind_some, bne_iff_ne.2 hk, cond_true, Option.bind_some, Y3 (by omega) (by omega), hi, Qp hc, Option.bind_some, hs, Option.bind_some, e]
      rfl
    unfold Ys
    simp only
    rw [Qp hm, Option.bind_some, bne_iff_ne.2 hk, cond_true, Option.bind_some, Y3 (by omega) (by omega), hi, Qp hc, Option.bind_some, hs, Option.bind_some, e]
    simp only
    rw [show ((0 : Int) != 0) = false from rfl, cond_false, cond_false, Zvv pp ps k]
    rfl
  have start : X3 (some ⟨cl, pl1⟩) (hx t) = some ((fun k => ((((hx t).toNat + k) % pl1.length : Nat) : Int)) 0) := Zra pp ps (Z58 t).1
  unfold Q2
  simp only
  rw [g1, Option.bind_some]
  simp only
  rw [start, Option.bind_some]
  by_cases found : fi ts t < ts.length
  · obtain ⟨w, w1, w2⟩ := Zze found
    have hlc : fi ts t < cl.length := by omega
    have hc : cl[fi ts t]? = some cl[fi ts t] := List.getElem?_eq_getElem hlc
    have hhash : (cl.map (·.hash))[fi ts t]? = some (hx t) := by
      rw [List.getElem?_map, hc]
      exact congrArg some ((hI.mem _ _ _ hc w1).2.trans (Zzn w2))
    obtain ⟨k0, k1, k2⟩ := g2.fnd _ _ hhash
    obtain ⟨m, m1, m2, m3⟩ := Z3h (p := fun k => pat pl1 (hx t) k = ((fi ts t : Nat) : Int) + 1) (fun k => Decidable.em _) k0 k1
    have run := Zgo (step := Ys ⟨hx t, r⟩ (cl, pl1)) (fun k => ((((hx t).toNat + k) % pl1.length : Nat) : Int)) m (r := .inl (((fi ts t : Nat) : Int), 0)) (fun k hk => by
      obtain ⟨i, u, s1, s2, _, s4⟩ := see k (k2 k (by omega))
      refine s4 ?_
      cases q : eqv u t with
      | false => rfl
      | true =>
        have := hI.one s2 w1 q w2
        rw [this] at s1
        exact absurd s1 (m3 k hk)) (by
      obtain ⟨i, u, s1, s2, s3, _⟩ := see m (by rw [m2]; omega)
      have hi : i = fi ts t := by omega
      subst hi
      rw [w1] at s2
      obtain rfl := Option.some.inj s2
      exact s3 w2)
    rw [run, Option.bind_some]
    refine ⟨cl, pl1, rfl, ?_⟩
    unfold nxt
    rw [if_pos found]
    exact ⟨hln, hI.mem, hI.dif, g2, by omega, g4⟩
  have hfi : fi ts t = ts.length := by have := Zzf ts t; omega
  have run := Zgo (step := Ys ⟨hx t, r⟩ (cl, pl1)) (fun k => ((((hx t).toNat + k) % pl1.length : Nat) : Int)) Z (r := .inr ((((hx t).toNat + Z) % pl1.length : Nat) : Int)) (fun k hk => by
    obtain ⟨i, u, s1, s2, _, s4⟩ := see k (z2 k hk)
    refine s4 (Zpf (l := ts) (j := i) ?_ s2)
    rw [hfi]
    rcases Nat.lt_or_ge i ts.length with q | q
    · exact q
    · rw [List.getElem?_eq_none q] at s2; cases s2) (by
    unfold Ys
    simp only
    rw [Qp (Zgx pp (hx t) Z), Option.bind_some, z1]
    rfl)
  rw [run, Option.bind_some]
  simp only
  rw [Gu (by rw [List.length_singleton]; omega) (by rw [List.length_singleton]; omega), Option.bind_some, Qp (Zgx pp (hx t) Z), Option.bind_some, List.length_append, List.length_singleton]
  have e1 : IntKind.i64.wrap (((cl.length + 1 : Nat) : Int) - 1) = ((fi ts t : Nat) : Int) := by rw [Y3 (by omega) (by omega)]; omega
  rw [e1]
  refine ⟨_, _, rfl, ?_⟩
  unfold nxt
  rw [if_neg found]
  have hp := g2.push pp z1 z2
  refine ⟨by rw [List.length_append, List.length_append, hln]; rfl, fun i m u hm hu => ?_, fun i j a b hij ha hb => ?_, ?_, ?_, ?_⟩
  · by_cases q : i < cl.length
    · rw [List.getElem?_append_left q] at hm
      rw [List.getElem?_append_left (by omega)] at hu
      exact hI.mem i m u hm hu
    rw [List.getElem?_append_right (by omega)] at hm hu
    rw [← hln] at hu
    have q0 : i - cl.length = 0 := by
      rcases Nat.eq_zero_or_pos (i - cl.length) with z | z
      · exact z
      rw [List.getElem?_eq_none (by simp; omega)] at hm
      cases hm
    rw [q0] at hm hu
    have em : (⟨hx t, r⟩ : Zg) = m := by simpa using hm
    have eu : t = u := by simpa using hu
    subst em eu
    exact ⟨hv, rfl⟩
  · by_cases q : j < ts.length
    · rw [List.getElem?_append_left q] at hb
      rw [List.getElem?_append_left (by omega)] at ha
      exact hI.dif i j a b hij ha hb
    rw [List.getElem?_append_right (by omega)] at hb
    have q0 : j - ts.length = 0 := by
      rcases Nat.eq_zero_or_pos (j - ts.length) with z | z
      · exact z
      rw [List.getElem?_eq_none (by simp; omega)] at hb
      cases hb
    rw [q0] at hb
    have eb : t = b := by simpa using hb
    subst eb
    rw [List.getElem?_append_left (by omega)] at ha
    exact Zpf (l := ts) (j := i) (by omega) ha
  · unfold Zdl
    rw [List.map_append, Int.toNat_natCast]
    rw [List.length_map] at hp
    exact hp
  · unfold Zdl
    rw [List.length_append, List.length_singleton, List.length_set]
    omega
  unfold Zdl
  rw [List.length_append, List.length_singleton, List.length_set]
  omega
def Zy7 : List Tr → List Tr → List Tr
  | ts, [] => ts
  | ts, t :: l => Zy7 (nxt ts t) l
def Zx1 : List Tr → List Tr → List Int
  | _, [] => []
  | ts, t :: l => ((fi ts t : Nat) : Int) :: Zx1 (nxt ts t) l
theorem Zvw (ts : List Tr) (t : Tr) : (nxt ts t).length ≤ ts.length + 1 := by
  unfold nxt
  split
  · omega
  rw [List.length_append]; exact Nat.le_refl _
theorem Zzo {ps : List (Za × Tr)} (hv : ∀ p ∈ ps, VT p.1 p.2) (hl : ps.length ≤ 10000) : ∀ (l pre : List (Za × Tr)) (out : List Int) (cl : List Zg) (pl : List Int) (ts : List Tr), ps = pre ++ l → TI cl pl ts → cl.length + l.length ≤ 100000 → out.length + l.length ≤ 100000 →
    ∃ cl' pl', Zx (X7 (ps.map fun p => ⟨hx p.2, p.1⟩)) ((pre.length : Nat), out, cl, pl) = some (.inr (out ++ Zx1 ts (l.map (·.2)), cl', pl')) ∧ TI cl' pl' (Zy7 ts (l.map (·.2)))
  | [], pre, out, cl, pl, ts, hp, hI, _, _ => by
    rw [List.append_nil] at hp
    refine ⟨cl, pl, Yw ?_, hI⟩
    unfold X7
    simp only
    rw [List.length_map, hp, Zjs, cond_false]
    simp [Zx1]
  | p :: l, pre, out, cl, pl, ts, hp, hI, hc, ho => by
    rw [List.length_cons] at hc ho
    have hx0 : ps[pre.length]? = some p := by rw [hp, List.getElem?_append_right (Nat.le_refl _), Nat.sub_self]; rfl
    have hi : pre.length < ps.length := by rw [hp]; simp
    obtain ⟨cl1, pl1, c1, c2⟩ := Zq4 hI (hv p (List.mem_of_getElem? hx0)) (by omega)
    have n1 : cl1.length ≤ cl.length + 1 := by
      rw [c2.len, hI.len]
      exact Zvw _ _
    obtain ⟨cl2, pl2, r1, r2⟩ := Zzo hv hl l (pre ++ [p]) (out ++ [((fi ts p.2 : Nat) : Int)]) cl1 pl1 (nxt ts p.2) (by rw [hp]; simp) c2 (by omega) (by rw [List.length_append, List.length_singleton]; omega)
    rw [List.length_append, List.length_singleton] at r1
    refine ⟨cl2, pl2, (Xf ?_).trans (r1.trans ?_), r2⟩
    · unfold X7
      simp only
      rw [List.length_map, Zid hi, cond_true, Qp (x := (⟨hx p.2, p.1⟩ : Zg)) (by rw [List.getElem?_map, hx0]; rfl), Option.bind_some, c1, Option.bind_some]
      simp only
      rw [show ((0 : Int) != 0) = false from rfl, cond_false, Gu (by rw [List.length_singleton]; omega) (by rw [List.length_singleton]; omega), Option.bind_some, Y3 (by omega) (by omega)]
      rfl
    rw [List.append_assoc]
    rfl
def kps (A : Zf) (r : Za) (u : Tr) : List (Za × Tr) := u.Kids.zipIdx.map fun p => ((Y8 A r (p.2 : Int)).1, p.1)
theorem Zpw {A : Zf} {r : Za} {u : Tr} {i : Nat} {x : Tr} (h : u.Kids[i]? = some x) : (kps A r u)[i]? = some ((Y8 A r (i : Int)).1, x) := by
  unfold kps
  rw [List.getElem?_map, List.getElem?_zipIdx, h, Nat.zero_add]
  rfl
theorem Ze7 (A : Zf) (r : Za) (u : Tr) : (kps A r u).length = u.Kids.length := by
  unfold kps
  rw [List.length_map, List.length_zipIdx]
theorem Z2c (A : Zf) (r : Za) (u : Tr) : (kps A r u).map (·.2) = u.Kids := by
  refine List.ext_getElem? fun i => ?_
  rw [List.getElem?_map]
  rcases Nat.lt_or_ge i u.Kids.length with q | q
  · have hx : u.Kids[i]? = some u.Kids[i] := List.getElem?_eq_getElem q
    rw [Zpw hx, hx]
    rfl
  rw [List.getElem?_eq_none q, List.getElem?_eq_none (by rw [Ze7]; exact q)]
  rfl
theorem Zz4 {t x : Tr} (h : x ∈ t.Kids) : nd x ≤ nd t := by
  have := Zvd (f := nd) h
  rw [Zoj t]
  omega
theorem Zzp {A : Zf} (hw : WS A.segments) {r : Za} {u : Tr} (hm : Mn A r u) (hn : (nd u : Int) ≤ 65537) : ∀ p ∈ kps A r u, VT p.1 p.2 := fun p hp => by
  obtain ⟨i, hi⟩ := List.mem_iff_getElem?.1 hp
  have hlt : i < u.Kids.length := by
    rw [← Ze7 A r u]
    rcases Nat.lt_or_ge i (kps A r u).length with q | q
    · exact q
    rw [List.getElem?_eq_none q] at hi; cases hi
  have hx : u.Kids[i]? = some u.Kids[i] := List.getElem?_eq_getElem hlt
  rw [Zpw hx] at hi
  obtain rfl := Option.some.inj hi
  exact ⟨A, hw, hm.kid _ _ hx, by have := Zz4 (List.mem_of_getElem? hx); simp only; omega⟩
theorem Zye {A : Zf} (hw : WS A.segments) {r : Za} {u : Tr} (hm : Mn A r u) (hn : (nd u : Int) ≤ 65537) (hk : u.Kids.length ≤ 10000) {cl : List Zg} {pl : List Int} {ts : List Tr} (hI : TI cl pl ts) (hc : cl.length ≤ 10000) : ∃ cl' pl', Kb ⟨cl, pl⟩ r = some (Zx1 ts u.Kids, 0, ⟨cl', pl'⟩) ∧ TI cl' pl' (Zy7 ts u.Kids) := by
  have hl0 := Zt6 u.Kids (fun i (s : List Zg) => (i, s)) (fun s => (.inr s : Int ⊕ List Zg)) (X6 r (Yd r)) (fun s i x => s ++ [(⟨hx x, (Y8 A r (i : Int)).1⟩ : Zg)]) (fun i s => s = ((kps A r u).take i).map fun p => (⟨hx p.2, p.1⟩ : Zg)) (by omega) (fun i s x hi hx0 hmem hs => by
    have hkv := Zzp hw hm hn _ (List.mem_of_getElem? (Zpw (A := A) (r := r) hx0))
    have hh := Zvc hw (hm.kid _ _ hx0) (by have := Zz4 hmem; omega)
    have hlen : s.length ≤ 10000 := by rw [hs, List.length_map, List.length_take, Ze7]; omega
    refine ⟨?_, ?_⟩
    · unfold X6
      simp only
      rw [← hm.ln, Zid hi, cond_true, Zmb hw hm.ok, Option.bind_some, hm.er _ _ hx0, show ((0 : Int) != 0) = false from rfl, cond_false, hh, Option.bind_some]
      simp only
      rw [show ((0 : Int) != 0) = false from rfl, cond_false, Gu (by rw [List.length_singleton]; omega) (by rw [List.length_singleton]; omega), Option.bind_some]
    · rw [hs, List.take_add_one, Zpw hx0, List.map_append]
      rfl) (fun s _ => by
    unfold X6
    simp only
    rw [← hm.ln, Zjs, cond_false]) [] (by simp)
  obtain ⟨a1, a2⟩ := hl0
  rw [a2, ← Ze7 A r u, List.take_length] at a1
  obtain ⟨cl', pl', b1, b2⟩ := Zzo (Zzp hw hm hn) (by rw [Ze7]; exact hk) (kps A r u) [] [] cl pl ts rfl hI (by rw [Ze7]; omega) (by rw [Ze7, List.length_nil]; omega)
  rw [Z2c] at b1 b2
  refine ⟨cl', pl', ?_, b2⟩
  unfold Kb
  simp only
  rw [Zjc, Option.bind_some]
  rw [show Zx (X6 r (Yd r)) (0, ([] : List Zg)) = _ from a1, Option.bind_some]
  simp only
  rw [show Zx (X7 ((kps A r u).map fun p => ⟨hx p.2, p.1⟩)) (0, ([] : List Int), cl, pl) = _ from b1, Option.bind_some]
  rfl
theorem Zst {a b : List Int} (h : (a.length : Int) ≤ 140737488355328) : Jn a b = some (a == b) := by
  unfold Jn
  rw [Zmf]
  by_cases hl : a.length = b.length
  · have : (a.length == b.length) = true := by rw [beq_iff_eq]; exact hl
    rw [this, Bool.not_true, cond_false, Zmj a b _ (.inl ()) (.inr ()) hl h (fun i x y hi hx hy => by
      unfold Js
      rw [Zid hi, cond_true, Qp hx, Option.bind_some, Qp hy, Option.bind_some]
      cases x != y <;> rfl) (by unfold Js; rw [Zjs, cond_false])]
    cases a == b <;> rfl
  have : (a.length == b.length) = false := by rw [beq_eq_false_iff_ne]; exact hl
  rw [this, Bool.not_false, cond_true, Zpd hl]
theorem Zov {l : List (List Int)} (hw : WS l) : J5 l = some (atR ⟨l, 0, 0⟩ 0 0).1 := by
  unfold J5
  rw [Z5a hw, Option.bind_some, Z2s (A := ⟨l, 0, 0⟩) hw, Option.bind_some]
def u16 : Tr := ⟨4, [], [⟨10, [5], []⟩, ⟨10, [7], []⟩, ⟨10, [5], []⟩]⟩
theorem unf16 : (Zcr ⟨[[111669149697, 329477]], 0, 0⟩ ⟨64, 65536, 0, 0⟩).1 = u16 ∧ (Zcr ⟨[[111669149697, 329477]], 0, 0⟩ ⟨64, 65536, 0, 0⟩).2.2 = 0 := ⟨rfl, rfl⟩
theorem Zzb : eqv ⟨10, [5], []⟩ ⟨10, [7], []⟩ = false := by
  unfold eqv
  rw [Zej (show ¬ (10 : Int) = 0 by decide) (show ¬ (10 : Int) = 1 by decide), Zej (show ¬ (10 : Int) = 0 by decide) (show ¬ (10 : Int) = 1 by decide), Zlw]
  rfl
theorem Z5c : Zx1 [] u16.Kids = [0, 1, 0] := by simp [u16, Zx1, nxt, fi, Zzb, Zq9]
theorem Z5d : (Zy7 [] u16.Kids).length = 2 := by simp [u16, Zy7, nxt, fi, Zzb, Zq9]
theorem Zx0 : Ko = some true := by
  have hw : WS [[111669149697, 329477]] := Z5x _ (by simp) (by simp)
  obtain ⟨hm, hn⟩ := Z1n (A := ⟨[[111669149697, 329477]], 0, 0⟩) hw ⟨64, 65536, 0, 0⟩ unf16.2
  rw [unf16.1] at hm hn
  obtain ⟨cl', pl', k1, k2⟩ := Zye (A := ⟨[[111669149697, 329477]], 0, 0⟩) hw hm hn (by decide) TI.empty (by simp)
  rw [Z5c] at k1
  have hl : cl'.length = 2 := by rw [k2.len, Z5d]
  unfold Ko
  rw [show Up = some (⟨[], []⟩ : Zl) from rfl, Option.bind_some, Zov hw, Option.bind_some]
  simp only
  rw [k1, Option.bind_some]
  simp only
  rw [Zst (by decide)]
  unfold Jq
  simp only [Option.isNone_some, cond_false, Option.bind_some]
  rw [hl]
  rfl
theorem Zym {ts : List Tr} (hb : ∀ t ∈ ts, Bd t) {t : Tr} (ht : Bd t) (hl : ts.length ≤ 100000) : Kr (ts.map nrm) t = some ((nxt ts t).map nrm, ((fi ts t : Nat) : Int)) := by
  have hle := Zzf ts t
  have step : ∀ (k : Nat) (u : Tr), ts[k]? = some u → Yt (ts.map nrm) (nrm t) (k : Int) = if eqv u t = true then some (.inr (.inl (k : Int))) else some (.inl ((k + 1 : Nat) : Int)) := fun k u hu => by
    have hk : k < ts.length := by
      rcases Nat.lt_or_ge k ts.length with q | q
      · exact q
      rw [List.getElem?_eq_none q] at hu; cases hu
    unfold Yt
    rw [List.length_map, Zid hk, cond_true, Qp (x := nrm u) (by rw [List.getElem?_map, hu]; rfl), Option.bind_some, Z2t (hb u (List.mem_of_getElem? hu)).nrm ht.nrm, Option.bind_some, Y3 (by omega) (by omega)]
    show cond (eqv u t) _ _ = _
    cases eqv u t <;> rfl
  unfold Kr
  rw [Z0q ht, Option.bind_some]
  have before : ∀ k, k < fi ts t → Yt (ts.map nrm) (nrm t) (k : Int) = some (.inl ((k + 1 : Nat) : Int)) := fun k hk => by
    have hx : ts[k]? = some ts[k] := List.getElem?_eq_getElem (by omega)
    rw [step k _ hx, Zpf hk hx]
    rfl
  unfold nxt
  by_cases found : fi ts t < ts.length
  · obtain ⟨u, u1, u2⟩ := Zze found
    have run := Zgo (step := Yt (ts.map nrm) (nrm t)) (fun k => (k : Int)) (fi ts t) (r := .inl ((fi ts t : Nat) : Int)) before (by
      rw [step _ _ u1, if_pos u2])
    rw [show Zx (Yt (ts.map nrm) (nrm t)) 0 = _ from run, Option.bind_some, if_pos found]
  have e : fi ts t = ts.length := by omega
  have run := Zgo (step := Yt (ts.map nrm) (nrm t)) (fun k => (k : Int)) (fi ts t) (r := .inr ()) before (by
    unfold Yt
    rw [e, List.length_map, Zjs, cond_false])
  rw [show Zx (Yt (ts.map nrm) (nrm t)) 0 = _ from run, Option.bind_some, if_neg found]
  simp only
  rw [Gu (by rw [List.length_map, List.length_singleton]; omega) (by rw [List.length_map, List.length_singleton]; omega), Option.bind_some, List.length_map, e, List.map_append]
  rfl
theorem Zyv {cl : List Zg} {pl : List Int} {ts : List Tr} (hI : TI cl pl ts) {r : Za} {t : Tr} (hv : VT r t) (hn : cl.length ≤ 100000) : ∃ cl' pl', J0 ⟨cl, pl⟩ r = some (((fi ts t : Nat) : Int), 0, (⟨cl', pl'⟩ : Zl)) ∧ TI cl' pl' (nxt ts t) := by
  obtain ⟨cl', pl', h1, h2⟩ := Zq4 hI hv hn
  obtain ⟨A, a1, a2, a3⟩ := hv
  refine ⟨cl', pl', ?_, h2⟩
  unfold J0
  rw [Zvc a1 a2 a3, Option.bind_some]
  simp only
  rw [show ((0 : Int) != 0) = false from rfl, cond_false, h1]
  rfl
theorem Z2j {ts : List Tr} {t : Tr} {P : Tr → Prop} (h : ∀ u ∈ ts, P u) (ht : P t) : ∀ u ∈ nxt ts t, P u := fun u hu => by
  unfold nxt at hu
  split at hu
  · exact h u hu
  rcases List.mem_append.1 hu with q | q
  · exact h u q
  rw [List.mem_singleton.1 q]; exact ht
theorem Ze4 {L : List (List (List Int))} (hw : ∀ l ∈ L, WS l) (y : Zw) : ∀ (d i : Nat) (ts : List Tr) (cl : List Zg) (pl : List Int), i + d = min L.length 30 → TI cl pl ts → (∀ t ∈ ts, Bd t) → ts.length ≤ i → Zx (Yq L y) ((i : Int), ts.map nrm, cl, pl) = some (.inr ())
  | 0, i, ts, cl, pl, hi, _, _, _ => by
    refine Yw ?_
    unfold Yq
    simp only
    have : cond (decide ((i : Int) < (L.length : Int))) (decide ((i : Int) < 30)) false = false := by
      by_cases q : i < L.length
      · rw [Zid q, cond_true, decide_eq_false_iff_not]
        omega
      rw [decide_eq_false (by omega : ¬ (i : Int) < (L.length : Int)), cond_false]
    rw [this, cond_false]
  | d + 1, i, ts, cl, pl, hi, hI, hb, hl => by
    have h1 : i < L.length := by omega
    have hx : L[i]? = some L[i] := List.getElem?_eq_getElem h1
    have hwi := hw _ (List.mem_of_getElem? hx)
    generalize L[i] = l at hx hwi
    have go : cond (decide ((i : Int) < (L.length : Int))) (decide ((i : Int) < 30)) false = true := by
      rw [Zid h1, cond_true, decide_eq_true_eq]
      omega
    have e1 : IntKind.i64.wrap ((i : Int) + 1) = ((i + 1 : Nat) : Int) := by rw [Y3 (by omega) (by omega)]; rfl
    by_cases he : (Zcr ⟨l, 0, 0⟩ y).2.2 = 0
    · obtain ⟨m1, m2⟩ := Z1n (A := ⟨l, 0, 0⟩) hwi y he
      have bt := Z24 (A := ⟨l, 0, 0⟩) hwi y
      obtain ⟨cl', pl', c1, c2⟩ := Zyv hI ⟨⟨l, 0, 0⟩, hwi, m1, m2⟩ (by have := hI.len; omega)
      have rc := Zym hb bt (by omega)
      have nl := Zvw ts (Zcr ⟨l, 0, 0⟩ y).1
      have cn : (cl'.length : Int) = (((nxt ts (Zcr ⟨l, 0, 0⟩ y).1).map nrm).length : Int) := by rw [c2.len, List.length_map]
      refine (Xf ?_).trans (Ze4 hw y d (i + 1) (nxt ts (Zcr ⟨l, 0, 0⟩ y).1) cl' pl' (by omega) c2 (Z2j hb bt) (by omega))
      unfold Yq
      simp only
      rw [go, cond_true, Qp hx, Option.bind_some, show Qa l y = _ from Zo7 (A := ⟨l, 0, 0⟩) hwi y, Option.bind_some, he, show ((0 : Int) != 0) = false from rfl, cond_false, Option.bind_some, Zov hwi, Option.bind_some, c1, Option.bind_some, rc, Option.bind_some]
      try simp only
      rw [show ((0 : Int) != 0) = false from rfl, cond_false, show (((fi ts (Zcr ⟨l, 0, 0⟩ y).1 : Nat) : Int) != ((fi ts (Zcr ⟨l, 0, 0⟩ y).1 : Nat) : Int)) = false from by simp, cond_false]
      unfold Jq
      simp only [Option.isNone_some, cond_false, Option.bind_some]
      rw [cn, show ∀ z : Int, (z != z) = false from fun z => by simp]
      try simp only [cond_false, Option.bind_some, e1]
    refine (Xf ?_).trans (Ze4 hw y d (i + 1) ts cl pl (by omega) hI hb (by omega))
    unfold Yq
    simp only
    rw [go, cond_true, Qp hx, Option.bind_some, show Qa l y = _ from Zo7 (A := ⟨l, 0, 0⟩) hwi y, Option.bind_some, bne_iff_ne.2 he, cond_true, Option.bind_some]
    simp only [e1]
theorem Zk1 {L : List (List (List Int))} (hw : ∀ l ∈ L, WS l) (x : Zw) : Jb L x = some true := by
  obtain ⟨w, hx⟩ := Zzy x
  unfold Jb
  rw [hx, Option.bind_some, show Up = some (⟨[], []⟩ : Zl) from rfl, Option.bind_some]
  simp only
  have := Ze4 hw (⟨x.Depth, w, x.MaxD, x.MaxOut⟩ : Zw) (min L.length 30) 0 [] [] [] (by omega) TI.empty (by simp) (by simp)
  rw [show Zx (Yq L (⟨x.Depth, w, x.MaxD, x.MaxOut⟩ : Zw)) (0, ([] : List Tr), ([] : List Zg), ([] : List Int)) = _ from this, Option.bind_some]
  simp only
  rw [Zx0]
  rfl
end Go.Proofs.Ytgffgbdnbjbmoaa
