/- Plain facts on this seat's mirrors (part BPe); each theorem bears its own conditions. -/
import Derived.Test.YtjeolggpgclgkaaBPd
import Derived.IntWalk
namespace Go.Proofs.Ytjeolggpgclgkaa
open Go.RowKit
set_option linter.unusedVariables false
set_option linter.unusedSimpArgs false
def addI (a b : Int) : Int := IntKind.i64.wrap (a + b)
/-- how many parts an edit has, as the program counts -/
def cn (e : Ed) : Int := e.Ops.attach.foldl (fun s o => if o.1.Kind = 3 then addI s (cn o.1.E) else s) (e.Kids.attach.foldl (fun s k => addI s (cn k.1.E)) (addI (addI 1 e.Words.length) e.Ops.length))
termination_by SizeOf.sizeOf e
decreasing_by
  · exact opE_lt o.2
  · exact kidE_lt k.2
theorem cn_eq (e : Ed) : cn e = e.Ops.foldl (fun s o => if o.Kind = 3 then addI s (cn o.E) else s) (e.Kids.foldl (fun s k => addI s (cn k.E)) (addI (addI 1 e.Words.length) e.Ops.length)) := by
  rw [cn]
  have h1 : ∀ z : Int, e.Kids.attach.foldl (fun s k => addI s (cn k.1.E)) z = e.Kids.foldl (fun s k => addI s (cn k.E)) z := fun z => List.foldl_attach (f := fun s (k : S_api_KidEdit) => addI s (cn k.E))
  have h2 : ∀ z : Int, e.Ops.attach.foldl (fun s o => if o.1.Kind = 3 then addI s (cn o.1.E) else s) z = e.Ops.foldl (fun s o => if o.Kind = 3 then addI s (cn o.E) else s) z := fun z => List.foldl_attach (f := fun s (o : S_api_Op) => if o.Kind = 3 then addI s (cn o.E) else s)
  rw [h1, h2]
theorem ecount_lv : ∀ (k : Nat) (e : Ed), BE e → SizeOf.sizeOf e < k → lv_edit_Count k e = some (cn e)
  | 0, e, _, h => by omega
  | k + 1, e, hb, hk => by
    show b_edit_Count (lv_edit_Count k) e = _
    unfold b_edit_Count
    have h1 := (loop_fold e.Kids (fun (s : Int) i => (s, i)) (fun s k => addI s (cn k.E)) (fun s => s) (fun _ => True) (b_edit_Count_L0 (lv_edit_Count k) e) hb.k (fun s i x _ hi hx hm => by
      refine ⟨trivial, ?_⟩
      unfold b_edit_Count_L0
      simp only
      rw [lt_t hi, cond_true, getI_of hx, Option.bind_some, ecount_lv k x.E (hb.ks x hm) (by have := kidE_lt hm; omega)]
      rfl) (fun s _ => by unfold b_edit_Count_L0; simp only; rw [lt_f]; rfl) (addI (addI 1 e.Words.length) e.Ops.length) trivial).1
    have h2 := fun z => (loop_fold e.Ops (fun (s : Int) i => (s, i)) (fun s o => if o.Kind = 3 then addI s (cn o.E) else s) (fun s => s) (fun _ => True) (b_edit_Count_L1 (lv_edit_Count k) e) hb.o (fun s i x _ hi hx hm => by
      refine ⟨trivial, ?_⟩
      unfold b_edit_Count_L1
      simp only
      rw [lt_t hi, cond_true, getI_of hx, Option.bind_some, ecount_lv k x.E (hb.os x hm) (by have := opE_lt hm; omega), cond_beq]
      by_cases h3 : x.Kind = 3
      · rw [if_pos h3, if_pos h3]; rfl
      · rw [if_neg h3, if_neg h3]; rfl) (fun s _ => by unfold b_edit_Count_L1; simp only; rw [lt_f]; rfl) z trivial).1
    unfold addI at h1
    rw [h1, Option.bind_some, cn_eq]
    unfold addI at h2 ⊢
    rw [h2]
    rfl
theorem rcount_lv : ∀ (k : Nat) (e : Ed), BE e → SizeOf.sizeOf e < k → lv_centoref20_Count k e = some (cn e)
  | 0, e, _, h => by omega
  | k + 1, e, hb, hk => by
    show b_centoref20_Count (lv_centoref20_Count k) e = _
    unfold b_centoref20_Count
    have h1 := (loop_fold e.Kids (fun (s : Int) i => (s, i)) (fun s k => addI s (cn k.E)) (fun s => s) (fun _ => True) (b_centoref20_Count_L0 (lv_centoref20_Count k) e) hb.k (fun s i x _ hi hx hm => by
      refine ⟨trivial, ?_⟩
      unfold b_centoref20_Count_L0
      simp only
      rw [lt_t hi, cond_true, getI_of hx, Option.bind_some, rcount_lv k x.E (hb.ks x hm) (by have := kidE_lt hm; omega)]
      rfl) (fun s _ => by unfold b_centoref20_Count_L0; simp only; rw [lt_f]; rfl) (addI (addI 1 e.Words.length) e.Ops.length) trivial).1
    have h2 := fun z => (loop_fold e.Ops (fun (s : Int) i => (s, i)) (fun s o => if o.Kind = 3 then addI s (cn o.E) else s) (fun s => s) (fun _ => True) (b_centoref20_Count_L1 (lv_centoref20_Count k) e) hb.o (fun s i x _ hi hx hm => by
      refine ⟨trivial, ?_⟩
      unfold b_centoref20_Count_L1
      simp only
      rw [lt_t hi, cond_true, getI_of hx, Option.bind_some, Option.bind_some, rcount_lv k x.E (hb.os x hm) (by have := opE_lt hm; omega), cond_beq]
      by_cases h3 : x.Kind = 3
      · rw [if_pos h3, if_pos h3]; rfl
      · rw [if_neg h3, if_neg h3]; rfl) (fun s _ => by unfold b_centoref20_Count_L1; simp only; rw [lt_f]; rfl) z trivial).1
    unfold addI at h1
    rw [h1, Option.bind_some, cn_eq]
    unfold addI at h2 ⊢
    rw [h2]
    rfl
theorem ecount_ok {e : Ed} (h : BE e) : m_edit_Count e = some (cn e) := lim_eq (SizeOf.sizeOf e + 1) fun k hk => ecount_lv k e h (by omega)
theorem rcount_ok {e : Ed} (h : BE e) : m_centoref20_Count e = some (cn e) := lim_eq (SizeOf.sizeOf e + 1) fun k hk => rcount_lv k e h (by omega)
/-- how many parts an edit has at the least -/
def ce (e : Ed) : Nat := 1 + e.Words.length + e.Ops.length + (e.Kids.attach.map fun k => ce k.1.E).sum + (e.Ops.attach.map fun o => ce o.1.E).sum
termination_by SizeOf.sizeOf e
decreasing_by
  · exact kidE_lt k.2
  · exact opE_lt o.2
theorem ce_eq (e : Ed) : ce e = 1 + e.Words.length + e.Ops.length + (e.Kids.map fun k => ce k.E).sum + (e.Ops.map fun o => ce o.E).sum := by
  rw [ce]
  have h1 : (e.Kids.attach.map fun k => ce k.1.E) = e.Kids.map fun k => ce k.E := List.attach_map_val (f := fun k : S_api_KidEdit => ce k.E)
  have h2 : (e.Ops.attach.map fun o => ce o.1.E) = e.Ops.map fun o => ce o.E := List.attach_map_val (f := fun o : S_api_Op => ce o.E)
  rw [h1, h2]
theorem fold_cnt {α : Type} (g : Int → α → Int) (f : α → Nat) : ∀ (xs : List α) (s : Int), 1 ≤ s → s + ((xs.map f).sum : Nat) ≤ 1000000000 → (∀ x ∈ xs, ∀ s : Int, 1 ≤ s → s + (f x : Nat) ≤ 1000000000 → 1 ≤ g s x ∧ g s x ≤ s + (f x : Nat)) → 1 ≤ xs.foldl g s ∧ xs.foldl g s ≤ s + ((xs.map f).sum : Nat)
  | [], s, h1, h2, _ => by simp; omega
  | x :: xs, s, h1, h2, h => by
    rw [List.map_cons, List.sum_cons] at h2
    have hx := h x (.head _) s h1 (by omega)
    have := fold_cnt g f xs (g s x) hx.1 (by omega) (fun y hy => h y (.tail _ hy))
    rw [List.foldl_cons, List.map_cons, List.sum_cons]
    omega
theorem cn_ce : ∀ (n : Nat) (e : Ed), SizeOf.sizeOf e < n → BE e → ce e ≤ 1000000000 → 1 ≤ cn e ∧ cn e ≤ (ce e : Nat)
  | 0, e, h, _, _ => by omega
  | n + 1, e, hn, hb, hc => by
    rw [ce_eq] at hc ⊢
    rw [cn_eq]
    have e0 : addI (addI 1 e.Words.length) e.Ops.length = ((1 + e.Words.length + e.Ops.length : Nat) : Int) := by
      unfold addI
      rw [i64s (x := 1 + (e.Words.length : Int)) (by omega) (by omega), i64s (by omega) (by omega)]
      omega
    have sm : ∀ {α : Type} {f : α → Nat} {x : α} {l : List α}, x ∈ l → f x ≤ (l.map f).sum := fun {α f x l} hx => by
      induction l with
      | nil => cases hx
      | cons y l ih =>
        rw [List.map_cons, List.sum_cons]
        rcases List.mem_cons.1 hx with rfl | hx
        · omega
        · have := ih hx; omega
    have h1 := fold_cnt (fun s (k : S_api_KidEdit) => addI s (cn k.E)) (fun k => ce k.E) e.Kids ((1 + e.Words.length + e.Ops.length : Nat) : Int) (by omega) (by omega) (fun x hx s h1 h2 => by
      have := sm (f := fun k : S_api_KidEdit => ce k.E) hx
      have := cn_ce n x.E (by have := kidE_lt hx; omega) (hb.ks x hx) (by omega)
      unfold addI
      rw [i64s (by omega) (by omega)]
      omega)
    have h2 := fold_cnt (fun s (o : S_api_Op) => if o.Kind = 3 then addI s (cn o.E) else s) (fun o => ce o.E) e.Ops _ h1.1 (by omega) (fun x hx s h1 h2 => by
      have := sm (f := fun o : S_api_Op => ce o.E) hx
      have := cn_ce n x.E (by have := opE_lt hx; omega) (hb.os x hx) (by omega)
      split
      · unfold addI
        rw [i64s (by omega) (by omega)]
        omega
      · omega)
    rw [e0]
    omega
theorem left_lv : ∀ (k : Nat) (e : Ed) (d left : Int), BE e → SizeOf.sizeOf e < k → 0 ≤ d → d ≤ 100 → 0 ≤ left → left ≤ 1000000 → ∃ r, lv_centoref20_left k e d left = some r ∧ -1 ≤ r ∧ r ≤ 1000000 ∧ (0 ≤ r → r + (ce e : Nat) ≤ left)
  | 0, e, _, _, _, h, _, _, _, _ => by omega
  | k + 1, e, d, left, hb, hk, hd0, hd1, hl0, hl1 => by
    have hw := hb.w
    have ho := hb.o
    show ∃ r, b_centoref20_left (lv_centoref20_left k) e d left = some r ∧ _
    unfold b_centoref20_left
    rw [i64s (x := left - 1) (by omega) (by omega), i64s (x := left - 1 - (e.Words.length : Int)) (by omega) (by omega), i64s (by omega) (by omega), ce_eq]
    cases hc : cond (d == 0) true (decide (left - 1 - (e.Words.length : Int) - (e.Ops.length : Int) < 0)) with
    | true => exact ⟨-1, rfl, by omega, by omega, fun h => by omega⟩
    | false =>
      rw [cond_false]
      have hd : ¬ d = 0 ∧ 0 ≤ left - 1 - (e.Words.length : Int) - (e.Ops.length : Int) := by
        by_cases h : d = 0
        · simp [h] at hc
        · have e : (d == 0) = false := by simp [h]
          rw [e, cond_false, decide_eq_false_iff_not] at hc
          exact ⟨h, by omega⟩
      obtain ⟨r1, g1, g2, g3, g4⟩ := shal_ok hb.old hd.2 (by omega)
      have hz : ∃ z, cond (decide (0 ≤ r1)) ((m_centoref07_Shallow e.New 80 r1).bind fun y4 => some y4) (some r1) = some z ∧ -1 ≤ z ∧ z ≤ 1000000 ∧ (0 ≤ z → z ≤ left - 1 - (e.Words.length : Int) - (e.Ops.length : Int)) := by
        by_cases h : 0 ≤ r1
        · obtain ⟨r2, f1, f2, f3, f4⟩ := shal_ok hb.new h g3
          refine ⟨r2, by rw [decide_eq_true h, f1]; rfl, f2, f3, fun h2 => ?_⟩
          have := f4 h2
          have := g4 h
          omega
        · exact ⟨r1, by rw [decide_eq_false h]; rfl, g2, g3, fun h2 => absurd h2 h⟩
      obtain ⟨z, z1, z2, z3, z4⟩ := hz
      rw [g1, Option.bind_some, z1, Option.bind_some]
      obtain ⟨r, h1, h2⟩ := runLoop_rule (step := b_centoref20_left_L0 (lv_centoref20_left k) e d)
        (fun s => ∃ j : Nat, s.2 = j ∧ j ≤ e.Kids.length ∧ -1 ≤ s.1 ∧ s.1 ≤ 1000000 ∧ (0 ≤ s.1 → s.1 + ((((e.Kids.take j).map fun k => ce k.E)).sum : Nat) ≤ left - 1 - (e.Words.length : Int) - (e.Ops.length : Int)))
        (fun s => e.Kids.length - s.2.toNat) (fun r => -1 ≤ r ∧ r ≤ 1000000 ∧ (0 ≤ r → r + ((e.Kids.map fun k => ce k.E).sum : Nat) ≤ left - 1 - (e.Words.length : Int) - (e.Ops.length : Int))) (fun s hI => by
          obtain ⟨l, i⟩ := s
          obtain ⟨j, rfl, hj, g1, g2, g3⟩ := hI
          have hkl := hb.k
          simp only at g1 g2 g3 ⊢
          unfold b_centoref20_left_L0
          simp only
          by_cases hji : j < e.Kids.length
          · rw [lt_t hji, cond_true]
            by_cases hl : 0 ≤ l
            · have e1 : decide (0 ≤ l) = true := by simp [hl]
              have hx : e.Kids[j]? = some e.Kids[j] := List.getElem?_eq_getElem hji
              have hm : e.Kids[j] ∈ e.Kids := List.getElem_mem hji
              obtain ⟨r, q1, q2, q3, q4⟩ := left_lv k e.Kids[j].E (d - 1) l (hb.ks _ hm) (by have := kidE_lt hm; omega) (by omega) (by omega) hl g2
              rw [e1, cond_true, getI_of hx, Option.bind_some, i64s (x := d - 1) (by omega) (by omega), q1, Option.bind_some, i64s (by omega) (by omega)]
              refine .inl ⟨_, rfl, ⟨j + 1, by simp only; omega, by omega, q2, q3, fun hr => ?_⟩, by simp only; omega⟩
              have := q4 hr
              have := g3 hl
              rw [List.take_add_one, hx]
              simp only [Option.toList_some, List.map_append, List.map_cons, List.map_nil, List.sum_append, List.sum_cons, List.sum_nil]
              simp only at hr
              omega
            · have e1 : decide (0 ≤ l) = false := by simp [hl]
              rw [e1, cond_false]
              exact .inr ⟨l, rfl, g1, g2, fun h => absurd h hl⟩
          · have hj' : j = e.Kids.length := by omega
            subst hj'
            rw [lt_f, cond_false]
            rw [List.take_length] at g3
            exact .inr ⟨l, rfl, g1, g2, g3⟩) (z, 0) ⟨0, rfl, Nat.zero_le _, z2, z3, fun h => by simpa using z4 h⟩
      rw [h1, Option.bind_some]
      have inner : ∀ (j : Nat) (hj : j < e.Ops.length) (l : Int), 0 ≤ l → l ≤ 1000000 → ∃ r, runLoop (b_centoref20_left_L2 e (l, (j : Int))) (l, 0) = some r ∧ -1 ≤ r ∧ r ≤ 1000000 ∧ r ≤ l := fun j hj l hl hl' => by
        have hx : e.Ops[j]? = some e.Ops[j] := List.getElem?_eq_getElem hj
        have hm : e.Ops[j] ∈ e.Ops := List.getElem_mem hj
        have hL := (hb.l _ hm).1
        obtain ⟨r, h1, h2⟩ := runLoop_rule (step := b_centoref20_left_L2 e (l, (j : Int)))
          (fun s => ∃ i : Nat, s.2 = i ∧ i ≤ e.Ops[j].L.length ∧ -1 ≤ s.1 ∧ s.1 ≤ 1000000 ∧ s.1 ≤ l)
          (fun s => e.Ops[j].L.length - s.2.toNat) (fun r => -1 ≤ r ∧ r ≤ 1000000 ∧ r ≤ l) (fun s hI => by
            obtain ⟨l', i'⟩ := s
            obtain ⟨i, rfl, hi, g1, g2, g3⟩ := hI
            simp only at g1 g2 g3 ⊢
            unfold b_centoref20_left_L2
            simp only
            rw [getI_of hx, Option.bind_some, Option.bind_some]
            by_cases hii : i < e.Ops[j].L.length
            · rw [lt_t hii, cond_true]
              by_cases hl2 : 0 ≤ l'
              · have e1 : decide (0 ≤ l') = true := by simp [hl2]
                have hx2 : e.Ops[j].L[i]? = some e.Ops[j].L[i] := List.getElem?_eq_getElem hii
                have hm2 : e.Ops[j].L[i] ∈ e.Ops[j].L := List.getElem_mem hii
                obtain ⟨r, q1, q2, q3, q4⟩ := shal_ok ((hb.l _ hm).2 _ hm2) hl2 g2
                rw [e1, cond_true, getI_of hx2, Option.bind_some, q1, Option.bind_some, i64s (by omega) (by omega)]
                refine .inl ⟨_, rfl, ⟨i + 1, by simp only; omega, by omega, q2, q3, ?_⟩, by simp only; omega⟩
                simp only
                by_cases hr : 0 ≤ r
                · have := q4 hr; omega
                · omega
              · have e1 : decide (0 ≤ l') = false := by simp [hl2]
                rw [e1, cond_false]
                exact .inr ⟨l', rfl, g1, g2, g3⟩
            · have hi' : i = e.Ops[j].L.length := by omega
              subst hi'
              rw [lt_f, cond_false]
              exact .inr ⟨l', rfl, g1, g2, g3⟩) (l, 0) ⟨0, rfl, Nat.zero_le _, by simp only; omega, by simp only; omega, by simp only; omega⟩
        exact ⟨r, h1, h2⟩
      obtain ⟨r', h1', h2'⟩ := runLoop_rule (step := b_centoref20_left_L1 (lv_centoref20_left k) e d)
        (fun s => ∃ j : Nat, s.2 = j ∧ j ≤ e.Ops.length ∧ -1 ≤ s.1 ∧ s.1 ≤ 1000000 ∧ (0 ≤ s.1 → 0 ≤ r ∧ s.1 + ((((e.Ops.take j).map fun o => ce o.E)).sum : Nat) ≤ r))
        (fun s => e.Ops.length - s.2.toNat) (fun q => -1 ≤ q ∧ q ≤ 1000000 ∧ (0 ≤ q → 0 ≤ r ∧ q + ((e.Ops.map fun o => ce o.E).sum : Nat) ≤ r)) (fun s hI => by
          obtain ⟨l, i⟩ := s
          obtain ⟨j, rfl, hj, g1, g2, g3⟩ := hI
          simp only at g1 g2 g3 ⊢
          unfold b_centoref20_left_L1
          simp only
          by_cases hji : j < e.Ops.length
          · rw [lt_t hji, cond_true]
            by_cases hl : 0 ≤ l
            · have e1 : decide (0 ≤ l) = true := by simp [hl]
              have hx : e.Ops[j]? = some e.Ops[j] := List.getElem?_eq_getElem hji
              have hm : e.Ops[j] ∈ e.Ops := List.getElem_mem hji
              obtain ⟨t, t1, t2, t3, t4⟩ := inner j hji l hl g2
              rw [e1, cond_true, t1, Option.bind_some, i64s (x := (j : Int) + 1) (by omega) (by omega)]
              by_cases ht : 0 ≤ t
              · obtain ⟨r, q1, q2, q3, q4⟩ := left_lv k e.Ops[j].E (d - 1) t (hb.os _ hm) (by have := opE_lt hm; omega) (by omega) (by omega) ht t3
                rw [decide_eq_true ht, cond_true, getI_of hx, Option.bind_some, i64s (x := d - 1) (by omega) (by omega), q1]
                refine .inl ⟨_, rfl, ⟨j + 1, by simp only; omega, by omega, q2, q3, fun hr => ?_⟩, by simp only; omega⟩
                have := q4 hr
                have := g3 hl
                rw [List.take_add_one, hx]
                simp only [Option.toList_some, List.map_append, List.map_cons, List.map_nil, List.sum_append, List.sum_cons, List.sum_nil]
                simp only at hr
                omega
              · rw [decide_eq_false ht]
                exact .inl ⟨_, rfl, ⟨j + 1, by simp only; omega, by omega, t2, t3, fun hr => absurd hr ht⟩, by simp only; omega⟩
            · have e1 : decide (0 ≤ l) = false := by simp [hl]
              rw [e1, cond_false]
              exact .inr ⟨l, rfl, g1, g2, fun h => absurd h hl⟩
          · have hj' : j = e.Ops.length := by omega
            subst hj'
            rw [lt_f, cond_false]
            rw [List.take_length] at g3
            exact .inr ⟨l, rfl, g1, g2, g3⟩) (r, 0) ⟨0, rfl, Nat.zero_le _, h2.1, h2.2.1, fun h => ⟨h, by simp⟩⟩
      rw [h1']
      refine ⟨r', rfl, h2'.1, h2'.2.1, fun hr => ?_⟩
      have p1 := h2'.2.2 hr
      have p2 := h2.2.2 p1.1
      omega
theorem left_same : ∀ (k k' : Nat) (e : Ed) (d left : Int), SizeOf.sizeOf e < k → SizeOf.sizeOf e < k' → lv_centoref20_left k e d left = lv_centoref20_left k' e d left
  | 0, _, e, _, _, h, _ => by omega
  | k + 1, 0, e, _, _, _, h => by omega
  | k + 1, k' + 1, e, d, left, h, h' => by
    show b_centoref20_left (lv_centoref20_left k) e d left = b_centoref20_left (lv_centoref20_left k') e d left
    have e1 : b_centoref20_left_L0 (lv_centoref20_left k) e d = b_centoref20_left_L0 (lv_centoref20_left k') e d := funext fun s => by
      unfold b_centoref20_left_L0
      cases hx : getI e.Kids s.2 with
      | none => rfl
      | some x => simp only [Option.bind_some, left_same k k' x.E (IntKind.i64.wrap (d - 1)) s.1 (by have := kidE_lt (getI_mem hx); omega) (by have := kidE_lt (getI_mem hx); omega)]
    have e2 : b_centoref20_left_L1 (lv_centoref20_left k) e d = b_centoref20_left_L1 (lv_centoref20_left k') e d := funext fun s => by
      unfold b_centoref20_left_L1
      cases hx : getI e.Ops s.2 with
      | none => rfl
      | some x => 
        have : ∀ z, lv_centoref20_left k x.E (IntKind.i64.wrap (d - 1)) z = lv_centoref20_left k' x.E (IntKind.i64.wrap (d - 1)) z := fun z => left_same k k' x.E _ z (by have := opE_lt (getI_mem hx); omega) (by have := opE_lt (getI_mem hx); omega)
        simp only [Option.bind_some, this]
    unfold b_centoref20_left
    rw [e1, e2]
theorem few20 {e : Ed} (h : BE e) : ∃ b, m_centoref20_Few e = some b ∧ (b = true → ce e ≤ 3000) := by
  obtain ⟨r, h1, h2, h3, h4⟩ := left_lv (SizeOf.sizeOf e + 1) e 80 3000 h (by omega) (by omega) (by omega) (by omega) (by omega)
  have hr : m_centoref20_left e 80 3000 = some r := lim_eq (SizeOf.sizeOf e + 1) fun k hk => by rw [left_same k (SizeOf.sizeOf e + 1) e 80 3000 (by omega) (by omega)]; exact h1
  unfold m_centoref20_Few
  rw [hr, Option.bind_some]
  refine ⟨_, rfl, fun hb => ?_⟩
  have := h4 (by simpa using hb)
  have : 0 ≤ r := by simpa using hb
  omega

end Go.Proofs.Ytjeolggpgclgkaa
