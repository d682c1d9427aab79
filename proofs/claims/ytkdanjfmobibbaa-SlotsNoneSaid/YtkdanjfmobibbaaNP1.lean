/- Plain facts on this seat's mirrors (part NP1); each theorem bears its own conditions. -/
import Derived.Test.YtkdanjfmobibbaaND
import Derived.Test.YtkdanjfmobibbaaNE
import Derived.IntWalk
namespace Go.Proofs.Ytkdanjfmobibbaa
open Go.RowKit
set_option linter.unusedVariables false
set_option linter.unusedSimpArgs false
abbrev SL := S_slots_slot
abbrev AS := Arr S_slots_slot 16
theorem w64 {x : Int} (h1 : -9223372036854775808 ≤ x) (h2 : x ≤ 9223372036854775807) : IntKind.i64.wrap x = x := i64w ⟨h1, h2⟩
/-- rounds with what stays -/
theorem loop_st {α S R : Type} (xs : List α) (step : Int × S → Option ((Int × S) ⊕ R)) (p : α → Bool) (s : S) (e o : R) (hl : (xs.length : Int) ≤ 140737488355328)
    (h1 : ∀ (i : Nat) (x : α), i < xs.length → xs[i]? = some x → step ((i : Int), s) = some (if p x = true then .inl (IntKind.i64.wrap ((i : Int) + 1), s) else .inr e)) (h2 : step ((xs.length : Int), s) = some (.inr o)) : runLoop step (0, s) = some (if xs.all p = true then o else e) := by
  have hloop := loop_each xs (fun i (_ : Unit) => (i, s)) step (fun _ x => some (if p x = true then .inl () else .inr e)) (fun _ => o) (fun i u x hi hx => by
    rw [h1 i x hi hx, w64 (by omega) (by omega)]
    cases p x <;> rfl) (fun _ => h2) ()
  refine hloop.trans ?_
  rw [foldE_find (fun x => !p x) (fun s _ => s) e (fun _ _ => True) xs.length xs () 0 (by omega) trivial (fun s k x _ _ _ => ⟨by cases p x <;> rfl, fun _ => trivial⟩)]
  congr 1
  have : (xs.any fun x => !p x) = !(xs.all p) := by simp [List.all_eq_not_any_not]
  rw [this]
  cases xs.all p <;> rfl
theorem loop_st0 {α R : Type} (xs : List α) (step : Int → Option (Int ⊕ R)) (p : α → Bool) (e o : R) (hl : (xs.length : Int) ≤ 140737488355328)
    (h1 : ∀ (i : Nat) (x : α), i < xs.length → xs[i]? = some x → step (i : Int) = some (if p x = true then .inl (IntKind.i64.wrap ((i : Int) + 1)) else .inr e)) (h2 : step (xs.length : Int) = some (.inr o)) : runLoop step 0 = some (if xs.all p = true then o else e) := by
  have hloop := loop_each xs (fun i (_ : Unit) => i) step (fun _ x => some (if p x = true then .inl () else .inr e)) (fun _ => o) (fun i u x hi hx => by
    rw [h1 i x hi hx, w64 (by omega) (by omega)]
    cases p x <;> rfl) (fun _ => h2) ()
  refine hloop.trans ?_
  rw [foldE_find (fun x => !p x) (fun s _ => s) e (fun _ _ => True) xs.length xs () 0 (by omega) trivial (fun s k x _ _ _ => ⟨by cases p x <;> rfl, fun _ => trivial⟩)]
  congr 1
  have : (xs.any fun x => !p x) = !(xs.all p) := by simp [List.all_eq_not_any_not]
  rw [this]
  cases xs.all p <;> rfl
/-- rounds that make something, with what holds after so many -/
theorem loop_mk {α S R σ : Type} (xs : List α) (mk : Int → S → σ) (f : S → α → S) (out : S → R) (I : S → Nat → Prop) (step : σ → Option (σ ⊕ R))
    (h1 : ∀ (i : Nat) (s : S) (x : α), i < xs.length → xs[i]? = some x → I s i → step (mk i s) = some (.inl (mk ((i + 1 : Nat) : Int) (f s x))) ∧ I (f s x) (i + 1)) (h2 : ∀ s, I s xs.length → step (mk xs.length s) = some (.inr (out s))) (s : S) (hs : I s 0) : runLoop step (mk 0 s) = some (out (xs.foldl f s)) ∧ I (xs.foldl f s) xs.length := by
  have key : ∀ (l pre : List α) (s : S), xs = pre ++ l → I s pre.length → runLoop step (mk (pre.length : Nat) s) = some (out (l.foldl f s)) ∧ I (l.foldl f s) xs.length := fun l => by
    induction l with
    | nil =>
      intro pre s hp hI
      rw [List.append_nil] at hp
      subst hp
      rw [List.foldl_nil]
      exact ⟨runLoop_end (h2 s hI), hI⟩
    | cons x l ih =>
      intro pre s hp hI
      have hx : xs[pre.length]? = some x := by rw [hp, List.getElem?_append_right (Nat.le_refl _)]; simp
      have hlt : pre.length < xs.length := by rw [hp, List.length_append, List.length_cons]; omega
      obtain ⟨g1, g2⟩ := h1 pre.length s x hlt hx hI
      rw [runLoop_step g1, List.foldl_cons]
      have := ih (pre ++ [x]) (f s x) (by rw [hp, List.append_assoc]; rfl) (by rw [List.length_append]; exact g2)
      rw [List.length_append] at this
      exact this
  exact key xs [] s rfl hs
theorem same16 (a : List Int) (hl : (a.length : Int) ≤ 140737488355328) : m_centoref16_SameInts a a = some true := by
  unfold m_centoref16_SameInts
  rw [show ((a.length : Int) != (a.length : Int)) = false from bne_self_eq_false _]
  rw [loop_st0 a (m_centoref16_SameInts_L0 a a) (fun _ => true) (.inl ()) (.inr ()) hl (fun i x hi hx => by
    unfold m_centoref16_SameInts_L0
    rw [show decide ((i : Int) < (a.length : Int)) = true from decide_eq_true (by omega), getI_of hx]
    simp) (by
    unfold m_centoref16_SameInts_L0
    rw [show decide ((a.length : Int) < (a.length : Int)) = false from decide_eq_false (by omega)]
    rfl)]
  simp
theorem same01 (a : List Int) (hl : (a.length : Int) ≤ 140737488355328) : m_centoref01_Same a a = some true := by
  unfold m_centoref01_Same
  rw [show ((a.length : Int) != (a.length : Int)) = false from bne_self_eq_false _]
  rw [loop_st0 a (m_centoref01_Same_L0 a a) (fun _ => true) (.inl ()) (.inr ()) hl (fun i x hi hx => by
    unfold m_centoref01_Same_L0
    rw [show decide ((i : Int) < (a.length : Int)) = true from decide_eq_true (by omega), getI_of hx]
    simp) (by
    unfold m_centoref01_Same_L0
    rw [show decide ((a.length : Int) < (a.length : Int)) = false from decide_eq_false (by omega)]
    rfl)]
  simp
/-- is there one? -/
def hasS (a : List SL) (i : Int) : Bool := decide (0 ≤ i) && decide (i < 16) && ((a[i.toNat]?.map (·.full)).getD false)
theorem has_ok (a : S_slots_Slots) (i : Int) : m_slots_Slots_Has a i = some (hasS a.all.1 i, a) := by
  obtain ⟨a⟩ := a
  unfold m_slots_Slots_Has m_slots_Slots_there hasS
  by_cases h1 : 0 ≤ i
  · by_cases h2 : i < 16
    · have hx : a.1[i.toNat]? = some (a.1[i.toNat]'(by rw [a.2]; omega)) := List.getElem?_eq_getElem _
      have : getI a.1 i = some (a.1[i.toNat]'(by rw [a.2]; omega)) := by unfold getI; rw [if_pos h1]; exact hx
      rw [hx]
      simp [h1, h2, this]
    · simp [h1, h2]
  · simp [h1]
theorem appS {l : List Int} {x : Int} {k : Nat} (h : l.length ≤ k) (hk : k ≤ 16) : appI 8 l [x] = some (l ++ [x]) := appI_ok (by rw [List.length_cons, List.length_nil]; omega) (by rw [List.length_cons, List.length_nil]; omega)
/-- which ones, rising -/
def fullO (h : Int → Bool) : List Int := (List.range 16).foldl (fun (l : List Int) (i : Nat) => if h (i : Int) = true then l ++ [(i : Int)] else l) []
theorem full_ok (a : S_slots_Slots) : m_slots_Slots_Full a = some (fullO (hasS a.all.1), a) := by
  unfold m_slots_Slots_Full
  have := (loop_mk (List.range 16) (fun i (l : List Int) => (i, l, a.all)) (fun l i => if hasS a.all.1 (i : Int) = true then l ++ [(i : Int)] else l) (fun l => (l, a.all)) (fun l k => l.length ≤ k) m_slots_Slots_Full_L0 (fun i l x hi hx hI => by
    rw [List.length_range] at hi
    have e : x = i := by rw [List.getElem?_range (by omega)] at hx; injection hx with hx; exact hx.symm
    subst e
    unfold m_slots_Slots_Full_L0
    rw [show decide ((x : Int) < 16) = true from decide_eq_true (by omega), has_ok]
    refine ⟨?_, ?_⟩
    · rw [w64 (by omega) (by omega)]
      cases hh : hasS a.all.1 (x : Int) with
      | true => simp [appS hI (by omega), hh]
      | false => simp [hh]
    · split
      · simp; omega
      · omega) (fun l hl => by unfold m_slots_Slots_Full_L0; simp) [] (Nat.zero_le _)).1
  rw [this]
  rfl
theorem clone_ok {w : List Int} (h : w.length * 8 ≤ 140737488355328) : m_slices_Clone_uint64_uint64 w = some w := by
  unfold m_slices_Clone_uint64_uint64
  rw [appI_ok (by rw [List.length_nil]; omega) (by rw [List.length_nil]; omega), List.nil_append]
theorem get_ok (a : S_slots_Slots) (i : Int) (hw : ∀ x ∈ a.all.1, x.words.length * 8 ≤ 140737488355328) : m_slots_Slots_Get a i = some (if hasS a.all.1 i = true then ((a.all.1[i.toNat]?.map (·.words)).getD [], 0, a) else ([], 15, a)) := by
  unfold m_slots_Slots_Get
  rw [has_ok]
  cases hh : hasS a.all.1 i with
  | false => simp
  | true =>
    have h2 := hh
    unfold hasS at h2
    rw [Bool.and_eq_true, Bool.and_eq_true, decide_eq_true_eq, decide_eq_true_eq] at h2
    obtain ⟨⟨h0, h1⟩, h3⟩ := h2
    obtain ⟨x, hx⟩ : ∃ x, a.all.1[i.toNat]? = some x := ⟨_, List.getElem?_eq_getElem (by rw [a.all.2]; omega)⟩
    have hg : getI a.all.1 i = some x := by unfold getI; rw [if_pos h0]; exact hx
    simp [hg, hx, clone_ok (hw x (List.mem_of_getElem? hx))]
/-- slots in range? -/
def okI (i : Int) : Bool := decide (0 ≤ i) && decide (i < 16)
def putF (a : AS) (p : Int × List Int) : AS := a.put p.1 ⟨true, p.2⟩
theorem zip_at {at_ : List Int} {l : List (List Int)} {i : Nat} {x : Int × List Int} (h : (at_.zip l)[i]? = some x) : at_[i]? = some x.1 ∧ l[i]? = some x.2 := by
  rw [List.getElem?_zip_eq_some] at h; exact h
theorem put_ok (a : S_slots_Slots) (at_ : List Int) (l : List (List Int)) (h1 : (at_.length : Int) ≤ 140737488355328) (h2 : ∀ w ∈ l, w.length * 8 ≤ 140737488355328) :
    m_slots_Slots_Put a at_ l = some (if at_.length = l.length then (if at_.all okI = true then (0, ⟨(at_.zip l).foldl putF a.all⟩) else (15, a)) else (2, a)) := by
  unfold m_slots_Slots_Put
  by_cases hl : at_.length = l.length
  · rw [show ((at_.length : Int) != (l.length : Int)) = false from by simp [hl], if_pos hl]
    rw [loop_st at_ (m_slots_Slots_Put_L0 at_) okI a.all (.inl a.all) (.inr a.all) h1 (fun i x hi hx => by
      unfold m_slots_Slots_Put_L0 m_slots_Slots_there
      rw [show decide ((i : Int) < (at_.length : Int)) = true from decide_eq_true (by omega), getI_of hx]
      by_cases q1 : 0 ≤ x <;> by_cases q2 : x < 16 <;> simp [okI, q1, q2]) (by
      unfold m_slots_Slots_Put_L0
      rw [show decide ((at_.length : Int) < (at_.length : Int)) = false from decide_eq_false (by omega)]
      rfl)]
    by_cases hk : at_.all okI = true
    · have hz : (at_.zip l).length = at_.length := by rw [List.length_zip, hl]; simp
      have := (loop_mk (at_.zip l) (fun i (s : AS) => (i, s)) putF id (fun _ _ => True) (m_slots_Slots_Put_L1 at_ l) (fun i s x hi hx _ => by
        rw [hz] at hi
        obtain ⟨e1, e2⟩ := zip_at hx
        have hx1 := List.mem_of_getElem? e1
        have hok := List.all_eq_true.1 hk _ hx1
        unfold okI at hok
        rw [Bool.and_eq_true, decide_eq_true_eq, decide_eq_true_eq] at hok
        obtain ⟨y, hy⟩ : ∃ y, s.1[x.1.toNat]? = some y := ⟨_, List.getElem?_eq_getElem (by rw [s.2]; omega)⟩
        have hg : getI s.1 x.1 = some y := by unfold getI; rw [if_pos hok.1]; exact hy
        unfold m_slots_Slots_Put_L1
        rw [show decide ((i : Int) < (at_.length : Int)) = true from decide_eq_true (by omega), w64 (by omega) (by omega)]
        simp [getI_of e1, getI_of e2, clone_ok (h2 _ (List.mem_of_getElem? e2)), hg, putF]) (fun s _ => by
        unfold m_slots_Slots_Put_L1
        rw [hz, show decide ((at_.length : Int) < (at_.length : Int)) = false from decide_eq_false (by omega)]
        rfl) a.all trivial).1
      simp only [hk, if_true, cond_false, Option.bind_some]
      rw [this]
      rfl
    · simp [hk]
  · rw [show ((at_.length : Int) != (l.length : Int)) = true from by simp only [bne_iff_ne, ne_eq]; omega, if_neg hl]
    rfl
theorem new_ok : m_slots_New = some ⟨⟨List.replicate 16 ⟨false, []⟩, rfl⟩⟩ := rfl
theorem awake35 : m_centolaw35_awake = some true := by
  unfold m_centolaw35_awake
  rw [new_ok, Option.bind_some, put_ok _ _ _ (by decide) (by decide), Option.bind_some]
  simp only [List.length_cons, List.length_nil, if_true, show List.all [(3 : Int)] okI = true from by decide]
  rw [get_ok _ _ (by decide)]
  simp only [show hasS (List.foldl putF (⟨List.replicate 16 ⟨false, []⟩, rfl⟩ : AS) (List.zip [(3 : Int)] [[(7 : Int)]])).1 3 = true from by decide, if_true, Option.bind_some]
  rw [full_ok]
  have e1 : (Option.map (fun (x : SL) => x.words) (List.foldl putF (⟨List.replicate 16 ⟨false, []⟩, rfl⟩ : AS) (List.zip [(3 : Int)] [[(7 : Int)]])).1[Int.toNat 3]?).getD [] = [7] := by rfl
  have e2 : fullO (hasS (List.foldl putF (⟨List.replicate 16 ⟨false, []⟩, rfl⟩ : AS) (List.zip [(3 : Int)] [[(7 : Int)]])).1) = [3] := by decide
  have e3 : hasS (List.foldl putF (⟨List.replicate 16 ⟨false, []⟩, rfl⟩ : AS) (List.zip [(3 : Int)] [[(7 : Int)]])).1 2 = false := by decide
  simp only [e1, e2, same01 [7] (by decide), Option.bind_some, same16 [3] (by decide), has_ok, e3]
  rfl

theorem has_n (i : Int) : m_slots_Slots_Has_n i = some false := rfl
theorem put_n (at_ : List Int) (l : List (List Int)) : m_slots_Slots_Put_n at_ l = some (if at_.length = l.length then (if at_ = [] then 0 else 15) else 2) := by
  unfold m_slots_Slots_Put_n
  by_cases hl : at_.length = l.length
  · rw [show ((at_.length : Int) != (l.length : Int)) = false from by simp [hl], if_pos hl]
    cases at_ with
    | nil =>
      rw [runLoop_end (s := (0 : Int)) (r := (.inr () : Unit ⊕ Unit)) (by rfl)]
      simp only [cond_false, Option.bind_some, if_true]
      rw [runLoop_end (s := ()) (r := ()) (by rfl)]
      rfl
    | cons x xs =>
      rw [runLoop_end (s := (0 : Int)) (r := (.inl () : Unit ⊕ Unit)) (by
        unfold m_slots_Slots_Put_n_L0
        rw [show decide ((0 : Int) < ((x :: xs).length : Int)) = true from decide_eq_true (by simp), show getI (x :: xs) 0 = some x from rfl]
        rfl)]
      simp
  · rw [show ((at_.length : Int) != (l.length : Int)) = true from by simp only [bne_iff_ne, ne_eq]; omega, if_neg hl]
    rfl
theorem full_n : m_slots_Slots_Full_n = some [] := by
  unfold m_slots_Slots_Full_n
  have := (loop_mk (List.range 16) (fun i (l : List Int) => (i, l)) (fun l _ => l) id (fun l _ => l = []) m_slots_Slots_Full_n_L0 (fun i l x hi hx hI => by
    rw [List.length_range] at hi
    subst hI
    unfold m_slots_Slots_Full_n_L0
    rw [show decide ((i : Int) < 16) = true from decide_eq_true (by omega), has_n, w64 (by omega) (by omega)]
    exact ⟨rfl, rfl⟩) (fun l hl => by subst hl; unfold m_slots_Slots_Full_n_L0; simp) [] rfl)
  rw [this.1, this.2]
  rfl
theorem slotsNone_p (d : S_centolaw35_Deed) : m_centolaw35_SlotsNone d = some true := by
  unfold m_centolaw35_SlotsNone m_slots_Slots_Get_n m_slots_Slots_Drop_n m_slots_Slots_Twin_n
  rw [has_n, put_n, full_n, awake35]
  by_cases hl : d.At.length = d.L.length
  · rw [show ((d.At.length : Int) != (d.L.length : Int)) = false from by simp [hl], if_pos hl]
    by_cases h0 : d.At = []
    · rw [if_pos h0, h0]
      simp
    · have : ¬ ((d.At.length : Int) == 0) = true := by
        intro h
        rw [beq_iff_eq] at h
        exact h0 (List.eq_nil_of_length_eq_zero (by omega))
      rw [if_neg h0, Bool.not_eq_true] at *
      simp [this]
  · rw [show ((d.At.length : Int) != (d.L.length : Int)) = true from by simp only [bne_iff_ne, ne_eq]; omega, if_neg hl]
    simp



end Go.Proofs.Ytkdanjfmobibbaa
