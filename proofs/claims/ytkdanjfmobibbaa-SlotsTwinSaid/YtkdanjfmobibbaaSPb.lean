/- Plain facts on this seat's mirrors (part SPb); each theorem bears its own conditions. -/
import Derived.Test.YtkdanjfmobibbaaSPa
import Derived.IntWalk
namespace Go.Proofs.Ytkdanjfmobibbaa
open Go.RowKit
set_option linter.unusedVariables false
set_option linter.unusedSimpArgs false
/-- both have the same -/
structure Sim (a : List SL) (L : List (List Int)) (On : List Bool) : Prop where
  on : ∀ i : Nat, i < 16 → (a[i]?.map (·.full)) = On[i]?
  wd : ∀ i : Nat, i < 16 → On[i]? = some true → (a[i]?.map (·.words)) = L[i]?
  la : a.length = 16
  lL : L.length = 16
  lO : On.length = 16
  sz : ∀ x ∈ a, x.words.length * 8 ≤ 140737488355328
theorem rhas_ok (r : S_centoref35_Slots) (i : Int) : m_centoref35_Slots_Has r i = some (decide (0 ≤ i) && decide (i < 16) && ((r.On.1[i.toNat]?).getD false), r) := by
  obtain ⟨L, a⟩ := r
  unfold m_centoref35_Slots_Has
  by_cases h1 : 0 ≤ i
  · by_cases h2 : i < 16
    · have hx : a.1[i.toNat]? = some (a.1[i.toNat]'(by rw [a.2]; omega)) := List.getElem?_eq_getElem _
      have : getI a.1 i = some (a.1[i.toNat]'(by rw [a.2]; omega)) := by unfold getI; rw [if_pos h1]; exact hx
      rw [hx]
      simp [h1, h2, this]
    · simp [h1, h2]
  · simp [h1]
def hasR (On : List Bool) (i : Int) : Bool := decide (0 ≤ i) && decide (i < 16) && ((On[i.toNat]?).getD false)
theorem Sim.has {a L On} (h : Sim a L On) (i : Int) : hasS a i = hasR On i := by
  unfold hasS hasR
  by_cases h1 : 0 ≤ i
  · by_cases h2 : i < 16
    · rw [h.on i.toNat (by omega)]
    · simp [h2]
  · simp [h1]
theorem rfull_ok (r : S_centoref35_Slots) : m_centoref35_Slots_Full r = some (fullO (hasR r.On.1), r) := by
  unfold m_centoref35_Slots_Full
  have := (loop_mk (List.range 16) (fun i (l : List Int) => (i, l)) (fun l i => if hasR r.On.1 (i : Int) = true then l ++ [(i : Int)] else l) id (fun l k => l.length ≤ k) (m_centoref35_Slots_Full_L0 r) (fun i l x hi hx hI => by
    rw [List.length_range] at hi
    have e : x = i := by rw [List.getElem?_range (by omega)] at hx; injection hx with hx; exact hx.symm
    subst e
    have hy : r.On.1[x]? = some (r.On.1[x]'(by rw [r.On.2]; omega)) := List.getElem?_eq_getElem _
    have hg := getI_of hy
    unfold m_centoref35_Slots_Full_L0
    rw [show decide ((x : Int) < 16) = true from decide_eq_true (by omega), hg]
    have hh : hasR r.On.1 (x : Int) = r.On.1[x]'(by rw [r.On.2]; omega) := by
      unfold hasR
      rw [Int.toNat_natCast, hy]
      simp; omega
    rw [hh]
    refine ⟨?_, ?_⟩
    · rw [w64 (by omega) (by omega)]
      cases r.On.1[x]'(by rw [r.On.2]; omega) with
      | true => simp [appS hI (by omega)]
      | false => simp
    · split
      · simp; omega
      · omega) (fun l hl => by unfold m_centoref35_Slots_Full_L0; simp) [] (Nat.zero_le _)).1
  rw [this]
  rfl
/-- what is put into both -/
theorem Sim.put {a L On} (h : Sim a L On) (i : Int) (w : List Int) (hi : okI i = true) (hw : w.length * 8 ≤ 140737488355328) : Sim (setI a i ⟨true, w⟩) (setI L i w) (setI On i true) := by
  unfold okI at hi
  rw [Bool.and_eq_true, decide_eq_true_eq, decide_eq_true_eq] at hi
  unfold setI
  refine ⟨fun k hk => ?_, fun k hk ho => ?_, by rw [List.length_set, h.la], by rw [List.length_set, h.lL], by rw [List.length_set, h.lO], fun x hx => ?_⟩
  · rw [List.getElem?_set, List.getElem?_set, h.la, h.lO]
    split
    · simp
    · exact h.on k hk
  · rw [List.getElem?_set, h.lO] at ho
    rw [List.getElem?_set, List.getElem?_set, h.la, h.lL]
    split
    · split <;> simp
    · rename_i e
      rw [if_neg e] at ho
      exact h.wd k hk ho
  · rcases List.mem_or_eq_of_mem_set hx with hx | hx
    · exact h.sz x hx
    · subst hx; exact hw
theorem Sim.drop {a L On} (h : Sim a L On) (i : Int) (hi : okI i = true) : Sim (setI a i ⟨false, []⟩) (setI L i []) (setI On i false) := by
  unfold okI at hi
  rw [Bool.and_eq_true, decide_eq_true_eq, decide_eq_true_eq] at hi
  unfold setI
  refine ⟨fun k hk => ?_, fun k hk ho => ?_, by rw [List.length_set, h.la], by rw [List.length_set, h.lL], by rw [List.length_set, h.lO], fun x hx => ?_⟩
  · rw [List.getElem?_set, List.getElem?_set, h.la, h.lO]
    split
    · simp
    · exact h.on k hk
  · rw [List.getElem?_set, h.lO] at ho
    rw [List.getElem?_set, List.getElem?_set, h.la, h.lL]
    split
    · split <;> simp
    · rename_i e
      rw [if_neg e] at ho
      exact h.wd k hk ho
  · rcases List.mem_or_eq_of_mem_set hx with hx | hx
    · exact h.sz x hx
    · subst hx; simp
def putR (s : Arr (List Int) 16 × Arr Bool 16) (p : Int × List Int) : Arr (List Int) 16 × Arr Bool 16 := (s.1.put p.1 p.2, s.2.put p.1 true)
theorem rput_ok (r : S_centoref35_Slots) (at_ : List Int) (l : List (List Int)) (h1 : (at_.length : Int) ≤ 140737488355328) :
    m_centoref35_Slots_Put r at_ l = some (if at_.length = l.length then (if at_.all okI = true then (0, ⟨((at_.zip l).foldl putR (r.L, r.On)).1, ((at_.zip l).foldl putR (r.L, r.On)).2⟩) else (15, r)) else (2, r)) := by
  unfold m_centoref35_Slots_Put
  by_cases hl : at_.length = l.length
  · rw [show ((at_.length : Int) != (l.length : Int)) = false from by simp [hl], if_pos hl]
    rw [loop_st0 at_ (m_centoref35_Slots_Put_L0 at_) okI (.inl ()) (.inr ()) h1 (fun i x hi hx => by
      unfold m_centoref35_Slots_Put_L0
      rw [show decide ((i : Int) < (at_.length : Int)) = true from decide_eq_true (by omega), getI_of hx]
      by_cases q1 : x < 0
      · have : ¬ 0 ≤ x := by omega
        simp [okI, q1, this]
      · have q1' : 0 ≤ x := by omega
        by_cases q2 : 15 < x
        · have : ¬ x < 16 := by omega
          simp [okI, q1, q1', q2, this]
        · have : x < 16 := by omega
          simp [okI, q1, q1', q2, this]) (by
      unfold m_centoref35_Slots_Put_L0
      rw [show decide ((at_.length : Int) < (at_.length : Int)) = false from decide_eq_false (by omega)]
      rfl)]
    by_cases hk : at_.all okI = true
    · have hz : (at_.zip l).length = at_.length := by rw [List.length_zip, hl]; simp
      have := (loop_mk (at_.zip l) (fun i (s : Arr (List Int) 16 × Arr Bool 16) => (i, s)) putR id (fun _ _ => True) (m_centoref35_Slots_Put_L1 at_ l) (fun i s x hi hx _ => by
        rw [hz] at hi
        obtain ⟨e1, e2⟩ := zip_at hx
        have hx1 := List.mem_of_getElem? e1
        have hok := List.all_eq_true.1 hk _ hx1
        unfold okI at hok
        rw [Bool.and_eq_true, decide_eq_true_eq, decide_eq_true_eq] at hok
        obtain ⟨y, hy⟩ : ∃ y, s.1.1[x.1.toNat]? = some y := ⟨_, List.getElem?_eq_getElem (by rw [s.1.2]; omega)⟩
        have hg : getI s.1.1 x.1 = some y := by unfold getI; rw [if_pos hok.1]; exact hy
        obtain ⟨y', hy'⟩ : ∃ y, s.2.1[x.1.toNat]? = some y := ⟨_, List.getElem?_eq_getElem (by rw [s.2.2]; omega)⟩
        have hg' : getI s.2.1 x.1 = some y' := by unfold getI; rw [if_pos hok.1]; exact hy'
        unfold m_centoref35_Slots_Put_L1
        rw [show decide ((i : Int) < (at_.length : Int)) = true from decide_eq_true (by omega), w64 (by omega) (by omega)]
        simp [getI_of e1, getI_of e2, hg, hg', putR]) (fun s _ => by
        unfold m_centoref35_Slots_Put_L1
        rw [hz, show decide ((at_.length : Int) < (at_.length : Int)) = false from decide_eq_false (by omega)]
        rfl) (r.L, r.On) trivial).1
      simp only [hk, if_true, cond_false, Option.bind_some]
      rw [this]
      rfl
    · simp [hk]
  · rw [show ((at_.length : Int) != (l.length : Int)) = true from by simp only [bne_iff_ne, ne_eq]; omega, if_neg hl]
    rfl
theorem Sim.puts : ∀ (xs : List (Int × List Int)) (a : AS) (s : Arr (List Int) 16 × Arr Bool 16), Sim a.1 s.1.1 s.2.1 → (∀ p ∈ xs, okI p.1 = true ∧ p.2.length * 8 ≤ 140737488355328) → Sim (xs.foldl putF a).1 (xs.foldl putR s).1.1 (xs.foldl putR s).2.1
  | [], _, _, h, _ => h
  | p :: xs, a, s, h, hp => by
    rw [List.foldl_cons, List.foldl_cons]
    exact Sim.puts xs _ _ (h.put p.1 p.2 (hp p (.head _)).1 (hp p (.head _)).2) fun q hq => hp q (.tail _ hq)
/-- a deed that has room -/
def BD35 (d : S_centolaw35_Deed) : Prop := (d.At.length : Int) ≤ 140737488355328 ∧ ∀ w ∈ d.L, w.length * 8 ≤ 140737488355328
theorem does_ok (s : S_slots_Slots) (r : S_centoref35_Slots) (d : S_centolaw35_Deed) (h : Sim s.all.1 r.L.1 r.On.1) (hd : BD35 d) :
    ∃ s' r', m_centolaw35_does s r d = some (true, s', r') ∧ Sim s'.all.1 r'.L.1 r'.On.1 := by
  unfold m_centolaw35_does
  rw [put_ok s _ _ hd.1 hd.2, rput_ok r _ _ hd.1]
  unfold m_slots_Slots_Drop m_centoref35_Slots_Drop
  rw [has_ok, rhas_ok]
  by_cases hk : (d.Kind == 0 || d.Kind == 1 || d.Kind == 2 || d.Kind == 3) = true
  · have hz : (bif d.Kind == 0 then some (d.Kind == 0) else bif d.Kind == 1 then some (d.Kind == 1) else bif d.Kind == 2 then some (d.Kind == 2) else some (d.Kind == 3)) = some true := by
      revert hk
      cases d.Kind == 0 <;> cases d.Kind == 1 <;> cases d.Kind == 2 <;> cases d.Kind == 3 <;> simp
    rw [hz]
    simp only [Option.bind_some, cond_true]
    by_cases hl : d.At.length = d.L.length
    · rw [if_pos hl, if_pos hl]
      by_cases ho : d.At.all okI = true
      · rw [if_pos ho, if_pos ho]
        refine ⟨_, _, rfl, ?_⟩
        exact Sim.puts _ s.all (r.L, r.On) h fun p hp => ⟨List.all_eq_true.1 ho _ (List.of_mem_zip hp).1, hd.2 _ (List.of_mem_zip hp).2⟩
      · rw [if_neg ho, if_neg ho]
        exact ⟨_, _, rfl, h⟩
    · rw [if_neg hl, if_neg hl]
      exact ⟨_, _, rfl, h⟩
  · have hz : (bif d.Kind == 0 then some (d.Kind == 0) else bif d.Kind == 1 then some (d.Kind == 1) else bif d.Kind == 2 then some (d.Kind == 2) else some (d.Kind == 3)) = some false := by
      revert hk
      cases d.Kind == 0 <;> cases d.Kind == 1 <;> cases d.Kind == 2 <;> cases d.Kind == 3 <;> simp
    rw [hz]
    simp only [Option.bind_some, cond_false]
    by_cases hk2 : (d.Kind == 4 || d.Kind == 5) = true
    · have hz2 : (bif d.Kind == 4 then some (d.Kind == 4) else some (d.Kind == 5)) = some true := by
        revert hk2
        cases d.Kind == 4 <;> cases d.Kind == 5 <;> simp
      rw [hz2]
      have hh := h.has d.I
      unfold hasR at hh
      rw [← hh]
      cases hs : hasS s.all.1 d.I with
      | false => exact ⟨_, _, rfl, h⟩
      | true =>
        have hi : okI d.I = true := by
          unfold hasS at hs
          unfold okI
          rw [Bool.and_eq_true] at hs
          exact hs.1
        have hi2 := hi
        unfold okI at hi2
        rw [Bool.and_eq_true, decide_eq_true_eq, decide_eq_true_eq] at hi2
        have g1 : getI s.all.1 d.I = some (s.all.1[d.I.toNat]'(by rw [s.all.2]; omega)) := by unfold getI; rw [if_pos hi2.1]; exact List.getElem?_eq_getElem _
        have g2 : getI r.L.1 d.I = some (r.L.1[d.I.toNat]'(by rw [r.L.2]; omega)) := by unfold getI; rw [if_pos hi2.1]; exact List.getElem?_eq_getElem _
        have g3 : getI r.On.1 d.I = some (r.On.1[d.I.toNat]'(by rw [r.On.2]; omega)) := by unfold getI; rw [if_pos hi2.1]; exact List.getElem?_eq_getElem _
        simp only [Option.bind_some, Bool.not_true, cond_false, cond_true, g1, g2, g3]
        exact ⟨_, _, rfl, h.drop _ hi⟩
    · have hz2 : (bif d.Kind == 4 then some (d.Kind == 4) else some (d.Kind == 5)) = some false := by
        revert hk2
        cases d.Kind == 4 <;> cases d.Kind == 5 <;> simp
      rw [hz2]
      exact ⟨_, _, rfl, h⟩
theorem same_ok35 (s : S_slots_Slots) (r : S_centoref35_Slots) (h : Sim s.all.1 r.L.1 r.On.1) : m_centolaw35_same s r = some (true, s, r) := by
  unfold m_centolaw35_same
  have hf : hasS s.all.1 = hasR r.On.1 := funext h.has
  rw [full_ok, rfull_ok, hf, Option.bind_some, Option.bind_some]
  simp only
  rw [same16 _ (by have := fullO_len (hasR r.On.1); omega), Option.bind_some]
  have := (loop_mk (List.range 18) (fun i (_ : Unit) => (i - 1, s.all, r.L, r.On)) (fun _ _ => ()) (fun _ => (.inr (s.all, r.L, r.On) : (AS × Arr (List Int) 16 × Arr Bool 16) ⊕ (AS × Arr (List Int) 16 × Arr Bool 16))) (fun _ _ => True) m_centolaw35_same_L0 (fun i _ x hi hx _ => by
    rw [List.length_range] at hi
    refine ⟨?_, trivial⟩
    unfold m_centolaw35_same_L0
    generalize hj : (i : Int) - 1 = j
    simp only
    rw [show decide (j < 17) = true from decide_eq_true (by omega), show IntKind.i64.wrap (j + 1) = ((i + 1 : Nat) : Int) - 1 from by rw [w64 (by omega) (by omega)]; omega]
    simp only [cond_true]
    rw [get_ok _ _ h.sz]
    have hh := h.has j
    cases hs : hasS s.all.1 j with
    | false =>
      rw [hs] at hh
      unfold hasR at hh
      simp only [Bool.false_eq_true, if_false, Option.bind_some, has_ok, rhas_ok, hs, ← hh]
      simp
    | true =>
      rw [hs] at hh
      have h2 := hs
      unfold hasS at h2
      rw [Bool.and_eq_true, Bool.and_eq_true, decide_eq_true_eq, decide_eq_true_eq] at h2
      obtain ⟨⟨q0, q1⟩, q2⟩ := h2
      have ho : r.On.1[j.toNat]? = some true := by
        unfold hasR at hh
        have := hh.symm
        rw [Bool.and_eq_true] at this
        have hy : r.On.1[j.toNat]? = some (r.On.1[j.toNat]'(by rw [r.On.2]; omega)) := List.getElem?_eq_getElem _
        rw [hy] at this ⊢
        simpa using this.2
      have hw := h.wd j.toNat (by omega) ho
      have hy : r.L.1[j.toNat]? = some (r.L.1[j.toNat]'(by rw [r.L.2]; omega)) := List.getElem?_eq_getElem _
      have g2 : getI r.L.1 j = some (r.L.1[j.toNat]'(by rw [r.L.2]; omega)) := by unfold getI; rw [if_pos q0]; exact hy
      obtain ⟨x1, hx1⟩ : ∃ x1, s.all.1[j.toNat]? = some x1 := ⟨_, List.getElem?_eq_getElem (by rw [s.all.2]; omega)⟩
      have hsz := h.sz x1 (List.mem_of_getElem? hx1)
      rw [hx1, hy] at hw
      simp only [Option.map_some, Option.some.injEq] at hw
      unfold hasR at hh
      simp only [if_true, Option.bind_some, has_ok, rhas_ok, hs, ← hh, hx1, Option.map_some, Option.getD_some, g2, hw]
      rw [same01 _ (by rw [← hw]; omega)]
      simp) (fun _ _ => by
    unfold m_centolaw35_same_L0
    rw [List.length_range]
    rfl) () trivial).1
  simp only [Bool.not_true, cond_false]
  rw [show ((-1 : Int), s.all, r.L, r.On) = ((0 : Int) - 1, s.all, r.L, r.On) from rfl, this]
  rfl
theorem sim0 : Sim (List.replicate 16 (⟨false, []⟩ : SL)) (List.replicate 16 []) (List.replicate 16 false) :=
  ⟨fun i hi => by rw [List.getElem?_replicate, List.getElem?_replicate, if_pos hi, if_pos hi]; rfl, fun i hi h => (by rw [List.getElem?_replicate, if_pos hi] at h; simp at h), rfl, rfl, rfl, fun x hx => (by rw [List.eq_of_mem_replicate hx]; simp)⟩
/-- what becomes of both -/
noncomputable def next35 (s : AS × Arr (List Int) 16 × Arr Bool 16) (d : S_centolaw35_Deed) : AS × Arr (List Int) 16 × Arr Bool 16 :=
  match m_centolaw35_does ⟨s.1⟩ ⟨s.2.1, s.2.2⟩ d with
  | some (_, s', r') => (s'.all, r'.L, r'.On)
  | none => s
theorem next_ok (s : AS × Arr (List Int) 16 × Arr Bool 16) (d : S_centolaw35_Deed) (h : Sim s.1.1 s.2.1.1 s.2.2.1) (hd : BD35 d) :
    ∃ s' r', m_centolaw35_does ⟨s.1⟩ ⟨s.2.1, s.2.2⟩ d = some (true, s', r') ∧ next35 s d = (s'.all, r'.L, r'.On) ∧ Sim s'.all.1 r'.L.1 r'.On.1 := by
  obtain ⟨s', r', e, h2⟩ := does_ok ⟨s.1⟩ ⟨s.2.1, s.2.2⟩ d h hd
  refine ⟨s', r', e, ?_, h2⟩
  unfold next35
  rw [e]
theorem take_at {α : Type} {xs : List α} {i : Nat} {x : α} (h : (xs.take 60)[i]? = some x) : xs[i]? = some x ∧ i < 60 ∧ i < xs.length := by
  rw [List.getElem?_take] at h
  split at h
  · exact ⟨h, by assumption, by
      rcases Nat.lt_or_ge i xs.length with q | q
      · exact q
      · rw [List.getElem?_eq_none q] at h; cases h⟩
  · cases h
theorem slotsPlay_p (l : List S_centolaw35_Deed) (hd : ∀ d ∈ l, BD35 d) : m_centolaw35_SlotsPlay l = some true := by
  unfold m_centolaw35_SlotsPlay
  rw [new_ok]
  simp only [Option.bind_some]
  have := (loop_mk (l.take 60) (fun i (s : AS × Arr (List Int) 16 × Arr Bool 16) => (i, s)) next35 (fun _ => (.inr () : Unit ⊕ Unit)) (fun s _ => Sim s.1.1 s.2.1.1 s.2.2.1) (m_centolaw35_SlotsPlay_L0 l) (fun i s x hi hx hI => by
    obtain ⟨e1, e2, e3⟩ := take_at hx
    obtain ⟨s', r', g1, g2, g3⟩ := next_ok s x hI (hd x (List.mem_of_getElem? e1))
    unfold m_centolaw35_SlotsPlay_L0
    rw [show decide ((i : Int) < (l.length : Int)) = true from decide_eq_true (by omega), show decide ((i : Int) < 60) = true from decide_eq_true (by omega), getI_of e1]
    simp only [cond_true, Option.bind_some, g1, same_ok35 s' r' g3, g2]
    rw [w64 (by omega) (by omega)]
    exact ⟨by simp, g3⟩) (fun s _ => by
    unfold m_centolaw35_SlotsPlay_L0
    rw [List.length_take]
    have : (decide (((min 60 l.length : Nat) : Int) < (l.length : Int)) && decide (((min 60 l.length : Nat) : Int) < 60)) = false := by
      rw [Bool.and_eq_false_iff, decide_eq_false_iff_not, decide_eq_false_iff_not]; omega
    revert this
    cases decide (((min 60 l.length : Nat) : Int) < (l.length : Int)) <;> cases decide (((min 60 l.length : Nat) : Int) < 60) <;> simp) (⟨List.replicate 16 ⟨false, []⟩, rfl⟩, ⟨List.replicate 16 [], rfl⟩, ⟨List.replicate 16 false, rfl⟩) sim0).1
  refine (congrArg (fun z => Option.bind z _) this).trans ?_
  simp only [Option.bind_some, awake35]
theorem twin_loop (l : List S_centolaw35_Deed) (hd : ∀ d ∈ l, BD35 d) (step : (Int × AS × Arr (List Int) 16 × Arr Bool 16) → Option ((Int × AS × Arr (List Int) 16 × Arr Bool 16) ⊕ (AS × Arr (List Int) 16 × Arr Bool 16))) (hs : step = m_centolaw35_SlotsTwin_L0 l) (s : AS × Arr (List Int) 16 × Arr Bool 16) (h : Sim s.1.1 s.2.1.1 s.2.2.1) :
    ∃ s', runLoop step (0, s) = some s' ∧ Sim s'.1.1 s'.2.1.1 s'.2.2.1 := by
  subst hs
  have := loop_mk (l.take 60) (fun i (s : AS × Arr (List Int) 16 × Arr Bool 16) => (i, s)) next35 id (fun s _ => Sim s.1.1 s.2.1.1 s.2.2.1) (m_centolaw35_SlotsTwin_L0 l) (fun i s x hi hx hI => by
    obtain ⟨e1, e2, e3⟩ := take_at hx
    obtain ⟨s', r', g1, g2, g3⟩ := next_ok s x hI (hd x (List.mem_of_getElem? e1))
    unfold m_centolaw35_SlotsTwin_L0
    rw [show decide ((i : Int) < (l.length : Int)) = true from decide_eq_true (by omega), show decide ((i : Int) < 60) = true from decide_eq_true (by omega), getI_of e1]
    simp only [cond_true, Option.bind_some, g1, g2]
    rw [w64 (by omega) (by omega)]
    exact ⟨rfl, g3⟩) (fun s _ => by
    unfold m_centolaw35_SlotsTwin_L0
    rw [List.length_take]
    have : (decide (((min 60 l.length : Nat) : Int) < (l.length : Int)) && decide (((min 60 l.length : Nat) : Int) < 60)) = false := by
      rw [Bool.and_eq_false_iff, decide_eq_false_iff_not, decide_eq_false_iff_not]; omega
    revert this
    cases decide (((min 60 l.length : Nat) : Int) < (l.length : Int)) <;> cases decide (((min 60 l.length : Nat) : Int) < 60) <;> simp) s h
  exact ⟨_, this.1, this.2⟩
theorem slotsTwin_p (l m : List S_centolaw35_Deed) (hd : ∀ d ∈ l, BD35 d) (hm : ∀ d ∈ m, BD35 d) : m_centolaw35_SlotsTwin l m = some true := by
  unfold m_centolaw35_SlotsTwin
  rw [new_ok]
  simp only [Option.bind_some]
  obtain ⟨s1, e1, h1⟩ := twin_loop l hd _ rfl (⟨List.replicate 16 ⟨false, []⟩, rfl⟩, ⟨List.replicate 16 [], rfl⟩, ⟨List.replicate 16 false, rfl⟩) sim0
  refine (congrArg (fun z => Option.bind z _) e1).trans ?_
  simp only [Option.bind_some, m_slots_Slots_Twin]
  obtain ⟨s2, e2, h2⟩ := twin_loop m hm (m_centolaw35_SlotsTwin_L1 m) rfl s1 h1
  refine (congrArg (fun z => Option.bind z _) e2).trans ?_
  simp only [Option.bind_some]
  rw [same_ok35 ⟨s1.1⟩ ⟨s1.2.1, s1.2.2⟩ h1, same_ok35 ⟨s2.1⟩ ⟨s2.2.1, s2.2.2⟩ h2, awake35]
  rfl

end Go.Proofs.Ytkdanjfmobibbaa
