/- Plain facts on this seat's mirrors (part IP3); each theorem bears its own conditions. -/
import Derived.Test.YtbcgiaijjaocdaaIP2
import Derived.IntWalk
namespace Go.Proofs.Ytbcgiaijjaocdaa
open Go.RowKit
set_option linter.unusedVariables false
set_option linter.unusedSimpArgs false
abbrev EO := S_api_Op
def n0T : Tr := ⟨0, [], []⟩
structure NW where
  out : List EO
  gone : List Tr
  come : List Tr
def eS0 : Ed := ⟨0, ⟨0, [], []⟩, ⟨0, [], []⟩, [], [], 0, []⟩
def idleE (l : Int) (e : Ed) : Bool := e.Kind == 0 || (l == 9 && (e.Kind == 2 && (e.Words.length == 0 && e.Kids.length == 0)))
def delO (g : List Tr) : List EO := if g = [] then [] else [⟨1, 0, g, eS0⟩]
def insO (g : List Tr) : List EO := if g = [] then [] else [⟨2, 0, g, eS0⟩]
def NW.flush (s : NW) : List EO := s.out ++ (delO s.gone ++ insO s.come)
def pushK (out : List EO) (n : Int) : List EO := match out.getLast? with
  | some o => if o.Kind = 0 then out.dropLast ++ [⟨0, o.N + n, o.L, o.E⟩] else out ++ [⟨0, n, [], eS0⟩]
  | none => [⟨0, n, [], eS0⟩]
def stN (l : Int) (s : NW) (p : EO × Ed) : NW :=
  if p.1.Kind = 1 then ⟨s.out, s.gone ++ p.1.L.map nrm, s.come⟩
  else if p.1.Kind = 2 then ⟨s.out, s.gone, s.come ++ p.1.L.map nrm⟩
  else if p.1.Kind = 0 then ⟨pushK s.flush p.1.N, [], []⟩
  else if idleE l p.2 = true then ⟨pushK s.flush 1, [], []⟩ else ⟨s.flush ++ [⟨3, 0, [], p.2⟩], [], []⟩
def s0N : NW := ⟨[], [], []⟩
def nOps (l : Int) (ps : List (EO × Ed)) : List EO := (ps.foldl (stN l) s0N).flush
def nE (e : Ed) : Ed :=
  if e.Kind = 1 then ⟨1, nrm e.Old, nrm e.New, [], [], 0, []⟩
  else if e.Kind = 2 then ⟨2, n0T, n0T, e.Words, e.Kids.attach.map fun k => ⟨k.1.At, nE k.1.E⟩, 0, []⟩
  else if e.Kind = 3 then ⟨3, n0T, n0T, [], [], e.List_, nOps e.List_ (e.Ops.attach.map fun o => (o.1, nE o.1.E))⟩
  else eS0
termination_by SizeOf.sizeOf e
decreasing_by
  · exact kidE_lt k.2
  · exact opE_lt o.2
def withE (l : List EO) : List (EO × Ed) := l.map fun o => (o, nE o.E)
theorem nE_eq (e : Ed) : nE e = if e.Kind = 1 then ⟨1, nrm e.Old, nrm e.New, [], [], 0, []⟩
  else if e.Kind = 2 then ⟨2, n0T, n0T, e.Words, e.Kids.map fun k => ⟨k.At, nE k.E⟩, 0, []⟩
  else if e.Kind = 3 then ⟨3, n0T, n0T, [], [], e.List_, nOps e.List_ (withE e.Ops)⟩
  else eS0 := by
  have h1 : (e.Kids.attach.map fun k => (⟨k.1.At, nE k.1.E⟩ : S_api_KidEdit)) = e.Kids.map fun k => ⟨k.At, nE k.E⟩ := List.attach_map_val (f := fun k : S_api_KidEdit => (⟨k.At, nE k.E⟩ : S_api_KidEdit))
  have h2 : (e.Ops.attach.map fun o => ((o.1, nE o.1.E) : EO × Ed)) = withE e.Ops := List.attach_map_val (f := fun o : EO => ((o, nE o.E) : EO × Ed))
  rw [nE, h1, h2]
theorem pushK_snoc (o' : List EO) (k n : Int) (L : List Tr) (E : Ed) : pushK (o' ++ [⟨0, k, L, E⟩]) n = o' ++ [⟨0, k + n, L, E⟩] := by
  unfold pushK
  simp
theorem pushK_nk {out : List EO} {n : Int} (h : ∀ o, out.getLast? = some o → o.Kind ≠ 0) : pushK out n = out ++ [⟨0, n, [], eS0⟩] := by
  unfold pushK
  cases hl : out.getLast? with
  | none => rw [List.getLast?_eq_none_iff.1 hl]; rfl
  | some o => simp only [if_neg (h o hl)]
theorem insO_nil : insO [] = [] := rfl
theorem delO_ne {g : List Tr} (h : g ≠ []) : delO g = [⟨1, 0, g, eS0⟩] := if_neg h
theorem insO_ne {g : List Tr} (h : g ≠ []) : insO g = [⟨2, 0, g, eS0⟩] := if_neg h
theorem gap_last {a b : List Tr} {o : EO} (h : (delO a ++ insO b).getLast? = some o) : o.Kind = 1 ∨ o.Kind = 2 := by
  by_cases hb : b = []
  · subst hb
    by_cases ha : a = []
    · subst ha; simp [delO, insO] at h
    · rw [delO_ne ha, insO_nil] at h; simp at h; subst h; exact .inl rfl
  · rw [insO_ne hb] at h
    simp at h
    subst h
    exact .inr rfl
theorem gap_nil {a b : List Tr} (h : delO a ++ insO b = []) : a = [] ∧ b = [] := by
  rw [List.append_eq_nil_iff] at h
  refine ⟨?_, ?_⟩
  · by_cases ha : a = []
    · exact ha
    · rw [delO_ne ha] at h; simp at h
  · by_cases hb : b = []
    · exact hb
    · rw [insO_ne hb] at h; simp at h
theorem flush_last {s : NW} {o : EO} (h : s.flush.getLast? = some o) : (o.Kind = 1 ∨ o.Kind = 2) ∨ (s.gone = [] ∧ s.come = [] ∧ s.out.getLast? = some o) := by
  unfold NW.flush at h
  by_cases hD : delO s.gone ++ insO s.come = []
  · obtain ⟨h1, h2⟩ := gap_nil hD
    rw [hD, List.append_nil] at h
    exact .inr ⟨h1, h2, h⟩
  · rw [List.getLast?_append] at h
    cases hq : (delO s.gone ++ insO s.come).getLast? with
    | none => exact absurd (List.getLast?_eq_none_iff.1 hq) hD
    | some x =>
      rw [hq] at h
      injection h with h
      subst h
      exact .inl (gap_last hq)
structure NInv (l : Int) (s : NW) : Prop where
  again : (withE s.out).foldl (stN l) s0N = ⟨s.out, [], []⟩
  last : ∀ o' o, s.out = o' ++ [o] → o.Kind = 0 → o.L = [] ∧ o.E = eS0 ∧ (∀ x, o'.getLast? = some x → x.Kind ≠ 0) ∧ ((withE o').foldl (stN l) s0N).flush = o'
  gone : s.gone.map nrm = s.gone
  come : s.come.map nrm = s.come
theorem withE_app (a b : List EO) : withE (a ++ b) = withE a ++ withE b := by simp [withE]
theorem stN_keep {l : Int} {s : NW} {n : Int} {L : List Tr} {E r : Ed} : stN l s (⟨0, n, L, E⟩, r) = ⟨pushK s.flush n, [], []⟩ := by
  unfold stN
  simp
theorem gap_again {l : Int} {s : NW} (h : NInv l s) : (withE s.flush).foldl (stN l) s0N = s := by
  unfold NW.flush
  rw [withE_app, List.foldl_append, h.again, withE_app, List.foldl_append]
  have e1 : (withE (delO s.gone)).foldl (stN l) ⟨s.out, [], []⟩ = ⟨s.out, s.gone, []⟩ := by
    by_cases hg : s.gone = []
    · rw [hg]; rfl
    · rw [delO_ne hg]; simp [withE, stN, h.gone]
  have e2 : (withE (insO s.come)).foldl (stN l) ⟨s.out, s.gone, []⟩ = ⟨s.out, s.gone, s.come⟩ := by
    by_cases hg : s.come = []
    · rw [hg]; rfl
    · rw [insO_ne hg]; simp [withE, stN, h.come]
  rw [e1, e2]
theorem snoc_inj {α : Type} {a b : List α} {x y : α} (h : a ++ [x] = b ++ [y]) : a = b ∧ x = y := by
  have := List.append_inj' h rfl
  exact ⟨this.1, by simpa using this.2⟩
theorem NInv.keep {l : Int} {s : NW} (h : NInv l s) (n : Int) : NInv l ⟨pushK s.flush n, [], []⟩ := by
  by_cases hk : ∃ o, s.flush.getLast? = some o ∧ o.Kind = 0
  · obtain ⟨o, ho, hk0⟩ := hk
    rcases flush_last ho with h12 | ⟨g1, g2, g3⟩
    · omega
    · have hfl : s.flush = s.out := by unfold NW.flush; rw [g1, g2]; simp [delO, insO]
      obtain ⟨o', ho'⟩ := List.getLast?_eq_some_iff.1 g3
      obtain ⟨a1, a2, a3, a4⟩ := h.last o' o ho' hk0
      obtain ⟨k, N, L, E⟩ := o
      simp only at hk0 a1 a2
      subst hk0 a1 a2
      rw [hfl, ho', pushK_snoc]
      have key : ∀ N' : Int, (withE (o' ++ [⟨0, N', [], eS0⟩])).foldl (stN l) s0N = ⟨o' ++ [⟨0, N', [], eS0⟩], [], []⟩ := fun N' => by
        rw [withE_app, List.foldl_append]
        show stN l _ (⟨0, N', [], eS0⟩, nE eS0) = _
        rw [stN_keep, a4, pushK_nk a3]
      refine ⟨key _, fun o1 o2 he hk2 => ?_, rfl, rfl⟩
      obtain ⟨e1, e2⟩ := snoc_inj he
      subst e1 e2
      exact ⟨rfl, rfl, a3, a4⟩
  · have hk' : ∀ o, s.flush.getLast? = some o → o.Kind ≠ 0 := fun o ho h0 => hk ⟨o, ho, h0⟩
    rw [pushK_nk hk']
    refine ⟨?_, fun o1 o2 he hk2 => ?_, rfl, rfl⟩
    · rw [withE_app, List.foldl_append, gap_again h]
      show stN l _ (⟨0, n, [], eS0⟩, nE eS0) = _
      rw [stN_keep, pushK_nk hk']
    · simp only at he
      obtain ⟨e1, e2⟩ := snoc_inj he
      subst e1 e2
      exact ⟨rfl, rfl, hk', by rw [gap_again h]⟩
theorem NInv.step {l : Int} {s : NW} (h : NInv l s) {p : EO × Ed} (hp : nE p.2 = p.2) : NInv l (stN l s p) := by
  unfold stN
  split
  · exact ⟨h.again, h.last, by simp only [List.map_append, h.gone, List.map_map]; congr 1; exact List.map_congr_left fun x _ => nrm_nrm x, h.come⟩
  · split
    · exact ⟨h.again, h.last, h.gone, by simp only [List.map_append, h.come, List.map_map]; congr 1; exact List.map_congr_left fun x _ => nrm_nrm x⟩
    · split
      · exact h.keep _
      · split
        · exact h.keep _
        · rename_i h1 h2 h0 hi
          refine ⟨?_, fun o1 o2 he hk2 => ?_, rfl, rfl⟩
          · simp only
            rw [withE_app, List.foldl_append, gap_again h]
            show stN l s (⟨3, 0, [], p.2⟩, nE p.2) = _
            rw [hp]
            unfold stN
            simp only [show ¬ (3 : Int) = 1 from by decide, show ¬ (3 : Int) = 2 from by decide, show ¬ (3 : Int) = 0 from by decide, if_false]
            rw [if_neg hi]
          · simp only at he
            obtain ⟨_, e2⟩ := snoc_inj he
            subst e2
            simp at hk2
theorem nInv_fold {l : Int} : ∀ (ps : List (EO × Ed)) (s : NW), NInv l s → (∀ p ∈ ps, nE p.2 = p.2) → NInv l (ps.foldl (stN l) s)
  | [], _, h, _ => h
  | p :: ps, s, h, hp => nInv_fold ps _ (h.step (hp p (by simp))) fun q hq => hp q (by simp [hq])
theorem nOps_again {l : Int} {ps : List (EO × Ed)} (hp : ∀ p ∈ ps, nE p.2 = p.2) : nOps l (withE (nOps l ps)) = nOps l ps := by
  have h := nInv_fold ps s0N (l := l) ⟨rfl, fun o' o he => by simp [s0N] at he, rfl, rfl⟩ hp
  unfold nOps
  rw [gap_again h]
theorem nE_nE_n : ∀ (n : Nat) (e : Ed), SizeOf.sizeOf e < n → nE (nE e) = nE e
  | 0, _, h => by omega
  | n + 1, e, h => by
    rw [nE_eq e]
    by_cases h1 : e.Kind = 1
    · rw [if_pos h1, nE_eq]
      simp [nrm_nrm]
    rw [if_neg h1]
    by_cases h2 : e.Kind = 2
    · rw [if_pos h2, nE_eq]
      simp only [show ¬ (2 : Int) = 1 from by decide, if_false, if_true, List.map_map]
      congr 1
      refine List.map_congr_left fun k hk => ?_
      simp only [Function.comp]
      rw [nE_nE_n n k.E (by have := kidE_lt hk; omega)]
    rw [if_neg h2]
    by_cases h3 : e.Kind = 3
    · rw [if_pos h3, nE_eq]
      simp only [show ¬ (3 : Int) = 1 from by decide, show ¬ (3 : Int) = 2 from by decide, if_false, if_true]
      rw [nOps_again fun p hp => ?_]
      obtain ⟨o, ho, rfl⟩ := List.mem_map.1 hp
      exact nE_nE_n n o.E (by have := opE_lt ho; omega)
    · rw [if_neg h3, nE_eq]
      simp [eS0]
theorem nE_nE (e : Ed) : nE (nE e) = nE e := nE_nE_n _ e (Nat.lt_succ_self _)
theorem loop_map {α β : Type} (xs : List α) (f : α → β) (step : Int × List β → Option ((Int × List β) ⊕ List β)) (acc : List β) (hl : (xs.length : Int) ≤ 140737488355328)
    (h1 : ∀ (i : Nat) (x : α) (out : List β), i < xs.length → xs[i]? = some x → x ∈ xs → out.length = acc.length + i → step ((i : Int), out) = some (.inl (IntKind.i64.wrap ((i : Int) + 1), out ++ [f x])))
    (h2 : ∀ out, step ((xs.length : Int), out) = some (.inr out)) : runLoop step (0, acc) = some (acc ++ xs.map f) := by
  have key : ∀ m i, i + m = xs.length → runLoop step ((i : Int), acc ++ (xs.take i).map f) = some (acc ++ xs.map f) := fun m => by
    induction m with
    | zero =>
      intro i hi
      have hi' : i = xs.length := by omega
      subst hi'
      rw [List.take_length]
      exact runLoop_end (h2 _)
    | succ m ih =>
      intro i hi
      have hx : xs[i]? = some xs[i] := List.getElem?_eq_getElem (by omega)
      have h := h1 i _ (acc ++ (xs.take i).map f) (by omega) hx (List.mem_of_getElem? hx) (by rw [List.length_append, List.length_map, List.length_take]; omega)
      rw [i64s (by omega) (by omega)] at h
      rw [runLoop_step h]
      have e : acc ++ (xs.take i).map f ++ [f xs[i]] = acc ++ (xs.take (i + 1)).map f := by
        rw [List.take_add_one, hx, List.map_append, List.append_assoc]
        rfl
      rw [e]
      exact ih (i + 1) (by omega)
  have := key xs.length 0 (by omega)
  simpa using this
theorem getI_last {α : Type} (xs : List α) (x : α) : getI (xs ++ [x]) (xs.length : Int) = some x := getI_of (by simp)
def keepO (k : Int) : List EO := if 0 < k then [⟨0, k, [], eS0⟩] else []
abbrev Wr := S_normal_writer
theorem lay_ok {w : Wr} (ho : w.out.length ≤ 500000000) : m_normal_writer_lay w = some ⟨w.out ++ keepO w.kept ++ delO w.gone ++ insO w.come, 0, [], []⟩ := by
  unfold m_normal_writer_lay
  have h1 : (cond (decide (0 < w.kept)) ((appI 240 w.out ([⟨0, 0, [], eS0⟩] : List EO)).bind fun l2 => (getI l2 (w.out.length : Int)).bind fun x3 => some (w.out ++ [(⟨0, w.kept, [], eS0⟩ : EO)])) (some w.out)) = some (w.out ++ keepO w.kept) := by
    unfold keepO
    by_cases h : 0 < w.kept
    · rw [decide_eq_true h, cond_true, appI_ok (by simp only [List.length_singleton]; omega) (by simp only [List.length_singleton]; omega), Option.bind_some, getI_last, Option.bind_some, if_pos h]
    · rw [decide_eq_false h, cond_false, if_neg h, List.append_nil]
  have h2 : ∀ z1 : List EO, z1.length ≤ w.out.length + 1 → (cond (decide (0 < (w.gone.length : Int))) ((appI 240 z1 ([⟨0, 0, [], eS0⟩] : List EO)).bind fun l9 => (getI l9 (z1.length : Int)).bind fun x10 => some ((z1 ++ [(⟨1, 0, w.gone, eS0⟩ : EO)]), w.gone)) (some (z1, w.gone))) = some (z1 ++ delO w.gone, w.gone) := fun z1 hz => by
    by_cases h : w.gone = []
    · rw [h]; simp [delO]
    · have : decide (0 < (w.gone.length : Int)) = true := by rw [decide_eq_true_eq]; have := List.length_pos_iff.2 h; omega
      rw [this, cond_true, appI_ok (by simp only [List.length_singleton]; omega) (by simp only [List.length_singleton]; omega), Option.bind_some, getI_last, Option.bind_some, delO_ne h]
  have h3 : ∀ z1 : List EO, z1.length ≤ w.out.length + 2 → (cond (decide (0 < (w.come.length : Int))) ((appI 240 z1 ([⟨0, 0, [], eS0⟩] : List EO)).bind fun l16 => (getI l16 (z1.length : Int)).bind fun x17 => some ((z1 ++ [(⟨2, 0, w.come, eS0⟩ : EO)]), w.come)) (some (z1, w.come))) = some (z1 ++ insO w.come, w.come) := fun z1 hz => by
    by_cases h : w.come = []
    · rw [h]; simp [insO]
    · have : decide (0 < (w.come.length : Int)) = true := by rw [decide_eq_true_eq]; have := List.length_pos_iff.2 h; omega
      rw [this, cond_true, appI_ok (by simp only [List.length_singleton]; omega) (by simp only [List.length_singleton]; omega), Option.bind_some, getI_last, Option.bind_some, insO_ne h]
  have l1 : (w.out ++ keepO w.kept).length ≤ w.out.length + 1 := by
    unfold keepO; split <;> simp
  have l2 : (w.out ++ keepO w.kept ++ delO w.gone).length ≤ w.out.length + 2 := by
    have : (delO w.gone).length ≤ 1 := by unfold delO; split <;> simp
    rw [List.length_append]; omega
  refine Option.bind_eq_some_iff.2 ⟨_, h1, ?_⟩
  refine Option.bind_eq_some_iff.2 ⟨_, h2 _ l1, ?_⟩
  refine Option.bind_eq_some_iff.2 ⟨_, h3 _ l2, rfl⟩
def thN (o : EO) : Nat := if o.Kind = 0 then o.N.toNat else if o.Kind = 3 then 1 else o.L.length
def opk (o : EO) : Prop := (o.Kind = 0 ∧ 1 ≤ o.N) ∨ (o.Kind = 1 ∧ o.L ≠ []) ∨ (o.Kind = 2 ∧ o.L ≠ []) ∨ o.Kind = 3
structure WS (w : Wr) (s : NW) (i S : Nat) : Prop where
  nn : 0 ≤ w.kept
  zero : w.kept = 0 → s = ⟨w.out, w.gone, w.come⟩
  pos : 0 < w.kept → w.gone = [] ∧ w.come = [] ∧ s = ⟨w.out ++ [⟨0, w.kept, [], eS0⟩], [], []⟩
  last : (w.kept = 0 → w.gone = [] ∧ w.come = []) → ∀ o, w.out.getLast? = some o → o.Kind ≠ 0
  len : w.out.length ≤ 3 * i
  sum : w.gone.length + w.come.length + w.kept.toNat ≤ S
theorem WS.flush {w : Wr} {s : NW} {i S : Nat} (h : WS w s i S) : w.out ++ keepO w.kept ++ delO w.gone ++ insO w.come = s.flush := by
  by_cases hk : w.kept = 0
  · rw [h.zero hk]
    unfold NW.flush keepO
    rw [if_neg (by omega), List.append_nil, List.append_assoc]
  · have hp : 0 < w.kept := by have := h.nn; omega
    obtain ⟨h1, h2, h3⟩ := h.pos hp
    rw [h3, h1, h2]
    unfold NW.flush keepO
    rw [if_pos hp]
    simp [delO, insO]
theorem WS.nk {w : Wr} {s : NW} {i S : Nat} (h : WS w s i S) (hk : w.kept = 0) : ∀ o, s.flush.getLast? = some o → o.Kind ≠ 0 := fun o ho => by
  rcases flush_last ho with h12 | ⟨g1, g2, g3⟩
  · omega
  · have := h.zero hk
    rw [this] at g1 g2 g3
    exact h.last (fun _ => ⟨g1, g2⟩) o g3
theorem WS.lay {w : Wr} {s : NW} {i S : Nat} (h : WS w s i S) (hi : i ≤ 1048576) : m_normal_writer_lay w = some ⟨s.flush, 0, [], []⟩ := by
  rw [lay_ok (by have := h.len; omega), h.flush]
theorem WS.flen {w : Wr} {s : NW} {i S : Nat} (h : WS w s i S) : s.flush.length ≤ 3 * i + 2 := by
  by_cases hk : w.kept = 0
  · rw [h.zero hk]
    have := h.len
    have d1 : (delO w.gone).length ≤ 1 := by unfold delO; split <;> simp
    have d2 : (insO w.come).length ≤ 1 := by unfold insO; split <;> simp
    unfold NW.flush
    simp only [List.length_append]
    omega
  · have hp : 0 < w.kept := by have := h.nn; omega
    obtain ⟨_, _, h3⟩ := h.pos hp
    rw [h3]
    have := h.len
    unfold NW.flush
    simp [delO, insO]
    omega
theorem wr_eta (w : Wr) : (⟨w.out, w.kept, w.gone, w.come⟩ : Wr) = w := rfl
theorem keep_ok {w : Wr} {s : NW} {i S : Nat} (h : WS w s i S) (hi : i ≤ 1048576) (hS : S ≤ 1073741824) {n : Int} (h1 : 1 ≤ n) (hn : n ≤ 1073741824) : ∃ w', m_normal_writer_keep w n = some w' ∧ WS w' ⟨pushK s.flush n, [], []⟩ (i + 1) (S + n.toNat) := by
  unfold m_normal_writer_keep
  by_cases hk : w.kept = 0
  · have e : (w.kept == 0) = true := by rw [hk]; rfl
    have hw : IntKind.i64.wrap (0 + n) = n := by rw [i64s (by omega) (by omega)]; omega
    rw [e, cond_true, wr_eta, h.lay hi]
    simp only [Option.bind_some, hw]
    refine ⟨_, rfl, by simp only; omega, fun h0 => by simp only at h0; omega, fun _ => ⟨rfl, rfl, ?_⟩, fun _ => h.nk hk, by simp only; have := h.flen; omega, by simp⟩
    rw [pushK_nk (h.nk hk)]
  · have hp : 0 < w.kept := by have := h.nn; omega
    have e : (w.kept == 0) = false := by rw [beq_eq_false_iff_ne]; exact hk
    obtain ⟨g1, g2, g3⟩ := h.pos hp
    have hs := h.sum
    have hw : IntKind.i64.wrap (w.kept + n) = w.kept + n := by rw [i64s (by omega) (by omega)]
    rw [e, cond_false]
    simp only [Option.bind_some, hw]
    refine ⟨_, rfl, by simp only; omega, fun h0 => by simp only at h0; omega, fun _ => ⟨g1, g2, ?_⟩, fun _ => h.last (fun h0 => by omega), by simp only; have := h.len; omega, by simp only; omega⟩
    have hf : s.flush = w.out ++ [⟨0, w.kept, [], eS0⟩] := by rw [g3]; unfold NW.flush; simp [delO, insO]
    rw [hf, pushK_snoc]
theorem idle_ok {l : Int} {e : Ed} (hb : BE e) : m_normal_Idle l e = some (idleE l e) := by
  unfold m_normal_Idle idleE
  have hw := hb.w
  have hk := hb.k
  have e1 : (IntKind.i64.wrap ((e.Words.length : Int) + (e.Kids.length : Int)) == 0) = (e.Words.length == 0 && e.Kids.length == 0) := by
    rw [i64s (by omega) (by omega), Bool.eq_iff_iff, Bool.and_eq_true, beq_iff_eq, beq_iff_eq, beq_iff_eq]
    omega
  rw [e1]
  cases e.Kind == 0 <;> cases l == 9 <;> cases e.Kind == 2 <;> cases (e.Words.length == 0 && e.Kids.length == 0) <;> rfl
theorem descend_ok {w : Wr} {s : NW} {i S : Nat} (h : WS w s i S) (hi : i ≤ 1048576) (hS : S ≤ 1073741824) {l : Int} {e : Ed} (hb : BE e) :
    ∃ w', m_normal_writer_descend w l e = some w' ∧ WS w' (if idleE l e = true then ⟨pushK s.flush 1, [], []⟩ else ⟨s.flush ++ [⟨3, 0, [], e⟩], [], []⟩) (i + 1) (S + 1) := by
  unfold m_normal_writer_descend
  rw [idle_ok hb, Option.bind_some]
  cases hid : idleE l e with
  | true =>
    obtain ⟨w', h1, h2⟩ := keep_ok h hi hS (n := 1) (by omega) (by omega)
    rw [cond_true, wr_eta, h1]
    exact ⟨w', rfl, h2⟩
  | false =>
    have hf := h.flen
    rw [cond_false, wr_eta, h.lay hi, Option.bind_some, appI_ok (by simp only [List.length_singleton]; omega) (by simp only [List.length_singleton]; omega), Option.bind_some, getI_last, Option.bind_some]
    refine ⟨_, rfl, Int.le_refl _, fun _ => rfl, fun h0 => by simp at h0, fun _ o ho => ?_, by simp; omega, by simp⟩
    simp only [List.getLast?_concat, Option.some.injEq] at ho
    subst ho
    simp
theorem norms_loop (step : Int × List Tr → Option ((Int × List Tr) ⊕ List Tr)) (L acc : List Tr) (hL : ∀ t ∈ L, Bd t) (hl : (acc.length + L.length) * 56 ≤ 140737488355328)
    (h1 : ∀ (i : Nat) (x : Tr) (out : List Tr), i < L.length → L[i]? = some x → step ((i : Int), out) = ((m_tree_Norm x).bind fun y6 => (appI 56 out ([(⟨0, [], []⟩ : Tr)])).bind fun l7 => (getI l7 (out.length : Int)).bind fun x8 => some (.inl ((IntKind.i64.wrap ((i : Int) + 1)), (out ++ [y6])))))
    (h2 : ∀ out, step ((L.length : Int), out) = some (.inr out)) : runLoop step (0, acc) = some (acc ++ L.map nrm) :=
  loop_map L nrm step acc (by omega) (fun i x out hi hx hm ho => by
    rw [h1 i x out hi hx, norm_ok (hL x hm), Option.bind_some, appI_ok (by simp only [List.length_singleton]; omega) (by simp only [List.length_singleton]; omega), Option.bind_some, getI_last, Option.bind_some]) h2
theorem map_ne {α β : Type} {f : α → β} {l : List α} (h : l ≠ []) : l.map f ≠ [] := by simpa using h
theorem wait2_ok {w : Wr} {s : NW} {i S : Nat} (h : WS w s i S) (hi : i ≤ 1048576) {L : List Tr} (hS : S + L.length ≤ 1073741824) (hne : L ≠ []) (hL : ∀ t ∈ L, Bd t) :
    ∃ w', m_normal_writer_wait_w02 w L = some w' ∧ WS w' ⟨s.out, s.gone ++ L.map nrm, s.come⟩ (i + 1) (S + L.length) := by
  have hs := h.sum
  have hloop : ∀ acc : List Tr, acc.length ≤ S → runLoop (m_normal_writer_wait_w02_L0 L) (0, acc) = some (acc ++ L.map nrm) := fun acc ha =>
    norms_loop _ L acc hL (by omega) (fun i x out hi hx => by unfold m_normal_writer_wait_w02_L0; rw [lt_t hi, cond_true, getI_of hx, Option.bind_some]) (fun out => by unfold m_normal_writer_wait_w02_L0; rw [lt_f, cond_false])
  unfold m_normal_writer_wait_w02
  by_cases hk : w.kept = 0
  · rw [decide_eq_false (by omega), cond_false, Option.bind_some]
    simp only
    rw [hloop w.gone (by omega), Option.bind_some]
    refine ⟨_, rfl, by simp only; omega, fun _ => ?_, fun h0 => by simp only at h0; omega, fun hg => ?_, by simp only; have := h.len; omega, by simp only [List.length_append, List.length_map]; omega⟩
    · rw [h.zero hk]
    · have := (hg hk).1
      simp only at this
      exact absurd (List.append_eq_nil_iff.1 this).2 (map_ne hne)
  · have hp : 0 < w.kept := by have := h.nn; omega
    obtain ⟨g1, g2, g3⟩ := h.pos hp
    have hf : s.flush = s.out := by rw [g3]; unfold NW.flush; simp [delO, insO]
    rw [decide_eq_true hp, cond_true, wr_eta, h.lay hi]
    simp only [Option.bind_some]
    rw [hloop [] (by simp), Option.bind_some]
    refine ⟨_, rfl, Int.le_refl _, fun _ => ?_, fun h0 => by simp at h0, fun hg => ?_, by simp only; have := h.flen; omega, by simp⟩
    · rw [hf, g3]
    · have := (hg rfl).1
      simp only at this
      exact absurd (List.append_eq_nil_iff.1 this).2 (map_ne hne)
theorem wait3_ok {w : Wr} {s : NW} {i S : Nat} (h : WS w s i S) (hi : i ≤ 1048576) {L : List Tr} (hS : S + L.length ≤ 1073741824) (hne : L ≠ []) (hL : ∀ t ∈ L, Bd t) :
    ∃ w', m_normal_writer_wait_w03 w L = some w' ∧ WS w' ⟨s.out, s.gone, s.come ++ L.map nrm⟩ (i + 1) (S + L.length) := by
  have hs := h.sum
  have hloop : ∀ acc : List Tr, acc.length ≤ S → runLoop (m_normal_writer_wait_w03_L0 L) (0, acc) = some (acc ++ L.map nrm) := fun acc ha =>
    norms_loop _ L acc hL (by omega) (fun i x out hi hx => by unfold m_normal_writer_wait_w03_L0; rw [lt_t hi, cond_true, getI_of hx, Option.bind_some]) (fun out => by unfold m_normal_writer_wait_w03_L0; rw [lt_f, cond_false])
  unfold m_normal_writer_wait_w03
  by_cases hk : w.kept = 0
  · rw [decide_eq_false (by omega), cond_false, Option.bind_some]
    simp only
    rw [hloop w.come (by omega), Option.bind_some]
    refine ⟨_, rfl, by simp only; omega, fun _ => ?_, fun h0 => by simp only at h0; omega, fun hg => ?_, by simp only; have := h.len; omega, by simp only [List.length_append, List.length_map]; omega⟩
    · rw [h.zero hk]
    · have := (hg hk).2
      simp only at this
      exact absurd (List.append_eq_nil_iff.1 this).2 (map_ne hne)
  · have hp : 0 < w.kept := by have := h.nn; omega
    obtain ⟨g1, g2, g3⟩ := h.pos hp
    have hf : s.flush = s.out := by rw [g3]; unfold NW.flush; simp [delO, insO]
    rw [decide_eq_true hp, cond_true, wr_eta, h.lay hi]
    simp only [Option.bind_some]
    rw [hloop [] (by simp), Option.bind_some]
    refine ⟨_, rfl, Int.le_refl _, fun _ => ?_, fun h0 => by simp at h0, fun hg => ?_, by simp only; have := h.flen; omega, by simp⟩
    · rw [hf, g3]
    · have := (hg rfl).2
      simp only at this
      exact absurd (List.append_eq_nil_iff.1 this).2 (map_ne hne)
def sumT (l : List EO) : Nat := (l.map thN).sum
theorem ops_loop {rE' : Ed → Option Ed} {l : Int} {os : List EO} (hlen : os.length ≤ 1048576) (hsum : sumT os ≤ 1073741824) (hok : ∀ o ∈ os, opk o) (hL : ∀ o ∈ os, ∀ t ∈ o.L, Bd t)
    (hE : ∀ o ∈ os, o.Kind = 3 → rE' o.E = some (nE o.E) ∧ BE (nE o.E)) :
    ∃ w', runLoop (b_normal_Ops_L0 rE' l os) (0, 0, [], [], []) = some (w'.kept, w'.out, w'.gone, w'.come) ∧ WS w' ((withE os).foldl (stN l) s0N) os.length (sumT os) := by
  have key : ∀ (ys : List EO) (i : Nat) (w : Wr) (s : NW) (S : Nat), os.drop i = ys → i ≤ os.length → S + sumT ys ≤ 1073741824 → WS w s i S →
      ∃ w', runLoop (b_normal_Ops_L0 rE' l os) ((i : Int), w.kept, w.out, w.gone, w.come) = some (w'.kept, w'.out, w'.gone, w'.come) ∧ WS w' ((withE ys).foldl (stN l) s) os.length (S + sumT ys) := fun ys => by
    induction ys with
    | nil =>
      intro i w s S hd hi hS hw
      have hil : i = os.length := by
        have := List.drop_eq_nil_iff.1 hd
        omega
      subst hil
      exact ⟨w, runLoop_end (by unfold b_normal_Ops_L0; simp only; rw [lt_f, cond_false]), hw⟩
    | cons x ys ih =>
      intro i w s S hd hi hS hw
      have hil : i < os.length := by
        rcases Nat.lt_or_ge i os.length with h | h
        · exact h
        · rw [List.drop_eq_nil_of_le h] at hd; cases hd
      have hx : os[i]? = some x := by
        rw [List.drop_eq_getElem_cons hil] at hd
        injection hd with h1 _
        rw [List.getElem?_eq_getElem hil, h1]
      have hd' : os.drop (i + 1) = ys := by
        rw [List.drop_eq_getElem_cons hil] at hd
        injection hd
      have hm := List.mem_of_getElem? hx
      have hsx : sumT (x :: ys) = thN x + sumT ys := by unfold sumT; simp
      rw [hsx] at hS ⊢
      have main : ∃ w', (b_normal_Ops_L0 rE' l os) ((i : Int), w.kept, w.out, w.gone, w.come) = some (.inl (((i + 1 : Nat) : Int), w'.kept, w'.out, w'.gone, w'.come)) ∧ WS w' (stN l s (x, nE x.E)) (i + 1) (S + thN x) := by
        unfold b_normal_Ops_L0
        simp only
        rw [lt_t hil, cond_true, getI_of hx, Option.bind_some, i64s (by omega) (by omega)]
        rcases hok x hm with ⟨k, hn⟩ | ⟨k, hn⟩ | ⟨k, hn⟩ | k
        · have e0 : (x.Kind == 0) = true := by rw [k]; rfl
          have ht : thN x = x.N.toNat := by unfold thN; rw [if_pos k]
          have hst : stN l s (x, nE x.E) = ⟨pushK s.flush x.N, [], []⟩ := by
            unfold stN
            simp only [k, show ¬ (0 : Int) = 1 from by decide, show ¬ (0 : Int) = 2 from by decide, if_false, if_true]
          rw [ht] at hS
          obtain ⟨w', h1, h2⟩ := keep_ok hw (by omega) (by omega) hn (by omega)
          rw [e0, cond_true, wr_eta, h1, ht, hst]
          exact ⟨w', rfl, h2⟩
        · have e0 : (x.Kind == 0) = false := by rw [k]; rfl
          have e1 : (x.Kind == 1) = true := by rw [k]; rfl
          have ht : thN x = x.L.length := by unfold thN; rw [if_neg (by omega), if_neg (by omega)]
          have hst : stN l s (x, nE x.E) = ⟨s.out, s.gone ++ x.L.map nrm, s.come⟩ := by
            unfold stN
            simp only [k, if_true]
          rw [ht] at hS
          obtain ⟨w', h1, h2⟩ := wait2_ok hw (by omega) (by omega) hn (hL x hm)
          rw [e0, e1, cond_false, cond_true, wr_eta, h1, ht, hst]
          exact ⟨w', rfl, h2⟩
        · have e0 : (x.Kind == 0) = false := by rw [k]; rfl
          have e1 : (x.Kind == 1) = false := by rw [k]; rfl
          have e2 : (x.Kind == 2) = true := by rw [k]; rfl
          have ht : thN x = x.L.length := by unfold thN; rw [if_neg (by omega), if_neg (by omega)]
          have hst : stN l s (x, nE x.E) = ⟨s.out, s.gone, s.come ++ x.L.map nrm⟩ := by
            unfold stN
            simp only [k, show ¬ (2 : Int) = 1 from by decide, if_false, if_true]
          rw [ht] at hS
          obtain ⟨w', h1, h2⟩ := wait3_ok hw (by omega) (by omega) hn (hL x hm)
          rw [e0, e1, e2, cond_false, cond_false, cond_true, wr_eta, h1, ht, hst]
          exact ⟨w', rfl, h2⟩
        · have e0 : (x.Kind == 0) = false := by rw [k]; rfl
          have e1 : (x.Kind == 1) = false := by rw [k]; rfl
          have e2 : (x.Kind == 2) = false := by rw [k]; rfl
          have e3 : (x.Kind == 3) = true := by rw [k]; rfl
          have ht : thN x = 1 := by unfold thN; rw [if_neg (by omega), if_pos k]
          have hst : stN l s (x, nE x.E) = if idleE l (nE x.E) = true then ⟨pushK s.flush 1, [], []⟩ else ⟨s.flush ++ [⟨3, 0, [], nE x.E⟩], [], []⟩ := by
            unfold stN
            simp only [k, show ¬ (3 : Int) = 1 from by decide, show ¬ (3 : Int) = 2 from by decide, show ¬ (3 : Int) = 0 from by decide, if_false]
          obtain ⟨r1, r2⟩ := hE x hm k
          rw [ht] at hS
          obtain ⟨w', h1, h2⟩ := descend_ok hw (by omega) (by omega) (l := l) r2
          rw [e0, e1, e2, e3, cond_false, cond_false, cond_false, cond_true, r1, Option.bind_some, wr_eta, h1, ht, hst]
          exact ⟨w', rfl, h2⟩
      obtain ⟨w1, h1, h2⟩ := main
      rw [runLoop_step h1]
      obtain ⟨w', h3, h4⟩ := ih (i + 1) w1 _ (S + thN x) hd' (by omega) (by omega) h2
      exact ⟨w', h3, by rw [← Nat.add_assoc]; exact h4⟩
  have := key os 0 ⟨[], 0, [], []⟩ s0N 0 (by simp) (by omega) (by omega) ⟨Int.le_refl _, fun _ => rfl, fun h => by simp at h, fun _ o ho => by simp at ho, by simp, by simp⟩
  simpa using this
theorem nOps_ok {rE' : Ed → Option Ed} {rO' : Int → List EO → Option (List EO)} {l : Int} {os : List EO} (hlen : os.length ≤ 1048576) (hsum : sumT os ≤ 1073741824) (hok : ∀ o ∈ os, opk o) (hL : ∀ o ∈ os, ∀ t ∈ o.L, Bd t)
    (hE : ∀ o ∈ os, o.Kind = 3 → rE' o.E = some (nE o.E) ∧ BE (nE o.E)) : b_normal_Ops rE' rO' l os = some (nOps l (withE os)) := by
  obtain ⟨w', h1, h2⟩ := ops_loop (l := l) hlen hsum hok hL hE
  unfold b_normal_Ops
  rw [h1, Option.bind_some]
  simp only
  rw [wr_eta, h2.lay hlen]
  rfl
theorem drop_at {α : Type} {l : List α} {i : Nat} (h : i < l.length) : ∃ x, l[i]? = some x ∧ l.drop i = x :: l.drop (i + 1) := ⟨l[i], List.getElem?_eq_getElem h, List.drop_eq_getElem_cons h⟩
theorem rnorms_ok {L : List Tr} (hL : ∀ t ∈ L, Bd t) (hl : L.length * 56 ≤ 140737488355328) : m_centoref22_norms L = some (L.map nrm) := by
  unfold m_centoref22_norms
  rw [loop_map L nrm _ [] (by omega) (fun i x out hi hx hm ho => by
    unfold m_centoref22_norms_L0
    simp only
    rw [lt_t hi, cond_true, getI_of hx, Option.bind_some, rnorm_ok (hL x hm), Option.bind_some, appI_ok (by simp at ho ⊢; omega) (by simp at ho ⊢; omega), Option.bind_some]) (fun out => by
    unfold m_centoref22_norms_L0
    simp only
    rw [lt_f, cond_false])]
  rfl
def isGap (o : EO) : Bool := o.Kind == 1 || o.Kind == 2
def gapN : List EO → Nat
  | [] => 0
  | o :: os => if isGap o = true then gapN os + 1 else 0
def gapL (kd : Int) : List EO → List Tr
  | [] => []
  | o :: os => if isGap o = true then (if o.Kind = kd then o.L.map nrm else []) ++ gapL kd os else []
theorem gapN_le : ∀ os : List EO, gapN os ≤ os.length
  | [] => Nat.le_refl _
  | o :: os => by
    have := gapN_le os
    unfold gapN
    split <;> simp <;> omega
theorem gapL_len (kd : Int) : ∀ os : List EO, (gapL kd os).length ≤ sumT os
  | [] => Nat.zero_le _
  | o :: os => by
    have ih := gapL_len kd os
    have hs : sumT (o :: os) = thN o + sumT os := by unfold sumT; simp
    unfold gapL
    by_cases hg : isGap o = true
    · rw [if_pos hg, hs, List.length_append]
      refine Nat.add_le_add ?_ ih
      unfold isGap at hg
      rw [Bool.or_eq_true, beq_iff_eq, beq_iff_eq] at hg
      unfold thN
      rw [if_neg (by omega : ¬ o.Kind = 0), if_neg (by omega : ¬ o.Kind = 3)]
      split <;> simp
    · rw [if_neg hg]; simp
theorem gap_ok {a : List EO} {kd : Int} {i : Nat} (hi : i ≤ a.length) (hlen : a.length ≤ 1048576) (hsum : sumT a ≤ 1073741824) (hL : ∀ o ∈ a, ∀ t ∈ o.L, Bd t) (hLl : ∀ o ∈ a, o.L.length * 56 ≤ 140737488355328) :
    m_centoref22_gap a (i : Int) kd = some (gapL kd (a.drop i), ((i + gapN (a.drop i) : Nat) : Int)) := by
  have key : ∀ (ys : List EO) (i : Nat) (acc : List Tr), a.drop i = ys → i ≤ a.length → acc.length + sumT ys ≤ 1073741824 →
      runLoop (m_centoref22_gap_L0 a kd) ((i : Int), acc) = some (((i + gapN ys : Nat) : Int), acc ++ gapL kd ys) := fun ys => by
    induction ys with
    | nil =>
      intro i acc hd hi _
      have hil : i = a.length := by have := List.drop_eq_nil_iff.1 hd; omega
      subst hil
      refine runLoop_end ?_
      unfold m_centoref22_gap_L0
      simp only
      rw [lt_f, cond_false, Option.bind_some, cond_false]
      simp [gapN, gapL]
    | cons x ys ih =>
      intro i acc hd hi hS
      have hil : i < a.length := by
        rcases Nat.lt_or_ge i a.length with h | h
        · exact h
        · rw [List.drop_eq_nil_of_le h] at hd; cases hd
      have hx : a[i]? = some x := by
        rw [List.drop_eq_getElem_cons hil] at hd
        injection hd with h1 _
        rw [List.getElem?_eq_getElem hil, h1]
      have hd' : a.drop (i + 1) = ys := by
        rw [List.drop_eq_getElem_cons hil] at hd
        injection hd
      have hm := List.mem_of_getElem? hx
      have hsx : sumT (x :: ys) = thN x + sumT ys := by unfold sumT; simp
      rw [hsx] at hS
      have hz : (cond (decide ((i : Int) < (a.length : Int))) ((getI a (i : Int)).bind fun x10 => cond (x10.Kind == 1) (some (cond (decide ((i : Int) < (a.length : Int))) true false)) (some (cond (decide ((i : Int) < (a.length : Int))) (cond (x10.Kind == 1) true (x10.Kind == 2)) false))) (some false)) = some (isGap x) := by
        rw [lt_t hil, cond_true, getI_of hx, Option.bind_some]
        unfold isGap
        cases x.Kind == 1 <;> cases x.Kind == 2 <;> rfl
      by_cases hg : isGap x = true
      · have hth : thN x = x.L.length := by
          unfold isGap at hg
          rw [Bool.or_eq_true, beq_iff_eq, beq_iff_eq] at hg
          unfold thN
          rw [if_neg (by omega), if_neg (by omega)]
        have hst : m_centoref22_gap_L0 a kd ((i : Int), acc) = some (.inl (((i + 1 : Nat) : Int), acc ++ (if x.Kind = kd then x.L.map nrm else []))) := by
          unfold m_centoref22_gap_L0
          simp only
          rw [hz, Option.bind_some, hg, cond_true, getI_of hx, Option.bind_some, Option.bind_some, rnorms_ok (hL x hm) (hLl x hm), Option.bind_some, i64s (by omega) (by omega)]
          rw [appI_ok (by simp; omega) (by simp; omega)]
          by_cases hk : x.Kind = kd
          · rw [if_pos hk, hk]; simp
          · rw [if_neg hk, beq_eq_false_iff_ne.2 hk]; simp
        rw [runLoop_step hst]
        rw [ih (i + 1) _ hd' (by omega) (by
          rw [List.length_append]
          have : (if x.Kind = kd then x.L.map nrm else ([] : List Tr)).length ≤ x.L.length := by split <;> simp
          omega)]
        simp only [gapN, gapL, if_pos hg, List.append_assoc]
        congr 2
        omega
      · have hst : m_centoref22_gap_L0 a kd ((i : Int), acc) = some (.inr ((i : Int), acc)) := by
          unfold m_centoref22_gap_L0
          simp only
          have : isGap x = false := by simpa using hg
          rw [hz, Option.bind_some, this, cond_false]
        rw [runLoop_end hst]
        simp [gapN, gapL, hg]
  unfold m_centoref22_gap
  rw [key _ i [] rfl hi (by
    have : sumT (a.drop i) ≤ sumT a := by
      conv => rhs; rw [← List.take_append_drop i a]
      unfold sumT
      rw [List.map_append, List.sum_append]
      omega
    simp; omega), Option.bind_some]
  simp
theorem fold_gap (l : Int) : ∀ (ys : List EO) (s : NW), (withE ys).foldl (stN l) s = (withE (ys.drop (gapN ys))).foldl (stN l) ⟨s.out, s.gone ++ gapL 1 ys, s.come ++ gapL 2 ys⟩
  | [], s => by simp [gapN, gapL]
  | o :: os, s => by
    by_cases hg : isGap o = true
    · have hg' := hg
      unfold isGap at hg'
      rw [Bool.or_eq_true, beq_iff_eq, beq_iff_eq] at hg'
      simp only [gapN, gapL, if_pos hg, List.drop_succ_cons]
      show (withE os).foldl (stN l) (stN l s (o, nE o.E)) = _
      rw [fold_gap l os]
      unfold stN
      rcases hg' with h | h
      · simp [h]
      · simp [h]
    · simp [gapN, gapL, hg]
theorem gapN_at : ∀ {ys : List EO} {o : EO}, (ys.drop (gapN ys))[0]? = some o → isGap o = false
  | [], o, h => by simp [gapN] at h
  | x :: ys, o, h => by
    by_cases hg : isGap x = true
    · simp only [gapN, if_pos hg, List.drop_succ_cons] at h
      exact gapN_at h
    · simp only [gapN, if_neg hg, List.drop_zero, List.getElem?_cons_zero, Option.some.injEq] at h
      subst h
      simpa using hg
theorem ridle_ok (l : Int) (e : Ed) : m_centoref22_idle l e = some (idleE l e) := by
  unfold m_centoref22_idle idleE
  rw [len0, len0]
  cases e.Kind == 0 <;> cases l == 9 <;> cases e.Kind == 2 <;> cases e.Words.length == 0 <;> cases e.Kids.length == 0 <;> rfl
theorem ed_eta (e : Ed) : (⟨e.Kind, ⟨e.Old.Kind, e.Old.Words, e.Old.Kids⟩, ⟨e.New.Kind, e.New.Words, e.New.Kids⟩, e.Words, e.Kids, e.List_, e.Ops⟩ : Ed) = e := by
  obtain ⟨k, ⟨a, b, c⟩, ⟨d, f, g⟩, w, ks, li, os⟩ := e
  rfl
theorem push_ok {out : List EO} {n tt : Int} (hlen : (out.length + 1) * 240 ≤ 140737488355328) (hn : 0 ≤ n ∧ n ≤ 1073741824) (hN : ∀ o, out.getLast? = some o → o.Kind = 0 → 0 ≤ o.N ∧ o.N ≤ 1073741824) :
    (cond ((0 : Int) == 0) (cond (decide (0 < (out.length : Int))) ((getI out (IntKind.i64.wrap ((out.length : Int) - 1))).bind fun x36 => some (cond (cond ((0 : Int) == 0) (decide (0 < (out.length : Int))) false) (x36.Kind == 0) false)) (some false)) (some false)).bind (fun (z33 : Bool) => cond z33 ((getI out (IntKind.i64.wrap ((out.length : Int) - 1))).bind fun x40 => some (.inl (tt, setI out (IntKind.i64.wrap ((out.length : Int) - 1)) (⟨x40.Kind, (IntKind.i64.wrap (x40.N + n)), x40.L, x40.E⟩ : EO)))) ((appI 240 out [(⟨0, n, [], eS0⟩ : EO)]).bind fun l44 => some (.inl (tt, l44)))) = (some (.inl (tt, pushK out n)) : Option ((Int × List EO) ⊕ List EO)) := by
  rw [show ((0 : Int) == 0) = true from rfl, cond_true]
  cases hl : out.getLast? with
  | none =>
    have := List.getLast?_eq_none_iff.1 hl
    subst this
    rfl
  | some o =>
    obtain ⟨o', ho⟩ := List.getLast?_eq_some_iff.1 hl
    have hlen' : out.length = o'.length + 1 := by rw [ho]; simp
    have hpos : decide (0 < (out.length : Int)) = true := by rw [decide_eq_true_eq]; omega
    have hw : IntKind.i64.wrap ((out.length : Int) - 1) = (o'.length : Int) := by rw [i64s (by omega) (by omega)]; omega
    have hg : getI out (o'.length : Int) = some o := getI_of (by rw [ho]; simp)
    rw [hpos, cond_true, hw, hg, Option.bind_some, Option.bind_some, Option.bind_some]
    unfold pushK
    rw [hl]
    simp only
    by_cases hk : o.Kind = 0
    · have hN' := hN o hl hk
      have e : (o.Kind == 0) = true := by rw [hk]; rfl
      rw [e, if_pos hk]
      simp only [cond_true]
      rw [i64s (by omega) (by omega), hk]
      unfold setI
      rw [ho, Int.toNat_natCast]
      simp
    · rw [beq_eq_false_iff_ne.2 hk, if_neg hk]
      simp only [cond_true, cond_false]
      rw [appI_ok (by simp; omega) (by simp; omega), Option.bind_some]
theorem pushK_last {out : List EO} {n : Int} {S : Nat} (hn : 0 ≤ n) (hN : ∀ o, out.getLast? = some o → o.Kind = 0 → 0 ≤ o.N ∧ o.N ≤ S) : ∀ o, (pushK out n).getLast? = some o → o.Kind = 0 → 0 ≤ o.N ∧ o.N ≤ S + n := fun o ho hk => by
  unfold pushK at ho
  cases hl : out.getLast? with
  | none => rw [hl] at ho; simp at ho; subst ho; simp only; omega
  | some x =>
    rw [hl] at ho
    simp only at ho
    split at ho
    · rename_i hx
      have := hN x hl hx
      simp at ho; subst ho; simp only; omega
    · simp at ho; subst ho; simp only; omega
theorem pushK_len (out : List EO) (n : Int) : (pushK out n).length ≤ out.length + 1 := by
  unfold pushK
  split
  · split <;> simp
  · simp
theorem sumT_split (ys : List EO) (k : Nat) : sumT ys = sumT (ys.take k) + sumT (ys.drop k) := by
  conv => lhs; rw [← List.take_append_drop k ys]
  unfold sumT
  rw [List.map_append, List.sum_append]
theorem rops_loop {rE' : Ed → Option Ed} {l : Int} {a : List EO} (hlen : a.length ≤ 1048576) (hsum : sumT a ≤ 1073741824) (hok : ∀ o ∈ a, opk o) (hL : ∀ o ∈ a, ∀ t ∈ o.L, Bd t) (hLl : ∀ o ∈ a, o.L.length * 56 ≤ 140737488355328)
    (hE : ∀ o ∈ a, o.Kind = 3 → rE' o.E = some (nE o.E)) :
    ∀ (m i : Nat) (out : List EO) (S : Nat), a.length - i < m → i ≤ a.length → out.length ≤ 3 * i → (∀ o, out.getLast? = some o → o.Kind = 0 → 0 ≤ o.N ∧ o.N ≤ S) → S + sumT (a.drop i) ≤ 1073741824 →
    ∃ r : List EO ⊕ List EO, runLoop (b_centoref22_Ops_L0 rE' l a) ((i : Int), out) = some r ∧ Sum.elim id id r = ((withE (a.drop i)).foldl (stN l) ⟨out, [], []⟩).flush
  | 0, _, _, _, h, _, _, _, _ => by omega
  | m + 1, i, out, S, hm, hi, hol, hN, hS => by
    by_cases hil : i < a.length
    · have hgn := gapN_le (a.drop i)
      rw [List.length_drop] at hgn
      have hg1 := gapL_len 1 (a.drop i)
      have hg2 := gapL_len 2 (a.drop i)
      have hFe : out ++ delO (gapL 1 (a.drop i)) ++ insO (gapL 2 (a.drop i)) = (⟨out, gapL 1 (a.drop i), gapL 2 (a.drop i)⟩ : NW).flush := by unfold NW.flush; rw [List.append_assoc]
      have hd1 : (delO (gapL 1 (a.drop i))).length ≤ 1 := by unfold delO; split <;> simp
      have hd2 : (insO (gapL 2 (a.drop i))).length ≤ 1 := by unfold insO; split <;> simp
      have hFl : (⟨out, gapL 1 (a.drop i), gapL 2 (a.drop i)⟩ : NW).flush.length ≤ 3 * i + 2 := by
        rw [← hFe, List.length_append, List.length_append]; omega
      have hFN : ∀ o, (⟨out, gapL 1 (a.drop i), gapL 2 (a.drop i)⟩ : NW).flush.getLast? = some o → o.Kind = 0 → 0 ≤ o.N ∧ o.N ≤ S := fun o ho hk => by
        rcases flush_last ho with h12 | ⟨_, _, g3⟩
        · omega
        · exact hN o g3 hk
      have z6 : (cond (decide (0 < ((gapL 1 (a.drop i)).length : Int))) ((appI 240 out ([(⟨1, 0, gapL 1 (a.drop i), eS0⟩ : EO)])).bind fun l7 => some l7) (some out)) = some (out ++ delO (gapL 1 (a.drop i))) := by
        by_cases h : gapL 1 (a.drop i) = []
        · rw [h]; simp [delO]
        · have : decide (0 < ((gapL 1 (a.drop i)).length : Int)) = true := by rw [decide_eq_true_eq]; have := List.length_pos_iff.2 h; omega
          rw [this, cond_true, appI_ok (by simp; omega) (by simp; omega), delO_ne h]; rfl
      have z9 : (cond (decide (0 < ((gapL 2 (a.drop i)).length : Int))) ((appI 240 (out ++ delO (gapL 1 (a.drop i))) ([(⟨2, 0, gapL 2 (a.drop i), eS0⟩ : EO)])).bind fun l10 => some l10) (some (out ++ delO (gapL 1 (a.drop i))))) = some (⟨out, gapL 1 (a.drop i), gapL 2 (a.drop i)⟩ : NW).flush := by
        rw [← hFe]
        by_cases h : gapL 2 (a.drop i) = []
        · rw [h]; simp [insO]
        · have : decide (0 < ((gapL 2 (a.drop i)).length : Int)) = true := by rw [decide_eq_true_eq]; have := List.length_pos_iff.2 h; omega
          have hl' : (out ++ delO (gapL 1 (a.drop i))).length ≤ out.length + 1 := by rw [List.length_append]; omega
          rw [this, cond_true, appI_ok (by simp only [List.length_singleton]; omega) (by simp only [List.length_singleton]; omega), insO_ne h]; rfl
      have hfold := fold_gap l (a.drop i) ⟨out, [], []⟩
      simp only [List.nil_append] at hfold
      rw [List.drop_drop] at hfold
      generalize hF : (⟨out, gapL 1 (a.drop i), gapL 2 (a.drop i)⟩ : NW).flush = F at *
      by_cases hto : a.length ≤ i + gapN (a.drop i)
      · refine ⟨.inl F, runLoop_end ?_, ?_⟩
        · unfold b_centoref22_Ops_L0
          simp only
          rw [lt_t hil, cond_true, gap_ok hi hlen hsum hL hLl, gap_ok hi hlen hsum hL hLl]
          simp only [Option.bind_some]
          refine Option.bind_eq_some_iff.2 ⟨.inr F, ?_, rfl⟩
          refine Option.bind_eq_some_iff.2 ⟨_, z6, ?_⟩
          refine Option.bind_eq_some_iff.2 ⟨_, z9, ?_⟩
          rw [decide_eq_true (by omega : (a.length : Int) ≤ ((i + gapN (a.drop i) : Nat) : Int)), cond_true]
        · rw [hfold, List.drop_eq_nil_of_le hto]
          exact hF.symm
      · obtain ⟨o, ho, hod⟩ := drop_at (show i + gapN (a.drop i) < a.length by omega)
        have hom := List.mem_of_getElem? ho
        have hng : isGap o = false := gapN_at (ys := a.drop i) (by rw [List.drop_drop, hod]; rfl)
        have hsp := sumT_split (a.drop i) (gapN (a.drop i))
        rw [List.drop_drop, hod] at hsp
        have hso : sumT (o :: a.drop (i + gapN (a.drop i) + 1)) = thN o + sumT (a.drop (i + gapN (a.drop i) + 1)) := by unfold sumT; simp
        rw [hso] at hsp
        have go : ∀ (out' : List EO) (n' : Int), 0 ≤ n' → n' ≤ (thN o : Nat) → out'.length ≤ 3 * (i + gapN (a.drop i) + 1) → (∀ x, out'.getLast? = some x → x.Kind = 0 → 0 ≤ x.N ∧ x.N ≤ S + n') → stN l ⟨out, gapL 1 (a.drop i), gapL 2 (a.drop i)⟩ (o, nE o.E) = ⟨out', [], []⟩ →
            b_centoref22_Ops_L0 rE' l a ((i : Int), out) = some (.inl (((i + gapN (a.drop i) + 1 : Nat) : Int), out')) →
            ∃ r : List EO ⊕ List EO, runLoop (b_centoref22_Ops_L0 rE' l a) ((i : Int), out) = some r ∧ Sum.elim id id r = ((withE (a.drop i)).foldl (stN l) ⟨out, [], []⟩).flush := fun out' n' hn0 hn1 h1 h2 h3 h4 => by
          obtain ⟨r, hr1, hr2⟩ := rops_loop hlen hsum hok hL hLl hE m (i + gapN (a.drop i) + 1) out' (S + thN o) (by omega) (by omega) h1 (fun x hx hk => by have := h2 x hx hk; omega) (by omega)
          refine ⟨r, by rw [runLoop_step h4]; exact hr1, ?_⟩
          rw [hr2, hfold, hod]
          show _ = ((withE _).foldl (stN l) (stN l _ (o, nE o.E))).flush
          rw [h3]
        have start : ∀ (z1 : Int × List EO), (((getI a ((i + gapN (a.drop i) : Nat) : Int)).bind fun x19 => cond (x19.Kind == 3) ((getI a ((i + gapN (a.drop i) : Nat) : Int)).bind fun x24 => (rE' x24.E).bind fun y26 => (m_centoref22_idle l y26).bind fun y28 => cond y28 (some ((0 : Int), (1 : Int), (0 : Int), (0 : Int), ([] : (List Int)), ([] : (List S_api_Tree)), (0 : Int), ([] : (List Int)), ([] : (List S_api_Tree)), ([] : (List S_api_WordEdit)), ([] : (List S_api_KidEdit)), (0 : Int), ([] : (List S_api_Op)))) (some (3, 0, y26.Kind, y26.Old.Kind, y26.Old.Words, y26.Old.Kids, y26.New.Kind, y26.New.Words, y26.New.Kids, y26.Words, y26.Kids, y26.List_, y26.Ops))) (some (0, o.N, 0, 0, ([] : (List Int)), ([] : (List S_api_Tree)), 0, ([] : (List Int)), ([] : (List S_api_Tree)), ([] : (List S_api_WordEdit)), ([] : (List S_api_KidEdit)), 0, ([] : (List S_api_Op))))).bind fun (z16 : (Int × Int × Int × Int × (List Int) × (List S_api_Tree) × Int × (List Int) × (List S_api_Tree) × (List S_api_WordEdit) × (List S_api_KidEdit) × Int × (List S_api_Op))) => (cond (z16.1 == 0) (cond (decide (0 < (F.length : Int))) ((getI F (IntKind.i64.wrap ((F.length : Int) - 1))).bind fun x36 => some (cond (cond (z16.1 == 0) (decide (0 < (F.length : Int))) false) (x36.Kind == 0) false)) (some false)) (some false)).bind fun (z33 : Bool) => cond z33 ((getI F (IntKind.i64.wrap ((F.length : Int) - 1))).bind fun x40 => some (.inl (((i + gapN (a.drop i) : Nat) : Int), (setI F (IntKind.i64.wrap ((F.length : Int) - 1)) (⟨x40.Kind, (IntKind.i64.wrap (x40.N + z16.2.1)), x40.L, x40.E⟩ : S_api_Op))))) ((appI 240 F ([(⟨z16.1, z16.2.1, ([] : (List S_api_Tree)), (⟨z16.2.2.1, (⟨z16.2.2.2.1, z16.2.2.2.2.1, z16.2.2.2.2.2.1⟩ : S_api_Tree), (⟨z16.2.2.2.2.2.2.1, z16.2.2.2.2.2.2.2.1, z16.2.2.2.2.2.2.2.2.1⟩ : S_api_Tree), z16.2.2.2.2.2.2.2.2.2.1, z16.2.2.2.2.2.2.2.2.2.2.1, z16.2.2.2.2.2.2.2.2.2.2.2.1, z16.2.2.2.2.2.2.2.2.2.2.2.2⟩ : S_api_Edit)⟩ : S_api_Op)] : List S_api_Op)).bind fun l44 => some (.inl (((i + gapN (a.drop i) : Nat) : Int), l44)))) = (some (.inl z1) : Option ((Int × List EO) ⊕ List EO)) →
            b_centoref22_Ops_L0 rE' l a ((i : Int), out) = some (.inl (IntKind.i64.wrap (z1.1 + 1), z1.2)) := fun z1 hz => by
          unfold b_centoref22_Ops_L0
          simp only
          rw [lt_t hil, cond_true, gap_ok hi hlen hsum hL hLl, gap_ok hi hlen hsum hL hLl]
          simp only [Option.bind_some]
          refine Option.bind_eq_some_iff.2 ⟨.inl z1, ?_, rfl⟩
          refine Option.bind_eq_some_iff.2 ⟨_, z6, ?_⟩
          refine Option.bind_eq_some_iff.2 ⟨_, z9, ?_⟩
          rw [decide_eq_false (by omega : ¬ (a.length : Int) ≤ ((i + gapN (a.drop i) : Nat) : Int)), cond_false, getI_of ho, Option.bind_some]
          rw [getI_of ho] at hz
          exact hz
        have hwr : IntKind.i64.wrap (((i + gapN (a.drop i) : Nat) : Int) + 1) = ((i + gapN (a.drop i) + 1 : Nat) : Int) := by rw [i64s (by omega) (by omega)]; omega
        unfold isGap at hng
        rw [Bool.or_eq_false_iff, beq_eq_false_iff_ne, beq_eq_false_iff_ne] at hng
        rcases hok o hom with ⟨k, hn⟩ | ⟨k, _⟩ | ⟨k, _⟩ | k
        · have hth : thN o = o.N.toNat := by unfold thN; rw [if_pos k]
          have hp := pushK_len F o.N
          refine go (pushK F o.N) o.N (by omega) (by omega) (by omega) (pushK_last (by omega) hFN) ?_ ?_
          · unfold stN
            simp only [k, show ¬ (0 : Int) = 1 from by decide, show ¬ (0 : Int) = 2 from by decide, if_false, if_true]
            rw [hF]
          · have := start (((i + gapN (a.drop i) : Nat) : Int), pushK F o.N) (by
              rw [getI_of ho, Option.bind_some, k]
              exact push_ok (n := o.N) (by omega) (by omega) (fun x hx hk => by have := hFN x hx hk; omega))
            rw [this]
            simp only
            rw [hwr]
        · omega
        · omega
        · have hth : thN o = 1 := by unfold thN; rw [if_neg (by omega), if_pos k]
          have e3 : (o.Kind == 3) = true := by rw [k]; rfl
          cases hid : idleE l (nE o.E) with
          | true =>
            have hp := pushK_len F 1
            refine go (pushK F 1) 1 (by omega) (by omega) (by omega) (pushK_last (by omega) hFN) ?_ ?_
            · unfold stN
              simp only [k, show ¬ (3 : Int) = 1 from by decide, show ¬ (3 : Int) = 2 from by decide, show ¬ (3 : Int) = 0 from by decide, if_false, hid, if_true]
              rw [hF]
            · have := start (((i + gapN (a.drop i) : Nat) : Int), pushK F 1) (by
                rw [getI_of ho, Option.bind_some, e3, cond_true, Option.bind_some, hE o hom k, Option.bind_some, ridle_ok, Option.bind_some, hid, cond_true]
                exact push_ok (n := 1) (by omega) (by omega) (fun x hx hk => by have := hFN x hx hk; omega))
              rw [this]
              simp only
              rw [hwr]
          | false =>
            refine go (F ++ [⟨3, 0, [], nE o.E⟩]) 1 (by omega) (by omega) (by simp; omega) (fun x hx hk => by simp at hx; subst hx; simp at hk) ?_ ?_
            · unfold stN
              simp only [k, show ¬ (3 : Int) = 1 from by decide, show ¬ (3 : Int) = 2 from by decide, show ¬ (3 : Int) = 0 from by decide, if_false, hid]
              rw [hF]
              simp
            · have := start (((i + gapN (a.drop i) : Nat) : Int), F ++ [⟨3, 0, [], nE o.E⟩]) (by
                rw [getI_of ho, Option.bind_some, e3, cond_true, Option.bind_some, hE o hom k, Option.bind_some, ridle_ok, Option.bind_some, hid, cond_false, Option.bind_some]
                simp only [show ((3 : Int) == 0) = false from rfl, cond_false, Option.bind_some]
                rw [ed_eta, appI_ok (by simp; omega) (by simp; omega), Option.bind_some])
              rw [this]
              simp only
              rw [hwr]
    · have hil' : i = a.length := by omega
      subst hil'
      refine ⟨.inr out, runLoop_end (by unfold b_centoref22_Ops_L0; simp only; rw [lt_f, cond_false]), ?_⟩
      rw [List.drop_length]
      unfold NW.flush
      simp [withE, delO, insO]
theorem rnOps_ok {rE' : Ed → Option Ed} {rO' : Int → List EO → Option (List EO)} {l : Int} {a : List EO} (hlen : a.length ≤ 1048576) (hsum : sumT a ≤ 1073741824) (hok : ∀ o ∈ a, opk o) (hL : ∀ o ∈ a, ∀ t ∈ o.L, Bd t) (hLl : ∀ o ∈ a, o.L.length * 56 ≤ 140737488355328)
    (hE : ∀ o ∈ a, o.Kind = 3 → rE' o.E = some (nE o.E)) : b_centoref22_Ops rE' rO' l a = some (nOps l (withE a)) := by
  obtain ⟨r, h1, h2⟩ := rops_loop (l := l) hlen hsum hok hL hLl hE (a.length + 1) 0 [] 0 (by omega) (by omega) (by simp) (fun o ho => by simp at ho) (by simpa using hsum)
  unfold b_centoref22_Ops
  have h1' : runLoop (b_centoref22_Ops_L0 rE' l a) (0, []) = some r := h1
  rw [h1', Option.bind_some]
  rw [List.drop_zero] at h2
  unfold nOps
  show _ = some (((withE a).foldl (stN l) ⟨[], [], []⟩).flush)
  rw [← h2]
  cases r <;> rfl
inductive GN : Ed → Prop
  | mk (e : Ed) (hw : e.Words.length ≤ 1048576) (hk : e.Kids.length ≤ 1048576) (ho : e.Ops.length ≤ 1048576) (hs : sumT e.Ops ≤ 1073741824) (hp : ∀ o ∈ e.Ops, opk o) (ik : ∀ k ∈ e.Kids, GN k.E) (io : ∀ o ∈ e.Ops, GN o.E) : GN e
theorem GN.w {e : Ed} (h : GN e) : e.Words.length ≤ 1048576 := by cases h; assumption
theorem GN.k {e : Ed} (h : GN e) : e.Kids.length ≤ 1048576 := by cases h; assumption
theorem GN.o {e : Ed} (h : GN e) : e.Ops.length ≤ 1048576 := by cases h; assumption
theorem GN.s {e : Ed} (h : GN e) : sumT e.Ops ≤ 1073741824 := by cases h; assumption
theorem GN.p {e : Ed} (h : GN e) : ∀ o ∈ e.Ops, opk o := by cases h; assumption
theorem GN.ks {e : Ed} (h : GN e) : ∀ k ∈ e.Kids, GN k.E := by cases h; assumption
theorem GN.os {e : Ed} (h : GN e) : ∀ o ∈ e.Ops, GN o.E := by cases h; assumption
theorem gn_same {e : Ed} (h : sameE e = true) : GN e := by
  unfold sameE noWK noLO at h
  simp only [Bool.and_eq_true, beq_iff_eq] at h
  obtain ⟨_, _, ⟨h1, h2⟩, _, h3⟩ := h
  have w := List.eq_nil_of_length_eq_zero h1
  have k := List.eq_nil_of_length_eq_zero h2
  have o := List.eq_nil_of_length_eq_zero h3
  exact .mk _ (by rw [w]; simp) (by rw [k]; simp) (by rw [o]; simp) (by rw [o]; simp [sumT]) (by rw [o]; simp) (by rw [k]; simp) (by rw [o]; simp)
theorem gn_s0 : GN eS0 := .mk _ (by simp [eS0]) (by simp [eS0]) (by simp [eS0]) (by simp [eS0, sumT]) (by simp [eS0]) (by simp [eS0]) (by simp [eS0])
theorem bd_n0 : Bd n0T := .mk _ (by simp [n0T]) (by simp [n0T]) (by simp [n0T]) (by simp [n0T])
theorem be_s0 : BE eS0 := .mk _ bd_n0 bd_n0 (by simp [eS0]) (by simp [eS0]) (by simp [eS0]) (by simp [eS0]) (by simp [eS0]) (by simp [eS0]) (by simp [eS0])
theorem thN_thr {l : Int} {o : EO} {r : Bool} (h : okO l o r = true) : ((thN o : Nat) : Int) = thr o := by
  unfold okO at h
  unfold thN thr
  by_cases h0 : o.Kind = 0
  · rw [if_pos h0] at h
    simp only [Bool.and_eq_true, decide_eq_true_eq] at h
    rw [if_pos h0, if_pos h0]
    split <;> split at * <;> omega
  · rw [if_neg h0] at h ⊢
    rw [if_neg h0]
    by_cases h12 : o.Kind = 1 ∨ o.Kind = 2
    · rw [if_pos h12, if_neg (by omega)]
    · rw [if_neg h12] at h ⊢
      by_cases h3 : o.Kind = 3
      · rw [if_pos h3, if_pos h3]; rfl
      · rw [if_neg h3] at h; cases h
theorem okO_opk {l : Int} {o : EO} {r : Bool} (h : okO l o r = true) : opk o := by
  unfold okO at h
  unfold opk
  by_cases h0 : o.Kind = 0
  · rw [if_pos h0] at h
    simp only [Bool.and_eq_true, decide_eq_true_eq] at h
    exact .inl ⟨h0, h.1.1⟩
  rw [if_neg h0] at h
  by_cases h12 : o.Kind = 1 ∨ o.Kind = 2
  · rw [if_pos h12] at h
    simp only [Bool.and_eq_true, decide_eq_true_eq] at h
    have hne : o.L ≠ [] := by
      intro he
      rw [he] at h
      simp at h
    rcases h12 with h1 | h2
    · exact .inr (.inl ⟨h1, hne⟩)
    · exact .inr (.inr (.inl ⟨h2, hne⟩))
  · rw [if_neg h12] at h
    by_cases h3 : o.Kind = 3
    · exact .inr (.inr (.inr h3))
    · rw [if_neg h3] at h; cases h
theorem sum_lens {l : Int} (r : EO → Bool) : ∀ (os : List EO) (s : Int × Int), Sm s → (∀ o ∈ os, okO l o (r o) = true) → (∀ o ∈ os, o.L.length * 56 ≤ 140737488355328) → lensB (os.foldl stI s) = true → s.1 + s.2 + ((sumT os : Nat) : Int) ≤ (os.foldl stI s).1 + (os.foldl stI s).2
  | [], s, _, _, _, _ => by simp [sumT]
  | o :: os, s, hs, h, hl, hb => by
    have hsm := stI_sm hs (hl o (.head _))
    have hup := fold_up os (stI s o) hsm (fun x hx => hl x (.tail _ hx))
    have ih := sum_lens r os (stI s o) hsm (fun x hx => h x (.tail _ hx)) (fun x hx => hl x (.tail _ hx)) hb
    have hso : sumT (o :: os) = thN o + sumT os := by unfold sumT; simp
    have ht := thN_thr (h o (.head _))
    rw [List.foldl_cons] at hb ⊢
    unfold lensB at hb
    rw [Bool.and_eq_true, decide_eq_true_eq, decide_eq_true_eq] at hb
    have n1 : (stI s o).1 ≠ 1048576 := fun he => by have := hup.1 he; omega
    have n2 : (stI s o).2 ≠ 1048576 := fun he => by have := hup.2 he; omega
    have key : s.1 + s.2 + thr o ≤ (stI s o).1 + (stI s o).2 := by
      have hth : 0 ≤ thr o := by omega
      unfold stI capI at n1 n2 ⊢
      simp only at n1 n2 ⊢
      by_cases k2 : o.Kind = 2
      · rw [if_neg (by omega : ¬ o.Kind = 1)] at n2 ⊢
        rw [if_pos k2]
        split at n2
        · omega
        · rename_i h5; rw [if_neg h5]; omega
      · rw [if_neg k2] at n1 ⊢
        split at n1
        · omega
        · rename_i h5
          rw [if_neg h5]
          by_cases k1 : o.Kind = 1
          · rw [if_pos k1]; omega
          · rw [if_neg k1] at n2 ⊢
            split at n2
            · omega
            · rename_i h6; rw [if_neg h6]; omega
    rw [hso]
    omega
theorem kid_sumN {α : Type} {f : α → Nat} {x : α} : ∀ {l : List α}, x ∈ l → f x ≤ (l.map f).sum
  | y :: l, h => by
    rw [List.map_cons, List.sum_cons]
    rcases List.mem_cons.1 h with rfl | h
    · omega
    · have := kid_sumN (f := f) h; omega
theorem len_sumN {α : Type} {f : α → Nat} : ∀ {l : List α}, (∀ x ∈ l, 1 ≤ f x) → l.length ≤ (l.map f).sum
  | [], _ => Nat.le_refl _
  | y :: l, h => by
    rw [List.map_cons, List.sum_cons, List.length_cons]
    have := len_sumN (f := f) (l := l) fun x hx => h x (by simp [hx])
    have := h y (by simp)
    omega
theorem ce_pos (e : Ed) : 1 ≤ ce e := by rw [ce_eq]; omega
theorem gn_rE : ∀ (n : Nat) (e : Ed) (d : Nat), SizeOf.sizeOf e < n → BE e → ce e ≤ 1000000 → rE e d = true → GN e
  | 0, _, _, h, _, _, _ => by omega
  | n + 1, e, d, hn, hb, hc, h => by
    have hc' := hc
    rw [ce_eq] at hc'
    have hk1 : e.Kids.length ≤ (e.Kids.map fun k => ce k.E).sum := len_sumN fun x _ => ce_pos _
    have hlens := rE_lens hb h
    have hparts : (∀ k ∈ e.Kids, ∃ d', rE k.E d' = true) ∧ (∀ o ∈ e.Ops, opk o ∧ (sameE o.E = true ∨ ∃ d', rE o.E d' = true)) ∧ sumT e.Ops ≤ 2097152 := by
      rw [rE_eq] at h
      by_cases hd : d = 0
      · rw [if_pos hd] at h; cases h
      rw [if_neg hd] at h
      by_cases h0 : e.Kind = 0
      · rw [if_pos h0] at h
        unfold sameE noWK noLO at h
        simp only [Bool.and_eq_true, beq_iff_eq] at h
        obtain ⟨_, _, ⟨h1, h2⟩, _, h3⟩ := h
        rw [List.eq_nil_of_length_eq_zero h2, List.eq_nil_of_length_eq_zero h3]
        simp [sumT]
      rw [if_neg h0] at h
      by_cases h1 : e.Kind = 1
      · rw [if_pos h1] at h
        unfold noWK noLO at h
        simp only [Bool.and_eq_true, beq_iff_eq] at h
        rw [List.eq_nil_of_length_eq_zero h.1.1.2, List.eq_nil_of_length_eq_zero h.1.2.2]
        simp [sumT]
      rw [if_neg h1] at h
      by_cases h2 : e.Kind = 2
      · rw [if_pos h2] at h
        unfold noLO at h
        simp only [Bool.and_eq_true, beq_iff_eq] at h
        rw [List.eq_nil_of_length_eq_zero h.1.2.2]
        refine ⟨fun k hk => ⟨d - 1, ?_⟩, by simp, by simp [sumT]⟩
        exact chk_mem (Q := fun k : S_api_KidEdit => rE k.E (d - 1) = true) (fun p x hx => by
          unfold okK okP at hx
          simp only [Bool.and_eq_true] at hx
          exact hx.2.2) e.Kids (-1) h.2.2 k hk
      rw [if_neg h2] at h
      by_cases h3 : e.Kind = 3
      · rw [if_pos h3] at h
        unfold noWK at h
        rw [Bool.and_eq_true, Bool.and_eq_true, Bool.and_eq_true, Bool.and_eq_true, Bool.and_eq_true, Bool.and_eq_true, beq_iff_eq, beq_iff_eq, List.all_eq_true] at h
        obtain ⟨⟨_, _, hk⟩, _, hall, hB⟩ := h
        rw [List.eq_nil_of_length_eq_zero hk]
        refine ⟨by simp, fun o ho => ⟨okO_opk (hall o ho), ?_⟩, ?_⟩
        · have := hall o ho
          unfold okO at this
          by_cases k0 : o.Kind = 0
          · rw [if_pos k0] at this
            simp only [Bool.and_eq_true] at this
            exact .inl this.2.2
          rw [if_neg k0] at this
          by_cases k12 : o.Kind = 1 ∨ o.Kind = 2
          · rw [if_pos k12] at this
            simp only [Bool.and_eq_true] at this
            exact .inl this.2.2.2
          rw [if_neg k12] at this
          by_cases k3 : o.Kind = 3
          · rw [if_pos k3] at this
            simp only [Bool.and_eq_true] at this
            exact .inr ⟨d - 1, this.2.2.2.2⟩
          · rw [if_neg k3] at this; cases this
        · rw [hlens] at hB
          have := sum_lens (l := e.List_) (fun o => rE o.E (d - 1)) e.Ops (0, 0) ⟨⟨by decide, by decide⟩, by decide, by decide⟩ hall (fun o ho => (hb.l o ho).1) hB
          unfold lensB at hB
          rw [Bool.and_eq_true, decide_eq_true_eq, decide_eq_true_eq] at hB
          simp only at this
          omega
      · rw [if_neg h3] at h; cases h
    refine .mk _ (by omega) (by omega) (by omega) (by omega) (fun o ho => (hparts.2.1 o ho).1) (fun k hk => ?_) (fun o ho => ?_)
    · obtain ⟨d', hd'⟩ := hparts.1 k hk
      have := kid_sumN (f := fun k : S_api_KidEdit => ce k.E) hk
      exact gn_rE n k.E d' (by have := kidE_lt hk; omega) (hb.ks k hk) (by omega) hd'
    · rcases (hparts.2.1 o ho).2 with hs | ⟨d', hd'⟩
      · exact gn_same hs
      · have := kid_sumN (f := fun o : S_api_Op => ce o.E) ho
        exact gn_rE n o.E d' (by have := opE_lt ho; omega) (hb.os o ho) (by omega) hd'
def OQ (S : Nat) (o : EO) : Prop := opk o ∧ o.L.length ≤ S ∧ (∀ t ∈ o.L, Bd t) ∧ BE o.E ∧ GN o.E
structure OB (s : NW) (i S : Nat) : Prop where
  out : ∀ o ∈ s.out, OQ S o
  gone : ∀ t ∈ s.gone, Bd t
  come : ∀ t ∈ s.come, Bd t
  cnt : s.flush.length ≤ i
  sum : sumT s.flush ≤ S
theorem OQ.mono {S S' : Nat} {o : EO} (h : OQ S o) (hS : S ≤ S') : OQ S' o := ⟨h.1, Nat.le_trans h.2.1 hS, h.2.2⟩
theorem sumT_app (a b : List EO) : sumT (a ++ b) = sumT a + sumT b := by unfold sumT; rw [List.map_append, List.sum_append]
theorem sumT_del (g : List Tr) : sumT (delO g) = g.length := by
  by_cases h : g = []
  · subst h; rfl
  · rw [delO_ne h]; simp [sumT, thN]
theorem sumT_ins (g : List Tr) : sumT (insO g) = g.length := by
  by_cases h : g = []
  · subst h; rfl
  · rw [insO_ne h]; simp [sumT, thN]
theorem sumT_flush (s : NW) : sumT s.flush = sumT s.out + (s.gone.length + s.come.length) := by
  unfold NW.flush
  rw [sumT_app, sumT_app, sumT_del, sumT_ins]
theorem OB.fl {s : NW} {i S : Nat} (h : OB s i S) : ∀ o ∈ s.flush, OQ S o := fun o ho => by
  have hs := h.sum
  rw [sumT_flush] at hs
  unfold NW.flush at ho
  rw [List.mem_append, List.mem_append] at ho
  rcases ho with ho | ho | ho
  · exact h.out o ho
  · by_cases hg : s.gone = []
    · rw [hg] at ho; simp [delO] at ho
    · rw [delO_ne hg, List.mem_singleton] at ho
      subst ho
      exact ⟨.inr (.inl ⟨rfl, hg⟩), by simp only; omega, h.gone, be_s0, gn_s0⟩
  · by_cases hg : s.come = []
    · rw [hg] at ho; simp [insO] at ho
    · rw [insO_ne hg, List.mem_singleton] at ho
      subst ho
      exact ⟨.inr (.inr (.inl ⟨rfl, hg⟩)), by simp only; omega, h.come, be_s0, gn_s0⟩
theorem pushK_OQ {F : List EO} {S : Nat} {n : Int} (hn : 1 ≤ n) (hF : ∀ o ∈ F, OQ S o) : (∀ o ∈ pushK F n, OQ S o) ∧ sumT (pushK F n) = sumT F + n.toNat := by
  have hq : OQ S (⟨0, n, [], eS0⟩ : EO) := ⟨.inl ⟨rfl, hn⟩, Nat.zero_le _, by simp, be_s0, gn_s0⟩
  by_cases hk : ∃ o, F.getLast? = some o ∧ o.Kind = 0
  · obtain ⟨o, ho, hk0⟩ := hk
    obtain ⟨o', ho'⟩ := List.getLast?_eq_some_iff.1 ho
    subst ho'
    have hoq := hF o (by simp)
    obtain ⟨k, N, L, E⟩ := o
    simp only at hk0
    subst hk0
    have hN : 1 ≤ N := by
      rcases hoq.1 with ⟨_, h⟩ | ⟨h, _⟩ | ⟨h, _⟩ | h
      · exact h
      · simp at h
      · simp at h
      · simp at h
    rw [pushK_snoc]
    refine ⟨fun x hx => ?_, ?_⟩
    · rcases List.mem_append.1 hx with hx | hx
      · exact hF x (by simp [hx])
      · rw [List.mem_singleton.1 hx]
        exact ⟨.inl ⟨rfl, by simp only; omega⟩, hoq.2⟩
    · rw [sumT_app, sumT_app]
      simp only [sumT, List.map_cons, List.map_nil, List.sum_cons, List.sum_nil, thN, if_true]
      omega
  · rw [pushK_nk fun o ho h0 => hk ⟨o, ho, h0⟩]
    refine ⟨fun x hx => ?_, ?_⟩
    · rcases List.mem_append.1 hx with hx | hx
      · exact hF x hx
      · rw [List.mem_singleton.1 hx]; exact hq
    · rw [sumT_app]
      simp [sumT, thN]
theorem flush_plain (out : List EO) : (⟨out, [], []⟩ : NW).flush = out := by unfold NW.flush; simp [delO, insO]
theorem delO_len (g : List Tr) : (delO g).length ≤ 1 := by unfold delO; split <;> simp
theorem insO_len (g : List Tr) : (insO g).length ≤ 1 := by unfold insO; split <;> simp
theorem OB.step {s : NW} {i S : Nat} (h : OB s i S) {l : Int} {p : EO × Ed} (hp : opk p.1) (hL : ∀ t ∈ p.1.L, Bd t) (hb : BE p.2) (hg : GN p.2) : OB (stN l s p) (i + 1) (S + thN p.1) := by
  have hfs := h.sum
  have hfc := h.cnt
  have hpush : ∀ n : Int, 1 ≤ n → n.toNat ≤ thN p.1 → OB ⟨pushK s.flush n, [], []⟩ (i + 1) (S + thN p.1) := fun n hn hnt => by
    obtain ⟨q1, q2⟩ := pushK_OQ hn h.fl
    have ql := pushK_len s.flush n
    refine ⟨fun o ho => (q1 o ho).mono (by omega), by simp, by simp, ?_, ?_⟩
    · rw [flush_plain]; omega
    · rw [flush_plain, q2]; omega
  unfold stN
  by_cases k1 : p.1.Kind = 1
  · have ht : thN p.1 = p.1.L.length := by unfold thN; rw [if_neg (by omega), if_neg (by omega)]
    rw [if_pos k1, ht]
    refine ⟨fun o ho => (h.out o ho).mono (by omega), fun t ht => ?_, h.come, ?_, ?_⟩
    · rcases List.mem_append.1 ht with ht | ht
      · exact h.gone t ht
      · obtain ⟨x, hx, rfl⟩ := List.mem_map.1 ht
        exact (hL x hx).nrm
    · unfold NW.flush at hfc ⊢
      have := delO_len (s.gone ++ p.1.L.map nrm)
      simp only [List.length_append] at hfc ⊢
      omega
    · rw [sumT_flush] at hfs ⊢
      simp only [List.length_append, List.length_map]
      omega
  rw [if_neg k1]
  by_cases k2 : p.1.Kind = 2
  · have ht : thN p.1 = p.1.L.length := by unfold thN; rw [if_neg (by omega), if_neg (by omega)]
    rw [if_pos k2, ht]
    refine ⟨fun o ho => (h.out o ho).mono (by omega), h.gone, fun t ht => ?_, ?_, ?_⟩
    · rcases List.mem_append.1 ht with ht | ht
      · exact h.come t ht
      · obtain ⟨x, hx, rfl⟩ := List.mem_map.1 ht
        exact (hL x hx).nrm
    · unfold NW.flush at hfc ⊢
      have := insO_len (s.come ++ p.1.L.map nrm)
      simp only [List.length_append] at hfc ⊢
      omega
    · rw [sumT_flush] at hfs ⊢
      simp only [List.length_append, List.length_map]
      omega
  rw [if_neg k2]
  by_cases k0 : p.1.Kind = 0
  · rw [if_pos k0]
    have hN : 1 ≤ p.1.N := by
      rcases hp with ⟨_, h⟩ | ⟨h, _⟩ | ⟨h, _⟩ | h
      · exact h
      · omega
      · omega
      · omega
    exact hpush _ hN (by unfold thN; rw [if_pos k0]; exact Nat.le_refl _)
  rw [if_neg k0]
  have k3 : p.1.Kind = 3 := by
    rcases hp with ⟨h, _⟩ | ⟨h, _⟩ | ⟨h, _⟩ | h
    · omega
    · omega
    · omega
    · exact h
  have ht : thN p.1 = 1 := by unfold thN; rw [if_neg k0, if_pos k3]
  split
  · exact hpush 1 (by omega) (by omega)
  · refine ⟨fun o ho => ?_, by simp, by simp, ?_, ?_⟩
    · rcases List.mem_append.1 ho with ho | ho
      · exact (h.fl o ho).mono (by omega)
      · rw [List.mem_singleton.1 ho]
        exact ⟨.inr (.inr (.inr rfl)), Nat.zero_le _, by simp, hb, hg⟩
    · rw [flush_plain, List.length_append]; simp; omega
    · rw [flush_plain, sumT_app, ht]
      have : sumT [(⟨3, 0, [], p.2⟩ : EO)] = 1 := by simp [sumT, thN]
      omega
theorem ob_fold {l : Int} : ∀ (os : List EO) (s : NW) (i S : Nat), OB s i S → (∀ o ∈ os, opk o ∧ (∀ t ∈ o.L, Bd t) ∧ BE (nE o.E) ∧ GN (nE o.E)) → OB ((withE os).foldl (stN l) s) (i + os.length) (S + sumT os)
  | [], s, i, S, h, _ => by simpa [withE, sumT] using h
  | o :: os, s, i, S, h, hq => by
    obtain ⟨q1, q2, q3, q4⟩ := hq o (by simp)
    have := ob_fold (l := l) os _ _ _ (h.step (l := l) (p := (o, nE o.E)) q1 q2 q3 q4) fun x hx => hq x (by simp [hx])
    have e1 : i + 1 + os.length = i + (o :: os).length := by simp; omega
    have e2 : S + thN o + sumT os = S + sumT (o :: os) := by unfold sumT; simp; omega
    rw [e1, e2] at this
    exact this
theorem nE_good : ∀ (n : Nat) (e : Ed), SizeOf.sizeOf e < n → BE e → GN e → BE (nE e) ∧ GN (nE e)
  | 0, _, h, _, _ => by omega
  | n + 1, e, hn, hb, hg => by
    have ik : ∀ k ∈ e.Kids, BE (nE k.E) ∧ GN (nE k.E) := fun k hk => nE_good n k.E (by have := kidE_lt hk; omega) (hb.ks k hk) (hg.ks k hk)
    have io : ∀ o ∈ e.Ops, BE (nE o.E) ∧ GN (nE o.E) := fun o ho => nE_good n o.E (by have := opE_lt ho; omega) (hb.os o ho) (hg.os o ho)
    have hw := hg.w
    have hk := hg.k
    rw [nE_eq]
    by_cases h1 : e.Kind = 1
    · rw [if_pos h1]
      exact ⟨.mk _ hb.old.nrm hb.new.nrm (by simp) (by simp) (by simp) (by simp) (by simp) (by simp) (by simp), .mk _ (by simp) (by simp) (by simp) (by simp [sumT]) (by simp) (by simp) (by simp)⟩
    rw [if_neg h1]
    by_cases h2 : e.Kind = 2
    · rw [if_pos h2]
      refine ⟨.mk _ bd_n0 bd_n0 hb.w hb.ws (by simp only [List.length_map]; omega) (fun k hk => ?_) (by simp) (by simp) (by simp), .mk _ hg.w (by simp only [List.length_map]; omega) (by simp) (by simp [sumT]) (by simp) (fun k hk => ?_) (by simp)⟩
      · obtain ⟨x, hx, rfl⟩ := List.mem_map.1 hk
        exact (ik x hx).1
      · obtain ⟨x, hx, rfl⟩ := List.mem_map.1 hk
        exact (ik x hx).2
    rw [if_neg h2]
    by_cases h3 : e.Kind = 3
    · rw [if_pos h3]
      have hob := ob_fold (l := e.List_) e.Ops s0N 0 0 ⟨by simp [s0N], by simp [s0N], by simp [s0N], Nat.le_refl _, Nat.le_refl _⟩ fun o ho => ⟨hg.p o ho, (hb.l o ho).2, (io o ho).1, (io o ho).2⟩
      have h5 := hob.cnt
      have h6 := hob.sum
      have h7 := hg.o
      have h8 := hg.s
      have hall := hob.fl
      refine ⟨.mk _ bd_n0 bd_n0 (by simp) (by simp) (by simp) (by simp) ?_ (fun o ho => ?_) (fun o ho => (hall o ho).2.2.2.1), .mk _ (by simp) (by simp) ?_ ?_ (fun o ho => (hall o ho).1) (by simp) (fun o ho => (hall o ho).2.2.2.2)⟩
      · show ((nOps e.List_ (withE e.Ops)).length : Int) ≤ _
        unfold nOps
        omega
      · have := (hall o ho).2.1
        exact ⟨by omega, (hall o ho).2.2.1⟩
      · show (nOps e.List_ (withE e.Ops)).length ≤ _
        unfold nOps
        omega
      · show sumT (nOps e.List_ (withE e.Ops)) ≤ _
        unfold nOps
        omega
    · rw [if_neg h3]
      exact ⟨be_s0, gn_s0⟩
theorem BE.nE {e : Ed} (hb : BE e) (hg : GN e) : BE (nE e) := (nE_good _ e (Nat.lt_succ_self _) hb hg).1
theorem GN.nE {e : Ed} (hb : BE e) (hg : GN e) : GN (nE e) := (nE_good _ e (Nat.lt_succ_self _) hb hg).2
theorem nE_lv : ∀ (k : Nat), (∀ e : Ed, BE e → GN e → 2 * SizeOf.sizeOf e + 1 < k → (lv_normal_Edit k).1 e = some (nE e)) ∧
    (∀ (l : Int) (os : List EO), os.length ≤ 1048576 → sumT os ≤ 1073741824 → (∀ o ∈ os, opk o) → (∀ o ∈ os, ∀ t ∈ o.L, Bd t) → (∀ o ∈ os, BE o.E ∧ GN o.E ∧ 2 * SizeOf.sizeOf o.E + 2 < k) → 0 < k → (lv_normal_Edit k).2 l os = some (nOps l (withE os)))
  | 0 => ⟨fun e _ _ h => by omega, fun l os _ _ _ _ _ h => by omega⟩
  | k + 1 => by
    obtain ⟨i1, i2⟩ := nE_lv k
    refine ⟨fun e hb hg hk => ?_, fun l os hlen hsum hok hL hE _ => ?_⟩
    · show b_normal_Edit (lv_normal_Edit k).1 (lv_normal_Edit k).2 e = _
      unfold b_normal_Edit
      rw [nE_eq]
      by_cases h1 : e.Kind = 1
      · have e1 : (e.Kind == 1) = true := by rw [h1]; rfl
        rw [if_pos h1, e1, cond_true, norm_ok hb.old, Option.bind_some, norm_ok hb.new]; rfl
      have e1 : (e.Kind == 1) = false := by rw [beq_eq_false_iff_ne]; exact h1
      rw [if_neg h1, e1, cond_false]
      by_cases h2 : e.Kind = 2
      · have e2 : (e.Kind == 2) = true := by rw [h2]; rfl
        have hw := hg.w
        have hkl := hg.k
        have hloop : runLoop (b_normal_Edit_L0 (lv_normal_Edit k).1 e) (0, ([] : List S_api_KidEdit)) = some ([] ++ e.Kids.map fun x => (⟨x.At, nE x.E⟩ : S_api_KidEdit)) :=
          loop_map e.Kids (fun x => (⟨x.At, nE x.E⟩ : S_api_KidEdit)) _ [] (by omega) (fun i x out hi hx hm ho => by
            unfold b_normal_Edit_L0
            simp only
            rw [lt_t hi, cond_true, getI_of hx, Option.bind_some, i1 x.E (hb.ks x hm) (hg.ks x hm) (by have := kidE_lt hm; omega), Option.bind_some]
            simp only [List.length_nil] at ho
            rw [appI_ok (by simp only [List.length_singleton]; omega) (by simp only [List.length_singleton]; omega), Option.bind_some]) (fun out => by
            unfold b_normal_Edit_L0
            simp only
            rw [lt_f, cond_false])
        unfold m_slices_Clone_api_WordEdit_api_WordEdit
        rw [if_pos h2, e2, cond_true, appI_ok (by simp only [List.length_nil]; omega) (by simp only [List.length_nil]; omega), Option.bind_some, hloop, Option.bind_some]
        rfl
      have e2 : (e.Kind == 2) = false := by rw [beq_eq_false_iff_ne]; exact h2
      rw [if_neg h2, e2, cond_false]
      by_cases h3 : e.Kind = 3
      · have e3 : (e.Kind == 3) = true := by rw [h3]; rfl
        rw [if_pos h3, e3, cond_true, i2 e.List_ e.Ops hg.o hg.s hg.p (fun o ho => (hb.l o ho).2) (fun o ho => ⟨hb.os o ho, hg.os o ho, by have := opE_lt ho; omega⟩) (by omega)]
        rfl
      · have e3 : (e.Kind == 3) = false := by rw [beq_eq_false_iff_ne]; exact h3
        rw [if_neg h3, e3, cond_false]; rfl
    · show b_normal_Ops (lv_normal_Edit k).1 (lv_normal_Edit k).2 l os = _
      exact nOps_ok hlen hsum hok hL fun o ho _ => ⟨i1 o.E (hE o ho).1 (hE o ho).2.1 (by have := (hE o ho).2.2; omega), (hE o ho).1.nE (hE o ho).2.1⟩
theorem nE_ok {e : Ed} (hb : BE e) (hg : GN e) : m_normal_Edit e = some (nE e) := lim_eq (2 * SizeOf.sizeOf e + 2) fun k hk => (nE_lv k).1 e hb hg (by omega)
theorem rnE_lv : ∀ (k : Nat), (∀ e : Ed, BE e → GN e → 2 * SizeOf.sizeOf e + 1 < k → (lv_centoref22_Edit k).1 e = some (nE e)) ∧
    (∀ (l : Int) (os : List EO), os.length ≤ 1048576 → sumT os ≤ 1073741824 → (∀ o ∈ os, opk o) → (∀ o ∈ os, o.L.length * 56 ≤ 140737488355328 ∧ ∀ t ∈ o.L, Bd t) → (∀ o ∈ os, BE o.E ∧ GN o.E ∧ 2 * SizeOf.sizeOf o.E + 2 < k) → 0 < k → (lv_centoref22_Edit k).2 l os = some (nOps l (withE os)))
  | 0 => ⟨fun e _ _ h => by omega, fun l os _ _ _ _ _ h => by omega⟩
  | k + 1 => by
    obtain ⟨i1, i2⟩ := rnE_lv k
    refine ⟨fun e hb hg hk => ?_, fun l os hlen hsum hok hL hE _ => ?_⟩
    · show b_centoref22_Edit (lv_centoref22_Edit k).1 (lv_centoref22_Edit k).2 e = _
      unfold b_centoref22_Edit
      rw [nE_eq]
      by_cases h1 : e.Kind = 1
      · have e1 : (e.Kind == 1) = true := by rw [h1]; rfl
        rw [if_pos h1, e1, cond_true, rnorm_ok hb.old, Option.bind_some, rnorm_ok hb.new]; rfl
      have e1 : (e.Kind == 1) = false := by rw [beq_eq_false_iff_ne]; exact h1
      rw [if_neg h1, e1, cond_false]
      by_cases h2 : e.Kind = 2
      · have e2 : (e.Kind == 2) = true := by rw [h2]; rfl
        have hw := hg.w
        have hkl := hg.k
        have hloop : runLoop (b_centoref22_Edit_L0 (lv_centoref22_Edit k).1 e) (0, ([] : List S_api_KidEdit)) = some ([] ++ e.Kids.map fun x => (⟨x.At, nE x.E⟩ : S_api_KidEdit)) :=
          loop_map e.Kids (fun x => (⟨x.At, nE x.E⟩ : S_api_KidEdit)) _ [] (by omega) (fun i x out hi hx hm ho => by
            unfold b_centoref22_Edit_L0
            simp only
            rw [lt_t hi, cond_true, getI_of hx, Option.bind_some, i1 x.E (hb.ks x hm) (hg.ks x hm) (by have := kidE_lt hm; omega), Option.bind_some]
            simp only [List.length_nil] at ho
            rw [appI_ok (by simp only [List.length_singleton]; omega) (by simp only [List.length_singleton]; omega), Option.bind_some]) (fun out => by
            unfold b_centoref22_Edit_L0
            simp only
            rw [lt_f, cond_false])
        rw [if_pos h2, e2, cond_true, appI_ok (by simp only [List.length_nil]; omega) (by simp only [List.length_nil]; omega), Option.bind_some, hloop, Option.bind_some]
        rfl
      have e2 : (e.Kind == 2) = false := by rw [beq_eq_false_iff_ne]; exact h2
      rw [if_neg h2, e2, cond_false]
      by_cases h3 : e.Kind = 3
      · have e3 : (e.Kind == 3) = true := by rw [h3]; rfl
        rw [if_pos h3, e3, cond_true, i2 e.List_ e.Ops hg.o hg.s hg.p hb.l (fun o ho => ⟨hb.os o ho, hg.os o ho, by have := opE_lt ho; omega⟩) (by omega)]
        rfl
      · have e3 : (e.Kind == 3) = false := by rw [beq_eq_false_iff_ne]; exact h3
        rw [if_neg h3, e3, cond_false]; rfl
    · show b_centoref22_Ops (lv_centoref22_Edit k).1 (lv_centoref22_Edit k).2 l os = _
      exact rnOps_ok hlen hsum hok (fun o ho => (hL o ho).2) (fun o ho => (hL o ho).1) fun o ho _ => i1 o.E (hE o ho).1 (hE o ho).2.1 (by have := (hE o ho).2.2; omega)
theorem rnE_ok {e : Ed} (hb : BE e) (hg : GN e) : m_centoref22_Edit e = some (nE e) := lim_eq (2 * SizeOf.sizeOf e + 2) fun k hk => (rnE_lv k).1 e hb hg (by omega)
theorem sameTrees_refl {L : List Tr} (hl : (L.length : Int) ≤ 140737488355328) (hL : ∀ t ∈ L, Bd t) : m_centoref22_sameTrees L L = some true := by
  unfold m_centoref22_sameTrees
  have e : ((L.length : Int) != (L.length : Int)) = false := by simp
  rw [e, cond_false, loop_all L _ (fun _ => true) (Sum.inl () : Unit ⊕ Unit) (Sum.inr ()) hl (fun i x hi hx hm => by
    unfold m_centoref22_sameTrees_L0
    rw [lt_t hi, cond_true, getI_of hx, Option.bind_some, Option.bind_some, same_ok (hL x hm) (hL x hm), eqT_refl]
    rfl) (by unfold m_centoref22_sameTrees_L0; rw [lt_f]; rfl)]
  simp
theorem esame_lv : ∀ (k : Nat) (e : Ed), BE e → SizeOf.sizeOf e < k → lv_centoref22_Same k e e = some true
  | 0, _, _, h => by omega
  | k + 1, e, hb, hk => by
    show b_centoref22_Same (lv_centoref22_Same k) e e = _
    unfold b_centoref22_Same
    have ne : ∀ x : Int, (x != x) = false := fun x => by simp
    have l0 : runLoop (b_centoref22_Same_L0 e e) 0 = some (if (e.Words.all fun _ => true) = true then Sum.inr () else Sum.inl ()) :=
      loop_all e.Words _ (fun _ => true) (Sum.inl () : Unit ⊕ Unit) (Sum.inr ()) hb.w (fun i x hi hx hm => by
        unfold b_centoref22_Same_L0
        rw [lt_t hi, cond_true, getI_of hx, Option.bind_some, Option.bind_some]
        simp) (by unfold b_centoref22_Same_L0; rw [lt_f]; rfl)
    have l1 : runLoop (b_centoref22_Same_L1 (lv_centoref22_Same k) e e) 0 = some (if (e.Kids.all fun _ => true) = true then Sum.inr () else Sum.inl ()) :=
      loop_all e.Kids _ (fun _ => true) (Sum.inl () : Unit ⊕ Unit) (Sum.inr ()) hb.k (fun i x hi hx hm => by
        unfold b_centoref22_Same_L1
        rw [lt_t hi, cond_true, getI_of hx, Option.bind_some, Option.bind_some, ne, cond_false, esame_lv k x.E (hb.ks x hm) (by have := kidE_lt hm; omega)]
        simp) (by unfold b_centoref22_Same_L1; rw [lt_f]; rfl)
    have l2 : runLoop (b_centoref22_Same_L2 (lv_centoref22_Same k) e e) 0 = some (if (e.Ops.all fun _ => true) = true then Sum.inr () else Sum.inl ()) :=
      loop_all e.Ops _ (fun _ => true) (Sum.inl () : Unit ⊕ Unit) (Sum.inr ()) hb.o (fun i x hi hx hm => by
        have hL := hb.l x hm
        unfold b_centoref22_Same_L2
        rw [lt_t hi, cond_true, getI_of hx, Option.bind_some, Option.bind_some, ne, ne, cond_false, cond_false, sameTrees_refl (by omega) hL.2, Option.bind_some, cond_true, esame_lv k x.E (hb.os x hm) (by have := opE_lt hm; omega)]
        simp) (by unfold b_centoref22_Same_L2; rw [lt_f]; rfl)
    rw [ne, ne, same_ok hb.old hb.old, same_ok hb.new hb.new, eqT_refl, eqT_refl, l0, l1, l2]
    simp
theorem esame_ok {e : Ed} (hb : BE e) : m_centoref22_Same e e = some true := lim_eq (SizeOf.sizeOf e + 1) fun k hk => esame_lv k e hb (by omega)
def lgt (e : Ed) : Bool := (!(decide (2000 < (e.Ops.foldl stR (0, 0)).1) || decide (2000 < (e.Ops.foldl stR (0, 0)).2))) && ((e.Kids.attach.map fun k => lgt k.1.E).all id && (e.Ops.attach.map fun o => lgt o.1.E).all id)
termination_by SizeOf.sizeOf e
decreasing_by
  · exact kidE_lt k.2
  · exact opE_lt o.2
theorem lgt_eq (e : Ed) : lgt e = ((!(decide (2000 < (e.Ops.foldl stR (0, 0)).1) || decide (2000 < (e.Ops.foldl stR (0, 0)).2))) && ((e.Kids.all fun k => lgt k.E) && (e.Ops.all fun o => lgt o.E))) := by
  have h1 : (e.Kids.attach.map fun k => lgt k.1.E) = e.Kids.map fun k => lgt k.E := List.attach_map_val (f := fun k : S_api_KidEdit => lgt k.E)
  have h2 : (e.Ops.attach.map fun o => lgt o.1.E) = e.Ops.map fun o => lgt o.E := List.attach_map_val (f := fun o : EO => lgt o.E)
  rw [lgt, h1, h2, List.all_map, List.all_map]
  rfl
theorem light_lv : ∀ (k : Nat) (e : Ed), BE e → SizeOf.sizeOf e < k → lv_centoref20_Light k e = some (lgt e)
  | 0, _, _, h => by omega
  | k + 1, e, hb, hk => by
    show b_centoref20_Light (lv_centoref20_Light k) e = _
    unfold b_centoref20_Light
    have l0 : runLoop (b_centoref20_Light_L0 (lv_centoref20_Light k) e) 0 = some (if (e.Kids.all fun x => lgt x.E) = true then Sum.inr () else Sum.inl ()) :=
      loop_all e.Kids _ (fun x => lgt x.E) (Sum.inl () : Unit ⊕ Unit) (Sum.inr ()) hb.k (fun i x hi hx hm => by
        unfold b_centoref20_Light_L0
        rw [lt_t hi, cond_true, getI_of hx, Option.bind_some, light_lv k x.E (hb.ks x hm) (by have := kidE_lt hm; omega), Option.bind_some]
        cases lgt x.E <;> rfl) (by unfold b_centoref20_Light_L0; rw [lt_f]; rfl)
    have l1 : runLoop (b_centoref20_Light_L1 (lv_centoref20_Light k) e) 0 = some (if (e.Ops.all fun x => lgt x.E) = true then Sum.inr () else Sum.inl ()) :=
      loop_all e.Ops _ (fun x => lgt x.E) (Sum.inl () : Unit ⊕ Unit) (Sum.inr ()) hb.o (fun i x hi hx hm => by
        unfold b_centoref20_Light_L1
        rw [lt_t hi, cond_true, getI_of hx, Option.bind_some, light_lv k x.E (hb.os x hm) (by have := opE_lt hm; omega), Option.bind_some]
        cases lgt x.E <;> rfl) (by unfold b_centoref20_Light_L1; rw [lt_f]; rfl)
    rw [lgt_eq, lenR_ok hb, Option.bind_some, l0, l1]
    generalize decide (2000 < (e.Ops.foldl stR (0, 0)).1) = q1
    generalize decide (2000 < (e.Ops.foldl stR (0, 0)).2) = q2
    generalize (e.Kids.all fun x => lgt x.E) = q3
    generalize (e.Ops.all fun x => lgt x.E) = q4
    cases q1 <;> cases q2 <;> cases q3 <;> cases q4 <;> rfl
theorem light_ok {e : Ed} (hb : BE e) : m_centoref20_Light e = some (lgt e) := lim_eq (SizeOf.sizeOf e + 1) fun k hk => light_lv k e hb (by omega)
theorem good20 {e : Ed} (hb : BE e) : ∃ b, m_centoref20_Good e = some b ∧ (b = true → rE e 64 = true ∧ ce e ≤ 3000) := by
  obtain ⟨b, h1, h2⟩ := few20 hb
  have h3 := eref_ok hb (d := 64) (by decide)
  rw [show ((64 : Nat) : Int) = 64 from rfl] at h3
  unfold m_centoref20_Good
  rw [h1, Option.bind_some, h3, light_ok hb]
  refine ⟨b && (rE e 64 && lgt e), ?_, fun h => ?_⟩
  · cases b <;> cases rE e 64 <;> cases lgt e <;> rfl
  · simp only [Bool.and_eq_true] at h
    exact ⟨h.2.1, h2 h.1⟩
def swW (w : S_api_WordEdit) : S_api_WordEdit := ⟨w.At, w.Mask, w.New, w.Old⟩
def tE (e : Ed) : Ed :=
  ⟨e.Kind, e.New, e.Old, e.Words.map swW, e.Kids.attach.map (fun k => ⟨k.1.At, tE k.1.E⟩), e.List_, e.Ops.attach.map (fun o => if o.1.Kind = 1 then ⟨2, o.1.N, o.1.L, o.1.E⟩ else if o.1.Kind = 2 then ⟨1, o.1.N, o.1.L, o.1.E⟩ else if o.1.Kind = 3 then ⟨o.1.Kind, o.1.N, o.1.L, tE o.1.E⟩ else o.1)⟩
termination_by SizeOf.sizeOf e
decreasing_by
  · exact kidE_lt k.2
  · exact opE_lt o.2
def tO (o : EO) : EO := if o.Kind = 1 then ⟨2, o.N, o.L, o.E⟩ else if o.Kind = 2 then ⟨1, o.N, o.L, o.E⟩ else if o.Kind = 3 then ⟨o.Kind, o.N, o.L, tE o.E⟩ else o
theorem tE_eq (e : Ed) : tE e = ⟨e.Kind, e.New, e.Old, e.Words.map swW, e.Kids.map (fun k => ⟨k.At, tE k.E⟩), e.List_, e.Ops.map tO⟩ := by
  have h1 : (e.Kids.attach.map fun k => (⟨k.1.At, tE k.1.E⟩ : S_api_KidEdit)) = e.Kids.map fun k => ⟨k.At, tE k.E⟩ := List.attach_map_val (f := fun k : S_api_KidEdit => (⟨k.At, tE k.E⟩ : S_api_KidEdit))
  have h2 : (e.Ops.attach.map fun o => if o.1.Kind = 1 then (⟨2, o.1.N, o.1.L, o.1.E⟩ : EO) else if o.1.Kind = 2 then ⟨1, o.1.N, o.1.L, o.1.E⟩ else if o.1.Kind = 3 then ⟨o.1.Kind, o.1.N, o.1.L, tE o.1.E⟩ else o.1) = e.Ops.map tO := List.attach_map_val (f := tO)
  rw [tE, h1, h2]
theorem tO_1 {o : EO} (h : o.Kind = 1) : tO o = ⟨2, o.N, o.L, o.E⟩ := by unfold tO; rw [if_pos h]
theorem tO_2 {o : EO} (h : o.Kind = 2) : tO o = ⟨1, o.N, o.L, o.E⟩ := by unfold tO; rw [if_neg (by omega), if_pos h]
theorem tO_3 {o : EO} (h : o.Kind = 3) : tO o = ⟨3, o.N, o.L, tE o.E⟩ := by unfold tO; rw [if_neg (by omega), if_neg (by omega), if_pos h, h]
theorem tO_0 {o : EO} (h : ¬ o.Kind = 1) (h2 : ¬ o.Kind = 2) (h3 : ¬ o.Kind = 3) : tO o = o := by unfold tO; rw [if_neg h, if_neg h2, if_neg h3]
theorem tE_tE_n : ∀ (n : Nat) (e : Ed), SizeOf.sizeOf e < n → tE (tE e) = e
  | 0, _, h => by omega
  | n + 1, e, hn => by
    rw [tE_eq e, tE_eq]
    obtain ⟨k, a, b, w, ks, li, os⟩ := e
    simp only [List.map_map]
    have hw : w.map (swW ∘ swW) = w := by
      conv => rhs; rw [← List.map_id w]
      exact List.map_congr_left fun x _ => rfl
    have hk : (ks.map ((fun k : S_api_KidEdit => (⟨k.At, tE k.E⟩ : S_api_KidEdit)) ∘ fun k : S_api_KidEdit => (⟨k.At, tE k.E⟩ : S_api_KidEdit))) = ks := by
      conv => rhs; rw [← List.map_id ks]
      refine List.map_congr_left fun x hx => ?_
      simp only [Function.comp, id]
      rw [tE_tE_n n x.E (by have := kidE_lt (e := ⟨k, a, b, w, ks, li, os⟩) hx; omega)]
      cases x
      rfl
    have ho : os.map (tO ∘ tO) = os := by
      conv => rhs; rw [← List.map_id os]
      refine List.map_congr_left fun x hx => ?_
      simp only [Function.comp, id]
      by_cases h1 : x.Kind = 1
      · rw [tO_1 h1, tO_2 rfl]
        obtain ⟨k, _, _, _⟩ := x
        simp only at h1
        rw [h1]
      by_cases h2 : x.Kind = 2
      · rw [tO_2 h2, tO_1 rfl]
        obtain ⟨k, _, _, _⟩ := x
        simp only at h2
        rw [h2]
      by_cases h3 : x.Kind = 3
      · rw [tO_3 h3, tO_3 rfl, tE_tE_n n x.E (by have := opE_lt (e := ⟨k, a, b, w, ks, li, os⟩) hx; omega)]
        obtain ⟨k, _, _, _⟩ := x
        simp only at h3
        rw [h3]
      · rw [tO_0 h1 h2 h3, tO_0 h1 h2 h3]
    rw [hw, hk, ho]
theorem tE_tE (e : Ed) : tE (tE e) = e := tE_tE_n _ e (Nat.lt_succ_self _)
theorem thN_tO (o : EO) : thN (tO o) = thN o := by
  by_cases h1 : o.Kind = 1
  · rw [tO_1 h1]; simp [thN, h1]
  by_cases h2 : o.Kind = 2
  · rw [tO_2 h2]; simp [thN, h2]
  by_cases h3 : o.Kind = 3
  · rw [tO_3 h3]; simp [thN, h3]
  · rw [tO_0 h1 h2 h3]
theorem opk_tO {o : EO} (h : opk o) : opk (tO o) := by
  rcases h with ⟨k, h⟩ | ⟨k, h⟩ | ⟨k, h⟩ | k
  · rw [tO_0 (by omega) (by omega) (by omega)]; exact .inl ⟨k, h⟩
  · rw [tO_1 k]; exact .inr (.inr (.inl ⟨rfl, h⟩))
  · rw [tO_2 k]; exact .inr (.inl ⟨rfl, h⟩)
  · rw [tO_3 k]; exact .inr (.inr (.inr rfl))
theorem tO_L (o : EO) : (tO o).L = o.L := by
  by_cases h1 : o.Kind = 1
  · exact (congrArg S_api_Op.L (tO_1 h1) :)
  by_cases h2 : o.Kind = 2
  · exact (congrArg S_api_Op.L (tO_2 h2) :)
  by_cases h3 : o.Kind = 3
  · exact (congrArg S_api_Op.L (tO_3 h3) :)
  · exact (congrArg S_api_Op.L (tO_0 h1 h2 h3) :)
theorem tE_good : ∀ (n : Nat) (e : Ed), SizeOf.sizeOf e < n → BE e → GN e → BE (tE e) ∧ GN (tE e)
  | 0, _, h, _, _ => by omega
  | n + 1, e, hn, hb, hg => by
    have ik : ∀ k ∈ e.Kids, BE (tE k.E) ∧ GN (tE k.E) := fun k hk => tE_good n k.E (by have := kidE_lt hk; omega) (hb.ks k hk) (hg.ks k hk)
    have io : ∀ o ∈ e.Ops, BE (tO o).E ∧ GN (tO o).E := fun o ho => by
      have hn' : SizeOf.sizeOf o.E < n := by have := opE_lt ho; omega
      unfold tO
      split
      · exact ⟨hb.os o ho, hg.os o ho⟩
      · split
        · exact ⟨hb.os o ho, hg.os o ho⟩
        · split
          · exact tE_good n o.E hn' (hb.os o ho) (hg.os o ho)
          · exact ⟨hb.os o ho, hg.os o ho⟩
    rw [tE_eq]
    refine ⟨.mk _ hb.new hb.old (by simp only [List.length_map]; exact hb.w) (fun w hw => ?_) (by simp only [List.length_map]; exact hb.k) (fun k hk => ?_) (by simp only [List.length_map]; exact hb.o) (fun o ho => ?_) (fun o ho => ?_),
      .mk _ (by simp only [List.length_map]; exact hg.w) (by simp only [List.length_map]; exact hg.k) (by simp only [List.length_map]; exact hg.o) ?_ (fun o ho => ?_) (fun k hk => ?_) (fun o ho => ?_)⟩
    · obtain ⟨x, hx, rfl⟩ := List.mem_map.1 hw
      have := hb.ws x hx
      exact ⟨this.1, this.2.2, this.2.1⟩
    · obtain ⟨x, hx, rfl⟩ := List.mem_map.1 hk
      exact (ik x hx).1
    · obtain ⟨x, hx, rfl⟩ := List.mem_map.1 ho
      rw [tO_L]; exact hb.l x hx
    · obtain ⟨x, hx, rfl⟩ := List.mem_map.1 ho
      exact (io x hx).1
    · have : sumT (e.Ops.map tO) = sumT e.Ops := by
        unfold sumT
        rw [List.map_map]
        congr 1
        exact List.map_congr_left fun x _ => thN_tO x
      rw [this]; exact hg.s
    · obtain ⟨x, hx, rfl⟩ := List.mem_map.1 ho
      exact opk_tO (hg.p x hx)
    · obtain ⟨x, hx, rfl⟩ := List.mem_map.1 hk
      exact (ik x hx).2
    · obtain ⟨x, hx, rfl⟩ := List.mem_map.1 ho
      exact (io x hx).2
theorem BE.tE {e : Ed} (hb : BE e) (hg : GN e) : BE (tE e) := (tE_good _ e (Nat.lt_succ_self _) hb hg).1
theorem GN.tE {e : Ed} (hb : BE e) (hg : GN e) : GN (tE e) := (tE_good _ e (Nat.lt_succ_self _) hb hg).2
theorem pushK_pushK (F : List EO) (a b : Int) : pushK (pushK F a) b = pushK F (a + b) := by
  by_cases hk : ∃ o, F.getLast? = some o ∧ o.Kind = 0
  · obtain ⟨o, ho, hk0⟩ := hk
    obtain ⟨o', ho'⟩ := List.getLast?_eq_some_iff.1 ho
    obtain ⟨k, N, L, E⟩ := o
    simp only at hk0
    subst hk0 ho'
    rw [pushK_snoc, pushK_snoc, pushK_snoc, Int.add_assoc]
  · have hn : ∀ o, F.getLast? = some o → o.Kind ≠ 0 := fun o ho h0 => hk ⟨o, ho, h0⟩
    rw [pushK_nk hn, pushK_snoc, pushK_nk hn]
theorem idle_tE (l : Int) (e : Ed) : idleE l (nE (tE e)) = idleE l (nE e) := by
  rw [nE_eq, nE_eq, tE_eq]
  simp only
  by_cases h1 : e.Kind = 1
  · rw [if_pos h1, if_pos h1]; simp [idleE]
  rw [if_neg h1, if_neg h1]
  by_cases h2 : e.Kind = 2
  · rw [if_pos h2, if_pos h2]; simp [idleE]
  rw [if_neg h2, if_neg h2]
  by_cases h3 : e.Kind = 3
  · rw [if_pos h3, if_pos h3]; simp [idleE]
  · rw [if_neg h3, if_neg h3]
def mapT (l : List EO) : List EO := l.map tO
theorem mapT_app (a b : List EO) : mapT (a ++ b) = mapT a ++ mapT b := by simp [mapT]
structure TR (l : Int) (s s' : NW) : Prop where
  out : (withE (mapT s.out)).foldl (stN l) s0N = ⟨s'.out, [], []⟩
  gone : s'.gone = s.come
  come : s'.come = s.gone
theorem TR.flush {l : Int} {s s' : NW} (h : TR l s s') (hn : NInv l s) : (withE (mapT s.flush)).foldl (stN l) s0N = s' := by
  unfold NW.flush
  rw [mapT_app, withE_app, List.foldl_append, h.out, mapT_app, withE_app, List.foldl_append]
  have e1 : (withE (mapT (delO s.gone))).foldl (stN l) ⟨s'.out, [], []⟩ = ⟨s'.out, [], s.gone⟩ := by
    by_cases hg : s.gone = []
    · rw [hg]; rfl
    · rw [delO_ne hg]; simp [mapT, tO, withE, stN, hn.gone]
  have e2 : (withE (mapT (insO s.come))).foldl (stN l) ⟨s'.out, [], s.gone⟩ = ⟨s'.out, s.come, s.gone⟩ := by
    by_cases hg : s.come = []
    · rw [hg]; rfl
    · rw [insO_ne hg]; simp [mapT, tO, withE, stN, hn.come]
  rw [e1, e2, ← h.gone, ← h.come]
theorem tO_keep (N : Int) (L : List Tr) (E : Ed) : tO ⟨0, N, L, E⟩ = ⟨0, N, L, E⟩ := tO_0 (by simp) (by simp) (by simp)
theorem TR.keep {l : Int} {s s' : NW} (h : TR l s s') (hn : NInv l s) (n : Int) : TR l ⟨pushK s.flush n, [], []⟩ ⟨pushK s'.flush n, [], []⟩ := by
  refine ⟨?_, rfl, rfl⟩
  have hfl := h.flush hn
  by_cases hk : ∃ o, s.flush.getLast? = some o ∧ o.Kind = 0
  · obtain ⟨o, ho, hk0⟩ := hk
    rcases flush_last ho with h12 | ⟨g1, g2, g3⟩
    · omega
    · have hf : s.flush = s.out := by unfold NW.flush; rw [g1, g2]; simp [delO, insO]
      obtain ⟨o', ho'⟩ := List.getLast?_eq_some_iff.1 g3
      obtain ⟨a1, a2, a3, _⟩ := hn.last o' o ho' hk0
      obtain ⟨k, N, L, E⟩ := o
      simp only at hk0 a1 a2
      subst hk0 a1 a2
      rw [hf, ho'] at hfl ⊢
      rw [pushK_snoc]
      simp only
      rw [mapT_app, withE_app, List.foldl_append] at hfl ⊢
      generalize (withE (mapT o')).foldl (stN l) s0N = r at *
      have e : ∀ M : Int, (withE (mapT [(⟨0, M, [], eS0⟩ : EO)])).foldl (stN l) r = ⟨pushK r.flush M, [], []⟩ := fun M => by
        unfold mapT
        rw [List.map_cons, List.map_nil, tO_keep]
        exact stN_keep (l := l)
      rw [e] at hfl ⊢
      rw [← hfl, flush_plain, pushK_pushK]
  · have hk' : ∀ o, s.flush.getLast? = some o → o.Kind ≠ 0 := fun o ho h0 => hk ⟨o, ho, h0⟩
    rw [pushK_nk hk']
    simp only
    rw [mapT_app, withE_app, List.foldl_append, hfl]
    unfold mapT
    rw [List.map_cons, List.map_nil, tO_keep]
    exact stN_keep (l := l)
theorem TR.step {l : Int} {s s' : NW} (h : TR l s s') (hn : NInv l s) {o : EO} (ho : opk o) (hE : o.Kind = 3 → nE (tE (nE o.E)) = nE (tE o.E)) : TR l (stN l s (o, nE o.E)) (stN l s' (tO o, nE (tO o).E)) := by
  rcases ho with ⟨k, _⟩ | ⟨k, _⟩ | ⟨k, _⟩ | k
  · rw [tO_0 (by omega) (by omega) (by omega)]
    have := h.keep hn o.N
    unfold stN
    simp only [k, show ¬ (0 : Int) = 1 from by decide, show ¬ (0 : Int) = 2 from by decide, if_false, if_true]
    exact this
  · rw [tO_1 k]
    unfold stN
    simp only [k, show ¬ (2 : Int) = 1 from by decide, if_false, if_true]
    exact ⟨h.out, h.gone, by rw [h.come]⟩
  · rw [tO_2 k]
    unfold stN
    simp only [k, show ¬ (2 : Int) = 1 from by decide, if_false, if_true]
    exact ⟨h.out, by rw [h.gone], h.come⟩
  · rw [tO_3 k]
    have hi := idle_tE l o.E
    have hfl := h.flush hn
    have hk := h.keep hn 1
    unfold stN
    simp only [k, show ¬ (3 : Int) = 1 from by decide, show ¬ (3 : Int) = 2 from by decide, show ¬ (3 : Int) = 0 from by decide, if_false, hi]
    cases hid : idleE l (nE o.E) with
    | true => simp only [if_true]; exact hk
    | false =>
      simp only [Bool.false_eq_true, if_false]
      refine ⟨?_, rfl, rfl⟩
      simp only
      rw [mapT_app, withE_app, List.foldl_append, hfl]
      unfold mapT
      rw [List.map_cons, List.map_nil, tO_3 rfl]
      show stN l s' (⟨3, 0, [], tE (nE o.E)⟩, nE (tE (nE o.E))) = _
      have hi2 := idle_tE l (nE o.E)
      rw [nE_nE, hid] at hi2
      unfold stN
      simp only [show ¬ (3 : Int) = 1 from by decide, show ¬ (3 : Int) = 2 from by decide, show ¬ (3 : Int) = 0 from by decide, if_false, hi2, Bool.false_eq_true]
      rw [hE k]
theorem TR.fold {l : Int} : ∀ (os : List EO) (s s' : NW), TR l s s' → NInv l s → (∀ o ∈ os, opk o ∧ (o.Kind = 3 → nE (tE (nE o.E)) = nE (tE o.E))) → TR l ((withE os).foldl (stN l) s) ((withE (mapT os)).foldl (stN l) s') ∧ NInv l ((withE os).foldl (stN l) s)
  | [], s, s', h, hn, _ => ⟨h, hn⟩
  | o :: os, s, s', h, hn, hq => by
    obtain ⟨q1, q2⟩ := hq o (by simp)
    exact TR.fold os _ _ (h.step hn q1 q2) (hn.step (nE_nE _)) fun x hx => hq x (by simp [hx])
theorem nE_tE_n : ∀ (n : Nat) (e : Ed), SizeOf.sizeOf e < n → GN e → nE (tE (nE e)) = nE (tE e)
  | 0, _, h, _ => by omega
  | n + 1, e, hn, hg => by
    rw [nE_eq e]
    by_cases h1 : e.Kind = 1
    · rw [if_pos h1, nE_eq, nE_eq (tE e), tE_eq, tE_eq e]
      simp [h1, nrm_nrm]
    rw [if_neg h1]
    by_cases h2 : e.Kind = 2
    · rw [if_pos h2, nE_eq, nE_eq (tE e), tE_eq, tE_eq e]
      simp only [h2, show ¬ (2 : Int) = 1 from by decide, if_false, if_true, List.map_map]
      congr 1
      refine List.map_congr_left fun k hk => ?_
      simp only [Function.comp]
      rw [nE_tE_n n k.E (by have := kidE_lt hk; omega) (hg.ks k hk)]
    rw [if_neg h2]
    by_cases h3 : e.Kind = 3
    · rw [if_pos h3, nE_eq, nE_eq (tE e), tE_eq, tE_eq e]
      simp only [h3, show ¬ (3 : Int) = 1 from by decide, show ¬ (3 : Int) = 2 from by decide, if_false, if_true]
      congr 1
      obtain ⟨ht, hni⟩ := TR.fold (l := e.List_) e.Ops s0N s0N ⟨rfl, rfl, rfl⟩ ⟨rfl, fun o' o he => by simp [s0N] at he, rfl, rfl⟩ fun o ho => ⟨hg.p o ho, fun _ => nE_tE_n n o.E (by have := opE_lt ho; omega) (hg.os o ho)⟩
      have := ht.flush hni
      unfold nOps
      show ((withE (mapT _)).foldl (stN e.List_) s0N).flush = _
      rw [this]
      rfl
    · rw [if_neg h3, nE_eq, nE_eq (tE e), tE_eq, tE_eq e]
      simp [h1, h2, h3, eS0]
theorem nE_tE {e : Ed} (hg : GN e) : nE (tE (nE e)) = nE (tE e) := nE_tE_n _ e (Nat.lt_succ_self _) hg
theorem turned_lv : ∀ (k : Nat), (∀ e : Ed, GN e → 2 * SizeOf.sizeOf e < k → (lv_invert_turned k).1 e = some (tE e)) ∧ (∀ o : EO, GN o.E → 2 * SizeOf.sizeOf o.E + 1 < k → (lv_invert_turned k).2 o = some (tO o))
  | 0 => ⟨fun e _ h => by omega, fun o _ h => by omega⟩
  | k + 1 => by
    obtain ⟨i1, i2⟩ := turned_lv k
    refine ⟨fun e hg hk => ?_, fun o hg hk => ?_⟩
    · show b_invert_turned (lv_invert_turned k).1 (lv_invert_turned k).2 e = _
      have hw := hg.w
      have hkk := hg.k
      have hoo := hg.o
      have l0 : runLoop (b_invert_turned_L0 e) (0, ([] : List S_api_WordEdit)) = some ([] ++ e.Words.map swW) :=
        loop_map e.Words swW _ [] (by omega) (fun i x out hi hx hm ho => by
          unfold b_invert_turned_L0
          simp only
          simp only [List.length_nil] at ho
          rw [lt_t hi, cond_true, getI_of hx, Option.bind_some, appI_ok (by simp only [List.length_singleton]; omega) (by simp only [List.length_singleton]; omega), Option.bind_some]
          rfl) (fun out => by
          unfold b_invert_turned_L0
          simp only
          rw [lt_f, cond_false])
      have l1 : runLoop (b_invert_turned_L1 (lv_invert_turned k).1 e) (0, ([] : List S_api_KidEdit)) = some ([] ++ e.Kids.map fun x => (⟨x.At, tE x.E⟩ : S_api_KidEdit)) :=
        loop_map e.Kids (fun x => (⟨x.At, tE x.E⟩ : S_api_KidEdit)) _ [] (by omega) (fun i x out hi hx hm ho => by
          unfold b_invert_turned_L1
          simp only
          simp only [List.length_nil] at ho
          rw [lt_t hi, cond_true, getI_of hx, Option.bind_some, i1 x.E (hg.ks x hm) (by have := kidE_lt hm; omega), Option.bind_some, appI_ok (by simp only [List.length_singleton]; omega) (by simp only [List.length_singleton]; omega), Option.bind_some]) (fun out => by
          unfold b_invert_turned_L1
          simp only
          rw [lt_f, cond_false])
      have l2 : runLoop (b_invert_turned_L2 (lv_invert_turned k).2 e) (0, ([] : List EO)) = some ([] ++ e.Ops.map tO) :=
        loop_map e.Ops tO _ [] (by omega) (fun i x out hi hx hm ho => by
          unfold b_invert_turned_L2
          simp only
          simp only [List.length_nil] at ho
          rw [lt_t hi, cond_true, getI_of hx, Option.bind_some, i2 x (hg.os x hm) (by have := opE_lt hm; omega), Option.bind_some, appI_ok (by simp only [List.length_singleton]; omega) (by simp only [List.length_singleton]; omega), Option.bind_some]) (fun out => by
          unfold b_invert_turned_L2
          simp only
          rw [lt_f, cond_false])
      unfold b_invert_turned
      rw [l0, Option.bind_some, l1, Option.bind_some, l2, Option.bind_some, tE_eq]
      simp only [List.nil_append]
    · show b_invert_turnedOp (lv_invert_turned k).1 (lv_invert_turned k).2 o = _
      unfold b_invert_turnedOp tO
      by_cases h1 : o.Kind = 1
      · have e1 : (o.Kind == 1) = true := by rw [h1]; rfl
        rw [if_pos h1, e1, cond_true, Option.bind_some]
        simp only
        rw [ed_eta]
      have e1 : (o.Kind == 1) = false := by rw [beq_eq_false_iff_ne]; exact h1
      rw [if_neg h1, e1, cond_false]
      by_cases h2 : o.Kind = 2
      · have e2 : (o.Kind == 2) = true := by rw [h2]; rfl
        rw [if_pos h2, e2, cond_true, Option.bind_some]
        simp only
        rw [ed_eta]
      have e2 : (o.Kind == 2) = false := by rw [beq_eq_false_iff_ne]; exact h2
      rw [if_neg h2, e2, cond_false]
      by_cases h3 : o.Kind = 3
      · have e3 : (o.Kind == 3) = true := by rw [h3]; rfl
        rw [if_pos h3, e3, cond_true, i1 o.E hg (by omega), Option.bind_some, Option.bind_some]
        simp only
        rw [ed_eta]
      · have e3 : (o.Kind == 3) = false := by rw [beq_eq_false_iff_ne]; exact h3
        rw [if_neg h3, e3, cond_false, Option.bind_some]
        simp only
        rw [ed_eta]
        obtain ⟨a, b, c, d⟩ := o
        rfl
theorem invert_ok {e : Ed} (hb : BE e) (hg : GN e) : m_invert_Edit e = some (nE (tE e)) := by
  have h : m_invert_turned e = some (tE e) := lim_eq (2 * SizeOf.sizeOf e + 1) fun k hk => (turned_lv k).1 e hg (by omega)
  unfold m_invert_Edit
  rw [h, Option.bind_some, nE_ok (hb.tE hg) (GN.tE hb hg)]
  rfl
def aw23 : Ed := ⟨3, ⟨0, [], []⟩, ⟨0, [], []⟩, [], [], 4, [⟨2, 0, [⟨10, [1], []⟩], eS0⟩, ⟨0, 1, [], eS0⟩]⟩
theorem awake23 : m_centolaw23_awake = some true := by
  have b1 : Bd ⟨10, [1], []⟩ := .mk _ (by simp) (by simp) (by simp) (fun k h => by simp at h)
  have hn : nrm ⟨10, [1], []⟩ = ⟨10, [1], []⟩ := by rw [nrm_list (by simp) (by simp)]; rfl
  have hb : BE aw23 := .mk _ bd_n0 bd_n0 (by simp [aw23]) (by simp [aw23]) (by simp [aw23]) (by simp [aw23]) (by simp [aw23]) (fun o ho => by
      simp only [aw23, List.mem_cons, List.not_mem_nil, or_false] at ho
      rcases ho with h | h <;> subst h <;> simp
      exact b1) (fun o ho => by
      simp only [aw23, List.mem_cons, List.not_mem_nil, or_false] at ho
      rcases ho with h | h <;> subst h <;> exact be_s0)
  have hg : GN aw23 := .mk _ (by simp [aw23]) (by simp [aw23]) (by simp [aw23]) (by simp [aw23, sumT, thN]) (by simp [aw23, opk]) (by simp [aw23]) (fun o ho => by
      simp only [aw23, List.mem_cons, List.not_mem_nil, or_false] at ho
      rcases ho with h | h <;> subst h <;> exact gn_s0)
  have hv : nE (tE aw23) = ⟨3, n0T, n0T, [], [], 4, [⟨1, 0, [⟨10, [1], []⟩], eS0⟩, ⟨0, 1, [], eS0⟩]⟩ := by
    rw [tE_eq, nE_eq]
    simp [aw23, tO, nOps, withE, stN, s0N, hn, NW.flush, delO, insO, pushK]
  have h := invert_ok hb hg
  rw [hv] at h
  unfold m_centolaw23_awake
  refine Option.bind_eq_some_iff.2 ⟨_, h, ?_⟩
  rfl
theorem invertTwice_p {e : Ed} (hb : BE e) : m_centolaw23_InvertTwice e = some true := by
  obtain ⟨b, h1, h2⟩ := good20 hb
  unfold m_centolaw23_InvertTwice
  rw [h1, Option.bind_some]
  cases b with
  | false => rw [awake23]; rfl
  | true =>
    obtain ⟨r1, r2⟩ := h2 rfl
    have hg := gn_rE _ e 64 (Nat.lt_succ_self _) hb (by omega) r1
    have hbt := hb.tE hg
    have hgt := GN.tE hb hg
    have h3 : nE (tE (nE (tE e))) = nE e := by rw [nE_tE hgt, tE_tE]
    rw [Bool.not_true, cond_false, invert_ok hb hg, Option.bind_some, invert_ok (hbt.nE hgt) (GN.nE hbt hgt), Option.bind_some, h3, rnE_ok hb hg, Option.bind_some, esame_ok (hb.nE hg), Option.bind_some, cond_true, awake23]
    rfl
end Go.Proofs.Ytbcgiaijjaocdaa
