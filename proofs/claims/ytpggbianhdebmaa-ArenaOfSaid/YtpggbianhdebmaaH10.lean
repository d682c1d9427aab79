/- Part H10 of the ghost memory: lemmas and contracts used by the proofs of this seat's laws; each theorem bears its own conditions. -/
import Derived.Test.YtpggbianhdebmaaH9
import Derived.WalkKit
import Derived.WalkSpells
import Derived.WalkLawsBesides
import Derived.Lib.Hide
import Derived.BigQuiet
import Derived.StillTailTactics
import Derived.Deep.RegionHeld3
import Derived.Deep.AppendLies
import Derived.Laws.CopyOwn
import Derived.Deep.DeepCutAuto
import Derived.Deep.QuietTactic
import Derived.Maps.AppendAt
import Derived.Great.BuildSlice
import Derived.Laws.StructEq
import Derived.ChangeKeysEq
import Derived.IntWalk
import Derived.Lib.AppendZeros
import Derived.Lib.AppendZerosOnto
import Derived.ProofKit
import Derived.OpenShut
import Derived.SizedLaws
import Derived.Deep.Slices
namespace Go.Proofs.Ytpggbianhdebmaa
open Go.RowKit
set_option linter.unusedVariables false
set_option linter.unusedSimpArgs false
section
variable {P : Program} {T : Tab}
/-- whether an operation is one that all others are surely ahead of, or behind -/
def isBar (bs : List Bool) (i : Nat) : Bool := bs.getD i false
/-- edges lead back, what conflicts is in order, and so is all with a bar -/
def orderlyB (ops : List Oper) (bs : List Bool) : Bool :=
  let B := befs ops []
  (List.range ops.length).all fun i => match ops[i]? with
    | none => true
    | some o => (o.after.toList.all fun e => !Region.binds .any e || e.on < i) &&
      (List.range i).all fun j => match ops[j]? with
        | none => true
        | some y => (!isBar bs i && !isBar bs j && indep ops o y) || (B.getD i []).contains j
/-- from here on, in the text's order -/
def runB (P : Program) (T : Tab) (ops : List Oper) (bs : List Bool) : List Nat → Env → Objs → Nat → GK → Prop
  | [], E, O, n, K => K E O n
  | i :: l, E, O, n, K => match ops[i]? with
    | none => runB P T ops bs l E O n K
    | some o => if isBar bs i = true then gwant ops E o = some true ∧ gop P T E O n o.op fun g O' n' => runB P T ops bs l (gputE E o.dst g) O' n' K
        else ∃ r, PS P T ops O n E o r ∧ runB P T ops bs l (gputE E o.dst r) O n K
theorem runB_split {ops : List Oper} {bs : List Bool} {O : Objs} {n : Nat} {K : GK} : ∀ (A B : List Nat) (E : Env), (∀ i ∈ A, isBar bs i = false) → runB P T ops bs (A ++ B) E O n K → ∃ Ef, Run P T ops O n (A.filterMap (ops[·]?)) E Ef ∧ runB P T ops bs B Ef O n K
  | [], B, E, _, h => ⟨E, EqE.refl E, h⟩
  | i :: A, B, E, hA, h => by
    simp only [List.cons_append, runB] at h
    split at h
    · rename_i hi
      obtain ⟨Ef, h1, h2⟩ := runB_split A B E (fun j hj => hA j (.tail _ hj)) h
      exact ⟨Ef, by rw [List.filterMap_cons]; simp only [hi]; exact h1, h2⟩
    · rename_i o hi
      rw [if_neg (by rw [hA i (.head _)]; exact Bool.false_ne_true)] at h
      obtain ⟨r, h0, h⟩ := h
      obtain ⟨Ef, h1, h2⟩ := runB_split A B _ (fun j hj => hA j (.tail _ hj)) h
      exact ⟨Ef, by rw [List.filterMap_cons]; simp only [hi]; exact ⟨r, h0, h1⟩, h2⟩
theorem bar_split (bs : List Bool) : ∀ R : List Nat, ∃ A B, R = A ++ B ∧ (∀ i ∈ A, isBar bs i = false) ∧ (∀ b B', B = b :: B' → isBar bs b = true)
  | [] => ⟨[], [], rfl, fun _ h => (by cases h), fun _ _ h => (by cases h)⟩
  | i :: R => by
    cases hi : isBar bs i with
    | true => exact ⟨[], i :: R, rfl, fun _ h => (by cases h), fun b B' h => (by injection h with h _; rw [← h]; exact hi)⟩
    | false =>
      obtain ⟨A, B, h1, h2, h3⟩ := bar_split bs R
      refine ⟨i :: A, B, by rw [h1]; rfl, fun j hj => ?_, h3⟩
      cases hj with
      | head => exact hi
      | tail _ hj => exact h2 j hj
theorem any_soundB (hT : TabOk P T) {ops : List Oper} {bs : List Bool} (hord : orderlyB ops bs = true) {Q : Exit → Act → World → Prop} {K : GK} :
    ∀ (fuel : Nat) (listed : Array Bool) (A B : List Nat) (w : World) (O : Objs) (m : Hands) (n : Nat) (E Ef : Env) (a : Act), listed.size = ops.length → A ++ B = rest ops listed → (A ++ B).length ≤ fuel →
    (∀ i o, ops[i]? = some o → listed.getD i true = true → ∀ e ∈ o.after.toList, Region.binds .any e = true → listed.getD e.on false = true) →
    (∀ i ∈ A, isBar bs i = false) → (∀ b B', B = b :: B' → isBar bs b = true) →
    Run P T ops O n (A.filterMap (ops[·]?)) E Ef → runB P T ops bs B Ef O n K → Mem w O m n → Holds w O m n E a →
    (∀ w' O' m' n' E' a', K E' O' n' → Mem w' O' m' n' → Holds w' O' m' n' E' a' → Ext w O m n w' O' m' n' → Q .normal a' w') → wpAny P .any ops.toArray Q fuel listed a w := by
  have hall := List.all_eq_true.1 hord
  have hb : ∀ i o, ops[i]? = some o → ∀ e ∈ o.after.toList, Region.binds .any e = true → e.on < i := fun i o ho e he hbd => by
    have hi : i < ops.length := by
      rcases Nat.lt_or_ge i ops.length with h | h
      · exact h
      · rw [List.getElem?_eq_none h] at ho; cases ho
    have := hall i (List.mem_range.2 hi)
    simp only [ho, Bool.and_eq_true, List.all_eq_true] at this
    have h2 := this.1 e he
    rw [hbd] at h2
    simpa using h2
  have hc : ∀ i o j y, ops[i]? = some o → ops[j]? = some y → j < i → (isBar bs i = false ∧ isBar bs j = false ∧ indep ops o y = true) ∨ j ∈ (befs ops []).getD i [] := fun i o j y ho hy hj => by
    have hi : i < ops.length := by
      rcases Nat.lt_or_ge i ops.length with h | h
      · exact h
      · rw [List.getElem?_eq_none h] at ho; cases ho
    have := hall i (List.mem_range.2 hi)
    simp only [ho, Bool.and_eq_true, List.all_eq_true] at this
    have h2 := this.2 j (List.mem_range.2 hj)
    simp only [hy, Bool.or_eq_true, List.contains_iff_mem, Bool.and_eq_true, Bool.not_eq_true'] at h2
    rcases h2 with h2 | h2
    · exact .inl ⟨h2.1.1, h2.1.2, h2.2⟩
    · exact .inr h2
  intro fuel
  induction fuel with
  | zero =>
    intro listed A B w O m n E Ef a hsz hR hlen hdown hA hB hrun hrunB hM hE hQ
    have h0 : A ++ B = [] := List.eq_nil_of_length_eq_zero (by omega)
    obtain ⟨rfl, rfl⟩ := List.append_eq_nil_iff.1 h0
    have hrun' : EqE E Ef := hrun
    refine ⟨?_, hQ w O m n Ef a hrunB hM (hE.eqE hrun') (Ext.refl _ _ _ _)⟩
    unfold Region.ready
    refine List.filter_eq_nil_iff.2 fun i hi => ?_
    have : i ∉ rest ops listed := by rw [← hR]; simp
    unfold rest at this
    have hi' : i < ops.length := by simpa using hi
    simp [hi'] at this
    simp [this]
  | succ fuel ih =>
    intro listed A B w O m n E Ef a hsz hR hlen hdown hA hB hrun hrunB hM hE hQ
    have hmem : ∀ i, i ∈ A ++ B ↔ i < ops.length ∧ listed.getD i true = false := fun i => by rw [hR]; unfold rest; simp
    have hs : (A ++ B).Pairwise (· < ·) := by rw [hR]; exact List.Pairwise.filter _ List.pairwise_lt_range
    refine ⟨fun hnil => ?_, fun i hi => ?_⟩
    · have h0 : A ++ B = [] := by
        cases hRR : A ++ B with
        | nil => rfl
        | cons i R' =>
          exfalso
          have hi : i ∈ A ++ B := by rw [hRR]; exact .head _
          have hmin : ∀ k ∈ A ++ B, i ≤ k := by
            rw [hRR] at hs ⊢
            intro k hk
            cases hk with
            | head => exact Nat.le_refl _
            | tail _ hk => exact Nat.le_of_lt ((List.pairwise_cons.1 hs).1 k hk)
          obtain ⟨h1, h2⟩ := (hmem i).1 hi
          have : i ∈ Region.ready .any ops.toArray listed := by
            unfold Region.ready
            refine List.mem_filter.2 ⟨by simpa using h1, ?_⟩
            have ho : ops.toArray[i]? = some ops[i] := by simp [h1]
            rw [h2, ho]
            simp only [Bool.not_false, Option.map_some, Option.getD_some, Bool.true_and, ← Array.all_toList, List.all_eq_true]
            intro e he
            by_cases hbd : Region.binds .any e = true
            · have hlt := hb i _ (List.getElem?_eq_getElem h1) e he hbd
              have hnot : e.on ∉ A ++ B := fun h => by have := hmin _ h; omega
              have : listed.getD e.on true = true := by
                cases hq : listed.getD e.on true with
                | true => rfl
                | false => exact absurd ((hmem e.on).2 ⟨by omega, hq⟩) hnot
              have hin : e.on < listed.size := by omega
              have : listed.getD e.on false = true := by simpa [Array.getD, hin] using this
              simp [this]
            · simp [hbd]
          rw [hnil] at this
          cases this
      obtain ⟨rfl, rfl⟩ := List.append_eq_nil_iff.1 h0
      have hrun' : EqE E Ef := hrun
      exact hQ w O m n Ef a hrunB hM (hE.eqE hrun') (Ext.refl _ _ _ _)
    · unfold Region.ready at hi
      obtain ⟨hi1, hi2⟩ := List.mem_filter.1 hi
      have hil : i < ops.length := by simpa using hi1
      have ho : ops[i]? = some ops[i] := List.getElem?_eq_getElem hil
      have hoA : ops.toArray[i]? = some ops[i] := by simp [hil]
      rw [Bool.and_eq_true, hoA] at hi2
      have hun : listed.getD i true = false := by simpa using hi2.1
      have haft : ∀ e ∈ (ops[i]).after.toList, Region.binds .any e = true → listed.getD e.on false = true := fun e he hbd => by
        have := hi2.2
        simp only [Option.map_some, Option.getD_some, ← Array.all_toList, List.all_eq_true] at this
        have := this e he
        rw [hbd] at this
        simpa using this
      have hclos : ∀ N k o, k ≤ N → ops[k]? = some o → (∀ e ∈ o.after.toList, Region.binds .any e = true → listed.getD e.on false = true) → ∀ j ∈ (befs ops []).getD k [], listed.getD j false = true := by
        intro N
        induction N with
        | zero =>
          intro k o hk hko hka j hj
          have hkl : k < ops.length := by
            rcases Nat.lt_or_ge k ops.length with h | h
            · exact h
            · rw [List.getElem?_eq_none h] at hko; cases hko
          obtain ⟨e, he, hbd, hj⟩ := befs_mem ops hb ops [] [] rfl rfl k o hko j hj (by simpa using hkl) (Nat.zero_le _)
          have := hb k o hko e he hbd
          omega
        | succ N ihN =>
          intro k o hk hko hka j hj
          have hkl : k < ops.length := by
            rcases Nat.lt_or_ge k ops.length with h | h
            · exact h
            · rw [List.getElem?_eq_none h] at hko; cases hko
          obtain ⟨e, he, hbd, hj⟩ := befs_mem ops hb ops [] [] rfl rfl k o hko j hj (by simpa using hkl) (Nat.zero_le _)
          have hlt := hb k o hko e he hbd
          rcases hj with rfl | hj
          · exact hka e he hbd
          · have hel : e.on < ops.length := by omega
            have hin : e.on < listed.size := by omega
            refine ihN e.on _ (by omega) (List.getElem?_eq_getElem hel) (fun e' he' hbd' => hdown e.on _ (List.getElem?_eq_getElem hel) ?_ e' he' hbd') j hj
            have := hka e he hbd
            simpa [Array.getD, hin] using this
      have hin : i < listed.size := by omega
      have notbef : ∀ j, listed.getD j true = false → j < ops.length → j ∉ (befs ops []).getD i [] := fun j hul hjl h => by
        have := hclos i i _ (Nat.le_refl _) ho haft j h
        have hin : j < listed.size := by omega
        have h3 : listed.getD j true = true := by simpa [Array.getD, hin] using this
        rw [hul] at h3; cases h3
      have hrest : ∀ R1 R2, A ++ B = R1 ++ i :: R2 → R1 ++ R2 = rest ops (listed.setIfInBounds i true) := fun R1 R2 hRR => by
        have e1 : rest ops (listed.setIfInBounds i true) = (rest ops listed).filter (· ≠ i) := by
          unfold rest
          rw [List.filter_filter]
          refine List.filter_congr fun k hk => ?_
          by_cases hki : k = i
          · subst hki; simp [Array.getD, hin]
          · simp [Array.getD_eq_getD_getElem?, Array.getElem?_setIfInBounds_ne (Ne.symm hki), hki]
        rw [e1, ← hR, hRR]
        have hnd : ∀ k ∈ R1 ++ R2, k ≠ i := fun k hk => by
          rw [hRR] at hs
          rcases List.mem_append.1 hk with hk | hk
          · exact Nat.ne_of_lt ((List.pairwise_append.1 hs).2.2 k hk i (.head _))
          · exact Nat.ne_of_gt ((List.pairwise_cons.1 (List.pairwise_append.1 hs).2.1).1 k hk)
        rw [List.filter_append, List.filter_cons]
        simp only [ne_eq, not_true_eq_false, decide_false, Bool.false_eq_true, if_false]
        rw [← List.filter_append, List.filter_eq_self.2]
        intro k hk
        simpa using hnd k hk
      have hdown' : ∀ k o, ops[k]? = some o → (listed.setIfInBounds i true).getD k true = true → ∀ e ∈ o.after.toList, Region.binds .any e = true → (listed.setIfInBounds i true).getD e.on false = true := fun k o hk hkl e he hbd => by
        have up : ∀ q, listed.getD q false = true → (listed.setIfInBounds i true).getD q false = true := fun q hq => by
          by_cases hqi : q = i
          · subst hqi; simp [Array.getD, hin]
          · simpa [Array.getD_eq_getD_getElem?, Array.getElem?_setIfInBounds_ne (Ne.symm hqi)] using hq
        by_cases hki : k = i
        · subst hki
          rw [ho] at hk
          injection hk with hk
          subst hk
          exact up _ (haft e he hbd)
        · refine up _ (hdown k o hk ?_ e he hbd)
          simpa [Array.getD_eq_getD_getElem?, Array.getElem?_setIfInBounds_ne (Ne.symm hki)] using hkl
      have hsz' : (listed.setIfInBounds i true).size = ops.length := by simpa using hsz
      unfold wpOp
      rw [hoA]
      simp only
      rcases List.mem_append.1 ((hmem i).2 ⟨hil, hun⟩) with hiA | hiB
      · -- one of the quiet ones
        obtain ⟨R1, R2, rfl⟩ := List.append_of_mem hiA
        have hRR : (R1 ++ i :: R2) ++ B = R1 ++ i :: (R2 ++ B) := by simp
        have hR' := hrest R1 (R2 ++ B) hRR
        rw [← List.append_assoc] at hR'
        have hlen' : ((R1 ++ R2) ++ B).length ≤ fuel := by simp at hlen ⊢; omega
        have hA' : ∀ j ∈ R1 ++ R2, isBar bs j = false := fun j hj => hA j (by
          rcases List.mem_append.1 hj with h | h
          · exact List.mem_append.2 (.inl h)
          · exact List.mem_append.2 (.inr (.tail _ h)))
        rw [List.filterMap_append, List.filterMap_cons, ho] at hrun
        simp only at hrun
        obtain ⟨r, hps, hrun'⟩ := run_front _ _ E Ef hrun fun y hy => by
          obtain ⟨j, hj, hjy⟩ := List.mem_filterMap.1 hy
          have hlt : j < i := by
            rw [hRR] at hs
            exact (List.pairwise_append.1 hs).2.2 j hj i (.head _)
          have hul := ((hmem j).1 (List.mem_append.2 (.inl (List.mem_append.2 (.inl hj))))).2
          rcases hc i _ j y ho hjy hlt with h | h
          · exact h.2.2
          · exact absurd h (notbef j hul (by omega))
        rw [← List.filterMap_append] at hrun'
        rcases hps with ⟨hw, hpop⟩ | ⟨hw, rfl⟩ | ⟨b, g, hw, hcalm, ⟨S, O2, n2, hst, hSS⟩, rfl⟩
        · rw [gwant_sound hE hw, if_pos rfl]
          refine .inl (gop_sound hT hM hE (pop_gop hpop) fun v g w' O' m' n' ⟨e1, e2, e3⟩ hM' hX hg => ?_)
          subst e1 e2 e3
          exact ih _ _ _ w' _ m' _ _ _ _ hsz' hR' hlen' hdown' hA' hB hrun' hrunB hM' ((hE.ext hX).put _ hg) fun w2 O2 m2 n2 E2 a2 k0 k1 k2 k3 => hQ w2 O2 m2 n2 E2 a2 k0 k1 k2 (hX.trans k3)
        · rw [gwant_sound hE hw, if_neg Bool.false_ne_true]
          exact ih _ _ _ w _ m _ _ _ _ hsz' hR' hlen' hdown' hA' hB hrun' hrunB hM (hE.put (g := .val undef) (v := undef) _ (by simp [G.rep])) hQ
        · obtain ⟨e1, e2⟩ := calm_same hcalm hst
          subst e1 e2
          rw [gwant_sound hE hw]
          cases b with
          | true =>
            rw [if_pos rfl]
            refine .inl ?_
            obtain ⟨v, nx, w', m', h1, h2, h3, h4, h5⟩ := gact_sound hT hM hE hst (hSS rfl)
            have hg : (G.when true g).rep w' O2 m' n2 v := by simp only [G.rep]; exact ⟨fun _ => h5, fun h => by cases h⟩
            have fin := ih _ _ _ w' _ m' _ _ _ _ hsz' hR' hlen' hdown' hA' hB hrun' hrunB h3 ((hE.ext h4).put (ops[i]).dst hg) fun w2 O2 m2 n2 E2 a2 k0 k1 k2 k3 => hQ w2 O2 m2 n2 E2 a2 k0 k1 k2 (h4.trans k3)
            unfold Oper.wp
            rw [h1]
            rcases h2 with rfl | ⟨rfl, rfl⟩ <;> exact fin
          | false =>
            rw [if_neg Bool.false_ne_true]
            exact ih _ _ _ w _ m _ _ _ _ hsz' hR' hlen' hdown' hA' hB hrun' hrunB hM (hE.put (g := .when false g) (v := undef) _ (by simp [G.rep, undef])) hQ
      · -- a bar: all else is done
        cases hBB : B with
        | nil => rw [hBB] at hiB; cases hiB
        | cons b B' =>
          have hbar := hB b B' hBB
          subst hBB
          have hbin := (hmem b).1 (List.mem_append.2 (.inr (.head _)))
          have hib : i = b := by
            cases hiB with
            | head => rfl
            | tail _ hiB =>
              exfalso
              have hlt : b < i := (List.pairwise_cons.1 (List.pairwise_append.1 hs).2.1).1 i hiB
              rcases hc i _ b _ ho (List.getElem?_eq_getElem hbin.1) hlt with h | h
              · rw [hbar] at h; exact absurd h.2.1 (by decide)
              · exact notbef b hbin.2 hbin.1 h
          subst hib
          have hA0 : A = [] := by
            cases hAA : A with
            | nil => rfl
            | cons j A' =>
              exfalso
              subst hAA
              have hj := (hmem j).1 (.head _)
              have hlt : j < i := (List.pairwise_append.1 hs).2.2 j (.head _) i (.head _)
              rcases hc i _ j _ ho (List.getElem?_eq_getElem hj.1) hlt with h | h
              · rw [hbar] at h; exact absurd h.1 (by decide)
              · exact notbef j hj.2 hj.1 h
          subst hA0
          have hrun' : EqE E Ef := hrun
          have hE' := hE.eqE hrun'
          simp only [runB, ho, if_pos hbar] at hrunB
          obtain ⟨hw, hgop⟩ := hrunB
          have hR' := hrest [] B' rfl
          rw [gwant_sound hE' hw, if_pos rfl]
          refine .inl (gop_sound hT hM hE' hgop fun v g w' O' m' n' hrB hM' hX hg => ?_)
          obtain ⟨A2, B2, hAB, hA2, hB2⟩ := bar_split bs B'
          subst hAB
          obtain ⟨Ef2, hr1, hr2⟩ := runB_split A2 B2 _ hA2 hrB
          exact ih _ A2 B2 w' _ m' _ _ _ _ hsz' (by simpa using hR') (by simp at hlen ⊢; omega) hdown' hA2 hB2 hr1 hr2 hM' ((hE'.ext hX).put _ hg) fun w2 O2 m2 n2 E2 a2 k0 k1 k2 k3 => hQ w2 O2 m2 n2 E2 a2 k0 k1 k2 (hX.trans k3)
theorem fm_all {ops : List Oper} : ∀ i, i ∈ List.range ops.length → (Array.replicate ops.length false).getD i true = false := fun i hi => by
  have hi' := List.mem_range.1 hi
  simp [Array.getD, hi']
theorem drun_okB (hT : TabOk P T) (hm : P.follows .mixedOrders = true) (id : Nat) (ops : Array Oper) (bs : List Bool) (w : World) (O : Objs) (m : Hands) (n : Nat) (E : Env) (a : Act) (K : GK) (Q : Exit → Act → World → Prop) (hM : Mem w O m n) (hE : Holds w O m n E a) (hord : orderlyB ops.toList bs = true) (hrun : runB P T ops.toList bs (List.range ops.toList.length) E O n K)
    (hQ : ∀ w' O' m' n' E' a', K E' O' n' → Mem w' O' m' n' → Holds w' O' m' n' E' a' → Ext w O m n w' O' m' n' → Q .normal a' w') : (Code.region id ops true).wp P Q a w := by
  refine wp_region_any hm ?_
  have hX : Ext w O m n { w with drawn := w.drawn + 1 } O m n := ⟨rfl, rfl, rfl, Nat.le_refl _, Nat.le_refl _, fun b _ ho => ⟨rfl, ho⟩, fun i _ o ho => ⟨o, ho, rfl, Nat.le_refl _, fun _ => rfl⟩⟩
  have hM' : Mem { w with drawn := w.drawn + 1 } O m n := ⟨hM.fresh, fun i o hi => lies_keep hM hi hX fun _ _ => rfl, hM.apart⟩
  have e : ops.toList.toArray = ops := by simp
  have hz : ∀ i, (Array.replicate ops.size false).getD i true = true → ¬ i < ops.size := fun i h hi => by simp [Array.getD, hi] at h
  obtain ⟨A, B, hAB, hA, hB⟩ := bar_split bs (List.range ops.toList.length)
  rw [hAB] at hrun
  obtain ⟨Ef, hr1, hr2⟩ := runB_split A B _ hA hrun
  have hlenAB : (A ++ B).length = ops.size := by rw [← hAB]; simp
  have key := any_soundB hT hord (Q := Q) (K := K) ops.size (Array.replicate ops.size false) A B { w with drawn := w.drawn + 1 } O m n E Ef a (by simp) ?_ (by omega) ?_ hA hB hr1 hr2 hM' (hE.ext hX)
    fun w' O' m' n' E' a' k0 k1 k2 k3 => hQ w' O' m' n' E' a' k0 k1 k2 (hX.trans k3)
  · rw [e] at key; exact key
  · rw [← hAB]
    unfold rest
    rw [List.filter_eq_self.2]
    intro i hi
    have hi' : i < ops.size := by simpa using hi
    simp [Array.getD, hi']
  · intro i o ho hl
    exfalso
    have : i < ops.size := by
      rcases Nat.lt_or_ge i ops.toList.length with h | h
      · simpa using h
      · rw [List.getElem?_eq_none h] at ho; cases ho
    exact hz i hl this
end

end Go.Proofs.Ytpggbianhdebmaa
