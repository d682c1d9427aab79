/- Part OY: the law; each theorem bears its own conditions. -/
import Derived.Test.YtpggbianhdebmaaOB
namespace Go.Proofs.Ytpggbianhdebmaa
open Go.RowKit
set_option linter.unusedVariables false
set_option linter.unusedSimpArgs false
set_option maxRecDepth 100000
set_option maxHeartbeats 4000000
attribute [local push_cast] gfork_t gfork_f pfork_t pfork_f gthen gblock gops_nil gops_plain gops_guard onW gwantB gcalm gact gpick gpickV strip_any strip_val strip_agg strip_tup strip_sl strip_ip strip_row strip_rs strip_rp strip_rl strip_ref strip_fn strip_when evS wok calmOp Op.operands Call.operands gop onK onP atK List.all_cons List.all_nil Bool.and_true Bool.true_and Bool.and_self Value.oneCell' List.take_zero List.take_succ_cons List.take_nil List.drop_zero List.drop_succ_cons List.drop_nil List.append_nil Nat.add_zero Nat.zero_add gstep gputE ev look genv gbin_ii gbin_bb gbin_ss gbin_pp gbin_rp gbin_ip gbin_ll gbin_aa geqS geqF gint gunary gconvert gload gcells gpart_lit gstore cellsOf_agg cellsOf_val cellsOf_sl cellsOf_ip cellsOf_row cellsOf_rs cellsOf_rp cellsOf_rl cellsOf_ref cellsOf_fn cellsOf_any cellsOf_tup cellsOf_when cellsOf_gP gput gplace_lit gfieldAddr gstepIn gindexAddr gindex gfield gopt bLo bHi bMx gextract galloc gbox gbuild gfill gplaces gbuildSlice gmake glen gappend gappendN gsrc gbuiltin gnil live_any live_val live_agg live_tup live_sl live_ip live_fn live_when live_ref live_rs live_rp live_rl live_row len_any len_val len_agg len_tup len_sl len_ip len_fn len_row len_rl len_rs live_gP gres gone prun_nil prun_plain prun_guard pop TK.isAgg one_any one_val one_agg one_tup one_when one_sl one_ip one_row one_rs one_rp one_rl one_ref one_fn G.under G.unders List.getD_cons_zero List.getD_cons_succ List.set_cons_zero List.set_cons_succ List.map_cons List.map_nil List.toList_toArray Array.toList_append Option.toArray_none Option.toArray_some Array.toList_map Option.map_some Option.map_none Option.bind_some Option.bind_none List.getElem?_cons_zero List.getElem?_cons_succ List.getElem?_nil List.nil_append List.cons_append List.replicate_succ List.replicate_zero List.length_cons List.length_nil and_true true_and and_false false_and Bool.true_eq_false Bool.false_eq_true forall_const false_implies implies_true IntKind.bits if_true if_false ite_true ite_false eq_self true_implies false_or or_false or_true true_or not_true_eq_false not_false_eq_true decide_true decide_false decide_eq_true_eq decide_eq_false_iff_not beq_iff_eq bne_iff_ne ne_eq Bool.not_eq_true Bool.not_eq_false beq_eq_false_iff_ne bne_eq_false_iff_eq beq_self_eq_true bne_self_eq_false Option.some.injEq exists_eq_left' exists_eq_left ge_iff_le gt_iff_lt decide_not Bool.not_true Bool.not_false imp_self gquiet cond_true cond_false beqT beqF Bool.not_not Bool.and_false Bool.false_and Bool.or_true Bool.true_or Bool.or_false Bool.false_or Loc_at Loc_at0 Loc_upd Loc_upd0 Loc_push Loc_push0 Option.join_some Nat.add_assoc Int.toNat_natCast eI eB eS eL fl_nil gopsD_nil gopsD_plain gopsD_t gopsD_f gopsD_n onKD onWD prunD_nil prunD_plain prunD_t prunD_f prunD_n onPD fitO fitO1 sameO fitL fl_append fl_one List.length_append G.agg.injEq G.row.injEq G.ref.injEq G.val.injEq G.sl.injEq G.tup.injEq Value.int.injEq Value.bool.injEq Value.string.injEq List.cons.injEq exists_and_left exists_const List.flatten_cons List.flatten_nil Int.le_refl Nat.le_refl upd_updU Loc_out Loc_updo Bool.not_eq_true' Bool.not_eq_false' wkl_nil wkl_cons wk_any wk_val wk_agg wk_tup wk_sl wk_fn List.size_toArray renO renO1 G.ren G.rens renL rho_at rho_at0 gP_none gP_some strip_gP wok_gP one_gP G.fn.injEq wk_slnil wk_slrow wk_slrs wk_ip wk_ipref wk_row wk_rs wk_rp wk_rl wk_ref locLt0 locLt Option.join_none upd_same fl_cons undef keepL Arr.len Arr.put_eq prunB_nil prunB_bar prunB_bart prunB_plain prunB_t prunB_f prunB_n onB onBP gcopy setI_len cpyAt_len Loc_cat0 Loc_cat1 Loc_cat2 Loc_cat3 Loc_cat4 Loc_cat5 noObjs_at prunK_nil prunK_bar prunK_pass prunK_plain prunK_low prunK_pt prunK_pf prunK_lt prunK_lf onKg onKa onKp popL pickOps lows lowG prunK_shp prunK_fill popH shpOp fillOp fillG rho_low rens_app Loc_cat6 Loc_cat7 Loc_cat8 Loc_cat9 Loc_cat10 Loc_cat11 Loc_cat12 Loc_cat13 Loc_cat14 Loc_cat15 Loc_cat16 Loc_cat17 Loc_cat18 Loc_cat19 Loc_cat20 Loc_cat21 Loc_cat22 dropM prT kdOf tab2 tkind2 tab3 tkind3 tab4 tkind4 tab5 tkind5 tab6 tkind6 tab7 tkind7 tab8 tkind8 tab9 tkind9 tab10 tkind10 tab11 tkind11 tab12 tkind12 tab13 tkind13 tab14 tkind14 tab15 tkind15 tab16 tkind16 tab17 tkind17 tab18 tkind18 tab19 tkind19 tab21 tkind21 tab22 tkind22 tab23 tkind23 tab25 tkind25 tab27 tkind27 tab28 tkind28 tab29 tkind29 tab32 tkind32 tab33 tkind33 tab34 tkind34 tab40 tkind40 tab45 tkind45 tab46 tkind46 tab49 tkind49 tab58 tkind58 tab59 tkind59 tab69 tkind69 tab70 tkind70 tab74 tkind74 tab75 tkind75 tab76 tkind76 tab78 tkind78 tab79 tkind79 tab80 tkind80 wkl_eI_u64 wka_eI_u64 len_eI_u64 one_eI_u64 wkp_eI_u64 undp_eI_u64 rens_eI_u64 renp_eI_u64 und_eI_u64 wkl_eL_eI_u64 wka_eL_eI_u64 len_eL_eI_u64 one_eL_eI_u64 wkp_eL_eI_u64 undp_eL_eI_u64 rens_eL_eI_u64 renp_eL_eI_u64 und_eL_eI_u64 e_S_arena_Arena wkl_e_S_arena_Arena wka_e_S_arena_Arena len_e_S_arena_Arena one_e_S_arena_Arena wkp_e_S_arena_Arena undp_e_S_arena_Arena rens_e_S_arena_Arena renp_e_S_arena_Arena und_e_S_arena_Arena
section
variable {P : Program} {T : Tab} {O : Objs} {n ba : Nat} {E : Env} {Q : GQ} {x y : Code}
/-- a piece that looks at an outer row's own address, the rest without -/
theorem W_knowR (s i k : Nat) (o : GObj) (ho : O i = some o) (hrow : o.row = true) (hok : k = o.n) (hi : i < ba) (hs : look E.l s = .row i k) (hk : s < E.n)
    (h : ∀ A c, (A = none → k = 0) → W P ba x (gthen (fun E1 O1 n1 => look E1.l s = .val (.slice A k c) ∧ s < E1.n ∧ W P ba y Q ⟨E1.n, E1.keep, (s, .row i k) :: E1.l⟩ O1 n1) Q) ⟨E.n, E.keep, (s, .val (.slice A k c)) :: E.l⟩ O n) : W P ba (.seq x y) Q E O n := fun hb w m a hM hE => by
  have hlt : s < a.tmps.size := by rw [hE.size]; exact hk
  have hv := hE.at_ s _ (Array.getElem?_eq_getElem hlt)
  rw [hs] at hv
  have hv' := hv
  simp only [G.rep] at hv
  obtain ⟨hin, ⟨A, c, e⟩, hoo⟩ := hv
  have hA : A = none → k = 0 := fun h0 => by
    obtain ⟨vs, _, hl⟩ := hM.obj i o ho
    rw [if_pos hrow] at hl
    have hm := (hoo o ho).2 hok hrow
    rw [hm, e, h0] at hl
    rcases hl.2 with ⟨_, h1⟩ | ⟨g, cap, cur, h1, _⟩
    · omega
    · cases h1
  have hvb : (G.row i k).rep w O m ba a.tmps[s] := by
    simp only [G.rep]
    exact ⟨hi, ⟨A, c, e⟩, hoo⟩
  have hput : ∀ (E : Env) (O : Objs) (m : Hands) (n : Nat) (w : World) (a : Act) (g : G), Holds w O m n E a → s < E.n → (∀ v, a.tmps[s]? = some v → g.rep w O m n v) → Holds w O m n ⟨E.n, E.keep, (s, g) :: E.l⟩ a := fun E O m n w a g hE hs hg => by
    refine ⟨hE.size, fun t v hv => ?_, fun t ht => ?_, hE.defers⟩
    · simp only [look]
      split
      · rename_i e; subst e; exact hg v hv
      · exact hE.at_ t v hv
    · simp only [look]
      split
      · rename_i e; subst e; simp only at ht; omega
      · exact hE.out t ht
  refine wp_seq (wp_mono (h A c hA hb w m a hM (hput E O m n w a _ hE hk fun v hv => by
    rw [Array.getElem?_eq_getElem hlt] at hv; injection hv with hv; subst hv; simp only [G.rep]; exact e)) fun e' a' w' ⟨E2, O2, n2, m2, h1, h2, h3, h4⟩ => ?_)
  cases e' with
  | normal =>
    obtain ⟨g1, g2, g3⟩ := h1
    refine g3.then h2 (hput E2 O2 m2 n2 w' a' _ h3 g2 fun v hv => ?_) h4
    have hq := h3.at_ s v hv
    rw [g1] at hq
    simp only [G.rep] at hq
    rw [hq, ← e]
    exact G.rep_ext h4 _ _ hvb
  | exit id => exact ⟨E2, O2, n2, m2, h1, h2, h3, h4⟩
  | goto l => exact ⟨E2, O2, n2, m2, h1, h2, h3, h4⟩
  | ret => exact ⟨E2, O2, n2, m2, h1, h2, h3, h4⟩
  | panic ch => exact ⟨E2, O2, n2, m2, h1, h2, h3, h4⟩
  | outgrown => exact ⟨E2, O2, n2, m2, h1, h2, h3, h4⟩
end
theorem clone_row {r : List Int} {O : Objs} {n i : Nat} (hi : i < n) (ho : O i = some ⟨true, 27, 1, r.length, fl (eI .u64) r⟩) (h1 : r.length * 8 ≤ 140737488355328) : GTo Try.prog 30 [.row i r.length] O n (.row n r.length) (Loc O n [some ⟨true, 27, 1, r.length, fl (eI .u64) r⟩]) (n + 1) := by
  have h2 : r.length ≤ 140737488355328 := by omega
  refine fn_of tab_ok Try.call30 Try.func30 rfl (Nat.le_of_ble_eq_true rfl) (by omega) fun hU => ?_
  have hN0 : O n = none := hU.fresh _ (Nat.le_refl _)
  have hN : ∀ k, O (n + k) = none := fun k => hU.fresh _ (Nat.le_add_right _ _)
  have hoL : ∀ l, Loc O n l i = some ⟨true, 27, 1, r.length, fl (eI .u64) r⟩ := fun l => (Loc_out l hi).trans ho
  have hk0 : ∀ k, i < n + k := fun k => by omega
  show W _ _ _ _ ⟨8, [], [(0, .row i r.length)]⟩ (Loc O n []) _
  refine W_sq [0] (W_regionD tab_ok [] ?_)
  simp only [push_cast, seval, ↓reduceIte, cast_lit, hN0, hN]
  refine W_knowR 0 i r.length _ (hoL _) rfl rfl hi rfl (Nat.le_of_ble_eq_true rfl) fun A c hA => ?_
  refine W_sq [0, 4] (W_regionD tab_ok [] ?_)
  simp only [push_cast, seval, ↓reduceIte, cast_lit, hN0, hN]
  cases A with
  | none =>
    obtain rfl : r = [] := List.eq_nil_of_length_eq_zero (hA rfl)
    refine W_cond (t := true) rfl (fun _ => ?_) (fun hc => by cases hc)
    refine W_sq [2] (W_regionD tab_ok [] ?_)
    simp only [push_cast, seval, ↓reduceIte, cast_lit, hN0, hN]
    refine W_ret ?_
    try simp only [gthen, gblock]
    refine fin_locW (k := 1) (L3 := [some ⟨true, 27, 1, 0, []⟩]) (E2 := ⟨8, [], [(2, .row n 0), (2, .val (.slice none 0 0))]⟩) (n3 := (n + 1)) (.inr rfl) hU rfl [.row n 0] ?_ ?_
    · have ha := adopt_fit (ba := n) (E := ⟨8, [], [(2, .val (.slice none 0 0))]⟩) (O := (Loc O n [])) (n := n) 2 27 1 rfl (by omega)
      simp only [Loc_push0] at ha
      exact ha
    simp only [push_cast, seval, ↓reduceIte, cast_lit, Try.results30, hN0, hN]
  | some A =>
    refine W_cond (t := false) rfl (fun hc => by cases hc) (fun _ => ?_)
    refine W_skip ?_
    try simp only [gthen, gblock]
    refine And.intro rfl (And.intro (Nat.le_of_ble_eq_true rfl) ?_)
    refine W_seqK ?_
    refine W_regionD tab_ok [] ?_
    simp only [push_cast, seval, ↓reduceIte, cast_lit, h1, h2, hN0, hN, hoL, hi, hk0]
    refine W_ret ?_
    try simp only [gthen, gblock]
    refine fin_locR (.inr rfl) hU rfl [.row n r.length] (by omega) ?_
    simp only [push_cast, seval, ↓reduceIte, cast_lit, Try.results30, hN0, hN]
theorem clone_rowf {r : List Int} {O : Objs} {n i : Nat} (hi : i < n) (ho : O i = some ⟨true, 27, 1, r.length, fl (eI .u64) r⟩) (h1 : r.length * 8 ≤ 140737488355328) : GTo Try.prog 30 [.row i r.length] O n (.sl r.length (fl (eI .u64) r)) O n := by
  refine GTo.freeze (clone_row hi ho h1) fun hU => ?_
  have hN0 : O n = none := hU.fresh _ (Nat.le_refl _)
  have hN : ∀ k, O (n + k) = none := fun k => hU.fresh _ (Nat.le_add_right _ _)
  simp only [push_cast, seval, ↓reduceIte, cast_lit, hN0, hN]
abbrev MR := Option Nat × List Int
def eM1 (x : MR) : G := match x.1 with
  | none => .sl x.2.length (fl (eI .u64) x.2)
  | some v => .row v x.2.length
def eM (x : MR) : List G := [eM1 x]
theorem len_eM (xs : List MR) : (fl eM xs).length = xs.length * 1 := fl_length (f := eM) (k := 1) (fun _ => rfl) xs
theorem one_eM1 (x : MR) : (eM1 x).one = true := by unfold eM1; cases x.1 <;> simp [G.one]
theorem one_eM (xs : List MR) : (fl eM xs).all G.one = true := all_one_fl (fun x => by simp [eM, one_eM1]) xs
theorem clone_mixed {L : List MR} {r : List (List Int)} {O : Objs} {n j : Nat} (hj : j < n) (ho : O j = some ⟨true, 40, 1, L.length, fl eM L⟩) (hm : ∀ x ∈ L, ∀ v, x.1 = some v → v < n ∧ O v = some ⟨true, 27, 1, x.2.length, fl (eI .u64) x.2⟩) (h : m_arena_clone (L.map (·.2)) = some r) : GTo Try.prog 27 [.row j L.length] O n (.row n r.length) (Loc O n [some ⟨true, 40, 1, r.length, fl (eL (eI .u64)) r⟩]) (n + 1) := by
  unfold m_arena_clone at h
  refine fn_of tab_ok Try.call27 Try.func27 rfl (Nat.le_of_ble_eq_true rfl) (by omega) fun hU => ?_
  have hN0 : O n = none := hU.fresh _ (Nat.le_refl _)
  have hN : ∀ k, O (n + k) = none := fun k => hU.fresh _ (Nat.le_add_right _ _)
  have hoL : ∀ l, Loc O n l j = some ⟨true, 40, 1, L.length, fl eM L⟩ := fun l => (Loc_out l hj).trans ho
  have hk0 : ∀ k, j < n + k := fun k => by omega
  have hla : (L.map (·.2)).length = L.length := List.length_map _
  rw [hla] at h
  show W _ _ _ _ ⟨23, [], [(0, .row j L.length)]⟩ (Loc O n []) _
  refine W_sq [0] (W_regionD tab_ok [] ?_)
  simp only [push_cast, seval, ↓reduceIte, cast_lit, hN0, hN, hoL, hj, hk0, len_eM, one_eM]
  refine W_seqK ?_
  obtain ⟨l2, al2, bl2, cl2, el2, h⟩ := bM2 (c := 24) rfl h
  have nl2 : Int.toNat (L.length : Int) = List.length l2 := by rw [el2, List.length_replicate]
  have fl2 : ∀ O O' n, wkl O O' n (List.replicate (List.length l2) [G.val (.slice none 0 0)]).flatten (fl (eL (eI .u64)) l2) = True := fun O O' n => by rw [← nl2, el2]; exact eq_true (wkl_nils _ _)
  clear el2
  refine W_regionD tab_ok [] ?_
  simp only [push_cast, seval, ↓reduceIte, cast_lit, al2, bl2, cl2, fl2, nl2, hN0, hN, hoL, hj, hk0, len_eM, one_eM]
  refine W_fit ⟨23, [], [(0, .row j L.length), (3, .row n l2.length)]⟩ (Loc O n [some ⟨true, 40, 1, l2.length, fl (eL (eI .u64)) l2⟩]) (fit_loc hU rfl rfl ?_) ?_
  · simp only [push_cast, seval, ↓reduceIte, cast_lit, al2, bl2, cl2, fl2, nl2, hN0, hN, hoL, hj, hk0, len_eM, one_eM]
  refine W_seqK ?_
  refine W_sq [3, 9, 10, 11] (W_regionD tab_ok [] ?_)
  simp only [push_cast, seval, ↓reduceIte, cast_lit, hN0, hN, hoL, hj, hk0, len_eM, one_eM]
  refine W_drop [3, 9, 10, 11] [true] ?_
  simp only [push_cast, seval, ↓reduceIte]
  obtain ⟨z9, hz9, h⟩ := bC h
  refine W_blockX (E' := ⟨23, [], [(3, .row n z9.length)]⟩) (O' := (Loc O n [some ⟨true, 40, 1, z9.length, fl (eL (eI .u64)) z9⟩])) (n0 := (n + 1)) ?_ ?_
  · refine W_loopJ hz9 (fun s0_ => ⟨23, [], [(3, .row n s0_.2.length), (9, .row j L.length), (10, .val (.int .i64 (L.length : Int))), (11, .val (.int .i64 s0_.1))]⟩) (fun s0_ => (Loc O n [some ⟨true, 40, 1, s0_.2.length, fl (eL (eI .u64)) s0_.2⟩])) (fun z9 => JX 0 n (⟨23, [], [(3, .row n z9.length)]⟩ : Env) (Loc O n [some ⟨true, 40, 1, z9.length, fl (eL (eI .u64)) z9⟩]) (n + 1)) ?_
    intro s0_ x0_ hs0_
    unfold m_arena_clone_L0 at hs0_
    rw [hla] at hs0_
    try dsimp only
    refine W_sq [3, 9, 10, 11, 12] (W_regionD tab_ok [] ?_)
    simp only [push_cast, seval, ↓reduceIte, cast_lit, hN0, hN, hoL, hj, hk0, len_eM, one_eM]
    refine W_seqK ?_
    refine W_cond (t := (decide (s0_.1 < (L.length : Int)))) rfl (fun c8 => ?_) (fun c8 => ?_)
    · replace hs0_ := condT c8 hs0_
      refine W_skip ?_
      try simp only [gthen, gblock]
      refine W_drop [3, 9, 10, 11] [true] ?_
      simp only [push_cast, seval, ↓reduceIte]
      refine W_seqK ?_
      refine W_block ?_
      obtain ⟨x4, hx4, hs0_⟩ := bC hs0_
      obtain ⟨q, hq, hq2⟩ : ∃ q, getI L s0_.1 = some q ∧ q.2 = x4 := by
        unfold getI at hx4 ⊢
        by_cases h0 : 0 ≤ s0_.1
        · rw [if_pos h0] at hx4 ⊢
          rw [List.getElem?_map] at hx4
          cases e : L[s0_.1.toNat]? with
          | none => rw [e] at hx4; cases hx4
          | some q => rw [e] at hx4; exact ⟨q, rfl, Option.some.inj hx4⟩
        · rw [if_neg h0] at hx4; cases hx4
      have hqm : q ∈ L := by
        unfold getI at hq
        split at hq
        · exact List.mem_of_getElem? hq
        · cases hq
      subst hq2
      obtain ⟨x9, hx9, ax4, bx4, cx4, _⟩ := bE (f := eM) (K := fun y => some y) (r := q) tab40 (fun _ => rfl) (by decide) (by rw [hq]; rfl)
      obtain rfl : x9 = q := Option.some.inj (hx9.symm.trans hq)
      obtain ⟨y5, hy5, hs0_⟩ := bC hs0_
      have hy5b : x9.2.length * 8 ≤ 140737488355328 := by have := appI_1 hy5; simpa using this
      have hy5e : y5 = x9.2 := by have := appI_eq hy5; simpa using this
      cases hv : x9.1 with
      | none =>
        have hE : (eM x9)[0]? = some (.sl x9.2.length (fl (eI .u64) x9.2)) := by show some (eM1 x9) = _; unfold eM1; rw [hv]
        refine W_sq [3, 4, 5, 9, 10, 11] (W_regionD tab_ok [] ?_)
        simp only [push_cast, Nat.reduceAdd, Nat.reduceSub, Nat.reduceMul, Nat.reduceLeDiff, Nat.reduceLT, Nat.reduceEqDiff, ↓reduceIte, reduceCtorEq, Int.reduceBEq, Int.reduceBNe, Nat.reduceBEq, Int.reduceLE, Int.reduceLT, Int.reduceEq, Int.reduceNe, Int.reduceNeg, Nat.reduceDiv, Nat.reduceMod, Nat.reducePow, cast_lit, ax4, bx4, cx4, hE, hN0, hN, hoL, hj, hk0, len_eM, one_eM]
        obtain ⟨x6, hx6, ax6, bx6, cx6, hs0_⟩ := bE (f := (eL (eI .u64))) tab40 (fun _ => rfl) (by decide) hs0_
        have gu7 : gplace (fl (eL (eI .u64)) s0_.2) [.sl y5.length (fl (eI .u64) y5)] (Int.toNat s0_.1 * 1) = some (fl (eL (eI .u64)) (setI s0_.2 s0_.1 y5)) := gplace_el (f := (eL (eI .u64))) (ti := ⟨.bool, 1, 0, [], false⟩) (x := y5) (fun _ => rfl) (getI_nat hx6)
        refine W_regionD tab_ok [] ?_
        simp only [push_cast, Nat.reduceAdd, Nat.reduceSub, Nat.reduceMul, Nat.reduceLeDiff, Nat.reduceLT, Nat.reduceEqDiff, ↓reduceIte, reduceCtorEq, Int.reduceBEq, Int.reduceBNe, Nat.reduceBEq, Int.reduceLE, Int.reduceLT, Int.reduceEq, Int.reduceNe, Int.reduceNeg, Nat.reduceDiv, Nat.reduceMod, Nat.reducePow, cast_lit, ax6, bx6, cx6, gu7, hN0, hN, hoL, hj, hk0, len_eM, one_eM]
        refine (okf_slices_Clone_uint64_uint64 hy5).then ?_
        simp only [push_cast, Nat.reduceAdd, Nat.reduceSub, Nat.reduceMul, Nat.reduceLeDiff, Nat.reduceLT, Nat.reduceEqDiff, ↓reduceIte, reduceCtorEq, Int.reduceBEq, Int.reduceBNe, Nat.reduceBEq, Int.reduceLE, Int.reduceLT, Int.reduceEq, Int.reduceNe, Int.reduceNeg, Nat.reduceDiv, Nat.reduceMod, Nat.reducePow, cast_lit, ax6, bx6, cx6, gu7, hN0, hN, hoL, hj, hk0, len_eM, one_eM]
        refine W_drop [3, 9, 10, 11] [true] ?_
        simp only [push_cast, seval, ↓reduceIte]
        refine W_regionD tab_ok [] ?_
        simp only [push_cast, seval, ↓reduceIte, cast_lit, hN0, hN, hoL, hj, hk0, len_eM, one_eM]
        have hs0_ := Option.some.inj hs0_; subst hs0_
        refine And.intro rfl (Fit2.of (fit_loc hU rfl rfl ?_) (by omega))
        simp only [push_cast, seval, ↓reduceIte, cast_lit, hN0, hN, hoL, hj, hk0, len_eM, one_eM]
      | some v =>
        have hE : (eM x9)[0]? = some (.row v x9.2.length) := by show some (eM1 x9) = _; unfold eM1; rw [hv]
        subst hy5e
        refine W_sq [3, 4, 5, 9, 10, 11] (W_regionD tab_ok [] ?_)
        simp only [push_cast, Nat.reduceAdd, Nat.reduceSub, Nat.reduceMul, Nat.reduceLeDiff, Nat.reduceLT, Nat.reduceEqDiff, ↓reduceIte, reduceCtorEq, Int.reduceBEq, Int.reduceBNe, Nat.reduceBEq, Int.reduceLE, Int.reduceLT, Int.reduceEq, Int.reduceNe, Int.reduceNeg, Nat.reduceDiv, Nat.reduceMod, Nat.reducePow, cast_lit, ax4, bx4, cx4, hE, hN0, hN, hoL, hj, hk0, len_eM, one_eM]
        obtain ⟨x6, hx6, ax6, bx6, cx6, hs0_⟩ := bE (f := (eL (eI .u64))) tab40 (fun _ => rfl) (by decide) hs0_
        have gu7 : gplace (fl (eL (eI .u64)) s0_.2) [.sl x9.2.length (fl (eI .u64) x9.2)] (Int.toNat s0_.1 * 1) = some (fl (eL (eI .u64)) (setI s0_.2 s0_.1 x9.2)) := gplace_el (f := (eL (eI .u64))) (ti := ⟨.bool, 1, 0, [], false⟩) (x := x9.2) (fun _ => rfl) (getI_nat hx6)
        refine W_regionD tab_ok [] ?_
        simp only [push_cast, Nat.reduceAdd, Nat.reduceSub, Nat.reduceMul, Nat.reduceLeDiff, Nat.reduceLT, Nat.reduceEqDiff, ↓reduceIte, reduceCtorEq, Int.reduceBEq, Int.reduceBNe, Nat.reduceBEq, Int.reduceLE, Int.reduceLT, Int.reduceEq, Int.reduceNe, Int.reduceNeg, Nat.reduceDiv, Nat.reduceMod, Nat.reducePow, cast_lit, ax6, bx6, cx6, gu7, hN0, hN, hoL, hj, hk0, len_eM, one_eM]
        refine (clone_rowf (i := v) (by have := (hm x9 hqm v hv).1; omega) ((Loc_out _ (hm x9 hqm v hv).1).trans (hm x9 hqm v hv).2) hy5b).then ?_
        simp only [push_cast, Nat.reduceAdd, Nat.reduceSub, Nat.reduceMul, Nat.reduceLeDiff, Nat.reduceLT, Nat.reduceEqDiff, ↓reduceIte, reduceCtorEq, Int.reduceBEq, Int.reduceBNe, Nat.reduceBEq, Int.reduceLE, Int.reduceLT, Int.reduceEq, Int.reduceNe, Int.reduceNeg, Nat.reduceDiv, Nat.reduceMod, Nat.reducePow, cast_lit, ax6, bx6, cx6, gu7, hN0, hN, hoL, hj, hk0, len_eM, one_eM]
        refine W_drop [3, 9, 10, 11] [true] ?_
        simp only [push_cast, seval, ↓reduceIte]
        refine W_regionD tab_ok [] ?_
        simp only [push_cast, seval, ↓reduceIte, cast_lit, hN0, hN, hoL, hj, hk0, len_eM, one_eM]
        have hs0_ := Option.some.inj hs0_; subst hs0_
        refine And.intro rfl (Fit2.of (fit_loc hU rfl rfl ?_) (by omega))
        simp only [push_cast, seval, ↓reduceIte, cast_lit, hN0, hN, hoL, hj, hk0, len_eM, one_eM]
    · replace hs0_ := condF c8 hs0_
      refine W_exit ?_
      try simp only [gthen, gblock, ↓reduceIte, Nat.reduceEqDiff]
      have hs0_ := Option.some.inj hs0_; subst hs0_
      refine And.intro (fun h => by cases h) (And.intro rfl (Fit2.of (fit_loc hU rfl rfl ?_) (by omega)))
      simp only [push_cast, seval, ↓reduceIte, cast_lit, hN0, hN, hoL, hj, hk0, len_eM, one_eM]
  try simp only [gthen, gblock, ↓reduceIte, Nat.reduceEqDiff]
  refine W_drop [3] [true] ?_
  simp only [push_cast, seval, ↓reduceIte]
  refine W_sq [2] (W_regionD tab_ok [] ?_)
  simp only [push_cast, seval, ↓reduceIte, cast_lit, hN0, hN, hoL, hj, hk0, len_eM, one_eM]
  refine W_ret ?_
  try simp only [gthen, gblock]
  have h := Option.some.inj h; subst h
  refine fin_locW (k := 1) (L3 := [some ⟨true, 40, 1, z9.length, fl (eL (eI .u64)) z9⟩, none]) (E2 := (⟨23, [], [(2, .row n z9.length)]⟩ : Env)) (n3 := (n + 2)) (.inr rfl) hU rfl [.row n z9.length] ?_ ?_
  · refine Fit2.trans (E' := (⟨23, [], [(2, .row n z9.length)]⟩ : Env)) (O' := (Loc O n [some ⟨true, 40, 1, z9.length, fl (eL (eI .u64)) z9⟩])) (n' := (n + 1)) (Fit2.of (fit_loc hU rfl rfl ?_) (by omega)) ?_
    · simp only [push_cast, seval, ↓reduceIte, cast_lit, hN0, hN, hoL, hj, hk0, len_eM, one_eM]
    refine ren_fit (k := 1) (k' := 2) hU [0] [0, 0] rfl rfl rfl rfl ⟨rfl, rfl⟩ ?_
    simp only [push_cast, seval, ↓reduceIte, cast_lit, hN0, hN, hoL, hj, hk0, len_eM, one_eM]
  simp only [push_cast, seval, ↓reduceIte, cast_lit, Try.results27, hN0, hN, hoL, hj, hk0, len_eM, one_eM]


theorem of_mixed {L : List MR} {r : S_arena_Arena} {O : Objs} {n j : Nat} (hj : j < n) (ho : O j = some ⟨true, 40, 1, L.length, fl eM L⟩) (hm : ∀ x ∈ L, ∀ v, x.1 = some v → v < n ∧ O v = some ⟨true, 27, 1, x.2.length, fl (eI .u64) x.2⟩) (h : m_arena_Of (L.map (·.2)) = some r) : GTo Try.prog 20 [.row j L.length] O n (.ref n 0) (Loc O n [some ⟨false, 59, 3, 1, [.row (n + 1) r.segments.length, .val (.int .i64 r.size), .val (.int .i64 r.left)]⟩, some ⟨true, 40, 1, r.segments.length, fl (eL (eI .u64)) r.segments⟩]) (n + 2) := by
  unfold m_arena_Of at h
  refine fn_of tab_ok Try.call20 Try.func20 rfl (Nat.le_of_ble_eq_true rfl) (by omega) fun hU => ?_
  have hN0 : O n = none := hU.fresh _ (Nat.le_refl _)
  have hN : ∀ k, O (n + k) = none := fun k => hU.fresh _ (Nat.le_add_right _ _)
  show W _ _ _ _ ⟨7, [], [(0, .row j L.length)]⟩ (Loc O n []) _
  refine W_sq [0] (W_regionD tab_ok [] ?_)
  simp only [push_cast, seval, ↓reduceIte, cast_lit, hN0, hN]
  refine W_seqK ?_
  obtain ⟨y2, hy2, h⟩ := bC h
  refine W_regionD tab_ok [] ?_
  simp only [push_cast, seval, ↓reduceIte, cast_lit, hN0, hN]
  refine (clone_mixed hj ((Loc_out _ hj).trans ho) (fun x hx v hv => ⟨(hm x hx v hv).1, (Loc_out _ (hm x hx v hv).1).trans (hm x hx v hv).2⟩) hy2).then ?_
  simp only [push_cast, seval, ↓reduceIte, cast_lit, hN0, hN]
  refine W_drop [2] [true, true] ?_
  simp only [push_cast, seval, ↓reduceIte]
  refine W_ret ?_
  try simp only [gthen, gblock]
  have h := Option.some.inj h; subst h
  refine fin_locW (k := 2) (L3 := [some ⟨false, 59, 3, 1, [.row (n + 1) y2.length, .val (.int .i64 0), .val (.int .i64 0)]⟩, some ⟨true, 40, 1, y2.length, fl (eL (eI .u64)) y2⟩, none]) (E2 := (⟨7, [], [(2, .ref n 0)]⟩ : Env)) (n3 := (n + 3)) (.inr rfl) hU rfl [.ref n 0] ?_ ?_
  · refine Fit2.trans (E' := (⟨7, [], [(2, .ref (n + 1) 0)]⟩ : Env)) (O' := (Loc O n [some ⟨true, 40, 1, y2.length, fl (eL (eI .u64)) y2⟩, some ⟨false, 59, 3, 1, [.row n y2.length, .val (.int .i64 0), .val (.int .i64 0)]⟩])) (n' := (n + 2)) (Fit2.of (fit_loc hU rfl rfl ?_) (by omega)) ?_
    · simp only [push_cast, seval, ↓reduceIte, cast_lit, hN0, hN]
    refine ren_fit (k := 2) (k' := 3) hU [1, 0] [1, 0, 0] rfl rfl rfl rfl ⟨rfl, rfl⟩ ?_
    simp only [push_cast, seval, ↓reduceIte, cast_lit, hN0, hN]
  simp only [push_cast, seval, ↓reduceIte, cast_lit, Try.results20, hN0, hN]

theorem clone_mixedf {L : List MR} {r : List (List Int)} {O : Objs} {n j : Nat} (hj : j < n) (ho : O j = some ⟨true, 40, 1, L.length, fl eM L⟩) (hm : ∀ x ∈ L, ∀ v, x.1 = some v → v < n ∧ O v = some ⟨true, 27, 1, x.2.length, fl (eI .u64) x.2⟩) (h : m_arena_clone (L.map (·.2)) = some r) : GTo Try.prog 27 [.row j L.length] O n (.sl r.length (fl (eL (eI .u64)) r)) O n := by
  refine GTo.freeze (clone_mixed hj ho hm h) fun hU => ?_
  have hN0 : O n = none := hU.fresh _ (Nat.le_refl _)
  have hN : ∀ k, O (n + k) = none := fun k => hU.fresh _ (Nat.le_add_right _ _)
  simp only [push_cast, seval, ↓reduceIte, cast_lit, hN0, hN]
theorem segs_own {L : List MR} {r : List (List Int)} {O : Objs} {n i j : Nat} {size left : Int} (hi : i < n) (hv : O i = some ⟨false, 59, 3, 1, [.row j L.length, .val (.int .i64 size), .val (.int .i64 left)]⟩) (hj : j < n) (ho : O j = some ⟨true, 40, 1, L.length, fl eM L⟩) (hm : ∀ x ∈ L, ∀ v, x.1 = some v → v < n ∧ O v = some ⟨true, 27, 1, x.2.length, fl (eI .u64) x.2⟩) (h : m_arena_clone (L.map (·.2)) = some r) : GTo Try.prog 13 [.ref i 0] O n (.sl r.length (fl (eL (eI .u64)) r)) O n := by
  refine fn_of tab_ok Try.call13 Try.func13 rfl (Nat.le_of_ble_eq_true rfl) (by omega) fun hU => ?_
  show W _ _ _ _ ⟨10, [], [(0, .ref i 0)]⟩ (Loc O n []) _
  rw [Loc_nil hU.fresh]
  refine W_sq [0] (W_regionD tab_ok [] ?_)
  simp only [push_cast, seval, ↓reduceIte, cast_lit, hi]
  refine W_seqK ?_
  refine W_sq [0, 4] (W_regionD tab_ok [] ?_)
  simp only [push_cast, seval, ↓reduceIte, cast_lit, hi, hv]
  refine W_cond (t := false) rfl (fun hc => by cases hc) (fun _ => ?_)
  refine W_skip ?_
  try simp only [gthen, gblock]
  refine W_seqK ?_
  refine W_regionD tab_ok [] ?_
  simp only [push_cast, seval, ↓reduceIte, cast_lit, hi, hv, hj, ho]
  refine (clone_mixedf hj ho hm h).then ?_
  simp only [push_cast, seval, ↓reduceIte, cast_lit]
  refine W_ret ?_
  try simp only [gthen, gblock]
  refine fin_plain (P := Try.prog) (.inr rfl) hU [.sl r.length (fl (eL (eI .u64)) r)] (Nat.le_refl _) ?_
  simp only [push_cast, seval, ↓reduceIte, cast_lit, Try.results13]
theorem eM_none (xs : List (List Int)) : fl eM (xs.map fun s => (none, s)) = fl (eL (eI .u64)) xs := by
  unfold fl; rw [List.map_map]; rfl
theorem map_none (xs : List (List Int)) : (xs.map fun s => ((none : Option Nat), s)).map (·.2) = xs := by
  rw [List.map_map]; exact List.map_id xs

end Go.Proofs.Ytpggbianhdebmaa
