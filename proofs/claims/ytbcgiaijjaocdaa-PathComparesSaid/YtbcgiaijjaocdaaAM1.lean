/- Part AM1 of this seat's mirrors: functions of the seat's program, and the plain functions that they are; each theorem bears its own conditions. -/
import Derived.Test.YtbcgiaijjaocdaaAE
namespace Go.Proofs.Ytbcgiaijjaocdaa
open Go.RowKit
set_option linter.unusedVariables false
set_option linter.unusedSimpArgs false
set_option maxRecDepth 100000
set_option maxHeartbeats 1000000
attribute [local push_cast] gfork_t gfork_f pfork_t pfork_f gthen gblock gops_nil gops_plain gops_guard onW gwantB gcalm gact gpick gpickV strip evS wok calmOp Op.operands Call.operands gop onK onP atK List.all_cons List.all_nil Bool.and_true Bool.true_and Bool.and_self Value.oneCell' List.take_zero List.take_succ_cons List.take_nil List.drop_zero List.drop_succ_cons List.drop_nil List.append_nil Nat.add_zero Nat.zero_add gstep gputE ev look genv gbin geqS geqF gint gunary gconvert gload gcells gpart_lit gstore gcellsOf gput gplace_lit gfieldAddr gstepIn gindexAddr gindex gfield gopt bLo bHi bMx gextract galloc gbox gbuild gfill gplaces gbuildSlice gmake glen gappend gsrc gbuiltin gnil isLive gres gone prun_nil prun_plain prun_guard pop TK.isAgg G.one G.under G.unders List.getD_cons_zero List.getD_cons_succ List.set_cons_zero List.set_cons_succ List.map_cons List.map_nil List.toList_toArray Array.toList_append Option.toArray_none Option.toArray_some Array.toList_map Option.map_some Option.map_none Option.bind_some Option.bind_none List.getElem?_cons_zero List.getElem?_cons_succ List.getElem?_nil List.nil_append List.cons_append List.replicate_succ List.replicate_zero List.length_cons List.length_nil and_true true_and and_false false_and Bool.true_eq_false Bool.false_eq_true forall_const false_implies implies_true IntKind.bits if_true if_false ite_true ite_false eq_self true_implies false_or or_false or_true true_or not_true_eq_false not_false_eq_true decide_true decide_false decide_eq_true_eq decide_eq_false_iff_not beq_iff_eq bne_iff_ne ne_eq Bool.not_eq_true Bool.not_eq_false beq_eq_false_iff_ne bne_eq_false_iff_eq beq_self_eq_true bne_self_eq_false Option.some.injEq exists_eq_left' exists_eq_left ge_iff_le gt_iff_lt decide_not Bool.not_true Bool.not_false imp_self gquiet cond_true cond_false beqT beqF Bool.not_not Bool.and_false Bool.false_and Bool.or_true Bool.true_or Bool.or_false Bool.false_or Loc_at Loc_at0 Loc_upd Loc_upd0 Loc_push Loc_push0 Option.join_some Nat.add_assoc Int.toNat_natCast eI eB eS eL fl_nil gopsD_nil gopsD_plain gopsD_t gopsD_f gopsD_n onKD onWD prunD_nil prunD_plain prunD_t prunD_f prunD_n onPD fitO fitO1 sameO fitL fl_append fl_one List.length_append G.agg.injEq G.row.injEq G.ref.injEq G.val.injEq G.sl.injEq G.tup.injEq Value.int.injEq Value.bool.injEq Value.string.injEq List.cons.injEq exists_and_left exists_const List.flatten_cons List.flatten_nil Int.le_refl Nat.le_refl upd_updU Loc_out Loc_updo Bool.not_eq_true' Bool.not_eq_false' wkl_nil wkl_cons wk_any wk_val wk_agg wk_tup wk_sl wk_fn List.size_toArray renO renO1 G.ren G.rens renL rho_at rho_at0 gP_none gP_some strip_gP wok_gP one_gP G.fn.injEq wk_slnil wk_slrow wk_slrs wk_ip wk_ipref wk_row wk_rs wk_rp wk_ref locLt0 locLt Option.join_none upd_same fl_cons undef keepL Arr.len Arr.put_eq prunB_nil prunB_bar prunB_bart prunB_plain prunB_t prunB_f prunB_n onB onBP gcopy setI_len Loc_cat0 Loc_cat1 Loc_cat2 Loc_cat3 Loc_cat4 Loc_cat5 noObjs_at prunK_nil prunK_bar prunK_pass prunK_plain prunK_low prunK_pt prunK_pf prunK_lt prunK_lf onKg onKa onKp popL pickOps lows lowG prunK_shp prunK_fill popH shpOp fillOp fillG tab2 tkind2 tab3 tkind3 tab4 tkind4 tab5 tkind5 tab6 tkind6 tab7 tkind7 tab8 tkind8 tab9 tkind9 tab10 tkind10 tab11 tkind11 tab12 tkind12 tab13 tkind13 tab14 tkind14 tab15 tkind15 tab16 tkind16 tab17 tkind17 tab18 tkind18 tab19 tkind19 tab21 tkind21 tab22 tkind22 tab23 tkind23 tab24 tkind24 tab25 tkind25 tab26 tkind26 tab27 tkind27 tab28 tkind28 tab29 tkind29 tab30 tkind30 tab46 tkind46 tab49 tkind49 tab52 tkind52 tab56 tkind56 tab57 tkind57 tab58 tkind58 tab62 tkind62 tab68 tkind68 tab69 tkind69 tab70 tkind70 tab71 tkind71 tab78 tkind78 tab79 tkind79 tab81 tkind81 tab82 tkind82 tab83 tkind83 tab84 tkind84 tab95 tkind95 tab99 tkind99 tab101 tkind101 tab102 tkind102 tab109 tkind109 tab110 tkind110 tab113 tkind113 tab123 tkind123 tab124 tkind124 tab132 tkind132 tab159 tkind159 tab160 tkind160 tab166 tkind166 tab167 tkind167 tab169 tkind169 tab170 tkind170 e_S_api_Tree e0_eq_S_api_Tree wkl_eI_u64 wka_eI_u64 len_eI_u64 one_eI_u64 wkp_eI_u64 undp_eI_u64 rens_eI_u64 renp_eI_u64 und_eI_u64 wkl_e_S_api_Tree wka_e_S_api_Tree len_e_S_api_Tree one_e_S_api_Tree wkp_e_S_api_Tree undp_e_S_api_Tree rens_e_S_api_Tree renp_e_S_api_Tree und_e_S_api_Tree e_S_api_Step wkl_e_S_api_Step wka_e_S_api_Step len_e_S_api_Step one_e_S_api_Step wkp_e_S_api_Step undp_e_S_api_Step rens_e_S_api_Step renp_e_S_api_Step und_e_S_api_Step wkl_eI_i64 wka_eI_i64 len_eI_i64 one_eI_i64 wkp_eI_i64 undp_eI_i64 rens_eI_i64 renp_eI_i64 und_eI_i64
theorem okb_centoref07_Shallow {r_centoref07_Shallow : (S_api_Tree → Int → Int → Option Int)} (ok_r_centoref07_Shallow : ∀ {a0 : S_api_Tree} {a1 : Int} {a2 : Int} {r : Int} {O : Objs} {n : Nat}, r_centoref07_Shallow a0 a1 a2 = some r → GTo Try.prog 56 [.agg [.val (.int .i64 a0.Kind), .sl a0.Words.length (fl (eI .u64) a0.Words), .sl a0.Kids.length (fl e_S_api_Tree a0.Kids)], .val (.int .i64 a1), .val (.int .i64 a2)] O n (.val (.int .i64 r)) O n) {a0 : S_api_Tree} {a1 : Int} {a2 : Int} {r : Int} {O : Objs} {n : Nat} (h : b_centoref07_Shallow r_centoref07_Shallow a0 a1 a2 = some r) : GTo Try.prog 56 [.agg [.val (.int .i64 a0.Kind), .sl a0.Words.length (fl (eI .u64) a0.Words), .sl a0.Kids.length (fl e_S_api_Tree a0.Kids)], .val (.int .i64 a1), .val (.int .i64 a2)] O n (.val (.int .i64 r)) O n := by
  unfold b_centoref07_Shallow at h
  refine fn_of tab_ok Try.call56 Try.func56 rfl (Nat.le_of_ble_eq_true rfl) (Nat.le_refl _) fun hU => ?_
  have hN0 : O n = none := hU.fresh _ (Nat.le_refl _)
  have hN : ∀ k, O (n + k) = none := fun k => hU.fresh _ (Nat.le_add_right _ _)
  show W _ _ _ _ ⟨41, [], [(0, .agg [.val (.int .i64 a0.Kind), .sl a0.Words.length (fl (eI .u64) a0.Words), .sl a0.Kids.length (fl e_S_api_Tree a0.Kids)]), (1, .val (.int .i64 a1)), (2, .val (.int .i64 a2))]⟩ (Loc O n []) _
  refine W_sq [1, 2, 3] (W_regionD tab_ok [] ?_)
  simp only [push_cast, Nat.reduceAdd, Nat.reduceSub, Nat.reduceMul, Nat.reduceLeDiff, Nat.reduceLT, Nat.reduceEqDiff, ↓reduceIte, reduceCtorEq, Int.reduceBEq, Int.reduceBNe, Nat.reduceBEq, Int.reduceLE, Int.reduceLT, Int.reduceEq, Int.reduceNe, Int.reduceNeg, Nat.reduceDiv, Nat.reduceMod, Nat.reducePow, cast_lit, hN0, hN]
  refine W_sq [1, 2, 3] (W_regionD tab_ok [] ?_)
  simp only [push_cast, Nat.reduceAdd, Nat.reduceSub, Nat.reduceMul, Nat.reduceLeDiff, Nat.reduceLT, Nat.reduceEqDiff, ↓reduceIte, reduceCtorEq, Int.reduceBEq, Int.reduceBNe, Nat.reduceBEq, Int.reduceLE, Int.reduceLT, Int.reduceEq, Int.reduceNe, Int.reduceNeg, Nat.reduceDiv, Nat.reduceMod, Nat.reducePow, cast_lit, hN0, hN]
  refine W_seqK ?_
  refine W_sq [1, 2, 3, 19] (W_regionD tab_ok [none, none] ?_)
  simp only [push_cast, Nat.reduceAdd, Nat.reduceSub, Nat.reduceMul, Nat.reduceLeDiff, Nat.reduceLT, Nat.reduceEqDiff, ↓reduceIte, reduceCtorEq, Int.reduceBEq, Int.reduceBNe, Nat.reduceBEq, Int.reduceLE, Int.reduceLT, Int.reduceEq, Int.reduceNe, Int.reduceNeg, Nat.reduceDiv, Nat.reduceMod, Nat.reducePow, cast_lit, hN0, hN]
  repeat (with_reducible refine And.intro (by first | (intro h0; simp only [h0, and_self]; done) | (intro h0; simp only [h0, Bool.not_false, Bool.not_true, Bool.true_and, Bool.and_true, true_and, and_true, and_self, imp_self, implies_true, bne_iff_ne, ne_eq, beq_iff_eq]; done) | (intros; simp_all; done) | exact True.intro) ?_)
  refine W_cond (t := (cond (a1 == 0) true (decide ((IntKind.i64.wrap ((IntKind.i64.wrap (a2 - 1)) - (a0.Words.length : Int))) < 0)))) rfl (fun c5 => ?_) (fun c5 => ?_)
  · replace h := condT c5 h
    refine W_sq [6] (W_regionD tab_ok [] ?_)
    simp only [push_cast, Nat.reduceAdd, Nat.reduceSub, Nat.reduceMul, Nat.reduceLeDiff, Nat.reduceLT, Nat.reduceEqDiff, ↓reduceIte, reduceCtorEq, Int.reduceBEq, Int.reduceBNe, Nat.reduceBEq, Int.reduceLE, Int.reduceLT, Int.reduceEq, Int.reduceNe, Int.reduceNeg, Nat.reduceDiv, Nat.reduceMod, Nat.reducePow, cast_lit, hN0, hN]
    refine W_ret ?_
    try simp only [gthen, gblock]
    have h := Option.some.inj h; subst h
    refine fin_loc (.inr rfl) hU [.val (.int .i64 (-1))] (by omega) ?_
    simp only [push_cast, Nat.reduceAdd, Nat.reduceSub, Nat.reduceMul, Nat.reduceLeDiff, Nat.reduceLT, Nat.reduceEqDiff, ↓reduceIte, reduceCtorEq, Int.reduceBEq, Int.reduceBNe, Nat.reduceBEq, Int.reduceLE, Int.reduceLT, Int.reduceEq, Int.reduceNe, Int.reduceNeg, Nat.reduceDiv, Nat.reduceMod, Nat.reducePow, cast_lit, Try.results56, hN0, hN]
  · replace h := condF c5 h
    refine W_skip ?_
    try simp only [gthen, gblock]
    refine W_fit ⟨41, [], [(1, .val (.int .i64 a1)), (2, .val (.int .i64 (IntKind.i64.wrap ((IntKind.i64.wrap (a2 - 1)) - (a0.Words.length : Int))))), (3, .ref n 0)]⟩ (Loc O n [some ⟨false, 25, 3, 1, [.val (.int .i64 a0.Kind), .sl a0.Words.length (fl (eI .u64) a0.Words), .sl a0.Kids.length (fl e_S_api_Tree a0.Kids)]⟩]) (fit_loc hU rfl rfl ?_) ?_
    · simp only [push_cast, Nat.reduceAdd, Nat.reduceSub, Nat.reduceMul, Nat.reduceLeDiff, Nat.reduceLT, Nat.reduceEqDiff, ↓reduceIte, reduceCtorEq, Int.reduceBEq, Int.reduceBNe, Nat.reduceBEq, Int.reduceLE, Int.reduceLT, Int.reduceEq, Int.reduceNe, Int.reduceNeg, Nat.reduceDiv, Nat.reduceMod, Nat.reducePow, cast_lit, hN0, hN]
    refine W_seqK ?_
    refine W_sq [1, 2, 3, 7] (W_regionD tab_ok [] ?_)
    simp only [push_cast, Nat.reduceAdd, Nat.reduceSub, Nat.reduceMul, Nat.reduceLeDiff, Nat.reduceLT, Nat.reduceEqDiff, ↓reduceIte, reduceCtorEq, Int.reduceBEq, Int.reduceBNe, Nat.reduceBEq, Int.reduceLE, Int.reduceLT, Int.reduceEq, Int.reduceNe, Int.reduceNeg, Nat.reduceDiv, Nat.reduceMod, Nat.reducePow, cast_lit, hN0, hN]
    refine W_fit ⟨41, [], [(1, .val (.int .i64 a1)), (2, .val (.int .i64 (IntKind.i64.wrap ((IntKind.i64.wrap (a2 - 1)) - (a0.Words.length : Int))))), (3, .ref n 0), (7, .val (.int .i64 0))]⟩ (Loc O n [some ⟨false, 25, 3, 1, [.val (.int .i64 a0.Kind), .sl a0.Words.length (fl (eI .u64) a0.Words), .sl a0.Kids.length (fl e_S_api_Tree a0.Kids)]⟩]) (fit_loc hU rfl rfl ?_) ?_
    · simp only [push_cast, Nat.reduceAdd, Nat.reduceSub, Nat.reduceMul, Nat.reduceLeDiff, Nat.reduceLT, Nat.reduceEqDiff, ↓reduceIte, reduceCtorEq, Int.reduceBEq, Int.reduceBNe, Nat.reduceBEq, Int.reduceLE, Int.reduceLT, Int.reduceEq, Int.reduceNe, Int.reduceNeg, Nat.reduceDiv, Nat.reduceMod, Nat.reducePow, cast_lit, hN0, hN]
    obtain ⟨z4, hz4, h⟩ := bC h
    refine W_blockX (E' := ⟨41, [], [(2, .val (.int .i64 z4))]⟩) (O' := (Loc O n [none])) (n0 := (n + 1)) ?_ ?_
    · refine W_loopJ hz4 (fun s0_ => ⟨41, [], [(1, .val (.int .i64 a1)), (2, .val (.int .i64 s0_.1)), (3, .ref n 0), (7, .val (.int .i64 s0_.2))]⟩) (fun s0_ => (Loc O n [some ⟨false, 25, 3, 1, [.val (.int .i64 a0.Kind), .sl a0.Words.length (fl (eI .u64) a0.Words), .sl a0.Kids.length (fl e_S_api_Tree a0.Kids)]⟩])) (fun z4 => JX 0 n (⟨41, [], [(2, .val (.int .i64 z4))]⟩ : Env) (Loc O n [none]) (n + 1)) ?_
      intro s0_ x0_ hs0_
      unfold b_centoref07_Shallow_L0 at hs0_
      try dsimp only
      refine W_seqK ?_
      refine W_sq [1, 2, 3, 7, 28] (W_regionD tab_ok [none, none] ?_)
      simp only [push_cast, Nat.reduceAdd, Nat.reduceSub, Nat.reduceMul, Nat.reduceLeDiff, Nat.reduceLT, Nat.reduceEqDiff, ↓reduceIte, reduceCtorEq, Int.reduceBEq, Int.reduceBNe, Nat.reduceBEq, Int.reduceLE, Int.reduceLT, Int.reduceEq, Int.reduceNe, Int.reduceNeg, Nat.reduceDiv, Nat.reduceMod, Nat.reducePow, cast_lit, hN0, hN]
      repeat (with_reducible refine And.intro (by first | (intro h0; simp only [h0, and_self]; done) | (intro h0; simp only [h0, Bool.not_false, Bool.not_true, Bool.true_and, Bool.and_true, true_and, and_true, and_self, imp_self, implies_true, bne_iff_ne, ne_eq, beq_iff_eq]; done) | (intros; simp_all; done) | exact True.intro) ?_)
      refine W_cond (t := (cond (decide (s0_.2 < (a0.Kids.length : Int))) (decide (0 ≤ s0_.1)) false)) rfl (fun c3 => ?_) (fun c3 => ?_)
      · replace hs0_ := condT c3 hs0_
        refine W_skip ?_
        try simp only [gthen, gblock]
        refine W_fit ⟨41, [], [(1, .val (.int .i64 a1)), (2, .val (.int .i64 s0_.1)), (3, .ref n 0), (7, .val (.int .i64 s0_.2))]⟩ (Loc O n [some ⟨false, 25, 3, 1, [.val (.int .i64 a0.Kind), .sl a0.Words.length (fl (eI .u64) a0.Words), .sl a0.Kids.length (fl e_S_api_Tree a0.Kids)]⟩]) (fit_loc hU rfl rfl ?_) ?_
        · simp only [push_cast, Nat.reduceAdd, Nat.reduceSub, Nat.reduceMul, Nat.reduceLeDiff, Nat.reduceLT, Nat.reduceEqDiff, ↓reduceIte, reduceCtorEq, Int.reduceBEq, Int.reduceBNe, Nat.reduceBEq, Int.reduceLE, Int.reduceLT, Int.reduceEq, Int.reduceNe, Int.reduceNeg, Nat.reduceDiv, Nat.reduceMod, Nat.reducePow, cast_lit, hN0, hN]
        refine W_seqK ?_
        refine W_block ?_
        obtain ⟨x1, hx1, ax1, bx1, cx1, hs0_⟩ := bE (f := e_S_api_Tree) tab25 (fun _ => rfl) (by decide) hs0_
        obtain ⟨y2, hy2, hs0_⟩ := bC hs0_
        refine W_regionD tab_ok [] ?_
        simp only [push_cast, Nat.reduceAdd, Nat.reduceSub, Nat.reduceMul, Nat.reduceLeDiff, Nat.reduceLT, Nat.reduceEqDiff, ↓reduceIte, reduceCtorEq, Int.reduceBEq, Int.reduceBNe, Nat.reduceBEq, Int.reduceLE, Int.reduceLT, Int.reduceEq, Int.reduceNe, Int.reduceNeg, Nat.reduceDiv, Nat.reduceMod, Nat.reducePow, cast_lit, ax1, bx1, cx1, hN0, hN]
        refine (ok_r_centoref07_Shallow hy2).then ?_
        simp only [push_cast, Nat.reduceAdd, Nat.reduceSub, Nat.reduceMul, Nat.reduceLeDiff, Nat.reduceLT, Nat.reduceEqDiff, ↓reduceIte, reduceCtorEq, Int.reduceBEq, Int.reduceBNe, Nat.reduceBEq, Int.reduceLE, Int.reduceLT, Int.reduceEq, Int.reduceNe, Int.reduceNeg, Nat.reduceDiv, Nat.reduceMod, Nat.reducePow, cast_lit, ax1, bx1, cx1, hN0, hN]
        refine W_fit ⟨41, [], [(1, .val (.int .i64 a1)), (2, .val (.int .i64 y2)), (3, .ref n 0), (7, .val (.int .i64 s0_.2))]⟩ (Loc O n [some ⟨false, 25, 3, 1, [.val (.int .i64 a0.Kind), .sl a0.Words.length (fl (eI .u64) a0.Words), .sl a0.Kids.length (fl e_S_api_Tree a0.Kids)]⟩]) (fit_loc hU rfl rfl ?_) ?_
        · simp only [push_cast, Nat.reduceAdd, Nat.reduceSub, Nat.reduceMul, Nat.reduceLeDiff, Nat.reduceLT, Nat.reduceEqDiff, ↓reduceIte, reduceCtorEq, Int.reduceBEq, Int.reduceBNe, Nat.reduceBEq, Int.reduceLE, Int.reduceLT, Int.reduceEq, Int.reduceNe, Int.reduceNeg, Nat.reduceDiv, Nat.reduceMod, Nat.reducePow, cast_lit, ax1, bx1, cx1, hN0, hN]
        refine W_regionD tab_ok [] ?_
        simp only [push_cast, Nat.reduceAdd, Nat.reduceSub, Nat.reduceMul, Nat.reduceLeDiff, Nat.reduceLT, Nat.reduceEqDiff, ↓reduceIte, reduceCtorEq, Int.reduceBEq, Int.reduceBNe, Nat.reduceBEq, Int.reduceLE, Int.reduceLT, Int.reduceEq, Int.reduceNe, Int.reduceNeg, Nat.reduceDiv, Nat.reduceMod, Nat.reducePow, cast_lit, hN0, hN]
        have hs0_ := Option.some.inj hs0_; subst hs0_
        refine And.intro rfl (Fit2.of (fit_loc hU rfl rfl ?_) (by omega))
        simp only [push_cast, Nat.reduceAdd, Nat.reduceSub, Nat.reduceMul, Nat.reduceLeDiff, Nat.reduceLT, Nat.reduceEqDiff, ↓reduceIte, reduceCtorEq, Int.reduceBEq, Int.reduceBNe, Nat.reduceBEq, Int.reduceLE, Int.reduceLT, Int.reduceEq, Int.reduceNe, Int.reduceNeg, Nat.reduceDiv, Nat.reduceMod, Nat.reducePow, cast_lit, hN0, hN]
      · replace hs0_ := condF c3 hs0_
        refine W_exit ?_
        try simp only [gthen, gblock, ↓reduceIte, Nat.reduceEqDiff]
        have hs0_ := Option.some.inj hs0_; subst hs0_
        refine And.intro (fun h => by cases h) (And.intro rfl (Fit2.of (fit_loc hU rfl rfl ?_) (by omega)))
        simp only [push_cast, Nat.reduceAdd, Nat.reduceSub, Nat.reduceMul, Nat.reduceLeDiff, Nat.reduceLT, Nat.reduceEqDiff, ↓reduceIte, reduceCtorEq, Int.reduceBEq, Int.reduceBNe, Nat.reduceBEq, Int.reduceLE, Int.reduceLT, Int.reduceEq, Int.reduceNe, Int.reduceNeg, Nat.reduceDiv, Nat.reduceMod, Nat.reducePow, cast_lit, hN0, hN]
    try simp only [gthen, gblock, ↓reduceIte, Nat.reduceEqDiff]
    refine W_fit ⟨41, [], [(2, .val (.int .i64 z4))]⟩ (Loc O n [none]) (fit_loc hU rfl rfl ?_) ?_
    · simp only [push_cast, Nat.reduceAdd, Nat.reduceSub, Nat.reduceMul, Nat.reduceLeDiff, Nat.reduceLT, Nat.reduceEqDiff, ↓reduceIte, reduceCtorEq, Int.reduceBEq, Int.reduceBNe, Nat.reduceBEq, Int.reduceLE, Int.reduceLT, Int.reduceEq, Int.reduceNe, Int.reduceNeg, Nat.reduceDiv, Nat.reduceMod, Nat.reducePow, cast_lit, hN0, hN]
    refine W_sq [6] (W_regionD tab_ok [] ?_)
    simp only [push_cast, Nat.reduceAdd, Nat.reduceSub, Nat.reduceMul, Nat.reduceLeDiff, Nat.reduceLT, Nat.reduceEqDiff, ↓reduceIte, reduceCtorEq, Int.reduceBEq, Int.reduceBNe, Nat.reduceBEq, Int.reduceLE, Int.reduceLT, Int.reduceEq, Int.reduceNe, Int.reduceNeg, Nat.reduceDiv, Nat.reduceMod, Nat.reducePow, cast_lit, hN0, hN]
    refine W_ret ?_
    try simp only [gthen, gblock]
    have h := Option.some.inj h; subst h
    refine fin_loc (.inr rfl) hU [.val (.int .i64 z4)] (by omega) ?_
    simp only [push_cast, Nat.reduceAdd, Nat.reduceSub, Nat.reduceMul, Nat.reduceLeDiff, Nat.reduceLT, Nat.reduceEqDiff, ↓reduceIte, reduceCtorEq, Int.reduceBEq, Int.reduceBNe, Nat.reduceBEq, Int.reduceLE, Int.reduceLT, Int.reduceEq, Int.reduceNe, Int.reduceNeg, Nat.reduceDiv, Nat.reduceMod, Nat.reducePow, cast_lit, Try.results56, hN0, hN]

theorem lv_centoref07_Shallow_ok : ∀ k, (∀ {a0 : S_api_Tree} {a1 : Int} {a2 : Int} {r : Int} {O : Objs} {n : Nat}, (lv_centoref07_Shallow k) a0 a1 a2 = some r → GTo Try.prog 56 [.agg [.val (.int .i64 a0.Kind), .sl a0.Words.length (fl (eI .u64) a0.Words), .sl a0.Kids.length (fl e_S_api_Tree a0.Kids)], .val (.int .i64 a1), .val (.int .i64 a2)] O n (.val (.int .i64 r)) O n) := fun k => by
  induction k with
  | zero => exact @fun a0 a1 a2 r O n h => (nomatch (show (none : Option _) = some _ from h))
  | succ k ih => exact @fun a0 a1 a2 r O n h => okb_centoref07_Shallow (ih)  h

theorem ok_centoref07_Shallow {a0 : S_api_Tree} {a1 : Int} {a2 : Int} {r : Int} {O : Objs} {n : Nat} (h : m_centoref07_Shallow a0 a1 a2 = some r) : GTo Try.prog 56 [.agg [.val (.int .i64 a0.Kind), .sl a0.Words.length (fl (eI .u64) a0.Words), .sl a0.Kids.length (fl e_S_api_Tree a0.Kids)], .val (.int .i64 a1), .val (.int .i64 a2)] O n (.val (.int .i64 r)) O n := by
  obtain ⟨k, hk⟩ := lim_some h
  exact (lv_centoref07_Shallow_ok k)  hk

theorem ok_centoref07_Few {a0 : S_api_Tree} {r : Bool} {O : Objs} {n : Nat} (h : m_centoref07_Few a0 = some r) : GTo Try.prog 21 [.agg [.val (.int .i64 a0.Kind), .sl a0.Words.length (fl (eI .u64) a0.Words), .sl a0.Kids.length (fl e_S_api_Tree a0.Kids)]] O n (.val (.bool r)) O n := by
  unfold m_centoref07_Few at h
  refine fn_of tab_ok Try.call21 Try.func21 rfl (Nat.le_of_ble_eq_true rfl) (Nat.le_refl _) fun hU => ?_
  have hN0 : O n = none := hU.fresh _ (Nat.le_refl _)
  have hN : ∀ k, O (n + k) = none := fun k => hU.fresh _ (Nat.le_add_right _ _)
  show W _ _ _ _ ⟨6, [], [(0, .agg [.val (.int .i64 a0.Kind), .sl a0.Words.length (fl (eI .u64) a0.Words), .sl a0.Kids.length (fl e_S_api_Tree a0.Kids)])]⟩ (Loc O n []) _
  refine W_sq [1] (W_regionD tab_ok [] ?_)
  simp only [push_cast, Nat.reduceAdd, Nat.reduceSub, Nat.reduceMul, Nat.reduceLeDiff, Nat.reduceLT, Nat.reduceEqDiff, ↓reduceIte, reduceCtorEq, Int.reduceBEq, Int.reduceBNe, Nat.reduceBEq, Int.reduceLE, Int.reduceLT, Int.reduceEq, Int.reduceNe, Int.reduceNeg, Nat.reduceDiv, Nat.reduceMod, Nat.reducePow, cast_lit, hN0, hN]
  refine W_seqK ?_
  obtain ⟨y2, hy2, h⟩ := bC h
  refine W_regionD tab_ok [] ?_
  simp only [push_cast, Nat.reduceAdd, Nat.reduceSub, Nat.reduceMul, Nat.reduceLeDiff, Nat.reduceLT, Nat.reduceEqDiff, ↓reduceIte, reduceCtorEq, Int.reduceBEq, Int.reduceBNe, Nat.reduceBEq, Int.reduceLE, Int.reduceLT, Int.reduceEq, Int.reduceNe, Int.reduceNeg, Nat.reduceDiv, Nat.reduceMod, Nat.reducePow, cast_lit, hN0, hN]
  refine (ok_centoref07_Shallow hy2).then ?_
  simp only [push_cast, Nat.reduceAdd, Nat.reduceSub, Nat.reduceMul, Nat.reduceLeDiff, Nat.reduceLT, Nat.reduceEqDiff, ↓reduceIte, reduceCtorEq, Int.reduceBEq, Int.reduceBNe, Nat.reduceBEq, Int.reduceLE, Int.reduceLT, Int.reduceEq, Int.reduceNe, Int.reduceNeg, Nat.reduceDiv, Nat.reduceMod, Nat.reducePow, cast_lit, hN0, hN]
  refine W_fit ⟨6, [], [(2, .val (.bool (decide (0 ≤ y2))))]⟩ (Loc O n [none]) (fit_loc hU rfl rfl ?_) ?_
  · simp only [push_cast, Nat.reduceAdd, Nat.reduceSub, Nat.reduceMul, Nat.reduceLeDiff, Nat.reduceLT, Nat.reduceEqDiff, ↓reduceIte, reduceCtorEq, Int.reduceBEq, Int.reduceBNe, Nat.reduceBEq, Int.reduceLE, Int.reduceLT, Int.reduceEq, Int.reduceNe, Int.reduceNeg, Nat.reduceDiv, Nat.reduceMod, Nat.reducePow, cast_lit, hN0, hN]
  refine W_ret ?_
  try simp only [gthen, gblock]
  have h := Option.some.inj h; subst h
  refine fin_loc (.inr rfl) hU [.val (.bool (decide (0 ≤ y2)))] (by omega) ?_
  simp only [push_cast, Nat.reduceAdd, Nat.reduceSub, Nat.reduceMul, Nat.reduceLeDiff, Nat.reduceLT, Nat.reduceEqDiff, ↓reduceIte, reduceCtorEq, Int.reduceBEq, Int.reduceBNe, Nat.reduceBEq, Int.reduceLE, Int.reduceLT, Int.reduceEq, Int.reduceNe, Int.reduceNeg, Nat.reduceDiv, Nat.reduceMod, Nat.reducePow, cast_lit, Try.results21, hN0, hN]

theorem ok_centoref01_Width {a0 : Int} {r : Int} {O : Objs} {n : Nat} (h : m_centoref01_Width a0 = some r) : GTo Try.prog 92 [.val (.int .i64 a0)] O n (.val (.int .i64 r)) O n := by
  unfold m_centoref01_Width at h
  refine fn_of tab_ok Try.call92 Try.func92 rfl (Nat.le_of_ble_eq_true rfl) (Nat.le_refl _) fun hU => ?_
  have hN0 : O n = none := hU.fresh _ (Nat.le_refl _)
  have hN : ∀ k, O (n + k) = none := fun k => hU.fresh _ (Nat.le_add_right _ _)
  show W _ _ _ _ ⟨16, [], [(0, .val (.int .i64 a0))]⟩ (Loc O n []) _
  refine W_sq [0] (W_regionD tab_ok [] ?_)
  simp only [push_cast, Nat.reduceAdd, Nat.reduceSub, Nat.reduceMul, Nat.reduceLeDiff, Nat.reduceLT, Nat.reduceEqDiff, ↓reduceIte, reduceCtorEq, Int.reduceBEq, Int.reduceBNe, Nat.reduceBEq, Int.reduceLE, Int.reduceLT, Int.reduceEq, Int.reduceNe, Int.reduceNeg, Nat.reduceDiv, Nat.reduceMod, Nat.reducePow, cast_lit, hN0, hN]
  refine W_seqK ?_
  refine W_sq [3] (W_regionD tab_ok [] ?_)
  simp only [push_cast, Nat.reduceAdd, Nat.reduceSub, Nat.reduceMul, Nat.reduceLeDiff, Nat.reduceLT, Nat.reduceEqDiff, ↓reduceIte, reduceCtorEq, Int.reduceBEq, Int.reduceBNe, Nat.reduceBEq, Int.reduceLE, Int.reduceLT, Int.reduceEq, Int.reduceNe, Int.reduceNeg, Nat.reduceDiv, Nat.reduceMod, Nat.reducePow, cast_lit, hN0, hN]
  refine W_block ?_
  refine W_sq [3, 4] (W_regionD tab_ok [] ?_)
  simp only [push_cast, Nat.reduceAdd, Nat.reduceSub, Nat.reduceMul, Nat.reduceLeDiff, Nat.reduceLT, Nat.reduceEqDiff, ↓reduceIte, reduceCtorEq, Int.reduceBEq, Int.reduceBNe, Nat.reduceBEq, Int.reduceLE, Int.reduceLT, Int.reduceEq, Int.reduceNe, Int.reduceNeg, Nat.reduceDiv, Nat.reduceMod, Nat.reducePow, cast_lit, hN0, hN]
  refine W_cond (t := (a0 == 0)) rfl (fun c6 => ?_) (fun c6 => ?_)
  · replace h := condT c6 h
    refine W_sq [2] (W_regionD tab_ok [] ?_)
    simp only [push_cast, Nat.reduceAdd, Nat.reduceSub, Nat.reduceMul, Nat.reduceLeDiff, Nat.reduceLT, Nat.reduceEqDiff, ↓reduceIte, reduceCtorEq, Int.reduceBEq, Int.reduceBNe, Nat.reduceBEq, Int.reduceLE, Int.reduceLT, Int.reduceEq, Int.reduceNe, Int.reduceNeg, Nat.reduceDiv, Nat.reduceMod, Nat.reducePow, cast_lit, hN0, hN]
    refine W_ret ?_
    try simp only [gthen, gblock]
    have h := Option.some.inj h; subst h
    refine fin_loc (.inr rfl) hU [.val (.int .i64 0)] (by omega) ?_
    simp only [push_cast, Nat.reduceAdd, Nat.reduceSub, Nat.reduceMul, Nat.reduceLeDiff, Nat.reduceLT, Nat.reduceEqDiff, ↓reduceIte, reduceCtorEq, Int.reduceBEq, Int.reduceBNe, Nat.reduceBEq, Int.reduceLE, Int.reduceLT, Int.reduceEq, Int.reduceNe, Int.reduceNeg, Nat.reduceDiv, Nat.reduceMod, Nat.reducePow, cast_lit, Try.results92, hN0, hN]
  · replace h := condF c6 h
    refine W_sq [3, 6] (W_regionD tab_ok [] ?_)
    simp only [push_cast, Nat.reduceAdd, Nat.reduceSub, Nat.reduceMul, Nat.reduceLeDiff, Nat.reduceLT, Nat.reduceEqDiff, ↓reduceIte, reduceCtorEq, Int.reduceBEq, Int.reduceBNe, Nat.reduceBEq, Int.reduceLE, Int.reduceLT, Int.reduceEq, Int.reduceNe, Int.reduceNeg, Nat.reduceDiv, Nat.reduceMod, Nat.reducePow, cast_lit, hN0, hN]
    refine W_cond (t := (a0 == 1)) rfl (fun c5 => ?_) (fun c5 => ?_)
    · replace h := condT c5 h
      refine W_sq [2] (W_regionD tab_ok [] ?_)
      simp only [push_cast, Nat.reduceAdd, Nat.reduceSub, Nat.reduceMul, Nat.reduceLeDiff, Nat.reduceLT, Nat.reduceEqDiff, ↓reduceIte, reduceCtorEq, Int.reduceBEq, Int.reduceBNe, Nat.reduceBEq, Int.reduceLE, Int.reduceLT, Int.reduceEq, Int.reduceNe, Int.reduceNeg, Nat.reduceDiv, Nat.reduceMod, Nat.reducePow, cast_lit, hN0, hN]
      refine W_ret ?_
      try simp only [gthen, gblock]
      have h := Option.some.inj h; subst h
      refine fin_loc (.inr rfl) hU [.val (.int .i64 1)] (by omega) ?_
      simp only [push_cast, Nat.reduceAdd, Nat.reduceSub, Nat.reduceMul, Nat.reduceLeDiff, Nat.reduceLT, Nat.reduceEqDiff, ↓reduceIte, reduceCtorEq, Int.reduceBEq, Int.reduceBNe, Nat.reduceBEq, Int.reduceLE, Int.reduceLT, Int.reduceEq, Int.reduceNe, Int.reduceNeg, Nat.reduceDiv, Nat.reduceMod, Nat.reducePow, cast_lit, Try.results92, hN0, hN]
    · replace h := condF c5 h
      refine W_sq [3, 8] (W_regionD tab_ok [] ?_)
      simp only [push_cast, Nat.reduceAdd, Nat.reduceSub, Nat.reduceMul, Nat.reduceLeDiff, Nat.reduceLT, Nat.reduceEqDiff, ↓reduceIte, reduceCtorEq, Int.reduceBEq, Int.reduceBNe, Nat.reduceBEq, Int.reduceLE, Int.reduceLT, Int.reduceEq, Int.reduceNe, Int.reduceNeg, Nat.reduceDiv, Nat.reduceMod, Nat.reducePow, cast_lit, hN0, hN]
      refine W_cond (t := (a0 == 2)) rfl (fun c4 => ?_) (fun c4 => ?_)
      · replace h := condT c4 h
        refine W_sq [2] (W_regionD tab_ok [] ?_)
        simp only [push_cast, Nat.reduceAdd, Nat.reduceSub, Nat.reduceMul, Nat.reduceLeDiff, Nat.reduceLT, Nat.reduceEqDiff, ↓reduceIte, reduceCtorEq, Int.reduceBEq, Int.reduceBNe, Nat.reduceBEq, Int.reduceLE, Int.reduceLT, Int.reduceEq, Int.reduceNe, Int.reduceNeg, Nat.reduceDiv, Nat.reduceMod, Nat.reducePow, cast_lit, hN0, hN]
        refine W_ret ?_
        try simp only [gthen, gblock]
        have h := Option.some.inj h; subst h
        refine fin_loc (.inr rfl) hU [.val (.int .i64 8)] (by omega) ?_
        simp only [push_cast, Nat.reduceAdd, Nat.reduceSub, Nat.reduceMul, Nat.reduceLeDiff, Nat.reduceLT, Nat.reduceEqDiff, ↓reduceIte, reduceCtorEq, Int.reduceBEq, Int.reduceBNe, Nat.reduceBEq, Int.reduceLE, Int.reduceLT, Int.reduceEq, Int.reduceNe, Int.reduceNeg, Nat.reduceDiv, Nat.reduceMod, Nat.reducePow, cast_lit, Try.results92, hN0, hN]
      · replace h := condF c4 h
        refine W_sq [3, 10] (W_regionD tab_ok [] ?_)
        simp only [push_cast, Nat.reduceAdd, Nat.reduceSub, Nat.reduceMul, Nat.reduceLeDiff, Nat.reduceLT, Nat.reduceEqDiff, ↓reduceIte, reduceCtorEq, Int.reduceBEq, Int.reduceBNe, Nat.reduceBEq, Int.reduceLE, Int.reduceLT, Int.reduceEq, Int.reduceNe, Int.reduceNeg, Nat.reduceDiv, Nat.reduceMod, Nat.reducePow, cast_lit, hN0, hN]
        refine W_cond (t := (a0 == 3)) rfl (fun c3 => ?_) (fun c3 => ?_)
        · replace h := condT c3 h
          refine W_sq [2] (W_regionD tab_ok [] ?_)
          simp only [push_cast, Nat.reduceAdd, Nat.reduceSub, Nat.reduceMul, Nat.reduceLeDiff, Nat.reduceLT, Nat.reduceEqDiff, ↓reduceIte, reduceCtorEq, Int.reduceBEq, Int.reduceBNe, Nat.reduceBEq, Int.reduceLE, Int.reduceLT, Int.reduceEq, Int.reduceNe, Int.reduceNeg, Nat.reduceDiv, Nat.reduceMod, Nat.reducePow, cast_lit, hN0, hN]
          refine W_ret ?_
          try simp only [gthen, gblock]
          have h := Option.some.inj h; subst h
          refine fin_loc (.inr rfl) hU [.val (.int .i64 16)] (by omega) ?_
          simp only [push_cast, Nat.reduceAdd, Nat.reduceSub, Nat.reduceMul, Nat.reduceLeDiff, Nat.reduceLT, Nat.reduceEqDiff, ↓reduceIte, reduceCtorEq, Int.reduceBEq, Int.reduceBNe, Nat.reduceBEq, Int.reduceLE, Int.reduceLT, Int.reduceEq, Int.reduceNe, Int.reduceNeg, Nat.reduceDiv, Nat.reduceMod, Nat.reducePow, cast_lit, Try.results92, hN0, hN]
        · replace h := condF c3 h
          refine W_sq [3, 12] (W_regionD tab_ok [] ?_)
          simp only [push_cast, Nat.reduceAdd, Nat.reduceSub, Nat.reduceMul, Nat.reduceLeDiff, Nat.reduceLT, Nat.reduceEqDiff, ↓reduceIte, reduceCtorEq, Int.reduceBEq, Int.reduceBNe, Nat.reduceBEq, Int.reduceLE, Int.reduceLT, Int.reduceEq, Int.reduceNe, Int.reduceNeg, Nat.reduceDiv, Nat.reduceMod, Nat.reducePow, cast_lit, hN0, hN]
          refine W_cond (t := (a0 == 4)) rfl (fun c2 => ?_) (fun c2 => ?_)
          · replace h := condT c2 h
            refine W_sq [2] (W_regionD tab_ok [] ?_)
            simp only [push_cast, Nat.reduceAdd, Nat.reduceSub, Nat.reduceMul, Nat.reduceLeDiff, Nat.reduceLT, Nat.reduceEqDiff, ↓reduceIte, reduceCtorEq, Int.reduceBEq, Int.reduceBNe, Nat.reduceBEq, Int.reduceLE, Int.reduceLT, Int.reduceEq, Int.reduceNe, Int.reduceNeg, Nat.reduceDiv, Nat.reduceMod, Nat.reducePow, cast_lit, hN0, hN]
            refine W_ret ?_
            try simp only [gthen, gblock]
            have h := Option.some.inj h; subst h
            refine fin_loc (.inr rfl) hU [.val (.int .i64 32)] (by omega) ?_
            simp only [push_cast, Nat.reduceAdd, Nat.reduceSub, Nat.reduceMul, Nat.reduceLeDiff, Nat.reduceLT, Nat.reduceEqDiff, ↓reduceIte, reduceCtorEq, Int.reduceBEq, Int.reduceBNe, Nat.reduceBEq, Int.reduceLE, Int.reduceLT, Int.reduceEq, Int.reduceNe, Int.reduceNeg, Nat.reduceDiv, Nat.reduceMod, Nat.reducePow, cast_lit, Try.results92, hN0, hN]
          · replace h := condF c2 h
            refine W_sq [14] (W_regionD tab_ok [] ?_)
            simp only [push_cast, Nat.reduceAdd, Nat.reduceSub, Nat.reduceMul, Nat.reduceLeDiff, Nat.reduceLT, Nat.reduceEqDiff, ↓reduceIte, reduceCtorEq, Int.reduceBEq, Int.reduceBNe, Nat.reduceBEq, Int.reduceLE, Int.reduceLT, Int.reduceEq, Int.reduceNe, Int.reduceNeg, Nat.reduceDiv, Nat.reduceMod, Nat.reducePow, cast_lit, hN0, hN]
            refine W_cond (t := (a0 == 5)) rfl (fun c1 => ?_) (fun c1 => ?_)
            · replace h := condT c1 h
              refine W_sq [2] (W_regionD tab_ok [] ?_)
              simp only [push_cast, Nat.reduceAdd, Nat.reduceSub, Nat.reduceMul, Nat.reduceLeDiff, Nat.reduceLT, Nat.reduceEqDiff, ↓reduceIte, reduceCtorEq, Int.reduceBEq, Int.reduceBNe, Nat.reduceBEq, Int.reduceLE, Int.reduceLT, Int.reduceEq, Int.reduceNe, Int.reduceNeg, Nat.reduceDiv, Nat.reduceMod, Nat.reducePow, cast_lit, hN0, hN]
              refine W_ret ?_
              try simp only [gthen, gblock]
              have h := Option.some.inj h; subst h
              refine fin_loc (.inr rfl) hU [.val (.int .i64 64)] (by omega) ?_
              simp only [push_cast, Nat.reduceAdd, Nat.reduceSub, Nat.reduceMul, Nat.reduceLeDiff, Nat.reduceLT, Nat.reduceEqDiff, ↓reduceIte, reduceCtorEq, Int.reduceBEq, Int.reduceBNe, Nat.reduceBEq, Int.reduceLE, Int.reduceLT, Int.reduceEq, Int.reduceNe, Int.reduceNeg, Nat.reduceDiv, Nat.reduceMod, Nat.reducePow, cast_lit, Try.results92, hN0, hN]
            · replace h := condF c1 h
              refine W_skip ?_
              try simp only [gthen, gblock]
              refine W_fit ⟨16, [], []⟩ (Loc O n []) (fit_loc hU rfl rfl ?_) ?_
              · simp only [push_cast, Nat.reduceAdd, Nat.reduceSub, Nat.reduceMul, Nat.reduceLeDiff, Nat.reduceLT, Nat.reduceEqDiff, ↓reduceIte, reduceCtorEq, Int.reduceBEq, Int.reduceBNe, Nat.reduceBEq, Int.reduceLE, Int.reduceLT, Int.reduceEq, Int.reduceNe, Int.reduceNeg, Nat.reduceDiv, Nat.reduceMod, Nat.reducePow, cast_lit, hN0, hN]
              refine W_sq [2] (W_regionD tab_ok [] ?_)
              simp only [push_cast, Nat.reduceAdd, Nat.reduceSub, Nat.reduceMul, Nat.reduceLeDiff, Nat.reduceLT, Nat.reduceEqDiff, ↓reduceIte, reduceCtorEq, Int.reduceBEq, Int.reduceBNe, Nat.reduceBEq, Int.reduceLE, Int.reduceLT, Int.reduceEq, Int.reduceNe, Int.reduceNeg, Nat.reduceDiv, Nat.reduceMod, Nat.reducePow, cast_lit, hN0, hN]
              refine W_ret ?_
              try simp only [gthen, gblock]
              have h := Option.some.inj h; subst h
              refine fin_loc (.inr rfl) hU [.val (.int .i64 (-1))] (by omega) ?_
              simp only [push_cast, Nat.reduceAdd, Nat.reduceSub, Nat.reduceMul, Nat.reduceLeDiff, Nat.reduceLT, Nat.reduceEqDiff, ↓reduceIte, reduceCtorEq, Int.reduceBEq, Int.reduceBNe, Nat.reduceBEq, Int.reduceLE, Int.reduceLT, Int.reduceEq, Int.reduceNe, Int.reduceNeg, Nat.reduceDiv, Nat.reduceMod, Nat.reducePow, cast_lit, Try.results92, hN0, hN]

theorem ok_centoref01_Fits {a0 : Int} {a1 : Int} {r : Bool} {O : Objs} {n : Nat} (h : m_centoref01_Fits a0 a1 = some r) : GTo Try.prog 57 [.val (.int .i64 a0), .val (.int .u64 a1)] O n (.val (.bool r)) O n := by
  unfold m_centoref01_Fits at h
  refine fn_of tab_ok Try.call57 Try.func57 rfl (Nat.le_of_ble_eq_true rfl) (Nat.le_refl _) fun hU => ?_
  have hN0 : O n = none := hU.fresh _ (Nat.le_refl _)
  have hN : ∀ k, O (n + k) = none := fun k => hU.fresh _ (Nat.le_add_right _ _)
  show W _ _ _ _ ⟨20, [], [(0, .val (.int .i64 a0)), (1, .val (.int .u64 a1))]⟩ (Loc O n []) _
  refine W_sq [0, 1] (W_regionD tab_ok [] ?_)
  simp only [push_cast, Nat.reduceAdd, Nat.reduceSub, Nat.reduceMul, Nat.reduceLeDiff, Nat.reduceLT, Nat.reduceEqDiff, ↓reduceIte, reduceCtorEq, Int.reduceBEq, Int.reduceBNe, Nat.reduceBEq, Int.reduceLE, Int.reduceLT, Int.reduceEq, Int.reduceNe, Int.reduceNeg, Nat.reduceDiv, Nat.reduceMod, Nat.reducePow, cast_lit, hN0, hN]
  refine W_seqK ?_
  obtain ⟨y2, hy2, h⟩ := bC h
  refine W_regionD tab_ok [] ?_
  simp only [push_cast, Nat.reduceAdd, Nat.reduceSub, Nat.reduceMul, Nat.reduceLeDiff, Nat.reduceLT, Nat.reduceEqDiff, ↓reduceIte, reduceCtorEq, Int.reduceBEq, Int.reduceBNe, Nat.reduceBEq, Int.reduceLE, Int.reduceLT, Int.reduceEq, Int.reduceNe, Int.reduceNeg, Nat.reduceDiv, Nat.reduceMod, Nat.reducePow, cast_lit, hN0, hN]
  refine (ok_centoref01_Width hy2).then ?_
  simp only [push_cast, Nat.reduceAdd, Nat.reduceSub, Nat.reduceMul, Nat.reduceLeDiff, Nat.reduceLT, Nat.reduceEqDiff, ↓reduceIte, reduceCtorEq, Int.reduceBEq, Int.reduceBNe, Nat.reduceBEq, Int.reduceLE, Int.reduceLT, Int.reduceEq, Int.reduceNe, Int.reduceNeg, Nat.reduceDiv, Nat.reduceMod, Nat.reducePow, cast_lit, hN0, hN]
  refine W_fit ⟨20, [], [(1, .val (.int .u64 a1)), (5, .val (.int .i64 y2))]⟩ (Loc O n []) (fit_loc hU rfl rfl ?_) ?_
  · simp only [push_cast, Nat.reduceAdd, Nat.reduceSub, Nat.reduceMul, Nat.reduceLeDiff, Nat.reduceLT, Nat.reduceEqDiff, ↓reduceIte, reduceCtorEq, Int.reduceBEq, Int.reduceBNe, Nat.reduceBEq, Int.reduceLE, Int.reduceLT, Int.reduceEq, Int.reduceNe, Int.reduceNeg, Nat.reduceDiv, Nat.reduceMod, Nat.reducePow, cast_lit, hN0, hN]
  refine W_seqK ?_
  refine W_sq [1, 5, 10] (W_regionD tab_ok [] ?_)
  simp only [push_cast, Nat.reduceAdd, Nat.reduceSub, Nat.reduceMul, Nat.reduceLeDiff, Nat.reduceLT, Nat.reduceEqDiff, ↓reduceIte, reduceCtorEq, Int.reduceBEq, Int.reduceBNe, Nat.reduceBEq, Int.reduceLE, Int.reduceLT, Int.reduceEq, Int.reduceNe, Int.reduceNeg, Nat.reduceDiv, Nat.reduceMod, Nat.reducePow, cast_lit, hN0, hN]
  refine W_cond (t := (decide (y2 < 0))) rfl (fun c5 => ?_) (fun c5 => ?_)
  · replace h := condT c5 h
    refine W_sq [4] (W_regionD tab_ok [] ?_)
    simp only [push_cast, Nat.reduceAdd, Nat.reduceSub, Nat.reduceMul, Nat.reduceLeDiff, Nat.reduceLT, Nat.reduceEqDiff, ↓reduceIte, reduceCtorEq, Int.reduceBEq, Int.reduceBNe, Nat.reduceBEq, Int.reduceLE, Int.reduceLT, Int.reduceEq, Int.reduceNe, Int.reduceNeg, Nat.reduceDiv, Nat.reduceMod, Nat.reducePow, cast_lit, hN0, hN]
    refine W_ret ?_
    try simp only [gthen, gblock]
    have h := Option.some.inj h; subst h
    refine fin_loc (.inr rfl) hU [.val (.bool false)] (by omega) ?_
    simp only [push_cast, Nat.reduceAdd, Nat.reduceSub, Nat.reduceMul, Nat.reduceLeDiff, Nat.reduceLT, Nat.reduceEqDiff, ↓reduceIte, reduceCtorEq, Int.reduceBEq, Int.reduceBNe, Nat.reduceBEq, Int.reduceLE, Int.reduceLT, Int.reduceEq, Int.reduceNe, Int.reduceNeg, Nat.reduceDiv, Nat.reduceMod, Nat.reducePow, cast_lit, Try.results57, hN0, hN]
  · replace h := condF c5 h
    refine W_skip ?_
    try simp only [gthen, gblock]
    refine W_fit ⟨20, [], [(1, .val (.int .u64 a1)), (5, .val (.int .i64 y2))]⟩ (Loc O n []) (fit_loc hU rfl rfl ?_) ?_
    · simp only [push_cast, Nat.reduceAdd, Nat.reduceSub, Nat.reduceMul, Nat.reduceLeDiff, Nat.reduceLT, Nat.reduceEqDiff, ↓reduceIte, reduceCtorEq, Int.reduceBEq, Int.reduceBNe, Nat.reduceBEq, Int.reduceLE, Int.reduceLT, Int.reduceEq, Int.reduceNe, Int.reduceNeg, Nat.reduceDiv, Nat.reduceMod, Nat.reducePow, cast_lit, hN0, hN]
    refine W_seqK ?_
    refine W_sq [1, 5, 6] (W_regionD tab_ok [] ?_)
    simp only [push_cast, Nat.reduceAdd, Nat.reduceSub, Nat.reduceMul, Nat.reduceLeDiff, Nat.reduceLT, Nat.reduceEqDiff, ↓reduceIte, reduceCtorEq, Int.reduceBEq, Int.reduceBNe, Nat.reduceBEq, Int.reduceLE, Int.reduceLT, Int.reduceEq, Int.reduceNe, Int.reduceNeg, Nat.reduceDiv, Nat.reduceMod, Nat.reducePow, cast_lit, hN0, hN]
    refine W_fit ⟨20, [], [(1, .val (.int .u64 a1)), (5, .val (.int .i64 y2)), (6, .val (.int .i64 0))]⟩ (Loc O n []) (fit_loc hU rfl rfl ?_) ?_
    · simp only [push_cast, Nat.reduceAdd, Nat.reduceSub, Nat.reduceMul, Nat.reduceLeDiff, Nat.reduceLT, Nat.reduceEqDiff, ↓reduceIte, reduceCtorEq, Int.reduceBEq, Int.reduceBNe, Nat.reduceBEq, Int.reduceLE, Int.reduceLT, Int.reduceEq, Int.reduceNe, Int.reduceNeg, Nat.reduceDiv, Nat.reduceMod, Nat.reducePow, cast_lit, hN0, hN]
    obtain ⟨z4, hz4, h⟩ := bC h
    refine W_blockX (E' := ⟨20, [], [(1, .val (.int .u64 z4))]⟩) (O' := (Loc O n [])) (n0 := n) ?_ ?_
    · refine W_loopJ hz4 (fun s0_ => ⟨20, [], [(1, .val (.int .u64 s0_.1)), (5, .val (.int .i64 y2)), (6, .val (.int .i64 s0_.2))]⟩) (fun s0_ => (Loc O n [])) (fun z4 => JX 0 n (⟨20, [], [(1, .val (.int .u64 z4))]⟩ : Env) (Loc O n []) n) ?_
      intro s0_ x0_ hs0_
      unfold m_centoref01_Fits_L0 at hs0_
      try dsimp only
      refine W_seqK ?_
      refine W_sq [1, 5, 6, 13] (W_regionD tab_ok [] ?_)
      simp only [push_cast, Nat.reduceAdd, Nat.reduceSub, Nat.reduceMul, Nat.reduceLeDiff, Nat.reduceLT, Nat.reduceEqDiff, ↓reduceIte, reduceCtorEq, Int.reduceBEq, Int.reduceBNe, Nat.reduceBEq, Int.reduceLE, Int.reduceLT, Int.reduceEq, Int.reduceNe, Int.reduceNeg, Nat.reduceDiv, Nat.reduceMod, Nat.reducePow, cast_lit, hN0, hN]
      refine W_cond (t := (decide (s0_.2 < y2))) rfl (fun c3 => ?_) (fun c3 => ?_)
      · replace hs0_ := condT c3 hs0_
        refine W_skip ?_
        try simp only [gthen, gblock]
        refine W_fit ⟨20, [], [(1, .val (.int .u64 s0_.1)), (5, .val (.int .i64 y2)), (6, .val (.int .i64 s0_.2))]⟩ (Loc O n []) (fit_loc hU rfl rfl ?_) ?_
        · simp only [push_cast, Nat.reduceAdd, Nat.reduceSub, Nat.reduceMul, Nat.reduceLeDiff, Nat.reduceLT, Nat.reduceEqDiff, ↓reduceIte, reduceCtorEq, Int.reduceBEq, Int.reduceBNe, Nat.reduceBEq, Int.reduceLE, Int.reduceLT, Int.reduceEq, Int.reduceNe, Int.reduceNeg, Nat.reduceDiv, Nat.reduceMod, Nat.reducePow, cast_lit, hN0, hN]
        refine W_seqK ?_
        refine W_block ?_
        refine W_regionD tab_ok [] ?_
        simp only [push_cast, Nat.reduceAdd, Nat.reduceSub, Nat.reduceMul, Nat.reduceLeDiff, Nat.reduceLT, Nat.reduceEqDiff, ↓reduceIte, reduceCtorEq, Int.reduceBEq, Int.reduceBNe, Nat.reduceBEq, Int.reduceLE, Int.reduceLT, Int.reduceEq, Int.reduceNe, Int.reduceNeg, Nat.reduceDiv, Nat.reduceMod, Nat.reducePow, cast_lit, hN0, hN]
        refine W_fit ⟨20, [], [(1, .val (.int .u64 (IntKind.u64.wrap (Int.tdiv s0_.1 2)))), (5, .val (.int .i64 y2)), (6, .val (.int .i64 s0_.2))]⟩ (Loc O n []) (fit_loc hU rfl rfl ?_) ?_
        · simp only [push_cast, Nat.reduceAdd, Nat.reduceSub, Nat.reduceMul, Nat.reduceLeDiff, Nat.reduceLT, Nat.reduceEqDiff, ↓reduceIte, reduceCtorEq, Int.reduceBEq, Int.reduceBNe, Nat.reduceBEq, Int.reduceLE, Int.reduceLT, Int.reduceEq, Int.reduceNe, Int.reduceNeg, Nat.reduceDiv, Nat.reduceMod, Nat.reducePow, cast_lit, hN0, hN]
        refine W_regionD tab_ok [] ?_
        simp only [push_cast, Nat.reduceAdd, Nat.reduceSub, Nat.reduceMul, Nat.reduceLeDiff, Nat.reduceLT, Nat.reduceEqDiff, ↓reduceIte, reduceCtorEq, Int.reduceBEq, Int.reduceBNe, Nat.reduceBEq, Int.reduceLE, Int.reduceLT, Int.reduceEq, Int.reduceNe, Int.reduceNeg, Nat.reduceDiv, Nat.reduceMod, Nat.reducePow, cast_lit, hN0, hN]
        have hs0_ := Option.some.inj hs0_; subst hs0_
        refine And.intro rfl (Fit2.of (fit_loc hU rfl rfl ?_) (by omega))
        simp only [push_cast, Nat.reduceAdd, Nat.reduceSub, Nat.reduceMul, Nat.reduceLeDiff, Nat.reduceLT, Nat.reduceEqDiff, ↓reduceIte, reduceCtorEq, Int.reduceBEq, Int.reduceBNe, Nat.reduceBEq, Int.reduceLE, Int.reduceLT, Int.reduceEq, Int.reduceNe, Int.reduceNeg, Nat.reduceDiv, Nat.reduceMod, Nat.reducePow, cast_lit, hN0, hN]
      · replace hs0_ := condF c3 hs0_
        refine W_exit ?_
        try simp only [gthen, gblock, ↓reduceIte, Nat.reduceEqDiff]
        have hs0_ := Option.some.inj hs0_; subst hs0_
        refine And.intro (fun h => by cases h) (And.intro rfl (Fit2.of (fit_loc hU rfl rfl ?_) (by omega)))
        simp only [push_cast, Nat.reduceAdd, Nat.reduceSub, Nat.reduceMul, Nat.reduceLeDiff, Nat.reduceLT, Nat.reduceEqDiff, ↓reduceIte, reduceCtorEq, Int.reduceBEq, Int.reduceBNe, Nat.reduceBEq, Int.reduceLE, Int.reduceLT, Int.reduceEq, Int.reduceNe, Int.reduceNeg, Nat.reduceDiv, Nat.reduceMod, Nat.reducePow, cast_lit, hN0, hN]
    try simp only [gthen, gblock, ↓reduceIte, Nat.reduceEqDiff]
    refine W_fit ⟨20, [], [(1, .val (.int .u64 z4))]⟩ (Loc O n []) (fit_loc hU rfl rfl ?_) ?_
    · simp only [push_cast, Nat.reduceAdd, Nat.reduceSub, Nat.reduceMul, Nat.reduceLeDiff, Nat.reduceLT, Nat.reduceEqDiff, ↓reduceIte, reduceCtorEq, Int.reduceBEq, Int.reduceBNe, Nat.reduceBEq, Int.reduceLE, Int.reduceLT, Int.reduceEq, Int.reduceNe, Int.reduceNeg, Nat.reduceDiv, Nat.reduceMod, Nat.reducePow, cast_lit, hN0, hN]
    refine W_sq [4] (W_regionD tab_ok [] ?_)
    simp only [push_cast, Nat.reduceAdd, Nat.reduceSub, Nat.reduceMul, Nat.reduceLeDiff, Nat.reduceLT, Nat.reduceEqDiff, ↓reduceIte, reduceCtorEq, Int.reduceBEq, Int.reduceBNe, Nat.reduceBEq, Int.reduceLE, Int.reduceLT, Int.reduceEq, Int.reduceNe, Int.reduceNeg, Nat.reduceDiv, Nat.reduceMod, Nat.reducePow, cast_lit, hN0, hN]
    refine W_ret ?_
    try simp only [gthen, gblock]
    have h := Option.some.inj h; subst h
    refine fin_loc (.inr rfl) hU [.val (.bool (z4 == 0))] (by omega) ?_
    simp only [push_cast, Nat.reduceAdd, Nat.reduceSub, Nat.reduceMul, Nat.reduceLeDiff, Nat.reduceLT, Nat.reduceEqDiff, ↓reduceIte, reduceCtorEq, Int.reduceBEq, Int.reduceBNe, Nat.reduceBEq, Int.reduceLE, Int.reduceLT, Int.reduceEq, Int.reduceNe, Int.reduceNeg, Nat.reduceDiv, Nat.reduceMod, Nat.reducePow, cast_lit, Try.results57, hN0, hN]

theorem okb_centoref07_Right {r_centoref07_Right : (S_api_Tree → Int → Option Bool)} (ok_r_centoref07_Right : ∀ {a0 : S_api_Tree} {a1 : Int} {r : Bool} {O : Objs} {n : Nat}, r_centoref07_Right a0 a1 = some r → GTo Try.prog 22 [.agg [.val (.int .i64 a0.Kind), .sl a0.Words.length (fl (eI .u64) a0.Words), .sl a0.Kids.length (fl e_S_api_Tree a0.Kids)], .val (.int .i64 a1)] O n (.val (.bool r)) O n) {a0 : S_api_Tree} {a1 : Int} {r : Bool} {O : Objs} {n : Nat} (h : b_centoref07_Right r_centoref07_Right a0 a1 = some r) : GTo Try.prog 22 [.agg [.val (.int .i64 a0.Kind), .sl a0.Words.length (fl (eI .u64) a0.Words), .sl a0.Kids.length (fl e_S_api_Tree a0.Kids)], .val (.int .i64 a1)] O n (.val (.bool r)) O n := by
  unfold b_centoref07_Right at h
  refine fn_of tab_ok Try.call22 Try.func22 rfl (Nat.le_of_ble_eq_true rfl) (Nat.le_refl _) fun hU => ?_
  have hN0 : O n = none := hU.fresh _ (Nat.le_refl _)
  have hN : ∀ k, O (n + k) = none := fun k => hU.fresh _ (Nat.le_add_right _ _)
  show W _ _ _ _ ⟨132, [], [(0, .agg [.val (.int .i64 a0.Kind), .sl a0.Words.length (fl (eI .u64) a0.Words), .sl a0.Kids.length (fl e_S_api_Tree a0.Kids)]), (1, .val (.int .i64 a1))]⟩ (Loc O n []) _
  refine W_sq [1, 2] (W_regionD tab_ok [] ?_)
  simp only [push_cast, Nat.reduceAdd, Nat.reduceSub, Nat.reduceMul, Nat.reduceLeDiff, Nat.reduceLT, Nat.reduceEqDiff, ↓reduceIte, reduceCtorEq, Int.reduceBEq, Int.reduceBNe, Nat.reduceBEq, Int.reduceLE, Int.reduceLT, Int.reduceEq, Int.reduceNe, Int.reduceNeg, Nat.reduceDiv, Nat.reduceMod, Nat.reducePow, cast_lit, hN0, hN]
  refine W_seqK ?_
  refine W_sq [1, 2, 10] (W_regionD tab_ok [] ?_)
  simp only [push_cast, Nat.reduceAdd, Nat.reduceSub, Nat.reduceMul, Nat.reduceLeDiff, Nat.reduceLT, Nat.reduceEqDiff, ↓reduceIte, reduceCtorEq, Int.reduceBEq, Int.reduceBNe, Nat.reduceBEq, Int.reduceLE, Int.reduceLT, Int.reduceEq, Int.reduceNe, Int.reduceNeg, Nat.reduceDiv, Nat.reduceMod, Nat.reducePow, cast_lit, hN0, hN]
  refine W_cond (t := (a0.Kind == 0)) rfl (fun c28 => ?_) (fun c28 => ?_)
  · replace h := condT c28 h
    refine W_sq [4] (W_regionD tab_ok [none, none, none, none] ?_)
    simp only [push_cast, Nat.reduceAdd, Nat.reduceSub, Nat.reduceMul, Nat.reduceLeDiff, Nat.reduceLT, Nat.reduceEqDiff, ↓reduceIte, reduceCtorEq, Int.reduceBEq, Int.reduceBNe, Nat.reduceBEq, Int.reduceLE, Int.reduceLT, Int.reduceEq, Int.reduceNe, Int.reduceNeg, Nat.reduceDiv, Nat.reduceMod, Nat.reducePow, cast_lit, hN0, hN]
    repeat (with_reducible refine And.intro (by first | (intro h0; simp only [h0, and_self]; done) | (intro h0; simp only [h0, Bool.not_false, Bool.not_true, Bool.true_and, Bool.and_true, true_and, and_true, and_self, imp_self, implies_true, bne_iff_ne, ne_eq, beq_iff_eq]; done) | (intros; simp_all; done) | exact True.intro) ?_)
    refine W_ret ?_
    try simp only [gthen, gblock]
    have h := Option.some.inj h; subst h
    refine fin_loc (.inr rfl) hU [.val (.bool (cond ((a0.Words.length : Int) == 0) ((a0.Kids.length : Int) == 0) false))] (by omega) ?_
    simp only [push_cast, Nat.reduceAdd, Nat.reduceSub, Nat.reduceMul, Nat.reduceLeDiff, Nat.reduceLT, Nat.reduceEqDiff, ↓reduceIte, reduceCtorEq, Int.reduceBEq, Int.reduceBNe, Nat.reduceBEq, Int.reduceLE, Int.reduceLT, Int.reduceEq, Int.reduceNe, Int.reduceNeg, Nat.reduceDiv, Nat.reduceMod, Nat.reducePow, cast_lit, Try.results22, hN0, hN]
  · replace h := condF c28 h
    refine W_skip ?_
    try simp only [gthen, gblock]
    refine W_fit ⟨132, [], [(1, .val (.int .i64 a1)), (2, .ref n 0)]⟩ (Loc O n [some ⟨false, 25, 3, 1, [.val (.int .i64 a0.Kind), .sl a0.Words.length (fl (eI .u64) a0.Words), .sl a0.Kids.length (fl e_S_api_Tree a0.Kids)]⟩]) (fit_loc hU rfl rfl ?_) ?_
    · simp only [push_cast, Nat.reduceAdd, Nat.reduceSub, Nat.reduceMul, Nat.reduceLeDiff, Nat.reduceLT, Nat.reduceEqDiff, ↓reduceIte, reduceCtorEq, Int.reduceBEq, Int.reduceBNe, Nat.reduceBEq, Int.reduceLE, Int.reduceLT, Int.reduceEq, Int.reduceNe, Int.reduceNeg, Nat.reduceDiv, Nat.reduceMod, Nat.reducePow, cast_lit, hN0, hN]
    refine W_seqK ?_
    refine W_sq [1, 2, 23] (W_regionD tab_ok [] ?_)
    simp only [push_cast, Nat.reduceAdd, Nat.reduceSub, Nat.reduceMul, Nat.reduceLeDiff, Nat.reduceLT, Nat.reduceEqDiff, ↓reduceIte, reduceCtorEq, Int.reduceBEq, Int.reduceBNe, Nat.reduceBEq, Int.reduceLE, Int.reduceLT, Int.reduceEq, Int.reduceNe, Int.reduceNeg, Nat.reduceDiv, Nat.reduceMod, Nat.reducePow, cast_lit, hN0, hN]
    refine W_cond (t := (a0.Kind == 10)) rfl (fun c27 => ?_) (fun c27 => ?_)
    · replace h := condT c27 h
      refine W_sq [4] (W_regionD tab_ok [none, none, none, none] ?_)
      simp only [push_cast, Nat.reduceAdd, Nat.reduceSub, Nat.reduceMul, Nat.reduceLeDiff, Nat.reduceLT, Nat.reduceEqDiff, ↓reduceIte, reduceCtorEq, Int.reduceBEq, Int.reduceBNe, Nat.reduceBEq, Int.reduceLE, Int.reduceLT, Int.reduceEq, Int.reduceNe, Int.reduceNeg, Nat.reduceDiv, Nat.reduceMod, Nat.reducePow, cast_lit, hN0, hN]
      repeat (with_reducible refine And.intro (by first | (intro h0; simp only [h0, and_self]; done) | (intro h0; simp only [h0, Bool.not_false, Bool.not_true, Bool.true_and, Bool.and_true, true_and, and_true, and_self, imp_self, implies_true, bne_iff_ne, ne_eq, beq_iff_eq]; done) | (intros; simp_all; done) | exact True.intro) ?_)
      refine W_ret ?_
      try simp only [gthen, gblock]
      have h := Option.some.inj h; subst h
      refine fin_loc (.inr rfl) hU [.val (.bool (cond ((a0.Words.length : Int) == 1) ((a0.Kids.length : Int) == 0) false))] (by omega) ?_
      simp only [push_cast, Nat.reduceAdd, Nat.reduceSub, Nat.reduceMul, Nat.reduceLeDiff, Nat.reduceLT, Nat.reduceEqDiff, ↓reduceIte, reduceCtorEq, Int.reduceBEq, Int.reduceBNe, Nat.reduceBEq, Int.reduceLE, Int.reduceLT, Int.reduceEq, Int.reduceNe, Int.reduceNeg, Nat.reduceDiv, Nat.reduceMod, Nat.reducePow, cast_lit, Try.results22, hN0, hN]
    · replace h := condF c27 h
      refine W_skip ?_
      try simp only [gthen, gblock]
      refine W_fit ⟨132, [], [(1, .val (.int .i64 a1)), (2, .ref n 0)]⟩ (Loc O n [some ⟨false, 25, 3, 1, [.val (.int .i64 a0.Kind), .sl a0.Words.length (fl (eI .u64) a0.Words), .sl a0.Kids.length (fl e_S_api_Tree a0.Kids)]⟩]) (fit_loc hU rfl rfl ?_) ?_
      · simp only [push_cast, Nat.reduceAdd, Nat.reduceSub, Nat.reduceMul, Nat.reduceLeDiff, Nat.reduceLT, Nat.reduceEqDiff, ↓reduceIte, reduceCtorEq, Int.reduceBEq, Int.reduceBNe, Nat.reduceBEq, Int.reduceLE, Int.reduceLT, Int.reduceEq, Int.reduceNe, Int.reduceNeg, Nat.reduceDiv, Nat.reduceMod, Nat.reducePow, cast_lit, hN0, hN]
      refine W_seqK ?_
      refine W_sq [1, 2, 68] (W_regionD tab_ok [none, none, none, none, none, none, none, none, none, none, none, none, none, none, none, none, none, none, none, none, none, none] ?_)
      simp only [push_cast, Nat.reduceAdd, Nat.reduceSub, Nat.reduceMul, Nat.reduceLeDiff, Nat.reduceLT, Nat.reduceEqDiff, ↓reduceIte, reduceCtorEq, Int.reduceBEq, Int.reduceBNe, Nat.reduceBEq, Int.reduceLE, Int.reduceLT, Int.reduceEq, Int.reduceNe, Int.reduceNeg, Nat.reduceDiv, Nat.reduceMod, Nat.reducePow, cast_lit, hN0, hN]
      repeat (with_reducible refine And.intro (by first | (intro h0; simp only [h0, and_self]; done) | (intro h0; simp only [h0, Bool.not_false, Bool.not_true, Bool.true_and, Bool.and_true, true_and, and_true, and_self, imp_self, implies_true, bne_iff_ne, ne_eq, beq_iff_eq]; done) | (intros; simp_all; done) | exact True.intro) ?_)
      refine W_cond (t := (cond (cond (cond (cond (cond (decide (a0.Kind < 0)) true (decide (10 < a0.Kind))) true (a1 == 0)) true (decide (65536 ≤ (a0.Words.length : Int)))) true (cond (a0.Kind == 1) (decide (65536 ≤ (a0.Kids.length : Int))) false)) true (decide (1048576 ≤ (a0.Kids.length : Int))))) rfl (fun c26 => ?_) (fun c26 => ?_)
      · replace h := condT c26 h
        refine W_sq [4] (W_regionD tab_ok [] ?_)
        simp only [push_cast, Nat.reduceAdd, Nat.reduceSub, Nat.reduceMul, Nat.reduceLeDiff, Nat.reduceLT, Nat.reduceEqDiff, ↓reduceIte, reduceCtorEq, Int.reduceBEq, Int.reduceBNe, Nat.reduceBEq, Int.reduceLE, Int.reduceLT, Int.reduceEq, Int.reduceNe, Int.reduceNeg, Nat.reduceDiv, Nat.reduceMod, Nat.reducePow, cast_lit, hN0, hN]
        refine W_ret ?_
        try simp only [gthen, gblock]
        have h := Option.some.inj h; subst h
        refine fin_loc (.inr rfl) hU [.val (.bool false)] (by omega) ?_
        simp only [push_cast, Nat.reduceAdd, Nat.reduceSub, Nat.reduceMul, Nat.reduceLeDiff, Nat.reduceLT, Nat.reduceEqDiff, ↓reduceIte, reduceCtorEq, Int.reduceBEq, Int.reduceBNe, Nat.reduceBEq, Int.reduceLE, Int.reduceLT, Int.reduceEq, Int.reduceNe, Int.reduceNeg, Nat.reduceDiv, Nat.reduceMod, Nat.reducePow, cast_lit, Try.results22, hN0, hN]
      · replace h := condF c26 h
        refine W_skip ?_
        try simp only [gthen, gblock]
        refine W_fit ⟨132, [], [(1, .val (.int .i64 a1)), (2, .ref n 0)]⟩ (Loc O n [some ⟨false, 25, 3, 1, [.val (.int .i64 a0.Kind), .sl a0.Words.length (fl (eI .u64) a0.Words), .sl a0.Kids.length (fl e_S_api_Tree a0.Kids)]⟩]) (fit_loc hU rfl rfl ?_) ?_
        · simp only [push_cast, Nat.reduceAdd, Nat.reduceSub, Nat.reduceMul, Nat.reduceLeDiff, Nat.reduceLT, Nat.reduceEqDiff, ↓reduceIte, reduceCtorEq, Int.reduceBEq, Int.reduceBNe, Nat.reduceBEq, Int.reduceLE, Int.reduceLT, Int.reduceEq, Int.reduceNe, Int.reduceNeg, Nat.reduceDiv, Nat.reduceMod, Nat.reducePow, cast_lit, hN0, hN]
        refine W_seqK ?_
        refine W_sq [1, 2, 77] (W_regionD tab_ok [none, none, none, none] ?_)
        simp only [push_cast, Nat.reduceAdd, Nat.reduceSub, Nat.reduceMul, Nat.reduceLeDiff, Nat.reduceLT, Nat.reduceEqDiff, ↓reduceIte, reduceCtorEq, Int.reduceBEq, Int.reduceBNe, Nat.reduceBEq, Int.reduceLE, Int.reduceLT, Int.reduceEq, Int.reduceNe, Int.reduceNeg, Nat.reduceDiv, Nat.reduceMod, Nat.reducePow, cast_lit, hN0, hN]
        repeat (with_reducible refine And.intro (by first | (intro h0; simp only [h0, and_self]; done) | (intro h0; simp only [h0, Bool.not_false, Bool.not_true, Bool.true_and, Bool.and_true, true_and, and_true, and_self, imp_self, implies_true, bne_iff_ne, ne_eq, beq_iff_eq]; done) | (intros; simp_all; done) | exact True.intro) ?_)
        refine W_cond (t := (cond (decide (1 < a0.Kind)) (decide (0 < (a0.Words.length : Int))) false)) rfl (fun c25 => ?_) (fun c25 => ?_)
        · replace h := condT c25 h
          refine W_sq [4] (W_regionD tab_ok [] ?_)
          simp only [push_cast, Nat.reduceAdd, Nat.reduceSub, Nat.reduceMul, Nat.reduceLeDiff, Nat.reduceLT, Nat.reduceEqDiff, ↓reduceIte, reduceCtorEq, Int.reduceBEq, Int.reduceBNe, Nat.reduceBEq, Int.reduceLE, Int.reduceLT, Int.reduceEq, Int.reduceNe, Int.reduceNeg, Nat.reduceDiv, Nat.reduceMod, Nat.reducePow, cast_lit, hN0, hN]
          refine W_ret ?_
          try simp only [gthen, gblock]
          have h := Option.some.inj h; subst h
          refine fin_loc (.inr rfl) hU [.val (.bool false)] (by omega) ?_
          simp only [push_cast, Nat.reduceAdd, Nat.reduceSub, Nat.reduceMul, Nat.reduceLeDiff, Nat.reduceLT, Nat.reduceEqDiff, ↓reduceIte, reduceCtorEq, Int.reduceBEq, Int.reduceBNe, Nat.reduceBEq, Int.reduceLE, Int.reduceLT, Int.reduceEq, Int.reduceNe, Int.reduceNeg, Nat.reduceDiv, Nat.reduceMod, Nat.reducePow, cast_lit, Try.results22, hN0, hN]
        · replace h := condF c25 h
          refine W_skip ?_
          try simp only [gthen, gblock]
          refine W_fit ⟨132, [], [(1, .val (.int .i64 a1)), (2, .ref n 0)]⟩ (Loc O n [some ⟨false, 25, 3, 1, [.val (.int .i64 a0.Kind), .sl a0.Words.length (fl (eI .u64) a0.Words), .sl a0.Kids.length (fl e_S_api_Tree a0.Kids)]⟩]) (fit_loc hU rfl rfl ?_) ?_
          · simp only [push_cast, Nat.reduceAdd, Nat.reduceSub, Nat.reduceMul, Nat.reduceLeDiff, Nat.reduceLT, Nat.reduceEqDiff, ↓reduceIte, reduceCtorEq, Int.reduceBEq, Int.reduceBNe, Nat.reduceBEq, Int.reduceLE, Int.reduceLT, Int.reduceEq, Int.reduceNe, Int.reduceNeg, Nat.reduceDiv, Nat.reduceMod, Nat.reducePow, cast_lit, hN0, hN]
          refine W_seqK ?_
          refine W_sq [1, 2, 5] (W_regionD tab_ok [] ?_)
          simp only [push_cast, Nat.reduceAdd, Nat.reduceSub, Nat.reduceMul, Nat.reduceLeDiff, Nat.reduceLT, Nat.reduceEqDiff, ↓reduceIte, reduceCtorEq, Int.reduceBEq, Int.reduceBNe, Nat.reduceBEq, Int.reduceLE, Int.reduceLT, Int.reduceEq, Int.reduceNe, Int.reduceNeg, Nat.reduceDiv, Nat.reduceMod, Nat.reducePow, cast_lit, hN0, hN]
          refine W_fit ⟨132, [], [(1, .val (.int .i64 a1)), (2, .ref n 0), (5, .val (.int .i64 0))]⟩ (Loc O n [some ⟨false, 25, 3, 1, [.val (.int .i64 a0.Kind), .sl a0.Words.length (fl (eI .u64) a0.Words), .sl a0.Kids.length (fl e_S_api_Tree a0.Kids)]⟩]) (fit_loc hU rfl rfl ?_) ?_
          · simp only [push_cast, Nat.reduceAdd, Nat.reduceSub, Nat.reduceMul, Nat.reduceLeDiff, Nat.reduceLT, Nat.reduceEqDiff, ↓reduceIte, reduceCtorEq, Int.reduceBEq, Int.reduceBNe, Nat.reduceBEq, Int.reduceLE, Int.reduceLT, Int.reduceEq, Int.reduceNe, Int.reduceNeg, Nat.reduceDiv, Nat.reduceMod, Nat.reducePow, cast_lit, hN0, hN]
          obtain ⟨z24, hz24, h⟩ := bC h
          refine W_sumB (J := (SumJ (fun z24 => JR n (⟨132, [], [(4, .val (.bool false))]⟩ : Env) (Loc O n [none]) (n + 1)) (fun z24 => JX 0 n (⟨132, [], []⟩ : Env) (Loc O n [none]) (n + 1)))) (z := z24) ?_ fun hw => ?_
          · refine W_loopJ hz24 (fun s0_ => ⟨132, [], [(1, .val (.int .i64 a1)), (2, .ref n 0), (5, .val (.int .i64 s0_))]⟩) (fun s0_ => (Loc O n [some ⟨false, 25, 3, 1, [.val (.int .i64 a0.Kind), .sl a0.Words.length (fl (eI .u64) a0.Words), .sl a0.Kids.length (fl e_S_api_Tree a0.Kids)]⟩])) (SumJ (fun z24 => JR n (⟨132, [], [(4, .val (.bool false))]⟩ : Env) (Loc O n [none]) (n + 1)) (fun z24 => JX 0 n (⟨132, [], []⟩ : Env) (Loc O n [none]) (n + 1))) ?_
            intro s0_ x0_ hs0_
            unfold b_centoref07_Right_L0 at hs0_
            try dsimp only
            refine W_seqK ?_
            refine W_sq [1, 2, 5, 82] (W_regionD tab_ok [] ?_)
            simp only [push_cast, Nat.reduceAdd, Nat.reduceSub, Nat.reduceMul, Nat.reduceLeDiff, Nat.reduceLT, Nat.reduceEqDiff, ↓reduceIte, reduceCtorEq, Int.reduceBEq, Int.reduceBNe, Nat.reduceBEq, Int.reduceLE, Int.reduceLT, Int.reduceEq, Int.reduceNe, Int.reduceNeg, Nat.reduceDiv, Nat.reduceMod, Nat.reducePow, cast_lit, hN0, hN]
            refine W_cond (t := (decide (s0_ < (a0.Kids.length : Int)))) rfl (fun c23 => ?_) (fun c23 => ?_)
            · replace hs0_ := condT c23 hs0_
              refine W_skip ?_
              try simp only [gthen, gblock]
              refine W_fit ⟨132, [], [(1, .val (.int .i64 a1)), (2, .ref n 0), (5, .val (.int .i64 s0_))]⟩ (Loc O n [some ⟨false, 25, 3, 1, [.val (.int .i64 a0.Kind), .sl a0.Words.length (fl (eI .u64) a0.Words), .sl a0.Kids.length (fl e_S_api_Tree a0.Kids)]⟩]) (fit_loc hU rfl rfl ?_) ?_
              · simp only [push_cast, Nat.reduceAdd, Nat.reduceSub, Nat.reduceMul, Nat.reduceLeDiff, Nat.reduceLT, Nat.reduceEqDiff, ↓reduceIte, reduceCtorEq, Int.reduceBEq, Int.reduceBNe, Nat.reduceBEq, Int.reduceLE, Int.reduceLT, Int.reduceEq, Int.reduceNe, Int.reduceNeg, Nat.reduceDiv, Nat.reduceMod, Nat.reducePow, cast_lit, hN0, hN]
              refine W_seqK ?_
              refine W_block ?_
              refine W_seqK ?_
              obtain ⟨x2, hx2, ax2, bx2, cx2, hs0_⟩ := bE (f := e_S_api_Tree) tab25 (fun _ => rfl) (by decide) hs0_
              refine W_regionD tab_ok [] ?_
              simp only [push_cast, Nat.reduceAdd, Nat.reduceSub, Nat.reduceMul, Nat.reduceLeDiff, Nat.reduceLT, Nat.reduceEqDiff, ↓reduceIte, reduceCtorEq, Int.reduceBEq, Int.reduceBNe, Nat.reduceBEq, Int.reduceLE, Int.reduceLT, Int.reduceEq, Int.reduceNe, Int.reduceNeg, Nat.reduceDiv, Nat.reduceMod, Nat.reducePow, cast_lit, ax2, bx2, cx2, hN0, hN]
              refine W_fit ⟨132, [], [(1, .val (.int .i64 a1)), (2, .ref n 0), (5, .val (.int .i64 s0_)), (6, .ref (n + 1) 0)]⟩ (Loc O n [some ⟨false, 25, 3, 1, [.val (.int .i64 a0.Kind), .sl a0.Words.length (fl (eI .u64) a0.Words), .sl a0.Kids.length (fl e_S_api_Tree a0.Kids)]⟩, some ⟨false, 25, 3, 1, [.val (.int .i64 x2.Kind), .sl x2.Words.length (fl (eI .u64) x2.Words), .sl x2.Kids.length (fl e_S_api_Tree x2.Kids)]⟩]) (fit_loc hU rfl rfl ?_) ?_
              · simp only [push_cast, Nat.reduceAdd, Nat.reduceSub, Nat.reduceMul, Nat.reduceLeDiff, Nat.reduceLT, Nat.reduceEqDiff, ↓reduceIte, reduceCtorEq, Int.reduceBEq, Int.reduceBNe, Nat.reduceBEq, Int.reduceLE, Int.reduceLT, Int.reduceEq, Int.reduceNe, Int.reduceNeg, Nat.reduceDiv, Nat.reduceMod, Nat.reducePow, cast_lit, ax2, bx2, cx2, hN0, hN]
              refine W_seqK ?_
              refine W_seqK ?_
              obtain ⟨y4, hy4, hs0_⟩ := bC hs0_
              refine W_regionD tab_ok [] ?_
              simp only [push_cast, Nat.reduceAdd, Nat.reduceSub, Nat.reduceMul, Nat.reduceLeDiff, Nat.reduceLT, Nat.reduceEqDiff, ↓reduceIte, reduceCtorEq, Int.reduceBEq, Int.reduceBNe, Nat.reduceBEq, Int.reduceLE, Int.reduceLT, Int.reduceEq, Int.reduceNe, Int.reduceNeg, Nat.reduceDiv, Nat.reduceMod, Nat.reducePow, cast_lit, hN0, hN]
              refine (ok_r_centoref07_Right hy4).then ?_
              simp only [push_cast, Nat.reduceAdd, Nat.reduceSub, Nat.reduceMul, Nat.reduceLeDiff, Nat.reduceLT, Nat.reduceEqDiff, ↓reduceIte, reduceCtorEq, Int.reduceBEq, Int.reduceBNe, Nat.reduceBEq, Int.reduceLE, Int.reduceLT, Int.reduceEq, Int.reduceNe, Int.reduceNeg, Nat.reduceDiv, Nat.reduceMod, Nat.reducePow, cast_lit, hN0, hN]
              refine W_fit ⟨132, [], [(1, .val (.int .i64 a1)), (2, .ref n 0), (5, .val (.int .i64 s0_)), (6, .ref (n + 1) 0), (94, .val (.bool (!y4)))]⟩ (Loc O n [some ⟨false, 25, 3, 1, [.val (.int .i64 a0.Kind), .sl a0.Words.length (fl (eI .u64) a0.Words), .sl a0.Kids.length (fl e_S_api_Tree a0.Kids)]⟩, some ⟨false, 25, 3, 1, [.val (.int .i64 x2.Kind), .sl x2.Words.length (fl (eI .u64) x2.Words), .sl x2.Kids.length (fl e_S_api_Tree x2.Kids)]⟩]) (fit_loc hU rfl rfl ?_) ?_
              · simp only [push_cast, Nat.reduceAdd, Nat.reduceSub, Nat.reduceMul, Nat.reduceLeDiff, Nat.reduceLT, Nat.reduceEqDiff, ↓reduceIte, reduceCtorEq, Int.reduceBEq, Int.reduceBNe, Nat.reduceBEq, Int.reduceLE, Int.reduceLT, Int.reduceEq, Int.reduceNe, Int.reduceNeg, Nat.reduceDiv, Nat.reduceMod, Nat.reducePow, cast_lit, hN0, hN]
              refine W_cond (t := (!y4)) rfl (fun c22 => ?_) (fun c22 => ?_)
              · replace hs0_ := condT c22 hs0_
                refine W_sq [4] (W_regionD tab_ok [] ?_)
                simp only [push_cast, Nat.reduceAdd, Nat.reduceSub, Nat.reduceMul, Nat.reduceLeDiff, Nat.reduceLT, Nat.reduceEqDiff, ↓reduceIte, reduceCtorEq, Int.reduceBEq, Int.reduceBNe, Nat.reduceBEq, Int.reduceLE, Int.reduceLT, Int.reduceEq, Int.reduceNe, Int.reduceNeg, Nat.reduceDiv, Nat.reduceMod, Nat.reducePow, cast_lit, hN0, hN]
                refine W_ret ?_
                try simp only [gthen, gblock]
                have hs0_ := Option.some.inj hs0_; subst hs0_
                refine And.intro (fun h => by cases h) (And.intro rfl (Fit2.of (fit_loc hU rfl rfl ?_) (by omega)))
                simp only [push_cast, Nat.reduceAdd, Nat.reduceSub, Nat.reduceMul, Nat.reduceLeDiff, Nat.reduceLT, Nat.reduceEqDiff, ↓reduceIte, reduceCtorEq, Int.reduceBEq, Int.reduceBNe, Nat.reduceBEq, Int.reduceLE, Int.reduceLT, Int.reduceEq, Int.reduceNe, Int.reduceNeg, Nat.reduceDiv, Nat.reduceMod, Nat.reducePow, cast_lit, hN0, hN]
              · replace hs0_ := condF c22 hs0_
                refine W_skip ?_
                try simp only [gthen, gblock]
                refine W_fit ⟨132, [], [(1, .val (.int .i64 a1)), (2, .ref n 0), (5, .val (.int .i64 s0_)), (6, .ref (n + 1) 0)]⟩ (Loc O n [some ⟨false, 25, 3, 1, [.val (.int .i64 a0.Kind), .sl a0.Words.length (fl (eI .u64) a0.Words), .sl a0.Kids.length (fl e_S_api_Tree a0.Kids)]⟩, some ⟨false, 25, 3, 1, [.val (.int .i64 x2.Kind), .sl x2.Words.length (fl (eI .u64) x2.Words), .sl x2.Kids.length (fl e_S_api_Tree x2.Kids)]⟩]) (fit_loc hU rfl rfl ?_) ?_
                · simp only [push_cast, Nat.reduceAdd, Nat.reduceSub, Nat.reduceMul, Nat.reduceLeDiff, Nat.reduceLT, Nat.reduceEqDiff, ↓reduceIte, reduceCtorEq, Int.reduceBEq, Int.reduceBNe, Nat.reduceBEq, Int.reduceLE, Int.reduceLT, Int.reduceEq, Int.reduceNe, Int.reduceNeg, Nat.reduceDiv, Nat.reduceMod, Nat.reducePow, cast_lit, hN0, hN]
                refine W_sq [1, 2, 5, 6, 7] (W_regionD tab_ok [none, none, none] ?_)
                simp only [push_cast, Nat.reduceAdd, Nat.reduceSub, Nat.reduceMul, Nat.reduceLeDiff, Nat.reduceLT, Nat.reduceEqDiff, ↓reduceIte, reduceCtorEq, Int.reduceBEq, Int.reduceBNe, Nat.reduceBEq, Int.reduceLE, Int.reduceLT, Int.reduceEq, Int.reduceNe, Int.reduceNeg, Nat.reduceDiv, Nat.reduceMod, Nat.reducePow, cast_lit, hN0, hN]
                repeat (with_reducible refine And.intro (by first | (intro h0; simp only [h0, and_self]; done) | (intro h0; simp only [h0, Bool.not_false, Bool.not_true, Bool.true_and, Bool.and_true, true_and, and_true, and_self, imp_self, implies_true, bne_iff_ne, ne_eq, beq_iff_eq]; done) | (intros; simp_all; done) | exact True.intro) ?_)
                obtain ⟨z9, hz9, hs0_⟩ := bC hs0_
                refine W_seqN (E' := ⟨132, [], [(1, .val (.int .i64 a1)), (2, .ref n 0), (5, .val (.int .i64 s0_)), (131, .val (.bool z9))]⟩) (O' := (Loc O n [some ⟨false, 25, 3, 1, [.val (.int .i64 a0.Kind), .sl a0.Words.length (fl (eI .u64) a0.Words), .sl a0.Kids.length (fl e_S_api_Tree a0.Kids)]⟩, none])) (n0 := (n + 2)) ?_ ?_
                · rcases Bool.eq_false_or_eq_true ((cond (decide (2 ≤ a0.Kind)) (decide (a0.Kind ≤ 7)) false) != (x2.Kind == 10)) with c14 | c14
                  · replace hz9 := condT c14 hz9
                    refine W_drawD tab_ok (by kernel_rfl) [none, none, none, none, none, none, none, none, some false, some false, some false, some false, some false, some false, some false, some false, some false, some false, some false, some false] (by kernel_rfl) ?_
                    simp only [push_cast, Nat.reduceAdd, Nat.reduceSub, Nat.reduceMul, Nat.reduceLeDiff, Nat.reduceLT, Nat.reduceEqDiff, ↓reduceIte, reduceCtorEq, Int.reduceBEq, Int.reduceBNe, Nat.reduceBEq, Int.reduceLE, Int.reduceLT, Int.reduceEq, Int.reduceNe, Int.reduceNeg, Nat.reduceDiv, Nat.reduceMod, Nat.reducePow, cast_lit, c14, hN0, hN]
                    repeat (with_reducible refine And.intro (by first | (intro h0; simp only [h0, and_self]; done) | (intro h0; simp only [h0, Bool.not_false, Bool.not_true, Bool.true_and, Bool.and_true, true_and, and_true, and_self, imp_self, implies_true, bne_iff_ne, ne_eq, beq_iff_eq]; done) | (intros; simp_all; done) | exact True.intro) ?_)
                    have hz9 := Option.some.inj hz9; subst hz9
                    refine And.intro rfl (Fit2.of (fit_loc hU rfl rfl ?_) (by omega))
                    simp only [push_cast, Nat.reduceAdd, Nat.reduceSub, Nat.reduceMul, Nat.reduceLeDiff, Nat.reduceLT, Nat.reduceEqDiff, ↓reduceIte, reduceCtorEq, Int.reduceBEq, Int.reduceBNe, Nat.reduceBEq, Int.reduceLE, Int.reduceLT, Int.reduceEq, Int.reduceNe, Int.reduceNeg, Nat.reduceDiv, Nat.reduceMod, Nat.reducePow, cast_lit, c14, hN0, hN]
                  · replace hz9 := condF c14 hz9
                    rcases Bool.eq_false_or_eq_true (a0.Kind == 9) with c15 | c15
                    · replace hz9 := condT c15 hz9
                      try rw [c15] at c14
                      rcases Bool.eq_false_or_eq_true (x2.Kind != 1) with c16 | c16
                      · replace hz9 := condT c16 hz9
                        try rw [c16] at c14
                        try rw [c16] at c15
                        refine W_drawD tab_ok (by kernel_rfl) [none, none, none, none, none, none, none, none, some false, some false, some false, some false, some false, some false, some false, some false, some false, some false, some false, some false] (by kernel_rfl) ?_
                        simp only [push_cast, Nat.reduceAdd, Nat.reduceSub, Nat.reduceMul, Nat.reduceLeDiff, Nat.reduceLT, Nat.reduceEqDiff, ↓reduceIte, reduceCtorEq, Int.reduceBEq, Int.reduceBNe, Nat.reduceBEq, Int.reduceLE, Int.reduceLT, Int.reduceEq, Int.reduceNe, Int.reduceNeg, Nat.reduceDiv, Nat.reduceMod, Nat.reducePow, cast_lit, c14, c15, c16, hN0, hN]
                        repeat (with_reducible refine And.intro (by first | (intro h0; simp only [h0, and_self]; done) | (intro h0; simp only [h0, Bool.not_false, Bool.not_true, Bool.true_and, Bool.and_true, true_and, and_true, and_self, imp_self, implies_true, bne_iff_ne, ne_eq, beq_iff_eq]; done) | (intros; simp_all; done) | exact True.intro) ?_)
                        have hz9 := Option.some.inj hz9; subst hz9
                        refine And.intro rfl (Fit2.of (fit_loc hU rfl rfl ?_) (by omega))
                        simp only [push_cast, Nat.reduceAdd, Nat.reduceSub, Nat.reduceMul, Nat.reduceLeDiff, Nat.reduceLT, Nat.reduceEqDiff, ↓reduceIte, reduceCtorEq, Int.reduceBEq, Int.reduceBNe, Nat.reduceBEq, Int.reduceLE, Int.reduceLT, Int.reduceEq, Int.reduceNe, Int.reduceNeg, Nat.reduceDiv, Nat.reduceMod, Nat.reducePow, cast_lit, c14, c15, c16, hN0, hN]
                      · replace hz9 := condF c16 hz9
                        try rw [c16] at c14
                        try rw [c16] at c15
                        rcases Bool.eq_false_or_eq_true (decide (2 ≤ a0.Kind)) with c17 | c17
                        · replace hz9 := condT c17 hz9
                          try rw [c17] at c14
                          try rw [c17] at c15
                          try rw [c17] at c16
                          rcases Bool.eq_false_or_eq_true (decide (a0.Kind ≤ 7)) with c18 | c18
                          · replace hz9 := condT c18 hz9
                            try rw [c18] at c14
                            try rw [c18] at c15
                            try rw [c18] at c16
                            try rw [c18] at c17
                            obtain ⟨x10, hx10, ax10, bx10, cx10, hz9⟩ := bE (f := (eI .u64)) tab56 (fun _ => rfl) (by decide) hz9
                            obtain ⟨y11, hy11, hz9⟩ := bC hz9
                            refine W_drawD tab_ok (by kernel_rfl) [none, none, none, none, none, none, none, none, some true, some true, some true, some true, some true, some true, some true, some true, some true, some true, some true, some true] (by kernel_rfl) ?_
                            simp only [push_cast, Nat.reduceAdd, Nat.reduceSub, Nat.reduceMul, Nat.reduceLeDiff, Nat.reduceLT, Nat.reduceEqDiff, ↓reduceIte, reduceCtorEq, Int.reduceBEq, Int.reduceBNe, Nat.reduceBEq, Int.reduceLE, Int.reduceLT, Int.reduceEq, Int.reduceNe, Int.reduceNeg, Nat.reduceDiv, Nat.reduceMod, Nat.reducePow, cast_lit, c14, c15, c16, c17, c18, ax10, bx10, cx10, hN0, hN]
                            repeat (with_reducible refine And.intro (by first | (intro h0; simp only [h0, and_self]; done) | (intro h0; simp only [h0, Bool.not_false, Bool.not_true, Bool.true_and, Bool.and_true, true_and, and_true, and_self, imp_self, implies_true, bne_iff_ne, ne_eq, beq_iff_eq]; done) | (intros; simp_all; done) | exact True.intro) ?_)
                            refine PCall.of (ok_centoref01_Fits hy11) ?_
                            simp only [push_cast, Nat.reduceAdd, Nat.reduceSub, Nat.reduceMul, Nat.reduceLeDiff, Nat.reduceLT, Nat.reduceEqDiff, ↓reduceIte, reduceCtorEq, Int.reduceBEq, Int.reduceBNe, Nat.reduceBEq, Int.reduceLE, Int.reduceLT, Int.reduceEq, Int.reduceNe, Int.reduceNeg, Nat.reduceDiv, Nat.reduceMod, Nat.reducePow, cast_lit, c14, c15, c16, c17, c18, ax10, bx10, cx10, hN0, hN]
                            repeat (with_reducible refine And.intro (by first | (intro h0; simp only [h0, and_self]; done) | (intro h0; simp only [h0, Bool.not_false, Bool.not_true, Bool.true_and, Bool.and_true, true_and, and_true, and_self, imp_self, implies_true, bne_iff_ne, ne_eq, beq_iff_eq]; done) | (intros; simp_all; done) | exact True.intro) ?_)
                            have hz9 := Option.some.inj hz9; subst hz9
                            refine And.intro rfl (Fit2.of (fit_loc hU rfl rfl ?_) (by omega))
                            simp only [push_cast, Nat.reduceAdd, Nat.reduceSub, Nat.reduceMul, Nat.reduceLeDiff, Nat.reduceLT, Nat.reduceEqDiff, ↓reduceIte, reduceCtorEq, Int.reduceBEq, Int.reduceBNe, Nat.reduceBEq, Int.reduceLE, Int.reduceLT, Int.reduceEq, Int.reduceNe, Int.reduceNeg, Nat.reduceDiv, Nat.reduceMod, Nat.reducePow, cast_lit, c14, c15, c16, c17, c18, ax10, bx10, cx10, hN0, hN]
                          · replace hz9 := condF c18 hz9
                            try rw [c18] at c14
                            try rw [c18] at c15
                            try rw [c18] at c16
                            try rw [c18] at c17
                            refine W_drawD tab_ok (by kernel_rfl) [none, none, none, none, none, none, none, none, some true, some true, some false, some false, some false, some false, some false, some false, some false, some false, some false, some true] (by kernel_rfl) ?_
                            simp only [push_cast, Nat.reduceAdd, Nat.reduceSub, Nat.reduceMul, Nat.reduceLeDiff, Nat.reduceLT, Nat.reduceEqDiff, ↓reduceIte, reduceCtorEq, Int.reduceBEq, Int.reduceBNe, Nat.reduceBEq, Int.reduceLE, Int.reduceLT, Int.reduceEq, Int.reduceNe, Int.reduceNeg, Nat.reduceDiv, Nat.reduceMod, Nat.reducePow, cast_lit, c14, c15, c16, c17, c18, hN0, hN]
                            repeat (with_reducible refine And.intro (by first | (intro h0; simp only [h0, and_self]; done) | (intro h0; simp only [h0, Bool.not_false, Bool.not_true, Bool.true_and, Bool.and_true, true_and, and_true, and_self, imp_self, implies_true, bne_iff_ne, ne_eq, beq_iff_eq]; done) | (intros; simp_all; done) | exact True.intro) ?_)
                            have hz9 := Option.some.inj hz9; subst hz9
                            refine And.intro rfl (Fit2.of (fit_loc hU rfl rfl ?_) (by omega))
                            simp only [push_cast, Nat.reduceAdd, Nat.reduceSub, Nat.reduceMul, Nat.reduceLeDiff, Nat.reduceLT, Nat.reduceEqDiff, ↓reduceIte, reduceCtorEq, Int.reduceBEq, Int.reduceBNe, Nat.reduceBEq, Int.reduceLE, Int.reduceLT, Int.reduceEq, Int.reduceNe, Int.reduceNeg, Nat.reduceDiv, Nat.reduceMod, Nat.reducePow, cast_lit, c14, c15, c16, c17, c18, hN0, hN]
                        · replace hz9 := condF c17 hz9
                          try rw [c17] at c14
                          try rw [c17] at c15
                          try rw [c17] at c16
                          refine W_drawD tab_ok (by kernel_rfl) [none, none, none, none, none, none, none, none, some true, some true, some false, some false, some false, some false, some false, some false, some false, some false, some false, some true] (by kernel_rfl) ?_
                          simp only [push_cast, Nat.reduceAdd, Nat.reduceSub, Nat.reduceMul, Nat.reduceLeDiff, Nat.reduceLT, Nat.reduceEqDiff, ↓reduceIte, reduceCtorEq, Int.reduceBEq, Int.reduceBNe, Nat.reduceBEq, Int.reduceLE, Int.reduceLT, Int.reduceEq, Int.reduceNe, Int.reduceNeg, Nat.reduceDiv, Nat.reduceMod, Nat.reducePow, cast_lit, c14, c15, c16, c17, hN0, hN]
                          repeat (with_reducible refine And.intro (by first | (intro h0; simp only [h0, and_self]; done) | (intro h0; simp only [h0, Bool.not_false, Bool.not_true, Bool.true_and, Bool.and_true, true_and, and_true, and_self, imp_self, implies_true, bne_iff_ne, ne_eq, beq_iff_eq]; done) | (intros; simp_all; done) | exact True.intro) ?_)
                          have hz9 := Option.some.inj hz9; subst hz9
                          refine And.intro rfl (Fit2.of (fit_loc hU rfl rfl ?_) (by omega))
                          simp only [push_cast, Nat.reduceAdd, Nat.reduceSub, Nat.reduceMul, Nat.reduceLeDiff, Nat.reduceLT, Nat.reduceEqDiff, ↓reduceIte, reduceCtorEq, Int.reduceBEq, Int.reduceBNe, Nat.reduceBEq, Int.reduceLE, Int.reduceLT, Int.reduceEq, Int.reduceNe, Int.reduceNeg, Nat.reduceDiv, Nat.reduceMod, Nat.reducePow, cast_lit, c14, c15, c16, c17, hN0, hN]
                    · replace hz9 := condF c15 hz9
                      try rw [c15] at c14
                      rcases Bool.eq_false_or_eq_true (decide (2 ≤ a0.Kind)) with c19 | c19
                      · replace hz9 := condT c19 hz9
                        try rw [c19] at c14
                        try rw [c19] at c15
                        rcases Bool.eq_false_or_eq_true (decide (a0.Kind ≤ 7)) with c20 | c20
                        · replace hz9 := condT c20 hz9
                          try rw [c20] at c14
                          try rw [c20] at c15
                          try rw [c20] at c19
                          obtain ⟨x12, hx12, ax12, bx12, cx12, hz9⟩ := bE (f := (eI .u64)) tab56 (fun _ => rfl) (by decide) hz9
                          obtain ⟨y13, hy13, hz9⟩ := bC hz9
                          refine W_drawD tab_ok (by kernel_rfl) [none, none, none, none, none, none, none, none, some true, some true, some true, some true, some true, some true, some true, some true, some true, some true, some true, some true] (by kernel_rfl) ?_
                          simp only [push_cast, Nat.reduceAdd, Nat.reduceSub, Nat.reduceMul, Nat.reduceLeDiff, Nat.reduceLT, Nat.reduceEqDiff, ↓reduceIte, reduceCtorEq, Int.reduceBEq, Int.reduceBNe, Nat.reduceBEq, Int.reduceLE, Int.reduceLT, Int.reduceEq, Int.reduceNe, Int.reduceNeg, Nat.reduceDiv, Nat.reduceMod, Nat.reducePow, cast_lit, c14, c15, c19, c20, ax12, bx12, cx12, hN0, hN]
                          repeat (with_reducible refine And.intro (by first | (intro h0; simp only [h0, and_self]; done) | (intro h0; simp only [h0, Bool.not_false, Bool.not_true, Bool.true_and, Bool.and_true, true_and, and_true, and_self, imp_self, implies_true, bne_iff_ne, ne_eq, beq_iff_eq]; done) | (intros; simp_all; done) | exact True.intro) ?_)
                          refine PCall.of (ok_centoref01_Fits hy13) ?_
                          simp only [push_cast, Nat.reduceAdd, Nat.reduceSub, Nat.reduceMul, Nat.reduceLeDiff, Nat.reduceLT, Nat.reduceEqDiff, ↓reduceIte, reduceCtorEq, Int.reduceBEq, Int.reduceBNe, Nat.reduceBEq, Int.reduceLE, Int.reduceLT, Int.reduceEq, Int.reduceNe, Int.reduceNeg, Nat.reduceDiv, Nat.reduceMod, Nat.reducePow, cast_lit, c14, c15, c19, c20, ax12, bx12, cx12, hN0, hN]
                          repeat (with_reducible refine And.intro (by first | (intro h0; simp only [h0, and_self]; done) | (intro h0; simp only [h0, Bool.not_false, Bool.not_true, Bool.true_and, Bool.and_true, true_and, and_true, and_self, imp_self, implies_true, bne_iff_ne, ne_eq, beq_iff_eq]; done) | (intros; simp_all; done) | exact True.intro) ?_)
                          have hz9 := Option.some.inj hz9; subst hz9
                          refine And.intro rfl (Fit2.of (fit_loc hU rfl rfl ?_) (by omega))
                          simp only [push_cast, Nat.reduceAdd, Nat.reduceSub, Nat.reduceMul, Nat.reduceLeDiff, Nat.reduceLT, Nat.reduceEqDiff, ↓reduceIte, reduceCtorEq, Int.reduceBEq, Int.reduceBNe, Nat.reduceBEq, Int.reduceLE, Int.reduceLT, Int.reduceEq, Int.reduceNe, Int.reduceNeg, Nat.reduceDiv, Nat.reduceMod, Nat.reducePow, cast_lit, c14, c15, c19, c20, ax12, bx12, cx12, hN0, hN]
                        · replace hz9 := condF c20 hz9
                          try rw [c20] at c14
                          try rw [c20] at c15
                          try rw [c20] at c19
                          refine W_drawD tab_ok (by kernel_rfl) [none, none, none, none, none, none, none, none, some true, some true, some false, some false, some false, some false, some false, some false, some false, some false, some false, some true] (by kernel_rfl) ?_
                          simp only [push_cast, Nat.reduceAdd, Nat.reduceSub, Nat.reduceMul, Nat.reduceLeDiff, Nat.reduceLT, Nat.reduceEqDiff, ↓reduceIte, reduceCtorEq, Int.reduceBEq, Int.reduceBNe, Nat.reduceBEq, Int.reduceLE, Int.reduceLT, Int.reduceEq, Int.reduceNe, Int.reduceNeg, Nat.reduceDiv, Nat.reduceMod, Nat.reducePow, cast_lit, c14, c15, c19, c20, hN0, hN]
                          repeat (with_reducible refine And.intro (by first | (intro h0; simp only [h0, and_self]; done) | (intro h0; simp only [h0, Bool.not_false, Bool.not_true, Bool.true_and, Bool.and_true, true_and, and_true, and_self, imp_self, implies_true, bne_iff_ne, ne_eq, beq_iff_eq]; done) | (intros; simp_all; done) | exact True.intro) ?_)
                          have hz9 := Option.some.inj hz9; subst hz9
                          refine And.intro rfl (Fit2.of (fit_loc hU rfl rfl ?_) (by omega))
                          simp only [push_cast, Nat.reduceAdd, Nat.reduceSub, Nat.reduceMul, Nat.reduceLeDiff, Nat.reduceLT, Nat.reduceEqDiff, ↓reduceIte, reduceCtorEq, Int.reduceBEq, Int.reduceBNe, Nat.reduceBEq, Int.reduceLE, Int.reduceLT, Int.reduceEq, Int.reduceNe, Int.reduceNeg, Nat.reduceDiv, Nat.reduceMod, Nat.reducePow, cast_lit, c14, c15, c19, c20, hN0, hN]
                      · replace hz9 := condF c19 hz9
                        try rw [c19] at c14
                        try rw [c19] at c15
                        refine W_drawD tab_ok (by kernel_rfl) [none, none, none, none, none, none, none, none, some true, some true, some false, some false, some false, some false, some false, some false, some false, some false, some false, some true] (by kernel_rfl) ?_
                        simp only [push_cast, Nat.reduceAdd, Nat.reduceSub, Nat.reduceMul, Nat.reduceLeDiff, Nat.reduceLT, Nat.reduceEqDiff, ↓reduceIte, reduceCtorEq, Int.reduceBEq, Int.reduceBNe, Nat.reduceBEq, Int.reduceLE, Int.reduceLT, Int.reduceEq, Int.reduceNe, Int.reduceNeg, Nat.reduceDiv, Nat.reduceMod, Nat.reducePow, cast_lit, c14, c15, c19, hN0, hN]
                        repeat (with_reducible refine And.intro (by first | (intro h0; simp only [h0, and_self]; done) | (intro h0; simp only [h0, Bool.not_false, Bool.not_true, Bool.true_and, Bool.and_true, true_and, and_true, and_self, imp_self, implies_true, bne_iff_ne, ne_eq, beq_iff_eq]; done) | (intros; simp_all; done) | exact True.intro) ?_)
                        have hz9 := Option.some.inj hz9; subst hz9
                        refine And.intro rfl (Fit2.of (fit_loc hU rfl rfl ?_) (by omega))
                        simp only [push_cast, Nat.reduceAdd, Nat.reduceSub, Nat.reduceMul, Nat.reduceLeDiff, Nat.reduceLT, Nat.reduceEqDiff, ↓reduceIte, reduceCtorEq, Int.reduceBEq, Int.reduceBNe, Nat.reduceBEq, Int.reduceLE, Int.reduceLT, Int.reduceEq, Int.reduceNe, Int.reduceNeg, Nat.reduceDiv, Nat.reduceMod, Nat.reducePow, cast_lit, c14, c15, c19, hN0, hN]
                refine W_cond (t := z9) rfl (fun c21 => ?_) (fun c21 => ?_)
                · replace hs0_ := condT c21 hs0_
                  refine W_sq [4] (W_regionD tab_ok [] ?_)
                  simp only [push_cast, Nat.reduceAdd, Nat.reduceSub, Nat.reduceMul, Nat.reduceLeDiff, Nat.reduceLT, Nat.reduceEqDiff, ↓reduceIte, reduceCtorEq, Int.reduceBEq, Int.reduceBNe, Nat.reduceBEq, Int.reduceLE, Int.reduceLT, Int.reduceEq, Int.reduceNe, Int.reduceNeg, Nat.reduceDiv, Nat.reduceMod, Nat.reducePow, cast_lit, hN0, hN]
                  refine W_ret ?_
                  try simp only [gthen, gblock]
                  have hs0_ := Option.some.inj hs0_; subst hs0_
                  refine And.intro (fun h => by cases h) (And.intro rfl (Fit2.of (fit_loc hU rfl rfl ?_) (by omega)))
                  simp only [push_cast, Nat.reduceAdd, Nat.reduceSub, Nat.reduceMul, Nat.reduceLeDiff, Nat.reduceLT, Nat.reduceEqDiff, ↓reduceIte, reduceCtorEq, Int.reduceBEq, Int.reduceBNe, Nat.reduceBEq, Int.reduceLE, Int.reduceLT, Int.reduceEq, Int.reduceNe, Int.reduceNeg, Nat.reduceDiv, Nat.reduceMod, Nat.reducePow, cast_lit, hN0, hN]
                · replace hs0_ := condF c21 hs0_
                  refine W_skip ?_
                  try simp only [gthen, gblock]
                  refine W_fit ⟨132, [], [(1, .val (.int .i64 a1)), (2, .ref n 0), (5, .val (.int .i64 s0_))]⟩ (Loc O n [some ⟨false, 25, 3, 1, [.val (.int .i64 a0.Kind), .sl a0.Words.length (fl (eI .u64) a0.Words), .sl a0.Kids.length (fl e_S_api_Tree a0.Kids)]⟩, none]) (fit_loc hU rfl rfl ?_) ?_
                  · simp only [push_cast, Nat.reduceAdd, Nat.reduceSub, Nat.reduceMul, Nat.reduceLeDiff, Nat.reduceLT, Nat.reduceEqDiff, ↓reduceIte, reduceCtorEq, Int.reduceBEq, Int.reduceBNe, Nat.reduceBEq, Int.reduceLE, Int.reduceLT, Int.reduceEq, Int.reduceNe, Int.reduceNeg, Nat.reduceDiv, Nat.reduceMod, Nat.reducePow, cast_lit, hN0, hN]
                  refine W_regionD tab_ok [] ?_
                  simp only [push_cast, Nat.reduceAdd, Nat.reduceSub, Nat.reduceMul, Nat.reduceLeDiff, Nat.reduceLT, Nat.reduceEqDiff, ↓reduceIte, reduceCtorEq, Int.reduceBEq, Int.reduceBNe, Nat.reduceBEq, Int.reduceLE, Int.reduceLT, Int.reduceEq, Int.reduceNe, Int.reduceNeg, Nat.reduceDiv, Nat.reduceMod, Nat.reducePow, cast_lit, hN0, hN]
                  have hs0_ := Option.some.inj hs0_; subst hs0_
                  refine And.intro rfl (Fit2.of (fit_loc hU rfl rfl ?_) (by omega))
                  simp only [push_cast, Nat.reduceAdd, Nat.reduceSub, Nat.reduceMul, Nat.reduceLeDiff, Nat.reduceLT, Nat.reduceEqDiff, ↓reduceIte, reduceCtorEq, Int.reduceBEq, Int.reduceBNe, Nat.reduceBEq, Int.reduceLE, Int.reduceLT, Int.reduceEq, Int.reduceNe, Int.reduceNeg, Nat.reduceDiv, Nat.reduceMod, Nat.reducePow, cast_lit, hN0, hN]
            · replace hs0_ := condF c23 hs0_
              refine W_exit ?_
              try simp only [gthen, gblock, ↓reduceIte, Nat.reduceEqDiff]
              have hs0_ := Option.some.inj hs0_; subst hs0_
              refine And.intro (fun h => by cases h) (And.intro rfl (Fit2.of (fit_loc hU rfl rfl ?_) (by omega)))
              simp only [push_cast, Nat.reduceAdd, Nat.reduceSub, Nat.reduceMul, Nat.reduceLeDiff, Nat.reduceLT, Nat.reduceEqDiff, ↓reduceIte, reduceCtorEq, Int.reduceBEq, Int.reduceBNe, Nat.reduceBEq, Int.reduceLE, Int.reduceLT, Int.reduceEq, Int.reduceNe, Int.reduceNeg, Nat.reduceDiv, Nat.reduceMod, Nat.reducePow, cast_lit, hN0, hN]
          rcases z24 with z24 | z24
          · dsimp only [SumJ] at hw h
            refine W_blockR hw ?_
            try simp only [gthen, gblock, ↓reduceIte, Nat.reduceEqDiff]
            have h := Option.some.inj h; subst h
            refine fin_loc (.inr rfl) hU [.val (.bool false)] (by omega) ?_
            simp only [push_cast, Nat.reduceAdd, Nat.reduceSub, Nat.reduceMul, Nat.reduceLeDiff, Nat.reduceLT, Nat.reduceEqDiff, ↓reduceIte, reduceCtorEq, Int.reduceBEq, Int.reduceBNe, Nat.reduceBEq, Int.reduceLE, Int.reduceLT, Int.reduceEq, Int.reduceNe, Int.reduceNeg, Nat.reduceDiv, Nat.reduceMod, Nat.reducePow, cast_lit, Try.results22, hN0, hN]
          · dsimp only [SumJ] at hw h
            refine W_blockX hw ?_
            try simp only [gthen, gblock, ↓reduceIte, Nat.reduceEqDiff]
            refine W_fit ⟨132, [], []⟩ (Loc O n [none]) (fit_loc hU rfl rfl ?_) ?_
            · simp only [push_cast, Nat.reduceAdd, Nat.reduceSub, Nat.reduceMul, Nat.reduceLeDiff, Nat.reduceLT, Nat.reduceEqDiff, ↓reduceIte, reduceCtorEq, Int.reduceBEq, Int.reduceBNe, Nat.reduceBEq, Int.reduceLE, Int.reduceLT, Int.reduceEq, Int.reduceNe, Int.reduceNeg, Nat.reduceDiv, Nat.reduceMod, Nat.reducePow, cast_lit, hN0, hN]
            refine W_sq [4] (W_regionD tab_ok [] ?_)
            simp only [push_cast, Nat.reduceAdd, Nat.reduceSub, Nat.reduceMul, Nat.reduceLeDiff, Nat.reduceLT, Nat.reduceEqDiff, ↓reduceIte, reduceCtorEq, Int.reduceBEq, Int.reduceBNe, Nat.reduceBEq, Int.reduceLE, Int.reduceLT, Int.reduceEq, Int.reduceNe, Int.reduceNeg, Nat.reduceDiv, Nat.reduceMod, Nat.reducePow, cast_lit, hN0, hN]
            refine W_ret ?_
            try simp only [gthen, gblock]
            have h := Option.some.inj h; subst h
            refine fin_loc (.inr rfl) hU [.val (.bool true)] (by omega) ?_
            simp only [push_cast, Nat.reduceAdd, Nat.reduceSub, Nat.reduceMul, Nat.reduceLeDiff, Nat.reduceLT, Nat.reduceEqDiff, ↓reduceIte, reduceCtorEq, Int.reduceBEq, Int.reduceBNe, Nat.reduceBEq, Int.reduceLE, Int.reduceLT, Int.reduceEq, Int.reduceNe, Int.reduceNeg, Nat.reduceDiv, Nat.reduceMod, Nat.reducePow, cast_lit, Try.results22, hN0, hN]

theorem lv_centoref07_Right_ok : ∀ k, (∀ {a0 : S_api_Tree} {a1 : Int} {r : Bool} {O : Objs} {n : Nat}, (lv_centoref07_Right k) a0 a1 = some r → GTo Try.prog 22 [.agg [.val (.int .i64 a0.Kind), .sl a0.Words.length (fl (eI .u64) a0.Words), .sl a0.Kids.length (fl e_S_api_Tree a0.Kids)], .val (.int .i64 a1)] O n (.val (.bool r)) O n) := fun k => by
  induction k with
  | zero => exact @fun a0 a1 r O n h => (nomatch (show (none : Option _) = some _ from h))
  | succ k ih => exact @fun a0 a1 r O n h => okb_centoref07_Right (ih)  h

theorem ok_centoref07_Right {a0 : S_api_Tree} {a1 : Int} {r : Bool} {O : Objs} {n : Nat} (h : m_centoref07_Right a0 a1 = some r) : GTo Try.prog 22 [.agg [.val (.int .i64 a0.Kind), .sl a0.Words.length (fl (eI .u64) a0.Words), .sl a0.Kids.length (fl e_S_api_Tree a0.Kids)], .val (.int .i64 a1)] O n (.val (.bool r)) O n := by
  obtain ⟨k, hk⟩ := lim_some h
  exact (lv_centoref07_Right_ok k)  hk

theorem ok_centolaw31_awake_1 {a0 : Int} {r : S_api_Tree} {O : Objs} {n : Nat} (h : m_centolaw31_awake_1 a0 = some r) : GTo Try.prog 77 [.val (.int .u64 a0)] O n (.agg [.val (.int .i64 r.Kind), .sl r.Words.length (fl (eI .u64) r.Words), .sl r.Kids.length (fl e_S_api_Tree r.Kids)]) O n := by
  unfold m_centolaw31_awake_1 at h
  refine fn_of tab_ok Try.call77 Try.func77 rfl (Nat.le_of_ble_eq_true rfl) (Nat.le_refl _) fun hU => ?_
  have hN0 : O n = none := hU.fresh _ (Nat.le_refl _)
  have hN : ∀ k, O (n + k) = none := fun k => hU.fresh _ (Nat.le_add_right _ _)
  show W _ _ _ _ ⟨6, [], [(0, .val (.int .u64 a0))]⟩ (Loc O n []) _
  refine W_sq [0, 2] (W_regionD tab_ok [] ?_)
  simp only [push_cast, Nat.reduceAdd, Nat.reduceSub, Nat.reduceMul, Nat.reduceLeDiff, Nat.reduceLT, Nat.reduceEqDiff, ↓reduceIte, reduceCtorEq, Int.reduceBEq, Int.reduceBNe, Nat.reduceBEq, Int.reduceLE, Int.reduceLT, Int.reduceEq, Int.reduceNe, Int.reduceNeg, Nat.reduceDiv, Nat.reduceMod, Nat.reducePow, cast_lit, hN0, hN]
  refine W_seqK ?_
  refine W_regionD tab_ok [] ?_
  simp only [push_cast, Nat.reduceAdd, Nat.reduceSub, Nat.reduceMul, Nat.reduceLeDiff, Nat.reduceLT, Nat.reduceEqDiff, ↓reduceIte, reduceCtorEq, Int.reduceBEq, Int.reduceBNe, Nat.reduceBEq, Int.reduceLE, Int.reduceLT, Int.reduceEq, Int.reduceNe, Int.reduceNeg, Nat.reduceDiv, Nat.reduceMod, Nat.reducePow, cast_lit, hN0, hN]
  refine W_fit ⟨6, [], [(2, .ref n 0)]⟩ (Loc O n [some ⟨false, 25, 3, 1, [.val (.int .i64 10), .row (n + 1) ([a0] : List Int).length, .val (.slice none 0 0)]⟩, some ⟨true, 56, 1, ([a0] : List Int).length, fl (eI .u64) ([a0] : List Int)⟩]) (fit_loc hU rfl rfl ?_) ?_
  · simp only [push_cast, Nat.reduceAdd, Nat.reduceSub, Nat.reduceMul, Nat.reduceLeDiff, Nat.reduceLT, Nat.reduceEqDiff, ↓reduceIte, reduceCtorEq, Int.reduceBEq, Int.reduceBNe, Nat.reduceBEq, Int.reduceLE, Int.reduceLT, Int.reduceEq, Int.reduceNe, Int.reduceNeg, Nat.reduceDiv, Nat.reduceMod, Nat.reducePow, cast_lit, hN0, hN]
  refine W_ret ?_
  try simp only [gthen, gblock]
  have h := Option.some.inj h; subst h
  refine fin_loc (.inr rfl) hU [.agg [.val (.int .i64 10), .row (n + 1) ([a0] : List Int).length, .val (.slice none 0 0)]] (by omega) ?_
  simp only [push_cast, Nat.reduceAdd, Nat.reduceSub, Nat.reduceMul, Nat.reduceLeDiff, Nat.reduceLT, Nat.reduceEqDiff, ↓reduceIte, reduceCtorEq, Int.reduceBEq, Int.reduceBNe, Nat.reduceBEq, Int.reduceLE, Int.reduceLT, Int.reduceEq, Int.reduceNe, Int.reduceNeg, Nat.reduceDiv, Nat.reduceMod, Nat.reducePow, cast_lit, Try.results77, hN0, hN]

theorem ok_tree_List {a0 : Int} {r : Bool} {O : Objs} {n : Nat} (h : m_tree_List a0 = some r) : GTo Try.prog 110 [.val (.int .i64 a0)] O n (.val (.bool r)) O n := by
  unfold m_tree_List at h
  refine fn_of tab_ok Try.call110 Try.func110 rfl (Nat.le_of_ble_eq_true rfl) (Nat.le_refl _) fun hU => ?_
  have hN0 : O n = none := hU.fresh _ (Nat.le_refl _)
  have hN : ∀ k, O (n + k) = none := fun k => hU.fresh _ (Nat.le_add_right _ _)
  show W _ _ _ _ ⟨9, [], [(0, .val (.int .i64 a0))]⟩ (Loc O n []) _
  refine W_sq [0] (W_regionD tab_ok [] ?_)
  simp only [push_cast, Nat.reduceAdd, Nat.reduceSub, Nat.reduceMul, Nat.reduceLeDiff, Nat.reduceLT, Nat.reduceEqDiff, ↓reduceIte, reduceCtorEq, Int.reduceBEq, Int.reduceBNe, Nat.reduceBEq, Int.reduceLE, Int.reduceLT, Int.reduceEq, Int.reduceNe, Int.reduceNeg, Nat.reduceDiv, Nat.reduceMod, Nat.reducePow, cast_lit, hN0, hN]
  refine W_sq [2] (W_regionD tab_ok [none, none] ?_)
  simp only [push_cast, Nat.reduceAdd, Nat.reduceSub, Nat.reduceMul, Nat.reduceLeDiff, Nat.reduceLT, Nat.reduceEqDiff, ↓reduceIte, reduceCtorEq, Int.reduceBEq, Int.reduceBNe, Nat.reduceBEq, Int.reduceLE, Int.reduceLT, Int.reduceEq, Int.reduceNe, Int.reduceNeg, Nat.reduceDiv, Nat.reduceMod, Nat.reducePow, cast_lit, hN0, hN]
  repeat (with_reducible refine And.intro (by first | (intro h0; simp only [h0, and_self]; done) | (intro h0; simp only [h0, Bool.not_false, Bool.not_true, Bool.true_and, Bool.and_true, true_and, and_true, and_self, imp_self, implies_true, bne_iff_ne, ne_eq, beq_iff_eq]; done) | (intros; simp_all; done) | exact True.intro) ?_)
  refine W_ret ?_
  try simp only [gthen, gblock]
  have h := Option.some.inj h; subst h
  refine fin_loc (.inr rfl) hU [.val (.bool (cond (decide (2 ≤ a0)) (decide (a0 ≤ 9)) false))] (by omega) ?_
  simp only [push_cast, Nat.reduceAdd, Nat.reduceSub, Nat.reduceMul, Nat.reduceLeDiff, Nat.reduceLT, Nat.reduceEqDiff, ↓reduceIte, reduceCtorEq, Int.reduceBEq, Int.reduceBNe, Nat.reduceBEq, Int.reduceLE, Int.reduceLT, Int.reduceEq, Int.reduceNe, Int.reduceNeg, Nat.reduceDiv, Nat.reduceMod, Nat.reducePow, cast_lit, Try.results110, hN0, hN]

theorem ok_tree_Kid {a0 : S_api_Tree} {a1 : Int} {r : S_api_Tree} {O : Objs} {n : Nat} (h : m_tree_Kid a0 a1 = some r) : GTo Try.prog 111 [.agg [.val (.int .i64 a0.Kind), .sl a0.Words.length (fl (eI .u64) a0.Words), .sl a0.Kids.length (fl e_S_api_Tree a0.Kids)], .val (.int .i64 a1)] O n (.agg [.val (.int .i64 r.Kind), .sl r.Words.length (fl (eI .u64) r.Words), .sl r.Kids.length (fl e_S_api_Tree r.Kids)]) O n := by
  unfold m_tree_Kid at h
  refine fn_of tab_ok Try.call111 Try.func111 rfl (Nat.le_of_ble_eq_true rfl) (Nat.le_refl _) fun hU => ?_
  have hN0 : O n = none := hU.fresh _ (Nat.le_refl _)
  have hN : ∀ k, O (n + k) = none := fun k => hU.fresh _ (Nat.le_add_right _ _)
  show W _ _ _ _ ⟨20, [], [(0, .agg [.val (.int .i64 a0.Kind), .sl a0.Words.length (fl (eI .u64) a0.Words), .sl a0.Kids.length (fl e_S_api_Tree a0.Kids)]), (1, .val (.int .i64 a1))]⟩ (Loc O n []) _
  refine W_sq [1, 2, 4] (W_regionD tab_ok [] ?_)
  simp only [push_cast, Nat.reduceAdd, Nat.reduceSub, Nat.reduceMul, Nat.reduceLeDiff, Nat.reduceLT, Nat.reduceEqDiff, ↓reduceIte, reduceCtorEq, Int.reduceBEq, Int.reduceBNe, Nat.reduceBEq, Int.reduceLE, Int.reduceLT, Int.reduceEq, Int.reduceNe, Int.reduceNeg, Nat.reduceDiv, Nat.reduceMod, Nat.reducePow, cast_lit, hN0, hN]
  refine W_seqK ?_
  refine W_sq [1, 2, 4, 13] (W_regionD tab_ok [none, none, none, none, none] ?_)
  simp only [push_cast, Nat.reduceAdd, Nat.reduceSub, Nat.reduceMul, Nat.reduceLeDiff, Nat.reduceLT, Nat.reduceEqDiff, ↓reduceIte, reduceCtorEq, Int.reduceBEq, Int.reduceBNe, Nat.reduceBEq, Int.reduceLE, Int.reduceLT, Int.reduceEq, Int.reduceNe, Int.reduceNeg, Nat.reduceDiv, Nat.reduceMod, Nat.reducePow, cast_lit, hN0, hN]
  repeat (with_reducible refine And.intro (by first | (intro h0; simp only [h0, and_self]; done) | (intro h0; simp only [h0, Bool.not_false, Bool.not_true, Bool.true_and, Bool.and_true, true_and, and_true, and_self, imp_self, implies_true, bne_iff_ne, ne_eq, beq_iff_eq]; done) | (intros; simp_all; done) | exact True.intro) ?_)
  refine W_cond (t := (cond (decide (a1 < 0)) true (decide ((a0.Kids.length : Int) ≤ a1)))) rfl (fun c3 => ?_) (fun c3 => ?_)
  · replace h := condT c3 h
    refine W_seqK ?_
    refine W_regionD tab_ok [] ?_
    simp only [push_cast, Nat.reduceAdd, Nat.reduceSub, Nat.reduceMul, Nat.reduceLeDiff, Nat.reduceLT, Nat.reduceEqDiff, ↓reduceIte, reduceCtorEq, Int.reduceBEq, Int.reduceBNe, Nat.reduceBEq, Int.reduceLE, Int.reduceLT, Int.reduceEq, Int.reduceNe, Int.reduceNeg, Nat.reduceDiv, Nat.reduceMod, Nat.reducePow, cast_lit, hN0, hN]
    refine W_fit ⟨20, [], [(4, .ref (n + 1) 0)]⟩ (Loc O n [none, some ⟨false, 25, 3, 1, [.val (.int .i64 0), .val (.slice none 0 0), .val (.slice none 0 0)]⟩]) (fit_loc hU rfl rfl ?_) ?_
    · simp only [push_cast, Nat.reduceAdd, Nat.reduceSub, Nat.reduceMul, Nat.reduceLeDiff, Nat.reduceLT, Nat.reduceEqDiff, ↓reduceIte, reduceCtorEq, Int.reduceBEq, Int.reduceBNe, Nat.reduceBEq, Int.reduceLE, Int.reduceLT, Int.reduceEq, Int.reduceNe, Int.reduceNeg, Nat.reduceDiv, Nat.reduceMod, Nat.reducePow, cast_lit, hN0, hN]
    refine W_ret ?_
    try simp only [gthen, gblock]
    have h := Option.some.inj h; subst h
    refine fin_loc (.inr rfl) hU [.agg [.val (.int .i64 0), .val (.slice none 0 0), .val (.slice none 0 0)]] (by omega) ?_
    simp only [push_cast, Nat.reduceAdd, Nat.reduceSub, Nat.reduceMul, Nat.reduceLeDiff, Nat.reduceLT, Nat.reduceEqDiff, ↓reduceIte, reduceCtorEq, Int.reduceBEq, Int.reduceBNe, Nat.reduceBEq, Int.reduceLE, Int.reduceLT, Int.reduceEq, Int.reduceNe, Int.reduceNeg, Nat.reduceDiv, Nat.reduceMod, Nat.reducePow, cast_lit, Try.results111, hN0, hN]
  · replace h := condF c3 h
    refine W_skip ?_
    try simp only [gthen, gblock]
    refine W_fit ⟨20, [], [(1, .val (.int .i64 a1)), (2, .ref n 0), (4, .ref (n + 1) 0)]⟩ (Loc O n [some ⟨false, 25, 3, 1, [.val (.int .i64 a0.Kind), .sl a0.Words.length (fl (eI .u64) a0.Words), .sl a0.Kids.length (fl e_S_api_Tree a0.Kids)]⟩, some ⟨false, 25, 3, 1, [.val (.int .i64 0), .val (.slice none 0 0), .val (.slice none 0 0)]⟩]) (fit_loc hU rfl rfl ?_) ?_
    · simp only [push_cast, Nat.reduceAdd, Nat.reduceSub, Nat.reduceMul, Nat.reduceLeDiff, Nat.reduceLT, Nat.reduceEqDiff, ↓reduceIte, reduceCtorEq, Int.reduceBEq, Int.reduceBNe, Nat.reduceBEq, Int.reduceLE, Int.reduceLT, Int.reduceEq, Int.reduceNe, Int.reduceNeg, Nat.reduceDiv, Nat.reduceMod, Nat.reducePow, cast_lit, hN0, hN]
    refine W_seqK ?_
    obtain ⟨x2, hx2, ax2, bx2, cx2, h⟩ := bE (f := e_S_api_Tree) tab25 (fun _ => rfl) (by decide) h
    refine W_regionD tab_ok [] ?_
    simp only [push_cast, Nat.reduceAdd, Nat.reduceSub, Nat.reduceMul, Nat.reduceLeDiff, Nat.reduceLT, Nat.reduceEqDiff, ↓reduceIte, reduceCtorEq, Int.reduceBEq, Int.reduceBNe, Nat.reduceBEq, Int.reduceLE, Int.reduceLT, Int.reduceEq, Int.reduceNe, Int.reduceNeg, Nat.reduceDiv, Nat.reduceMod, Nat.reducePow, cast_lit, ax2, bx2, cx2, hN0, hN]
    refine W_fit ⟨20, [], [(4, .ref (n + 1) 0)]⟩ (Loc O n [none, some ⟨false, 25, 3, 1, [.val (.int .i64 x2.Kind), .sl x2.Words.length (fl (eI .u64) x2.Words), .sl x2.Kids.length (fl e_S_api_Tree x2.Kids)]⟩]) (fit_loc hU rfl rfl ?_) ?_
    · simp only [push_cast, Nat.reduceAdd, Nat.reduceSub, Nat.reduceMul, Nat.reduceLeDiff, Nat.reduceLT, Nat.reduceEqDiff, ↓reduceIte, reduceCtorEq, Int.reduceBEq, Int.reduceBNe, Nat.reduceBEq, Int.reduceLE, Int.reduceLT, Int.reduceEq, Int.reduceNe, Int.reduceNeg, Nat.reduceDiv, Nat.reduceMod, Nat.reducePow, cast_lit, ax2, bx2, cx2, hN0, hN]
    refine W_ret ?_
    try simp only [gthen, gblock]
    have h := Option.some.inj h; subst h
    refine fin_loc (.inr rfl) hU [.agg [.val (.int .i64 x2.Kind), .sl x2.Words.length (fl (eI .u64) x2.Words), .sl x2.Kids.length (fl e_S_api_Tree x2.Kids)]] (by omega) ?_
    simp only [push_cast, Nat.reduceAdd, Nat.reduceSub, Nat.reduceMul, Nat.reduceLeDiff, Nat.reduceLT, Nat.reduceEqDiff, ↓reduceIte, reduceCtorEq, Int.reduceBEq, Int.reduceBNe, Nat.reduceBEq, Int.reduceLE, Int.reduceLT, Int.reduceEq, Int.reduceNe, Int.reduceNeg, Nat.reduceDiv, Nat.reduceMod, Nat.reducePow, cast_lit, Try.results111, hN0, hN]

theorem ok_tree_Word {a0 : S_api_Tree} {a1 : Int} {r : Int} {O : Objs} {n : Nat} (h : m_tree_Word a0 a1 = some r) : GTo Try.prog 112 [.agg [.val (.int .i64 a0.Kind), .sl a0.Words.length (fl (eI .u64) a0.Words), .sl a0.Kids.length (fl e_S_api_Tree a0.Kids)], .val (.int .i64 a1)] O n (.val (.int .u64 r)) O n := by
  unfold m_tree_Word at h
  refine fn_of tab_ok Try.call112 Try.func112 rfl (Nat.le_of_ble_eq_true rfl) (Nat.le_refl _) fun hU => ?_
  have hN0 : O n = none := hU.fresh _ (Nat.le_refl _)
  have hN : ∀ k, O (n + k) = none := fun k => hU.fresh _ (Nat.le_add_right _ _)
  show W _ _ _ _ ⟨19, [], [(0, .agg [.val (.int .i64 a0.Kind), .sl a0.Words.length (fl (eI .u64) a0.Words), .sl a0.Kids.length (fl e_S_api_Tree a0.Kids)]), (1, .val (.int .i64 a1))]⟩ (Loc O n []) _
  refine W_sq [1, 2] (W_regionD tab_ok [] ?_)
  simp only [push_cast, Nat.reduceAdd, Nat.reduceSub, Nat.reduceMul, Nat.reduceLeDiff, Nat.reduceLT, Nat.reduceEqDiff, ↓reduceIte, reduceCtorEq, Int.reduceBEq, Int.reduceBNe, Nat.reduceBEq, Int.reduceLE, Int.reduceLT, Int.reduceEq, Int.reduceNe, Int.reduceNeg, Nat.reduceDiv, Nat.reduceMod, Nat.reducePow, cast_lit, hN0, hN]
  refine W_seqK ?_
  refine W_sq [1, 2, 13] (W_regionD tab_ok [none, none, none, none, none] ?_)
  simp only [push_cast, Nat.reduceAdd, Nat.reduceSub, Nat.reduceMul, Nat.reduceLeDiff, Nat.reduceLT, Nat.reduceEqDiff, ↓reduceIte, reduceCtorEq, Int.reduceBEq, Int.reduceBNe, Nat.reduceBEq, Int.reduceLE, Int.reduceLT, Int.reduceEq, Int.reduceNe, Int.reduceNeg, Nat.reduceDiv, Nat.reduceMod, Nat.reducePow, cast_lit, hN0, hN]
  repeat (with_reducible refine And.intro (by first | (intro h0; simp only [h0, and_self]; done) | (intro h0; simp only [h0, Bool.not_false, Bool.not_true, Bool.true_and, Bool.and_true, true_and, and_true, and_self, imp_self, implies_true, bne_iff_ne, ne_eq, beq_iff_eq]; done) | (intros; simp_all; done) | exact True.intro) ?_)
  refine W_cond (t := (cond (decide (a1 < 0)) true (decide ((a0.Words.length : Int) ≤ a1)))) rfl (fun c3 => ?_) (fun c3 => ?_)
  · replace h := condT c3 h
    refine W_sq [4] (W_regionD tab_ok [] ?_)
    simp only [push_cast, Nat.reduceAdd, Nat.reduceSub, Nat.reduceMul, Nat.reduceLeDiff, Nat.reduceLT, Nat.reduceEqDiff, ↓reduceIte, reduceCtorEq, Int.reduceBEq, Int.reduceBNe, Nat.reduceBEq, Int.reduceLE, Int.reduceLT, Int.reduceEq, Int.reduceNe, Int.reduceNeg, Nat.reduceDiv, Nat.reduceMod, Nat.reducePow, cast_lit, hN0, hN]
    refine W_ret ?_
    try simp only [gthen, gblock]
    have h := Option.some.inj h; subst h
    refine fin_loc (.inr rfl) hU [.val (.int .u64 0)] (by omega) ?_
    simp only [push_cast, Nat.reduceAdd, Nat.reduceSub, Nat.reduceMul, Nat.reduceLeDiff, Nat.reduceLT, Nat.reduceEqDiff, ↓reduceIte, reduceCtorEq, Int.reduceBEq, Int.reduceBNe, Nat.reduceBEq, Int.reduceLE, Int.reduceLT, Int.reduceEq, Int.reduceNe, Int.reduceNeg, Nat.reduceDiv, Nat.reduceMod, Nat.reducePow, cast_lit, Try.results112, hN0, hN]
  · replace h := condF c3 h
    refine W_skip ?_
    try simp only [gthen, gblock]
    refine W_fit ⟨19, [], [(1, .val (.int .i64 a1)), (2, .ref n 0)]⟩ (Loc O n [some ⟨false, 25, 3, 1, [.val (.int .i64 a0.Kind), .sl a0.Words.length (fl (eI .u64) a0.Words), .sl a0.Kids.length (fl e_S_api_Tree a0.Kids)]⟩]) (fit_loc hU rfl rfl ?_) ?_
    · simp only [push_cast, Nat.reduceAdd, Nat.reduceSub, Nat.reduceMul, Nat.reduceLeDiff, Nat.reduceLT, Nat.reduceEqDiff, ↓reduceIte, reduceCtorEq, Int.reduceBEq, Int.reduceBNe, Nat.reduceBEq, Int.reduceLE, Int.reduceLT, Int.reduceEq, Int.reduceNe, Int.reduceNeg, Nat.reduceDiv, Nat.reduceMod, Nat.reducePow, cast_lit, hN0, hN]
    obtain ⟨x2, hx2, ax2, bx2, cx2, h⟩ := bE (f := (eI .u64)) tab56 (fun _ => rfl) (by decide) h
    refine W_sq [4] (W_regionD tab_ok [] ?_)
    simp only [push_cast, Nat.reduceAdd, Nat.reduceSub, Nat.reduceMul, Nat.reduceLeDiff, Nat.reduceLT, Nat.reduceEqDiff, ↓reduceIte, reduceCtorEq, Int.reduceBEq, Int.reduceBNe, Nat.reduceBEq, Int.reduceLE, Int.reduceLT, Int.reduceEq, Int.reduceNe, Int.reduceNeg, Nat.reduceDiv, Nat.reduceMod, Nat.reducePow, cast_lit, ax2, bx2, cx2, hN0, hN]
    refine W_ret ?_
    try simp only [gthen, gblock]
    have h := Option.some.inj h; subst h
    refine fin_loc (.inr rfl) hU [.val (.int .u64 x2)] (by omega) ?_
    simp only [push_cast, Nat.reduceAdd, Nat.reduceSub, Nat.reduceMul, Nat.reduceLeDiff, Nat.reduceLT, Nat.reduceEqDiff, ↓reduceIte, reduceCtorEq, Int.reduceBEq, Int.reduceBNe, Nat.reduceBEq, Int.reduceLE, Int.reduceLT, Int.reduceEq, Int.reduceNe, Int.reduceNeg, Nat.reduceDiv, Nat.reduceMod, Nat.reducePow, cast_lit, Try.results112, hN0, hN]

theorem ok_path_step {a0 : S_api_Tree} {a1 : S_api_Step} {r : (S_api_Tree × Bool)} {O : Objs} {n : Nat} (h : m_path_step a0 a1 = some r) : GTo Try.prog 78 [.agg [.val (.int .i64 a0.Kind), .sl a0.Words.length (fl (eI .u64) a0.Words), .sl a0.Kids.length (fl e_S_api_Tree a0.Kids)], .agg [.val (.int .i64 a1.Kind), .val (.int .i64 a1.At)]] O n (.tup [.agg [.val (.int .i64 r.1.Kind), .sl r.1.Words.length (fl (eI .u64) r.1.Words), .sl r.1.Kids.length (fl e_S_api_Tree r.1.Kids)], .val (.bool r.2)]) O n := by
  unfold m_path_step at h
  refine fn_of tab_ok Try.call78 Try.func78 rfl (Nat.le_of_ble_eq_true rfl) (Nat.le_refl _) fun hU => ?_
  have hN0 : O n = none := hU.fresh _ (Nat.le_refl _)
  have hN : ∀ k, O (n + k) = none := fun k => hU.fresh _ (Nat.le_add_right _ _)
  show W _ _ _ _ ⟨93, [], [(0, .agg [.val (.int .i64 a0.Kind), .sl a0.Words.length (fl (eI .u64) a0.Words), .sl a0.Kids.length (fl e_S_api_Tree a0.Kids)]), (1, .agg [.val (.int .i64 a1.Kind), .val (.int .i64 a1.At)])]⟩ (Loc O n []) _
  refine W_sq [2, 3, 4] (W_regionD tab_ok [] ?_)
  simp only [push_cast, Nat.reduceAdd, Nat.reduceSub, Nat.reduceMul, Nat.reduceLeDiff, Nat.reduceLT, Nat.reduceEqDiff, ↓reduceIte, reduceCtorEq, Int.reduceBEq, Int.reduceBNe, Nat.reduceBEq, Int.reduceLE, Int.reduceLT, Int.reduceEq, Int.reduceNe, Int.reduceNeg, Nat.reduceDiv, Nat.reduceMod, Nat.reducePow, cast_lit, hN0, hN]
  refine W_sq [2, 3, 4, 6] (W_regionD tab_ok [none, none, none, none, none, none] ?_)
  simp only [push_cast, Nat.reduceAdd, Nat.reduceSub, Nat.reduceMul, Nat.reduceLeDiff, Nat.reduceLT, Nat.reduceEqDiff, ↓reduceIte, reduceCtorEq, Int.reduceBEq, Int.reduceBNe, Nat.reduceBEq, Int.reduceLE, Int.reduceLT, Int.reduceEq, Int.reduceNe, Int.reduceNeg, Nat.reduceDiv, Nat.reduceMod, Nat.reducePow, cast_lit, hN0, hN]
  repeat (with_reducible refine And.intro (by first | (intro h0; simp only [h0, and_self]; done) | (intro h0; simp only [h0, Bool.not_false, Bool.not_true, Bool.true_and, Bool.and_true, true_and, and_true, and_self, imp_self, implies_true, bne_iff_ne, ne_eq, beq_iff_eq]; done) | (intros; simp_all; done) | exact True.intro) ?_)
  refine W_seqK ?_
  obtain ⟨y2, hy2, h⟩ := bC h
  refine W_regionD tab_ok [none, none, none, none, none, none, none, none, none] ?_
  simp only [push_cast, Nat.reduceAdd, Nat.reduceSub, Nat.reduceMul, Nat.reduceLeDiff, Nat.reduceLT, Nat.reduceEqDiff, ↓reduceIte, reduceCtorEq, Int.reduceBEq, Int.reduceBNe, Nat.reduceBEq, Int.reduceLE, Int.reduceLT, Int.reduceEq, Int.reduceNe, Int.reduceNeg, Nat.reduceDiv, Nat.reduceMod, Nat.reducePow, cast_lit, hN0, hN]
  repeat (with_reducible refine And.intro (by first | (intro h0; simp only [h0, and_self]; done) | (intro h0; simp only [h0, Bool.not_false, Bool.not_true, Bool.true_and, Bool.and_true, true_and, and_true, and_self, imp_self, implies_true, bne_iff_ne, ne_eq, beq_iff_eq]; done) | (intros; simp_all; done) | exact True.intro) ?_)
  refine (ok_tree_List hy2).then ?_
  simp only [push_cast, Nat.reduceAdd, Nat.reduceSub, Nat.reduceMul, Nat.reduceLeDiff, Nat.reduceLT, Nat.reduceEqDiff, ↓reduceIte, reduceCtorEq, Int.reduceBEq, Int.reduceBNe, Nat.reduceBEq, Int.reduceLE, Int.reduceLT, Int.reduceEq, Int.reduceNe, Int.reduceNeg, Nat.reduceDiv, Nat.reduceMod, Nat.reducePow, cast_lit, hN0, hN]
  repeat (with_reducible refine And.intro (by first | (intro h0; simp only [h0, and_self]; done) | (intro h0; simp only [h0, Bool.not_false, Bool.not_true, Bool.true_and, Bool.and_true, true_and, and_true, and_self, imp_self, implies_true, bne_iff_ne, ne_eq, beq_iff_eq]; done) | (intros; simp_all; done) | exact True.intro) ?_)
  refine W_fit ⟨93, [], [(2, .ref n 0), (3, .ref (n + 1) 0), (4, .ref (n + 2) 0), (6, .val (.bool (cond (cond (a0.Kind == 1) (decide (0 ≤ a1.At)) false) (decide (a1.At ≤ 65534)) false))), (7, .val (.bool (cond (cond y2 (decide (0 ≤ a1.At)) false) (decide (a1.At ≤ (a0.Kids.length : Int))) false)))]⟩ (Loc O n [some ⟨false, 25, 3, 1, [.val (.int .i64 a0.Kind), .sl a0.Words.length (fl (eI .u64) a0.Words), .sl a0.Kids.length (fl e_S_api_Tree a0.Kids)]⟩, some ⟨false, 102, 2, 1, [.val (.int .i64 a1.Kind), .val (.int .i64 a1.At)]⟩, some ⟨false, 25, 3, 1, [.val (.int .i64 0), .val (.slice none 0 0), .val (.slice none 0 0)]⟩]) (fit_loc hU rfl rfl ?_) ?_
  · simp only [push_cast, Nat.reduceAdd, Nat.reduceSub, Nat.reduceMul, Nat.reduceLeDiff, Nat.reduceLT, Nat.reduceEqDiff, ↓reduceIte, reduceCtorEq, Int.reduceBEq, Int.reduceBNe, Nat.reduceBEq, Int.reduceLE, Int.reduceLT, Int.reduceEq, Int.reduceNe, Int.reduceNeg, Nat.reduceDiv, Nat.reduceMod, Nat.reducePow, cast_lit, hN0, hN]
  refine W_seqK ?_
  refine W_block ?_
  refine W_sq [2, 3, 4, 6, 7, 37] (W_regionD tab_ok [none] ?_)
  simp only [push_cast, Nat.reduceAdd, Nat.reduceSub, Nat.reduceMul, Nat.reduceLeDiff, Nat.reduceLT, Nat.reduceEqDiff, ↓reduceIte, reduceCtorEq, Int.reduceBEq, Int.reduceBNe, Nat.reduceBEq, Int.reduceLE, Int.reduceLT, Int.reduceEq, Int.reduceNe, Int.reduceNeg, Nat.reduceDiv, Nat.reduceMod, Nat.reducePow, cast_lit, hN0, hN]
  repeat (with_reducible refine And.intro (by first | (intro h0; simp only [h0, and_self]; done) | (intro h0; simp only [h0, Bool.not_false, Bool.not_true, Bool.true_and, Bool.and_true, true_and, and_true, and_self, imp_self, implies_true, bne_iff_ne, ne_eq, beq_iff_eq]; done) | (intros; simp_all; done) | exact True.intro) ?_)
  refine W_cond (t := (cond (a1.Kind == 0) (cond (cond (a0.Kind == 1) (decide (0 ≤ a1.At)) false) (decide (a1.At ≤ 65534)) false) false)) rfl (fun c12 => ?_) (fun c12 => ?_)
  · replace h := condT c12 h
    refine W_seqK ?_
    obtain ⟨y4, hy4, h⟩ := bC h
    refine W_regionD tab_ok [] ?_
    simp only [push_cast, Nat.reduceAdd, Nat.reduceSub, Nat.reduceMul, Nat.reduceLeDiff, Nat.reduceLT, Nat.reduceEqDiff, ↓reduceIte, reduceCtorEq, Int.reduceBEq, Int.reduceBNe, Nat.reduceBEq, Int.reduceLE, Int.reduceLT, Int.reduceEq, Int.reduceNe, Int.reduceNeg, Nat.reduceDiv, Nat.reduceMod, Nat.reducePow, cast_lit, hN0, hN]
    refine (ok_tree_Kid hy4).then ?_
    simp only [push_cast, Nat.reduceAdd, Nat.reduceSub, Nat.reduceMul, Nat.reduceLeDiff, Nat.reduceLT, Nat.reduceEqDiff, ↓reduceIte, reduceCtorEq, Int.reduceBEq, Int.reduceBNe, Nat.reduceBEq, Int.reduceLE, Int.reduceLT, Int.reduceEq, Int.reduceNe, Int.reduceNeg, Nat.reduceDiv, Nat.reduceMod, Nat.reducePow, cast_lit, hN0, hN]
    refine W_fit ⟨93, [], [(4, .ref (n + 2) 0), (5, .val (.bool true))]⟩ (Loc O n [none, none, some ⟨false, 25, 3, 1, [.val (.int .i64 y4.Kind), .sl y4.Words.length (fl (eI .u64) y4.Words), .sl y4.Kids.length (fl e_S_api_Tree y4.Kids)]⟩]) (fit_loc hU rfl rfl ?_) ?_
    · simp only [push_cast, Nat.reduceAdd, Nat.reduceSub, Nat.reduceMul, Nat.reduceLeDiff, Nat.reduceLT, Nat.reduceEqDiff, ↓reduceIte, reduceCtorEq, Int.reduceBEq, Int.reduceBNe, Nat.reduceBEq, Int.reduceLE, Int.reduceLT, Int.reduceEq, Int.reduceNe, Int.reduceNeg, Nat.reduceDiv, Nat.reduceMod, Nat.reducePow, cast_lit, hN0, hN]
    refine W_ret ?_
    try simp only [gthen, gblock]
    have h := Option.some.inj h; subst h
    refine fin_loc (.inr rfl) hU [.agg [.val (.int .i64 y4.Kind), .sl y4.Words.length (fl (eI .u64) y4.Words), .sl y4.Kids.length (fl e_S_api_Tree y4.Kids)], .val (.bool true)] (by omega) ?_
    simp only [push_cast, Nat.reduceAdd, Nat.reduceSub, Nat.reduceMul, Nat.reduceLeDiff, Nat.reduceLT, Nat.reduceEqDiff, ↓reduceIte, reduceCtorEq, Int.reduceBEq, Int.reduceBNe, Nat.reduceBEq, Int.reduceLE, Int.reduceLT, Int.reduceEq, Int.reduceNe, Int.reduceNeg, Nat.reduceDiv, Nat.reduceMod, Nat.reducePow, cast_lit, Try.results78, hN0, hN]
  · replace h := condF c12 h
    refine W_sq [2, 3, 4, 6, 7, 48] (W_regionD tab_ok [none, none, none, none, none, none, none] ?_)
    simp only [push_cast, Nat.reduceAdd, Nat.reduceSub, Nat.reduceMul, Nat.reduceLeDiff, Nat.reduceLT, Nat.reduceEqDiff, ↓reduceIte, reduceCtorEq, Int.reduceBEq, Int.reduceBNe, Nat.reduceBEq, Int.reduceLE, Int.reduceLT, Int.reduceEq, Int.reduceNe, Int.reduceNeg, Nat.reduceDiv, Nat.reduceMod, Nat.reducePow, cast_lit, hN0, hN]
    repeat (with_reducible refine And.intro (by first | (intro h0; simp only [h0, and_self]; done) | (intro h0; simp only [h0, Bool.not_false, Bool.not_true, Bool.true_and, Bool.and_true, true_and, and_true, and_self, imp_self, implies_true, bne_iff_ne, ne_eq, beq_iff_eq]; done) | (intros; simp_all; done) | exact True.intro) ?_)
    refine W_cond (t := (cond (cond (a1.Kind == 0) (cond (cond y2 (decide (0 ≤ a1.At)) false) (decide (a1.At ≤ (a0.Kids.length : Int))) false) false) (decide (a1.At < (a0.Kids.length : Int))) false)) rfl (fun c11 => ?_) (fun c11 => ?_)
    · replace h := condT c11 h
      refine W_seqK ?_
      obtain ⟨x6, hx6, ax6, bx6, cx6, h⟩ := bE (f := e_S_api_Tree) tab25 (fun _ => rfl) (by decide) h
      refine W_regionD tab_ok [] ?_
      simp only [push_cast, Nat.reduceAdd, Nat.reduceSub, Nat.reduceMul, Nat.reduceLeDiff, Nat.reduceLT, Nat.reduceEqDiff, ↓reduceIte, reduceCtorEq, Int.reduceBEq, Int.reduceBNe, Nat.reduceBEq, Int.reduceLE, Int.reduceLT, Int.reduceEq, Int.reduceNe, Int.reduceNeg, Nat.reduceDiv, Nat.reduceMod, Nat.reducePow, cast_lit, ax6, bx6, cx6, hN0, hN]
      refine W_fit ⟨93, [], [(4, .ref (n + 2) 0), (5, .val (.bool true))]⟩ (Loc O n [none, none, some ⟨false, 25, 3, 1, [.val (.int .i64 x6.Kind), .sl x6.Words.length (fl (eI .u64) x6.Words), .sl x6.Kids.length (fl e_S_api_Tree x6.Kids)]⟩]) (fit_loc hU rfl rfl ?_) ?_
      · simp only [push_cast, Nat.reduceAdd, Nat.reduceSub, Nat.reduceMul, Nat.reduceLeDiff, Nat.reduceLT, Nat.reduceEqDiff, ↓reduceIte, reduceCtorEq, Int.reduceBEq, Int.reduceBNe, Nat.reduceBEq, Int.reduceLE, Int.reduceLT, Int.reduceEq, Int.reduceNe, Int.reduceNeg, Nat.reduceDiv, Nat.reduceMod, Nat.reducePow, cast_lit, ax6, bx6, cx6, hN0, hN]
      refine W_ret ?_
      try simp only [gthen, gblock]
      have h := Option.some.inj h; subst h
      refine fin_loc (.inr rfl) hU [.agg [.val (.int .i64 x6.Kind), .sl x6.Words.length (fl (eI .u64) x6.Words), .sl x6.Kids.length (fl e_S_api_Tree x6.Kids)], .val (.bool true)] (by omega) ?_
      simp only [push_cast, Nat.reduceAdd, Nat.reduceSub, Nat.reduceMul, Nat.reduceLeDiff, Nat.reduceLT, Nat.reduceEqDiff, ↓reduceIte, reduceCtorEq, Int.reduceBEq, Int.reduceBNe, Nat.reduceBEq, Int.reduceLE, Int.reduceLT, Int.reduceEq, Int.reduceNe, Int.reduceNeg, Nat.reduceDiv, Nat.reduceMod, Nat.reducePow, cast_lit, Try.results78, hN0, hN]
    · replace h := condF c11 h
      refine W_sq [2, 3, 4, 7, 69] (W_regionD tab_ok [none] ?_)
      simp only [push_cast, Nat.reduceAdd, Nat.reduceSub, Nat.reduceMul, Nat.reduceLeDiff, Nat.reduceLT, Nat.reduceEqDiff, ↓reduceIte, reduceCtorEq, Int.reduceBEq, Int.reduceBNe, Nat.reduceBEq, Int.reduceLE, Int.reduceLT, Int.reduceEq, Int.reduceNe, Int.reduceNeg, Nat.reduceDiv, Nat.reduceMod, Nat.reducePow, cast_lit, hN0, hN]
      repeat (with_reducible refine And.intro (by first | (intro h0; simp only [h0, and_self]; done) | (intro h0; simp only [h0, Bool.not_false, Bool.not_true, Bool.true_and, Bool.and_true, true_and, and_true, and_self, imp_self, implies_true, bne_iff_ne, ne_eq, beq_iff_eq]; done) | (intros; simp_all; done) | exact True.intro) ?_)
      refine W_cond (t := (cond (a1.Kind == 1) (cond (cond (a0.Kind == 1) (decide (0 ≤ a1.At)) false) (decide (a1.At ≤ 65534)) false) false)) rfl (fun c10 => ?_) (fun c10 => ?_)
      · replace h := condT c10 h
        refine W_seqK ?_
        obtain ⟨y8, hy8, h⟩ := bC h
        refine W_regionD tab_ok [] ?_
        simp only [push_cast, Nat.reduceAdd, Nat.reduceSub, Nat.reduceMul, Nat.reduceLeDiff, Nat.reduceLT, Nat.reduceEqDiff, ↓reduceIte, reduceCtorEq, Int.reduceBEq, Int.reduceBNe, Nat.reduceBEq, Int.reduceLE, Int.reduceLT, Int.reduceEq, Int.reduceNe, Int.reduceNeg, Nat.reduceDiv, Nat.reduceMod, Nat.reducePow, cast_lit, hN0, hN]
        refine (ok_tree_Word hy8).then ?_
        simp only [push_cast, Nat.reduceAdd, Nat.reduceSub, Nat.reduceMul, Nat.reduceLeDiff, Nat.reduceLT, Nat.reduceEqDiff, ↓reduceIte, reduceCtorEq, Int.reduceBEq, Int.reduceBNe, Nat.reduceBEq, Int.reduceLE, Int.reduceLT, Int.reduceEq, Int.reduceNe, Int.reduceNeg, Nat.reduceDiv, Nat.reduceMod, Nat.reducePow, cast_lit, hN0, hN]
        refine W_fit ⟨93, [], [(4, .ref (n + 2) 0), (5, .val (.bool true))]⟩ (Loc O n [none, none, some ⟨false, 25, 3, 1, [.val (.int .i64 1), .row (n + 3) ([y8] : List Int).length, .val (.slice none 0 0)]⟩, some ⟨true, 56, 1, ([y8] : List Int).length, fl (eI .u64) ([y8] : List Int)⟩]) (fit_loc hU rfl rfl ?_) ?_
        · simp only [push_cast, Nat.reduceAdd, Nat.reduceSub, Nat.reduceMul, Nat.reduceLeDiff, Nat.reduceLT, Nat.reduceEqDiff, ↓reduceIte, reduceCtorEq, Int.reduceBEq, Int.reduceBNe, Nat.reduceBEq, Int.reduceLE, Int.reduceLT, Int.reduceEq, Int.reduceNe, Int.reduceNeg, Nat.reduceDiv, Nat.reduceMod, Nat.reducePow, cast_lit, hN0, hN]
        refine W_ret ?_
        try simp only [gthen, gblock]
        have h := Option.some.inj h; subst h
        refine fin_loc (.inr rfl) hU [.agg [.val (.int .i64 1), .row (n + 3) ([y8] : List Int).length, .val (.slice none 0 0)], .val (.bool true)] (by omega) ?_
        simp only [push_cast, Nat.reduceAdd, Nat.reduceSub, Nat.reduceMul, Nat.reduceLeDiff, Nat.reduceLT, Nat.reduceEqDiff, ↓reduceIte, reduceCtorEq, Int.reduceBEq, Int.reduceBNe, Nat.reduceBEq, Int.reduceLE, Int.reduceLT, Int.reduceEq, Int.reduceNe, Int.reduceNeg, Nat.reduceDiv, Nat.reduceMod, Nat.reducePow, cast_lit, Try.results78, hN0, hN]
      · replace h := condF c10 h
        refine W_sq [2, 4, 82] (W_regionD tab_ok [none] ?_)
        simp only [push_cast, Nat.reduceAdd, Nat.reduceSub, Nat.reduceMul, Nat.reduceLeDiff, Nat.reduceLT, Nat.reduceEqDiff, ↓reduceIte, reduceCtorEq, Int.reduceBEq, Int.reduceBNe, Nat.reduceBEq, Int.reduceLE, Int.reduceLT, Int.reduceEq, Int.reduceNe, Int.reduceNeg, Nat.reduceDiv, Nat.reduceMod, Nat.reducePow, cast_lit, hN0, hN]
        repeat (with_reducible refine And.intro (by first | (intro h0; simp only [h0, and_self]; done) | (intro h0; simp only [h0, Bool.not_false, Bool.not_true, Bool.true_and, Bool.and_true, true_and, and_true, and_self, imp_self, implies_true, bne_iff_ne, ne_eq, beq_iff_eq]; done) | (intros; simp_all; done) | exact True.intro) ?_)
        refine W_cond (t := (cond (a1.Kind == 2) (cond (cond y2 (decide (0 ≤ a1.At)) false) (decide (a1.At ≤ (a0.Kids.length : Int))) false) false)) rfl (fun c9 => ?_) (fun c9 => ?_)
        · replace h := condT c9 h
          refine W_seqK ?_
          refine W_regionD tab_ok [] ?_
          simp only [push_cast, Nat.reduceAdd, Nat.reduceSub, Nat.reduceMul, Nat.reduceLeDiff, Nat.reduceLT, Nat.reduceEqDiff, ↓reduceIte, reduceCtorEq, Int.reduceBEq, Int.reduceBNe, Nat.reduceBEq, Int.reduceLE, Int.reduceLT, Int.reduceEq, Int.reduceNe, Int.reduceNeg, Nat.reduceDiv, Nat.reduceMod, Nat.reducePow, cast_lit, hN0, hN]
          refine W_fit ⟨93, [], [(4, .ref (n + 2) 0), (5, .val (.bool true))]⟩ (Loc O n [none, none, some ⟨false, 25, 3, 1, [.val (.int .i64 a0.Kind), .val (.slice none 0 0), .val (.slice none 0 0)]⟩]) (fit_loc hU rfl rfl ?_) ?_
          · simp only [push_cast, Nat.reduceAdd, Nat.reduceSub, Nat.reduceMul, Nat.reduceLeDiff, Nat.reduceLT, Nat.reduceEqDiff, ↓reduceIte, reduceCtorEq, Int.reduceBEq, Int.reduceBNe, Nat.reduceBEq, Int.reduceLE, Int.reduceLT, Int.reduceEq, Int.reduceNe, Int.reduceNeg, Nat.reduceDiv, Nat.reduceMod, Nat.reducePow, cast_lit, hN0, hN]
          refine W_ret ?_
          try simp only [gthen, gblock]
          have h := Option.some.inj h; subst h
          refine fin_loc (.inr rfl) hU [.agg [.val (.int .i64 a0.Kind), .val (.slice none 0 0), .val (.slice none 0 0)], .val (.bool true)] (by omega) ?_
          simp only [push_cast, Nat.reduceAdd, Nat.reduceSub, Nat.reduceMul, Nat.reduceLeDiff, Nat.reduceLT, Nat.reduceEqDiff, ↓reduceIte, reduceCtorEq, Int.reduceBEq, Int.reduceBNe, Nat.reduceBEq, Int.reduceLE, Int.reduceLT, Int.reduceEq, Int.reduceNe, Int.reduceNeg, Nat.reduceDiv, Nat.reduceMod, Nat.reducePow, cast_lit, Try.results78, hN0, hN]
        · replace h := condF c9 h
          refine W_skip ?_
          try simp only [gthen, gblock]
          refine W_fit ⟨93, [], [(4, .ref (n + 2) 0)]⟩ (Loc O n [none, none, some ⟨false, 25, 3, 1, [.val (.int .i64 0), .val (.slice none 0 0), .val (.slice none 0 0)]⟩]) (fit_loc hU rfl rfl ?_) ?_
          · simp only [push_cast, Nat.reduceAdd, Nat.reduceSub, Nat.reduceMul, Nat.reduceLeDiff, Nat.reduceLT, Nat.reduceEqDiff, ↓reduceIte, reduceCtorEq, Int.reduceBEq, Int.reduceBNe, Nat.reduceBEq, Int.reduceLE, Int.reduceLT, Int.reduceEq, Int.reduceNe, Int.reduceNeg, Nat.reduceDiv, Nat.reduceMod, Nat.reducePow, cast_lit, hN0, hN]
          refine W_seqK ?_
          refine W_regionD tab_ok [] ?_
          simp only [push_cast, Nat.reduceAdd, Nat.reduceSub, Nat.reduceMul, Nat.reduceLeDiff, Nat.reduceLT, Nat.reduceEqDiff, ↓reduceIte, reduceCtorEq, Int.reduceBEq, Int.reduceBNe, Nat.reduceBEq, Int.reduceLE, Int.reduceLT, Int.reduceEq, Int.reduceNe, Int.reduceNeg, Nat.reduceDiv, Nat.reduceMod, Nat.reducePow, cast_lit, hN0, hN]
          refine W_fit ⟨93, [], [(4, .ref (n + 2) 0), (5, .val (.bool false))]⟩ (Loc O n [none, none, some ⟨false, 25, 3, 1, [.val (.int .i64 0), .val (.slice none 0 0), .val (.slice none 0 0)]⟩]) (fit_loc hU rfl rfl ?_) ?_
          · simp only [push_cast, Nat.reduceAdd, Nat.reduceSub, Nat.reduceMul, Nat.reduceLeDiff, Nat.reduceLT, Nat.reduceEqDiff, ↓reduceIte, reduceCtorEq, Int.reduceBEq, Int.reduceBNe, Nat.reduceBEq, Int.reduceLE, Int.reduceLT, Int.reduceEq, Int.reduceNe, Int.reduceNeg, Nat.reduceDiv, Nat.reduceMod, Nat.reducePow, cast_lit, hN0, hN]
          refine W_ret ?_
          try simp only [gthen, gblock]
          have h := Option.some.inj h; subst h
          refine fin_loc (.inr rfl) hU [.agg [.val (.int .i64 0), .val (.slice none 0 0), .val (.slice none 0 0)], .val (.bool false)] (by omega) ?_
          simp only [push_cast, Nat.reduceAdd, Nat.reduceSub, Nat.reduceMul, Nat.reduceLeDiff, Nat.reduceLT, Nat.reduceEqDiff, ↓reduceIte, reduceCtorEq, Int.reduceBEq, Int.reduceBNe, Nat.reduceBEq, Int.reduceLE, Int.reduceLT, Int.reduceEq, Int.reduceNe, Int.reduceNeg, Nat.reduceDiv, Nat.reduceMod, Nat.reducePow, cast_lit, Try.results78, hN0, hN]

theorem ok_tree_trimWords {a0 : (List Int)} {r : (List Int)} {O : Objs} {n : Nat} (h : m_tree_trimWords a0 = some r) : GTo Try.prog 88 [.sl a0.length (fl (eI .u64) a0)] O n (.sl r.length (fl (eI .u64) r)) O n := by
  unfold m_tree_trimWords at h
  refine fn_of tab_ok Try.call88 Try.func88 rfl (Nat.le_of_ble_eq_true rfl) (Nat.le_refl _) fun hU => ?_
  have hN0 : O n = none := hU.fresh _ (Nat.le_refl _)
  have hN : ∀ k, O (n + k) = none := fun k => hU.fresh _ (Nat.le_add_right _ _)
  show W _ _ _ _ ⟨22, [], [(0, .sl a0.length (fl (eI .u64) a0))]⟩ (Loc O n []) _
  refine W_sq [0] (W_regionD tab_ok [] ?_)
  simp only [push_cast, Nat.reduceAdd, Nat.reduceSub, Nat.reduceMul, Nat.reduceLeDiff, Nat.reduceLT, Nat.reduceEqDiff, ↓reduceIte, reduceCtorEq, Int.reduceBEq, Int.reduceBNe, Nat.reduceBEq, Int.reduceLE, Int.reduceLT, Int.reduceEq, Int.reduceNe, Int.reduceNeg, Nat.reduceDiv, Nat.reduceMod, Nat.reducePow, cast_lit, hN0, hN]
  refine W_sq [0, 3] (W_regionD tab_ok [] ?_)
  simp only [push_cast, Nat.reduceAdd, Nat.reduceSub, Nat.reduceMul, Nat.reduceLeDiff, Nat.reduceLT, Nat.reduceEqDiff, ↓reduceIte, reduceCtorEq, Int.reduceBEq, Int.reduceBNe, Nat.reduceBEq, Int.reduceLE, Int.reduceLT, Int.reduceEq, Int.reduceNe, Int.reduceNeg, Nat.reduceDiv, Nat.reduceMod, Nat.reducePow, cast_lit, hN0, hN]
  refine W_seqK ?_
  refine W_fit ⟨22, [], [(0, .sl a0.length (fl (eI .u64) a0)), (3, .val (.int .i64 (a0.length : Int)))]⟩ (Loc O n []) (fit_loc hU rfl rfl ?_) ?_
  · simp only [push_cast, Nat.reduceAdd, Nat.reduceSub, Nat.reduceMul, Nat.reduceLeDiff, Nat.reduceLT, Nat.reduceEqDiff, ↓reduceIte, reduceCtorEq, Int.reduceBEq, Int.reduceBNe, Nat.reduceBEq, Int.reduceLE, Int.reduceLT, Int.reduceEq, Int.reduceNe, Int.reduceNeg, Nat.reduceDiv, Nat.reduceMod, Nat.reducePow, cast_lit, hN0, hN]
  obtain ⟨z6, hz6, h⟩ := bC h
  refine W_blockX (E' := ⟨22, [], [(0, .sl a0.length (fl (eI .u64) a0)), (3, .val (.int .i64 z6))]⟩) (O' := (Loc O n [])) (n0 := n) ?_ ?_
  · refine W_loopJ hz6 (fun s0_ => ⟨22, [], [(0, .sl a0.length (fl (eI .u64) a0)), (3, .val (.int .i64 s0_))]⟩) (fun s0_ => (Loc O n [])) (fun z6 => JX 0 n (⟨22, [], [(0, .sl a0.length (fl (eI .u64) a0)), (3, .val (.int .i64 z6))]⟩ : Env) (Loc O n []) n) ?_
    intro s0_ x0_ hs0_
    unfold m_tree_trimWords_L0 at hs0_
    try dsimp only
    refine W_seqK ?_
    obtain ⟨z2, hz2, hs0_⟩ := bC hs0_
    refine W_seqN (E' := ⟨22, [], [(0, .sl a0.length (fl (eI .u64) a0)), (3, .val (.int .i64 s0_)), (15, .val (.bool z2))]⟩) (O' := (Loc O n [])) (n0 := n) ?_ ?_
    · rcases Bool.eq_false_or_eq_true (decide (0 < s0_)) with c4 | c4
      · replace hz2 := condT c4 hz2
        obtain ⟨x3, hx3, ax3, bx3, cx3, hz2⟩ := bE (f := (eI .u64)) tab56 (fun _ => rfl) (by decide) hz2
        refine W_regionD tab_ok [some true, some true, some true, some true, some true, some true] ?_
        simp only [push_cast, Nat.reduceAdd, Nat.reduceSub, Nat.reduceMul, Nat.reduceLeDiff, Nat.reduceLT, Nat.reduceEqDiff, ↓reduceIte, reduceCtorEq, Int.reduceBEq, Int.reduceBNe, Nat.reduceBEq, Int.reduceLE, Int.reduceLT, Int.reduceEq, Int.reduceNe, Int.reduceNeg, Nat.reduceDiv, Nat.reduceMod, Nat.reducePow, cast_lit, c4, ax3, bx3, cx3, hN0, hN]
        have hz2 := Option.some.inj hz2; subst hz2
        refine And.intro rfl (Fit2.of (fit_loc hU rfl rfl ?_) (by omega))
        simp only [push_cast, Nat.reduceAdd, Nat.reduceSub, Nat.reduceMul, Nat.reduceLeDiff, Nat.reduceLT, Nat.reduceEqDiff, ↓reduceIte, reduceCtorEq, Int.reduceBEq, Int.reduceBNe, Nat.reduceBEq, Int.reduceLE, Int.reduceLT, Int.reduceEq, Int.reduceNe, Int.reduceNeg, Nat.reduceDiv, Nat.reduceMod, Nat.reducePow, cast_lit, c4, ax3, bx3, cx3, hN0, hN]
      · replace hz2 := condF c4 hz2
        refine W_regionD tab_ok [some false, some false, some false, some false, some false, some false] ?_
        simp only [push_cast, Nat.reduceAdd, Nat.reduceSub, Nat.reduceMul, Nat.reduceLeDiff, Nat.reduceLT, Nat.reduceEqDiff, ↓reduceIte, reduceCtorEq, Int.reduceBEq, Int.reduceBNe, Nat.reduceBEq, Int.reduceLE, Int.reduceLT, Int.reduceEq, Int.reduceNe, Int.reduceNeg, Nat.reduceDiv, Nat.reduceMod, Nat.reducePow, cast_lit, c4, hN0, hN]
        have hz2 := Option.some.inj hz2; subst hz2
        refine And.intro rfl (Fit2.of (fit_loc hU rfl rfl ?_) (by omega))
        simp only [push_cast, Nat.reduceAdd, Nat.reduceSub, Nat.reduceMul, Nat.reduceLeDiff, Nat.reduceLT, Nat.reduceEqDiff, ↓reduceIte, reduceCtorEq, Int.reduceBEq, Int.reduceBNe, Nat.reduceBEq, Int.reduceLE, Int.reduceLT, Int.reduceEq, Int.reduceNe, Int.reduceNeg, Nat.reduceDiv, Nat.reduceMod, Nat.reducePow, cast_lit, c4, hN0, hN]
    refine W_cond (t := z2) rfl (fun c5 => ?_) (fun c5 => ?_)
    · replace hs0_ := condT c5 hs0_
      refine W_skip ?_
      try simp only [gthen, gblock]
      refine W_fit ⟨22, [], [(0, .sl a0.length (fl (eI .u64) a0)), (3, .val (.int .i64 s0_))]⟩ (Loc O n []) (fit_loc hU rfl rfl ?_) ?_
      · simp only [push_cast, Nat.reduceAdd, Nat.reduceSub, Nat.reduceMul, Nat.reduceLeDiff, Nat.reduceLT, Nat.reduceEqDiff, ↓reduceIte, reduceCtorEq, Int.reduceBEq, Int.reduceBNe, Nat.reduceBEq, Int.reduceLE, Int.reduceLT, Int.reduceEq, Int.reduceNe, Int.reduceNeg, Nat.reduceDiv, Nat.reduceMod, Nat.reducePow, cast_lit, hN0, hN]
      refine W_block ?_
      refine W_regionD tab_ok [] ?_
      simp only [push_cast, Nat.reduceAdd, Nat.reduceSub, Nat.reduceMul, Nat.reduceLeDiff, Nat.reduceLT, Nat.reduceEqDiff, ↓reduceIte, reduceCtorEq, Int.reduceBEq, Int.reduceBNe, Nat.reduceBEq, Int.reduceLE, Int.reduceLT, Int.reduceEq, Int.reduceNe, Int.reduceNeg, Nat.reduceDiv, Nat.reduceMod, Nat.reducePow, cast_lit, hN0, hN]
      have hs0_ := Option.some.inj hs0_; subst hs0_
      refine And.intro rfl (Fit2.of (fit_loc hU rfl rfl ?_) (by omega))
      simp only [push_cast, Nat.reduceAdd, Nat.reduceSub, Nat.reduceMul, Nat.reduceLeDiff, Nat.reduceLT, Nat.reduceEqDiff, ↓reduceIte, reduceCtorEq, Int.reduceBEq, Int.reduceBNe, Nat.reduceBEq, Int.reduceLE, Int.reduceLT, Int.reduceEq, Int.reduceNe, Int.reduceNeg, Nat.reduceDiv, Nat.reduceMod, Nat.reducePow, cast_lit, hN0, hN]
    · replace hs0_ := condF c5 hs0_
      refine W_exit ?_
      try simp only [gthen, gblock, ↓reduceIte, Nat.reduceEqDiff]
      have hs0_ := Option.some.inj hs0_; subst hs0_
      refine And.intro (fun h => by cases h) (And.intro rfl (Fit2.of (fit_loc hU rfl rfl ?_) (by omega)))
      simp only [push_cast, Nat.reduceAdd, Nat.reduceSub, Nat.reduceMul, Nat.reduceLeDiff, Nat.reduceLT, Nat.reduceEqDiff, ↓reduceIte, reduceCtorEq, Int.reduceBEq, Int.reduceBNe, Nat.reduceBEq, Int.reduceLE, Int.reduceLT, Int.reduceEq, Int.reduceNe, Int.reduceNeg, Nat.reduceDiv, Nat.reduceMod, Nat.reducePow, cast_lit, hN0, hN]
  try simp only [gthen, gblock, ↓reduceIte, Nat.reduceEqDiff]
  refine W_fit ⟨22, [], [(0, .sl a0.length (fl (eI .u64) a0)), (3, .val (.int .i64 z6))]⟩ (Loc O n []) (fit_loc hU rfl rfl ?_) ?_
  · simp only [push_cast, Nat.reduceAdd, Nat.reduceSub, Nat.reduceMul, Nat.reduceLeDiff, Nat.reduceLT, Nat.reduceEqDiff, ↓reduceIte, reduceCtorEq, Int.reduceBEq, Int.reduceBNe, Nat.reduceBEq, Int.reduceLE, Int.reduceLT, Int.reduceEq, Int.reduceNe, Int.reduceNeg, Nat.reduceDiv, Nat.reduceMod, Nat.reducePow, cast_lit, hN0, hN]
  obtain ⟨l8, al8, bl8, cl8, gl8, h⟩ := bS3 (lo := none) (hi := (.i64, z6)) (f := (eI .u64)) rfl rfl tkind22 tab56 (fun _ => rfl) h
  refine W_sq [2] (W_regionD tab_ok [] ?_)
  simp only [push_cast, Nat.reduceAdd, Nat.reduceSub, Nat.reduceMul, Nat.reduceLeDiff, Nat.reduceLT, Nat.reduceEqDiff, ↓reduceIte, reduceCtorEq, Int.reduceBEq, Int.reduceBNe, Nat.reduceBEq, Int.reduceLE, Int.reduceLT, Int.reduceEq, Int.reduceNe, Int.reduceNeg, Nat.reduceDiv, Nat.reduceMod, Nat.reducePow, cast_lit, al8, bl8, cl8, gl8, hN0, hN]
  refine W_ret ?_
  try simp only [gthen, gblock]
  have h := Option.some.inj h; subst h
  refine fin_loc (.inr rfl) hU [.sl l8.length (fl (eI .u64) l8)] (by omega) ?_
  simp only [push_cast, Nat.reduceAdd, Nat.reduceSub, Nat.reduceMul, Nat.reduceLeDiff, Nat.reduceLT, Nat.reduceEqDiff, ↓reduceIte, reduceCtorEq, Int.reduceBEq, Int.reduceBNe, Nat.reduceBEq, Int.reduceLE, Int.reduceLT, Int.reduceEq, Int.reduceNe, Int.reduceNeg, Nat.reduceDiv, Nat.reduceMod, Nat.reducePow, cast_lit, Try.results88, hN0, hN]

theorem ok_tree_trimKids {a0 : (List S_api_Tree)} {r : (List S_api_Tree)} {O : Objs} {n : Nat} (h : m_tree_trimKids a0 = some r) : GTo Try.prog 89 [.sl a0.length (fl e_S_api_Tree a0)] O n (.sl r.length (fl e_S_api_Tree r)) O n := by
  unfold m_tree_trimKids at h
  refine fn_of tab_ok Try.call89 Try.func89 rfl (Nat.le_of_ble_eq_true rfl) (Nat.le_refl _) fun hU => ?_
  have hN0 : O n = none := hU.fresh _ (Nat.le_refl _)
  have hN : ∀ k, O (n + k) = none := fun k => hU.fresh _ (Nat.le_add_right _ _)
  show W _ _ _ _ ⟨23, [], [(0, .sl a0.length (fl e_S_api_Tree a0))]⟩ (Loc O n []) _
  refine W_sq [0] (W_regionD tab_ok [] ?_)
  simp only [push_cast, Nat.reduceAdd, Nat.reduceSub, Nat.reduceMul, Nat.reduceLeDiff, Nat.reduceLT, Nat.reduceEqDiff, ↓reduceIte, reduceCtorEq, Int.reduceBEq, Int.reduceBNe, Nat.reduceBEq, Int.reduceLE, Int.reduceLT, Int.reduceEq, Int.reduceNe, Int.reduceNeg, Nat.reduceDiv, Nat.reduceMod, Nat.reducePow, cast_lit, hN0, hN]
  refine W_sq [0, 3] (W_regionD tab_ok [] ?_)
  simp only [push_cast, Nat.reduceAdd, Nat.reduceSub, Nat.reduceMul, Nat.reduceLeDiff, Nat.reduceLT, Nat.reduceEqDiff, ↓reduceIte, reduceCtorEq, Int.reduceBEq, Int.reduceBNe, Nat.reduceBEq, Int.reduceLE, Int.reduceLT, Int.reduceEq, Int.reduceNe, Int.reduceNeg, Nat.reduceDiv, Nat.reduceMod, Nat.reducePow, cast_lit, hN0, hN]
  refine W_seqK ?_
  refine W_fit ⟨23, [], [(0, .sl a0.length (fl e_S_api_Tree a0)), (3, .val (.int .i64 (a0.length : Int)))]⟩ (Loc O n []) (fit_loc hU rfl rfl ?_) ?_
  · simp only [push_cast, Nat.reduceAdd, Nat.reduceSub, Nat.reduceMul, Nat.reduceLeDiff, Nat.reduceLT, Nat.reduceEqDiff, ↓reduceIte, reduceCtorEq, Int.reduceBEq, Int.reduceBNe, Nat.reduceBEq, Int.reduceLE, Int.reduceLT, Int.reduceEq, Int.reduceNe, Int.reduceNeg, Nat.reduceDiv, Nat.reduceMod, Nat.reducePow, cast_lit, hN0, hN]
  obtain ⟨z8, hz8, h⟩ := bC h
  refine W_blockX (E' := ⟨23, [], [(0, .sl a0.length (fl e_S_api_Tree a0)), (3, .val (.int .i64 z8))]⟩) (O' := (Loc O n [])) (n0 := n) ?_ ?_
  · refine W_loopJ hz8 (fun s0_ => ⟨23, [], [(0, .sl a0.length (fl e_S_api_Tree a0)), (3, .val (.int .i64 s0_))]⟩) (fun s0_ => (Loc O n [])) (fun z8 => JX 0 n (⟨23, [], [(0, .sl a0.length (fl e_S_api_Tree a0)), (3, .val (.int .i64 z8))]⟩ : Env) (Loc O n []) n) ?_
    intro s0_ x0_ hs0_
    unfold m_tree_trimKids_L0 at hs0_
    try dsimp only
    refine W_seqK ?_
    obtain ⟨z3, hz3, hs0_⟩ := bC hs0_
    refine W_seqN (E' := ⟨23, [], [(0, .sl a0.length (fl e_S_api_Tree a0)), (3, .val (.int .i64 s0_)), (16, .val (.bool z3))]⟩) (O' := (Loc O n [])) (n0 := n) ?_ ?_
    · rcases Bool.eq_false_or_eq_true (decide (0 < s0_)) with c6 | c6
      · replace hz3 := condT c6 hz3
        obtain ⟨x4, hx4, ax4, bx4, cx4, hz3⟩ := bE (f := e_S_api_Tree) tab25 (fun _ => rfl) (by decide) hz3
        have g5 := gpart_fld0 (f := e_S_api_Tree) (sz := 3) tab3 (fun _ => rfl) (by decide) (by decide) hx4
        refine W_regionD tab_ok [some true, some true, some true, some true, some true, some true, some true] ?_
        simp only [push_cast, Nat.reduceAdd, Nat.reduceSub, Nat.reduceMul, Nat.reduceLeDiff, Nat.reduceLT, Nat.reduceEqDiff, ↓reduceIte, reduceCtorEq, Int.reduceBEq, Int.reduceBNe, Nat.reduceBEq, Int.reduceLE, Int.reduceLT, Int.reduceEq, Int.reduceNe, Int.reduceNeg, Nat.reduceDiv, Nat.reduceMod, Nat.reducePow, cast_lit, c6, ax4, bx4, cx4, g5, hN0, hN]
        have hz3 := Option.some.inj hz3; subst hz3
        refine And.intro rfl (Fit2.of (fit_loc hU rfl rfl ?_) (by omega))
        simp only [push_cast, Nat.reduceAdd, Nat.reduceSub, Nat.reduceMul, Nat.reduceLeDiff, Nat.reduceLT, Nat.reduceEqDiff, ↓reduceIte, reduceCtorEq, Int.reduceBEq, Int.reduceBNe, Nat.reduceBEq, Int.reduceLE, Int.reduceLT, Int.reduceEq, Int.reduceNe, Int.reduceNeg, Nat.reduceDiv, Nat.reduceMod, Nat.reducePow, cast_lit, c6, ax4, bx4, cx4, g5, hN0, hN]
      · replace hz3 := condF c6 hz3
        refine W_regionD tab_ok [some false, some false, some false, some false, some false, some false, some false] ?_
        simp only [push_cast, Nat.reduceAdd, Nat.reduceSub, Nat.reduceMul, Nat.reduceLeDiff, Nat.reduceLT, Nat.reduceEqDiff, ↓reduceIte, reduceCtorEq, Int.reduceBEq, Int.reduceBNe, Nat.reduceBEq, Int.reduceLE, Int.reduceLT, Int.reduceEq, Int.reduceNe, Int.reduceNeg, Nat.reduceDiv, Nat.reduceMod, Nat.reducePow, cast_lit, c6, hN0, hN]
        have hz3 := Option.some.inj hz3; subst hz3
        refine And.intro rfl (Fit2.of (fit_loc hU rfl rfl ?_) (by omega))
        simp only [push_cast, Nat.reduceAdd, Nat.reduceSub, Nat.reduceMul, Nat.reduceLeDiff, Nat.reduceLT, Nat.reduceEqDiff, ↓reduceIte, reduceCtorEq, Int.reduceBEq, Int.reduceBNe, Nat.reduceBEq, Int.reduceLE, Int.reduceLT, Int.reduceEq, Int.reduceNe, Int.reduceNeg, Nat.reduceDiv, Nat.reduceMod, Nat.reducePow, cast_lit, c6, hN0, hN]
    refine W_cond (t := z3) rfl (fun c7 => ?_) (fun c7 => ?_)
    · replace hs0_ := condT c7 hs0_
      refine W_skip ?_
      try simp only [gthen, gblock]
      refine W_fit ⟨23, [], [(0, .sl a0.length (fl e_S_api_Tree a0)), (3, .val (.int .i64 s0_))]⟩ (Loc O n []) (fit_loc hU rfl rfl ?_) ?_
      · simp only [push_cast, Nat.reduceAdd, Nat.reduceSub, Nat.reduceMul, Nat.reduceLeDiff, Nat.reduceLT, Nat.reduceEqDiff, ↓reduceIte, reduceCtorEq, Int.reduceBEq, Int.reduceBNe, Nat.reduceBEq, Int.reduceLE, Int.reduceLT, Int.reduceEq, Int.reduceNe, Int.reduceNeg, Nat.reduceDiv, Nat.reduceMod, Nat.reducePow, cast_lit, hN0, hN]
      refine W_block ?_
      refine W_regionD tab_ok [] ?_
      simp only [push_cast, Nat.reduceAdd, Nat.reduceSub, Nat.reduceMul, Nat.reduceLeDiff, Nat.reduceLT, Nat.reduceEqDiff, ↓reduceIte, reduceCtorEq, Int.reduceBEq, Int.reduceBNe, Nat.reduceBEq, Int.reduceLE, Int.reduceLT, Int.reduceEq, Int.reduceNe, Int.reduceNeg, Nat.reduceDiv, Nat.reduceMod, Nat.reducePow, cast_lit, hN0, hN]
      have hs0_ := Option.some.inj hs0_; subst hs0_
      refine And.intro rfl (Fit2.of (fit_loc hU rfl rfl ?_) (by omega))
      simp only [push_cast, Nat.reduceAdd, Nat.reduceSub, Nat.reduceMul, Nat.reduceLeDiff, Nat.reduceLT, Nat.reduceEqDiff, ↓reduceIte, reduceCtorEq, Int.reduceBEq, Int.reduceBNe, Nat.reduceBEq, Int.reduceLE, Int.reduceLT, Int.reduceEq, Int.reduceNe, Int.reduceNeg, Nat.reduceDiv, Nat.reduceMod, Nat.reducePow, cast_lit, hN0, hN]
    · replace hs0_ := condF c7 hs0_
      refine W_exit ?_
      try simp only [gthen, gblock, ↓reduceIte, Nat.reduceEqDiff]
      have hs0_ := Option.some.inj hs0_; subst hs0_
      refine And.intro (fun h => by cases h) (And.intro rfl (Fit2.of (fit_loc hU rfl rfl ?_) (by omega)))
      simp only [push_cast, Nat.reduceAdd, Nat.reduceSub, Nat.reduceMul, Nat.reduceLeDiff, Nat.reduceLT, Nat.reduceEqDiff, ↓reduceIte, reduceCtorEq, Int.reduceBEq, Int.reduceBNe, Nat.reduceBEq, Int.reduceLE, Int.reduceLT, Int.reduceEq, Int.reduceNe, Int.reduceNeg, Nat.reduceDiv, Nat.reduceMod, Nat.reducePow, cast_lit, hN0, hN]
  try simp only [gthen, gblock, ↓reduceIte, Nat.reduceEqDiff]
  refine W_fit ⟨23, [], [(0, .sl a0.length (fl e_S_api_Tree a0)), (3, .val (.int .i64 z8))]⟩ (Loc O n []) (fit_loc hU rfl rfl ?_) ?_
  · simp only [push_cast, Nat.reduceAdd, Nat.reduceSub, Nat.reduceMul, Nat.reduceLeDiff, Nat.reduceLT, Nat.reduceEqDiff, ↓reduceIte, reduceCtorEq, Int.reduceBEq, Int.reduceBNe, Nat.reduceBEq, Int.reduceLE, Int.reduceLT, Int.reduceEq, Int.reduceNe, Int.reduceNeg, Nat.reduceDiv, Nat.reduceMod, Nat.reducePow, cast_lit, hN0, hN]
  obtain ⟨l10, al10, bl10, cl10, gl10, h⟩ := bS3 (lo := none) (hi := (.i64, z8)) (f := e_S_api_Tree) rfl rfl tkind23 tab25 (fun _ => rfl) h
  refine W_sq [2] (W_regionD tab_ok [] ?_)
  simp only [push_cast, Nat.reduceAdd, Nat.reduceSub, Nat.reduceMul, Nat.reduceLeDiff, Nat.reduceLT, Nat.reduceEqDiff, ↓reduceIte, reduceCtorEq, Int.reduceBEq, Int.reduceBNe, Nat.reduceBEq, Int.reduceLE, Int.reduceLT, Int.reduceEq, Int.reduceNe, Int.reduceNeg, Nat.reduceDiv, Nat.reduceMod, Nat.reducePow, cast_lit, al10, bl10, cl10, gl10, hN0, hN]
  refine W_ret ?_
  try simp only [gthen, gblock]
  have h := Option.some.inj h; subst h
  refine fin_loc (.inr rfl) hU [.sl l10.length (fl e_S_api_Tree l10)] (by omega) ?_
  simp only [push_cast, Nat.reduceAdd, Nat.reduceSub, Nat.reduceMul, Nat.reduceLeDiff, Nat.reduceLT, Nat.reduceEqDiff, ↓reduceIte, reduceCtorEq, Int.reduceBEq, Int.reduceBNe, Nat.reduceBEq, Int.reduceLE, Int.reduceLT, Int.reduceEq, Int.reduceNe, Int.reduceNeg, Nat.reduceDiv, Nat.reduceMod, Nat.reducePow, cast_lit, Try.results89, hN0, hN]

theorem okb_tree_Norm {r_tree_Norm : (S_api_Tree → Option S_api_Tree)} (ok_r_tree_Norm : ∀ {a0 : S_api_Tree} {r : S_api_Tree} {O : Objs} {n : Nat}, r_tree_Norm a0 = some r → GTo Try.prog 53 [.agg [.val (.int .i64 a0.Kind), .sl a0.Words.length (fl (eI .u64) a0.Words), .sl a0.Kids.length (fl e_S_api_Tree a0.Kids)]] O n (.agg [.val (.int .i64 r.Kind), .sl r.Words.length (fl (eI .u64) r.Words), .sl r.Kids.length (fl e_S_api_Tree r.Kids)]) O n) {a0 : S_api_Tree} {r : S_api_Tree} {O : Objs} {n : Nat} (h : b_tree_Norm r_tree_Norm a0 = some r) : GTo Try.prog 53 [.agg [.val (.int .i64 a0.Kind), .sl a0.Words.length (fl (eI .u64) a0.Words), .sl a0.Kids.length (fl e_S_api_Tree a0.Kids)]] O n (.agg [.val (.int .i64 r.Kind), .sl r.Words.length (fl (eI .u64) r.Words), .sl r.Kids.length (fl e_S_api_Tree r.Kids)]) O n := by
  unfold b_tree_Norm at h
  refine fn_of tab_ok Try.call53 Try.func53 rfl (Nat.le_of_ble_eq_true rfl) (Nat.le_refl _) fun hU => ?_
  have hN0 : O n = none := hU.fresh _ (Nat.le_refl _)
  have hN : ∀ k, O (n + k) = none := fun k => hU.fresh _ (Nat.le_add_right _ _)
  show W _ _ _ _ ⟨49, [], [(0, .agg [.val (.int .i64 a0.Kind), .sl a0.Words.length (fl (eI .u64) a0.Words), .sl a0.Kids.length (fl e_S_api_Tree a0.Kids)])]⟩ (Loc O n []) _
  refine W_sq [1, 2] (W_regionD tab_ok [] ?_)
  simp only [push_cast, Nat.reduceAdd, Nat.reduceSub, Nat.reduceMul, Nat.reduceLeDiff, Nat.reduceLT, Nat.reduceEqDiff, ↓reduceIte, reduceCtorEq, Int.reduceBEq, Int.reduceBNe, Nat.reduceBEq, Int.reduceLE, Int.reduceLT, Int.reduceEq, Int.reduceNe, Int.reduceNeg, Nat.reduceDiv, Nat.reduceMod, Nat.reducePow, cast_lit, hN0, hN]
  refine W_seqK ?_
  refine W_sq [1, 2, 10] (W_regionD tab_ok [] ?_)
  simp only [push_cast, Nat.reduceAdd, Nat.reduceSub, Nat.reduceMul, Nat.reduceLeDiff, Nat.reduceLT, Nat.reduceEqDiff, ↓reduceIte, reduceCtorEq, Int.reduceBEq, Int.reduceBNe, Nat.reduceBEq, Int.reduceLE, Int.reduceLT, Int.reduceEq, Int.reduceNe, Int.reduceNeg, Nat.reduceDiv, Nat.reduceMod, Nat.reducePow, cast_lit, hN0, hN]
  refine W_cond (t := (a0.Kind == 0)) rfl (fun c15 => ?_) (fun c15 => ?_)
  · replace h := condT c15 h
    refine W_seqK ?_
    refine W_regionD tab_ok [] ?_
    simp only [push_cast, Nat.reduceAdd, Nat.reduceSub, Nat.reduceMul, Nat.reduceLeDiff, Nat.reduceLT, Nat.reduceEqDiff, ↓reduceIte, reduceCtorEq, Int.reduceBEq, Int.reduceBNe, Nat.reduceBEq, Int.reduceLE, Int.reduceLT, Int.reduceEq, Int.reduceNe, Int.reduceNeg, Nat.reduceDiv, Nat.reduceMod, Nat.reducePow, cast_lit, hN0, hN]
    refine W_fit ⟨49, [], [(2, .ref (n + 1) 0)]⟩ (Loc O n [none, some ⟨false, 25, 3, 1, [.val (.int .i64 0), .val (.slice none 0 0), .val (.slice none 0 0)]⟩]) (fit_loc hU rfl rfl ?_) ?_
    · simp only [push_cast, Nat.reduceAdd, Nat.reduceSub, Nat.reduceMul, Nat.reduceLeDiff, Nat.reduceLT, Nat.reduceEqDiff, ↓reduceIte, reduceCtorEq, Int.reduceBEq, Int.reduceBNe, Nat.reduceBEq, Int.reduceLE, Int.reduceLT, Int.reduceEq, Int.reduceNe, Int.reduceNeg, Nat.reduceDiv, Nat.reduceMod, Nat.reducePow, cast_lit, hN0, hN]
    refine W_ret ?_
    try simp only [gthen, gblock]
    have h := Option.some.inj h; subst h
    refine fin_loc (.inr rfl) hU [.agg [.val (.int .i64 0), .val (.slice none 0 0), .val (.slice none 0 0)]] (by omega) ?_
    simp only [push_cast, Nat.reduceAdd, Nat.reduceSub, Nat.reduceMul, Nat.reduceLeDiff, Nat.reduceLT, Nat.reduceEqDiff, ↓reduceIte, reduceCtorEq, Int.reduceBEq, Int.reduceBNe, Nat.reduceBEq, Int.reduceLE, Int.reduceLT, Int.reduceEq, Int.reduceNe, Int.reduceNeg, Nat.reduceDiv, Nat.reduceMod, Nat.reducePow, cast_lit, Try.results53, hN0, hN]
  · replace h := condF c15 h
    refine W_skip ?_
    try simp only [gthen, gblock]
    refine W_fit ⟨49, [], [(1, .ref n 0), (2, .ref (n + 1) 0)]⟩ (Loc O n [some ⟨false, 25, 3, 1, [.val (.int .i64 a0.Kind), .sl a0.Words.length (fl (eI .u64) a0.Words), .sl a0.Kids.length (fl e_S_api_Tree a0.Kids)]⟩, some ⟨false, 25, 3, 1, [.val (.int .i64 0), .val (.slice none 0 0), .val (.slice none 0 0)]⟩]) (fit_loc hU rfl rfl ?_) ?_
    · simp only [push_cast, Nat.reduceAdd, Nat.reduceSub, Nat.reduceMul, Nat.reduceLeDiff, Nat.reduceLT, Nat.reduceEqDiff, ↓reduceIte, reduceCtorEq, Int.reduceBEq, Int.reduceBNe, Nat.reduceBEq, Int.reduceLE, Int.reduceLT, Int.reduceEq, Int.reduceNe, Int.reduceNeg, Nat.reduceDiv, Nat.reduceMod, Nat.reducePow, cast_lit, hN0, hN]
    refine W_sq [1, 2, 3, 4] (W_drawD tab_ok (by kernel_rfl) [] (by kernel_rfl) ?_)
    simp only [push_cast, Nat.reduceAdd, Nat.reduceSub, Nat.reduceMul, Nat.reduceLeDiff, Nat.reduceLT, Nat.reduceEqDiff, ↓reduceIte, reduceCtorEq, Int.reduceBEq, Int.reduceBNe, Nat.reduceBEq, Int.reduceLE, Int.reduceLT, Int.reduceEq, Int.reduceNe, Int.reduceNeg, Nat.reduceDiv, Nat.reduceMod, Nat.reducePow, cast_lit, hN0, hN]
    obtain ⟨z1, hz1, h⟩ := bC h
    refine W_seqN (E' := ⟨49, [], [(1, .ref n 0), (2, .ref (n + 1) 0), (3, .sl z1.1.length (fl (eI .u64) z1.1)), (4, .sl z1.2.length (fl e_S_api_Tree z1.2))]⟩) (O' := (Loc O n [some ⟨false, 25, 3, 1, [.val (.int .i64 a0.Kind), .sl a0.Words.length (fl (eI .u64) a0.Words), .sl a0.Kids.length (fl e_S_api_Tree a0.Kids)]⟩, some ⟨false, 25, 3, 1, [.val (.int .i64 0), .val (.slice none 0 0), .val (.slice none 0 0)]⟩])) (n0 := (n + 2)) ?_ ?_
    · refine W_sq [1, 2, 3, 4, 18] (W_regionD tab_ok [] ?_)
      simp only [push_cast, Nat.reduceAdd, Nat.reduceSub, Nat.reduceMul, Nat.reduceLeDiff, Nat.reduceLT, Nat.reduceEqDiff, ↓reduceIte, reduceCtorEq, Int.reduceBEq, Int.reduceBNe, Nat.reduceBEq, Int.reduceLE, Int.reduceLT, Int.reduceEq, Int.reduceNe, Int.reduceNeg, Nat.reduceDiv, Nat.reduceMod, Nat.reducePow, cast_lit, hN0, hN]
      refine W_cond (t := (a0.Kind == 1)) rfl (fun c4 => ?_) (fun c4 => ?_)
      · replace hz1 := condT c4 hz1
        obtain ⟨y2, hy2, hz1⟩ := bC hz1
        obtain ⟨y3, hy3, hz1⟩ := bC hz1
        refine W_regionD tab_ok [] ?_
        simp only [push_cast, Nat.reduceAdd, Nat.reduceSub, Nat.reduceMul, Nat.reduceLeDiff, Nat.reduceLT, Nat.reduceEqDiff, ↓reduceIte, reduceCtorEq, Int.reduceBEq, Int.reduceBNe, Nat.reduceBEq, Int.reduceLE, Int.reduceLT, Int.reduceEq, Int.reduceNe, Int.reduceNeg, Nat.reduceDiv, Nat.reduceMod, Nat.reducePow, cast_lit, hN0, hN]
        refine (ok_tree_trimWords hy2).then ?_
        simp only [push_cast, Nat.reduceAdd, Nat.reduceSub, Nat.reduceMul, Nat.reduceLeDiff, Nat.reduceLT, Nat.reduceEqDiff, ↓reduceIte, reduceCtorEq, Int.reduceBEq, Int.reduceBNe, Nat.reduceBEq, Int.reduceLE, Int.reduceLT, Int.reduceEq, Int.reduceNe, Int.reduceNeg, Nat.reduceDiv, Nat.reduceMod, Nat.reducePow, cast_lit, hN0, hN]
        refine (ok_tree_trimKids hy3).then ?_
        simp only [push_cast, Nat.reduceAdd, Nat.reduceSub, Nat.reduceMul, Nat.reduceLeDiff, Nat.reduceLT, Nat.reduceEqDiff, ↓reduceIte, reduceCtorEq, Int.reduceBEq, Int.reduceBNe, Nat.reduceBEq, Int.reduceLE, Int.reduceLT, Int.reduceEq, Int.reduceNe, Int.reduceNeg, Nat.reduceDiv, Nat.reduceMod, Nat.reducePow, cast_lit, hN0, hN]
        have hz1 := Option.some.inj hz1; subst hz1
        refine And.intro rfl (Fit2.of (fit_loc hU rfl rfl ?_) (by omega))
        simp only [push_cast, Nat.reduceAdd, Nat.reduceSub, Nat.reduceMul, Nat.reduceLeDiff, Nat.reduceLT, Nat.reduceEqDiff, ↓reduceIte, reduceCtorEq, Int.reduceBEq, Int.reduceBNe, Nat.reduceBEq, Int.reduceLE, Int.reduceLT, Int.reduceEq, Int.reduceNe, Int.reduceNeg, Nat.reduceDiv, Nat.reduceMod, Nat.reducePow, cast_lit, hN0, hN]
      · replace hz1 := condF c4 hz1
        refine W_skip ?_
        try simp only [gthen, gblock]
        have hz1 := Option.some.inj hz1; subst hz1
        refine And.intro rfl (Fit2.of (fit_loc hU rfl rfl ?_) (by omega))
        simp only [push_cast, Nat.reduceAdd, Nat.reduceSub, Nat.reduceMul, Nat.reduceLeDiff, Nat.reduceLT, Nat.reduceEqDiff, ↓reduceIte, reduceCtorEq, Int.reduceBEq, Int.reduceBNe, Nat.reduceBEq, Int.reduceLE, Int.reduceLT, Int.reduceEq, Int.reduceNe, Int.reduceNeg, Nat.reduceDiv, Nat.reduceMod, Nat.reducePow, cast_lit, hN0, hN]
    refine W_seqK ?_
    refine W_regionD tab_ok [] ?_
    simp only [push_cast, Nat.reduceAdd, Nat.reduceSub, Nat.reduceMul, Nat.reduceLeDiff, Nat.reduceLT, Nat.reduceEqDiff, ↓reduceIte, reduceCtorEq, Int.reduceBEq, Int.reduceBNe, Nat.reduceBEq, Int.reduceLE, Int.reduceLT, Int.reduceEq, Int.reduceNe, Int.reduceNeg, Nat.reduceDiv, Nat.reduceMod, Nat.reducePow, cast_lit, hN0, hN]
    refine W_fit ⟨49, [], [(2, .ref (n + 1) 0), (4, .sl z1.2.length (fl e_S_api_Tree z1.2)), (5, .ref (n + 2) 0)]⟩ (Loc O n [none, some ⟨false, 25, 3, 1, [.val (.int .i64 0), .val (.slice none 0 0), .val (.slice none 0 0)]⟩, some ⟨false, 25, 3, 1, [.val (.int .i64 a0.Kind), .sl z1.1.length (fl (eI .u64) z1.1), .val (.slice none 0 0)]⟩]) (fit_loc hU rfl rfl ?_) ?_
    · simp only [push_cast, Nat.reduceAdd, Nat.reduceSub, Nat.reduceMul, Nat.reduceLeDiff, Nat.reduceLT, Nat.reduceEqDiff, ↓reduceIte, reduceCtorEq, Int.reduceBEq, Int.reduceBNe, Nat.reduceBEq, Int.reduceLE, Int.reduceLT, Int.reduceEq, Int.reduceNe, Int.reduceNeg, Nat.reduceDiv, Nat.reduceMod, Nat.reducePow, cast_lit, hN0, hN]
    obtain ⟨z5, hz5, h⟩ := bC h
    refine W_seqN (E' := ⟨49, [], [(2, .ref (n + 1) 0), (4, .sl z1.2.length (fl e_S_api_Tree z1.2)), (5, .ref (n + 2) 0)]⟩) (O' := (Loc O n [none, some ⟨false, 25, 3, 1, [.val (.int .i64 0), .val (.slice none 0 0), .val (.slice none 0 0)]⟩, some ⟨false, 25, 3, 1, [.val (.int .i64 a0.Kind), .sl z1.1.length (fl (eI .u64) z1.1), .row (n + 4) z5.length]⟩, none, some ⟨true, 25, 3, z5.length, fl e_S_api_Tree z5⟩, none])) (n0 := (n + 6)) ?_ ?_
    · refine W_sq [2, 4, 5, 29] (W_regionD tab_ok [] ?_)
      simp only [push_cast, Nat.reduceAdd, Nat.reduceSub, Nat.reduceMul, Nat.reduceLeDiff, Nat.reduceLT, Nat.reduceEqDiff, ↓reduceIte, reduceCtorEq, Int.reduceBEq, Int.reduceBNe, Nat.reduceBEq, Int.reduceLE, Int.reduceLT, Int.reduceEq, Int.reduceNe, Int.reduceNeg, Nat.reduceDiv, Nat.reduceMod, Nat.reducePow, cast_lit, hN0, hN]
      refine W_cond (t := (decide (0 < (z1.2.length : Int)))) rfl (fun c7 => ?_) (fun c7 => ?_)
      · replace hz5 := condT c7 hz5
        obtain ⟨l6, al6, bl6, cl6, el6, hz5⟩ := bM2 (c := 56) rfl hz5
        have nl6 : Int.toNat (z1.2.length : Int) = List.length l6 := by rw [el6, List.length_replicate]
        have fl6 : ∀ O O' n, wkl O O' n (List.replicate (List.length l6) [.val (.int .i64 0), .val (.slice none 0 0), .val (.slice none 0 0)]).flatten (fl e_S_api_Tree l6) = True := fun O O' n => by rw [← nl6, el6]; exact eq_true (wkl_repl (by simp only [push_cast, Nat.reduceAdd, Nat.reduceSub, Nat.reduceMul, Nat.reduceLeDiff, Nat.reduceLT, Nat.reduceEqDiff, ↓reduceIte, reduceCtorEq, Int.reduceBEq, Int.reduceBNe, Nat.reduceBEq, Int.reduceLE, Int.reduceLT, Int.reduceEq, Int.reduceNe, Int.reduceNeg, Nat.reduceDiv, Nat.reduceMod, Nat.reducePow, cast_lit]) _)
        clear el6
        refine W_regionD tab_ok [] ?_
        simp only [push_cast, Nat.reduceAdd, Nat.reduceSub, Nat.reduceMul, Nat.reduceLeDiff, Nat.reduceLT, Nat.reduceEqDiff, ↓reduceIte, reduceCtorEq, Int.reduceBEq, Int.reduceBNe, Nat.reduceBEq, Int.reduceLE, Int.reduceLT, Int.reduceEq, Int.reduceNe, Int.reduceNeg, Nat.reduceDiv, Nat.reduceMod, Nat.reducePow, cast_lit, al6, bl6, cl6, fl6, nl6, hN0, hN]
        have hz5 := Option.some.inj hz5; subst hz5
        refine And.intro rfl ?_
        refine Fit2.trans (E' := (⟨49, [], [(2, .ref (n + 1) 0), (4, .sl z1.2.length (fl e_S_api_Tree z1.2)), (5, .ref (n + 2) 0)]⟩ : Env)) (O' := (Loc O n [none, some ⟨false, 25, 3, 1, [.val (.int .i64 0), .val (.slice none 0 0), .val (.slice none 0 0)]⟩, some ⟨false, 25, 3, 1, [.val (.int .i64 a0.Kind), .sl z1.1.length (fl (eI .u64) z1.1), .row (n + 3) l6.length]⟩, some ⟨true, 25, 3, l6.length, fl e_S_api_Tree l6⟩])) (n' := (n + 4)) (Fit2.of (fit_loc hU rfl rfl ?_) (by omega)) ?_
        · simp only [push_cast, Nat.reduceAdd, Nat.reduceSub, Nat.reduceMul, Nat.reduceLeDiff, Nat.reduceLT, Nat.reduceEqDiff, ↓reduceIte, reduceCtorEq, Int.reduceBEq, Int.reduceBNe, Nat.reduceBEq, Int.reduceLE, Int.reduceLT, Int.reduceEq, Int.reduceNe, Int.reduceNeg, Nat.reduceDiv, Nat.reduceMod, Nat.reducePow, cast_lit, al6, bl6, cl6, fl6, nl6, hN0, hN]
        refine ren_fit (k := 4) (k' := 6) hU [5, 1, 2, 4] [0, 1, 2, 0, 3, 0] rfl rfl rfl rfl ⟨rfl, rfl⟩ ?_
        simp only [push_cast, Nat.reduceAdd, Nat.reduceSub, Nat.reduceMul, Nat.reduceLeDiff, Nat.reduceLT, Nat.reduceEqDiff, ↓reduceIte, reduceCtorEq, Int.reduceBEq, Int.reduceBNe, Nat.reduceBEq, Int.reduceLE, Int.reduceLT, Int.reduceEq, Int.reduceNe, Int.reduceNeg, Nat.reduceDiv, Nat.reduceMod, Nat.reducePow, cast_lit, hN0, hN]
      · replace hz5 := condF c7 hz5
        refine W_skip ?_
        try simp only [gthen, gblock]
        have hz5 := Option.some.inj hz5; subst hz5
        refine And.intro rfl ?_
        refine Fit2.trans (E' := (⟨49, [], [(2, .ref (n + 1) 0), (4, .sl z1.2.length (fl e_S_api_Tree z1.2)), (5, .ref (n + 2) 0)]⟩ : Env)) (O' := (Loc O n [none, some ⟨false, 25, 3, 1, [.val (.int .i64 0), .val (.slice none 0 0), .val (.slice none 0 0)]⟩, some ⟨false, 25, 3, 1, [.val (.int .i64 a0.Kind), .sl z1.1.length (fl (eI .u64) z1.1), .val (.slice none 0 0)]⟩])) (n' := (n + 3)) (Fit2.of (fit_loc hU rfl rfl ?_) (by omega)) ?_
        · simp only [push_cast, Nat.reduceAdd, Nat.reduceSub, Nat.reduceMul, Nat.reduceLeDiff, Nat.reduceLT, Nat.reduceEqDiff, ↓reduceIte, reduceCtorEq, Int.reduceBEq, Int.reduceBNe, Nat.reduceBEq, Int.reduceLE, Int.reduceLT, Int.reduceEq, Int.reduceNe, Int.reduceNeg, Nat.reduceDiv, Nat.reduceMod, Nat.reducePow, cast_lit, hN0, hN]
        refine Fit2.trans (E' := (⟨49, [], [(2, .ref (n + 1) 0), (4, .sl z1.2.length (fl e_S_api_Tree z1.2)), (5, .ref (n + 2) 0)]⟩ : Env)) (O' := (Loc O n [none, some ⟨false, 25, 3, 1, [.val (.int .i64 0), .val (.slice none 0 0), .val (.slice none 0 0)]⟩, some ⟨false, 25, 3, 1, [.val (.int .i64 a0.Kind), .sl z1.1.length (fl (eI .u64) z1.1), .row (n + 3) 0]⟩, some ⟨true, 25, 3, 0, []⟩])) (n' := (n + 4)) ?_ ?_
        · have ha := adoptF_fit (ba := n) (E := (⟨49, [], [(2, .ref (n + 1) 0), (4, .sl z1.2.length (fl e_S_api_Tree z1.2)), (5, .ref (n + 2) 0)]⟩ : Env)) (O := (Loc O n [none, some ⟨false, 25, 3, 1, [.val (.int .i64 0), .val (.slice none 0 0), .val (.slice none 0 0)]⟩, some ⟨false, 25, 3, 1, [.val (.int .i64 a0.Kind), .sl z1.1.length (fl (eI .u64) z1.1), .val (.slice none 0 0)]⟩])) (n := (n + 3)) (p := (n + 2)) (k := 2) (q := ⟨false, 25, 3, 1, [.val (.int .i64 a0.Kind), .sl z1.1.length (fl (eI .u64) z1.1), .val (.slice none 0 0)]⟩) 25 3 (by simp only [Loc_at, Loc_at0, List.getElem?_cons_zero, List.getElem?_cons_succ, Option.join_some, upd_same]) rfl (by omega)
          simp only [Loc_push, Loc_push0, Loc_upd, Loc_upd0, List.set_cons_zero, List.set_cons_succ, List.cons_append, List.nil_append, List.length_cons, List.length_nil, Nat.zero_add, Nat.reduceAdd, Nat.reduceLT, Nat.add_assoc] at ha
          exact ha
        refine Fit2.trans (E' := (⟨49, [], [(2, .ref (n + 1) 0), (4, .sl z1.2.length (fl e_S_api_Tree z1.2)), (5, .ref (n + 2) 0)]⟩ : Env)) (O' := (Loc O n [none, some ⟨false, 25, 3, 1, [.val (.int .i64 0), .val (.slice none 0 0), .val (.slice none 0 0)]⟩, some ⟨false, 25, 3, 1, [.val (.int .i64 a0.Kind), .sl z1.1.length (fl (eI .u64) z1.1), .row (n + 3) ([] : List S_api_Tree).length]⟩, some ⟨true, 25, 3, ([] : List S_api_Tree).length, fl e_S_api_Tree ([] : List S_api_Tree)⟩])) (n' := (n + 4)) (Fit2.of (fit_loc hU rfl rfl ?_) (by omega)) ?_
        · simp only [push_cast, Nat.reduceAdd, Nat.reduceSub, Nat.reduceMul, Nat.reduceLeDiff, Nat.reduceLT, Nat.reduceEqDiff, ↓reduceIte, reduceCtorEq, Int.reduceBEq, Int.reduceBNe, Nat.reduceBEq, Int.reduceLE, Int.reduceLT, Int.reduceEq, Int.reduceNe, Int.reduceNeg, Nat.reduceDiv, Nat.reduceMod, Nat.reducePow, cast_lit, hN0, hN]
        refine ren_fit (k := 4) (k' := 6) hU [5, 1, 2, 4] [0, 1, 2, 0, 3, 0] rfl rfl rfl rfl ⟨rfl, rfl⟩ ?_
        simp only [push_cast, Nat.reduceAdd, Nat.reduceSub, Nat.reduceMul, Nat.reduceLeDiff, Nat.reduceLT, Nat.reduceEqDiff, ↓reduceIte, reduceCtorEq, Int.reduceBEq, Int.reduceBNe, Nat.reduceBEq, Int.reduceLE, Int.reduceLT, Int.reduceEq, Int.reduceNe, Int.reduceNeg, Nat.reduceDiv, Nat.reduceMod, Nat.reducePow, cast_lit, hN0, hN]
    refine W_seqK ?_
    refine W_sq [2, 5, 34, 35, 36] (W_regionD tab_ok [] ?_)
    simp only [push_cast, Nat.reduceAdd, Nat.reduceSub, Nat.reduceMul, Nat.reduceLeDiff, Nat.reduceLT, Nat.reduceEqDiff, ↓reduceIte, reduceCtorEq, Int.reduceBEq, Int.reduceBNe, Nat.reduceBEq, Int.reduceLE, Int.reduceLT, Int.reduceEq, Int.reduceNe, Int.reduceNeg, Nat.reduceDiv, Nat.reduceMod, Nat.reducePow, cast_lit, hN0, hN]
    refine W_fit ⟨49, [], [(2, .ref (n + 1) 0), (5, .ref (n + 2) 0), (34, .sl z1.2.length (fl e_S_api_Tree z1.2)), (35, .val (.int .i64 (z1.2.length : Int))), (36, .val (.int .i64 0))]⟩ (Loc O n [none, some ⟨false, 25, 3, 1, [.val (.int .i64 0), .val (.slice none 0 0), .val (.slice none 0 0)]⟩, some ⟨false, 25, 3, 1, [.val (.int .i64 a0.Kind), .sl z1.1.length (fl (eI .u64) z1.1), .row (n + 4) z5.length]⟩, none, some ⟨true, 25, 3, z5.length, fl e_S_api_Tree z5⟩, none]) (fit_loc hU rfl rfl ?_) ?_
    · simp only [push_cast, Nat.reduceAdd, Nat.reduceSub, Nat.reduceMul, Nat.reduceLeDiff, Nat.reduceLT, Nat.reduceEqDiff, ↓reduceIte, reduceCtorEq, Int.reduceBEq, Int.reduceBNe, Nat.reduceBEq, Int.reduceLE, Int.reduceLT, Int.reduceEq, Int.reduceNe, Int.reduceNeg, Nat.reduceDiv, Nat.reduceMod, Nat.reducePow, cast_lit, hN0, hN]
    obtain ⟨z14, hz14, h⟩ := bC h
    refine W_blockX (E' := ⟨49, [], [(2, .ref (n + 1) 0), (5, .ref (n + 2) 0)]⟩) (O' := (Loc O n [none, some ⟨false, 25, 3, 1, [.val (.int .i64 0), .val (.slice none 0 0), .val (.slice none 0 0)]⟩, some ⟨false, 25, 3, 1, [.val (.int .i64 a0.Kind), .sl z1.1.length (fl (eI .u64) z1.1), .row (n + 4) z14.length]⟩, none, some ⟨true, 25, 3, z14.length, fl e_S_api_Tree z14⟩, none])) (n0 := (n + 6)) ?_ ?_
    · refine W_loopJ hz14 (fun s0_ => ⟨49, [], [(2, .ref (n + 1) 0), (5, .ref (n + 2) 0), (34, .sl z1.2.length (fl e_S_api_Tree z1.2)), (35, .val (.int .i64 (z1.2.length : Int))), (36, .val (.int .i64 s0_.1))]⟩) (fun s0_ => (Loc O n [none, some ⟨false, 25, 3, 1, [.val (.int .i64 0), .val (.slice none 0 0), .val (.slice none 0 0)]⟩, some ⟨false, 25, 3, 1, [.val (.int .i64 a0.Kind), .sl z1.1.length (fl (eI .u64) z1.1), .row (n + 4) s0_.2.length]⟩, none, some ⟨true, 25, 3, s0_.2.length, fl e_S_api_Tree s0_.2⟩, none])) (fun z14 => JX 0 n (⟨49, [], [(2, .ref (n + 1) 0), (5, .ref (n + 2) 0)]⟩ : Env) (Loc O n [none, some ⟨false, 25, 3, 1, [.val (.int .i64 0), .val (.slice none 0 0), .val (.slice none 0 0)]⟩, some ⟨false, 25, 3, 1, [.val (.int .i64 a0.Kind), .sl z1.1.length (fl (eI .u64) z1.1), .row (n + 4) z14.length]⟩, none, some ⟨true, 25, 3, z14.length, fl e_S_api_Tree z14⟩, none]) (n + 6)) ?_
      intro s0_ x0_ hs0_
      unfold b_tree_Norm_L0 at hs0_
      try dsimp only
      refine W_sq [2, 5, 34, 35, 36, 37] (W_regionD tab_ok [] ?_)
      simp only [push_cast, Nat.reduceAdd, Nat.reduceSub, Nat.reduceMul, Nat.reduceLeDiff, Nat.reduceLT, Nat.reduceEqDiff, ↓reduceIte, reduceCtorEq, Int.reduceBEq, Int.reduceBNe, Nat.reduceBEq, Int.reduceLE, Int.reduceLT, Int.reduceEq, Int.reduceNe, Int.reduceNeg, Nat.reduceDiv, Nat.reduceMod, Nat.reducePow, cast_lit, hN0, hN]
      refine W_seqK ?_
      refine W_cond (t := (decide (s0_.1 < (z1.2.length : Int)))) rfl (fun c13 => ?_) (fun c13 => ?_)
      · replace hs0_ := condT c13 hs0_
        refine W_skip ?_
        try simp only [gthen, gblock]
        refine W_fit ⟨49, [], [(2, .ref (n + 1) 0), (5, .ref (n + 2) 0), (34, .sl z1.2.length (fl e_S_api_Tree z1.2)), (35, .val (.int .i64 (z1.2.length : Int))), (36, .val (.int .i64 s0_.1))]⟩ (Loc O n [none, some ⟨false, 25, 3, 1, [.val (.int .i64 0), .val (.slice none 0 0), .val (.slice none 0 0)]⟩, some ⟨false, 25, 3, 1, [.val (.int .i64 a0.Kind), .sl z1.1.length (fl (eI .u64) z1.1), .row (n + 4) s0_.2.length]⟩, none, some ⟨true, 25, 3, s0_.2.length, fl e_S_api_Tree s0_.2⟩, none]) (fit_loc hU rfl rfl ?_) ?_
        · simp only [push_cast, Nat.reduceAdd, Nat.reduceSub, Nat.reduceMul, Nat.reduceLeDiff, Nat.reduceLT, Nat.reduceEqDiff, ↓reduceIte, reduceCtorEq, Int.reduceBEq, Int.reduceBNe, Nat.reduceBEq, Int.reduceLE, Int.reduceLT, Int.reduceEq, Int.reduceNe, Int.reduceNeg, Nat.reduceDiv, Nat.reduceMod, Nat.reducePow, cast_lit, hN0, hN]
        refine W_seqK ?_
        refine W_block ?_
        refine W_seqK ?_
        obtain ⟨x9, hx9, ax9, bx9, cx9, hs0_⟩ := bE (f := e_S_api_Tree) tab25 (fun _ => rfl) (by decide) hs0_
        refine W_regionD tab_ok [] ?_
        simp only [push_cast, Nat.reduceAdd, Nat.reduceSub, Nat.reduceMul, Nat.reduceLeDiff, Nat.reduceLT, Nat.reduceEqDiff, ↓reduceIte, reduceCtorEq, Int.reduceBEq, Int.reduceBNe, Nat.reduceBEq, Int.reduceLE, Int.reduceLT, Int.reduceEq, Int.reduceNe, Int.reduceNeg, Nat.reduceDiv, Nat.reduceMod, Nat.reducePow, cast_lit, ax9, bx9, cx9, hN0, hN]
        refine W_fit ⟨49, [], [(2, .ref (n + 1) 0), (5, .ref (n + 2) 0), (6, .val (.int .i64 s0_.1)), (7, .ref (n + 6) 0), (34, .sl z1.2.length (fl e_S_api_Tree z1.2)), (35, .val (.int .i64 (z1.2.length : Int))), (36, .val (.int .i64 s0_.1))]⟩ (Loc O n [none, some ⟨false, 25, 3, 1, [.val (.int .i64 0), .val (.slice none 0 0), .val (.slice none 0 0)]⟩, some ⟨false, 25, 3, 1, [.val (.int .i64 a0.Kind), .sl z1.1.length (fl (eI .u64) z1.1), .row (n + 4) s0_.2.length]⟩, none, some ⟨true, 25, 3, s0_.2.length, fl e_S_api_Tree s0_.2⟩, none, some ⟨false, 25, 3, 1, [.val (.int .i64 x9.Kind), .sl x9.Words.length (fl (eI .u64) x9.Words), .sl x9.Kids.length (fl e_S_api_Tree x9.Kids)]⟩]) (fit_loc hU rfl rfl ?_) ?_
        · simp only [push_cast, Nat.reduceAdd, Nat.reduceSub, Nat.reduceMul, Nat.reduceLeDiff, Nat.reduceLT, Nat.reduceEqDiff, ↓reduceIte, reduceCtorEq, Int.reduceBEq, Int.reduceBNe, Nat.reduceBEq, Int.reduceLE, Int.reduceLT, Int.reduceEq, Int.reduceNe, Int.reduceNeg, Nat.reduceDiv, Nat.reduceMod, Nat.reducePow, cast_lit, ax9, bx9, cx9, hN0, hN]
        obtain ⟨y10, hy10, hs0_⟩ := bC hs0_
        obtain ⟨x11, hx11, ax11, bx11, cx11, hs0_⟩ := bE (f := e_S_api_Tree) tab25 (fun _ => rfl) (by decide) hs0_
        have gu12 : gplace (fl e_S_api_Tree s0_.2) [.val (.int .i64 y10.Kind), .sl y10.Words.length (fl (eI .u64) y10.Words), .sl y10.Kids.length (fl e_S_api_Tree y10.Kids)] (Int.toNat s0_.1 * 3) = some (fl e_S_api_Tree (setI s0_.2 s0_.1 y10)) := (congrArg (fun c => gplace (fl e_S_api_Tree s0_.2) c (Int.toNat s0_.1 * 3)) (show [.val (.int .i64 y10.Kind), .sl y10.Words.length (fl (eI .u64) y10.Words), .sl y10.Kids.length (fl e_S_api_Tree y10.Kids)] = e_S_api_Tree y10 from by simp only [e_S_api_Tree, e0_eq_S_api_Tree, eI, eB, eS, eL])).trans (gplace_el (f := e_S_api_Tree) (ti := ⟨.bool, 3, 0, [], false⟩) (x := y10) (fun _ => rfl) (getI_nat hx11))
        refine W_drawF tab_ok (by kernel_rfl) [false, false, false, false, false, false, true] [] (by kernel_rfl) ?_
        simp only [push_cast, Nat.reduceAdd, Nat.reduceSub, Nat.reduceMul, Nat.reduceLeDiff, Nat.reduceLT, Nat.reduceEqDiff, ↓reduceIte, reduceCtorEq, Int.reduceBEq, Int.reduceBNe, Nat.reduceBEq, Int.reduceLE, Int.reduceLT, Int.reduceEq, Int.reduceNe, Int.reduceNeg, Nat.reduceDiv, Nat.reduceMod, Nat.reducePow, cast_lit, ax11, bx11, cx11, gu12, hN0, hN]
        refine PCall.of (ok_r_tree_Norm hy10) ?_
        simp only [push_cast, Nat.reduceAdd, Nat.reduceSub, Nat.reduceMul, Nat.reduceLeDiff, Nat.reduceLT, Nat.reduceEqDiff, ↓reduceIte, reduceCtorEq, Int.reduceBEq, Int.reduceBNe, Nat.reduceBEq, Int.reduceLE, Int.reduceLT, Int.reduceEq, Int.reduceNe, Int.reduceNeg, Nat.reduceDiv, Nat.reduceMod, Nat.reducePow, cast_lit, ax11, bx11, cx11, gu12, hN0, hN]
        refine W_fit ⟨49, [], [(2, .ref (n + 1) 0), (5, .ref (n + 2) 0), (34, .sl z1.2.length (fl e_S_api_Tree z1.2)), (35, .val (.int .i64 (z1.2.length : Int))), (36, .val (.int .i64 s0_.1))]⟩ (Loc O n [none, some ⟨false, 25, 3, 1, [.val (.int .i64 0), .val (.slice none 0 0), .val (.slice none 0 0)]⟩, some ⟨false, 25, 3, 1, [.val (.int .i64 a0.Kind), .sl z1.1.length (fl (eI .u64) z1.1), .row (n + 4) (setI s0_.2 s0_.1 y10).length]⟩, none, some ⟨true, 25, 3, (setI s0_.2 s0_.1 y10).length, fl e_S_api_Tree (setI s0_.2 s0_.1 y10)⟩, none, none]) (fit_loc hU rfl rfl ?_) ?_
        · simp only [push_cast, Nat.reduceAdd, Nat.reduceSub, Nat.reduceMul, Nat.reduceLeDiff, Nat.reduceLT, Nat.reduceEqDiff, ↓reduceIte, reduceCtorEq, Int.reduceBEq, Int.reduceBNe, Nat.reduceBEq, Int.reduceLE, Int.reduceLT, Int.reduceEq, Int.reduceNe, Int.reduceNeg, Nat.reduceDiv, Nat.reduceMod, Nat.reducePow, cast_lit, ax11, bx11, cx11, gu12, hN0, hN]
        refine W_regionD tab_ok [] ?_
        simp only [push_cast, Nat.reduceAdd, Nat.reduceSub, Nat.reduceMul, Nat.reduceLeDiff, Nat.reduceLT, Nat.reduceEqDiff, ↓reduceIte, reduceCtorEq, Int.reduceBEq, Int.reduceBNe, Nat.reduceBEq, Int.reduceLE, Int.reduceLT, Int.reduceEq, Int.reduceNe, Int.reduceNeg, Nat.reduceDiv, Nat.reduceMod, Nat.reducePow, cast_lit, hN0, hN]
        have hs0_ := Option.some.inj hs0_; subst hs0_
        refine And.intro rfl (Fit2.of (fit_loc hU rfl rfl ?_) (by omega))
        simp only [push_cast, Nat.reduceAdd, Nat.reduceSub, Nat.reduceMul, Nat.reduceLeDiff, Nat.reduceLT, Nat.reduceEqDiff, ↓reduceIte, reduceCtorEq, Int.reduceBEq, Int.reduceBNe, Nat.reduceBEq, Int.reduceLE, Int.reduceLT, Int.reduceEq, Int.reduceNe, Int.reduceNeg, Nat.reduceDiv, Nat.reduceMod, Nat.reducePow, cast_lit, hN0, hN]
      · replace hs0_ := condF c13 hs0_
        refine W_exit ?_
        try simp only [gthen, gblock, ↓reduceIte, Nat.reduceEqDiff]
        have hs0_ := Option.some.inj hs0_; subst hs0_
        refine And.intro (fun h => by cases h) (And.intro rfl (Fit2.of (fit_loc hU rfl rfl ?_) (by omega)))
        simp only [push_cast, Nat.reduceAdd, Nat.reduceSub, Nat.reduceMul, Nat.reduceLeDiff, Nat.reduceLT, Nat.reduceEqDiff, ↓reduceIte, reduceCtorEq, Int.reduceBEq, Int.reduceBNe, Nat.reduceBEq, Int.reduceLE, Int.reduceLT, Int.reduceEq, Int.reduceNe, Int.reduceNeg, Nat.reduceDiv, Nat.reduceMod, Nat.reducePow, cast_lit, hN0, hN]
    try simp only [gthen, gblock, ↓reduceIte, Nat.reduceEqDiff]
    refine W_fit ⟨49, [], [(2, .ref (n + 1) 0), (5, .ref (n + 2) 0)]⟩ (Loc O n [none, some ⟨false, 25, 3, 1, [.val (.int .i64 0), .val (.slice none 0 0), .val (.slice none 0 0)]⟩, some ⟨false, 25, 3, 1, [.val (.int .i64 a0.Kind), .sl z1.1.length (fl (eI .u64) z1.1), .row (n + 4) z14.length]⟩, none, some ⟨true, 25, 3, z14.length, fl e_S_api_Tree z14⟩, none]) (fit_loc hU rfl rfl ?_) ?_
    · simp only [push_cast, Nat.reduceAdd, Nat.reduceSub, Nat.reduceMul, Nat.reduceLeDiff, Nat.reduceLT, Nat.reduceEqDiff, ↓reduceIte, reduceCtorEq, Int.reduceBEq, Int.reduceBNe, Nat.reduceBEq, Int.reduceLE, Int.reduceLT, Int.reduceEq, Int.reduceNe, Int.reduceNeg, Nat.reduceDiv, Nat.reduceMod, Nat.reducePow, cast_lit, hN0, hN]
    refine W_seqK ?_
    refine W_regionD tab_ok [] ?_
    simp only [push_cast, Nat.reduceAdd, Nat.reduceSub, Nat.reduceMul, Nat.reduceLeDiff, Nat.reduceLT, Nat.reduceEqDiff, ↓reduceIte, reduceCtorEq, Int.reduceBEq, Int.reduceBNe, Nat.reduceBEq, Int.reduceLE, Int.reduceLT, Int.reduceEq, Int.reduceNe, Int.reduceNeg, Nat.reduceDiv, Nat.reduceMod, Nat.reducePow, cast_lit, hN0, hN]
    refine W_fit ⟨49, [], [(2, .ref (n + 1) 0)]⟩ (Loc O n [none, some ⟨false, 25, 3, 1, [.val (.int .i64 a0.Kind), .sl z1.1.length (fl (eI .u64) z1.1), .row (n + 4) z14.length]⟩, none, none, some ⟨true, 25, 3, z14.length, fl e_S_api_Tree z14⟩, none]) (fit_loc hU rfl rfl ?_) ?_
    · simp only [push_cast, Nat.reduceAdd, Nat.reduceSub, Nat.reduceMul, Nat.reduceLeDiff, Nat.reduceLT, Nat.reduceEqDiff, ↓reduceIte, reduceCtorEq, Int.reduceBEq, Int.reduceBNe, Nat.reduceBEq, Int.reduceLE, Int.reduceLT, Int.reduceEq, Int.reduceNe, Int.reduceNeg, Nat.reduceDiv, Nat.reduceMod, Nat.reducePow, cast_lit, hN0, hN]
    refine W_ret ?_
    try simp only [gthen, gblock]
    have h := Option.some.inj h; subst h
    refine fin_loc (.inr rfl) hU [.agg [.val (.int .i64 a0.Kind), .sl z1.1.length (fl (eI .u64) z1.1), .row (n + 4) z14.length]] (by omega) ?_
    simp only [push_cast, Nat.reduceAdd, Nat.reduceSub, Nat.reduceMul, Nat.reduceLeDiff, Nat.reduceLT, Nat.reduceEqDiff, ↓reduceIte, reduceCtorEq, Int.reduceBEq, Int.reduceBNe, Nat.reduceBEq, Int.reduceLE, Int.reduceLT, Int.reduceEq, Int.reduceNe, Int.reduceNeg, Nat.reduceDiv, Nat.reduceMod, Nat.reducePow, cast_lit, Try.results53, hN0, hN]

theorem lv_tree_Norm_ok : ∀ k, (∀ {a0 : S_api_Tree} {r : S_api_Tree} {O : Objs} {n : Nat}, (lv_tree_Norm k) a0 = some r → GTo Try.prog 53 [.agg [.val (.int .i64 a0.Kind), .sl a0.Words.length (fl (eI .u64) a0.Words), .sl a0.Kids.length (fl e_S_api_Tree a0.Kids)]] O n (.agg [.val (.int .i64 r.Kind), .sl r.Words.length (fl (eI .u64) r.Words), .sl r.Kids.length (fl e_S_api_Tree r.Kids)]) O n) := fun k => by
  induction k with
  | zero => exact @fun a0 r O n h => (nomatch (show (none : Option _) = some _ from h))
  | succ k ih => exact @fun a0 r O n h => okb_tree_Norm (ih)  h

theorem ok_tree_Norm {a0 : S_api_Tree} {r : S_api_Tree} {O : Objs} {n : Nat} (h : m_tree_Norm a0 = some r) : GTo Try.prog 53 [.agg [.val (.int .i64 a0.Kind), .sl a0.Words.length (fl (eI .u64) a0.Words), .sl a0.Kids.length (fl e_S_api_Tree a0.Kids)]] O n (.agg [.val (.int .i64 r.Kind), .sl r.Words.length (fl (eI .u64) r.Words), .sl r.Kids.length (fl e_S_api_Tree r.Kids)]) O n := by
  obtain ⟨k, hk⟩ := lim_some h
  exact (lv_tree_Norm_ok k)  hk

theorem ok_path_Get {a0 : S_api_Tree} {a1 : (List S_api_Step)} {r : (S_api_Tree × Bool)} {O : Objs} {n : Nat} (h : m_path_Get a0 a1 = some r) : GTo Try.prog 44 [.agg [.val (.int .i64 a0.Kind), .sl a0.Words.length (fl (eI .u64) a0.Words), .sl a0.Kids.length (fl e_S_api_Tree a0.Kids)], .sl a1.length (fl e_S_api_Step a1)] O n (.tup [.agg [.val (.int .i64 r.1.Kind), .sl r.1.Words.length (fl (eI .u64) r.1.Words), .sl r.1.Kids.length (fl e_S_api_Tree r.1.Kids)], .val (.bool r.2)]) O n := by
  unfold m_path_Get at h
  refine fn_of tab_ok Try.call44 Try.func44 rfl (Nat.le_of_ble_eq_true rfl) (Nat.le_refl _) fun hU => ?_
  have hN0 : O n = none := hU.fresh _ (Nat.le_refl _)
  have hN : ∀ k, O (n + k) = none := fun k => hU.fresh _ (Nat.le_add_right _ _)
  show W _ _ _ _ ⟨42, [], [(0, .agg [.val (.int .i64 a0.Kind), .sl a0.Words.length (fl (eI .u64) a0.Words), .sl a0.Kids.length (fl e_S_api_Tree a0.Kids)]), (1, .sl a1.length (fl e_S_api_Step a1))]⟩ (Loc O n []) _
  refine W_sq [1, 2, 4] (W_regionD tab_ok [] ?_)
  simp only [push_cast, Nat.reduceAdd, Nat.reduceSub, Nat.reduceMul, Nat.reduceLeDiff, Nat.reduceLT, Nat.reduceEqDiff, ↓reduceIte, reduceCtorEq, Int.reduceBEq, Int.reduceBNe, Nat.reduceBEq, Int.reduceLE, Int.reduceLT, Int.reduceEq, Int.reduceNe, Int.reduceNeg, Nat.reduceDiv, Nat.reduceMod, Nat.reducePow, cast_lit, hN0, hN]
  refine W_seqK ?_
  refine W_sq [1, 2, 4, 10, 11, 12] (W_regionD tab_ok [] ?_)
  simp only [push_cast, Nat.reduceAdd, Nat.reduceSub, Nat.reduceMul, Nat.reduceLeDiff, Nat.reduceLT, Nat.reduceEqDiff, ↓reduceIte, reduceCtorEq, Int.reduceBEq, Int.reduceBNe, Nat.reduceBEq, Int.reduceLE, Int.reduceLT, Int.reduceEq, Int.reduceNe, Int.reduceNeg, Nat.reduceDiv, Nat.reduceMod, Nat.reducePow, cast_lit, hN0, hN]
  refine W_fit ⟨42, [], [(1, .sl a1.length (fl e_S_api_Step a1)), (2, .ref n 0), (4, .ref (n + 1) 0), (10, .sl a1.length (fl e_S_api_Step a1)), (11, .val (.int .i64 (a1.length : Int))), (12, .val (.int .i64 0))]⟩ (Loc O n [some ⟨false, 25, 3, 1, [.val (.int .i64 a0.Kind), .sl a0.Words.length (fl (eI .u64) a0.Words), .sl a0.Kids.length (fl e_S_api_Tree a0.Kids)]⟩, some ⟨false, 25, 3, 1, [.val (.int .i64 0), .val (.slice none 0 0), .val (.slice none 0 0)]⟩]) (fit_loc hU rfl rfl ?_) ?_
  · simp only [push_cast, Nat.reduceAdd, Nat.reduceSub, Nat.reduceMul, Nat.reduceLeDiff, Nat.reduceLT, Nat.reduceEqDiff, ↓reduceIte, reduceCtorEq, Int.reduceBEq, Int.reduceBNe, Nat.reduceBEq, Int.reduceLE, Int.reduceLT, Int.reduceEq, Int.reduceNe, Int.reduceNeg, Nat.reduceDiv, Nat.reduceMod, Nat.reducePow, cast_lit, hN0, hN]
  obtain ⟨z7, hz7, h⟩ := bC h
  refine W_sumB (J := (SumJ (fun z7 => JR n (⟨42, [], [(4, .ref (n + 1) 0), (5, .val (.bool false))]⟩ : Env) (Loc O n [none, some ⟨false, 25, 3, 1, [.val (.int .i64 0), .val (.slice none 0 0), .val (.slice none 0 0)]⟩]) (n + 2)) (fun z7 => JX 0 n (⟨42, [], [(2, .ref n 0), (4, .ref (n + 1) 0)]⟩ : Env) (Loc O n [some ⟨false, 25, 3, 1, [.val (.int .i64 z7.1), .sl z7.2.1.length (fl (eI .u64) z7.2.1), .sl z7.2.2.length (fl e_S_api_Tree z7.2.2)]⟩, some ⟨false, 25, 3, 1, [.val (.int .i64 0), .val (.slice none 0 0), .val (.slice none 0 0)]⟩]) (n + 2)))) (z := z7) ?_ fun hw => ?_
  · refine W_loopJ hz7 (fun s0_ => ⟨42, [], [(1, .sl a1.length (fl e_S_api_Step a1)), (2, .ref n 0), (4, .ref (n + 1) 0), (10, .sl a1.length (fl e_S_api_Step a1)), (11, .val (.int .i64 (a1.length : Int))), (12, .val (.int .i64 s0_.1))]⟩) (fun s0_ => (Loc O n [some ⟨false, 25, 3, 1, [.val (.int .i64 s0_.2.1), .sl s0_.2.2.1.length (fl (eI .u64) s0_.2.2.1), .sl s0_.2.2.2.length (fl e_S_api_Tree s0_.2.2.2)]⟩, some ⟨false, 25, 3, 1, [.val (.int .i64 0), .val (.slice none 0 0), .val (.slice none 0 0)]⟩])) (SumJ (fun z7 => JR n (⟨42, [], [(4, .ref (n + 1) 0), (5, .val (.bool false))]⟩ : Env) (Loc O n [none, some ⟨false, 25, 3, 1, [.val (.int .i64 0), .val (.slice none 0 0), .val (.slice none 0 0)]⟩]) (n + 2)) (fun z7 => JX 0 n (⟨42, [], [(2, .ref n 0), (4, .ref (n + 1) 0)]⟩ : Env) (Loc O n [some ⟨false, 25, 3, 1, [.val (.int .i64 z7.1), .sl z7.2.1.length (fl (eI .u64) z7.2.1), .sl z7.2.2.length (fl e_S_api_Tree z7.2.2)]⟩, some ⟨false, 25, 3, 1, [.val (.int .i64 0), .val (.slice none 0 0), .val (.slice none 0 0)]⟩]) (n + 2))) ?_
    intro s0_ x0_ hs0_
    unfold m_path_Get_L0 at hs0_
    try dsimp only
    refine W_sq [1, 2, 4, 10, 11, 12, 13] (W_regionD tab_ok [] ?_)
    simp only [push_cast, Nat.reduceAdd, Nat.reduceSub, Nat.reduceMul, Nat.reduceLeDiff, Nat.reduceLT, Nat.reduceEqDiff, ↓reduceIte, reduceCtorEq, Int.reduceBEq, Int.reduceBNe, Nat.reduceBEq, Int.reduceLE, Int.reduceLT, Int.reduceEq, Int.reduceNe, Int.reduceNeg, Nat.reduceDiv, Nat.reduceMod, Nat.reducePow, cast_lit, hN0, hN]
    refine W_seqK ?_
    refine W_cond (t := (decide (s0_.1 < (a1.length : Int)))) rfl (fun c6 => ?_) (fun c6 => ?_)
    · replace hs0_ := condT c6 hs0_
      refine W_skip ?_
      try simp only [gthen, gblock]
      refine W_fit ⟨42, [], [(1, .sl a1.length (fl e_S_api_Step a1)), (2, .ref n 0), (4, .ref (n + 1) 0), (10, .sl a1.length (fl e_S_api_Step a1)), (11, .val (.int .i64 (a1.length : Int))), (12, .val (.int .i64 s0_.1))]⟩ (Loc O n [some ⟨false, 25, 3, 1, [.val (.int .i64 s0_.2.1), .sl s0_.2.2.1.length (fl (eI .u64) s0_.2.2.1), .sl s0_.2.2.2.length (fl e_S_api_Tree s0_.2.2.2)]⟩, some ⟨false, 25, 3, 1, [.val (.int .i64 0), .val (.slice none 0 0), .val (.slice none 0 0)]⟩]) (fit_loc hU rfl rfl ?_) ?_
      · simp only [push_cast, Nat.reduceAdd, Nat.reduceSub, Nat.reduceMul, Nat.reduceLeDiff, Nat.reduceLT, Nat.reduceEqDiff, ↓reduceIte, reduceCtorEq, Int.reduceBEq, Int.reduceBNe, Nat.reduceBEq, Int.reduceLE, Int.reduceLT, Int.reduceEq, Int.reduceNe, Int.reduceNeg, Nat.reduceDiv, Nat.reduceMod, Nat.reducePow, cast_lit, hN0, hN]
      refine W_seqK ?_
      refine W_block ?_
      refine W_seqK ?_
      obtain ⟨x2, hx2, ax2, bx2, cx2, hs0_⟩ := bE (f := e_S_api_Step) tab102 (fun _ => rfl) (by decide) hs0_
      refine W_regionD tab_ok [] ?_
      simp only [push_cast, Nat.reduceAdd, Nat.reduceSub, Nat.reduceMul, Nat.reduceLeDiff, Nat.reduceLT, Nat.reduceEqDiff, ↓reduceIte, reduceCtorEq, Int.reduceBEq, Int.reduceBNe, Nat.reduceBEq, Int.reduceLE, Int.reduceLT, Int.reduceEq, Int.reduceNe, Int.reduceNeg, Nat.reduceDiv, Nat.reduceMod, Nat.reducePow, cast_lit, ax2, bx2, cx2, hN0, hN]
      refine W_fit ⟨42, [], [(1, .sl a1.length (fl e_S_api_Step a1)), (2, .ref n 0), (4, .ref (n + 1) 0), (6, .val (.int .i64 s0_.1)), (7, .ref (n + 2) 0), (10, .sl a1.length (fl e_S_api_Step a1)), (11, .val (.int .i64 (a1.length : Int))), (12, .val (.int .i64 s0_.1))]⟩ (Loc O n [some ⟨false, 25, 3, 1, [.val (.int .i64 s0_.2.1), .sl s0_.2.2.1.length (fl (eI .u64) s0_.2.2.1), .sl s0_.2.2.2.length (fl e_S_api_Tree s0_.2.2.2)]⟩, some ⟨false, 25, 3, 1, [.val (.int .i64 0), .val (.slice none 0 0), .val (.slice none 0 0)]⟩, some ⟨false, 102, 2, 1, [.val (.int .i64 x2.Kind), .val (.int .i64 x2.At)]⟩]) (fit_loc hU rfl rfl ?_) ?_
      · simp only [push_cast, Nat.reduceAdd, Nat.reduceSub, Nat.reduceMul, Nat.reduceLeDiff, Nat.reduceLT, Nat.reduceEqDiff, ↓reduceIte, reduceCtorEq, Int.reduceBEq, Int.reduceBNe, Nat.reduceBEq, Int.reduceLE, Int.reduceLT, Int.reduceEq, Int.reduceNe, Int.reduceNeg, Nat.reduceDiv, Nat.reduceMod, Nat.reducePow, cast_lit, ax2, bx2, cx2, hN0, hN]
      refine W_seqK ?_
      obtain ⟨y4, hy4, hs0_⟩ := bC hs0_
      refine W_regionD tab_ok [] ?_
      simp only [push_cast, Nat.reduceAdd, Nat.reduceSub, Nat.reduceMul, Nat.reduceLeDiff, Nat.reduceLT, Nat.reduceEqDiff, ↓reduceIte, reduceCtorEq, Int.reduceBEq, Int.reduceBNe, Nat.reduceBEq, Int.reduceLE, Int.reduceLT, Int.reduceEq, Int.reduceNe, Int.reduceNeg, Nat.reduceDiv, Nat.reduceMod, Nat.reducePow, cast_lit, hN0, hN]
      refine (ok_path_step hy4).then ?_
      simp only [push_cast, Nat.reduceAdd, Nat.reduceSub, Nat.reduceMul, Nat.reduceLeDiff, Nat.reduceLT, Nat.reduceEqDiff, ↓reduceIte, reduceCtorEq, Int.reduceBEq, Int.reduceBNe, Nat.reduceBEq, Int.reduceLE, Int.reduceLT, Int.reduceEq, Int.reduceNe, Int.reduceNeg, Nat.reduceDiv, Nat.reduceMod, Nat.reducePow, cast_lit, hN0, hN]
      refine W_fit ⟨42, [], [(1, .sl a1.length (fl e_S_api_Step a1)), (2, .ref n 0), (4, .ref (n + 1) 0), (6, .val (.int .i64 s0_.1)), (7, .ref (n + 2) 0), (8, .ref (n + 3) 0), (9, .val (.bool y4.2)), (10, .sl a1.length (fl e_S_api_Step a1)), (11, .val (.int .i64 (a1.length : Int))), (12, .val (.int .i64 s0_.1))]⟩ (Loc O n [some ⟨false, 25, 3, 1, [.val (.int .i64 s0_.2.1), .sl s0_.2.2.1.length (fl (eI .u64) s0_.2.2.1), .sl s0_.2.2.2.length (fl e_S_api_Tree s0_.2.2.2)]⟩, some ⟨false, 25, 3, 1, [.val (.int .i64 0), .val (.slice none 0 0), .val (.slice none 0 0)]⟩, some ⟨false, 102, 2, 1, [.val (.int .i64 x2.Kind), .val (.int .i64 x2.At)]⟩, some ⟨false, 25, 3, 1, [.val (.int .i64 y4.1.Kind), .sl y4.1.Words.length (fl (eI .u64) y4.1.Words), .sl y4.1.Kids.length (fl e_S_api_Tree y4.1.Kids)]⟩]) (fit_loc hU rfl rfl ?_) ?_
      · simp only [push_cast, Nat.reduceAdd, Nat.reduceSub, Nat.reduceMul, Nat.reduceLeDiff, Nat.reduceLT, Nat.reduceEqDiff, ↓reduceIte, reduceCtorEq, Int.reduceBEq, Int.reduceBNe, Nat.reduceBEq, Int.reduceLE, Int.reduceLT, Int.reduceEq, Int.reduceNe, Int.reduceNeg, Nat.reduceDiv, Nat.reduceMod, Nat.reducePow, cast_lit, hN0, hN]
      refine W_seqK ?_
      refine W_sq [1, 2, 4, 8, 10, 11, 12, 36] (W_regionD tab_ok [none, none, none, none, none, none, none, none, none, none] ?_)
      simp only [push_cast, Nat.reduceAdd, Nat.reduceSub, Nat.reduceMul, Nat.reduceLeDiff, Nat.reduceLT, Nat.reduceEqDiff, ↓reduceIte, reduceCtorEq, Int.reduceBEq, Int.reduceBNe, Nat.reduceBEq, Int.reduceLE, Int.reduceLT, Int.reduceEq, Int.reduceNe, Int.reduceNeg, Nat.reduceDiv, Nat.reduceMod, Nat.reducePow, cast_lit, hN0, hN]
      repeat (with_reducible refine And.intro (by first | (intro h0; simp only [h0, and_self]; done) | (intro h0; simp only [h0, Bool.not_false, Bool.not_true, Bool.true_and, Bool.and_true, true_and, and_true, and_self, imp_self, implies_true, bne_iff_ne, ne_eq, beq_iff_eq]; done) | (intros; simp_all; done) | exact True.intro) ?_)
      refine W_cond (t := (cond (!y4.2) true (cond (x2.Kind != 0) (decide (s0_.1 < (IntKind.i64.wrap ((a1.length : Int) - 1)))) false))) rfl (fun c5 => ?_) (fun c5 => ?_)
      · replace hs0_ := condT c5 hs0_
        refine W_seqK ?_
        refine W_regionD tab_ok [] ?_
        simp only [push_cast, Nat.reduceAdd, Nat.reduceSub, Nat.reduceMul, Nat.reduceLeDiff, Nat.reduceLT, Nat.reduceEqDiff, ↓reduceIte, reduceCtorEq, Int.reduceBEq, Int.reduceBNe, Nat.reduceBEq, Int.reduceLE, Int.reduceLT, Int.reduceEq, Int.reduceNe, Int.reduceNeg, Nat.reduceDiv, Nat.reduceMod, Nat.reducePow, cast_lit, hN0, hN]
        refine W_fit ⟨42, [], [(4, .ref (n + 1) 0), (5, .val (.bool false))]⟩ (Loc O n [none, some ⟨false, 25, 3, 1, [.val (.int .i64 0), .val (.slice none 0 0), .val (.slice none 0 0)]⟩, none, none]) (fit_loc hU rfl rfl ?_) ?_
        · simp only [push_cast, Nat.reduceAdd, Nat.reduceSub, Nat.reduceMul, Nat.reduceLeDiff, Nat.reduceLT, Nat.reduceEqDiff, ↓reduceIte, reduceCtorEq, Int.reduceBEq, Int.reduceBNe, Nat.reduceBEq, Int.reduceLE, Int.reduceLT, Int.reduceEq, Int.reduceNe, Int.reduceNeg, Nat.reduceDiv, Nat.reduceMod, Nat.reducePow, cast_lit, hN0, hN]
        refine W_ret ?_
        try simp only [gthen, gblock]
        have hs0_ := Option.some.inj hs0_; subst hs0_
        refine And.intro (fun h => by cases h) (And.intro rfl (Fit2.of (fit_loc hU rfl rfl ?_) (by omega)))
        simp only [push_cast, Nat.reduceAdd, Nat.reduceSub, Nat.reduceMul, Nat.reduceLeDiff, Nat.reduceLT, Nat.reduceEqDiff, ↓reduceIte, reduceCtorEq, Int.reduceBEq, Int.reduceBNe, Nat.reduceBEq, Int.reduceLE, Int.reduceLT, Int.reduceEq, Int.reduceNe, Int.reduceNeg, Nat.reduceDiv, Nat.reduceMod, Nat.reducePow, cast_lit, hN0, hN]
      · replace hs0_ := condF c5 hs0_
        refine W_skip ?_
        try simp only [gthen, gblock]
        refine W_fit ⟨42, [], [(1, .sl a1.length (fl e_S_api_Step a1)), (2, .ref n 0), (4, .ref (n + 1) 0), (8, .ref (n + 3) 0), (10, .sl a1.length (fl e_S_api_Step a1)), (11, .val (.int .i64 (a1.length : Int))), (12, .val (.int .i64 s0_.1))]⟩ (Loc O n [some ⟨false, 25, 3, 1, [.val (.int .i64 s0_.2.1), .sl s0_.2.2.1.length (fl (eI .u64) s0_.2.2.1), .sl s0_.2.2.2.length (fl e_S_api_Tree s0_.2.2.2)]⟩, some ⟨false, 25, 3, 1, [.val (.int .i64 0), .val (.slice none 0 0), .val (.slice none 0 0)]⟩, none, some ⟨false, 25, 3, 1, [.val (.int .i64 y4.1.Kind), .sl y4.1.Words.length (fl (eI .u64) y4.1.Words), .sl y4.1.Kids.length (fl e_S_api_Tree y4.1.Kids)]⟩]) (fit_loc hU rfl rfl ?_) ?_
        · simp only [push_cast, Nat.reduceAdd, Nat.reduceSub, Nat.reduceMul, Nat.reduceLeDiff, Nat.reduceLT, Nat.reduceEqDiff, ↓reduceIte, reduceCtorEq, Int.reduceBEq, Int.reduceBNe, Nat.reduceBEq, Int.reduceLE, Int.reduceLT, Int.reduceEq, Int.reduceNe, Int.reduceNeg, Nat.reduceDiv, Nat.reduceMod, Nat.reducePow, cast_lit, hN0, hN]
        refine W_regionD tab_ok [] ?_
        simp only [push_cast, Nat.reduceAdd, Nat.reduceSub, Nat.reduceMul, Nat.reduceLeDiff, Nat.reduceLT, Nat.reduceEqDiff, ↓reduceIte, reduceCtorEq, Int.reduceBEq, Int.reduceBNe, Nat.reduceBEq, Int.reduceLE, Int.reduceLT, Int.reduceEq, Int.reduceNe, Int.reduceNeg, Nat.reduceDiv, Nat.reduceMod, Nat.reducePow, cast_lit, hN0, hN]
        refine W_fit ⟨42, [], [(1, .sl a1.length (fl e_S_api_Step a1)), (2, .ref n 0), (4, .ref (n + 1) 0), (10, .sl a1.length (fl e_S_api_Step a1)), (11, .val (.int .i64 (a1.length : Int))), (12, .val (.int .i64 s0_.1))]⟩ (Loc O n [some ⟨false, 25, 3, 1, [.val (.int .i64 y4.1.Kind), .sl y4.1.Words.length (fl (eI .u64) y4.1.Words), .sl y4.1.Kids.length (fl e_S_api_Tree y4.1.Kids)]⟩, some ⟨false, 25, 3, 1, [.val (.int .i64 0), .val (.slice none 0 0), .val (.slice none 0 0)]⟩, none, none]) (fit_loc hU rfl rfl ?_) ?_
        · simp only [push_cast, Nat.reduceAdd, Nat.reduceSub, Nat.reduceMul, Nat.reduceLeDiff, Nat.reduceLT, Nat.reduceEqDiff, ↓reduceIte, reduceCtorEq, Int.reduceBEq, Int.reduceBNe, Nat.reduceBEq, Int.reduceLE, Int.reduceLT, Int.reduceEq, Int.reduceNe, Int.reduceNeg, Nat.reduceDiv, Nat.reduceMod, Nat.reducePow, cast_lit, hN0, hN]
        refine W_regionD tab_ok [] ?_
        simp only [push_cast, Nat.reduceAdd, Nat.reduceSub, Nat.reduceMul, Nat.reduceLeDiff, Nat.reduceLT, Nat.reduceEqDiff, ↓reduceIte, reduceCtorEq, Int.reduceBEq, Int.reduceBNe, Nat.reduceBEq, Int.reduceLE, Int.reduceLT, Int.reduceEq, Int.reduceNe, Int.reduceNeg, Nat.reduceDiv, Nat.reduceMod, Nat.reducePow, cast_lit, hN0, hN]
        have hs0_ := Option.some.inj hs0_; subst hs0_
        refine And.intro rfl (Fit2.of (fit_loc hU rfl rfl ?_) (by omega))
        simp only [push_cast, Nat.reduceAdd, Nat.reduceSub, Nat.reduceMul, Nat.reduceLeDiff, Nat.reduceLT, Nat.reduceEqDiff, ↓reduceIte, reduceCtorEq, Int.reduceBEq, Int.reduceBNe, Nat.reduceBEq, Int.reduceLE, Int.reduceLT, Int.reduceEq, Int.reduceNe, Int.reduceNeg, Nat.reduceDiv, Nat.reduceMod, Nat.reducePow, cast_lit, hN0, hN]
    · replace hs0_ := condF c6 hs0_
      refine W_exit ?_
      try simp only [gthen, gblock, ↓reduceIte, Nat.reduceEqDiff]
      have hs0_ := Option.some.inj hs0_; subst hs0_
      refine And.intro (fun h => by cases h) (And.intro rfl (Fit2.of (fit_loc hU rfl rfl ?_) (by omega)))
      simp only [push_cast, Nat.reduceAdd, Nat.reduceSub, Nat.reduceMul, Nat.reduceLeDiff, Nat.reduceLT, Nat.reduceEqDiff, ↓reduceIte, reduceCtorEq, Int.reduceBEq, Int.reduceBNe, Nat.reduceBEq, Int.reduceLE, Int.reduceLT, Int.reduceEq, Int.reduceNe, Int.reduceNeg, Nat.reduceDiv, Nat.reduceMod, Nat.reducePow, cast_lit, hN0, hN]
  rcases z7 with z7 | z7
  · dsimp only [SumJ] at hw h
    refine W_blockR hw ?_
    try simp only [gthen, gblock, ↓reduceIte, Nat.reduceEqDiff]
    have h := Option.some.inj h; subst h
    refine fin_loc (.inr rfl) hU [.agg [.val (.int .i64 0), .val (.slice none 0 0), .val (.slice none 0 0)], .val (.bool false)] (by omega) ?_
    simp only [push_cast, Nat.reduceAdd, Nat.reduceSub, Nat.reduceMul, Nat.reduceLeDiff, Nat.reduceLT, Nat.reduceEqDiff, ↓reduceIte, reduceCtorEq, Int.reduceBEq, Int.reduceBNe, Nat.reduceBEq, Int.reduceLE, Int.reduceLT, Int.reduceEq, Int.reduceNe, Int.reduceNeg, Nat.reduceDiv, Nat.reduceMod, Nat.reducePow, cast_lit, Try.results44, hN0, hN]
  · dsimp only [SumJ] at hw h
    refine W_blockX hw ?_
    try simp only [gthen, gblock, ↓reduceIte, Nat.reduceEqDiff]
    refine W_fit ⟨42, [], [(2, .ref n 0), (4, .ref (n + 1) 0)]⟩ (Loc O n [some ⟨false, 25, 3, 1, [.val (.int .i64 z7.1), .sl z7.2.1.length (fl (eI .u64) z7.2.1), .sl z7.2.2.length (fl e_S_api_Tree z7.2.2)]⟩, some ⟨false, 25, 3, 1, [.val (.int .i64 0), .val (.slice none 0 0), .val (.slice none 0 0)]⟩]) (fit_loc hU rfl rfl ?_) ?_
    · simp only [push_cast, Nat.reduceAdd, Nat.reduceSub, Nat.reduceMul, Nat.reduceLeDiff, Nat.reduceLT, Nat.reduceEqDiff, ↓reduceIte, reduceCtorEq, Int.reduceBEq, Int.reduceBNe, Nat.reduceBEq, Int.reduceLE, Int.reduceLT, Int.reduceEq, Int.reduceNe, Int.reduceNeg, Nat.reduceDiv, Nat.reduceMod, Nat.reducePow, cast_lit, hN0, hN]
    refine W_seqK ?_
    obtain ⟨y9, hy9, h⟩ := bC h
    refine W_regionD tab_ok [] ?_
    simp only [push_cast, Nat.reduceAdd, Nat.reduceSub, Nat.reduceMul, Nat.reduceLeDiff, Nat.reduceLT, Nat.reduceEqDiff, ↓reduceIte, reduceCtorEq, Int.reduceBEq, Int.reduceBNe, Nat.reduceBEq, Int.reduceLE, Int.reduceLT, Int.reduceEq, Int.reduceNe, Int.reduceNeg, Nat.reduceDiv, Nat.reduceMod, Nat.reducePow, cast_lit, hN0, hN]
    refine (ok_tree_Norm hy9).then ?_
    simp only [push_cast, Nat.reduceAdd, Nat.reduceSub, Nat.reduceMul, Nat.reduceLeDiff, Nat.reduceLT, Nat.reduceEqDiff, ↓reduceIte, reduceCtorEq, Int.reduceBEq, Int.reduceBNe, Nat.reduceBEq, Int.reduceLE, Int.reduceLT, Int.reduceEq, Int.reduceNe, Int.reduceNeg, Nat.reduceDiv, Nat.reduceMod, Nat.reducePow, cast_lit, hN0, hN]
    refine W_fit ⟨42, [], [(4, .ref (n + 1) 0), (5, .val (.bool true))]⟩ (Loc O n [none, some ⟨false, 25, 3, 1, [.val (.int .i64 y9.Kind), .sl y9.Words.length (fl (eI .u64) y9.Words), .sl y9.Kids.length (fl e_S_api_Tree y9.Kids)]⟩]) (fit_loc hU rfl rfl ?_) ?_
    · simp only [push_cast, Nat.reduceAdd, Nat.reduceSub, Nat.reduceMul, Nat.reduceLeDiff, Nat.reduceLT, Nat.reduceEqDiff, ↓reduceIte, reduceCtorEq, Int.reduceBEq, Int.reduceBNe, Nat.reduceBEq, Int.reduceLE, Int.reduceLT, Int.reduceEq, Int.reduceNe, Int.reduceNeg, Nat.reduceDiv, Nat.reduceMod, Nat.reducePow, cast_lit, hN0, hN]
    refine W_ret ?_
    try simp only [gthen, gblock]
    have h := Option.some.inj h; subst h
    refine fin_loc (.inr rfl) hU [.agg [.val (.int .i64 y9.Kind), .sl y9.Words.length (fl (eI .u64) y9.Words), .sl y9.Kids.length (fl e_S_api_Tree y9.Kids)], .val (.bool true)] (by omega) ?_
    simp only [push_cast, Nat.reduceAdd, Nat.reduceSub, Nat.reduceMul, Nat.reduceLeDiff, Nat.reduceLT, Nat.reduceEqDiff, ↓reduceIte, reduceCtorEq, Int.reduceBEq, Int.reduceBNe, Nat.reduceBEq, Int.reduceLE, Int.reduceLT, Int.reduceEq, Int.reduceNe, Int.reduceNeg, Nat.reduceDiv, Nat.reduceMod, Nat.reducePow, cast_lit, Try.results44, hN0, hN]

theorem ok_centoref01_Same {a0 : (List Int)} {a1 : (List Int)} {r : Bool} {O : Objs} {n : Nat} (h : m_centoref01_Same a0 a1 = some r) : GTo Try.prog 60 [.sl a0.length (fl (eI .u64) a0), .sl a1.length (fl (eI .u64) a1)] O n (.val (.bool r)) O n := by
  unfold m_centoref01_Same at h
  refine fn_of tab_ok Try.call60 Try.func60 rfl (Nat.le_of_ble_eq_true rfl) (Nat.le_refl _) fun hU => ?_
  have hN0 : O n = none := hU.fresh _ (Nat.le_refl _)
  have hN : ∀ k, O (n + k) = none := fun k => hU.fresh _ (Nat.le_add_right _ _)
  show W _ _ _ _ ⟨26, [], [(0, .sl a0.length (fl (eI .u64) a0)), (1, .sl a1.length (fl (eI .u64) a1))]⟩ (Loc O n []) _
  refine W_sq [0, 1] (W_regionD tab_ok [] ?_)
  simp only [push_cast, Nat.reduceAdd, Nat.reduceSub, Nat.reduceMul, Nat.reduceLeDiff, Nat.reduceLT, Nat.reduceEqDiff, ↓reduceIte, reduceCtorEq, Int.reduceBEq, Int.reduceBNe, Nat.reduceBEq, Int.reduceLE, Int.reduceLT, Int.reduceEq, Int.reduceNe, Int.reduceNeg, Nat.reduceDiv, Nat.reduceMod, Nat.reducePow, cast_lit, hN0, hN]
  refine W_seqK ?_
  refine W_sq [0, 1, 10] (W_regionD tab_ok [] ?_)
  simp only [push_cast, Nat.reduceAdd, Nat.reduceSub, Nat.reduceMul, Nat.reduceLeDiff, Nat.reduceLT, Nat.reduceEqDiff, ↓reduceIte, reduceCtorEq, Int.reduceBEq, Int.reduceBNe, Nat.reduceBEq, Int.reduceLE, Int.reduceLT, Int.reduceEq, Int.reduceNe, Int.reduceNeg, Nat.reduceDiv, Nat.reduceMod, Nat.reducePow, cast_lit, hN0, hN]
  refine W_cond (t := ((a0.length : Int) != (a1.length : Int))) rfl (fun c8 => ?_) (fun c8 => ?_)
  · replace h := condT c8 h
    refine W_sq [4] (W_regionD tab_ok [] ?_)
    simp only [push_cast, Nat.reduceAdd, Nat.reduceSub, Nat.reduceMul, Nat.reduceLeDiff, Nat.reduceLT, Nat.reduceEqDiff, ↓reduceIte, reduceCtorEq, Int.reduceBEq, Int.reduceBNe, Nat.reduceBEq, Int.reduceLE, Int.reduceLT, Int.reduceEq, Int.reduceNe, Int.reduceNeg, Nat.reduceDiv, Nat.reduceMod, Nat.reducePow, cast_lit, hN0, hN]
    refine W_ret ?_
    try simp only [gthen, gblock]
    have h := Option.some.inj h; subst h
    refine fin_loc (.inr rfl) hU [.val (.bool false)] (by omega) ?_
    simp only [push_cast, Nat.reduceAdd, Nat.reduceSub, Nat.reduceMul, Nat.reduceLeDiff, Nat.reduceLT, Nat.reduceEqDiff, ↓reduceIte, reduceCtorEq, Int.reduceBEq, Int.reduceBNe, Nat.reduceBEq, Int.reduceLE, Int.reduceLT, Int.reduceEq, Int.reduceNe, Int.reduceNeg, Nat.reduceDiv, Nat.reduceMod, Nat.reducePow, cast_lit, Try.results60, hN0, hN]
  · replace h := condF c8 h
    refine W_skip ?_
    try simp only [gthen, gblock]
    refine W_fit ⟨26, [], [(0, .sl a0.length (fl (eI .u64) a0)), (1, .sl a1.length (fl (eI .u64) a1))]⟩ (Loc O n []) (fit_loc hU rfl rfl ?_) ?_
    · simp only [push_cast, Nat.reduceAdd, Nat.reduceSub, Nat.reduceMul, Nat.reduceLeDiff, Nat.reduceLT, Nat.reduceEqDiff, ↓reduceIte, reduceCtorEq, Int.reduceBEq, Int.reduceBNe, Nat.reduceBEq, Int.reduceLE, Int.reduceLT, Int.reduceEq, Int.reduceNe, Int.reduceNeg, Nat.reduceDiv, Nat.reduceMod, Nat.reducePow, cast_lit, hN0, hN]
    refine W_seqK ?_
    refine W_sq [0, 1, 5] (W_regionD tab_ok [] ?_)
    simp only [push_cast, Nat.reduceAdd, Nat.reduceSub, Nat.reduceMul, Nat.reduceLeDiff, Nat.reduceLT, Nat.reduceEqDiff, ↓reduceIte, reduceCtorEq, Int.reduceBEq, Int.reduceBNe, Nat.reduceBEq, Int.reduceLE, Int.reduceLT, Int.reduceEq, Int.reduceNe, Int.reduceNeg, Nat.reduceDiv, Nat.reduceMod, Nat.reducePow, cast_lit, hN0, hN]
    refine W_fit ⟨26, [], [(0, .sl a0.length (fl (eI .u64) a0)), (1, .sl a1.length (fl (eI .u64) a1)), (5, .val (.int .i64 0))]⟩ (Loc O n []) (fit_loc hU rfl rfl ?_) ?_
    · simp only [push_cast, Nat.reduceAdd, Nat.reduceSub, Nat.reduceMul, Nat.reduceLeDiff, Nat.reduceLT, Nat.reduceEqDiff, ↓reduceIte, reduceCtorEq, Int.reduceBEq, Int.reduceBNe, Nat.reduceBEq, Int.reduceLE, Int.reduceLT, Int.reduceEq, Int.reduceNe, Int.reduceNeg, Nat.reduceDiv, Nat.reduceMod, Nat.reducePow, cast_lit, hN0, hN]
    obtain ⟨z7, hz7, h⟩ := bC h
    refine W_sumB (J := (SumJ (fun z7 => JR n (⟨26, [], [(4, .val (.bool false))]⟩ : Env) (Loc O n []) n) (fun z7 => JX 0 n (⟨26, [], []⟩ : Env) (Loc O n []) n))) (z := z7) ?_ fun hw => ?_
    · refine W_loopJ hz7 (fun s0_ => ⟨26, [], [(0, .sl a0.length (fl (eI .u64) a0)), (1, .sl a1.length (fl (eI .u64) a1)), (5, .val (.int .i64 s0_))]⟩) (fun s0_ => (Loc O n [])) (SumJ (fun z7 => JR n (⟨26, [], [(4, .val (.bool false))]⟩ : Env) (Loc O n []) n) (fun z7 => JX 0 n (⟨26, [], []⟩ : Env) (Loc O n []) n)) ?_
      intro s0_ x0_ hs0_
      unfold m_centoref01_Same_L0 at hs0_
      try dsimp only
      refine W_seqK ?_
      refine W_sq [0, 1, 5, 14] (W_regionD tab_ok [] ?_)
      simp only [push_cast, Nat.reduceAdd, Nat.reduceSub, Nat.reduceMul, Nat.reduceLeDiff, Nat.reduceLT, Nat.reduceEqDiff, ↓reduceIte, reduceCtorEq, Int.reduceBEq, Int.reduceBNe, Nat.reduceBEq, Int.reduceLE, Int.reduceLT, Int.reduceEq, Int.reduceNe, Int.reduceNeg, Nat.reduceDiv, Nat.reduceMod, Nat.reducePow, cast_lit, hN0, hN]
      refine W_cond (t := (decide (s0_ < (a0.length : Int)))) rfl (fun c6 => ?_) (fun c6 => ?_)
      · replace hs0_ := condT c6 hs0_
        refine W_skip ?_
        try simp only [gthen, gblock]
        refine W_fit ⟨26, [], [(0, .sl a0.length (fl (eI .u64) a0)), (1, .sl a1.length (fl (eI .u64) a1)), (5, .val (.int .i64 s0_))]⟩ (Loc O n []) (fit_loc hU rfl rfl ?_) ?_
        · simp only [push_cast, Nat.reduceAdd, Nat.reduceSub, Nat.reduceMul, Nat.reduceLeDiff, Nat.reduceLT, Nat.reduceEqDiff, ↓reduceIte, reduceCtorEq, Int.reduceBEq, Int.reduceBNe, Nat.reduceBEq, Int.reduceLE, Int.reduceLT, Int.reduceEq, Int.reduceNe, Int.reduceNeg, Nat.reduceDiv, Nat.reduceMod, Nat.reducePow, cast_lit, hN0, hN]
        refine W_seqK ?_
        refine W_block ?_
        obtain ⟨x3, hx3, ax3, bx3, cx3, hs0_⟩ := bE (f := (eI .u64)) tab56 (fun _ => rfl) (by decide) hs0_
        obtain ⟨x4, hx4, ax4, bx4, cx4, hs0_⟩ := bE (f := (eI .u64)) tab56 (fun _ => rfl) (by decide) hs0_
        refine W_sq [0, 1, 5, 25] (W_drawD tab_ok (by kernel_rfl) [] (by kernel_rfl) ?_)
        simp only [push_cast, Nat.reduceAdd, Nat.reduceSub, Nat.reduceMul, Nat.reduceLeDiff, Nat.reduceLT, Nat.reduceEqDiff, ↓reduceIte, reduceCtorEq, Int.reduceBEq, Int.reduceBNe, Nat.reduceBEq, Int.reduceLE, Int.reduceLT, Int.reduceEq, Int.reduceNe, Int.reduceNeg, Nat.reduceDiv, Nat.reduceMod, Nat.reducePow, cast_lit, ax3, bx3, cx3, ax4, bx4, cx4, hN0, hN]
        refine W_cond (t := (x3 != x4)) rfl (fun c5 => ?_) (fun c5 => ?_)
        · replace hs0_ := condT c5 hs0_
          refine W_sq [4] (W_regionD tab_ok [] ?_)
          simp only [push_cast, Nat.reduceAdd, Nat.reduceSub, Nat.reduceMul, Nat.reduceLeDiff, Nat.reduceLT, Nat.reduceEqDiff, ↓reduceIte, reduceCtorEq, Int.reduceBEq, Int.reduceBNe, Nat.reduceBEq, Int.reduceLE, Int.reduceLT, Int.reduceEq, Int.reduceNe, Int.reduceNeg, Nat.reduceDiv, Nat.reduceMod, Nat.reducePow, cast_lit, hN0, hN]
          refine W_ret ?_
          try simp only [gthen, gblock]
          have hs0_ := Option.some.inj hs0_; subst hs0_
          refine And.intro (fun h => by cases h) (And.intro rfl (Fit2.of (fit_loc hU rfl rfl ?_) (by omega)))
          simp only [push_cast, Nat.reduceAdd, Nat.reduceSub, Nat.reduceMul, Nat.reduceLeDiff, Nat.reduceLT, Nat.reduceEqDiff, ↓reduceIte, reduceCtorEq, Int.reduceBEq, Int.reduceBNe, Nat.reduceBEq, Int.reduceLE, Int.reduceLT, Int.reduceEq, Int.reduceNe, Int.reduceNeg, Nat.reduceDiv, Nat.reduceMod, Nat.reducePow, cast_lit, hN0, hN]
        · replace hs0_ := condF c5 hs0_
          refine W_skip ?_
          try simp only [gthen, gblock]
          refine W_fit ⟨26, [], [(0, .sl a0.length (fl (eI .u64) a0)), (1, .sl a1.length (fl (eI .u64) a1)), (5, .val (.int .i64 s0_))]⟩ (Loc O n []) (fit_loc hU rfl rfl ?_) ?_
          · simp only [push_cast, Nat.reduceAdd, Nat.reduceSub, Nat.reduceMul, Nat.reduceLeDiff, Nat.reduceLT, Nat.reduceEqDiff, ↓reduceIte, reduceCtorEq, Int.reduceBEq, Int.reduceBNe, Nat.reduceBEq, Int.reduceLE, Int.reduceLT, Int.reduceEq, Int.reduceNe, Int.reduceNeg, Nat.reduceDiv, Nat.reduceMod, Nat.reducePow, cast_lit, hN0, hN]
          refine W_regionD tab_ok [] ?_
          simp only [push_cast, Nat.reduceAdd, Nat.reduceSub, Nat.reduceMul, Nat.reduceLeDiff, Nat.reduceLT, Nat.reduceEqDiff, ↓reduceIte, reduceCtorEq, Int.reduceBEq, Int.reduceBNe, Nat.reduceBEq, Int.reduceLE, Int.reduceLT, Int.reduceEq, Int.reduceNe, Int.reduceNeg, Nat.reduceDiv, Nat.reduceMod, Nat.reducePow, cast_lit, hN0, hN]
          have hs0_ := Option.some.inj hs0_; subst hs0_
          refine And.intro rfl (Fit2.of (fit_loc hU rfl rfl ?_) (by omega))
          simp only [push_cast, Nat.reduceAdd, Nat.reduceSub, Nat.reduceMul, Nat.reduceLeDiff, Nat.reduceLT, Nat.reduceEqDiff, ↓reduceIte, reduceCtorEq, Int.reduceBEq, Int.reduceBNe, Nat.reduceBEq, Int.reduceLE, Int.reduceLT, Int.reduceEq, Int.reduceNe, Int.reduceNeg, Nat.reduceDiv, Nat.reduceMod, Nat.reducePow, cast_lit, hN0, hN]
      · replace hs0_ := condF c6 hs0_
        refine W_exit ?_
        try simp only [gthen, gblock, ↓reduceIte, Nat.reduceEqDiff]
        have hs0_ := Option.some.inj hs0_; subst hs0_
        refine And.intro (fun h => by cases h) (And.intro rfl (Fit2.of (fit_loc hU rfl rfl ?_) (by omega)))
        simp only [push_cast, Nat.reduceAdd, Nat.reduceSub, Nat.reduceMul, Nat.reduceLeDiff, Nat.reduceLT, Nat.reduceEqDiff, ↓reduceIte, reduceCtorEq, Int.reduceBEq, Int.reduceBNe, Nat.reduceBEq, Int.reduceLE, Int.reduceLT, Int.reduceEq, Int.reduceNe, Int.reduceNeg, Nat.reduceDiv, Nat.reduceMod, Nat.reducePow, cast_lit, hN0, hN]
    rcases z7 with z7 | z7
    · dsimp only [SumJ] at hw h
      refine W_blockR hw ?_
      try simp only [gthen, gblock, ↓reduceIte, Nat.reduceEqDiff]
      have h := Option.some.inj h; subst h
      refine fin_loc (.inr rfl) hU [.val (.bool false)] (by omega) ?_
      simp only [push_cast, Nat.reduceAdd, Nat.reduceSub, Nat.reduceMul, Nat.reduceLeDiff, Nat.reduceLT, Nat.reduceEqDiff, ↓reduceIte, reduceCtorEq, Int.reduceBEq, Int.reduceBNe, Nat.reduceBEq, Int.reduceLE, Int.reduceLT, Int.reduceEq, Int.reduceNe, Int.reduceNeg, Nat.reduceDiv, Nat.reduceMod, Nat.reducePow, cast_lit, Try.results60, hN0, hN]
    · dsimp only [SumJ] at hw h
      refine W_blockX hw ?_
      try simp only [gthen, gblock, ↓reduceIte, Nat.reduceEqDiff]
      refine W_fit ⟨26, [], []⟩ (Loc O n []) (fit_loc hU rfl rfl ?_) ?_
      · simp only [push_cast, Nat.reduceAdd, Nat.reduceSub, Nat.reduceMul, Nat.reduceLeDiff, Nat.reduceLT, Nat.reduceEqDiff, ↓reduceIte, reduceCtorEq, Int.reduceBEq, Int.reduceBNe, Nat.reduceBEq, Int.reduceLE, Int.reduceLT, Int.reduceEq, Int.reduceNe, Int.reduceNeg, Nat.reduceDiv, Nat.reduceMod, Nat.reducePow, cast_lit, hN0, hN]
      refine W_sq [4] (W_regionD tab_ok [] ?_)
      simp only [push_cast, Nat.reduceAdd, Nat.reduceSub, Nat.reduceMul, Nat.reduceLeDiff, Nat.reduceLT, Nat.reduceEqDiff, ↓reduceIte, reduceCtorEq, Int.reduceBEq, Int.reduceBNe, Nat.reduceBEq, Int.reduceLE, Int.reduceLT, Int.reduceEq, Int.reduceNe, Int.reduceNeg, Nat.reduceDiv, Nat.reduceMod, Nat.reducePow, cast_lit, hN0, hN]
      refine W_ret ?_
      try simp only [gthen, gblock]
      have h := Option.some.inj h; subst h
      refine fin_loc (.inr rfl) hU [.val (.bool true)] (by omega) ?_
      simp only [push_cast, Nat.reduceAdd, Nat.reduceSub, Nat.reduceMul, Nat.reduceLeDiff, Nat.reduceLT, Nat.reduceEqDiff, ↓reduceIte, reduceCtorEq, Int.reduceBEq, Int.reduceBNe, Nat.reduceBEq, Int.reduceLE, Int.reduceLT, Int.reduceEq, Int.reduceNe, Int.reduceNeg, Nat.reduceDiv, Nat.reduceMod, Nat.reducePow, cast_lit, Try.results60, hN0, hN]

theorem okb_centoref07_Same {r_centoref07_Same : (S_api_Tree → S_api_Tree → Option Bool)} (ok_r_centoref07_Same : ∀ {a0 : S_api_Tree} {a1 : S_api_Tree} {r : Bool} {O : Objs} {n : Nat}, r_centoref07_Same a0 a1 = some r → GTo Try.prog 25 [.agg [.val (.int .i64 a0.Kind), .sl a0.Words.length (fl (eI .u64) a0.Words), .sl a0.Kids.length (fl e_S_api_Tree a0.Kids)], .agg [.val (.int .i64 a1.Kind), .sl a1.Words.length (fl (eI .u64) a1.Words), .sl a1.Kids.length (fl e_S_api_Tree a1.Kids)]] O n (.val (.bool r)) O n) {a0 : S_api_Tree} {a1 : S_api_Tree} {r : Bool} {O : Objs} {n : Nat} (h : b_centoref07_Same r_centoref07_Same a0 a1 = some r) : GTo Try.prog 25 [.agg [.val (.int .i64 a0.Kind), .sl a0.Words.length (fl (eI .u64) a0.Words), .sl a0.Kids.length (fl e_S_api_Tree a0.Kids)], .agg [.val (.int .i64 a1.Kind), .sl a1.Words.length (fl (eI .u64) a1.Words), .sl a1.Kids.length (fl e_S_api_Tree a1.Kids)]] O n (.val (.bool r)) O n := by
  unfold b_centoref07_Same at h
  refine fn_of tab_ok Try.call25 Try.func25 rfl (Nat.le_of_ble_eq_true rfl) (Nat.le_refl _) fun hU => ?_
  have hN0 : O n = none := hU.fresh _ (Nat.le_refl _)
  have hN : ∀ k, O (n + k) = none := fun k => hU.fresh _ (Nat.le_add_right _ _)
  show W _ _ _ _ ⟨47, [], [(0, .agg [.val (.int .i64 a0.Kind), .sl a0.Words.length (fl (eI .u64) a0.Words), .sl a0.Kids.length (fl e_S_api_Tree a0.Kids)]), (1, .agg [.val (.int .i64 a1.Kind), .sl a1.Words.length (fl (eI .u64) a1.Words), .sl a1.Kids.length (fl e_S_api_Tree a1.Kids)])]⟩ (Loc O n []) _
  refine W_sq [2, 3] (W_regionD tab_ok [] ?_)
  simp only [push_cast, Nat.reduceAdd, Nat.reduceSub, Nat.reduceMul, Nat.reduceLeDiff, Nat.reduceLT, Nat.reduceEqDiff, ↓reduceIte, reduceCtorEq, Int.reduceBEq, Int.reduceBNe, Nat.reduceBEq, Int.reduceLE, Int.reduceLT, Int.reduceEq, Int.reduceNe, Int.reduceNeg, Nat.reduceDiv, Nat.reduceMod, Nat.reducePow, cast_lit, hN0, hN]
  refine W_seqK ?_
  obtain ⟨z2, hz2, h⟩ := bC h
  refine W_seqN (E' := ⟨47, [], [(2, .ref n 0), (3, .ref (n + 1) 0), (27, .val (.bool z2))]⟩) (O' := (Loc O n [some ⟨false, 25, 3, 1, [.val (.int .i64 a0.Kind), .sl a0.Words.length (fl (eI .u64) a0.Words), .sl a0.Kids.length (fl e_S_api_Tree a0.Kids)]⟩, some ⟨false, 25, 3, 1, [.val (.int .i64 a1.Kind), .sl a1.Words.length (fl (eI .u64) a1.Words), .sl a1.Kids.length (fl e_S_api_Tree a1.Kids)]⟩])) (n0 := (n + 2)) ?_ ?_
  · rcases Bool.eq_false_or_eq_true (a0.Kind != a1.Kind) with c4 | c4
    · replace hz2 := condT c4 hz2
      refine W_regionD tab_ok [some false, some false, some false, some false, some false, some false, some false, some false, some false, some false, some false, some false, some false] ?_
      simp only [push_cast, Nat.reduceAdd, Nat.reduceSub, Nat.reduceMul, Nat.reduceLeDiff, Nat.reduceLT, Nat.reduceEqDiff, ↓reduceIte, reduceCtorEq, Int.reduceBEq, Int.reduceBNe, Nat.reduceBEq, Int.reduceLE, Int.reduceLT, Int.reduceEq, Int.reduceNe, Int.reduceNeg, Nat.reduceDiv, Nat.reduceMod, Nat.reducePow, cast_lit, c4, hN0, hN]
      have hz2 := Option.some.inj hz2; subst hz2
      refine And.intro rfl (Fit2.of (fit_loc hU rfl rfl ?_) (by omega))
      simp only [push_cast, Nat.reduceAdd, Nat.reduceSub, Nat.reduceMul, Nat.reduceLeDiff, Nat.reduceLT, Nat.reduceEqDiff, ↓reduceIte, reduceCtorEq, Int.reduceBEq, Int.reduceBNe, Nat.reduceBEq, Int.reduceLE, Int.reduceLT, Int.reduceEq, Int.reduceNe, Int.reduceNeg, Nat.reduceDiv, Nat.reduceMod, Nat.reducePow, cast_lit, c4, hN0, hN]
    · replace hz2 := condF c4 hz2
      obtain ⟨y3, hy3, hz2⟩ := bC hz2
      refine W_regionD tab_ok [some true, some true, some true, some true, some true, some true, none, none, none, none, none, none, none] ?_
      simp only [push_cast, Nat.reduceAdd, Nat.reduceSub, Nat.reduceMul, Nat.reduceLeDiff, Nat.reduceLT, Nat.reduceEqDiff, ↓reduceIte, reduceCtorEq, Int.reduceBEq, Int.reduceBNe, Nat.reduceBEq, Int.reduceLE, Int.reduceLT, Int.reduceEq, Int.reduceNe, Int.reduceNeg, Nat.reduceDiv, Nat.reduceMod, Nat.reducePow, cast_lit, c4, hN0, hN]
      repeat (with_reducible refine And.intro (by first | (intro h0; simp only [h0, and_self]; done) | (intro h0; simp only [h0, Bool.not_false, Bool.not_true, Bool.true_and, Bool.and_true, true_and, and_true, and_self, imp_self, implies_true, bne_iff_ne, ne_eq, beq_iff_eq]; done) | (intros; simp_all; done) | exact True.intro) ?_)
      refine (ok_centoref01_Same hy3).then ?_
      simp only [push_cast, Nat.reduceAdd, Nat.reduceSub, Nat.reduceMul, Nat.reduceLeDiff, Nat.reduceLT, Nat.reduceEqDiff, ↓reduceIte, reduceCtorEq, Int.reduceBEq, Int.reduceBNe, Nat.reduceBEq, Int.reduceLE, Int.reduceLT, Int.reduceEq, Int.reduceNe, Int.reduceNeg, Nat.reduceDiv, Nat.reduceMod, Nat.reducePow, cast_lit, c4, hN0, hN]
      repeat (with_reducible refine And.intro (by first | (intro h0; simp only [h0, and_self]; done) | (intro h0; simp only [h0, Bool.not_false, Bool.not_true, Bool.true_and, Bool.and_true, true_and, and_true, and_self, imp_self, implies_true, bne_iff_ne, ne_eq, beq_iff_eq]; done) | (intros; simp_all; done) | exact True.intro) ?_)
      have hz2 := Option.some.inj hz2; subst hz2
      refine And.intro rfl (Fit2.of (fit_loc hU rfl rfl ?_) (by omega))
      simp only [push_cast, Nat.reduceAdd, Nat.reduceSub, Nat.reduceMul, Nat.reduceLeDiff, Nat.reduceLT, Nat.reduceEqDiff, ↓reduceIte, reduceCtorEq, Int.reduceBEq, Int.reduceBNe, Nat.reduceBEq, Int.reduceLE, Int.reduceLT, Int.reduceEq, Int.reduceNe, Int.reduceNeg, Nat.reduceDiv, Nat.reduceMod, Nat.reducePow, cast_lit, c4, hN0, hN]
  refine W_cond (t := z2) rfl (fun c14 => ?_) (fun c14 => ?_)
  · replace h := condT c14 h
    refine W_sq [4] (W_regionD tab_ok [] ?_)
    simp only [push_cast, Nat.reduceAdd, Nat.reduceSub, Nat.reduceMul, Nat.reduceLeDiff, Nat.reduceLT, Nat.reduceEqDiff, ↓reduceIte, reduceCtorEq, Int.reduceBEq, Int.reduceBNe, Nat.reduceBEq, Int.reduceLE, Int.reduceLT, Int.reduceEq, Int.reduceNe, Int.reduceNeg, Nat.reduceDiv, Nat.reduceMod, Nat.reducePow, cast_lit, hN0, hN]
    refine W_ret ?_
    try simp only [gthen, gblock]
    have h := Option.some.inj h; subst h
    refine fin_loc (.inr rfl) hU [.val (.bool false)] (by omega) ?_
    simp only [push_cast, Nat.reduceAdd, Nat.reduceSub, Nat.reduceMul, Nat.reduceLeDiff, Nat.reduceLT, Nat.reduceEqDiff, ↓reduceIte, reduceCtorEq, Int.reduceBEq, Int.reduceBNe, Nat.reduceBEq, Int.reduceLE, Int.reduceLT, Int.reduceEq, Int.reduceNe, Int.reduceNeg, Nat.reduceDiv, Nat.reduceMod, Nat.reducePow, cast_lit, Try.results25, hN0, hN]
  · replace h := condF c14 h
    refine W_skip ?_
    try simp only [gthen, gblock]
    refine W_fit ⟨47, [], [(2, .ref n 0), (3, .ref (n + 1) 0)]⟩ (Loc O n [some ⟨false, 25, 3, 1, [.val (.int .i64 a0.Kind), .sl a0.Words.length (fl (eI .u64) a0.Words), .sl a0.Kids.length (fl e_S_api_Tree a0.Kids)]⟩, some ⟨false, 25, 3, 1, [.val (.int .i64 a1.Kind), .sl a1.Words.length (fl (eI .u64) a1.Words), .sl a1.Kids.length (fl e_S_api_Tree a1.Kids)]⟩]) (fit_loc hU rfl rfl ?_) ?_
    · simp only [push_cast, Nat.reduceAdd, Nat.reduceSub, Nat.reduceMul, Nat.reduceLeDiff, Nat.reduceLT, Nat.reduceEqDiff, ↓reduceIte, reduceCtorEq, Int.reduceBEq, Int.reduceBNe, Nat.reduceBEq, Int.reduceLE, Int.reduceLT, Int.reduceEq, Int.reduceNe, Int.reduceNeg, Nat.reduceDiv, Nat.reduceMod, Nat.reducePow, cast_lit, hN0, hN]
    refine W_seqK ?_
    refine W_sq [2, 3, 5] (W_regionD tab_ok [] ?_)
    simp only [push_cast, Nat.reduceAdd, Nat.reduceSub, Nat.reduceMul, Nat.reduceLeDiff, Nat.reduceLT, Nat.reduceEqDiff, ↓reduceIte, reduceCtorEq, Int.reduceBEq, Int.reduceBNe, Nat.reduceBEq, Int.reduceLE, Int.reduceLT, Int.reduceEq, Int.reduceNe, Int.reduceNeg, Nat.reduceDiv, Nat.reduceMod, Nat.reducePow, cast_lit, hN0, hN]
    refine W_fit ⟨47, [], [(2, .ref n 0), (3, .ref (n + 1) 0), (5, .val (.int .i64 0))]⟩ (Loc O n [some ⟨false, 25, 3, 1, [.val (.int .i64 a0.Kind), .sl a0.Words.length (fl (eI .u64) a0.Words), .sl a0.Kids.length (fl e_S_api_Tree a0.Kids)]⟩, some ⟨false, 25, 3, 1, [.val (.int .i64 a1.Kind), .sl a1.Words.length (fl (eI .u64) a1.Words), .sl a1.Kids.length (fl e_S_api_Tree a1.Kids)]⟩]) (fit_loc hU rfl rfl ?_) ?_
    · simp only [push_cast, Nat.reduceAdd, Nat.reduceSub, Nat.reduceMul, Nat.reduceLeDiff, Nat.reduceLT, Nat.reduceEqDiff, ↓reduceIte, reduceCtorEq, Int.reduceBEq, Int.reduceBNe, Nat.reduceBEq, Int.reduceLE, Int.reduceLT, Int.reduceEq, Int.reduceNe, Int.reduceNeg, Nat.reduceDiv, Nat.reduceMod, Nat.reducePow, cast_lit, hN0, hN]
    obtain ⟨z13, hz13, h⟩ := bC h
    refine W_sumB (J := (SumJ (fun z13 => JR n (⟨47, [], [(4, .val (.bool false))]⟩ : Env) (Loc O n [none, none]) (n + 2)) (fun z13 => JX 0 n (⟨47, [], []⟩ : Env) (Loc O n [none, none]) (n + 2)))) (z := z13) ?_ fun hw => ?_
    · refine W_loopJ hz13 (fun s0_ => ⟨47, [], [(2, .ref n 0), (3, .ref (n + 1) 0), (5, .val (.int .i64 s0_))]⟩) (fun s0_ => (Loc O n [some ⟨false, 25, 3, 1, [.val (.int .i64 a0.Kind), .sl a0.Words.length (fl (eI .u64) a0.Words), .sl a0.Kids.length (fl e_S_api_Tree a0.Kids)]⟩, some ⟨false, 25, 3, 1, [.val (.int .i64 a1.Kind), .sl a1.Words.length (fl (eI .u64) a1.Words), .sl a1.Kids.length (fl e_S_api_Tree a1.Kids)]⟩])) (SumJ (fun z13 => JR n (⟨47, [], [(4, .val (.bool false))]⟩ : Env) (Loc O n [none, none]) (n + 2)) (fun z13 => JX 0 n (⟨47, [], []⟩ : Env) (Loc O n [none, none]) (n + 2))) ?_
      intro s0_ x0_ hs0_
      unfold b_centoref07_Same_L0 at hs0_
      try dsimp only
      refine W_seqK ?_
      refine W_sq [2, 3, 5, 32] (W_regionD tab_ok [] ?_)
      simp only [push_cast, Nat.reduceAdd, Nat.reduceSub, Nat.reduceMul, Nat.reduceLeDiff, Nat.reduceLT, Nat.reduceEqDiff, ↓reduceIte, reduceCtorEq, Int.reduceBEq, Int.reduceBNe, Nat.reduceBEq, Int.reduceLE, Int.reduceLT, Int.reduceEq, Int.reduceNe, Int.reduceNeg, Nat.reduceDiv, Nat.reduceMod, Nat.reducePow, cast_lit, hN0, hN]
      refine W_cond (t := (decide (s0_ < (a0.Kids.length : Int)))) rfl (fun c12 => ?_) (fun c12 => ?_)
      · replace hs0_ := condT c12 hs0_
        refine W_skip ?_
        try simp only [gthen, gblock]
        refine W_fit ⟨47, [], [(2, .ref n 0), (3, .ref (n + 1) 0), (5, .val (.int .i64 s0_))]⟩ (Loc O n [some ⟨false, 25, 3, 1, [.val (.int .i64 a0.Kind), .sl a0.Words.length (fl (eI .u64) a0.Words), .sl a0.Kids.length (fl e_S_api_Tree a0.Kids)]⟩, some ⟨false, 25, 3, 1, [.val (.int .i64 a1.Kind), .sl a1.Words.length (fl (eI .u64) a1.Words), .sl a1.Kids.length (fl e_S_api_Tree a1.Kids)]⟩]) (fit_loc hU rfl rfl ?_) ?_
        · simp only [push_cast, Nat.reduceAdd, Nat.reduceSub, Nat.reduceMul, Nat.reduceLeDiff, Nat.reduceLT, Nat.reduceEqDiff, ↓reduceIte, reduceCtorEq, Int.reduceBEq, Int.reduceBNe, Nat.reduceBEq, Int.reduceLE, Int.reduceLT, Int.reduceEq, Int.reduceNe, Int.reduceNeg, Nat.reduceDiv, Nat.reduceMod, Nat.reducePow, cast_lit, hN0, hN]
        refine W_seqK ?_
        refine W_block ?_
        refine W_seqK ?_
        obtain ⟨x8, hx8, ax8, bx8, cx8, hs0_⟩ := bE (f := e_S_api_Tree) tab25 (fun _ => rfl) (by decide) hs0_
        obtain ⟨x9, hx9, ax9, bx9, cx9, hs0_⟩ := bE (f := e_S_api_Tree) tab25 (fun _ => rfl) (by decide) hs0_
        obtain ⟨y10, hy10, hs0_⟩ := bC hs0_
        refine W_drawD tab_ok (by kernel_rfl) [] (by kernel_rfl) ?_
        simp only [push_cast, Nat.reduceAdd, Nat.reduceSub, Nat.reduceMul, Nat.reduceLeDiff, Nat.reduceLT, Nat.reduceEqDiff, ↓reduceIte, reduceCtorEq, Int.reduceBEq, Int.reduceBNe, Nat.reduceBEq, Int.reduceLE, Int.reduceLT, Int.reduceEq, Int.reduceNe, Int.reduceNeg, Nat.reduceDiv, Nat.reduceMod, Nat.reducePow, cast_lit, ax8, bx8, cx8, ax9, bx9, cx9, hN0, hN]
        refine PCall.of (ok_r_centoref07_Same hy10) ?_
        simp only [push_cast, Nat.reduceAdd, Nat.reduceSub, Nat.reduceMul, Nat.reduceLeDiff, Nat.reduceLT, Nat.reduceEqDiff, ↓reduceIte, reduceCtorEq, Int.reduceBEq, Int.reduceBNe, Nat.reduceBEq, Int.reduceLE, Int.reduceLT, Int.reduceEq, Int.reduceNe, Int.reduceNeg, Nat.reduceDiv, Nat.reduceMod, Nat.reducePow, cast_lit, ax8, bx8, cx8, ax9, bx9, cx9, hN0, hN]
        refine W_fit ⟨47, [], [(2, .ref n 0), (3, .ref (n + 1) 0), (5, .val (.int .i64 s0_)), (46, .val (.bool (!y10)))]⟩ (Loc O n [some ⟨false, 25, 3, 1, [.val (.int .i64 a0.Kind), .sl a0.Words.length (fl (eI .u64) a0.Words), .sl a0.Kids.length (fl e_S_api_Tree a0.Kids)]⟩, some ⟨false, 25, 3, 1, [.val (.int .i64 a1.Kind), .sl a1.Words.length (fl (eI .u64) a1.Words), .sl a1.Kids.length (fl e_S_api_Tree a1.Kids)]⟩]) (fit_loc hU rfl rfl ?_) ?_
        · simp only [push_cast, Nat.reduceAdd, Nat.reduceSub, Nat.reduceMul, Nat.reduceLeDiff, Nat.reduceLT, Nat.reduceEqDiff, ↓reduceIte, reduceCtorEq, Int.reduceBEq, Int.reduceBNe, Nat.reduceBEq, Int.reduceLE, Int.reduceLT, Int.reduceEq, Int.reduceNe, Int.reduceNeg, Nat.reduceDiv, Nat.reduceMod, Nat.reducePow, cast_lit, ax8, bx8, cx8, ax9, bx9, cx9, hN0, hN]
        refine W_cond (t := (!y10)) rfl (fun c11 => ?_) (fun c11 => ?_)
        · replace hs0_ := condT c11 hs0_
          refine W_sq [4] (W_regionD tab_ok [] ?_)
          simp only [push_cast, Nat.reduceAdd, Nat.reduceSub, Nat.reduceMul, Nat.reduceLeDiff, Nat.reduceLT, Nat.reduceEqDiff, ↓reduceIte, reduceCtorEq, Int.reduceBEq, Int.reduceBNe, Nat.reduceBEq, Int.reduceLE, Int.reduceLT, Int.reduceEq, Int.reduceNe, Int.reduceNeg, Nat.reduceDiv, Nat.reduceMod, Nat.reducePow, cast_lit, hN0, hN]
          refine W_ret ?_
          try simp only [gthen, gblock]
          have hs0_ := Option.some.inj hs0_; subst hs0_
          refine And.intro (fun h => by cases h) (And.intro rfl (Fit2.of (fit_loc hU rfl rfl ?_) (by omega)))
          simp only [push_cast, Nat.reduceAdd, Nat.reduceSub, Nat.reduceMul, Nat.reduceLeDiff, Nat.reduceLT, Nat.reduceEqDiff, ↓reduceIte, reduceCtorEq, Int.reduceBEq, Int.reduceBNe, Nat.reduceBEq, Int.reduceLE, Int.reduceLT, Int.reduceEq, Int.reduceNe, Int.reduceNeg, Nat.reduceDiv, Nat.reduceMod, Nat.reducePow, cast_lit, hN0, hN]
        · replace hs0_ := condF c11 hs0_
          refine W_skip ?_
          try simp only [gthen, gblock]
          refine W_fit ⟨47, [], [(2, .ref n 0), (3, .ref (n + 1) 0), (5, .val (.int .i64 s0_))]⟩ (Loc O n [some ⟨false, 25, 3, 1, [.val (.int .i64 a0.Kind), .sl a0.Words.length (fl (eI .u64) a0.Words), .sl a0.Kids.length (fl e_S_api_Tree a0.Kids)]⟩, some ⟨false, 25, 3, 1, [.val (.int .i64 a1.Kind), .sl a1.Words.length (fl (eI .u64) a1.Words), .sl a1.Kids.length (fl e_S_api_Tree a1.Kids)]⟩]) (fit_loc hU rfl rfl ?_) ?_
          · simp only [push_cast, Nat.reduceAdd, Nat.reduceSub, Nat.reduceMul, Nat.reduceLeDiff, Nat.reduceLT, Nat.reduceEqDiff, ↓reduceIte, reduceCtorEq, Int.reduceBEq, Int.reduceBNe, Nat.reduceBEq, Int.reduceLE, Int.reduceLT, Int.reduceEq, Int.reduceNe, Int.reduceNeg, Nat.reduceDiv, Nat.reduceMod, Nat.reducePow, cast_lit, hN0, hN]
          refine W_regionD tab_ok [] ?_
          simp only [push_cast, Nat.reduceAdd, Nat.reduceSub, Nat.reduceMul, Nat.reduceLeDiff, Nat.reduceLT, Nat.reduceEqDiff, ↓reduceIte, reduceCtorEq, Int.reduceBEq, Int.reduceBNe, Nat.reduceBEq, Int.reduceLE, Int.reduceLT, Int.reduceEq, Int.reduceNe, Int.reduceNeg, Nat.reduceDiv, Nat.reduceMod, Nat.reducePow, cast_lit, hN0, hN]
          have hs0_ := Option.some.inj hs0_; subst hs0_
          refine And.intro rfl (Fit2.of (fit_loc hU rfl rfl ?_) (by omega))
          simp only [push_cast, Nat.reduceAdd, Nat.reduceSub, Nat.reduceMul, Nat.reduceLeDiff, Nat.reduceLT, Nat.reduceEqDiff, ↓reduceIte, reduceCtorEq, Int.reduceBEq, Int.reduceBNe, Nat.reduceBEq, Int.reduceLE, Int.reduceLT, Int.reduceEq, Int.reduceNe, Int.reduceNeg, Nat.reduceDiv, Nat.reduceMod, Nat.reducePow, cast_lit, hN0, hN]
      · replace hs0_ := condF c12 hs0_
        refine W_exit ?_
        try simp only [gthen, gblock, ↓reduceIte, Nat.reduceEqDiff]
        have hs0_ := Option.some.inj hs0_; subst hs0_
        refine And.intro (fun h => by cases h) (And.intro rfl (Fit2.of (fit_loc hU rfl rfl ?_) (by omega)))
        simp only [push_cast, Nat.reduceAdd, Nat.reduceSub, Nat.reduceMul, Nat.reduceLeDiff, Nat.reduceLT, Nat.reduceEqDiff, ↓reduceIte, reduceCtorEq, Int.reduceBEq, Int.reduceBNe, Nat.reduceBEq, Int.reduceLE, Int.reduceLT, Int.reduceEq, Int.reduceNe, Int.reduceNeg, Nat.reduceDiv, Nat.reduceMod, Nat.reducePow, cast_lit, hN0, hN]
    rcases z13 with z13 | z13
    · dsimp only [SumJ] at hw h
      refine W_blockR hw ?_
      try simp only [gthen, gblock, ↓reduceIte, Nat.reduceEqDiff]
      have h := Option.some.inj h; subst h
      refine fin_loc (.inr rfl) hU [.val (.bool false)] (by omega) ?_
      simp only [push_cast, Nat.reduceAdd, Nat.reduceSub, Nat.reduceMul, Nat.reduceLeDiff, Nat.reduceLT, Nat.reduceEqDiff, ↓reduceIte, reduceCtorEq, Int.reduceBEq, Int.reduceBNe, Nat.reduceBEq, Int.reduceLE, Int.reduceLT, Int.reduceEq, Int.reduceNe, Int.reduceNeg, Nat.reduceDiv, Nat.reduceMod, Nat.reducePow, cast_lit, Try.results25, hN0, hN]
    · dsimp only [SumJ] at hw h
      refine W_blockX hw ?_
      try simp only [gthen, gblock, ↓reduceIte, Nat.reduceEqDiff]
      refine W_fit ⟨47, [], []⟩ (Loc O n [none, none]) (fit_loc hU rfl rfl ?_) ?_
      · simp only [push_cast, Nat.reduceAdd, Nat.reduceSub, Nat.reduceMul, Nat.reduceLeDiff, Nat.reduceLT, Nat.reduceEqDiff, ↓reduceIte, reduceCtorEq, Int.reduceBEq, Int.reduceBNe, Nat.reduceBEq, Int.reduceLE, Int.reduceLT, Int.reduceEq, Int.reduceNe, Int.reduceNeg, Nat.reduceDiv, Nat.reduceMod, Nat.reducePow, cast_lit, hN0, hN]
      refine W_sq [4] (W_regionD tab_ok [] ?_)
      simp only [push_cast, Nat.reduceAdd, Nat.reduceSub, Nat.reduceMul, Nat.reduceLeDiff, Nat.reduceLT, Nat.reduceEqDiff, ↓reduceIte, reduceCtorEq, Int.reduceBEq, Int.reduceBNe, Nat.reduceBEq, Int.reduceLE, Int.reduceLT, Int.reduceEq, Int.reduceNe, Int.reduceNeg, Nat.reduceDiv, Nat.reduceMod, Nat.reducePow, cast_lit, hN0, hN]
      refine W_ret ?_
      try simp only [gthen, gblock]
      have h := Option.some.inj h; subst h
      refine fin_loc (.inr rfl) hU [.val (.bool true)] (by omega) ?_
      simp only [push_cast, Nat.reduceAdd, Nat.reduceSub, Nat.reduceMul, Nat.reduceLeDiff, Nat.reduceLT, Nat.reduceEqDiff, ↓reduceIte, reduceCtorEq, Int.reduceBEq, Int.reduceBNe, Nat.reduceBEq, Int.reduceLE, Int.reduceLT, Int.reduceEq, Int.reduceNe, Int.reduceNeg, Nat.reduceDiv, Nat.reduceMod, Nat.reducePow, cast_lit, Try.results25, hN0, hN]

theorem lv_centoref07_Same_ok : ∀ k, (∀ {a0 : S_api_Tree} {a1 : S_api_Tree} {r : Bool} {O : Objs} {n : Nat}, (lv_centoref07_Same k) a0 a1 = some r → GTo Try.prog 25 [.agg [.val (.int .i64 a0.Kind), .sl a0.Words.length (fl (eI .u64) a0.Words), .sl a0.Kids.length (fl e_S_api_Tree a0.Kids)], .agg [.val (.int .i64 a1.Kind), .sl a1.Words.length (fl (eI .u64) a1.Words), .sl a1.Kids.length (fl e_S_api_Tree a1.Kids)]] O n (.val (.bool r)) O n) := fun k => by
  induction k with
  | zero => exact @fun a0 a1 r O n h => (nomatch (show (none : Option _) = some _ from h))
  | succ k ih => exact @fun a0 a1 r O n h => okb_centoref07_Same (ih)  h

theorem ok_centoref07_Same {a0 : S_api_Tree} {a1 : S_api_Tree} {r : Bool} {O : Objs} {n : Nat} (h : m_centoref07_Same a0 a1 = some r) : GTo Try.prog 25 [.agg [.val (.int .i64 a0.Kind), .sl a0.Words.length (fl (eI .u64) a0.Words), .sl a0.Kids.length (fl e_S_api_Tree a0.Kids)], .agg [.val (.int .i64 a1.Kind), .sl a1.Words.length (fl (eI .u64) a1.Words), .sl a1.Kids.length (fl e_S_api_Tree a1.Kids)]] O n (.val (.bool r)) O n := by
  obtain ⟨k, hk⟩ := lim_some h
  exact (lv_centoref07_Same_ok k)  hk

end Go.Proofs.Ytbcgiaijjaocdaa
