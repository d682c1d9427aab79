/- Part AM2 of this seat's mirrors: functions of the seat's program, and the plain functions that they are; each theorem bears its own conditions. -/
import Derived.Test.YtgijkjifiekkmaaAE
import Derived.Test.YtgijkjifiekkmaaAM1
namespace Go.Proofs.Ytgijkjifiekkmaa
open Go.RowKit
set_option linter.unusedVariables false
set_option linter.unusedSimpArgs false
set_option maxRecDepth 100000
attribute [local push_cast] gfork_t gfork_f pfork_t pfork_f gthen gblock gops_nil gops_plain gops_guard onW gwantB gcalm gact gpick gpickV strip evS wok calmOp Op.operands Call.operands gop onK onP atK List.all_cons List.all_nil Bool.and_true Bool.true_and Bool.and_self Value.oneCell' List.take_zero List.take_succ_cons List.take_nil List.drop_zero List.drop_succ_cons List.drop_nil List.append_nil Nat.add_zero Nat.zero_add gstep gputE ev look genv gbin geqS geqF gint gunary gconvert gload gcells gpart_lit gstore gcellsOf gput gplace_lit gfieldAddr gstepIn gindexAddr gindex gfield gopt bLo bHi bMx gextract galloc gbox gbuild gfill gplaces gbuildSlice gmake glen gappend gsrc gbuiltin gnil isLive gres gone prun_nil prun_plain prun_guard pop TK.isAgg G.one G.under G.unders List.getD_cons_zero List.getD_cons_succ List.set_cons_zero List.set_cons_succ List.map_cons List.map_nil List.toList_toArray Array.toList_append Option.toArray_none Option.toArray_some Array.toList_map Option.map_some Option.map_none Option.bind_some Option.bind_none List.getElem?_cons_zero List.getElem?_cons_succ List.getElem?_nil List.nil_append List.cons_append List.replicate_succ List.replicate_zero List.length_cons List.length_nil and_true true_and and_false false_and Bool.true_eq_false Bool.false_eq_true forall_const false_implies implies_true IntKind.bits if_true if_false ite_true ite_false eq_self true_implies false_or or_false or_true true_or not_true_eq_false not_false_eq_true decide_true decide_false decide_eq_true_eq decide_eq_false_iff_not beq_iff_eq bne_iff_ne ne_eq Bool.not_eq_true Bool.not_eq_false beq_eq_false_iff_ne bne_eq_false_iff_eq beq_self_eq_true bne_self_eq_false Option.some.injEq exists_eq_left' exists_eq_left ge_iff_le gt_iff_lt decide_not Bool.not_true Bool.not_false imp_self gquiet cond_true cond_false beqT beqF Bool.not_not Bool.and_false Bool.false_and Bool.or_true Bool.true_or Bool.or_false Bool.false_or Loc_at Loc_at0 Loc_upd Loc_upd0 Loc_push Loc_push0 Option.join_some Nat.add_assoc Int.toNat_natCast eI eB eS eL fl_nil gopsD_nil gopsD_plain gopsD_t gopsD_f gopsD_n onKD onWD prunD_nil prunD_plain prunD_t prunD_f prunD_n onPD fitO fitO1 sameO fitL fl_append fl_one List.length_append G.agg.injEq G.row.injEq G.ref.injEq G.val.injEq G.sl.injEq G.tup.injEq Value.int.injEq Value.bool.injEq Value.string.injEq List.cons.injEq exists_and_left exists_const List.flatten_cons List.flatten_nil Int.le_refl Nat.le_refl upd_updU Loc_out Loc_updo Bool.not_eq_true' Bool.not_eq_false' wkl_nil wkl_cons wk_any wk_val wk_agg wk_tup wk_sl wk_slnil wk_slrow wk_ip wk_ipref wk_row wk_rs wk_rp wk_ref locLt0 locLt Option.join_none upd_same fl_cons undef keepL Arr.len Arr.put_eq prunB_nil prunB_bar prunB_bart prunB_plain prunB_t prunB_f prunB_n onB onBP gcopy setI_len Loc_cat0 Loc_cat1 Loc_cat2 Loc_cat3 Loc_cat4 Loc_cat5 noObjs_at tab2 tkind2 tab3 tkind3 tab4 tkind4 tab5 tkind5 tab6 tkind6 tab7 tkind7 tab8 tkind8 tab9 tkind9 tab10 tkind10 tab11 tkind11 tab12 tkind12 tab13 tkind13 tab14 tkind14 tab15 tkind15 tab16 tkind16 tab17 tkind17 tab18 tkind18 tab19 tkind19 tab21 tkind21 tab22 tkind22 tab23 tkind23 tab28 tkind28 tab37 tkind37 tab38 tkind38 tab39 tkind39 tab42 tkind42 tab48 tkind48 tab49 tkind49 tab51 tkind51 tab53 tkind53 tab54 tkind54 tab57 tkind57 tab58 tkind58 tab62 tkind62 tab66 tkind66 tab67 tkind67 tab70 tkind70 tab79 tkind79 tab80 tkind80 tab83 tkind83 tab84 tkind84 tab91 tkind91 tab104 tkind104 tab105 tkind105 tab114 tkind114 wkl_eI_u64 wka_eI_u64 len_eI_u64 one_eI_u64 und_eI_u64 wkl_eL_eI_u64 wka_eL_eI_u64 len_eL_eI_u64 one_eL_eI_u64 und_eL_eI_u64 wkl_eI_u8 wka_eI_u8 len_eI_u8 one_eI_u8 und_eI_u8 wkl_eI_i64 wka_eI_i64 len_eI_i64 one_eI_i64 und_eI_i64
theorem ok_centoref03_Unframe {a0 : (List Int)} {r : ((List (List Int)) × Int)} {O : Objs} {n : Nat} (h : m_centoref03_Unframe a0 = some r) : GTo Try.prog 21 [.sl a0.length (fl (eI .u8) a0)] O n (.tup [.sl r.1.length (fl (eL (eI .u64)) r.1), .val (.int .i64 r.2)]) O n := by
  unfold m_centoref03_Unframe at h
  refine fn_of tab_ok Try.call21 Try.func21 rfl (Nat.le_of_ble_eq_true rfl) (Nat.le_refl _) fun hU => ?_
  have hN0 : O n = none := hU.fresh _ (Nat.le_refl _)
  have hN : ∀ k, O (n + k) = none := fun k => hU.fresh _ (Nat.le_add_right _ _)
  show W _ _ _ ⟨98, [], [(0, .sl a0.length (fl (eI .u8) a0))]⟩ (Loc O n []) _
  refine W_sq [0] (W_regionD tab_ok [] ?_)
  simp only [push_cast, Nat.reduceAdd, Nat.reduceSub, Nat.reduceMul, Nat.reduceLeDiff, Nat.reduceLT, Nat.reduceEqDiff, ↓reduceIte, reduceCtorEq, Int.reduceBEq, Int.reduceBNe, Nat.reduceBEq, Int.reduceLE, Int.reduceLT, Int.reduceEq, Int.reduceNe, Int.reduceNeg, Nat.reduceDiv, Nat.reduceMod, Nat.reducePow, cast_lit, hN0, hN]
  refine W_seqK ?_
  refine W_sq [0, 15] (W_regionD tab_ok [] ?_)
  simp only [push_cast, Nat.reduceAdd, Nat.reduceSub, Nat.reduceMul, Nat.reduceLeDiff, Nat.reduceLT, Nat.reduceEqDiff, ↓reduceIte, reduceCtorEq, Int.reduceBEq, Int.reduceBNe, Nat.reduceBEq, Int.reduceLE, Int.reduceLT, Int.reduceEq, Int.reduceNe, Int.reduceNeg, Nat.reduceDiv, Nat.reduceMod, Nat.reducePow, cast_lit, hN0, hN]
  refine W_cond (t := (decide ((a0.length : Int) < 4))) rfl (fun c29 => ?_) (fun c29 => ?_)
  · replace h := condT c29 h
    refine W_sq [2, 3] (W_regionD tab_ok [] ?_)
    simp only [push_cast, Nat.reduceAdd, Nat.reduceSub, Nat.reduceMul, Nat.reduceLeDiff, Nat.reduceLT, Nat.reduceEqDiff, ↓reduceIte, reduceCtorEq, Int.reduceBEq, Int.reduceBNe, Nat.reduceBEq, Int.reduceLE, Int.reduceLT, Int.reduceEq, Int.reduceNe, Int.reduceNeg, Nat.reduceDiv, Nat.reduceMod, Nat.reducePow, cast_lit, hN0, hN]
    refine W_ret ?_
    try simp only [gthen, gblock]
    have h := Option.some.inj h; subst h
    refine fin_loc (.inr rfl) hU [.val (.slice none 0 0), .val (.int .i64 4)] ?_
    simp only [push_cast, Nat.reduceAdd, Nat.reduceSub, Nat.reduceMul, Nat.reduceLeDiff, Nat.reduceLT, Nat.reduceEqDiff, ↓reduceIte, reduceCtorEq, Int.reduceBEq, Int.reduceBNe, Nat.reduceBEq, Int.reduceLE, Int.reduceLT, Int.reduceEq, Int.reduceNe, Int.reduceNeg, Nat.reduceDiv, Nat.reduceMod, Nat.reducePow, cast_lit, Try.results21, hN0, hN]
  · replace h := condF c29 h
    refine W_skip ?_
    try simp only [gthen, gblock]
    refine W_fit ⟨98, [], [(0, .sl a0.length (fl (eI .u8) a0))]⟩ (Loc O n []) (fit_loc hU rfl rfl ?_) ?_
    · simp only [push_cast, Nat.reduceAdd, Nat.reduceSub, Nat.reduceMul, Nat.reduceLeDiff, Nat.reduceLT, Nat.reduceEqDiff, ↓reduceIte, reduceCtorEq, Int.reduceBEq, Int.reduceBNe, Nat.reduceBEq, Int.reduceLE, Int.reduceLT, Int.reduceEq, Int.reduceNe, Int.reduceNeg, Nat.reduceDiv, Nat.reduceMod, Nat.reducePow, cast_lit, hN0, hN]
    refine W_seqK ?_
    obtain ⟨y2, hy2, h⟩ := bC h
    refine W_regionD tab_ok [] ?_
    simp only [push_cast, Nat.reduceAdd, Nat.reduceSub, Nat.reduceMul, Nat.reduceLeDiff, Nat.reduceLT, Nat.reduceEqDiff, ↓reduceIte, reduceCtorEq, Int.reduceBEq, Int.reduceBNe, Nat.reduceBEq, Int.reduceLE, Int.reduceLT, Int.reduceEq, Int.reduceNe, Int.reduceNeg, Nat.reduceDiv, Nat.reduceMod, Nat.reducePow, cast_lit, hN0, hN]
    refine (ok_centoref03_read hy2).then ?_
    simp only [push_cast, Nat.reduceAdd, Nat.reduceSub, Nat.reduceMul, Nat.reduceLeDiff, Nat.reduceLT, Nat.reduceEqDiff, ↓reduceIte, reduceCtorEq, Int.reduceBEq, Int.reduceBNe, Nat.reduceBEq, Int.reduceLE, Int.reduceLT, Int.reduceEq, Int.reduceNe, Int.reduceNeg, Nat.reduceDiv, Nat.reduceMod, Nat.reducePow, cast_lit, hN0, hN]
    refine W_fit ⟨98, [], [(0, .sl a0.length (fl (eI .u8) a0)), (4, .val (.int .i64 (IntKind.i64.wrap (y2 + 1))))]⟩ (Loc O n []) (fit_loc hU rfl rfl ?_) ?_
    · simp only [push_cast, Nat.reduceAdd, Nat.reduceSub, Nat.reduceMul, Nat.reduceLeDiff, Nat.reduceLT, Nat.reduceEqDiff, ↓reduceIte, reduceCtorEq, Int.reduceBEq, Int.reduceBNe, Nat.reduceBEq, Int.reduceLE, Int.reduceLT, Int.reduceEq, Int.reduceNe, Int.reduceNeg, Nat.reduceDiv, Nat.reduceMod, Nat.reducePow, cast_lit, hN0, hN]
    refine W_seqK ?_
    refine W_sq [0, 4, 20] (W_regionD tab_ok [] ?_)
    simp only [push_cast, Nat.reduceAdd, Nat.reduceSub, Nat.reduceMul, Nat.reduceLeDiff, Nat.reduceLT, Nat.reduceEqDiff, ↓reduceIte, reduceCtorEq, Int.reduceBEq, Int.reduceBNe, Nat.reduceBEq, Int.reduceLE, Int.reduceLT, Int.reduceEq, Int.reduceNe, Int.reduceNeg, Nat.reduceDiv, Nat.reduceMod, Nat.reducePow, cast_lit, hN0, hN]
    refine W_cond (t := (decide (16 < (IntKind.i64.wrap (y2 + 1))))) rfl (fun c28 => ?_) (fun c28 => ?_)
    · replace h := condT c28 h
      refine W_sq [2, 3] (W_regionD tab_ok [] ?_)
      simp only [push_cast, Nat.reduceAdd, Nat.reduceSub, Nat.reduceMul, Nat.reduceLeDiff, Nat.reduceLT, Nat.reduceEqDiff, ↓reduceIte, reduceCtorEq, Int.reduceBEq, Int.reduceBNe, Nat.reduceBEq, Int.reduceLE, Int.reduceLT, Int.reduceEq, Int.reduceNe, Int.reduceNeg, Nat.reduceDiv, Nat.reduceMod, Nat.reducePow, cast_lit, hN0, hN]
      refine W_ret ?_
      try simp only [gthen, gblock]
      have h := Option.some.inj h; subst h
      refine fin_loc (.inr rfl) hU [.val (.slice none 0 0), .val (.int .i64 3)] ?_
      simp only [push_cast, Nat.reduceAdd, Nat.reduceSub, Nat.reduceMul, Nat.reduceLeDiff, Nat.reduceLT, Nat.reduceEqDiff, ↓reduceIte, reduceCtorEq, Int.reduceBEq, Int.reduceBNe, Nat.reduceBEq, Int.reduceLE, Int.reduceLT, Int.reduceEq, Int.reduceNe, Int.reduceNeg, Nat.reduceDiv, Nat.reduceMod, Nat.reducePow, cast_lit, Try.results21, hN0, hN]
    · replace h := condF c28 h
      refine W_skip ?_
      try simp only [gthen, gblock]
      refine W_fit ⟨98, [], [(0, .sl a0.length (fl (eI .u8) a0)), (4, .val (.int .i64 (IntKind.i64.wrap (y2 + 1))))]⟩ (Loc O n []) (fit_loc hU rfl rfl ?_) ?_
      · simp only [push_cast, Nat.reduceAdd, Nat.reduceSub, Nat.reduceMul, Nat.reduceLeDiff, Nat.reduceLT, Nat.reduceEqDiff, ↓reduceIte, reduceCtorEq, Int.reduceBEq, Int.reduceBNe, Nat.reduceBEq, Int.reduceLE, Int.reduceLT, Int.reduceEq, Int.reduceNe, Int.reduceNeg, Nat.reduceDiv, Nat.reduceMod, Nat.reducePow, cast_lit, hN0, hN]
      refine W_sq [0, 4, 5] (W_regionD tab_ok [] ?_)
      simp only [push_cast, Nat.reduceAdd, Nat.reduceSub, Nat.reduceMul, Nat.reduceLeDiff, Nat.reduceLT, Nat.reduceEqDiff, ↓reduceIte, reduceCtorEq, Int.reduceBEq, Int.reduceBNe, Nat.reduceBEq, Int.reduceLE, Int.reduceLT, Int.reduceEq, Int.reduceNe, Int.reduceNeg, Nat.reduceDiv, Nat.reduceMod, Nat.reducePow, cast_lit, hN0, hN]
      obtain ⟨z3, hz3, h⟩ := bC h
      refine W_seqN (E' := ⟨98, [], [(0, .sl a0.length (fl (eI .u8) a0)), (4, .val (.int .i64 (IntKind.i64.wrap (y2 + 1)))), (5, .val (.int .i64 z3))]⟩) (O' := (Loc O n [])) (n0 := n) ?_ (by omega) ?_
      · refine W_sq [0, 4, 5, 26] (W_regionD tab_ok [] ?_)
        simp only [push_cast, Nat.reduceAdd, Nat.reduceSub, Nat.reduceMul, Nat.reduceLeDiff, Nat.reduceLT, Nat.reduceEqDiff, ↓reduceIte, reduceCtorEq, Int.reduceBEq, Int.reduceBNe, Nat.reduceBEq, Int.reduceLE, Int.reduceLT, Int.reduceEq, Int.reduceNe, Int.reduceNeg, Nat.reduceDiv, Nat.reduceMod, Nat.reducePow, cast_lit, hN0, hN]
        refine W_cond (t := (decide (0 < (Int.tmod (IntKind.i64.wrap (4 + (IntKind.i64.wrap (4 * (IntKind.i64.wrap (y2 + 1)))))) 8)))) rfl (fun c4 => ?_) (fun c4 => ?_)
        · replace hz3 := condT c4 hz3
          refine W_regionD tab_ok [] ?_
          simp only [push_cast, Nat.reduceAdd, Nat.reduceSub, Nat.reduceMul, Nat.reduceLeDiff, Nat.reduceLT, Nat.reduceEqDiff, ↓reduceIte, reduceCtorEq, Int.reduceBEq, Int.reduceBNe, Nat.reduceBEq, Int.reduceLE, Int.reduceLT, Int.reduceEq, Int.reduceNe, Int.reduceNeg, Nat.reduceDiv, Nat.reduceMod, Nat.reducePow, cast_lit, hN0, hN]
          have hz3 := Option.some.inj hz3; subst hz3
          refine And.intro rfl (fit_loc hU rfl rfl ?_)
          simp only [push_cast, Nat.reduceAdd, Nat.reduceSub, Nat.reduceMul, Nat.reduceLeDiff, Nat.reduceLT, Nat.reduceEqDiff, ↓reduceIte, reduceCtorEq, Int.reduceBEq, Int.reduceBNe, Nat.reduceBEq, Int.reduceLE, Int.reduceLT, Int.reduceEq, Int.reduceNe, Int.reduceNeg, Nat.reduceDiv, Nat.reduceMod, Nat.reducePow, cast_lit, hN0, hN]
        · replace hz3 := condF c4 hz3
          refine W_skip ?_
          try simp only [gthen, gblock]
          have hz3 := Option.some.inj hz3; subst hz3
          refine And.intro rfl (fit_loc hU rfl rfl ?_)
          simp only [push_cast, Nat.reduceAdd, Nat.reduceSub, Nat.reduceMul, Nat.reduceLeDiff, Nat.reduceLT, Nat.reduceEqDiff, ↓reduceIte, reduceCtorEq, Int.reduceBEq, Int.reduceBNe, Nat.reduceBEq, Int.reduceLE, Int.reduceLT, Int.reduceEq, Int.reduceNe, Int.reduceNeg, Nat.reduceDiv, Nat.reduceMod, Nat.reducePow, cast_lit, hN0, hN]
      refine W_seqK ?_
      refine W_sq [0, 4, 5, 32] (W_regionD tab_ok [] ?_)
      simp only [push_cast, Nat.reduceAdd, Nat.reduceSub, Nat.reduceMul, Nat.reduceLeDiff, Nat.reduceLT, Nat.reduceEqDiff, ↓reduceIte, reduceCtorEq, Int.reduceBEq, Int.reduceBNe, Nat.reduceBEq, Int.reduceLE, Int.reduceLT, Int.reduceEq, Int.reduceNe, Int.reduceNeg, Nat.reduceDiv, Nat.reduceMod, Nat.reducePow, cast_lit, hN0, hN]
      refine W_cond (t := (decide ((a0.length : Int) < z3))) rfl (fun c27 => ?_) (fun c27 => ?_)
      · replace h := condT c27 h
        refine W_sq [2, 3] (W_regionD tab_ok [] ?_)
        simp only [push_cast, Nat.reduceAdd, Nat.reduceSub, Nat.reduceMul, Nat.reduceLeDiff, Nat.reduceLT, Nat.reduceEqDiff, ↓reduceIte, reduceCtorEq, Int.reduceBEq, Int.reduceBNe, Nat.reduceBEq, Int.reduceLE, Int.reduceLT, Int.reduceEq, Int.reduceNe, Int.reduceNeg, Nat.reduceDiv, Nat.reduceMod, Nat.reducePow, cast_lit, hN0, hN]
        refine W_ret ?_
        try simp only [gthen, gblock]
        have h := Option.some.inj h; subst h
        refine fin_loc (.inr rfl) hU [.val (.slice none 0 0), .val (.int .i64 4)] ?_
        simp only [push_cast, Nat.reduceAdd, Nat.reduceSub, Nat.reduceMul, Nat.reduceLeDiff, Nat.reduceLT, Nat.reduceEqDiff, ↓reduceIte, reduceCtorEq, Int.reduceBEq, Int.reduceBNe, Nat.reduceBEq, Int.reduceLE, Int.reduceLT, Int.reduceEq, Int.reduceNe, Int.reduceNeg, Nat.reduceDiv, Nat.reduceMod, Nat.reducePow, cast_lit, Try.results21, hN0, hN]
      · replace h := condF c27 h
        refine W_skip ?_
        try simp only [gthen, gblock]
        refine W_fit ⟨98, [], [(0, .sl a0.length (fl (eI .u8) a0)), (4, .val (.int .i64 (IntKind.i64.wrap (y2 + 1)))), (5, .val (.int .i64 z3))]⟩ (Loc O n []) (fit_loc hU rfl rfl ?_) ?_
        · simp only [push_cast, Nat.reduceAdd, Nat.reduceSub, Nat.reduceMul, Nat.reduceLeDiff, Nat.reduceLT, Nat.reduceEqDiff, ↓reduceIte, reduceCtorEq, Int.reduceBEq, Int.reduceBNe, Nat.reduceBEq, Int.reduceLE, Int.reduceLT, Int.reduceEq, Int.reduceNe, Int.reduceNeg, Nat.reduceDiv, Nat.reduceMod, Nat.reducePow, cast_lit, hN0, hN]
        refine W_seqK ?_
        refine W_sq [0, 4, 5, 6] (W_regionD tab_ok [] ?_)
        simp only [push_cast, Nat.reduceAdd, Nat.reduceSub, Nat.reduceMul, Nat.reduceLeDiff, Nat.reduceLT, Nat.reduceEqDiff, ↓reduceIte, reduceCtorEq, Int.reduceBEq, Int.reduceBNe, Nat.reduceBEq, Int.reduceLE, Int.reduceLT, Int.reduceEq, Int.reduceNe, Int.reduceNeg, Nat.reduceDiv, Nat.reduceMod, Nat.reducePow, cast_lit, hN0, hN]
        refine W_fit ⟨98, [], [(0, .sl a0.length (fl (eI .u8) a0)), (4, .val (.int .i64 (IntKind.i64.wrap (y2 + 1)))), (5, .val (.int .i64 z3)), (6, .val (.int .i64 0))]⟩ (Loc O n []) (fit_loc hU rfl rfl ?_) ?_
        · simp only [push_cast, Nat.reduceAdd, Nat.reduceSub, Nat.reduceMul, Nat.reduceLeDiff, Nat.reduceLT, Nat.reduceEqDiff, ↓reduceIte, reduceCtorEq, Int.reduceBEq, Int.reduceBNe, Nat.reduceBEq, Int.reduceLE, Int.reduceLT, Int.reduceEq, Int.reduceNe, Int.reduceNeg, Nat.reduceDiv, Nat.reduceMod, Nat.reducePow, cast_lit, hN0, hN]
        obtain ⟨z9, hz9, h⟩ := bC h
        refine W_sumB (J := (SumJ (fun z9 => JR (⟨98, [], [(2, .val (.slice none 0 0)), (3, .val (.int .i64 3))]⟩ : Env) (Loc O n []) n) (fun z9 => JX 0 (⟨98, [], [(0, .sl a0.length (fl (eI .u8) a0)), (4, .val (.int .i64 (IntKind.i64.wrap (y2 + 1)))), (5, .val (.int .i64 z3))]⟩ : Env) (Loc O n []) n))) (z := z9) ?_ fun hw => ?_
        · refine W_loopJ hz9 (fun s0_ => ⟨98, [], [(0, .sl a0.length (fl (eI .u8) a0)), (4, .val (.int .i64 (IntKind.i64.wrap (y2 + 1)))), (5, .val (.int .i64 z3)), (6, .val (.int .i64 s0_))]⟩) (fun s0_ => (Loc O n [])) (SumJ (fun z9 => JR (⟨98, [], [(2, .val (.slice none 0 0)), (3, .val (.int .i64 3))]⟩ : Env) (Loc O n []) n) (fun z9 => JX 0 (⟨98, [], [(0, .sl a0.length (fl (eI .u8) a0)), (4, .val (.int .i64 (IntKind.i64.wrap (y2 + 1)))), (5, .val (.int .i64 z3))]⟩ : Env) (Loc O n []) n)) ?_
          intro s0_ x0_ hs0_
          unfold m_centoref03_Unframe_L0 at hs0_
          try dsimp only
          refine W_seqK ?_
          refine W_sq [0, 4, 5, 6, 35] (W_regionD tab_ok [] ?_)
          simp only [push_cast, Nat.reduceAdd, Nat.reduceSub, Nat.reduceMul, Nat.reduceLeDiff, Nat.reduceLT, Nat.reduceEqDiff, ↓reduceIte, reduceCtorEq, Int.reduceBEq, Int.reduceBNe, Nat.reduceBEq, Int.reduceLE, Int.reduceLT, Int.reduceEq, Int.reduceNe, Int.reduceNeg, Nat.reduceDiv, Nat.reduceMod, Nat.reducePow, cast_lit, hN0, hN]
          refine W_cond (t := (decide (s0_ < (IntKind.i64.wrap (y2 + 1))))) rfl (fun c8 => ?_) (fun c8 => ?_)
          · replace hs0_ := condT c8 hs0_
            refine W_skip ?_
            try simp only [gthen, gblock]
            refine W_fit ⟨98, [], [(0, .sl a0.length (fl (eI .u8) a0)), (4, .val (.int .i64 (IntKind.i64.wrap (y2 + 1)))), (5, .val (.int .i64 z3)), (6, .val (.int .i64 s0_))]⟩ (Loc O n []) (fit_loc hU rfl rfl ?_) ?_
            · simp only [push_cast, Nat.reduceAdd, Nat.reduceSub, Nat.reduceMul, Nat.reduceLeDiff, Nat.reduceLT, Nat.reduceEqDiff, ↓reduceIte, reduceCtorEq, Int.reduceBEq, Int.reduceBNe, Nat.reduceBEq, Int.reduceLE, Int.reduceLT, Int.reduceEq, Int.reduceNe, Int.reduceNeg, Nat.reduceDiv, Nat.reduceMod, Nat.reducePow, cast_lit, hN0, hN]
            refine W_seqK ?_
            refine W_block ?_
            refine W_seqK ?_
            obtain ⟨y6, hy6, hs0_⟩ := bC hs0_
            refine W_regionD tab_ok [] ?_
            simp only [push_cast, Nat.reduceAdd, Nat.reduceSub, Nat.reduceMul, Nat.reduceLeDiff, Nat.reduceLT, Nat.reduceEqDiff, ↓reduceIte, reduceCtorEq, Int.reduceBEq, Int.reduceBNe, Nat.reduceBEq, Int.reduceLE, Int.reduceLT, Int.reduceEq, Int.reduceNe, Int.reduceNeg, Nat.reduceDiv, Nat.reduceMod, Nat.reducePow, cast_lit, hN0, hN]
            refine (ok_centoref03_read hy6).then ?_
            simp only [push_cast, Nat.reduceAdd, Nat.reduceSub, Nat.reduceMul, Nat.reduceLeDiff, Nat.reduceLT, Nat.reduceEqDiff, ↓reduceIte, reduceCtorEq, Int.reduceBEq, Int.reduceBNe, Nat.reduceBEq, Int.reduceLE, Int.reduceLT, Int.reduceEq, Int.reduceNe, Int.reduceNeg, Nat.reduceDiv, Nat.reduceMod, Nat.reducePow, cast_lit, hN0, hN]
            refine W_fit ⟨98, [], [(0, .sl a0.length (fl (eI .u8) a0)), (4, .val (.int .i64 (IntKind.i64.wrap (y2 + 1)))), (5, .val (.int .i64 z3)), (6, .val (.int .i64 s0_)), (43, .val (.bool (decide (65536 < y6))))]⟩ (Loc O n []) (fit_loc hU rfl rfl ?_) ?_
            · simp only [push_cast, Nat.reduceAdd, Nat.reduceSub, Nat.reduceMul, Nat.reduceLeDiff, Nat.reduceLT, Nat.reduceEqDiff, ↓reduceIte, reduceCtorEq, Int.reduceBEq, Int.reduceBNe, Nat.reduceBEq, Int.reduceLE, Int.reduceLT, Int.reduceEq, Int.reduceNe, Int.reduceNeg, Nat.reduceDiv, Nat.reduceMod, Nat.reducePow, cast_lit, hN0, hN]
            refine W_cond (t := (decide (65536 < y6))) rfl (fun c7 => ?_) (fun c7 => ?_)
            · replace hs0_ := condT c7 hs0_
              refine W_sq [2, 3] (W_regionD tab_ok [] ?_)
              simp only [push_cast, Nat.reduceAdd, Nat.reduceSub, Nat.reduceMul, Nat.reduceLeDiff, Nat.reduceLT, Nat.reduceEqDiff, ↓reduceIte, reduceCtorEq, Int.reduceBEq, Int.reduceBNe, Nat.reduceBEq, Int.reduceLE, Int.reduceLT, Int.reduceEq, Int.reduceNe, Int.reduceNeg, Nat.reduceDiv, Nat.reduceMod, Nat.reducePow, cast_lit, hN0, hN]
              refine W_ret ?_
              try simp only [gthen, gblock]
              have hs0_ := Option.some.inj hs0_; subst hs0_
              refine And.intro (fun h => by cases h) (And.intro rfl (fit_loc hU rfl rfl ?_))
              simp only [push_cast, Nat.reduceAdd, Nat.reduceSub, Nat.reduceMul, Nat.reduceLeDiff, Nat.reduceLT, Nat.reduceEqDiff, ↓reduceIte, reduceCtorEq, Int.reduceBEq, Int.reduceBNe, Nat.reduceBEq, Int.reduceLE, Int.reduceLT, Int.reduceEq, Int.reduceNe, Int.reduceNeg, Nat.reduceDiv, Nat.reduceMod, Nat.reducePow, cast_lit, hN0, hN]
            · replace hs0_ := condF c7 hs0_
              refine W_skip ?_
              try simp only [gthen, gblock]
              refine W_fit ⟨98, [], [(0, .sl a0.length (fl (eI .u8) a0)), (4, .val (.int .i64 (IntKind.i64.wrap (y2 + 1)))), (5, .val (.int .i64 z3)), (6, .val (.int .i64 s0_))]⟩ (Loc O n []) (fit_loc hU rfl rfl ?_) ?_
              · simp only [push_cast, Nat.reduceAdd, Nat.reduceSub, Nat.reduceMul, Nat.reduceLeDiff, Nat.reduceLT, Nat.reduceEqDiff, ↓reduceIte, reduceCtorEq, Int.reduceBEq, Int.reduceBNe, Nat.reduceBEq, Int.reduceLE, Int.reduceLT, Int.reduceEq, Int.reduceNe, Int.reduceNeg, Nat.reduceDiv, Nat.reduceMod, Nat.reducePow, cast_lit, hN0, hN]
              refine W_regionD tab_ok [] ?_
              simp only [push_cast, Nat.reduceAdd, Nat.reduceSub, Nat.reduceMul, Nat.reduceLeDiff, Nat.reduceLT, Nat.reduceEqDiff, ↓reduceIte, reduceCtorEq, Int.reduceBEq, Int.reduceBNe, Nat.reduceBEq, Int.reduceLE, Int.reduceLT, Int.reduceEq, Int.reduceNe, Int.reduceNeg, Nat.reduceDiv, Nat.reduceMod, Nat.reducePow, cast_lit, hN0, hN]
              have hs0_ := Option.some.inj hs0_; subst hs0_
              refine And.intro rfl (fit_loc hU rfl rfl ?_)
              simp only [push_cast, Nat.reduceAdd, Nat.reduceSub, Nat.reduceMul, Nat.reduceLeDiff, Nat.reduceLT, Nat.reduceEqDiff, ↓reduceIte, reduceCtorEq, Int.reduceBEq, Int.reduceBNe, Nat.reduceBEq, Int.reduceLE, Int.reduceLT, Int.reduceEq, Int.reduceNe, Int.reduceNeg, Nat.reduceDiv, Nat.reduceMod, Nat.reducePow, cast_lit, hN0, hN]
          · replace hs0_ := condF c8 hs0_
            refine W_exit ?_
            try simp only [gthen, gblock, ↓reduceIte, Nat.reduceEqDiff]
            have hs0_ := Option.some.inj hs0_; subst hs0_
            refine And.intro (fun h => by cases h) (And.intro rfl (fit_loc hU rfl rfl ?_))
            simp only [push_cast, Nat.reduceAdd, Nat.reduceSub, Nat.reduceMul, Nat.reduceLeDiff, Nat.reduceLT, Nat.reduceEqDiff, ↓reduceIte, reduceCtorEq, Int.reduceBEq, Int.reduceBNe, Nat.reduceBEq, Int.reduceLE, Int.reduceLT, Int.reduceEq, Int.reduceNe, Int.reduceNeg, Nat.reduceDiv, Nat.reduceMod, Nat.reducePow, cast_lit, hN0, hN]
        rcases z9 with z9 | z9
        · dsimp only [SumJ] at hw h
          refine W_blockR hw (by omega) ?_
          try simp only [gthen, gblock, ↓reduceIte, Nat.reduceEqDiff]
          have h := Option.some.inj h; subst h
          refine fin_loc (.inr rfl) hU [.val (.slice none 0 0), .val (.int .i64 3)] ?_
          simp only [push_cast, Nat.reduceAdd, Nat.reduceSub, Nat.reduceMul, Nat.reduceLeDiff, Nat.reduceLT, Nat.reduceEqDiff, ↓reduceIte, reduceCtorEq, Int.reduceBEq, Int.reduceBNe, Nat.reduceBEq, Int.reduceLE, Int.reduceLT, Int.reduceEq, Int.reduceNe, Int.reduceNeg, Nat.reduceDiv, Nat.reduceMod, Nat.reducePow, cast_lit, Try.results21, hN0, hN]
        · dsimp only [SumJ] at hw h
          refine W_blockX hw (by omega) ?_
          try simp only [gthen, gblock, ↓reduceIte, Nat.reduceEqDiff]
          refine W_fit ⟨98, [], [(0, .sl a0.length (fl (eI .u8) a0)), (4, .val (.int .i64 (IntKind.i64.wrap (y2 + 1)))), (5, .val (.int .i64 z3))]⟩ (Loc O n []) (fit_loc hU rfl rfl ?_) ?_
          · simp only [push_cast, Nat.reduceAdd, Nat.reduceSub, Nat.reduceMul, Nat.reduceLeDiff, Nat.reduceLT, Nat.reduceEqDiff, ↓reduceIte, reduceCtorEq, Int.reduceBEq, Int.reduceBNe, Nat.reduceBEq, Int.reduceLE, Int.reduceLT, Int.reduceEq, Int.reduceNe, Int.reduceNeg, Nat.reduceDiv, Nat.reduceMod, Nat.reducePow, cast_lit, hN0, hN]
          refine W_seqK ?_
          refine W_sq [0, 4, 5, 7] (W_regionD tab_ok [] ?_)
          simp only [push_cast, Nat.reduceAdd, Nat.reduceSub, Nat.reduceMul, Nat.reduceLeDiff, Nat.reduceLT, Nat.reduceEqDiff, ↓reduceIte, reduceCtorEq, Int.reduceBEq, Int.reduceBNe, Nat.reduceBEq, Int.reduceLE, Int.reduceLT, Int.reduceEq, Int.reduceNe, Int.reduceNeg, Nat.reduceDiv, Nat.reduceMod, Nat.reducePow, cast_lit, hN0, hN]
          refine W_fit ⟨98, [], [(0, .sl a0.length (fl (eI .u8) a0)), (4, .val (.int .i64 (IntKind.i64.wrap (y2 + 1)))), (5, .val (.int .i64 z3)), (7, .val (.int .i64 (IntKind.i64.wrap (4 + (IntKind.i64.wrap (4 * (IntKind.i64.wrap (y2 + 1))))))))]⟩ (Loc O n []) (fit_loc hU rfl rfl ?_) ?_
          · simp only [push_cast, Nat.reduceAdd, Nat.reduceSub, Nat.reduceMul, Nat.reduceLeDiff, Nat.reduceLT, Nat.reduceEqDiff, ↓reduceIte, reduceCtorEq, Int.reduceBEq, Int.reduceBNe, Nat.reduceBEq, Int.reduceLE, Int.reduceLT, Int.reduceEq, Int.reduceNe, Int.reduceNeg, Nat.reduceDiv, Nat.reduceMod, Nat.reducePow, cast_lit, hN0, hN]
          obtain ⟨z14, hz14, h⟩ := bC h
          refine W_sumB (J := (SumJ (fun z14 => JR (⟨98, [], [(2, .val (.slice none 0 0)), (3, .val (.int .i64 5))]⟩ : Env) (Loc O n []) n) (fun z14 => JX 2 (⟨98, [], [(0, .sl a0.length (fl (eI .u8) a0)), (4, .val (.int .i64 (IntKind.i64.wrap (y2 + 1)))), (5, .val (.int .i64 z3))]⟩ : Env) (Loc O n []) n))) (z := z14) ?_ fun hw => ?_
          · refine W_loopJ hz14 (fun s1_ => ⟨98, [], [(0, .sl a0.length (fl (eI .u8) a0)), (4, .val (.int .i64 (IntKind.i64.wrap (y2 + 1)))), (5, .val (.int .i64 z3)), (7, .val (.int .i64 s1_))]⟩) (fun s1_ => (Loc O n [])) (SumJ (fun z14 => JR (⟨98, [], [(2, .val (.slice none 0 0)), (3, .val (.int .i64 5))]⟩ : Env) (Loc O n []) n) (fun z14 => JX 2 (⟨98, [], [(0, .sl a0.length (fl (eI .u8) a0)), (4, .val (.int .i64 (IntKind.i64.wrap (y2 + 1)))), (5, .val (.int .i64 z3))]⟩ : Env) (Loc O n []) n)) ?_
            intro s1_ x1_ hs1_
            unfold m_centoref03_Unframe_L1 at hs1_
            try dsimp only
            refine W_seqK ?_
            refine W_sq [0, 4, 5, 7, 49] (W_regionD tab_ok [] ?_)
            simp only [push_cast, Nat.reduceAdd, Nat.reduceSub, Nat.reduceMul, Nat.reduceLeDiff, Nat.reduceLT, Nat.reduceEqDiff, ↓reduceIte, reduceCtorEq, Int.reduceBEq, Int.reduceBNe, Nat.reduceBEq, Int.reduceLE, Int.reduceLT, Int.reduceEq, Int.reduceNe, Int.reduceNeg, Nat.reduceDiv, Nat.reduceMod, Nat.reducePow, cast_lit, hN0, hN]
            refine W_cond (t := (decide (s1_ < z3))) rfl (fun c13 => ?_) (fun c13 => ?_)
            · replace hs1_ := condT c13 hs1_
              refine W_skip ?_
              try simp only [gthen, gblock]
              refine W_fit ⟨98, [], [(0, .sl a0.length (fl (eI .u8) a0)), (4, .val (.int .i64 (IntKind.i64.wrap (y2 + 1)))), (5, .val (.int .i64 z3)), (7, .val (.int .i64 s1_))]⟩ (Loc O n []) (fit_loc hU rfl rfl ?_) ?_
              · simp only [push_cast, Nat.reduceAdd, Nat.reduceSub, Nat.reduceMul, Nat.reduceLeDiff, Nat.reduceLT, Nat.reduceEqDiff, ↓reduceIte, reduceCtorEq, Int.reduceBEq, Int.reduceBNe, Nat.reduceBEq, Int.reduceLE, Int.reduceLT, Int.reduceEq, Int.reduceNe, Int.reduceNeg, Nat.reduceDiv, Nat.reduceMod, Nat.reducePow, cast_lit, hN0, hN]
              refine W_seqK ?_
              refine W_block ?_
              obtain ⟨x11, hx11, ax11, bx11, cx11, hs1_⟩ := bE (f := (eI .u8)) tab5 (fun _ => rfl) (by decide) hs1_
              refine W_sq [0, 4, 5, 7, 56] (W_regionD tab_ok [] ?_)
              simp only [push_cast, Nat.reduceAdd, Nat.reduceSub, Nat.reduceMul, Nat.reduceLeDiff, Nat.reduceLT, Nat.reduceEqDiff, ↓reduceIte, reduceCtorEq, Int.reduceBEq, Int.reduceBNe, Nat.reduceBEq, Int.reduceLE, Int.reduceLT, Int.reduceEq, Int.reduceNe, Int.reduceNeg, Nat.reduceDiv, Nat.reduceMod, Nat.reducePow, cast_lit, ax11, bx11, cx11, hN0, hN]
              refine W_cond (t := (x11 != 0)) rfl (fun c12 => ?_) (fun c12 => ?_)
              · replace hs1_ := condT c12 hs1_
                refine W_sq [2, 3] (W_regionD tab_ok [] ?_)
                simp only [push_cast, Nat.reduceAdd, Nat.reduceSub, Nat.reduceMul, Nat.reduceLeDiff, Nat.reduceLT, Nat.reduceEqDiff, ↓reduceIte, reduceCtorEq, Int.reduceBEq, Int.reduceBNe, Nat.reduceBEq, Int.reduceLE, Int.reduceLT, Int.reduceEq, Int.reduceNe, Int.reduceNeg, Nat.reduceDiv, Nat.reduceMod, Nat.reducePow, cast_lit, hN0, hN]
                refine W_ret ?_
                try simp only [gthen, gblock]
                have hs1_ := Option.some.inj hs1_; subst hs1_
                refine And.intro (fun h => by cases h) (And.intro rfl (fit_loc hU rfl rfl ?_))
                simp only [push_cast, Nat.reduceAdd, Nat.reduceSub, Nat.reduceMul, Nat.reduceLeDiff, Nat.reduceLT, Nat.reduceEqDiff, ↓reduceIte, reduceCtorEq, Int.reduceBEq, Int.reduceBNe, Nat.reduceBEq, Int.reduceLE, Int.reduceLT, Int.reduceEq, Int.reduceNe, Int.reduceNeg, Nat.reduceDiv, Nat.reduceMod, Nat.reducePow, cast_lit, hN0, hN]
              · replace hs1_ := condF c12 hs1_
                refine W_skip ?_
                try simp only [gthen, gblock]
                refine W_fit ⟨98, [], [(0, .sl a0.length (fl (eI .u8) a0)), (4, .val (.int .i64 (IntKind.i64.wrap (y2 + 1)))), (5, .val (.int .i64 z3)), (7, .val (.int .i64 s1_))]⟩ (Loc O n []) (fit_loc hU rfl rfl ?_) ?_
                · simp only [push_cast, Nat.reduceAdd, Nat.reduceSub, Nat.reduceMul, Nat.reduceLeDiff, Nat.reduceLT, Nat.reduceEqDiff, ↓reduceIte, reduceCtorEq, Int.reduceBEq, Int.reduceBNe, Nat.reduceBEq, Int.reduceLE, Int.reduceLT, Int.reduceEq, Int.reduceNe, Int.reduceNeg, Nat.reduceDiv, Nat.reduceMod, Nat.reducePow, cast_lit, hN0, hN]
                refine W_regionD tab_ok [] ?_
                simp only [push_cast, Nat.reduceAdd, Nat.reduceSub, Nat.reduceMul, Nat.reduceLeDiff, Nat.reduceLT, Nat.reduceEqDiff, ↓reduceIte, reduceCtorEq, Int.reduceBEq, Int.reduceBNe, Nat.reduceBEq, Int.reduceLE, Int.reduceLT, Int.reduceEq, Int.reduceNe, Int.reduceNeg, Nat.reduceDiv, Nat.reduceMod, Nat.reducePow, cast_lit, hN0, hN]
                have hs1_ := Option.some.inj hs1_; subst hs1_
                refine And.intro rfl (fit_loc hU rfl rfl ?_)
                simp only [push_cast, Nat.reduceAdd, Nat.reduceSub, Nat.reduceMul, Nat.reduceLeDiff, Nat.reduceLT, Nat.reduceEqDiff, ↓reduceIte, reduceCtorEq, Int.reduceBEq, Int.reduceBNe, Nat.reduceBEq, Int.reduceLE, Int.reduceLT, Int.reduceEq, Int.reduceNe, Int.reduceNeg, Nat.reduceDiv, Nat.reduceMod, Nat.reducePow, cast_lit, hN0, hN]
            · replace hs1_ := condF c13 hs1_
              refine W_exit ?_
              try simp only [gthen, gblock, ↓reduceIte, Nat.reduceEqDiff]
              have hs1_ := Option.some.inj hs1_; subst hs1_
              refine And.intro (fun h => by cases h) (And.intro rfl (fit_loc hU rfl rfl ?_))
              simp only [push_cast, Nat.reduceAdd, Nat.reduceSub, Nat.reduceMul, Nat.reduceLeDiff, Nat.reduceLT, Nat.reduceEqDiff, ↓reduceIte, reduceCtorEq, Int.reduceBEq, Int.reduceBNe, Nat.reduceBEq, Int.reduceLE, Int.reduceLT, Int.reduceEq, Int.reduceNe, Int.reduceNeg, Nat.reduceDiv, Nat.reduceMod, Nat.reducePow, cast_lit, hN0, hN]
          rcases z14 with z14 | z14
          · dsimp only [SumJ] at hw h
            refine W_blockR hw (by omega) ?_
            try simp only [gthen, gblock, ↓reduceIte, Nat.reduceEqDiff]
            have h := Option.some.inj h; subst h
            refine fin_loc (.inr rfl) hU [.val (.slice none 0 0), .val (.int .i64 5)] ?_
            simp only [push_cast, Nat.reduceAdd, Nat.reduceSub, Nat.reduceMul, Nat.reduceLeDiff, Nat.reduceLT, Nat.reduceEqDiff, ↓reduceIte, reduceCtorEq, Int.reduceBEq, Int.reduceBNe, Nat.reduceBEq, Int.reduceLE, Int.reduceLT, Int.reduceEq, Int.reduceNe, Int.reduceNeg, Nat.reduceDiv, Nat.reduceMod, Nat.reducePow, cast_lit, Try.results21, hN0, hN]
          · dsimp only [SumJ] at hw h
            refine W_blockX hw (by omega) ?_
            try simp only [gthen, gblock, ↓reduceIte, Nat.reduceEqDiff]
            refine W_fit ⟨98, [], [(0, .sl a0.length (fl (eI .u8) a0)), (4, .val (.int .i64 (IntKind.i64.wrap (y2 + 1)))), (5, .val (.int .i64 z3))]⟩ (Loc O n []) (fit_loc hU rfl rfl ?_) ?_
            · simp only [push_cast, Nat.reduceAdd, Nat.reduceSub, Nat.reduceMul, Nat.reduceLeDiff, Nat.reduceLT, Nat.reduceEqDiff, ↓reduceIte, reduceCtorEq, Int.reduceBEq, Int.reduceBNe, Nat.reduceBEq, Int.reduceLE, Int.reduceLT, Int.reduceEq, Int.reduceNe, Int.reduceNeg, Nat.reduceDiv, Nat.reduceMod, Nat.reducePow, cast_lit, hN0, hN]
            refine W_sq [0, 4, 5, 8] (W_regionD tab_ok [] ?_)
            simp only [push_cast, Nat.reduceAdd, Nat.reduceSub, Nat.reduceMul, Nat.reduceLeDiff, Nat.reduceLT, Nat.reduceEqDiff, ↓reduceIte, reduceCtorEq, Int.reduceBEq, Int.reduceBNe, Nat.reduceBEq, Int.reduceLE, Int.reduceLT, Int.reduceEq, Int.reduceNe, Int.reduceNeg, Nat.reduceDiv, Nat.reduceMod, Nat.reducePow, cast_lit, hN0, hN]
            refine W_seqK ?_
            refine W_sq [0, 4, 5, 8, 9] (W_regionD tab_ok [] ?_)
            simp only [push_cast, Nat.reduceAdd, Nat.reduceSub, Nat.reduceMul, Nat.reduceLeDiff, Nat.reduceLT, Nat.reduceEqDiff, ↓reduceIte, reduceCtorEq, Int.reduceBEq, Int.reduceBNe, Nat.reduceBEq, Int.reduceLE, Int.reduceLT, Int.reduceEq, Int.reduceNe, Int.reduceNeg, Nat.reduceDiv, Nat.reduceMod, Nat.reducePow, cast_lit, hN0, hN]
            refine W_fit ⟨98, [], [(0, .sl a0.length (fl (eI .u8) a0)), (4, .val (.int .i64 (IntKind.i64.wrap (y2 + 1)))), (5, .val (.int .i64 z3)), (8, .val (.slice none 0 0)), (9, .val (.int .i64 0))]⟩ (Loc O n []) (fit_loc hU rfl rfl ?_) ?_
            · simp only [push_cast, Nat.reduceAdd, Nat.reduceSub, Nat.reduceMul, Nat.reduceLeDiff, Nat.reduceLT, Nat.reduceEqDiff, ↓reduceIte, reduceCtorEq, Int.reduceBEq, Int.reduceBNe, Nat.reduceBEq, Int.reduceLE, Int.reduceLT, Int.reduceEq, Int.reduceNe, Int.reduceNeg, Nat.reduceDiv, Nat.reduceMod, Nat.reducePow, cast_lit, hN0, hN]
            refine W_adopt 8 62 1 rfl ?_
            simp only [Loc_push, Loc_push0, List.cons_append, List.nil_append, List.length_cons, List.length_nil, Nat.zero_add, Nat.reduceAdd, Nat.add_assoc]
            refine W_fit ⟨98, [], [(0, .sl a0.length (fl (eI .u8) a0)), (4, .val (.int .i64 (IntKind.i64.wrap (y2 + 1)))), (5, .val (.int .i64 z3)), (8, .row n ([] : List (List Int)).length), (9, .val (.int .i64 0))]⟩ (Loc O n [some ⟨true, 62, 1, ([] : List (List Int)).length, fl (eL (eI .u64)) ([] : List (List Int))⟩]) (fit_loc hU rfl rfl ?_) ?_
            · simp only [push_cast, Nat.reduceAdd, Nat.reduceSub, Nat.reduceMul, Nat.reduceLeDiff, Nat.reduceLT, Nat.reduceEqDiff, ↓reduceIte, reduceCtorEq, Int.reduceBEq, Int.reduceBNe, Nat.reduceBEq, Int.reduceLE, Int.reduceLT, Int.reduceEq, Int.reduceNe, Int.reduceNeg, Nat.reduceDiv, Nat.reduceMod, Nat.reducePow, cast_lit, hN0, hN]
            obtain ⟨z25, hz25, h⟩ := bC h
            refine W_sumB (J := (SumJ (fun z25 => JR (⟨98, [], [(2, .val (.slice none 0 0)), (3, .val (.int .i64 4))]⟩ : Env) (Loc O n [none]) (n + 1)) (fun z25 => JX 4 (⟨98, [], [(0, .sl a0.length (fl (eI .u8) a0)), (5, .val (.int .i64 z25.1)), (8, .row n z25.2.length)]⟩ : Env) (Loc O n [some ⟨true, 62, 1, z25.2.length, fl (eL (eI .u64)) z25.2⟩]) (n + 1)))) (z := z25) ?_ fun hw => ?_
            · refine W_loopJ hz25 (fun s2_ => ⟨98, [], [(0, .sl a0.length (fl (eI .u8) a0)), (4, .val (.int .i64 (IntKind.i64.wrap (y2 + 1)))), (5, .val (.int .i64 s2_.1)), (8, .row n s2_.2.2.length), (9, .val (.int .i64 s2_.2.1))]⟩) (fun s2_ => (Loc O n [some ⟨true, 62, 1, s2_.2.2.length, fl (eL (eI .u64)) s2_.2.2⟩])) (SumJ (fun z25 => JR (⟨98, [], [(2, .val (.slice none 0 0)), (3, .val (.int .i64 4))]⟩ : Env) (Loc O n [none]) (n + 1)) (fun z25 => JX 4 (⟨98, [], [(0, .sl a0.length (fl (eI .u8) a0)), (5, .val (.int .i64 z25.1)), (8, .row n z25.2.length)]⟩ : Env) (Loc O n [some ⟨true, 62, 1, z25.2.length, fl (eL (eI .u64)) z25.2⟩]) (n + 1))) ?_
              intro s2_ x2_ hs2_
              unfold m_centoref03_Unframe_L2 at hs2_
              try dsimp only
              refine W_seqK ?_
              refine W_sq [0, 4, 5, 8, 9, 59] (W_regionD tab_ok [] ?_)
              simp only [push_cast, Nat.reduceAdd, Nat.reduceSub, Nat.reduceMul, Nat.reduceLeDiff, Nat.reduceLT, Nat.reduceEqDiff, ↓reduceIte, reduceCtorEq, Int.reduceBEq, Int.reduceBNe, Nat.reduceBEq, Int.reduceLE, Int.reduceLT, Int.reduceEq, Int.reduceNe, Int.reduceNeg, Nat.reduceDiv, Nat.reduceMod, Nat.reducePow, cast_lit, hN0, hN]
              refine W_cond (t := (decide (s2_.2.1 < (IntKind.i64.wrap (y2 + 1))))) rfl (fun c24 => ?_) (fun c24 => ?_)
              · replace hs2_ := condT c24 hs2_
                refine W_skip ?_
                try simp only [gthen, gblock]
                refine W_fit ⟨98, [], [(0, .sl a0.length (fl (eI .u8) a0)), (4, .val (.int .i64 (IntKind.i64.wrap (y2 + 1)))), (5, .val (.int .i64 s2_.1)), (8, .row n s2_.2.2.length), (9, .val (.int .i64 s2_.2.1))]⟩ (Loc O n [some ⟨true, 62, 1, s2_.2.2.length, fl (eL (eI .u64)) s2_.2.2⟩]) (fit_loc hU rfl rfl ?_) ?_
                · simp only [push_cast, Nat.reduceAdd, Nat.reduceSub, Nat.reduceMul, Nat.reduceLeDiff, Nat.reduceLT, Nat.reduceEqDiff, ↓reduceIte, reduceCtorEq, Int.reduceBEq, Int.reduceBNe, Nat.reduceBEq, Int.reduceLE, Int.reduceLT, Int.reduceEq, Int.reduceNe, Int.reduceNeg, Nat.reduceDiv, Nat.reduceMod, Nat.reducePow, cast_lit, hN0, hN]
                refine W_seqK ?_
                refine W_block ?_
                refine W_seqK ?_
                obtain ⟨y16, hy16, hs2_⟩ := bC hs2_
                refine W_regionD tab_ok [] ?_
                simp only [push_cast, Nat.reduceAdd, Nat.reduceSub, Nat.reduceMul, Nat.reduceLeDiff, Nat.reduceLT, Nat.reduceEqDiff, ↓reduceIte, reduceCtorEq, Int.reduceBEq, Int.reduceBNe, Nat.reduceBEq, Int.reduceLE, Int.reduceLT, Int.reduceEq, Int.reduceNe, Int.reduceNeg, Nat.reduceDiv, Nat.reduceMod, Nat.reducePow, cast_lit, hN0, hN]
                refine (ok_centoref03_read hy16).then ?_
                simp only [push_cast, Nat.reduceAdd, Nat.reduceSub, Nat.reduceMul, Nat.reduceLeDiff, Nat.reduceLT, Nat.reduceEqDiff, ↓reduceIte, reduceCtorEq, Int.reduceBEq, Int.reduceBNe, Nat.reduceBEq, Int.reduceLE, Int.reduceLT, Int.reduceEq, Int.reduceNe, Int.reduceNeg, Nat.reduceDiv, Nat.reduceMod, Nat.reducePow, cast_lit, hN0, hN]
                refine W_fit ⟨98, [], [(0, .sl a0.length (fl (eI .u8) a0)), (4, .val (.int .i64 (IntKind.i64.wrap (y2 + 1)))), (5, .val (.int .i64 s2_.1)), (8, .row n s2_.2.2.length), (9, .val (.int .i64 s2_.2.1)), (10, .val (.int .i64 y16))]⟩ (Loc O n [some ⟨true, 62, 1, s2_.2.2.length, fl (eL (eI .u64)) s2_.2.2⟩]) (fit_loc hU rfl rfl ?_) ?_
                · simp only [push_cast, Nat.reduceAdd, Nat.reduceSub, Nat.reduceMul, Nat.reduceLeDiff, Nat.reduceLT, Nat.reduceEqDiff, ↓reduceIte, reduceCtorEq, Int.reduceBEq, Int.reduceBNe, Nat.reduceBEq, Int.reduceLE, Int.reduceLT, Int.reduceEq, Int.reduceNe, Int.reduceNeg, Nat.reduceDiv, Nat.reduceMod, Nat.reducePow, cast_lit, hN0, hN]
                refine W_seqK ?_
                refine W_sq [0, 4, 5, 8, 9, 10, 73] (W_regionD tab_ok [] ?_)
                simp only [push_cast, Nat.reduceAdd, Nat.reduceSub, Nat.reduceMul, Nat.reduceLeDiff, Nat.reduceLT, Nat.reduceEqDiff, ↓reduceIte, reduceCtorEq, Int.reduceBEq, Int.reduceBNe, Nat.reduceBEq, Int.reduceLE, Int.reduceLT, Int.reduceEq, Int.reduceNe, Int.reduceNeg, Nat.reduceDiv, Nat.reduceMod, Nat.reducePow, cast_lit, hN0, hN]
                refine W_cond (t := (decide ((IntKind.i64.wrap ((a0.length : Int) - s2_.1)) < (IntKind.i64.wrap (8 * y16))))) rfl (fun c23 => ?_) (fun c23 => ?_)
                · replace hs2_ := condT c23 hs2_
                  refine W_sq [2, 3] (W_regionD tab_ok [] ?_)
                  simp only [push_cast, Nat.reduceAdd, Nat.reduceSub, Nat.reduceMul, Nat.reduceLeDiff, Nat.reduceLT, Nat.reduceEqDiff, ↓reduceIte, reduceCtorEq, Int.reduceBEq, Int.reduceBNe, Nat.reduceBEq, Int.reduceLE, Int.reduceLT, Int.reduceEq, Int.reduceNe, Int.reduceNeg, Nat.reduceDiv, Nat.reduceMod, Nat.reducePow, cast_lit, hN0, hN]
                  refine W_ret ?_
                  try simp only [gthen, gblock]
                  have hs2_ := Option.some.inj hs2_; subst hs2_
                  refine And.intro (fun h => by cases h) (And.intro rfl (fit_loc hU rfl rfl ?_))
                  simp only [push_cast, Nat.reduceAdd, Nat.reduceSub, Nat.reduceMul, Nat.reduceLeDiff, Nat.reduceLT, Nat.reduceEqDiff, ↓reduceIte, reduceCtorEq, Int.reduceBEq, Int.reduceBNe, Nat.reduceBEq, Int.reduceLE, Int.reduceLT, Int.reduceEq, Int.reduceNe, Int.reduceNeg, Nat.reduceDiv, Nat.reduceMod, Nat.reducePow, cast_lit, hN0, hN]
                · replace hs2_ := condF c23 hs2_
                  refine W_skip ?_
                  try simp only [gthen, gblock]
                  refine W_fit ⟨98, [], [(0, .sl a0.length (fl (eI .u8) a0)), (4, .val (.int .i64 (IntKind.i64.wrap (y2 + 1)))), (5, .val (.int .i64 s2_.1)), (8, .row n s2_.2.2.length), (9, .val (.int .i64 s2_.2.1)), (10, .val (.int .i64 y16))]⟩ (Loc O n [some ⟨true, 62, 1, s2_.2.2.length, fl (eL (eI .u64)) s2_.2.2⟩]) (fit_loc hU rfl rfl ?_) ?_
                  · simp only [push_cast, Nat.reduceAdd, Nat.reduceSub, Nat.reduceMul, Nat.reduceLeDiff, Nat.reduceLT, Nat.reduceEqDiff, ↓reduceIte, reduceCtorEq, Int.reduceBEq, Int.reduceBNe, Nat.reduceBEq, Int.reduceLE, Int.reduceLT, Int.reduceEq, Int.reduceNe, Int.reduceNeg, Nat.reduceDiv, Nat.reduceMod, Nat.reducePow, cast_lit, hN0, hN]
                  refine W_seqK ?_
                  obtain ⟨l19, al19, bl19, cl19, gl19, hs2_⟩ := bS (lo := (some (.i64, s2_.1))) (hi := (some (.i64, (IntKind.i64.wrap (s2_.1 + (IntKind.i64.wrap (8 * y16))))))) (f := (eI .u8)) rfl rfl tkind23 tab5 (fun _ => rfl) hs2_
                  obtain ⟨y20, hy20, hs2_⟩ := bC hs2_
                  refine W_regionD tab_ok [] ?_
                  simp only [push_cast, Nat.reduceAdd, Nat.reduceSub, Nat.reduceMul, Nat.reduceLeDiff, Nat.reduceLT, Nat.reduceEqDiff, ↓reduceIte, reduceCtorEq, Int.reduceBEq, Int.reduceBNe, Nat.reduceBEq, Int.reduceLE, Int.reduceLT, Int.reduceEq, Int.reduceNe, Int.reduceNeg, Nat.reduceDiv, Nat.reduceMod, Nat.reducePow, cast_lit, al19, bl19, cl19, gl19, hN0, hN]
                  refine (ok_centoref01_Words hy20).then ?_
                  simp only [push_cast, Nat.reduceAdd, Nat.reduceSub, Nat.reduceMul, Nat.reduceLeDiff, Nat.reduceLT, Nat.reduceEqDiff, ↓reduceIte, reduceCtorEq, Int.reduceBEq, Int.reduceBNe, Nat.reduceBEq, Int.reduceLE, Int.reduceLT, Int.reduceEq, Int.reduceNe, Int.reduceNeg, Nat.reduceDiv, Nat.reduceMod, Nat.reducePow, cast_lit, al19, bl19, cl19, gl19, hN0, hN]
                  refine W_fit ⟨98, [], [(0, .sl a0.length (fl (eI .u8) a0)), (4, .val (.int .i64 (IntKind.i64.wrap (y2 + 1)))), (5, .val (.int .i64 s2_.1)), (8, .row n s2_.2.2.length), (9, .val (.int .i64 s2_.2.1)), (10, .val (.int .i64 y16)), (11, .sl y20.1.length (fl (eI .u64) y20.1))]⟩ (Loc O n [some ⟨true, 62, 1, s2_.2.2.length, fl (eL (eI .u64)) s2_.2.2⟩]) (fit_loc hU rfl rfl ?_) ?_
                  · simp only [push_cast, Nat.reduceAdd, Nat.reduceSub, Nat.reduceMul, Nat.reduceLeDiff, Nat.reduceLT, Nat.reduceEqDiff, ↓reduceIte, reduceCtorEq, Int.reduceBEq, Int.reduceBNe, Nat.reduceBEq, Int.reduceLE, Int.reduceLT, Int.reduceEq, Int.reduceNe, Int.reduceNeg, Nat.reduceDiv, Nat.reduceMod, Nat.reducePow, cast_lit, al19, bl19, cl19, gl19, hN0, hN]
                  refine W_seqK ?_
                  obtain ⟨l22, pl22, ql22, el22, hs2_⟩ := bA (k := 1) rfl hs2_
                  refine W_regionD tab_ok [] ?_
                  simp only [push_cast, Nat.reduceAdd, Nat.reduceSub, Nat.reduceMul, Nat.reduceLeDiff, Nat.reduceLT, Nat.reduceEqDiff, ↓reduceIte, reduceCtorEq, Int.reduceBEq, Int.reduceBNe, Nat.reduceBEq, Int.reduceLE, Int.reduceLT, Int.reduceEq, Int.reduceNe, Int.reduceNeg, Nat.reduceDiv, Nat.reduceMod, Nat.reducePow, cast_lit, pl22, ql22, el22, hN0, hN]
                  refine W_fit ⟨98, [], [(0, .sl a0.length (fl (eI .u8) a0)), (4, .val (.int .i64 (IntKind.i64.wrap (y2 + 1)))), (5, .val (.int .i64 s2_.1)), (8, .row n l22.length), (9, .val (.int .i64 s2_.2.1)), (10, .val (.int .i64 y16))]⟩ (Loc O n [some ⟨true, 62, 1, l22.length, fl (eL (eI .u64)) l22⟩, none]) (fit_loc hU rfl rfl ?_) ?_
                  · simp only [push_cast, Nat.reduceAdd, Nat.reduceSub, Nat.reduceMul, Nat.reduceLeDiff, Nat.reduceLT, Nat.reduceEqDiff, ↓reduceIte, reduceCtorEq, Int.reduceBEq, Int.reduceBNe, Nat.reduceBEq, Int.reduceLE, Int.reduceLT, Int.reduceEq, Int.reduceNe, Int.reduceNeg, Nat.reduceDiv, Nat.reduceMod, Nat.reducePow, cast_lit, pl22, ql22, el22, hN0, hN]
                  refine W_regionD tab_ok [] ?_
                  simp only [push_cast, Nat.reduceAdd, Nat.reduceSub, Nat.reduceMul, Nat.reduceLeDiff, Nat.reduceLT, Nat.reduceEqDiff, ↓reduceIte, reduceCtorEq, Int.reduceBEq, Int.reduceBNe, Nat.reduceBEq, Int.reduceLE, Int.reduceLT, Int.reduceEq, Int.reduceNe, Int.reduceNeg, Nat.reduceDiv, Nat.reduceMod, Nat.reducePow, cast_lit, hN0, hN]
                  refine W_fit ⟨98, [], [(0, .sl a0.length (fl (eI .u8) a0)), (4, .val (.int .i64 (IntKind.i64.wrap (y2 + 1)))), (5, .val (.int .i64 (IntKind.i64.wrap (s2_.1 + (IntKind.i64.wrap (8 * y16)))))), (8, .row n l22.length), (9, .val (.int .i64 s2_.2.1))]⟩ (Loc O n [some ⟨true, 62, 1, l22.length, fl (eL (eI .u64)) l22⟩, none]) (fit_loc hU rfl rfl ?_) ?_
                  · simp only [push_cast, Nat.reduceAdd, Nat.reduceSub, Nat.reduceMul, Nat.reduceLeDiff, Nat.reduceLT, Nat.reduceEqDiff, ↓reduceIte, reduceCtorEq, Int.reduceBEq, Int.reduceBNe, Nat.reduceBEq, Int.reduceLE, Int.reduceLT, Int.reduceEq, Int.reduceNe, Int.reduceNeg, Nat.reduceDiv, Nat.reduceMod, Nat.reducePow, cast_lit, hN0, hN]
                  refine W_regionD tab_ok [] ?_
                  simp only [push_cast, Nat.reduceAdd, Nat.reduceSub, Nat.reduceMul, Nat.reduceLeDiff, Nat.reduceLT, Nat.reduceEqDiff, ↓reduceIte, reduceCtorEq, Int.reduceBEq, Int.reduceBNe, Nat.reduceBEq, Int.reduceLE, Int.reduceLT, Int.reduceEq, Int.reduceNe, Int.reduceNeg, Nat.reduceDiv, Nat.reduceMod, Nat.reducePow, cast_lit, hN0, hN]
                  have hs2_ := Option.some.inj hs2_; subst hs2_
                  refine And.intro rfl (fit_loc hU rfl rfl ?_)
                  simp only [push_cast, Nat.reduceAdd, Nat.reduceSub, Nat.reduceMul, Nat.reduceLeDiff, Nat.reduceLT, Nat.reduceEqDiff, ↓reduceIte, reduceCtorEq, Int.reduceBEq, Int.reduceBNe, Nat.reduceBEq, Int.reduceLE, Int.reduceLT, Int.reduceEq, Int.reduceNe, Int.reduceNeg, Nat.reduceDiv, Nat.reduceMod, Nat.reducePow, cast_lit, hN0, hN]
              · replace hs2_ := condF c24 hs2_
                refine W_exit ?_
                try simp only [gthen, gblock, ↓reduceIte, Nat.reduceEqDiff]
                have hs2_ := Option.some.inj hs2_; subst hs2_
                refine And.intro (fun h => by cases h) (And.intro rfl (fit_loc hU rfl rfl ?_))
                simp only [push_cast, Nat.reduceAdd, Nat.reduceSub, Nat.reduceMul, Nat.reduceLeDiff, Nat.reduceLT, Nat.reduceEqDiff, ↓reduceIte, reduceCtorEq, Int.reduceBEq, Int.reduceBNe, Nat.reduceBEq, Int.reduceLE, Int.reduceLT, Int.reduceEq, Int.reduceNe, Int.reduceNeg, Nat.reduceDiv, Nat.reduceMod, Nat.reducePow, cast_lit, hN0, hN]
            rcases z25 with z25 | z25
            · dsimp only [SumJ] at hw h
              refine W_blockR hw (by omega) ?_
              try simp only [gthen, gblock, ↓reduceIte, Nat.reduceEqDiff]
              have h := Option.some.inj h; subst h
              refine fin_loc (.inr rfl) hU [.val (.slice none 0 0), .val (.int .i64 4)] ?_
              simp only [push_cast, Nat.reduceAdd, Nat.reduceSub, Nat.reduceMul, Nat.reduceLeDiff, Nat.reduceLT, Nat.reduceEqDiff, ↓reduceIte, reduceCtorEq, Int.reduceBEq, Int.reduceBNe, Nat.reduceBEq, Int.reduceLE, Int.reduceLT, Int.reduceEq, Int.reduceNe, Int.reduceNeg, Nat.reduceDiv, Nat.reduceMod, Nat.reducePow, cast_lit, Try.results21, hN0, hN]
            · dsimp only [SumJ] at hw h
              refine W_blockX hw (by omega) ?_
              try simp only [gthen, gblock, ↓reduceIte, Nat.reduceEqDiff]
              refine W_fit ⟨98, [], [(0, .sl a0.length (fl (eI .u8) a0)), (5, .val (.int .i64 z25.1)), (8, .row n z25.2.length)]⟩ (Loc O n [some ⟨true, 62, 1, z25.2.length, fl (eL (eI .u64)) z25.2⟩]) (fit_loc hU rfl rfl ?_) ?_
              · simp only [push_cast, Nat.reduceAdd, Nat.reduceSub, Nat.reduceMul, Nat.reduceLeDiff, Nat.reduceLT, Nat.reduceEqDiff, ↓reduceIte, reduceCtorEq, Int.reduceBEq, Int.reduceBNe, Nat.reduceBEq, Int.reduceLE, Int.reduceLT, Int.reduceEq, Int.reduceNe, Int.reduceNeg, Nat.reduceDiv, Nat.reduceMod, Nat.reducePow, cast_lit, hN0, hN]
              refine W_seqK ?_
              refine W_sq [8, 96] (W_regionD tab_ok [] ?_)
              simp only [push_cast, Nat.reduceAdd, Nat.reduceSub, Nat.reduceMul, Nat.reduceLeDiff, Nat.reduceLT, Nat.reduceEqDiff, ↓reduceIte, reduceCtorEq, Int.reduceBEq, Int.reduceBNe, Nat.reduceBEq, Int.reduceLE, Int.reduceLT, Int.reduceEq, Int.reduceNe, Int.reduceNeg, Nat.reduceDiv, Nat.reduceMod, Nat.reducePow, cast_lit, hN0, hN]
              refine W_cond (t := (decide (z25.1 < (a0.length : Int)))) rfl (fun c26 => ?_) (fun c26 => ?_)
              · replace h := condT c26 h
                refine W_sq [2, 3] (W_regionD tab_ok [] ?_)
                simp only [push_cast, Nat.reduceAdd, Nat.reduceSub, Nat.reduceMul, Nat.reduceLeDiff, Nat.reduceLT, Nat.reduceEqDiff, ↓reduceIte, reduceCtorEq, Int.reduceBEq, Int.reduceBNe, Nat.reduceBEq, Int.reduceLE, Int.reduceLT, Int.reduceEq, Int.reduceNe, Int.reduceNeg, Nat.reduceDiv, Nat.reduceMod, Nat.reducePow, cast_lit, hN0, hN]
                refine W_ret ?_
                try simp only [gthen, gblock]
                have h := Option.some.inj h; subst h
                refine fin_loc (.inr rfl) hU [.val (.slice none 0 0), .val (.int .i64 6)] ?_
                simp only [push_cast, Nat.reduceAdd, Nat.reduceSub, Nat.reduceMul, Nat.reduceLeDiff, Nat.reduceLT, Nat.reduceEqDiff, ↓reduceIte, reduceCtorEq, Int.reduceBEq, Int.reduceBNe, Nat.reduceBEq, Int.reduceLE, Int.reduceLT, Int.reduceEq, Int.reduceNe, Int.reduceNeg, Nat.reduceDiv, Nat.reduceMod, Nat.reducePow, cast_lit, Try.results21, hN0, hN]
              · replace h := condF c26 h
                refine W_skip ?_
                try simp only [gthen, gblock]
                refine W_fit ⟨98, [], [(8, .row n z25.2.length)]⟩ (Loc O n [some ⟨true, 62, 1, z25.2.length, fl (eL (eI .u64)) z25.2⟩]) (fit_loc hU rfl rfl ?_) ?_
                · simp only [push_cast, Nat.reduceAdd, Nat.reduceSub, Nat.reduceMul, Nat.reduceLeDiff, Nat.reduceLT, Nat.reduceEqDiff, ↓reduceIte, reduceCtorEq, Int.reduceBEq, Int.reduceBNe, Nat.reduceBEq, Int.reduceLE, Int.reduceLT, Int.reduceEq, Int.reduceNe, Int.reduceNeg, Nat.reduceDiv, Nat.reduceMod, Nat.reducePow, cast_lit, hN0, hN]
                refine W_sq [2, 3] (W_regionD tab_ok [] ?_)
                simp only [push_cast, Nat.reduceAdd, Nat.reduceSub, Nat.reduceMul, Nat.reduceLeDiff, Nat.reduceLT, Nat.reduceEqDiff, ↓reduceIte, reduceCtorEq, Int.reduceBEq, Int.reduceBNe, Nat.reduceBEq, Int.reduceLE, Int.reduceLT, Int.reduceEq, Int.reduceNe, Int.reduceNeg, Nat.reduceDiv, Nat.reduceMod, Nat.reducePow, cast_lit, hN0, hN]
                refine W_ret ?_
                try simp only [gthen, gblock]
                have h := Option.some.inj h; subst h
                refine fin_loc (.inr rfl) hU [.row n z25.2.length, .val (.int .i64 0)] ?_
                simp only [push_cast, Nat.reduceAdd, Nat.reduceSub, Nat.reduceMul, Nat.reduceLeDiff, Nat.reduceLT, Nat.reduceEqDiff, ↓reduceIte, reduceCtorEq, Int.reduceBEq, Int.reduceBNe, Nat.reduceBEq, Int.reduceLE, Int.reduceLT, Int.reduceEq, Int.reduceNe, Int.reduceNeg, Nat.reduceDiv, Nat.reduceMod, Nat.reducePow, cast_lit, Try.results21, hN0, hN]

theorem ok_centolaw03_FrameUnframes {a0 : (List Int)} {r : Bool} {O : Objs} {n : Nat} (h : m_centolaw03_FrameUnframes a0 = some r) : GTo Try.prog 4 [.sl a0.length (fl (eI .u8) a0)] O n (.val (.bool r)) O n := by
  unfold m_centolaw03_FrameUnframes at h
  refine fn_of tab_ok Try.call4 Try.func4 rfl (Nat.le_of_ble_eq_true rfl) (Nat.le_refl _) fun hU => ?_
  have hN0 : O n = none := hU.fresh _ (Nat.le_refl _)
  have hN : ∀ k, O (n + k) = none := fun k => hU.fresh _ (Nat.le_add_right _ _)
  show W _ _ _ ⟨45, [], [(0, .sl a0.length (fl (eI .u8) a0))]⟩ (Loc O n []) _
  refine W_sq [0, 24, 25, 26, 38, 39, 40, 43] (W_regionD tab_ok [] ?_)
  simp only [push_cast, Nat.reduceAdd, Nat.reduceSub, Nat.reduceMul, Nat.reduceLeDiff, Nat.reduceLT, Nat.reduceEqDiff, ↓reduceIte, reduceCtorEq, Int.reduceBEq, Int.reduceBNe, Nat.reduceBEq, Int.reduceLE, Int.reduceLT, Int.reduceEq, Int.reduceNe, Int.reduceNeg, Nat.reduceDiv, Nat.reduceMod, Nat.reducePow, cast_lit, hN0, hN]
  refine W_seqK ?_
  obtain ⟨y2, hy2, h⟩ := bC h
  refine W_regionD tab_ok [] ?_
  simp only [push_cast, Nat.reduceAdd, Nat.reduceSub, Nat.reduceMul, Nat.reduceLeDiff, Nat.reduceLT, Nat.reduceEqDiff, ↓reduceIte, reduceCtorEq, Int.reduceBEq, Int.reduceBNe, Nat.reduceBEq, Int.reduceLE, Int.reduceLT, Int.reduceEq, Int.reduceNe, Int.reduceNeg, Nat.reduceDiv, Nat.reduceMod, Nat.reducePow, cast_lit, hN0, hN]
  refine (ok_frame_Unframe hy2).then ?_
  simp only [push_cast, Nat.reduceAdd, Nat.reduceSub, Nat.reduceMul, Nat.reduceLeDiff, Nat.reduceLT, Nat.reduceEqDiff, ↓reduceIte, reduceCtorEq, Int.reduceBEq, Int.reduceBNe, Nat.reduceBEq, Int.reduceLE, Int.reduceLT, Int.reduceEq, Int.reduceNe, Int.reduceNeg, Nat.reduceDiv, Nat.reduceMod, Nat.reducePow, cast_lit, hN0, hN]
  refine W_fit ⟨45, [], [(0, .sl a0.length (fl (eI .u8) a0)), (3, .sl y2.1.length (fl (eL (eI .u64)) y2.1)), (4, .val (.int .i64 y2.2))]⟩ (Loc O n []) (fit_loc hU rfl rfl ?_) ?_
  · simp only [push_cast, Nat.reduceAdd, Nat.reduceSub, Nat.reduceMul, Nat.reduceLeDiff, Nat.reduceLT, Nat.reduceEqDiff, ↓reduceIte, reduceCtorEq, Int.reduceBEq, Int.reduceBNe, Nat.reduceBEq, Int.reduceLE, Int.reduceLT, Int.reduceEq, Int.reduceNe, Int.reduceNeg, Nat.reduceDiv, Nat.reduceMod, Nat.reducePow, cast_lit, hN0, hN]
  refine W_seqK ?_
  obtain ⟨y4, hy4, h⟩ := bC h
  refine W_regionD tab_ok [] ?_
  simp only [push_cast, Nat.reduceAdd, Nat.reduceSub, Nat.reduceMul, Nat.reduceLeDiff, Nat.reduceLT, Nat.reduceEqDiff, ↓reduceIte, reduceCtorEq, Int.reduceBEq, Int.reduceBNe, Nat.reduceBEq, Int.reduceLE, Int.reduceLT, Int.reduceEq, Int.reduceNe, Int.reduceNeg, Nat.reduceDiv, Nat.reduceMod, Nat.reducePow, cast_lit, hN0, hN]
  refine (ok_centoref03_Unframe hy4).then ?_
  simp only [push_cast, Nat.reduceAdd, Nat.reduceSub, Nat.reduceMul, Nat.reduceLeDiff, Nat.reduceLT, Nat.reduceEqDiff, ↓reduceIte, reduceCtorEq, Int.reduceBEq, Int.reduceBNe, Nat.reduceBEq, Int.reduceLE, Int.reduceLT, Int.reduceEq, Int.reduceNe, Int.reduceNeg, Nat.reduceDiv, Nat.reduceMod, Nat.reducePow, cast_lit, hN0, hN]
  refine W_fit ⟨45, [], [(0, .sl a0.length (fl (eI .u8) a0)), (3, .sl y2.1.length (fl (eL (eI .u64)) y2.1)), (4, .val (.int .i64 y2.2)), (5, .sl y4.1.length (fl (eL (eI .u64)) y4.1)), (6, .val (.int .i64 y4.2))]⟩ (Loc O n []) (fit_loc hU rfl rfl ?_) ?_
  · simp only [push_cast, Nat.reduceAdd, Nat.reduceSub, Nat.reduceMul, Nat.reduceLeDiff, Nat.reduceLT, Nat.reduceEqDiff, ↓reduceIte, reduceCtorEq, Int.reduceBEq, Int.reduceBNe, Nat.reduceBEq, Int.reduceLE, Int.reduceLT, Int.reduceEq, Int.reduceNe, Int.reduceNeg, Nat.reduceDiv, Nat.reduceMod, Nat.reducePow, cast_lit, hN0, hN]
  refine W_seqK ?_
  refine W_seqK ?_
  obtain ⟨y6, hy6, h⟩ := bC h
  refine W_regionD tab_ok [none, none, none] ?_
  simp only [push_cast, Nat.reduceAdd, Nat.reduceSub, Nat.reduceMul, Nat.reduceLeDiff, Nat.reduceLT, Nat.reduceEqDiff, ↓reduceIte, reduceCtorEq, Int.reduceBEq, Int.reduceBNe, Nat.reduceBEq, Int.reduceLE, Int.reduceLT, Int.reduceEq, Int.reduceNe, Int.reduceNeg, Nat.reduceDiv, Nat.reduceMod, Nat.reducePow, cast_lit, hN0, hN]
  repeat (with_reducible refine And.intro (by first | (intro h0; simp only [h0, and_self]; done) | (intros; simp_all; done) | exact True.intro) ?_)
  refine (ok_centoref03_Same hy6).then ?_
  simp only [push_cast, Nat.reduceAdd, Nat.reduceSub, Nat.reduceMul, Nat.reduceLeDiff, Nat.reduceLT, Nat.reduceEqDiff, ↓reduceIte, reduceCtorEq, Int.reduceBEq, Int.reduceBNe, Nat.reduceBEq, Int.reduceLE, Int.reduceLT, Int.reduceEq, Int.reduceNe, Int.reduceNeg, Nat.reduceDiv, Nat.reduceMod, Nat.reducePow, cast_lit, hN0, hN]
  repeat (with_reducible refine And.intro (by first | (intro h0; simp only [h0, and_self]; done) | (intros; simp_all; done) | exact True.intro) ?_)
  refine W_fit ⟨45, [], [(0, .sl a0.length (fl (eI .u8) a0)), (3, .sl y2.1.length (fl (eL (eI .u64)) y2.1)), (4, .val (.int .i64 y2.2)), (27, .val (.bool (cond (!y6) true (y2.2 != y4.2))))]⟩ (Loc O n []) (fit_loc hU rfl rfl ?_) ?_
  · simp only [push_cast, Nat.reduceAdd, Nat.reduceSub, Nat.reduceMul, Nat.reduceLeDiff, Nat.reduceLT, Nat.reduceEqDiff, ↓reduceIte, reduceCtorEq, Int.reduceBEq, Int.reduceBNe, Nat.reduceBEq, Int.reduceLE, Int.reduceLT, Int.reduceEq, Int.reduceNe, Int.reduceNeg, Nat.reduceDiv, Nat.reduceMod, Nat.reducePow, cast_lit, hN0, hN]
  refine W_cond (t := (cond (!y6) true (y2.2 != y4.2))) rfl (fun c19 => ?_) (fun c19 => ?_)
  · replace h := condT c19 h
    refine W_sq [2] (W_regionD tab_ok [] ?_)
    simp only [push_cast, Nat.reduceAdd, Nat.reduceSub, Nat.reduceMul, Nat.reduceLeDiff, Nat.reduceLT, Nat.reduceEqDiff, ↓reduceIte, reduceCtorEq, Int.reduceBEq, Int.reduceBNe, Nat.reduceBEq, Int.reduceLE, Int.reduceLT, Int.reduceEq, Int.reduceNe, Int.reduceNeg, Nat.reduceDiv, Nat.reduceMod, Nat.reducePow, cast_lit, hN0, hN]
    refine W_ret ?_
    try simp only [gthen, gblock]
    have h := Option.some.inj h; subst h
    refine fin_loc (.inr rfl) hU [.val (.bool false)] ?_
    simp only [push_cast, Nat.reduceAdd, Nat.reduceSub, Nat.reduceMul, Nat.reduceLeDiff, Nat.reduceLT, Nat.reduceEqDiff, ↓reduceIte, reduceCtorEq, Int.reduceBEq, Int.reduceBNe, Nat.reduceBEq, Int.reduceLE, Int.reduceLT, Int.reduceEq, Int.reduceNe, Int.reduceNeg, Nat.reduceDiv, Nat.reduceMod, Nat.reducePow, cast_lit, Try.results4, hN0, hN]
  · replace h := condF c19 h
    refine W_skip ?_
    try simp only [gthen, gblock]
    refine W_fit ⟨45, [], [(0, .sl a0.length (fl (eI .u8) a0)), (3, .sl y2.1.length (fl (eL (eI .u64)) y2.1)), (4, .val (.int .i64 y2.2))]⟩ (Loc O n []) (fit_loc hU rfl rfl ?_) ?_
    · simp only [push_cast, Nat.reduceAdd, Nat.reduceSub, Nat.reduceMul, Nat.reduceLeDiff, Nat.reduceLT, Nat.reduceEqDiff, ↓reduceIte, reduceCtorEq, Int.reduceBEq, Int.reduceBNe, Nat.reduceBEq, Int.reduceLE, Int.reduceLT, Int.reduceEq, Int.reduceNe, Int.reduceNeg, Nat.reduceDiv, Nat.reduceMod, Nat.reducePow, cast_lit, hN0, hN]
    refine W_seqK ?_
    refine W_sq [0, 3, 29, 38, 39, 40, 43] (W_regionD tab_ok [] ?_)
    simp only [push_cast, Nat.reduceAdd, Nat.reduceSub, Nat.reduceMul, Nat.reduceLeDiff, Nat.reduceLT, Nat.reduceEqDiff, ↓reduceIte, reduceCtorEq, Int.reduceBEq, Int.reduceBNe, Nat.reduceBEq, Int.reduceLE, Int.reduceLT, Int.reduceEq, Int.reduceNe, Int.reduceNeg, Nat.reduceDiv, Nat.reduceMod, Nat.reducePow, cast_lit, hN0, hN]
    refine W_cond (t := (y2.2 != 0)) rfl (fun c18 => ?_) (fun c18 => ?_)
    · replace h := condT c18 h
      refine W_seqK ?_
      obtain ⟨y8, hy8, h⟩ := bC h
      refine W_regionD tab_ok [] ?_
      simp only [push_cast, Nat.reduceAdd, Nat.reduceSub, Nat.reduceMul, Nat.reduceLeDiff, Nat.reduceLT, Nat.reduceEqDiff, ↓reduceIte, reduceCtorEq, Int.reduceBEq, Int.reduceBNe, Nat.reduceBEq, Int.reduceLE, Int.reduceLT, Int.reduceEq, Int.reduceNe, Int.reduceNeg, Nat.reduceDiv, Nat.reduceMod, Nat.reducePow, cast_lit, hN0, hN]
      refine (ok_centolaw03_awake hy8).then ?_
      simp only [push_cast, Nat.reduceAdd, Nat.reduceSub, Nat.reduceMul, Nat.reduceLeDiff, Nat.reduceLT, Nat.reduceEqDiff, ↓reduceIte, reduceCtorEq, Int.reduceBEq, Int.reduceBNe, Nat.reduceBEq, Int.reduceLE, Int.reduceLT, Int.reduceEq, Int.reduceNe, Int.reduceNeg, Nat.reduceDiv, Nat.reduceMod, Nat.reducePow, cast_lit, hN0, hN]
      refine W_fit ⟨45, [], [(2, .val (.bool y8))]⟩ (Loc O n []) (fit_loc hU rfl rfl ?_) ?_
      · simp only [push_cast, Nat.reduceAdd, Nat.reduceSub, Nat.reduceMul, Nat.reduceLeDiff, Nat.reduceLT, Nat.reduceEqDiff, ↓reduceIte, reduceCtorEq, Int.reduceBEq, Int.reduceBNe, Nat.reduceBEq, Int.reduceLE, Int.reduceLT, Int.reduceEq, Int.reduceNe, Int.reduceNeg, Nat.reduceDiv, Nat.reduceMod, Nat.reducePow, cast_lit, hN0, hN]
      refine W_ret ?_
      try simp only [gthen, gblock]
      have h := Option.some.inj h; subst h
      refine fin_loc (.inr rfl) hU [.val (.bool y8)] ?_
      simp only [push_cast, Nat.reduceAdd, Nat.reduceSub, Nat.reduceMul, Nat.reduceLeDiff, Nat.reduceLT, Nat.reduceEqDiff, ↓reduceIte, reduceCtorEq, Int.reduceBEq, Int.reduceBNe, Nat.reduceBEq, Int.reduceLE, Int.reduceLT, Int.reduceEq, Int.reduceNe, Int.reduceNeg, Nat.reduceDiv, Nat.reduceMod, Nat.reducePow, cast_lit, Try.results4, hN0, hN]
    · replace h := condF c18 h
      refine W_skip ?_
      try simp only [gthen, gblock]
      refine W_fit ⟨45, [], [(0, .sl a0.length (fl (eI .u8) a0)), (3, .sl y2.1.length (fl (eL (eI .u64)) y2.1))]⟩ (Loc O n []) (fit_loc hU rfl rfl ?_) ?_
      · simp only [push_cast, Nat.reduceAdd, Nat.reduceSub, Nat.reduceMul, Nat.reduceLeDiff, Nat.reduceLT, Nat.reduceEqDiff, ↓reduceIte, reduceCtorEq, Int.reduceBEq, Int.reduceBNe, Nat.reduceBEq, Int.reduceLE, Int.reduceLT, Int.reduceEq, Int.reduceNe, Int.reduceNeg, Nat.reduceDiv, Nat.reduceMod, Nat.reducePow, cast_lit, hN0, hN]
      refine W_seqK ?_
      obtain ⟨y10, hy10, h⟩ := bC h
      refine W_regionD tab_ok [] ?_
      simp only [push_cast, Nat.reduceAdd, Nat.reduceSub, Nat.reduceMul, Nat.reduceLeDiff, Nat.reduceLT, Nat.reduceEqDiff, ↓reduceIte, reduceCtorEq, Int.reduceBEq, Int.reduceBNe, Nat.reduceBEq, Int.reduceLE, Int.reduceLT, Int.reduceEq, Int.reduceNe, Int.reduceNeg, Nat.reduceDiv, Nat.reduceMod, Nat.reducePow, cast_lit, hN0, hN]
      refine (ok_frame_Frame hy10).then ?_
      simp only [push_cast, Nat.reduceAdd, Nat.reduceSub, Nat.reduceMul, Nat.reduceLeDiff, Nat.reduceLT, Nat.reduceEqDiff, ↓reduceIte, reduceCtorEq, Int.reduceBEq, Int.reduceBNe, Nat.reduceBEq, Int.reduceLE, Int.reduceLT, Int.reduceEq, Int.reduceNe, Int.reduceNeg, Nat.reduceDiv, Nat.reduceMod, Nat.reducePow, cast_lit, hN0, hN]
      refine W_fit ⟨45, [], [(0, .sl a0.length (fl (eI .u8) a0)), (7, .sl y10.1.length (fl (eI .u8) y10.1)), (8, .val (.bool y10.2))]⟩ (Loc O n []) (fit_loc hU rfl rfl ?_) ?_
      · simp only [push_cast, Nat.reduceAdd, Nat.reduceSub, Nat.reduceMul, Nat.reduceLeDiff, Nat.reduceLT, Nat.reduceEqDiff, ↓reduceIte, reduceCtorEq, Int.reduceBEq, Int.reduceBNe, Nat.reduceBEq, Int.reduceLE, Int.reduceLT, Int.reduceEq, Int.reduceNe, Int.reduceNeg, Nat.reduceDiv, Nat.reduceMod, Nat.reducePow, cast_lit, hN0, hN]
      obtain ⟨z13, hz13, h⟩ := bC h
      refine W_seqN (E' := ⟨45, [], [(2, .val (.bool z13))]⟩) (O' := (Loc O n [])) (n0 := n) ?_ (by omega) ?_
      · rcases Bool.eq_false_or_eq_true y10.2 with c16 | c16
        · replace hz13 := condT c16 hz13
          obtain ⟨y14, hy14, hz13⟩ := bC hz13
          rcases Bool.eq_false_or_eq_true y14 with c17 | c17
          · replace hz13 := condT c17 hz13
            try rw [c17] at c16
            obtain ⟨y15, hy15, hz13⟩ := bC hz13
            refine W_regionD tab_ok [some true, some true, some true, some true] ?_
            simp only [push_cast, Nat.reduceAdd, Nat.reduceSub, Nat.reduceMul, Nat.reduceLeDiff, Nat.reduceLT, Nat.reduceEqDiff, ↓reduceIte, reduceCtorEq, Int.reduceBEq, Int.reduceBNe, Nat.reduceBEq, Int.reduceLE, Int.reduceLT, Int.reduceEq, Int.reduceNe, Int.reduceNeg, Nat.reduceDiv, Nat.reduceMod, Nat.reducePow, cast_lit, c16, c17, hN0, hN]
            refine (ok_centoref01_SameBytes hy14).then ?_
            simp only [push_cast, Nat.reduceAdd, Nat.reduceSub, Nat.reduceMul, Nat.reduceLeDiff, Nat.reduceLT, Nat.reduceEqDiff, ↓reduceIte, reduceCtorEq, Int.reduceBEq, Int.reduceBNe, Nat.reduceBEq, Int.reduceLE, Int.reduceLT, Int.reduceEq, Int.reduceNe, Int.reduceNeg, Nat.reduceDiv, Nat.reduceMod, Nat.reducePow, cast_lit, c16, c17, hN0, hN]
            refine (ok_centolaw03_awake hy15).then ?_
            simp only [push_cast, Nat.reduceAdd, Nat.reduceSub, Nat.reduceMul, Nat.reduceLeDiff, Nat.reduceLT, Nat.reduceEqDiff, ↓reduceIte, reduceCtorEq, Int.reduceBEq, Int.reduceBNe, Nat.reduceBEq, Int.reduceLE, Int.reduceLT, Int.reduceEq, Int.reduceNe, Int.reduceNeg, Nat.reduceDiv, Nat.reduceMod, Nat.reducePow, cast_lit, c16, c17, hN0, hN]
            have hz13 := Option.some.inj hz13; subst hz13
            refine And.intro rfl (fit_loc hU rfl rfl ?_)
            simp only [push_cast, Nat.reduceAdd, Nat.reduceSub, Nat.reduceMul, Nat.reduceLeDiff, Nat.reduceLT, Nat.reduceEqDiff, ↓reduceIte, reduceCtorEq, Int.reduceBEq, Int.reduceBNe, Nat.reduceBEq, Int.reduceLE, Int.reduceLT, Int.reduceEq, Int.reduceNe, Int.reduceNeg, Nat.reduceDiv, Nat.reduceMod, Nat.reducePow, cast_lit, c16, c17, hN0, hN]
          · replace hz13 := condF c17 hz13
            try rw [c17] at c16
            refine W_regionD tab_ok [some true, some true, some true, some false] ?_
            simp only [push_cast, Nat.reduceAdd, Nat.reduceSub, Nat.reduceMul, Nat.reduceLeDiff, Nat.reduceLT, Nat.reduceEqDiff, ↓reduceIte, reduceCtorEq, Int.reduceBEq, Int.reduceBNe, Nat.reduceBEq, Int.reduceLE, Int.reduceLT, Int.reduceEq, Int.reduceNe, Int.reduceNeg, Nat.reduceDiv, Nat.reduceMod, Nat.reducePow, cast_lit, c16, c17, hN0, hN]
            refine (ok_centoref01_SameBytes hy14).then ?_
            simp only [push_cast, Nat.reduceAdd, Nat.reduceSub, Nat.reduceMul, Nat.reduceLeDiff, Nat.reduceLT, Nat.reduceEqDiff, ↓reduceIte, reduceCtorEq, Int.reduceBEq, Int.reduceBNe, Nat.reduceBEq, Int.reduceLE, Int.reduceLT, Int.reduceEq, Int.reduceNe, Int.reduceNeg, Nat.reduceDiv, Nat.reduceMod, Nat.reducePow, cast_lit, c16, c17, hN0, hN]
            have hz13 := Option.some.inj hz13; subst hz13
            refine And.intro rfl (fit_loc hU rfl rfl ?_)
            simp only [push_cast, Nat.reduceAdd, Nat.reduceSub, Nat.reduceMul, Nat.reduceLeDiff, Nat.reduceLT, Nat.reduceEqDiff, ↓reduceIte, reduceCtorEq, Int.reduceBEq, Int.reduceBNe, Nat.reduceBEq, Int.reduceLE, Int.reduceLT, Int.reduceEq, Int.reduceNe, Int.reduceNeg, Nat.reduceDiv, Nat.reduceMod, Nat.reducePow, cast_lit, c16, c17, hN0, hN]
        · replace hz13 := condF c16 hz13
          refine W_regionD tab_ok [some false, some false, some false, some false] ?_
          simp only [push_cast, Nat.reduceAdd, Nat.reduceSub, Nat.reduceMul, Nat.reduceLeDiff, Nat.reduceLT, Nat.reduceEqDiff, ↓reduceIte, reduceCtorEq, Int.reduceBEq, Int.reduceBNe, Nat.reduceBEq, Int.reduceLE, Int.reduceLT, Int.reduceEq, Int.reduceNe, Int.reduceNeg, Nat.reduceDiv, Nat.reduceMod, Nat.reducePow, cast_lit, c16, hN0, hN]
          have hz13 := Option.some.inj hz13; subst hz13
          refine And.intro rfl (fit_loc hU rfl rfl ?_)
          simp only [push_cast, Nat.reduceAdd, Nat.reduceSub, Nat.reduceMul, Nat.reduceLeDiff, Nat.reduceLT, Nat.reduceEqDiff, ↓reduceIte, reduceCtorEq, Int.reduceBEq, Int.reduceBNe, Nat.reduceBEq, Int.reduceLE, Int.reduceLT, Int.reduceEq, Int.reduceNe, Int.reduceNeg, Nat.reduceDiv, Nat.reduceMod, Nat.reducePow, cast_lit, c16, hN0, hN]
      refine W_ret ?_
      try simp only [gthen, gblock]
      have h := Option.some.inj h; subst h
      refine fin_loc (.inr rfl) hU [.val (.bool z13)] ?_
      simp only [push_cast, Nat.reduceAdd, Nat.reduceSub, Nat.reduceMul, Nat.reduceLeDiff, Nat.reduceLT, Nat.reduceEqDiff, ↓reduceIte, reduceCtorEq, Int.reduceBEq, Int.reduceBNe, Nat.reduceBEq, Int.reduceLE, Int.reduceLT, Int.reduceEq, Int.reduceNe, Int.reduceNeg, Nat.reduceDiv, Nat.reduceMod, Nat.reducePow, cast_lit, Try.results4, hN0, hN]

theorem ok_centolaw03_FrameMost {a0 : Int} {r : Bool} {O : Objs} {n : Nat} (h : m_centolaw03_FrameMost a0 = some r) : GTo Try.prog 5 [.val (.int .i64 a0)] O n (.val (.bool r)) O n := by
  unfold m_centolaw03_FrameMost at h
  refine fn_of tab_ok Try.call5 Try.func5 rfl (Nat.le_of_ble_eq_true rfl) (Nat.le_refl _) fun hU => ?_
  have hN0 : O n = none := hU.fresh _ (Nat.le_refl _)
  have hN : ∀ k, O (n + k) = none := fun k => hU.fresh _ (Nat.le_add_right _ _)
  show W _ _ _ ⟨32, [], [(0, .val (.int .i64 a0))]⟩ (Loc O n []) _
  refine W_sq [0, 17, 18, 22, 23, 24, 25, 26, 27, 30] (W_regionD tab_ok [] ?_)
  simp only [push_cast, Nat.reduceAdd, Nat.reduceSub, Nat.reduceMul, Nat.reduceLeDiff, Nat.reduceLT, Nat.reduceEqDiff, ↓reduceIte, reduceCtorEq, Int.reduceBEq, Int.reduceBNe, Nat.reduceBEq, Int.reduceLE, Int.reduceLT, Int.reduceEq, Int.reduceNe, Int.reduceNeg, Nat.reduceDiv, Nat.reduceMod, Nat.reducePow, cast_lit, hN0, hN]
  refine W_sq [0, 17, 18, 22, 23, 24, 25, 26, 27, 30] (W_regionD tab_ok [] ?_)
  simp only [push_cast, Nat.reduceAdd, Nat.reduceSub, Nat.reduceMul, Nat.reduceLeDiff, Nat.reduceLT, Nat.reduceEqDiff, ↓reduceIte, reduceCtorEq, Int.reduceBEq, Int.reduceBNe, Nat.reduceBEq, Int.reduceLE, Int.reduceLT, Int.reduceEq, Int.reduceNe, Int.reduceNeg, Nat.reduceDiv, Nat.reduceMod, Nat.reducePow, cast_lit, hN0, hN]
  refine W_seqK ?_
  obtain ⟨l3, al3, bl3, cl3, el3, h⟩ := bM2 (c := 24) rfl h
  have nl3 : Int.toNat (IntKind.i64.wrap (landI .i64 a0 31)) = List.length l3 := by rw [el3, List.length_replicate]
  have fl3 : ∀ O O' n, wkl O O' n (List.replicate (List.length l3) [G.val (.slice none 0 0)]).flatten (fl (eL (eI .u64)) l3) = True := fun O O' n => by rw [← nl3, el3]; exact eq_true (wkl_nils _ _)
  clear el3
  obtain ⟨y4, hy4, h⟩ := bC h
  refine W_regionD tab_ok [] ?_
  simp only [push_cast, Nat.reduceAdd, Nat.reduceSub, Nat.reduceMul, Nat.reduceLeDiff, Nat.reduceLT, Nat.reduceEqDiff, ↓reduceIte, reduceCtorEq, Int.reduceBEq, Int.reduceBNe, Nat.reduceBEq, Int.reduceLE, Int.reduceLT, Int.reduceEq, Int.reduceNe, Int.reduceNeg, Nat.reduceDiv, Nat.reduceMod, Nat.reducePow, cast_lit, al3, bl3, cl3, fl3, nl3, hN0, hN]
  refine GCalls.dropL (l' := [none]) hU rfl ?_ ((ok_frame_Frame hy4).then ?_)
  · simp only [push_cast, Nat.reduceAdd, Nat.reduceSub, Nat.reduceMul, Nat.reduceLeDiff, Nat.reduceLT, Nat.reduceEqDiff, ↓reduceIte, reduceCtorEq, Int.reduceBEq, Int.reduceBNe, Nat.reduceBEq, Int.reduceLE, Int.reduceLT, Int.reduceEq, Int.reduceNe, Int.reduceNeg, Nat.reduceDiv, Nat.reduceMod, Nat.reducePow, cast_lit, al3, bl3, cl3, fl3, nl3, hN0, hN]
  simp only [push_cast, Nat.reduceAdd, Nat.reduceSub, Nat.reduceMul, Nat.reduceLeDiff, Nat.reduceLT, Nat.reduceEqDiff, ↓reduceIte, reduceCtorEq, Int.reduceBEq, Int.reduceBNe, Nat.reduceBEq, Int.reduceLE, Int.reduceLT, Int.reduceEq, Int.reduceNe, Int.reduceNeg, Nat.reduceDiv, Nat.reduceMod, Nat.reducePow, cast_lit, al3, bl3, cl3, fl3, nl3, hN0, hN]
  refine W_fit ⟨32, [], [(0, .val (.int .i64 (IntKind.i64.wrap (landI .i64 a0 31)))), (3, .sl y4.1.length (fl (eI .u8) y4.1)), (4, .val (.bool y4.2))]⟩ (Loc O n [none]) (fit_loc hU rfl rfl ?_) ?_
  · simp only [push_cast, Nat.reduceAdd, Nat.reduceSub, Nat.reduceMul, Nat.reduceLeDiff, Nat.reduceLT, Nat.reduceEqDiff, ↓reduceIte, reduceCtorEq, Int.reduceBEq, Int.reduceBNe, Nat.reduceBEq, Int.reduceLE, Int.reduceLT, Int.reduceEq, Int.reduceNe, Int.reduceNeg, Nat.reduceDiv, Nat.reduceMod, Nat.reducePow, cast_lit, al3, bl3, cl3, fl3, nl3, hN0, hN]
  obtain ⟨z7, hz7, h⟩ := bC h
  refine W_seqN (E' := ⟨32, [], [(2, .val (.bool z7))]⟩) (O' := (Loc O n [none])) (n0 := (n + 1)) ?_ (by omega) ?_
  · rcases Bool.eq_false_or_eq_true (y4.2 == (cond (decide (1 ≤ (IntKind.i64.wrap (landI .i64 a0 31)))) (decide ((IntKind.i64.wrap (landI .i64 a0 31)) ≤ 16)) false)) with c10 | c10
    · replace hz7 := condT c10 hz7
      rcases Bool.eq_false_or_eq_true y4.2 with c11 | c11
      · replace hz7 := condT c11 hz7
        try rw [c11] at c10
        obtain ⟨y8, hy8, hz7⟩ := bC hz7
        refine W_regionD tab_ok [none, none, none, none, none, none, none, none, some true] ?_
        simp only [push_cast, Nat.reduceAdd, Nat.reduceSub, Nat.reduceMul, Nat.reduceLeDiff, Nat.reduceLT, Nat.reduceEqDiff, ↓reduceIte, reduceCtorEq, Int.reduceBEq, Int.reduceBNe, Nat.reduceBEq, Int.reduceLE, Int.reduceLT, Int.reduceEq, Int.reduceNe, Int.reduceNeg, Nat.reduceDiv, Nat.reduceMod, Nat.reducePow, cast_lit, c10, c11, hN0, hN]
        repeat (with_reducible refine And.intro (by first | (intro h0; simp only [h0, and_self]; done) | (intros; simp_all; done) | exact True.intro) ?_)
        refine (ok_centolaw03_awake hy8).then ?_
        simp only [push_cast, Nat.reduceAdd, Nat.reduceSub, Nat.reduceMul, Nat.reduceLeDiff, Nat.reduceLT, Nat.reduceEqDiff, ↓reduceIte, reduceCtorEq, Int.reduceBEq, Int.reduceBNe, Nat.reduceBEq, Int.reduceLE, Int.reduceLT, Int.reduceEq, Int.reduceNe, Int.reduceNeg, Nat.reduceDiv, Nat.reduceMod, Nat.reducePow, cast_lit, c10, c11, hN0, hN]
        repeat (with_reducible refine And.intro (by first | (intro h0; simp only [h0, and_self]; done) | (intros; simp_all; done) | exact True.intro) ?_)
        have hz7 := Option.some.inj hz7; subst hz7
        refine And.intro rfl (fit_loc hU rfl rfl ?_)
        simp only [push_cast, Nat.reduceAdd, Nat.reduceSub, Nat.reduceMul, Nat.reduceLeDiff, Nat.reduceLT, Nat.reduceEqDiff, ↓reduceIte, reduceCtorEq, Int.reduceBEq, Int.reduceBNe, Nat.reduceBEq, Int.reduceLE, Int.reduceLT, Int.reduceEq, Int.reduceNe, Int.reduceNeg, Nat.reduceDiv, Nat.reduceMod, Nat.reducePow, cast_lit, c10, c11, hN0, hN]
      · replace hz7 := condF c11 hz7
        try rw [c11] at c10
        rcases Bool.eq_false_or_eq_true ((y4.1.length : Int) == 0) with c12 | c12
        · replace hz7 := condT c12 hz7
          try rw [c12] at c10
          try rw [c12] at c11
          obtain ⟨y9, hy9, hz7⟩ := bC hz7
          refine W_regionD tab_ok [none, none, none, none, none, none, none, none, some true] ?_
          simp only [push_cast, Nat.reduceAdd, Nat.reduceSub, Nat.reduceMul, Nat.reduceLeDiff, Nat.reduceLT, Nat.reduceEqDiff, ↓reduceIte, reduceCtorEq, Int.reduceBEq, Int.reduceBNe, Nat.reduceBEq, Int.reduceLE, Int.reduceLT, Int.reduceEq, Int.reduceNe, Int.reduceNeg, Nat.reduceDiv, Nat.reduceMod, Nat.reducePow, cast_lit, c10, c11, c12, hN0, hN]
          repeat (with_reducible refine And.intro (by first | (intro h0; simp only [h0, and_self]; done) | (intros; simp_all; done) | exact True.intro) ?_)
          refine (ok_centolaw03_awake hy9).then ?_
          simp only [push_cast, Nat.reduceAdd, Nat.reduceSub, Nat.reduceMul, Nat.reduceLeDiff, Nat.reduceLT, Nat.reduceEqDiff, ↓reduceIte, reduceCtorEq, Int.reduceBEq, Int.reduceBNe, Nat.reduceBEq, Int.reduceLE, Int.reduceLT, Int.reduceEq, Int.reduceNe, Int.reduceNeg, Nat.reduceDiv, Nat.reduceMod, Nat.reducePow, cast_lit, c10, c11, c12, hN0, hN]
          repeat (with_reducible refine And.intro (by first | (intro h0; simp only [h0, and_self]; done) | (intros; simp_all; done) | exact True.intro) ?_)
          have hz7 := Option.some.inj hz7; subst hz7
          refine And.intro rfl (fit_loc hU rfl rfl ?_)
          simp only [push_cast, Nat.reduceAdd, Nat.reduceSub, Nat.reduceMul, Nat.reduceLeDiff, Nat.reduceLT, Nat.reduceEqDiff, ↓reduceIte, reduceCtorEq, Int.reduceBEq, Int.reduceBNe, Nat.reduceBEq, Int.reduceLE, Int.reduceLT, Int.reduceEq, Int.reduceNe, Int.reduceNeg, Nat.reduceDiv, Nat.reduceMod, Nat.reducePow, cast_lit, c10, c11, c12, hN0, hN]
        · replace hz7 := condF c12 hz7
          try rw [c12] at c10
          try rw [c12] at c11
          refine W_regionD tab_ok [none, none, none, none, none, none, none, none, some false] ?_
          simp only [push_cast, Nat.reduceAdd, Nat.reduceSub, Nat.reduceMul, Nat.reduceLeDiff, Nat.reduceLT, Nat.reduceEqDiff, ↓reduceIte, reduceCtorEq, Int.reduceBEq, Int.reduceBNe, Nat.reduceBEq, Int.reduceLE, Int.reduceLT, Int.reduceEq, Int.reduceNe, Int.reduceNeg, Nat.reduceDiv, Nat.reduceMod, Nat.reducePow, cast_lit, c10, c11, c12, hN0, hN]
          repeat (with_reducible refine And.intro (by first | (intro h0; simp only [h0, and_self]; done) | (intros; simp_all; done) | exact True.intro) ?_)
          have hz7 := Option.some.inj hz7; subst hz7
          refine And.intro rfl (fit_loc hU rfl rfl ?_)
          simp only [push_cast, Nat.reduceAdd, Nat.reduceSub, Nat.reduceMul, Nat.reduceLeDiff, Nat.reduceLT, Nat.reduceEqDiff, ↓reduceIte, reduceCtorEq, Int.reduceBEq, Int.reduceBNe, Nat.reduceBEq, Int.reduceLE, Int.reduceLT, Int.reduceEq, Int.reduceNe, Int.reduceNeg, Nat.reduceDiv, Nat.reduceMod, Nat.reducePow, cast_lit, c10, c11, c12, hN0, hN]
    · replace hz7 := condF c10 hz7
      refine W_regionD tab_ok [none, none, none, none, none, none, none, none, some false] ?_
      simp only [push_cast, Nat.reduceAdd, Nat.reduceSub, Nat.reduceMul, Nat.reduceLeDiff, Nat.reduceLT, Nat.reduceEqDiff, ↓reduceIte, reduceCtorEq, Int.reduceBEq, Int.reduceBNe, Nat.reduceBEq, Int.reduceLE, Int.reduceLT, Int.reduceEq, Int.reduceNe, Int.reduceNeg, Nat.reduceDiv, Nat.reduceMod, Nat.reducePow, cast_lit, c10, hN0, hN]
      repeat (with_reducible refine And.intro (by first | (intro h0; simp only [h0, and_self]; done) | (intros; simp_all; done) | exact True.intro) ?_)
      have hz7 := Option.some.inj hz7; subst hz7
      refine And.intro rfl (fit_loc hU rfl rfl ?_)
      simp only [push_cast, Nat.reduceAdd, Nat.reduceSub, Nat.reduceMul, Nat.reduceLeDiff, Nat.reduceLT, Nat.reduceEqDiff, ↓reduceIte, reduceCtorEq, Int.reduceBEq, Int.reduceBNe, Nat.reduceBEq, Int.reduceLE, Int.reduceLT, Int.reduceEq, Int.reduceNe, Int.reduceNeg, Nat.reduceDiv, Nat.reduceMod, Nat.reducePow, cast_lit, c10, hN0, hN]
  refine W_ret ?_
  try simp only [gthen, gblock]
  have h := Option.some.inj h; subst h
  refine fin_loc (.inr rfl) hU [.val (.bool z7)] ?_
  simp only [push_cast, Nat.reduceAdd, Nat.reduceSub, Nat.reduceMul, Nat.reduceLeDiff, Nat.reduceLT, Nat.reduceEqDiff, ↓reduceIte, reduceCtorEq, Int.reduceBEq, Int.reduceBNe, Nat.reduceBEq, Int.reduceLE, Int.reduceLT, Int.reduceEq, Int.reduceNe, Int.reduceNeg, Nat.reduceDiv, Nat.reduceMod, Nat.reducePow, cast_lit, Try.results5, hN0, hN]

end Go.Proofs.Ytgijkjifiekkmaa
