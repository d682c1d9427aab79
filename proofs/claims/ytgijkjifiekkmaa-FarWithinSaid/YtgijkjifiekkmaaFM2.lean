/- Part FM2 of this seat's mirrors: functions of the seat's program, and the plain functions that they are; each theorem bears its own conditions. -/
import Derived.Test.YtgijkjifiekkmaaFE
import Derived.Test.YtgijkjifiekkmaaFM1
namespace Go.Proofs.Ytgijkjifiekkmaa
open Go.RowKit
set_option linter.unusedVariables false
set_option linter.unusedSimpArgs false
set_option maxRecDepth 100000
set_option maxHeartbeats 4000000
attribute [local push_cast] c_S_ptr_Ptr gfork_t gfork_f pfork_t pfork_f gthen gblock gops_nil gops_plain gops_guard onW gwantB gcalm gact gpick gpickV strip_any strip_val strip_agg strip_tup strip_sl strip_ip strip_row strip_rs strip_rp strip_ref strip_fn strip_when evS wok calmOp Op.operands Call.operands gop onK onP atK List.all_cons List.all_nil Bool.and_true Bool.true_and Bool.and_self Value.oneCell' List.take_zero List.take_succ_cons List.take_nil List.drop_zero List.drop_succ_cons List.drop_nil List.append_nil Nat.add_zero Nat.zero_add gstep gputE ev look genv gbin_ii gbin_bb gbin_ss gbin_pp gbin_rp gbin_ip gbin_ll gbin_aa geqS geqF gint gunary gconvert gload gcells gpart_lit gstore gcellsOf gput gplace_lit gfieldAddr gstepIn gindexAddr gindex gfield gopt bLo bHi bMx gextract galloc gbox gbuild gfill gplaces gbuildSlice gmake glen gappend gsrc gbuiltin gnil live_any live_val live_agg live_tup live_sl live_ip live_fn live_when live_ref live_rs live_rp live_row live_gP gres gone prun_nil prun_plain prun_guard pop TK.isAgg G.one G.under G.unders List.getD_cons_zero List.getD_cons_succ List.set_cons_zero List.set_cons_succ List.map_cons List.map_nil List.toList_toArray Array.toList_append Option.toArray_none Option.toArray_some Array.toList_map Option.map_some Option.map_none Option.bind_some Option.bind_none List.getElem?_cons_zero List.getElem?_cons_succ List.getElem?_nil List.nil_append List.cons_append List.replicate_succ List.replicate_zero List.length_cons List.length_nil and_true true_and and_false false_and Bool.true_eq_false Bool.false_eq_true forall_const false_implies implies_true IntKind.bits if_true if_false ite_true ite_false eq_self true_implies false_or or_false or_true true_or not_true_eq_false not_false_eq_true decide_true decide_false decide_eq_true_eq decide_eq_false_iff_not beq_iff_eq bne_iff_ne ne_eq Bool.not_eq_true Bool.not_eq_false beq_eq_false_iff_ne bne_eq_false_iff_eq beq_self_eq_true bne_self_eq_false Option.some.injEq exists_eq_left' exists_eq_left ge_iff_le gt_iff_lt decide_not Bool.not_true Bool.not_false imp_self gquiet cond_true cond_false beqT beqF Bool.not_not Bool.and_false Bool.false_and Bool.or_true Bool.true_or Bool.or_false Bool.false_or Loc_at Loc_at0 Loc_upd Loc_upd0 Loc_push Loc_push0 Option.join_some Nat.add_assoc Int.toNat_natCast eI eB eS eL fl_nil gopsD_nil gopsD_plain gopsD_t gopsD_f gopsD_n onKD onWD prunD_nil prunD_plain prunD_t prunD_f prunD_n onPD fitO fitO1 sameO fitL fl_append fl_one List.length_append G.agg.injEq G.row.injEq G.ref.injEq G.val.injEq G.sl.injEq G.tup.injEq Value.int.injEq Value.bool.injEq Value.string.injEq List.cons.injEq exists_and_left exists_const List.flatten_cons List.flatten_nil Int.le_refl Nat.le_refl upd_updU Loc_out Loc_updo Bool.not_eq_true' Bool.not_eq_false' wkl_nil wkl_cons wk_any wk_val wk_agg wk_tup wk_sl wk_fn List.size_toArray renO renO1 G.ren G.rens renL rho_at rho_at0 gP_none gP_some strip_gP wok_gP one_gP G.fn.injEq wk_slnil wk_slrow wk_slrs wk_ip wk_ipref wk_row wk_rs wk_rp wk_ref locLt0 locLt Option.join_none upd_same fl_cons undef keepL Arr.len Arr.put_eq prunB_nil prunB_bar prunB_bart prunB_plain prunB_t prunB_f prunB_n onB onBP gcopy setI_len Loc_cat0 Loc_cat1 Loc_cat2 Loc_cat3 Loc_cat4 Loc_cat5 noObjs_at prunK_nil prunK_bar prunK_pass prunK_plain prunK_low prunK_pt prunK_pf prunK_lt prunK_lf onKg onKa onKp popL pickOps lows lowG prunK_shp prunK_fill popH shpOp fillOp fillG rho_low rens_app Loc_cat6 Loc_cat7 Loc_cat8 Loc_cat9 Loc_cat10 Loc_cat11 Loc_cat12 Loc_cat13 Loc_cat14 Loc_cat15 Loc_cat16 dropM prT kdOf tab2 tkind2 tab3 tkind3 tab4 tkind4 tab5 tkind5 tab6 tkind6 tab7 tkind7 tab8 tkind8 tab9 tkind9 tab10 tkind10 tab11 tkind11 tab12 tkind12 tab13 tkind13 tab14 tkind14 tab15 tkind15 tab16 tkind16 tab17 tkind17 tab18 tkind18 tab19 tkind19 tab21 tkind21 tab22 tkind22 tab23 tkind23 tab28 tkind28 tab37 tkind37 tab38 tkind38 tab39 tkind39 tab42 tkind42 tab48 tkind48 tab49 tkind49 tab51 tkind51 tab53 tkind53 tab54 tkind54 tab57 tkind57 tab58 tkind58 tab62 tkind62 tab66 tkind66 tab67 tkind67 tab70 tkind70 tab79 tkind79 tab80 tkind80 tab83 tkind83 tab84 tkind84 tab91 tkind91 tab104 tkind104 tab105 tkind105 tab114 tkind114 tab118 tkind118 tab119 tkind119 tab121 tkind121 tab122 tkind122 tab126 tkind126 tab127 tkind127 tab129 tkind129 tab130 tkind130 tab131 tkind131 wkl_eI_u64 wka_eI_u64 len_eI_u64 one_eI_u64 wkp_eI_u64 undp_eI_u64 rens_eI_u64 renp_eI_u64 und_eI_u64 wkl_eL_eI_u64 wka_eL_eI_u64 len_eL_eI_u64 one_eL_eI_u64 wkp_eL_eI_u64 undp_eL_eI_u64 rens_eL_eI_u64 renp_eL_eI_u64 und_eL_eI_u64 e_S_arena_Arena wkl_e_S_arena_Arena wka_e_S_arena_Arena len_e_S_arena_Arena one_e_S_arena_Arena wkp_e_S_arena_Arena undp_e_S_arena_Arena rens_e_S_arena_Arena renp_e_S_arena_Arena und_e_S_arena_Arena e_S_ptr_Ptr wkl_eI_i64 wka_eI_i64 len_eI_i64 one_eI_i64 wkp_eI_i64 undp_eI_i64 rens_eI_i64 renp_eI_i64 und_eI_i64 e_S_far_Loc e_S_centoref06_Loc
theorem ok_centoref06_Follow {a0 : (List (List Int))} {a1 : Int} {a2 : Int} {r : (S_centoref06_Loc × Int)} {O : Objs} {n : Nat} (h : m_centoref06_Follow a0 a1 a2 = some r) : GTo Try.prog 45 [.sl a0.length (fl (eL (eI .u64)) a0), .val (.int .i64 a1), .val (.int .i64 a2)] O n (.tup [.agg [.val (.int .i64 r.1.P.Kind), .val (.int .i64 r.1.P.Off), .val (.int .i64 r.1.P.Data), .val (.int .i64 r.1.P.Ptrs), .val (.int .i64 r.1.P.Code), .val (.int .i64 r.1.P.Count), .val (.int .i64 r.1.P.Segment), .val (.bool r.1.P.Double), .val (.int .i64 r.1.Segment), .val (.int .i64 r.1.At)], .val (.int .i64 r.2)]) O n := by
  unfold m_centoref06_Follow at h
  refine fn_of tab_ok Try.call45 Try.func45 rfl (Nat.le_of_ble_eq_true rfl) (Nat.le_refl _) fun hU => ?_
  have hN0 : O n = none := hU.fresh _ (Nat.le_refl _)
  have hN : ∀ k, O (n + k) = none := fun k => hU.fresh _ (Nat.le_add_right _ _)
  show W _ _ _ _ ⟨147, [], [(0, .sl a0.length (fl (eL (eI .u64)) a0)), (1, .val (.int .i64 a1)), (2, .val (.int .i64 a2))]⟩ (Loc O n []) _
  refine W_sq [0, 1, 2, 6] (W_regionD tab_ok [] ?_)
  simp only [push_cast, seval, ↓reduceIte, cast_lit, hN0, hN]
  refine W_seqK ?_
  refine W_seqK ?_
  obtain ⟨y2, hy2, h⟩ := bC h
  refine W_regionD tab_ok [] ?_
  simp only [push_cast, seval, ↓reduceIte, cast_lit, hN0, hN]
  refine (ok_centoref06_has hy2).then ?_
  simp only [push_cast, seval, ↓reduceIte, cast_lit, hN0, hN]
  refine W_drop [0, 1, 2, 6, 17] [true] ?_
  simp only [push_cast, seval, ↓reduceIte]
  refine W_cond (t := (!y2)) rfl (fun c47 => ?_) (fun c47 => ?_)
  · replace h := condT c47 h
    refine W_seqK ?_
    refine W_regionD tab_ok [] ?_
    simp only [push_cast, seval, ↓reduceIte, cast_lit, hN0, hN]
    refine W_drop [6, 7] [true] ?_
    simp only [push_cast, seval, ↓reduceIte]
    refine W_ret ?_
    try simp only [gthen, gblock]
    have h := Option.some.inj h; subst h
    refine fin_loc (.inr rfl) hU [.agg [.val (.int .i64 0), .val (.int .i64 0), .val (.int .i64 0), .val (.int .i64 0), .val (.int .i64 0), .val (.int .i64 0), .val (.int .i64 0), .val (.bool false), .val (.int .i64 0), .val (.int .i64 0)], .val (.int .i64 7)] (by omega) ?_
    simp only [push_cast, seval, ↓reduceIte, cast_lit, Try.results45, hN0, hN]
  · replace h := condF c47 h
    refine W_skip ?_
    try simp only [gthen, gblock]
    refine W_drop [0, 1, 2, 6] [true] ?_
    simp only [push_cast, seval, ↓reduceIte]
    refine W_seqK ?_
    obtain ⟨x6, hx6, ax6, bx6, cx6, h⟩ := bE (f := (eL (eI .u64))) tab62 (fun _ => rfl) (by decide) h
    obtain ⟨x7, hx7, ax7, bx7, cx7, h⟩ := bE (f := (eI .u64)) tab37 (fun _ => rfl) (by decide) h
    obtain ⟨y8, hy8, h⟩ := bC h
    refine W_regionD tab_ok [] ?_
    simp only [push_cast, Nat.reduceAdd, Nat.reduceSub, Nat.reduceMul, Nat.reduceLeDiff, Nat.reduceLT, Nat.reduceEqDiff, ↓reduceIte, reduceCtorEq, Int.reduceBEq, Int.reduceBNe, Nat.reduceBEq, Int.reduceLE, Int.reduceLT, Int.reduceEq, Int.reduceNe, Int.reduceNeg, Nat.reduceDiv, Nat.reduceMod, Nat.reducePow, cast_lit, ax6, bx6, cx6, ax7, bx7, cx7, hN0, hN]
    refine (ok_centoref04_Decode hy8).then ?_
    simp only [push_cast, Nat.reduceAdd, Nat.reduceSub, Nat.reduceMul, Nat.reduceLeDiff, Nat.reduceLT, Nat.reduceEqDiff, ↓reduceIte, reduceCtorEq, Int.reduceBEq, Int.reduceBNe, Nat.reduceBEq, Int.reduceLE, Int.reduceLT, Int.reduceEq, Int.reduceNe, Int.reduceNeg, Nat.reduceDiv, Nat.reduceMod, Nat.reducePow, cast_lit, ax6, bx6, cx6, ax7, bx7, cx7, hN0, hN]
    refine W_drop [0, 1, 2, 6, 8] [true, true] ?_
    simp only [push_cast, seval, ↓reduceIte]
    refine W_seqK ?_
    refine W_sq [0, 1, 2, 6, 8, 29] (W_regionD tab_ok [] ?_)
    simp only [push_cast, seval, ↓reduceIte, cast_lit, hN0, hN]
    refine W_cond (t := (y8.Kind == 0)) rfl (fun c46 => ?_) (fun c46 => ?_)
    · replace h := condT c46 h
      refine W_seqK ?_
      refine W_regionD tab_ok [] ?_
      simp only [push_cast, seval, ↓reduceIte, cast_lit, hN0, hN]
      refine W_drop [6, 7] [true, false] ?_
      simp only [push_cast, seval, ↓reduceIte]
      refine W_ret ?_
      try simp only [gthen, gblock]
      have h := Option.some.inj h; subst h
      refine fin_loc (.inr rfl) hU [.agg [.val (.int .i64 0), .val (.int .i64 0), .val (.int .i64 0), .val (.int .i64 0), .val (.int .i64 0), .val (.int .i64 0), .val (.int .i64 0), .val (.bool false), .val (.int .i64 0), .val (.int .i64 0)], .val (.int .i64 0)] (by omega) ?_
      simp only [push_cast, seval, ↓reduceIte, cast_lit, Try.results45, hN0, hN]
    · replace h := condF c46 h
      refine W_skip ?_
      try simp only [gthen, gblock]
      refine W_drop [0, 1, 2, 6, 8] [true, true] ?_
      simp only [push_cast, seval, ↓reduceIte]
      refine W_seqK ?_
      refine W_sq [0, 1, 2, 6, 8, 37] (W_regionD tab_ok [none, none] ?_)
      simp only [push_cast, seval, ↓reduceIte, cast_lit, hN0, hN]
      repeat (with_reducible refine And.intro (by first | (intro h0; simp only [h0, and_self]; done) | (intro h0; simp only [h0, Bool.not_false, Bool.not_true, Bool.true_and, Bool.and_true, true_and, and_true, and_self, imp_self, implies_true, bne_iff_ne, ne_eq, beq_iff_eq]; done) | (intros; simp_all; done) | exact True.intro) ?_)
      refine W_cond (t := (cond (y8.Kind == 3) y8.Double false)) rfl (fun c45 => ?_) (fun c45 => ?_)
      · replace h := condT c45 h
        refine W_seqK ?_
        obtain ⟨z11, hz11, h⟩ := bC h
        refine W_seqN (E' := ⟨147, [], [(0, .sl a0.length (fl (eL (eI .u64)) a0)), (6, .ref n 0), (8, .ref (n + 1) 0), (54, .val (.bool z11))]⟩) (O' := (Loc O n [some ⟨false, 84, 10, 1, [.val (.int .i64 0), .val (.int .i64 0), .val (.int .i64 0), .val (.int .i64 0), .val (.int .i64 0), .val (.int .i64 0), .val (.int .i64 0), .val (.bool false), .val (.int .i64 0), .val (.int .i64 0)]⟩, some ⟨false, 42, 8, 1, (c_S_ptr_Ptr y8)⟩])) (n0 := (n + 2)) ?_ ?_
        · obtain ⟨y14, hy14, hz11⟩ := bC hz11
          rcases Bool.eq_false_or_eq_true y14 with c16 | c16
          · replace hz11 := condT c16 hz11
            obtain ⟨y15, hy15, hz11⟩ := bC hz11
            refine W_regionD tab_ok [some true, some true, some true, some true, some true, some true, some true, some true] ?_
            simp only [push_cast, seval, ↓reduceIte, cast_lit, c16, hN0, hN]
            refine (ok_centoref06_has hy14).then ?_
            simp only [push_cast, seval, ↓reduceIte, cast_lit, c16, hN0, hN]
            refine (ok_centoref06_has hy15).then ?_
            simp only [push_cast, seval, ↓reduceIte, cast_lit, c16, hN0, hN]
            have hz11 := Option.some.inj hz11; subst hz11
            refine And.intro rfl (Fit2.of (fit_loc hU rfl rfl ?_) (by omega))
            simp only [push_cast, seval, ↓reduceIte, cast_lit, c16, hN0, hN]
          · replace hz11 := condF c16 hz11
            refine W_regionD tab_ok [some false, some false, some false, some false, some false, some false, some false, some false] ?_
            simp only [push_cast, seval, ↓reduceIte, cast_lit, c16, hN0, hN]
            refine (ok_centoref06_has hy14).then ?_
            simp only [push_cast, seval, ↓reduceIte, cast_lit, c16, hN0, hN]
            have hz11 := Option.some.inj hz11; subst hz11
            refine And.intro rfl (Fit2.of (fit_loc hU rfl rfl ?_) (by omega))
            simp only [push_cast, seval, ↓reduceIte, cast_lit, c16, hN0, hN]
        refine W_cond (t := z11) rfl (fun c31 => ?_) (fun c31 => ?_)
        · replace h := condT c31 h
          refine W_seqK ?_
          refine W_regionD tab_ok [] ?_
          simp only [push_cast, seval, ↓reduceIte, cast_lit, hN0, hN]
          refine W_drop [6, 7] [true, false] ?_
          simp only [push_cast, seval, ↓reduceIte]
          refine W_ret ?_
          try simp only [gthen, gblock]
          have h := Option.some.inj h; subst h
          refine fin_loc (.inr rfl) hU [.agg [.val (.int .i64 0), .val (.int .i64 0), .val (.int .i64 0), .val (.int .i64 0), .val (.int .i64 0), .val (.int .i64 0), .val (.int .i64 0), .val (.bool false), .val (.int .i64 0), .val (.int .i64 0)], .val (.int .i64 7)] (by omega) ?_
          simp only [push_cast, seval, ↓reduceIte, cast_lit, Try.results45, hN0, hN]
        · replace h := condF c31 h
          refine W_skip ?_
          try simp only [gthen, gblock]
          refine W_drop [0, 6, 8] [true, true] ?_
          simp only [push_cast, seval, ↓reduceIte]
          obtain ⟨x17, hx17, ax17, bx17, cx17, h⟩ := bE (f := (eL (eI .u64))) tab62 (fun _ => rfl) (by decide) h
          obtain ⟨x18, hx18, ax18, bx18, cx18, h⟩ := bE (f := (eI .u64)) tab37 (fun _ => rfl) (by decide) h
          obtain ⟨y19, hy19, h⟩ := bC h
          obtain ⟨x21, hx21, ax21, bx21, cx21, h⟩ := bE (f := (eI .u64)) tab37 (fun _ => rfl) (by decide) h
          obtain ⟨y22, hy22, h⟩ := bC h
          refine W_seqN (E' := ⟨147, [], [(0, .sl a0.length (fl (eL (eI .u64)) a0)), (6, .ref n 0), (9, .ref (n + 2) 0), (10, .ref (n + 3) 0)]⟩) (O' := (Loc O n [some ⟨false, 84, 10, 1, [.val (.int .i64 0), .val (.int .i64 0), .val (.int .i64 0), .val (.int .i64 0), .val (.int .i64 0), .val (.int .i64 0), .val (.int .i64 0), .val (.bool false), .val (.int .i64 0), .val (.int .i64 0)]⟩, none, some ⟨false, 42, 8, 1, (c_S_ptr_Ptr y19)⟩, some ⟨false, 42, 8, 1, (c_S_ptr_Ptr y22)⟩])) (n0 := (n + 4)) ?_ ?_
          · refine W_drawX tab_ok (by kernel_rfl) [.low, .low, .low, .low, .low, .low, .low, .low, .low, .low, .low, .low, .low, .low, .low, .low, .low, .low, .low, .low, .low, .pass, .pass, .pass, .pass] (fun i => i < (n + 2)) 21 22 [0, 1, 2, 3, 4, 5, 6, 7, 8, 9, 10, 11, 12, 13, 14, 15, 16, 17, 18, 19, 20] [23, 24] [.low, .low, .low, .low, .low, .low, .low, .low, .low, .low, .low, .low, .low, .low, .low, .low, .low, .low, .low, .low, .low] [.pass, .pass, .pass, .pass] [.pass, .pass, .pass, .pass] [] (by kernel_rfl) rfl rfl rfl ?_
            simp only [push_cast, Nat.reduceAdd, Nat.reduceSub, Nat.reduceMul, Nat.reduceLeDiff, Nat.reduceLT, Nat.reduceEqDiff, ↓reduceIte, reduceCtorEq, Int.reduceBEq, Int.reduceBNe, Nat.reduceBEq, Int.reduceLE, Int.reduceLT, Int.reduceEq, Int.reduceNe, Int.reduceNeg, Nat.reduceDiv, Nat.reduceMod, Nat.reducePow, cast_lit, ax17, bx17, cx17, ax18, bx18, cx18, ax21, bx21, cx21, hN0, hN]
            repeat (with_reducible refine And.intro (by omega) ?_)
            first | refine PCallA.of (fun _ _ => ok_centoref04_Decode hy19) ?_ | refine PCall.of (ok_centoref04_Decode hy19) ?_
            simp only [push_cast, Nat.reduceAdd, Nat.reduceSub, Nat.reduceMul, Nat.reduceLeDiff, Nat.reduceLT, Nat.reduceEqDiff, ↓reduceIte, reduceCtorEq, Int.reduceBEq, Int.reduceBNe, Nat.reduceBEq, Int.reduceLE, Int.reduceLT, Int.reduceEq, Int.reduceNe, Int.reduceNeg, Nat.reduceDiv, Nat.reduceMod, Nat.reducePow, cast_lit, ax17, bx17, cx17, ax18, bx18, cx18, ax21, bx21, cx21, hN0, hN]
            repeat (with_reducible refine And.intro (by omega) ?_)
            first | refine PCallA.of (fun _ _ => ok_centoref04_Decode hy22) ?_ | refine PCall.of (ok_centoref04_Decode hy22) ?_
            simp only [push_cast, Nat.reduceAdd, Nat.reduceSub, Nat.reduceMul, Nat.reduceLeDiff, Nat.reduceLT, Nat.reduceEqDiff, ↓reduceIte, reduceCtorEq, Int.reduceBEq, Int.reduceBNe, Nat.reduceBEq, Int.reduceLE, Int.reduceLT, Int.reduceEq, Int.reduceNe, Int.reduceNeg, Nat.reduceDiv, Nat.reduceMod, Nat.reducePow, cast_lit, ax17, bx17, cx17, ax18, bx18, cx18, ax21, bx21, cx21, hN0, hN]
            repeat (with_reducible refine And.intro (by omega) ?_)
            refine And.intro ?_ ?_
            · simp only [push_cast, Nat.reduceAdd, Nat.reduceSub, Nat.reduceMul, Nat.reduceLeDiff, Nat.reduceLT, Nat.reduceEqDiff, ↓reduceIte, reduceCtorEq, Int.reduceBEq, Int.reduceBNe, Nat.reduceBEq, Int.reduceLE, Int.reduceLT, Int.reduceEq, Int.reduceNe, Int.reduceNeg, Nat.reduceDiv, Nat.reduceMod, Nat.reducePow, cast_lit, ax17, bx17, cx17, ax18, bx18, cx18, ax21, bx21, cx21, hN0, hN]
              repeat (with_reducible refine And.intro (by first | exact agree_loc rfl | exact agree_loc0) ?_)
              refine And.intro rfl (Fit2.of (fit_loc hU rfl rfl ?_) (by omega))
              simp only [push_cast, Nat.reduceAdd, Nat.reduceSub, Nat.reduceMul, Nat.reduceLeDiff, Nat.reduceLT, Nat.reduceEqDiff, ↓reduceIte, reduceCtorEq, Int.reduceBEq, Int.reduceBNe, Nat.reduceBEq, Int.reduceLE, Int.reduceLT, Int.reduceEq, Int.reduceNe, Int.reduceNeg, Nat.reduceDiv, Nat.reduceMod, Nat.reducePow, cast_lit, ax17, bx17, cx17, ax18, bx18, cx18, ax21, bx21, cx21, hN0, hN]
            · simp only [push_cast, Nat.reduceAdd, Nat.reduceSub, Nat.reduceMul, Nat.reduceLeDiff, Nat.reduceLT, Nat.reduceEqDiff, ↓reduceIte, reduceCtorEq, Int.reduceBEq, Int.reduceBNe, Nat.reduceBEq, Int.reduceLE, Int.reduceLT, Int.reduceEq, Int.reduceNe, Int.reduceNeg, Nat.reduceDiv, Nat.reduceMod, Nat.reducePow, cast_lit, ax17, bx17, cx17, ax18, bx18, cx18, ax21, bx21, cx21, hN0, hN]
              repeat (with_reducible refine And.intro (by first | exact agree_loc rfl | exact agree_loc0) ?_)
              refine And.intro rfl ?_
              refine Fit2.trans (E' := (⟨147, [], [(0, .sl a0.length (fl (eL (eI .u64)) a0)), (6, .ref n 0), (9, .ref (n + 3) 0), (10, .ref (n + 2) 0)]⟩ : Env)) (O' := (Loc O n [some ⟨false, 84, 10, 1, [.val (.int .i64 0), .val (.int .i64 0), .val (.int .i64 0), .val (.int .i64 0), .val (.int .i64 0), .val (.int .i64 0), .val (.int .i64 0), .val (.bool false), .val (.int .i64 0), .val (.int .i64 0)]⟩, none, some ⟨false, 42, 8, 1, (c_S_ptr_Ptr y22)⟩, some ⟨false, 42, 8, 1, (c_S_ptr_Ptr y19)⟩])) (n' := (n + 4)) (Fit2.of (fit_loc hU rfl rfl ?_) (by omega)) ?_
              · simp only [push_cast, Nat.reduceAdd, Nat.reduceSub, Nat.reduceMul, Nat.reduceLeDiff, Nat.reduceLT, Nat.reduceEqDiff, ↓reduceIte, reduceCtorEq, Int.reduceBEq, Int.reduceBNe, Nat.reduceBEq, Int.reduceLE, Int.reduceLT, Int.reduceEq, Int.reduceNe, Int.reduceNeg, Nat.reduceDiv, Nat.reduceMod, Nat.reducePow, cast_lit, ax17, bx17, cx17, ax18, bx18, cx18, ax21, bx21, cx21, hN0, hN]
              refine ren_fit (k := 4) (k' := 4) hU [0, 1, 3, 2] [0, 1, 3, 2] rfl rfl rfl rfl ⟨rfl, rfl⟩ ?_
              simp only [push_cast, seval, ↓reduceIte, cast_lit, hN0, hN]
          refine W_seqK ?_
          refine W_sq [0, 6, 9, 10, 83] (W_regionD tab_ok [none, none] ?_)
          simp only [push_cast, seval, ↓reduceIte, cast_lit, hN0, hN]
          repeat (with_reducible refine And.intro (by first | (intro h0; simp only [h0, and_self]; done) | (intro h0; simp only [h0, Bool.not_false, Bool.not_true, Bool.true_and, Bool.and_true, true_and, and_true, and_self, imp_self, implies_true, bne_iff_ne, ne_eq, beq_iff_eq]; done) | (intros; simp_all; done) | exact True.intro) ?_)
          refine W_cond (t := (cond (y19.Kind != 3) true y19.Double)) rfl (fun c30 => ?_) (fun c30 => ?_)
          · replace h := condT c30 h
            refine W_seqK ?_
            refine W_regionD tab_ok [] ?_
            simp only [push_cast, seval, ↓reduceIte, cast_lit, hN0, hN]
            refine W_drop [6, 7] [true, false, false, false] ?_
            simp only [push_cast, seval, ↓reduceIte]
            refine W_ret ?_
            try simp only [gthen, gblock]
            have h := Option.some.inj h; subst h
            refine fin_loc (.inr rfl) hU [.agg [.val (.int .i64 0), .val (.int .i64 0), .val (.int .i64 0), .val (.int .i64 0), .val (.int .i64 0), .val (.int .i64 0), .val (.int .i64 0), .val (.bool false), .val (.int .i64 0), .val (.int .i64 0)], .val (.int .i64 8)] (by omega) ?_
            simp only [push_cast, seval, ↓reduceIte, cast_lit, Try.results45, hN0, hN]
          · replace h := condF c30 h
            refine W_skip ?_
            try simp only [gthen, gblock]
            refine W_drop [0, 6, 9, 10] [true, false, true, true] ?_
            simp only [push_cast, seval, ↓reduceIte]
            refine W_seqK ?_
            obtain ⟨y24, hy24, h⟩ := bC h
            refine W_regionD tab_ok [] ?_
            simp only [push_cast, seval, ↓reduceIte, cast_lit, hN0, hN]
            refine (ok_centoref06_shape hy24).then ?_
            simp only [push_cast, seval, ↓reduceIte, cast_lit, hN0, hN]
            refine W_drop [0, 6, 9, 10, 11] [true, false, true, true] ?_
            simp only [push_cast, seval, ↓reduceIte]
            obtain ⟨z25, hz25, h⟩ := bC h
            refine W_seqN (E' := ⟨147, [], [(0, .sl a0.length (fl (eL (eI .u64)) a0)), (6, .ref n 0), (9, .ref (n + 2) 0), (10, .ref (n + 3) 0), (11, .val (.int .i64 z25))]⟩) (O' := (Loc O n [some ⟨false, 84, 10, 1, [.val (.int .i64 0), .val (.int .i64 0), .val (.int .i64 0), .val (.int .i64 0), .val (.int .i64 0), .val (.int .i64 0), .val (.int .i64 0), .val (.bool false), .val (.int .i64 0), .val (.int .i64 0)]⟩, none, some ⟨false, 42, 8, 1, (c_S_ptr_Ptr y19)⟩, some ⟨false, 42, 8, 1, (c_S_ptr_Ptr y22)⟩])) (n0 := (n + 4)) ?_ ?_
            · refine W_sq [0, 6, 9, 10, 11, 93] (W_regionD tab_ok [none, none, none] ?_)
              simp only [push_cast, seval, ↓reduceIte, cast_lit, hN0, hN]
              repeat (with_reducible refine And.intro (by first | (intro h0; simp only [h0, and_self]; done) | (intro h0; simp only [h0, Bool.not_false, Bool.not_true, Bool.true_and, Bool.and_true, true_and, and_true, and_self, imp_self, implies_true, bne_iff_ne, ne_eq, beq_iff_eq]; done) | (intros; simp_all; done) | exact True.intro) ?_)
              refine W_cond (t := (cond (y24 == 0) (y22.Off != 0) false)) rfl (fun c26 => ?_) (fun c26 => ?_)
              · replace hz25 := condT c26 hz25
                refine W_regionD tab_ok [] ?_
                simp only [push_cast, seval, ↓reduceIte, cast_lit, hN0, hN]
                have hz25 := Option.some.inj hz25; subst hz25
                refine And.intro rfl (Fit2.of (fit_loc hU rfl rfl ?_) (by omega))
                simp only [push_cast, seval, ↓reduceIte, cast_lit, hN0, hN]
              · replace hz25 := condF c26 hz25
                refine W_skip ?_
                try simp only [gthen, gblock]
                have hz25 := Option.some.inj hz25; subst hz25
                refine And.intro rfl (Fit2.of (fit_loc hU rfl rfl ?_) (by omega))
                simp only [push_cast, seval, ↓reduceIte, cast_lit, hN0, hN]
            refine W_seqK ?_
            refine W_sq [0, 6, 9, 10, 11, 95] (W_regionD tab_ok [] ?_)
            simp only [push_cast, seval, ↓reduceIte, cast_lit, hN0, hN]
            refine W_cond (t := (z25 != 0)) rfl (fun c29 => ?_) (fun c29 => ?_)
            · replace h := condT c29 h
              refine W_seqK ?_
              refine W_regionD tab_ok [] ?_
              simp only [push_cast, seval, ↓reduceIte, cast_lit, hN0, hN]
              refine W_drop [6, 7] [true, false, false, false] ?_
              simp only [push_cast, seval, ↓reduceIte]
              refine W_ret ?_
              try simp only [gthen, gblock]
              have h := Option.some.inj h; subst h
              refine fin_loc (.inr rfl) hU [.agg [.val (.int .i64 0), .val (.int .i64 0), .val (.int .i64 0), .val (.int .i64 0), .val (.int .i64 0), .val (.int .i64 0), .val (.int .i64 0), .val (.bool false), .val (.int .i64 0), .val (.int .i64 0)], .val (.int .i64 z25)] (by omega) ?_
              simp only [push_cast, seval, ↓reduceIte, cast_lit, Try.results45, hN0, hN]
            · replace h := condF c29 h
              refine W_skip ?_
              try simp only [gthen, gblock]
              refine W_drop [0, 6, 9, 10] [true, false, true, true] ?_
              simp only [push_cast, seval, ↓reduceIte]
              refine W_seqK ?_
              obtain ⟨y28, hy28, h⟩ := bC h
              refine W_regionD tab_ok [] ?_
              simp only [push_cast, seval, ↓reduceIte, cast_lit, hN0, hN]
              refine (ok_centoref06_whole hy28).then ?_
              simp only [push_cast, seval, ↓reduceIte, cast_lit, hN0, hN]
              refine W_drop [6, 7] [true, false, false, false] ?_
              simp only [push_cast, seval, ↓reduceIte]
              refine W_ret ?_
              try simp only [gthen, gblock]
              have h := Option.some.inj h; subst h
              refine fin_loc (.inr rfl) hU [.agg [.val (.int .i64 y28.1.P.Kind), .val (.int .i64 y28.1.P.Off), .val (.int .i64 y28.1.P.Data), .val (.int .i64 y28.1.P.Ptrs), .val (.int .i64 y28.1.P.Code), .val (.int .i64 y28.1.P.Count), .val (.int .i64 y28.1.P.Segment), .val (.bool y28.1.P.Double), .val (.int .i64 y28.1.Segment), .val (.int .i64 y28.1.At)], .val (.int .i64 y28.2)] (by omega) ?_
              simp only [push_cast, seval, ↓reduceIte, cast_lit, Try.results45, hN0, hN]
      · replace h := condF c45 h
        refine W_skip ?_
        try simp only [gthen, gblock]
        refine W_drop [0, 1, 2, 6, 8] [true, true] ?_
        simp only [push_cast, seval, ↓reduceIte]
        obtain ⟨z32, hz32, h⟩ := bC h
        refine W_sum (J := (SumJ (fun z32 => JN n (⟨147, [], [(0, .sl a0.length (fl (eL (eI .u64)) a0)), (1, .val (.int .i64 z32.1)), (2, .val (.int .i64 z32.2.1)), (6, .ref n 0), (8, .ref (n + 1) 0)]⟩ : Env) (Loc O n [some ⟨false, 84, 10, 1, [.val (.int .i64 0), .val (.int .i64 0), .val (.int .i64 0), .val (.int .i64 0), .val (.int .i64 0), .val (.int .i64 0), .val (.int .i64 0), .val (.bool false), .val (.int .i64 0), .val (.int .i64 0)]⟩, some ⟨false, 42, 8, 1, [.val (.int .i64 z32.2.2.1), .val (.int .i64 z32.2.2.2.1), .val (.int .i64 z32.2.2.2.2.1), .val (.int .i64 z32.2.2.2.2.2.1), .val (.int .i64 z32.2.2.2.2.2.2.1), .val (.int .i64 z32.2.2.2.2.2.2.2.1), .val (.int .i64 z32.2.2.2.2.2.2.2.2.1), .val (.bool z32.2.2.2.2.2.2.2.2.2)]⟩]) (n + 2)) (fun z32 => JR n (⟨147, [], [(6, .ref n 0), (7, .val (.int .i64 7))]⟩ : Env) (Loc O n [some ⟨false, 84, 10, 1, [.val (.int .i64 0), .val (.int .i64 0), .val (.int .i64 0), .val (.int .i64 0), .val (.int .i64 0), .val (.int .i64 0), .val (.int .i64 0), .val (.bool false), .val (.int .i64 0), .val (.int .i64 0)]⟩, none]) (n + 2)))) (z := z32) ?_ fun hw => ?_
        · refine W_sq [0, 1, 2, 6, 8, 110] (W_regionD tab_ok [] ?_)
          simp only [push_cast, seval, ↓reduceIte, cast_lit, hN0, hN]
          refine W_cond (t := (y8.Kind == 3)) rfl (fun c39 => ?_) (fun c39 => ?_)
          · replace hz32 := condT c39 hz32
            refine W_sq [0, 1, 6, 8] (W_regionD tab_ok [] ?_)
            simp only [push_cast, seval, ↓reduceIte, cast_lit, hN0, hN]
            refine W_sq [0, 1, 2, 6, 8] (W_regionD tab_ok [] ?_)
            simp only [push_cast, seval, ↓reduceIte, cast_lit, hN0, hN]
            refine W_seqK ?_
            refine W_seqK ?_
            obtain ⟨y34, hy34, hz32⟩ := bC hz32
            refine W_regionD tab_ok [] ?_
            simp only [push_cast, seval, ↓reduceIte, cast_lit, hN0, hN]
            refine (ok_centoref06_has hy34).then ?_
            simp only [push_cast, seval, ↓reduceIte, cast_lit, hN0, hN]
            refine W_drop [0, 1, 2, 6, 8, 119] [true, true] ?_
            simp only [push_cast, seval, ↓reduceIte]
            refine W_cond (t := (!y34)) rfl (fun c38 => ?_) (fun c38 => ?_)
            · replace hz32 := condT c38 hz32
              refine W_seqK ?_
              refine W_regionD tab_ok [] ?_
              simp only [push_cast, seval, ↓reduceIte, cast_lit, hN0, hN]
              refine W_drop [6, 7] [true, false] ?_
              simp only [push_cast, seval, ↓reduceIte]
              refine W_ret ?_
              try simp only [gthen, gblock]
              have hz32 := Option.some.inj hz32; subst hz32
              refine And.intro rfl (Fit2.of (fit_loc hU rfl rfl ?_) (by omega))
              simp only [push_cast, seval, ↓reduceIte, cast_lit, hN0, hN]
            · replace hz32 := condF c38 hz32
              refine W_skip ?_
              try simp only [gthen, gblock]
              refine W_drop [0, 1, 2, 6, 8] [true, true] ?_
              simp only [push_cast, seval, ↓reduceIte]
              obtain ⟨x35, hx35, ax35, bx35, cx35, hz32⟩ := bE (f := (eL (eI .u64))) tab62 (fun _ => rfl) (by decide) hz32
              obtain ⟨x36, hx36, ax36, bx36, cx36, hz32⟩ := bE (f := (eI .u64)) tab37 (fun _ => rfl) (by decide) hz32
              obtain ⟨y37, hy37, hz32⟩ := bC hz32
              refine W_regionD tab_ok [] ?_
              simp only [push_cast, Nat.reduceAdd, Nat.reduceSub, Nat.reduceMul, Nat.reduceLeDiff, Nat.reduceLT, Nat.reduceEqDiff, ↓reduceIte, reduceCtorEq, Int.reduceBEq, Int.reduceBNe, Nat.reduceBEq, Int.reduceLE, Int.reduceLT, Int.reduceEq, Int.reduceNe, Int.reduceNeg, Nat.reduceDiv, Nat.reduceMod, Nat.reducePow, cast_lit, ax35, bx35, cx35, ax36, bx36, cx36, hN0, hN]
              refine (ok_centoref04_Decode hy37).then ?_
              simp only [push_cast, Nat.reduceAdd, Nat.reduceSub, Nat.reduceMul, Nat.reduceLeDiff, Nat.reduceLT, Nat.reduceEqDiff, ↓reduceIte, reduceCtorEq, Int.reduceBEq, Int.reduceBNe, Nat.reduceBEq, Int.reduceLE, Int.reduceLT, Int.reduceEq, Int.reduceNe, Int.reduceNeg, Nat.reduceDiv, Nat.reduceMod, Nat.reducePow, cast_lit, ax35, bx35, cx35, ax36, bx36, cx36, hN0, hN]
              have hz32 := Option.some.inj hz32; subst hz32
              refine And.intro rfl (Fit2.of (fit_loc hU rfl rfl ?_) (by omega))
              simp only [push_cast, Nat.reduceAdd, Nat.reduceSub, Nat.reduceMul, Nat.reduceLeDiff, Nat.reduceLT, Nat.reduceEqDiff, ↓reduceIte, reduceCtorEq, Int.reduceBEq, Int.reduceBNe, Nat.reduceBEq, Int.reduceLE, Int.reduceLT, Int.reduceEq, Int.reduceNe, Int.reduceNeg, Nat.reduceDiv, Nat.reduceMod, Nat.reducePow, cast_lit, ax35, bx35, cx35, ax36, bx36, cx36, hN0, hN]
          · replace hz32 := condF c39 hz32
            refine W_skip ?_
            try simp only [gthen, gblock]
            have hz32 := Option.some.inj hz32; subst hz32
            refine And.intro rfl (Fit2.of (fit_loc hU rfl rfl ?_) (by omega))
            simp only [push_cast, seval, ↓reduceIte, cast_lit, hN0, hN]
        rcases z32 with z32 | z32
        · dsimp only [SumJ] at hw h
          refine W_seqN hw ?_
          refine W_seqK ?_
          obtain ⟨y41, hy41, h⟩ := bC h
          refine W_regionD tab_ok [] ?_
          simp only [push_cast, seval, ↓reduceIte, cast_lit, hN0, hN]
          refine (ok_centoref06_shape hy41).then ?_
          simp only [push_cast, seval, ↓reduceIte, cast_lit, hN0, hN]
          refine W_drop [0, 1, 2, 6, 8, 12] [true, true] ?_
          simp only [push_cast, seval, ↓reduceIte]
          refine W_seqK ?_
          refine W_sq [0, 1, 2, 6, 8, 12, 132] (W_regionD tab_ok [] ?_)
          simp only [push_cast, seval, ↓reduceIte, cast_lit, hN0, hN]
          refine W_cond (t := (y41 != 0)) rfl (fun c44 => ?_) (fun c44 => ?_)
          · replace h := condT c44 h
            refine W_seqK ?_
            refine W_regionD tab_ok [] ?_
            simp only [push_cast, seval, ↓reduceIte, cast_lit, hN0, hN]
            refine W_drop [6, 7] [true, false] ?_
            simp only [push_cast, seval, ↓reduceIte]
            refine W_ret ?_
            try simp only [gthen, gblock]
            have h := Option.some.inj h; subst h
            refine fin_loc (.inr rfl) hU [.agg [.val (.int .i64 0), .val (.int .i64 0), .val (.int .i64 0), .val (.int .i64 0), .val (.int .i64 0), .val (.int .i64 0), .val (.int .i64 0), .val (.bool false), .val (.int .i64 0), .val (.int .i64 0)], .val (.int .i64 y41)] (by omega) ?_
            simp only [push_cast, seval, ↓reduceIte, cast_lit, Try.results45, hN0, hN]
          · replace h := condF c44 h
            refine W_skip ?_
            try simp only [gthen, gblock]
            refine W_drop [0, 1, 2, 6, 8] [true, true] ?_
            simp only [push_cast, seval, ↓reduceIte]
            refine W_seqK ?_
            obtain ⟨y43, hy43, h⟩ := bC h
            refine W_regionD tab_ok [] ?_
            simp only [push_cast, seval, ↓reduceIte, cast_lit, hN0, hN]
            refine (ok_centoref06_whole hy43).then ?_
            simp only [push_cast, seval, ↓reduceIte, cast_lit, hN0, hN]
            refine W_drop [6, 7] [true, false] ?_
            simp only [push_cast, seval, ↓reduceIte]
            refine W_ret ?_
            try simp only [gthen, gblock]
            have h := Option.some.inj h; subst h
            refine fin_loc (.inr rfl) hU [.agg [.val (.int .i64 y43.1.P.Kind), .val (.int .i64 y43.1.P.Off), .val (.int .i64 y43.1.P.Data), .val (.int .i64 y43.1.P.Ptrs), .val (.int .i64 y43.1.P.Code), .val (.int .i64 y43.1.P.Count), .val (.int .i64 y43.1.P.Segment), .val (.bool y43.1.P.Double), .val (.int .i64 y43.1.Segment), .val (.int .i64 y43.1.At)], .val (.int .i64 y43.2)] (by omega) ?_
            simp only [push_cast, seval, ↓reduceIte, cast_lit, Try.results45, hN0, hN]
        · dsimp only [SumJ] at hw h
          refine W_seqR hw ?_
          try simp only [gthen, gblock]
          have h := Option.some.inj h; subst h
          refine fin_loc (.inr rfl) hU [.agg [.val (.int .i64 0), .val (.int .i64 0), .val (.int .i64 0), .val (.int .i64 0), .val (.int .i64 0), .val (.int .i64 0), .val (.int .i64 0), .val (.bool false), .val (.int .i64 0), .val (.int .i64 0)], .val (.int .i64 7)] (by omega) ?_
          simp only [push_cast, seval, ↓reduceIte, cast_lit, Try.results45, hN0, hN]

theorem ok_centolaw06_Mine {a0 : S_centoref06_Loc} {r : S_far_Loc} {O : Objs} {n : Nat} (h : m_centolaw06_Mine a0 = some r) : GTo Try.prog 46 [.agg [.val (.int .i64 a0.P.Kind), .val (.int .i64 a0.P.Off), .val (.int .i64 a0.P.Data), .val (.int .i64 a0.P.Ptrs), .val (.int .i64 a0.P.Code), .val (.int .i64 a0.P.Count), .val (.int .i64 a0.P.Segment), .val (.bool a0.P.Double), .val (.int .i64 a0.Segment), .val (.int .i64 a0.At)]] O n (.agg [.val (.int .i64 r.P.Kind), .val (.int .i64 r.P.Off), .val (.int .i64 r.P.Data), .val (.int .i64 r.P.Ptrs), .val (.int .i64 r.P.Code), .val (.int .i64 r.P.Count), .val (.int .i64 r.P.Segment), .val (.bool r.P.Double), .val (.int .i64 r.Segment), .val (.int .i64 r.At)]) O n := by
  unfold m_centolaw06_Mine at h
  refine fn_of tab_ok Try.call46 Try.func46 rfl (Nat.le_of_ble_eq_true rfl) (Nat.le_refl _) fun hU => ?_
  have hN0 : O n = none := hU.fresh _ (Nat.le_refl _)
  have hN : ∀ k, O (n + k) = none := fun k => hU.fresh _ (Nat.le_add_right _ _)
  show W _ _ _ _ ⟨28, [], [(0, .agg [.val (.int .i64 a0.P.Kind), .val (.int .i64 a0.P.Off), .val (.int .i64 a0.P.Data), .val (.int .i64 a0.P.Ptrs), .val (.int .i64 a0.P.Code), .val (.int .i64 a0.P.Count), .val (.int .i64 a0.P.Segment), .val (.bool a0.P.Double), .val (.int .i64 a0.Segment), .val (.int .i64 a0.At)])]⟩ (Loc O n []) _
  refine W_sq [1, 2] (W_regionD tab_ok [] ?_)
  simp only [push_cast, seval, ↓reduceIte, cast_lit, hN0, hN]
  refine W_seqK ?_
  refine W_regionD tab_ok [] ?_
  simp only [push_cast, seval, ↓reduceIte, cast_lit, hN0, hN]
  refine W_drop [1, 2, 3] [true, true, true] ?_
  simp only [push_cast, seval, ↓reduceIte]
  refine W_seqK ?_
  refine W_regionD tab_ok [] ?_
  simp only [push_cast, seval, ↓reduceIte, cast_lit, hN0, hN]
  refine W_drop [2] [false, true, false] ?_
  simp only [push_cast, seval, ↓reduceIte]
  refine W_ret ?_
  try simp only [gthen, gblock]
  have h := Option.some.inj h; subst h
  refine fin_loc (.inr rfl) hU [.agg [.val (.int .i64 a0.P.Kind), .val (.int .i64 a0.P.Off), .val (.int .i64 a0.P.Data), .val (.int .i64 a0.P.Ptrs), .val (.int .i64 a0.P.Code), .val (.int .i64 a0.P.Count), .val (.int .i64 a0.P.Segment), .val (.bool a0.P.Double), .val (.int .i64 a0.Segment), .val (.int .i64 a0.At)]] (by omega) ?_
  simp only [push_cast, seval, ↓reduceIte, cast_lit, Try.results46, hN0, hN]

theorem ok_centolaw06_FarFollows {a0 : (List (List Int))} {a1 : Int} {a2 : Int} {r : Bool} {O : Objs} {n : Nat} (h : m_centolaw06_FarFollows a0 a1 a2 = some r) : GTo Try.prog 12 [.sl a0.length (fl (eL (eI .u64)) a0), .val (.int .i64 a1), .val (.int .i64 a2)] O n (.val (.bool r)) O n := by
  unfold m_centolaw06_FarFollows at h
  refine fn_of tab_ok Try.call12 Try.func12 rfl (Nat.le_of_ble_eq_true rfl) (Nat.le_refl _) fun hU => ?_
  have hN0 : O n = none := hU.fresh _ (Nat.le_refl _)
  have hN : ∀ k, O (n + k) = none := fun k => hU.fresh _ (Nat.le_add_right _ _)
  show W _ _ _ _ ⟨38, [], [(0, .sl a0.length (fl (eL (eI .u64)) a0)), (1, .val (.int .i64 a1)), (2, .val (.int .i64 a2))]⟩ (Loc O n []) _
  refine W_sq [0, 1, 2] (W_regionD tab_ok [] ?_)
  simp only [push_cast, seval, ↓reduceIte, cast_lit, hN0, hN]
  refine W_seqK ?_
  obtain ⟨y3, hy3, h⟩ := bC h
  obtain ⟨y4, hy4, h⟩ := bC h
  refine W_regionD tab_ok [] ?_
  simp only [push_cast, seval, ↓reduceIte, cast_lit, hN0, hN]
  refine (ok_arena_Of hy3).then ?_
  simp only [push_cast, seval, ↓reduceIte, cast_lit, hN0, hN]
  refine (ok_far_Follow hy4).then ?_
  simp only [push_cast, seval, ↓reduceIte, cast_lit, hN0, hN]
  refine W_drop [0, 1, 2, 7, 8] [true] ?_
  simp only [push_cast, seval, ↓reduceIte]
  refine W_seqK ?_
  obtain ⟨y6, hy6, h⟩ := bC h
  refine W_regionD tab_ok [] ?_
  simp only [push_cast, seval, ↓reduceIte, cast_lit, hN0, hN]
  refine (ok_centoref06_Follow hy6).then ?_
  simp only [push_cast, seval, ↓reduceIte, cast_lit, hN0, hN]
  refine W_drop [7, 8, 9, 10] [true, true] ?_
  simp only [push_cast, seval, ↓reduceIte]
  obtain ⟨z9, hz9, h⟩ := bC h
  refine W_seqN (E' := ⟨38, [], [(6, .val (.bool z9))]⟩) (O' := (Loc O n [none, none])) (n0 := (n + 2)) ?_ ?_
  · obtain ⟨y12, hy12, hz9⟩ := bC hz9
    rcases Bool.eq_false_or_eq_true (((y4.1.P.Kind == y12.P.Kind) && ((y4.1.P.Off == y12.P.Off) && ((y4.1.P.Data == y12.P.Data) && ((y4.1.P.Ptrs == y12.P.Ptrs) && ((y4.1.P.Code == y12.P.Code) && ((y4.1.P.Count == y12.P.Count) && ((y4.1.P.Segment == y12.P.Segment) && (y4.1.P.Double == y12.P.Double)))))))) && ((y4.1.Segment == y12.Segment) && (y4.1.At == y12.At))) with c14 | c14
    · replace hz9 := condT c14 hz9
      rcases Bool.eq_false_or_eq_true (y4.2 == y6.2) with c15 | c15
      · replace hz9 := condT c15 hz9
        try rw [c15] at c14
        obtain ⟨y13, hy13, hz9⟩ := bC hz9
        refine W_drawD tab_ok (by kernel_rfl) [none, none, none, some true] (by kernel_rfl) ?_
        simp only [push_cast, seval, ↓reduceIte, cast_lit, c14, c15, hN0, hN]
        repeat (with_reducible refine And.intro (by first | (intro h0; simp only [h0, and_self]; done) | (intro h0; simp only [h0, Bool.not_false, Bool.not_true, Bool.true_and, Bool.and_true, true_and, and_true, and_self, imp_self, implies_true, bne_iff_ne, ne_eq, beq_iff_eq]; done) | (intros; simp_all; done) | exact True.intro) ?_)
        refine PCall.of (ok_centolaw06_Mine hy12) ?_
        simp only [push_cast, seval, ↓reduceIte, cast_lit, c14, c15, hN0, hN]
        repeat (with_reducible refine And.intro (by first | (intro h0; simp only [h0, and_self]; done) | (intro h0; simp only [h0, Bool.not_false, Bool.not_true, Bool.true_and, Bool.and_true, true_and, and_true, and_self, imp_self, implies_true, bne_iff_ne, ne_eq, beq_iff_eq]; done) | (intros; simp_all; done) | exact True.intro) ?_)
        refine PCall.of (ok_centolaw06_awake hy13) ?_
        simp only [push_cast, seval, ↓reduceIte, cast_lit, c14, c15, hN0, hN]
        repeat (with_reducible refine And.intro (by first | (intro h0; simp only [h0, and_self]; done) | (intro h0; simp only [h0, Bool.not_false, Bool.not_true, Bool.true_and, Bool.and_true, true_and, and_true, and_self, imp_self, implies_true, bne_iff_ne, ne_eq, beq_iff_eq]; done) | (intros; simp_all; done) | exact True.intro) ?_)
        have hz9 := Option.some.inj hz9; subst hz9
        refine And.intro rfl (Fit2.of (fit_loc hU rfl rfl ?_) (by omega))
        simp only [push_cast, seval, ↓reduceIte, cast_lit, c14, c15, hN0, hN]
      · replace hz9 := condF c15 hz9
        try rw [c15] at c14
        refine W_drawD tab_ok (by kernel_rfl) [none, none, none, some false] (by kernel_rfl) ?_
        simp only [push_cast, seval, ↓reduceIte, cast_lit, c14, c15, hN0, hN]
        repeat (with_reducible refine And.intro (by first | (intro h0; simp only [h0, and_self]; done) | (intro h0; simp only [h0, Bool.not_false, Bool.not_true, Bool.true_and, Bool.and_true, true_and, and_true, and_self, imp_self, implies_true, bne_iff_ne, ne_eq, beq_iff_eq]; done) | (intros; simp_all; done) | exact True.intro) ?_)
        refine PCall.of (ok_centolaw06_Mine hy12) ?_
        simp only [push_cast, seval, ↓reduceIte, cast_lit, c14, c15, hN0, hN]
        repeat (with_reducible refine And.intro (by first | (intro h0; simp only [h0, and_self]; done) | (intro h0; simp only [h0, Bool.not_false, Bool.not_true, Bool.true_and, Bool.and_true, true_and, and_true, and_self, imp_self, implies_true, bne_iff_ne, ne_eq, beq_iff_eq]; done) | (intros; simp_all; done) | exact True.intro) ?_)
        have hz9 := Option.some.inj hz9; subst hz9
        refine And.intro rfl (Fit2.of (fit_loc hU rfl rfl ?_) (by omega))
        simp only [push_cast, seval, ↓reduceIte, cast_lit, c14, c15, hN0, hN]
    · replace hz9 := condF c14 hz9
      refine W_drawD tab_ok (by kernel_rfl) [none, none, none, some false] (by kernel_rfl) ?_
      simp only [push_cast, seval, ↓reduceIte, cast_lit, c14, hN0, hN]
      repeat (with_reducible refine And.intro (by first | (intro h0; simp only [h0, and_self]; done) | (intro h0; simp only [h0, Bool.not_false, Bool.not_true, Bool.true_and, Bool.and_true, true_and, and_true, and_self, imp_self, implies_true, bne_iff_ne, ne_eq, beq_iff_eq]; done) | (intros; simp_all; done) | exact True.intro) ?_)
      refine PCall.of (ok_centolaw06_Mine hy12) ?_
      simp only [push_cast, seval, ↓reduceIte, cast_lit, c14, hN0, hN]
      repeat (with_reducible refine And.intro (by first | (intro h0; simp only [h0, and_self]; done) | (intro h0; simp only [h0, Bool.not_false, Bool.not_true, Bool.true_and, Bool.and_true, true_and, and_true, and_self, imp_self, implies_true, bne_iff_ne, ne_eq, beq_iff_eq]; done) | (intros; simp_all; done) | exact True.intro) ?_)
      have hz9 := Option.some.inj hz9; subst hz9
      refine And.intro rfl (Fit2.of (fit_loc hU rfl rfl ?_) (by omega))
      simp only [push_cast, seval, ↓reduceIte, cast_lit, c14, hN0, hN]
  refine W_ret ?_
  try simp only [gthen, gblock]
  have h := Option.some.inj h; subst h
  refine fin_loc (.inr rfl) hU [.val (.bool z9)] (by omega) ?_
  simp only [push_cast, seval, ↓reduceIte, cast_lit, Try.results12, hN0, hN]

end Go.Proofs.Ytgijkjifiekkmaa
