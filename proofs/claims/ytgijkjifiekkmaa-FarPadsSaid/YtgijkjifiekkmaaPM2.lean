/- Part PM2 of this seat's mirrors: functions of the seat's program, and the plain functions that they are; each theorem bears its own conditions. -/
import Derived.Test.YtgijkjifiekkmaaPE
import Derived.Test.YtgijkjifiekkmaaPM1
namespace Go.Proofs.Ytgijkjifiekkmaa
open Go.RowKit
set_option linter.unusedVariables false
set_option linter.unusedSimpArgs false
set_option maxRecDepth 100000
set_option maxHeartbeats 4000000
attribute [local push_cast] c_S_ptr_Ptr gfork_t gfork_f pfork_t pfork_f gthen gblock gops_nil gops_plain gops_guard onW gwantB gcalm gact gpick gpickV strip_any strip_val strip_agg strip_tup strip_sl strip_ip strip_row strip_rs strip_rp strip_ref strip_fn strip_when evS wok calmOp Op.operands Call.operands gop onK onP atK List.all_cons List.all_nil Bool.and_true Bool.true_and Bool.and_self Value.oneCell' List.take_zero List.take_succ_cons List.take_nil List.drop_zero List.drop_succ_cons List.drop_nil List.append_nil Nat.add_zero Nat.zero_add gstep gputE ev look genv gbin_ii gbin_bb gbin_ss gbin_pp gbin_rp gbin_ip gbin_ll gbin_aa geqS geqF gint gunary gconvert gload gcells gpart_lit gstore gcellsOf gput gplace_lit gfieldAddr gstepIn gindexAddr gindex gfield gopt bLo bHi bMx gextract galloc gbox gbuild gfill gplaces gbuildSlice gmake glen gappend gsrc gbuiltin gnil live_any live_val live_agg live_tup live_sl live_ip live_fn live_when live_ref live_rs live_rp live_row live_gP gres gone prun_nil prun_plain prun_guard pop TK.isAgg G.one G.under G.unders List.getD_cons_zero List.getD_cons_succ List.set_cons_zero List.set_cons_succ List.map_cons List.map_nil List.toList_toArray Array.toList_append Option.toArray_none Option.toArray_some Array.toList_map Option.map_some Option.map_none Option.bind_some Option.bind_none List.getElem?_cons_zero List.getElem?_cons_succ List.getElem?_nil List.nil_append List.cons_append List.replicate_succ List.replicate_zero List.length_cons List.length_nil and_true true_and and_false false_and Bool.true_eq_false Bool.false_eq_true forall_const false_implies implies_true IntKind.bits if_true if_false ite_true ite_false eq_self true_implies false_or or_false or_true true_or not_true_eq_false not_false_eq_true decide_true decide_false decide_eq_true_eq decide_eq_false_iff_not beq_iff_eq bne_iff_ne ne_eq Bool.not_eq_true Bool.not_eq_false beq_eq_false_iff_ne bne_eq_false_iff_eq beq_self_eq_true bne_self_eq_false Option.some.injEq exists_eq_left' exists_eq_left ge_iff_le gt_iff_lt decide_not Bool.not_true Bool.not_false imp_self gquiet cond_true cond_false beqT beqF Bool.not_not Bool.and_false Bool.false_and Bool.or_true Bool.true_or Bool.or_false Bool.false_or Loc_at Loc_at0 Loc_upd Loc_upd0 Loc_push Loc_push0 Option.join_some Nat.add_assoc Int.toNat_natCast eI eB eS eL fl_nil gopsD_nil gopsD_plain gopsD_t gopsD_f gopsD_n onKD onWD prunD_nil prunD_plain prunD_t prunD_f prunD_n onPD fitO fitO1 sameO fitL fl_append fl_one List.length_append G.agg.injEq G.row.injEq G.ref.injEq G.val.injEq G.sl.injEq G.tup.injEq Value.int.injEq Value.bool.injEq Value.string.injEq List.cons.injEq exists_and_left exists_const List.flatten_cons List.flatten_nil Int.le_refl Nat.le_refl upd_updU Loc_out Loc_updo Bool.not_eq_true' Bool.not_eq_false' wkl_nil wkl_cons wk_any wk_val wk_agg wk_tup wk_sl wk_fn List.size_toArray renO renO1 G.ren G.rens renL rho_at rho_at0 gP_none gP_some strip_gP wok_gP one_gP G.fn.injEq wk_slnil wk_slrow wk_slrs wk_ip wk_ipref wk_row wk_rs wk_rp wk_ref locLt0 locLt Option.join_none upd_same fl_cons undef keepL Arr.len Arr.put_eq prunB_nil prunB_bar prunB_bart prunB_plain prunB_t prunB_f prunB_n onB onBP gcopy setI_len Loc_cat0 Loc_cat1 Loc_cat2 Loc_cat3 Loc_cat4 Loc_cat5 noObjs_at prunK_nil prunK_bar prunK_pass prunK_plain prunK_low prunK_pt prunK_pf prunK_lt prunK_lf onKg onKa onKp popL pickOps lows lowG prunK_shp prunK_fill popH shpOp fillOp fillG rho_low rens_app Loc_cat6 Loc_cat7 Loc_cat8 Loc_cat9 Loc_cat10 Loc_cat11 Loc_cat12 Loc_cat13 Loc_cat14 Loc_cat15 Loc_cat16 dropM prT kdOf tab2 tkind2 tab3 tkind3 tab4 tkind4 tab5 tkind5 tab6 tkind6 tab7 tkind7 tab8 tkind8 tab9 tkind9 tab10 tkind10 tab11 tkind11 tab12 tkind12 tab13 tkind13 tab14 tkind14 tab15 tkind15 tab16 tkind16 tab17 tkind17 tab18 tkind18 tab19 tkind19 tab21 tkind21 tab22 tkind22 tab23 tkind23 tab28 tkind28 tab37 tkind37 tab38 tkind38 tab39 tkind39 tab42 tkind42 tab48 tkind48 tab49 tkind49 tab51 tkind51 tab53 tkind53 tab54 tkind54 tab57 tkind57 tab58 tkind58 tab62 tkind62 tab66 tkind66 tab67 tkind67 tab70 tkind70 tab79 tkind79 tab80 tkind80 tab83 tkind83 tab84 tkind84 tab91 tkind91 tab104 tkind104 tab105 tkind105 tab114 tkind114 tab118 tkind118 tab119 tkind119 tab121 tkind121 tab122 tkind122 tab126 tkind126 tab127 tkind127 tab129 tkind129 tab130 tkind130 tab131 tkind131 e_S_ptr_Ptr wkl_eI_u64 wka_eI_u64 len_eI_u64 one_eI_u64 wkp_eI_u64 undp_eI_u64 rens_eI_u64 renp_eI_u64 und_eI_u64 wkl_eL_eI_u64 wka_eL_eI_u64 len_eL_eI_u64 one_eL_eI_u64 wkp_eL_eI_u64 undp_eL_eI_u64 rens_eL_eI_u64 renp_eL_eI_u64 und_eL_eI_u64 e_S_arena_Arena wkl_e_S_arena_Arena wka_e_S_arena_Arena len_e_S_arena_Arena one_e_S_arena_Arena wkp_e_S_arena_Arena undp_e_S_arena_Arena rens_e_S_arena_Arena renp_e_S_arena_Arena und_e_S_arena_Arena wkl_eI_i64 wka_eI_i64 len_eI_i64 one_eI_i64 wkp_eI_i64 undp_eI_i64 rens_eI_i64 renp_eI_i64 und_eI_i64 e_S_far_Loc e_S_centoref06_Loc
theorem ok_centolaw06_FarPads {a0 : S_ptr_Ptr} {a1 : Int} {r : Bool} {O : Objs} {n : Nat} (h : m_centolaw06_FarPads a0 a1 = some r) : GTo Try.prog 14 [.agg (c_S_ptr_Ptr a0), .val (.int .i64 a1)] O n (.val (.bool r)) O n := by
  unfold m_centolaw06_FarPads at h
  refine fn_of tab_ok Try.call14 Try.func14 rfl (Nat.le_of_ble_eq_true rfl) (Nat.le_refl _) fun hU => ?_
  have hN0 : O n = none := hU.fresh _ (Nat.le_refl _)
  have hN : ∀ k, O (n + k) = none := fun k => hU.fresh _ (Nat.le_add_right _ _)
  show W _ _ _ _ ⟨151, [], [(0, .agg (c_S_ptr_Ptr a0)), (1, .val (.int .i64 a1))]⟩ (Loc O n []) _
  refine W_sq [1, 2] (W_regionD tab_ok [] ?_)
  simp only [push_cast, seval, ↓reduceIte, cast_lit, hN0, hN]
  refine W_sq [1, 2] (W_regionD tab_ok [] ?_)
  simp only [push_cast, seval, ↓reduceIte, cast_lit, hN0, hN]
  refine W_seqK ?_
  obtain ⟨z5, hz5, h⟩ := bC h
  refine W_seqN (E' := ⟨151, [], [(1, .val (.int .i64 (IntKind.i64.wrap (landI .i64 a1 7)))), (2, .ref n 0), (38, .val (.bool z5))]⟩) (O' := (Loc O n [some ⟨false, 42, 8, 1, (c_S_ptr_Ptr a0)⟩])) (n0 := (n + 1)) ?_ ?_
  · rcases Bool.eq_false_or_eq_true (a0.Kind != 1) with c14 | c14
    · replace hz5 := condT c14 hz5
      rcases Bool.eq_false_or_eq_true (a0.Kind != 2) with c15 | c15
      · replace hz5 := condT c15 hz5
        try rw [c15] at c14
        refine W_regionD tab_ok [none, none, none, some false, some false, some false, some false, some false, some false] ?_
        simp only [push_cast, seval, ↓reduceIte, cast_lit, c14, c15, hN0, hN]
        repeat (with_reducible refine And.intro (by first | (intro h0; simp only [h0, and_self]; done) | (intro h0; simp only [h0, Bool.not_false, Bool.not_true, Bool.true_and, Bool.and_true, true_and, and_true, and_self, imp_self, implies_true, bne_iff_ne, ne_eq, beq_iff_eq]; done) | (intros; simp_all; done) | exact True.intro) ?_)
        have hz5 := Option.some.inj hz5; subst hz5
        refine And.intro rfl (Fit2.of (fit_loc hU rfl rfl ?_) (by omega))
        simp only [push_cast, seval, ↓reduceIte, cast_lit, c14, c15, hN0, hN]
      · replace hz5 := condF c15 hz5
        try rw [c15] at c14
        obtain ⟨y10, hy10, hz5⟩ := bC hz5
        rcases Bool.eq_false_or_eq_true y10 with c16 | c16
        · replace hz5 := condT c16 hz5
          try rw [c16] at c14
          try rw [c16] at c15
          obtain ⟨y11, hy11, hz5⟩ := bC hz5
          refine W_regionD tab_ok [none, none, none, some true, some true, some true, some true, some true, some true] ?_
          simp only [push_cast, seval, ↓reduceIte, cast_lit, c14, c15, c16, hN0, hN]
          repeat (with_reducible refine And.intro (by first | (intro h0; simp only [h0, and_self]; done) | (intro h0; simp only [h0, Bool.not_false, Bool.not_true, Bool.true_and, Bool.and_true, true_and, and_true, and_self, imp_self, implies_true, bne_iff_ne, ne_eq, beq_iff_eq]; done) | (intros; simp_all; done) | exact True.intro) ?_)
          refine (ok_centoref04_Right hy10).then ?_
          simp only [push_cast, seval, ↓reduceIte, cast_lit, c14, c15, c16, hN0, hN]
          repeat (with_reducible refine And.intro (by first | (intro h0; simp only [h0, and_self]; done) | (intro h0; simp only [h0, Bool.not_false, Bool.not_true, Bool.true_and, Bool.and_true, true_and, and_true, and_self, imp_self, implies_true, bne_iff_ne, ne_eq, beq_iff_eq]; done) | (intros; simp_all; done) | exact True.intro) ?_)
          refine (ok_centoref04_Words hy11).then ?_
          simp only [push_cast, seval, ↓reduceIte, cast_lit, c14, c15, c16, hN0, hN]
          repeat (with_reducible refine And.intro (by first | (intro h0; simp only [h0, and_self]; done) | (intro h0; simp only [h0, Bool.not_false, Bool.not_true, Bool.true_and, Bool.and_true, true_and, and_true, and_self, imp_self, implies_true, bne_iff_ne, ne_eq, beq_iff_eq]; done) | (intros; simp_all; done) | exact True.intro) ?_)
          have hz5 := Option.some.inj hz5; subst hz5
          refine And.intro rfl (Fit2.of (fit_loc hU rfl rfl ?_) (by omega))
          simp only [push_cast, seval, ↓reduceIte, cast_lit, c14, c15, c16, hN0, hN]
        · replace hz5 := condF c16 hz5
          try rw [c16] at c14
          try rw [c16] at c15
          refine W_regionD tab_ok [none, none, none, some true, some true, some true, some false, some false, some false] ?_
          simp only [push_cast, seval, ↓reduceIte, cast_lit, c14, c15, c16, hN0, hN]
          repeat (with_reducible refine And.intro (by first | (intro h0; simp only [h0, and_self]; done) | (intro h0; simp only [h0, Bool.not_false, Bool.not_true, Bool.true_and, Bool.and_true, true_and, and_true, and_self, imp_self, implies_true, bne_iff_ne, ne_eq, beq_iff_eq]; done) | (intros; simp_all; done) | exact True.intro) ?_)
          refine (ok_centoref04_Right hy10).then ?_
          simp only [push_cast, seval, ↓reduceIte, cast_lit, c14, c15, c16, hN0, hN]
          repeat (with_reducible refine And.intro (by first | (intro h0; simp only [h0, and_self]; done) | (intro h0; simp only [h0, Bool.not_false, Bool.not_true, Bool.true_and, Bool.and_true, true_and, and_true, and_self, imp_self, implies_true, bne_iff_ne, ne_eq, beq_iff_eq]; done) | (intros; simp_all; done) | exact True.intro) ?_)
          have hz5 := Option.some.inj hz5; subst hz5
          refine And.intro rfl (Fit2.of (fit_loc hU rfl rfl ?_) (by omega))
          simp only [push_cast, seval, ↓reduceIte, cast_lit, c14, c15, c16, hN0, hN]
    · replace hz5 := condF c14 hz5
      obtain ⟨y12, hy12, hz5⟩ := bC hz5
      rcases Bool.eq_false_or_eq_true y12 with c17 | c17
      · replace hz5 := condT c17 hz5
        try rw [c17] at c14
        obtain ⟨y13, hy13, hz5⟩ := bC hz5
        refine W_regionD tab_ok [none, none, none, some true, some true, some true, some true, some true, some true] ?_
        simp only [push_cast, seval, ↓reduceIte, cast_lit, c14, c17, hN0, hN]
        repeat (with_reducible refine And.intro (by first | (intro h0; simp only [h0, and_self]; done) | (intro h0; simp only [h0, Bool.not_false, Bool.not_true, Bool.true_and, Bool.and_true, true_and, and_true, and_self, imp_self, implies_true, bne_iff_ne, ne_eq, beq_iff_eq]; done) | (intros; simp_all; done) | exact True.intro) ?_)
        refine (ok_centoref04_Right hy12).then ?_
        simp only [push_cast, seval, ↓reduceIte, cast_lit, c14, c17, hN0, hN]
        repeat (with_reducible refine And.intro (by first | (intro h0; simp only [h0, and_self]; done) | (intro h0; simp only [h0, Bool.not_false, Bool.not_true, Bool.true_and, Bool.and_true, true_and, and_true, and_self, imp_self, implies_true, bne_iff_ne, ne_eq, beq_iff_eq]; done) | (intros; simp_all; done) | exact True.intro) ?_)
        refine (ok_centoref04_Words hy13).then ?_
        simp only [push_cast, seval, ↓reduceIte, cast_lit, c14, c17, hN0, hN]
        repeat (with_reducible refine And.intro (by first | (intro h0; simp only [h0, and_self]; done) | (intro h0; simp only [h0, Bool.not_false, Bool.not_true, Bool.true_and, Bool.and_true, true_and, and_true, and_self, imp_self, implies_true, bne_iff_ne, ne_eq, beq_iff_eq]; done) | (intros; simp_all; done) | exact True.intro) ?_)
        have hz5 := Option.some.inj hz5; subst hz5
        refine And.intro rfl (Fit2.of (fit_loc hU rfl rfl ?_) (by omega))
        simp only [push_cast, seval, ↓reduceIte, cast_lit, c14, c17, hN0, hN]
      · replace hz5 := condF c17 hz5
        try rw [c17] at c14
        refine W_regionD tab_ok [none, none, none, some true, some true, some true, some false, some false, some false] ?_
        simp only [push_cast, seval, ↓reduceIte, cast_lit, c14, c17, hN0, hN]
        repeat (with_reducible refine And.intro (by first | (intro h0; simp only [h0, and_self]; done) | (intro h0; simp only [h0, Bool.not_false, Bool.not_true, Bool.true_and, Bool.and_true, true_and, and_true, and_self, imp_self, implies_true, bne_iff_ne, ne_eq, beq_iff_eq]; done) | (intros; simp_all; done) | exact True.intro) ?_)
        refine (ok_centoref04_Right hy12).then ?_
        simp only [push_cast, seval, ↓reduceIte, cast_lit, c14, c17, hN0, hN]
        repeat (with_reducible refine And.intro (by first | (intro h0; simp only [h0, and_self]; done) | (intro h0; simp only [h0, Bool.not_false, Bool.not_true, Bool.true_and, Bool.and_true, true_and, and_true, and_self, imp_self, implies_true, bne_iff_ne, ne_eq, beq_iff_eq]; done) | (intros; simp_all; done) | exact True.intro) ?_)
        have hz5 := Option.some.inj hz5; subst hz5
        refine And.intro rfl (Fit2.of (fit_loc hU rfl rfl ?_) (by omega))
        simp only [push_cast, seval, ↓reduceIte, cast_lit, c14, c17, hN0, hN]
  refine W_cond (t := z5) rfl (fun c68 => ?_) (fun c68 => ?_)
  · replace h := condT c68 h
    refine W_seqK ?_
    obtain ⟨y19, hy19, h⟩ := bC h
    refine W_regionD tab_ok [] ?_
    simp only [push_cast, seval, ↓reduceIte, cast_lit, hN0, hN]
    refine (ok_centolaw06_awake hy19).then ?_
    simp only [push_cast, seval, ↓reduceIte, cast_lit, hN0, hN]
    refine W_drop [4] [false] ?_
    simp only [push_cast, seval, ↓reduceIte]
    refine W_ret ?_
    try simp only [gthen, gblock]
    have h := Option.some.inj h; subst h
    refine fin_loc (.inr rfl) hU [.val (.bool y19)] (by omega) ?_
    simp only [push_cast, seval, ↓reduceIte, cast_lit, Try.results14, hN0, hN]
  · replace h := condF c68 h
    refine W_skip ?_
    try simp only [gthen, gblock]
    refine W_drop [1, 2] [true] ?_
    simp only [push_cast, seval, ↓reduceIte]
    refine W_seqK ?_
    refine W_regionD tab_ok [] ?_
    simp only [push_cast, seval, ↓reduceIte, cast_lit, hN0, hN]
    refine W_drop [1, 2] [true] ?_
    simp only [push_cast, seval, ↓reduceIte]
    refine W_seqK ?_
    obtain ⟨y22, hy22, h⟩ := bC h
    obtain ⟨y23, hy23, h⟩ := bC h
    refine W_regionD tab_ok [] ?_
    simp only [push_cast, seval, ↓reduceIte, cast_lit, hN0, hN]
    refine (ok_centolaw06_Mine hy22).then ?_
    simp only [push_cast, seval, ↓reduceIte, cast_lit, hN0, hN]
    refine (ok_ptr_Encode hy23).then ?_
    simp only [push_cast, seval, ↓reduceIte, cast_lit, hN0, hN]
    refine W_drop [1, 2, 5, 6] [true] ?_
    simp only [push_cast, seval, ↓reduceIte]
    refine W_seqK ?_
    refine W_sq [1, 2, 5, 51] (W_regionD tab_ok [] ?_)
    simp only [push_cast, seval, ↓reduceIte, cast_lit, hN0, hN]
    refine W_cond (t := (!y23.2)) rfl (fun c67 => ?_) (fun c67 => ?_)
    · replace h := condT c67 h
      obtain ⟨z25, hz25, h⟩ := bC h
      refine W_seqN (E' := ⟨151, [], [(4, .val (.bool z25))]⟩) (O' := (Loc O n [none])) (n0 := (n + 1)) ?_ ?_
      · rcases Bool.eq_false_or_eq_true ((a0.Kind == 1) && (((IntKind.i64.wrap (landI .i64 a1 7)) == 0) && ((a0.Data == 0) && ((a0.Ptrs == 0) && ((a0.Code == 0) && ((a0.Count == 0) && ((a0.Segment == 0) && (!a0.Double)))))))) with c28 | c28
        · replace hz25 := condT c28 hz25
          obtain ⟨y27, hy27, hz25⟩ := bC hz25
          refine W_regionD tab_ok [some true] ?_
          simp only [push_cast, seval, ↓reduceIte, cast_lit, c28, hN0, hN]
          refine (ok_centolaw06_awake hy27).then ?_
          simp only [push_cast, seval, ↓reduceIte, cast_lit, c28, hN0, hN]
          have hz25 := Option.some.inj hz25; subst hz25
          refine And.intro rfl (Fit2.of (fit_loc hU rfl rfl ?_) (by omega))
          simp only [push_cast, seval, ↓reduceIte, cast_lit, c28, hN0, hN]
        · replace hz25 := condF c28 hz25
          refine W_regionD tab_ok [some false] ?_
          simp only [push_cast, seval, ↓reduceIte, cast_lit, c28, hN0, hN]
          have hz25 := Option.some.inj hz25; subst hz25
          refine And.intro rfl (Fit2.of (fit_loc hU rfl rfl ?_) (by omega))
          simp only [push_cast, seval, ↓reduceIte, cast_lit, c28, hN0, hN]
      refine W_ret ?_
      try simp only [gthen, gblock]
      have h := Option.some.inj h; subst h
      refine fin_loc (.inr rfl) hU [.val (.bool z25)] (by omega) ?_
      simp only [push_cast, seval, ↓reduceIte, cast_lit, Try.results14, hN0, hN]
    · replace h := condF c67 h
      refine W_skip ?_
      try simp only [gthen, gblock]
      refine W_drop [1, 2, 5] [true] ?_
      simp only [push_cast, seval, ↓reduceIte]
      refine W_seqK ?_
      refine W_regionD tab_ok [] ?_
      simp only [push_cast, seval, ↓reduceIte, cast_lit, hN0, hN]
      refine W_drop [1, 2, 5] [true] ?_
      simp only [push_cast, seval, ↓reduceIte]
      refine W_seqK ?_
      obtain ⟨y31, hy31, h⟩ := bC h
      obtain ⟨y32, hy32, h⟩ := bC h
      refine W_regionD tab_ok [] ?_
      simp only [push_cast, seval, ↓reduceIte, cast_lit, hN0, hN]
      refine (ok_centolaw06_Mine hy31).then ?_
      simp only [push_cast, seval, ↓reduceIte, cast_lit, hN0, hN]
      refine (ok_ptr_Encode hy32).then ?_
      simp only [push_cast, seval, ↓reduceIte, cast_lit, hN0, hN]
      refine W_drop [1, 2, 5, 7, 8] [true] ?_
      simp only [push_cast, seval, ↓reduceIte]
      refine W_seqK ?_
      obtain ⟨y35, hy35, h⟩ := bC h
      obtain ⟨l36, al36, bl36, cl36, el36, h⟩ := bM2 (c := 8) rfl h
      have nl36 : Int.toNat (IntKind.i64.wrap ((IntKind.i64.wrap (1 + (IntKind.i64.wrap (landI .i64 a1 7)))) + y35)) = List.length l36 := by rw [el36, List.length_replicate]
      have fl36 : (List.replicate (List.length l36) [.val (.int .u64 0)]).flatten = fl (eI .u64) l36 := by rw [← nl36, el36]; exact (fl_replicate (f := (eI .u64)) _ _).symm
      clear el36
      refine W_regionD tab_ok [] ?_
      simp only [push_cast, seval, ↓reduceIte, cast_lit, al36, bl36, cl36, fl36, nl36, hN0, hN]
      refine (ok_centoref04_Words hy35).then ?_
      simp only [push_cast, seval, ↓reduceIte, cast_lit, al36, bl36, cl36, fl36, nl36, hN0, hN]
      refine W_fit ⟨151, [], [(1, .val (.int .i64 (IntKind.i64.wrap (landI .i64 a1 7)))), (5, .val (.int .u64 y23.1)), (7, .val (.int .u64 y32.1)), (8, .val (.bool y32.2)), (9, .row (n + 1) l36.length)]⟩ (Loc O n [none, some ⟨true, 37, 1, l36.length, fl (eI .u64) l36⟩]) (fit_loc hU rfl rfl ?_) ?_
      · simp only [push_cast, seval, ↓reduceIte, cast_lit, al36, bl36, cl36, fl36, nl36, hN0, hN]
      refine W_seqK ?_
      obtain ⟨x39, hx39, ax39, bx39, cx39, h⟩ := bE (f := (eI .u64)) tab37 (fun _ => rfl) (by decide) h
      have gu40 : gplace (fl (eI .u64) l36) [.val (.int .u64 y23.1)] (Int.toNat 0 * 1) = some (fl (eI .u64) (setI l36 0 y23.1)) := gplace_el (f := (eI .u64)) (ti := ⟨.bool, 1, 0, [], false⟩) (x := y23.1) (fun _ => rfl) (getI_nat hx39)
      refine W_regionD tab_ok [] ?_
      simp only [push_cast, Nat.reduceAdd, Nat.reduceSub, Nat.reduceMul, Nat.reduceLeDiff, Nat.reduceLT, Nat.reduceEqDiff, ↓reduceIte, reduceCtorEq, Int.reduceBEq, Int.reduceBNe, Nat.reduceBEq, Int.reduceLE, Int.reduceLT, Int.reduceEq, Int.reduceNe, Int.reduceNeg, Nat.reduceDiv, Nat.reduceMod, Nat.reducePow, cast_lit, ax39, bx39, cx39, gu40, hN0, hN]
      refine W_drop [1, 7, 8, 9] [false, true] ?_
      simp only [push_cast, seval, ↓reduceIte]
      refine W_sq [1, 7, 8, 9, 10] (W_regionD tab_ok [] ?_)
      simp only [push_cast, seval, ↓reduceIte, cast_lit, hN0, hN]
      refine W_sq [1, 7, 8, 9, 10, 11] (W_regionD tab_ok [] ?_)
      simp only [push_cast, seval, ↓reduceIte, cast_lit, hN0, hN]
      refine W_fit ⟨151, [], [(1, .val (.int .i64 (IntKind.i64.wrap (landI .i64 a1 7)))), (7, .val (.int .u64 y32.1)), (8, .val (.bool y32.2)), (9, .sl (setI l36 0 y23.1).length (fl (eI .u64) (setI l36 0 y23.1))), (10, .val (.int .u64 2)), (11, .val (.int .u64 (IntKind.u64.wrap (IntKind.i64.wrap (lorI .i64 2 (IntKind.i64.wrap ((IntKind.i64.wrap (1 + (IntKind.i64.wrap (landI .i64 a1 7)))) * 2 ^ min (Int.toNat 3) 64)))))))]⟩ (Loc O n [none, none]) (fit_loc hU rfl rfl ?_) ?_
      · simp only [push_cast, seval, ↓reduceIte, cast_lit, hN0, hN]
      refine W_seqK ?_
      obtain ⟨y42, hy42, h⟩ := bC h
      refine W_regionD tab_ok [] ?_
      simp only [push_cast, seval, ↓reduceIte, cast_lit, hN0, hN]
      refine GCalls.dropL (l' := [none, none, none, none, none, none]) hU rfl ?_ ((ok_arena_Of hy42).then ?_)
      · simp only [push_cast, seval, ↓reduceIte, cast_lit, hN0, hN]
      simp only [push_cast, seval, ↓reduceIte, cast_lit, hN0, hN]
      refine W_drop [1, 8, 12] [false, false, false, false, false, false] ?_
      simp only [push_cast, seval, ↓reduceIte]
      refine W_seqK ?_
      obtain ⟨y44, hy44, h⟩ := bC h
      refine W_regionD tab_ok [] ?_
      simp only [push_cast, seval, ↓reduceIte, cast_lit, hN0, hN]
      refine (ok_far_Follow hy44).then ?_
      simp only [push_cast, seval, ↓reduceIte, cast_lit, hN0, hN]
      refine W_drop [1, 8, 12, 13, 14] [false, false, false, false, false, false, true] ?_
      simp only [push_cast, seval, ↓reduceIte]
      refine W_seqK ?_
      obtain ⟨y46, hy46, h⟩ := bC h
      refine W_regionD tab_ok [] ?_
      simp only [push_cast, seval, ↓reduceIte, cast_lit, hN0, hN]
      refine (ok_far_Follow hy46).then ?_
      simp only [push_cast, seval, ↓reduceIte, cast_lit, hN0, hN]
      refine W_drop [1, 8, 12, 13, 14, 15, 16] [false, false, false, false, false, false, true, true] ?_
      simp only [push_cast, seval, ↓reduceIte]
      refine W_seqK ?_
      obtain ⟨y48, hy48, h⟩ := bC h
      refine W_regionD tab_ok [] ?_
      simp only [push_cast, seval, ↓reduceIte, cast_lit, hN0, hN]
      refine (ok_far_Follow hy48).then ?_
      simp only [push_cast, seval, ↓reduceIte, cast_lit, hN0, hN]
      refine W_drop [1, 8, 13, 14, 15, 16, 17, 18] [false, false, false, false, false, false, true, true, true] ?_
      simp only [push_cast, seval, ↓reduceIte]
      refine W_seqK ?_
      refine W_sq [1, 13, 14, 15, 16, 17, 18, 106] (W_regionD tab_ok [] ?_)
      simp only [push_cast, seval, ↓reduceIte, cast_lit, hN0, hN]
      refine W_cond (t := (!y32.2)) rfl (fun c66 => ?_) (fun c66 => ?_)
      · replace h := condT c66 h
        obtain ⟨z50, hz50, h⟩ := bC h
        refine W_seqN (E' := ⟨151, [], [(4, .val (.bool z50))]⟩) (O' := (Loc O n [none, none, none, none, none, none, none, none, none])) (n0 := (n + 9)) ?_ ?_
        · rcases Bool.eq_false_or_eq_true (y44.2 == 0) with c53 | c53
          · replace hz50 := condT c53 hz50
            rcases Bool.eq_false_or_eq_true (y46.2 == 0) with c54 | c54
            · replace hz50 := condT c54 hz50
              try rw [c54] at c53
              rcases Bool.eq_false_or_eq_true (((y44.1.P.Kind == y46.1.P.Kind) && ((y44.1.P.Off == y46.1.P.Off) && ((y44.1.P.Data == y46.1.P.Data) && ((y44.1.P.Ptrs == y46.1.P.Ptrs) && ((y44.1.P.Code == y46.1.P.Code) && ((y44.1.P.Count == y46.1.P.Count) && ((y44.1.P.Segment == y46.1.P.Segment) && (y44.1.P.Double == y46.1.P.Double)))))))) && ((y44.1.Segment == y46.1.Segment) && (y44.1.At == y46.1.At))) with c55 | c55
              · replace hz50 := condT c55 hz50
                try rw [c55] at c53
                try rw [c55] at c54
                obtain ⟨y52, hy52, hz50⟩ := bC hz50
                refine W_regionD tab_ok [none, none, none, none, none, some true] ?_
                simp only [push_cast, seval, ↓reduceIte, cast_lit, c53, c54, c55, hN0, hN]
                repeat (with_reducible refine And.intro (by first | (intro h0; simp only [h0, and_self]; done) | (intro h0; simp only [h0, Bool.not_false, Bool.not_true, Bool.true_and, Bool.and_true, true_and, and_true, and_self, imp_self, implies_true, bne_iff_ne, ne_eq, beq_iff_eq]; done) | (intros; simp_all; done) | exact True.intro) ?_)
                refine (ok_centolaw06_awake hy52).then ?_
                simp only [push_cast, seval, ↓reduceIte, cast_lit, c53, c54, c55, hN0, hN]
                repeat (with_reducible refine And.intro (by first | (intro h0; simp only [h0, and_self]; done) | (intro h0; simp only [h0, Bool.not_false, Bool.not_true, Bool.true_and, Bool.and_true, true_and, and_true, and_self, imp_self, implies_true, bne_iff_ne, ne_eq, beq_iff_eq]; done) | (intros; simp_all; done) | exact True.intro) ?_)
                have hz50 := Option.some.inj hz50; subst hz50
                refine And.intro rfl (Fit2.of (fit_loc hU rfl rfl ?_) (by omega))
                simp only [push_cast, seval, ↓reduceIte, cast_lit, c53, c54, c55, hN0, hN]
              · replace hz50 := condF c55 hz50
                try rw [c55] at c53
                try rw [c55] at c54
                refine W_regionD tab_ok [none, none, none, none, none, some false] ?_
                simp only [push_cast, seval, ↓reduceIte, cast_lit, c53, c54, c55, hN0, hN]
                repeat (with_reducible refine And.intro (by first | (intro h0; simp only [h0, and_self]; done) | (intro h0; simp only [h0, Bool.not_false, Bool.not_true, Bool.true_and, Bool.and_true, true_and, and_true, and_self, imp_self, implies_true, bne_iff_ne, ne_eq, beq_iff_eq]; done) | (intros; simp_all; done) | exact True.intro) ?_)
                have hz50 := Option.some.inj hz50; subst hz50
                refine And.intro rfl (Fit2.of (fit_loc hU rfl rfl ?_) (by omega))
                simp only [push_cast, seval, ↓reduceIte, cast_lit, c53, c54, c55, hN0, hN]
            · replace hz50 := condF c54 hz50
              try rw [c54] at c53
              refine W_regionD tab_ok [none, none, none, none, none, some false] ?_
              simp only [push_cast, seval, ↓reduceIte, cast_lit, c53, c54, hN0, hN]
              repeat (with_reducible refine And.intro (by first | (intro h0; simp only [h0, and_self]; done) | (intro h0; simp only [h0, Bool.not_false, Bool.not_true, Bool.true_and, Bool.and_true, true_and, and_true, and_self, imp_self, implies_true, bne_iff_ne, ne_eq, beq_iff_eq]; done) | (intros; simp_all; done) | exact True.intro) ?_)
              have hz50 := Option.some.inj hz50; subst hz50
              refine And.intro rfl (Fit2.of (fit_loc hU rfl rfl ?_) (by omega))
              simp only [push_cast, seval, ↓reduceIte, cast_lit, c53, c54, hN0, hN]
          · replace hz50 := condF c53 hz50
            refine W_regionD tab_ok [none, none, none, none, none, some false] ?_
            simp only [push_cast, seval, ↓reduceIte, cast_lit, c53, hN0, hN]
            repeat (with_reducible refine And.intro (by first | (intro h0; simp only [h0, and_self]; done) | (intro h0; simp only [h0, Bool.not_false, Bool.not_true, Bool.true_and, Bool.and_true, true_and, and_true, and_self, imp_self, implies_true, bne_iff_ne, ne_eq, beq_iff_eq]; done) | (intros; simp_all; done) | exact True.intro) ?_)
            have hz50 := Option.some.inj hz50; subst hz50
            refine And.intro rfl (Fit2.of (fit_loc hU rfl rfl ?_) (by omega))
            simp only [push_cast, seval, ↓reduceIte, cast_lit, c53, hN0, hN]
        refine W_ret ?_
        try simp only [gthen, gblock]
        have h := Option.some.inj h; subst h
        refine fin_loc (.inr rfl) hU [.val (.bool z50)] (by omega) ?_
        simp only [push_cast, seval, ↓reduceIte, cast_lit, Try.results14, hN0, hN]
      · replace h := condF c66 h
        refine W_skip ?_
        try simp only [gthen, gblock]
        refine W_drop [1, 13, 14, 15, 16, 17, 18] [false, false, false, false, false, false, true, true, true] ?_
        simp only [push_cast, seval, ↓reduceIte]
        obtain ⟨z57, hz57, h⟩ := bC h
        refine W_seqN (E' := ⟨151, [], [(4, .val (.bool z57))]⟩) (O' := (Loc O n [none, none, none, none, none, none, none, none, none])) (n0 := (n + 9)) ?_ ?_
        · rcases Bool.eq_false_or_eq_true (y44.2 == 0) with c60 | c60
          · replace hz57 := condT c60 hz57
            rcases Bool.eq_false_or_eq_true (y46.2 == 0) with c61 | c61
            · replace hz57 := condT c61 hz57
              try rw [c61] at c60
              rcases Bool.eq_false_or_eq_true (y48.2 == 0) with c62 | c62
              · replace hz57 := condT c62 hz57
                try rw [c62] at c60
                try rw [c62] at c61
                rcases Bool.eq_false_or_eq_true (((y44.1.P.Kind == y46.1.P.Kind) && ((y44.1.P.Off == y46.1.P.Off) && ((y44.1.P.Data == y46.1.P.Data) && ((y44.1.P.Ptrs == y46.1.P.Ptrs) && ((y44.1.P.Code == y46.1.P.Code) && ((y44.1.P.Count == y46.1.P.Count) && ((y44.1.P.Segment == y46.1.P.Segment) && (y44.1.P.Double == y46.1.P.Double)))))))) && ((y44.1.Segment == y46.1.Segment) && (y44.1.At == y46.1.At))) with c63 | c63
                · replace hz57 := condT c63 hz57
                  try rw [c63] at c60
                  try rw [c63] at c61
                  try rw [c63] at c62
                  rcases Bool.eq_false_or_eq_true (((y46.1.P.Kind == y48.1.P.Kind) && ((y46.1.P.Off == y48.1.P.Off) && ((y46.1.P.Data == y48.1.P.Data) && ((y46.1.P.Ptrs == y48.1.P.Ptrs) && ((y46.1.P.Code == y48.1.P.Code) && ((y46.1.P.Count == y48.1.P.Count) && ((y46.1.P.Segment == y48.1.P.Segment) && (y46.1.P.Double == y48.1.P.Double)))))))) && ((y46.1.Segment == y48.1.Segment) && (y46.1.At == y48.1.At))) with c64 | c64
                  · replace hz57 := condT c64 hz57
                    try rw [c64] at c60
                    try rw [c64] at c61
                    try rw [c64] at c62
                    try rw [c64] at c63
                    rcases Bool.eq_false_or_eq_true (y44.1.At == (IntKind.i64.wrap (1 + (IntKind.i64.wrap (landI .i64 a1 7))))) with c65 | c65
                    · replace hz57 := condT c65 hz57
                      try rw [c65] at c60
                      try rw [c65] at c61
                      try rw [c65] at c62
                      try rw [c65] at c63
                      try rw [c65] at c64
                      obtain ⟨y59, hy59, hz57⟩ := bC hz57
                      refine W_regionD tab_ok [none, none, none, none, none, none, none, none, none, none, none, none, none, none, none, some true] ?_
                      simp only [push_cast, seval, ↓reduceIte, cast_lit, c60, c61, c62, c63, c64, c65, hN0, hN]
                      repeat (with_reducible refine And.intro (by first | (intro h0; simp only [h0, and_self]; done) | (intro h0; simp only [h0, Bool.not_false, Bool.not_true, Bool.true_and, Bool.and_true, true_and, and_true, and_self, imp_self, implies_true, bne_iff_ne, ne_eq, beq_iff_eq]; done) | (intros; simp_all; done) | exact True.intro) ?_)
                      refine (ok_centolaw06_awake hy59).then ?_
                      simp only [push_cast, seval, ↓reduceIte, cast_lit, c60, c61, c62, c63, c64, c65, hN0, hN]
                      repeat (with_reducible refine And.intro (by first | (intro h0; simp only [h0, and_self]; done) | (intro h0; simp only [h0, Bool.not_false, Bool.not_true, Bool.true_and, Bool.and_true, true_and, and_true, and_self, imp_self, implies_true, bne_iff_ne, ne_eq, beq_iff_eq]; done) | (intros; simp_all; done) | exact True.intro) ?_)
                      have hz57 := Option.some.inj hz57; subst hz57
                      refine And.intro rfl (Fit2.of (fit_loc hU rfl rfl ?_) (by omega))
                      simp only [push_cast, seval, ↓reduceIte, cast_lit, c60, c61, c62, c63, c64, c65, hN0, hN]
                    · replace hz57 := condF c65 hz57
                      try rw [c65] at c60
                      try rw [c65] at c61
                      try rw [c65] at c62
                      try rw [c65] at c63
                      try rw [c65] at c64
                      refine W_regionD tab_ok [none, none, none, none, none, none, none, none, none, none, none, none, none, none, none, some false] ?_
                      simp only [push_cast, seval, ↓reduceIte, cast_lit, c60, c61, c62, c63, c64, c65, hN0, hN]
                      repeat (with_reducible refine And.intro (by first | (intro h0; simp only [h0, and_self]; done) | (intro h0; simp only [h0, Bool.not_false, Bool.not_true, Bool.true_and, Bool.and_true, true_and, and_true, and_self, imp_self, implies_true, bne_iff_ne, ne_eq, beq_iff_eq]; done) | (intros; simp_all; done) | exact True.intro) ?_)
                      have hz57 := Option.some.inj hz57; subst hz57
                      refine And.intro rfl (Fit2.of (fit_loc hU rfl rfl ?_) (by omega))
                      simp only [push_cast, seval, ↓reduceIte, cast_lit, c60, c61, c62, c63, c64, c65, hN0, hN]
                  · replace hz57 := condF c64 hz57
                    try rw [c64] at c60
                    try rw [c64] at c61
                    try rw [c64] at c62
                    try rw [c64] at c63
                    refine W_regionD tab_ok [none, none, none, none, none, none, none, none, none, none, none, none, none, none, none, some false] ?_
                    simp only [push_cast, seval, ↓reduceIte, cast_lit, c60, c61, c62, c63, c64, hN0, hN]
                    repeat (with_reducible refine And.intro (by first | (intro h0; simp only [h0, and_self]; done) | (intro h0; simp only [h0, Bool.not_false, Bool.not_true, Bool.true_and, Bool.and_true, true_and, and_true, and_self, imp_self, implies_true, bne_iff_ne, ne_eq, beq_iff_eq]; done) | (intros; simp_all; done) | exact True.intro) ?_)
                    have hz57 := Option.some.inj hz57; subst hz57
                    refine And.intro rfl (Fit2.of (fit_loc hU rfl rfl ?_) (by omega))
                    simp only [push_cast, seval, ↓reduceIte, cast_lit, c60, c61, c62, c63, c64, hN0, hN]
                · replace hz57 := condF c63 hz57
                  try rw [c63] at c60
                  try rw [c63] at c61
                  try rw [c63] at c62
                  refine W_regionD tab_ok [none, none, none, none, none, none, none, none, none, none, none, none, none, none, none, some false] ?_
                  simp only [push_cast, seval, ↓reduceIte, cast_lit, c60, c61, c62, c63, hN0, hN]
                  repeat (with_reducible refine And.intro (by first | (intro h0; simp only [h0, and_self]; done) | (intro h0; simp only [h0, Bool.not_false, Bool.not_true, Bool.true_and, Bool.and_true, true_and, and_true, and_self, imp_self, implies_true, bne_iff_ne, ne_eq, beq_iff_eq]; done) | (intros; simp_all; done) | exact True.intro) ?_)
                  have hz57 := Option.some.inj hz57; subst hz57
                  refine And.intro rfl (Fit2.of (fit_loc hU rfl rfl ?_) (by omega))
                  simp only [push_cast, seval, ↓reduceIte, cast_lit, c60, c61, c62, c63, hN0, hN]
              · replace hz57 := condF c62 hz57
                try rw [c62] at c60
                try rw [c62] at c61
                refine W_regionD tab_ok [none, none, none, none, none, none, none, none, none, none, none, none, none, none, none, some false] ?_
                simp only [push_cast, seval, ↓reduceIte, cast_lit, c60, c61, c62, hN0, hN]
                repeat (with_reducible refine And.intro (by first | (intro h0; simp only [h0, and_self]; done) | (intro h0; simp only [h0, Bool.not_false, Bool.not_true, Bool.true_and, Bool.and_true, true_and, and_true, and_self, imp_self, implies_true, bne_iff_ne, ne_eq, beq_iff_eq]; done) | (intros; simp_all; done) | exact True.intro) ?_)
                have hz57 := Option.some.inj hz57; subst hz57
                refine And.intro rfl (Fit2.of (fit_loc hU rfl rfl ?_) (by omega))
                simp only [push_cast, seval, ↓reduceIte, cast_lit, c60, c61, c62, hN0, hN]
            · replace hz57 := condF c61 hz57
              try rw [c61] at c60
              refine W_regionD tab_ok [none, none, none, none, none, none, none, none, none, none, none, none, none, none, none, some false] ?_
              simp only [push_cast, seval, ↓reduceIte, cast_lit, c60, c61, hN0, hN]
              repeat (with_reducible refine And.intro (by first | (intro h0; simp only [h0, and_self]; done) | (intro h0; simp only [h0, Bool.not_false, Bool.not_true, Bool.true_and, Bool.and_true, true_and, and_true, and_self, imp_self, implies_true, bne_iff_ne, ne_eq, beq_iff_eq]; done) | (intros; simp_all; done) | exact True.intro) ?_)
              have hz57 := Option.some.inj hz57; subst hz57
              refine And.intro rfl (Fit2.of (fit_loc hU rfl rfl ?_) (by omega))
              simp only [push_cast, seval, ↓reduceIte, cast_lit, c60, c61, hN0, hN]
          · replace hz57 := condF c60 hz57
            refine W_regionD tab_ok [none, none, none, none, none, none, none, none, none, none, none, none, none, none, none, some false] ?_
            simp only [push_cast, seval, ↓reduceIte, cast_lit, c60, hN0, hN]
            repeat (with_reducible refine And.intro (by first | (intro h0; simp only [h0, and_self]; done) | (intro h0; simp only [h0, Bool.not_false, Bool.not_true, Bool.true_and, Bool.and_true, true_and, and_true, and_self, imp_self, implies_true, bne_iff_ne, ne_eq, beq_iff_eq]; done) | (intros; simp_all; done) | exact True.intro) ?_)
            have hz57 := Option.some.inj hz57; subst hz57
            refine And.intro rfl (Fit2.of (fit_loc hU rfl rfl ?_) (by omega))
            simp only [push_cast, seval, ↓reduceIte, cast_lit, c60, hN0, hN]
        refine W_ret ?_
        try simp only [gthen, gblock]
        have h := Option.some.inj h; subst h
        refine fin_loc (.inr rfl) hU [.val (.bool z57)] (by omega) ?_
        simp only [push_cast, seval, ↓reduceIte, cast_lit, Try.results14, hN0, hN]

end Go.Proofs.Ytgijkjifiekkmaa
