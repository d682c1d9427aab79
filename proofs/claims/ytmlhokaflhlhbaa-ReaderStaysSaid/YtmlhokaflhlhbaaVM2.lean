/- Part VM2 of this seat's mirrors: functions of the seat's program, and the plain functions that they are; each theorem bears its own conditions. -/
import Derived.Test.YtmlhokaflhlhbaaVE
import Derived.Test.YtmlhokaflhlhbaaVM1
namespace Go.Proofs.Ytmlhokaflhlhbaa
open Go.RowKit
set_option linter.unusedVariables false
set_option linter.unusedSimpArgs false
set_option maxRecDepth 100000
set_option maxHeartbeats 4000000
attribute [local push_cast] c_S_api_Limits c_S_api_Tree c_S_centoref09_Ref c_S_ptr_Ptr c_S_reader_Ref gfork_t gfork_f pfork_t pfork_f gthen gblock gops_nil gops_plain gops_guard onW gwantB gcalm gact gpick gpickV strip_any strip_val strip_agg strip_tup strip_sl strip_ip strip_row strip_rs strip_rp strip_ref strip_fn strip_when evS wok calmOp Op.operands Call.operands gop onK onP atK List.all_cons List.all_nil Bool.and_true Bool.true_and Bool.and_self Value.oneCell' List.take_zero List.take_succ_cons List.take_nil List.drop_zero List.drop_succ_cons List.drop_nil List.append_nil Nat.add_zero Nat.zero_add gstep gputE ev look genv gbin_ii gbin_bb gbin_ss gbin_pp gbin_rp gbin_ip gbin_ll gbin_aa geqS geqF gint gunary gconvert gload gcells gpart_lit gstore cellsOf_agg cellsOf_val cellsOf_sl cellsOf_ip cellsOf_row cellsOf_rs cellsOf_rp cellsOf_ref cellsOf_fn cellsOf_any cellsOf_tup cellsOf_when cellsOf_gP gput gplace_lit gfieldAddr gstepIn gindexAddr gindex gfield gopt bLo bHi bMx gextract galloc gbox gbuild gfill gplaces gbuildSlice gmake glen gappend gsrc gbuiltin gnil live_any live_val live_agg live_tup live_sl live_ip live_fn live_when live_ref live_rs live_rp live_row live_gP gres gone prun_nil prun_plain prun_guard pop TK.isAgg one_any one_val one_agg one_tup one_when one_sl one_ip one_row one_rs one_rp one_ref one_fn G.under G.unders List.getD_cons_zero List.getD_cons_succ List.set_cons_zero List.set_cons_succ List.map_cons List.map_nil List.toList_toArray Array.toList_append Option.toArray_none Option.toArray_some Array.toList_map Option.map_some Option.map_none Option.bind_some Option.bind_none List.getElem?_cons_zero List.getElem?_cons_succ List.getElem?_nil List.nil_append List.cons_append List.replicate_succ List.replicate_zero List.length_cons List.length_nil and_true true_and and_false false_and Bool.true_eq_false Bool.false_eq_true forall_const false_implies implies_true IntKind.bits if_true if_false ite_true ite_false eq_self true_implies false_or or_false or_true true_or not_true_eq_false not_false_eq_true decide_true decide_false decide_eq_true_eq decide_eq_false_iff_not beq_iff_eq bne_iff_ne ne_eq Bool.not_eq_true Bool.not_eq_false beq_eq_false_iff_ne bne_eq_false_iff_eq beq_self_eq_true bne_self_eq_false Option.some.injEq exists_eq_left' exists_eq_left ge_iff_le gt_iff_lt decide_not Bool.not_true Bool.not_false imp_self gquiet cond_true cond_false beqT beqF Bool.not_not Bool.and_false Bool.false_and Bool.or_true Bool.true_or Bool.or_false Bool.false_or Loc_at Loc_at0 Loc_upd Loc_upd0 Loc_push Loc_push0 Option.join_some Nat.add_assoc Int.toNat_natCast eI eB eS eL fl_nil gopsD_nil gopsD_plain gopsD_t gopsD_f gopsD_n onKD onWD prunD_nil prunD_plain prunD_t prunD_f prunD_n onPD fitO fitO1 sameO fitL fl_append fl_one List.length_append G.agg.injEq G.row.injEq G.ref.injEq G.val.injEq G.sl.injEq G.tup.injEq Value.int.injEq Value.bool.injEq Value.string.injEq List.cons.injEq exists_and_left exists_const List.flatten_cons List.flatten_nil Int.le_refl Nat.le_refl upd_updU Loc_out Loc_updo Bool.not_eq_true' Bool.not_eq_false' wkl_nil wkl_cons wk_any wk_val wk_agg wk_tup wk_sl wk_fn List.size_toArray renO renO1 G.ren G.rens renL rho_at rho_at0 gP_none gP_some strip_gP wok_gP one_gP G.fn.injEq wk_slnil wk_slrow wk_slrs wk_ip wk_ipref wk_row wk_rs wk_rp wk_ref locLt0 locLt Option.join_none upd_same fl_cons undef keepL Arr.len Arr.put_eq prunB_nil prunB_bar prunB_bart prunB_plain prunB_t prunB_f prunB_n onB onBP gcopy setI_len Loc_cat0 Loc_cat1 Loc_cat2 Loc_cat3 Loc_cat4 Loc_cat5 noObjs_at prunK_nil prunK_bar prunK_pass prunK_plain prunK_low prunK_pt prunK_pf prunK_lt prunK_lf onKg onKa onKp popL pickOps lows lowG prunK_shp prunK_fill popH shpOp fillOp fillG rho_low rens_app Loc_cat6 Loc_cat7 Loc_cat8 Loc_cat9 Loc_cat10 Loc_cat11 Loc_cat12 Loc_cat13 Loc_cat14 Loc_cat15 Loc_cat16 dropM prT kdOf tab2 tkind2 tab3 tkind3 tab4 tkind4 tab5 tkind5 tab6 tkind6 tab7 tkind7 tab8 tkind8 tab9 tkind9 tab10 tkind10 tab11 tkind11 tab12 tkind12 tab13 tkind13 tab14 tkind14 tab15 tkind15 tab16 tkind16 tab17 tkind17 tab18 tkind18 tab19 tkind19 tab21 tkind21 tab22 tkind22 tab23 tkind23 tab24 tkind24 tab26 tkind26 tab27 tkind27 tab28 tkind28 tab31 tkind31 tab32 tkind32 tab33 tkind33 tab42 tkind42 tab51 tkind51 tab52 tkind52 tab56 tkind56 tab57 tkind57 tab58 tkind58 tab66 tkind66 tab67 tkind67 tab80 tkind80 tab81 tkind81 tab82 tkind82 tab83 tkind83 tab84 tkind84 tab85 tkind85 tab89 tkind89 tab90 tkind90 tab91 tkind91 tab106 tkind106 tab107 tkind107 tab111 tkind111 tab112 tkind112 tab114 tkind114 tab115 tkind115 tab126 tkind126 tab129 tkind129 tab131 tkind131 tab138 tkind138 tab140 tkind140 tab142 tkind142 tab143 tkind143 tab147 tkind147 tab148 tkind148 tab151 tkind151 tab152 tkind152 wkl_eI_u64 wka_eI_u64 len_eI_u64 one_eI_u64 wkp_eI_u64 undp_eI_u64 rens_eI_u64 renp_eI_u64 und_eI_u64 wkl_eL_eI_u64 wka_eL_eI_u64 len_eL_eI_u64 one_eL_eI_u64 wkp_eL_eI_u64 undp_eL_eI_u64 rens_eL_eI_u64 renp_eL_eI_u64 und_eL_eI_u64 e_S_arena_Arena wkl_e_S_arena_Arena wka_e_S_arena_Arena len_e_S_arena_Arena one_e_S_arena_Arena wkp_e_S_arena_Arena undp_e_S_arena_Arena rens_e_S_arena_Arena renp_e_S_arena_Arena und_e_S_arena_Arena e_S_ptr_Ptr wkl_eI_i64 wka_eI_i64 len_eI_i64 one_eI_i64 wkp_eI_i64 undp_eI_i64 rens_eI_i64 renp_eI_i64 und_eI_i64 e_S_far_Loc e_S_reader_Ref e_S_centoref06_Loc e_S_centoref09_Ref e_S_api_Limits e_S_valid_checker wkl_e_S_valid_checker wka_e_S_valid_checker len_e_S_valid_checker one_e_S_valid_checker wkp_e_S_valid_checker undp_e_S_valid_checker rens_e_S_valid_checker renp_e_S_valid_checker und_e_S_valid_checker e_S_api_Tree e0_eq_S_api_Tree wkl_e_S_api_Tree wka_e_S_api_Tree len_e_S_api_Tree one_e_S_api_Tree wkp_e_S_api_Tree undp_e_S_api_Tree rens_e_S_api_Tree renp_e_S_api_Tree und_e_S_api_Tree
theorem ok_centolaw09_awake  {r : Bool} {O : Objs} {n : Nat} (h : m_centolaw09_awake = some r) : GTo Try.prog 22 [] O n (.val (.bool r)) O n := by
  unfold m_centolaw09_awake at h
  refine fn_of tab_ok Try.call22 Try.func22 rfl (Nat.le_of_ble_eq_true rfl) (Nat.le_refl _) fun hU => ?_
  have hN0 : O n = none := hU.fresh _ (Nat.le_refl _)
  have hN : ∀ k, O (n + k) = none := fun k => hU.fresh _ (Nat.le_add_right _ _)
  show W _ _ _ _ ⟨32, [], []⟩ (Loc O n []) _
  refine W_sq [] (W_regionD tab_ok [] ?_)
  simp only [push_cast, seval, ↓reduceIte, cast_lit, hN0, hN]
  refine W_seqK ?_
  obtain ⟨y3, hy3, h⟩ := bC h
  obtain ⟨y4, hy4, h⟩ := bC h
  refine W_regionD tab_ok [] ?_
  simp only [push_cast, seval, ↓reduceIte, cast_lit, hN0, hN]
  refine GCalls.dropL (l' := [none, none]) hU rfl ?_ ((ok_arena_Of hy3).then ?_)
  · simp only [push_cast, seval, ↓reduceIte, cast_lit, hN0, hN]
  simp only [push_cast, seval, ↓reduceIte, cast_lit, hN0, hN]
  refine (ok_reader_Root hy4).then ?_
  simp only [push_cast, seval, ↓reduceIte, cast_lit, hN0, hN]
  refine W_drop [1, 2] [false, false, true] ?_
  simp only [push_cast, seval, ↓reduceIte]
  obtain ⟨z9, hz9, h⟩ := bC h
  refine W_seqN (E' := ⟨32, [], [(0, .val (.bool z9))]⟩) (O' := (Loc O n [none, none, none])) (n0 := (n + 3)) ?_ ?_
  · rcases Bool.eq_false_or_eq_true (y4.2 == 0) with c18 | c18
    · replace hz9 := condT c18 hz9
      obtain ⟨y14, hy14, hz9⟩ := bC hz9
      rcases Bool.eq_false_or_eq_true (y14 == 1) with c19 | c19
      · replace hz9 := condT c19 hz9
        try rw [c19] at c18
        obtain ⟨y15, hy15, hz9⟩ := bC hz9
        rcases Bool.eq_false_or_eq_true (y15 == 1) with c20 | c20
        · replace hz9 := condT c20 hz9
          try rw [c20] at c18
          try rw [c20] at c19
          obtain ⟨y16, hy16, hz9⟩ := bC hz9
          rcases Bool.eq_false_or_eq_true (y16 == 7) with c21 | c21
          · replace hz9 := condT c21 hz9
            try rw [c21] at c18
            try rw [c21] at c19
            try rw [c21] at c20
            obtain ⟨y17, hy17, hz9⟩ := bC hz9
            refine W_regionD tab_ok [some true, some true, some true, some true, some true, some true, some true, some true, some true, some true, some true, some true] ?_
            simp only [push_cast, seval, ↓reduceIte, cast_lit, c18, c19, c20, c21, hN0, hN]
            refine (ok_reader_Ref_Kind hy14).then ?_
            simp only [push_cast, seval, ↓reduceIte, cast_lit, c18, c19, c20, c21, hN0, hN]
            refine (ok_reader_Ref_Words hy15).then ?_
            simp only [push_cast, seval, ↓reduceIte, cast_lit, c18, c19, c20, c21, hN0, hN]
            refine (ok_reader_Ref_Word hy16).then ?_
            simp only [push_cast, seval, ↓reduceIte, cast_lit, c18, c19, c20, c21, hN0, hN]
            refine (ok_reader_Ref_Kids hy17).then ?_
            simp only [push_cast, seval, ↓reduceIte, cast_lit, c18, c19, c20, c21, hN0, hN]
            have hz9 := Option.some.inj hz9; subst hz9
            refine And.intro rfl (Fit2.of (fit_loc hU rfl rfl ?_) (by omega))
            simp only [push_cast, seval, ↓reduceIte, cast_lit, c18, c19, c20, c21, hN0, hN]
          · replace hz9 := condF c21 hz9
            try rw [c21] at c18
            try rw [c21] at c19
            try rw [c21] at c20
            refine W_regionD tab_ok [some true, some true, some true, some true, some true, some true, some true, some true, some true, some false, some false, some false] ?_
            simp only [push_cast, seval, ↓reduceIte, cast_lit, c18, c19, c20, c21, hN0, hN]
            refine (ok_reader_Ref_Kind hy14).then ?_
            simp only [push_cast, seval, ↓reduceIte, cast_lit, c18, c19, c20, c21, hN0, hN]
            refine (ok_reader_Ref_Words hy15).then ?_
            simp only [push_cast, seval, ↓reduceIte, cast_lit, c18, c19, c20, c21, hN0, hN]
            refine (ok_reader_Ref_Word hy16).then ?_
            simp only [push_cast, seval, ↓reduceIte, cast_lit, c18, c19, c20, c21, hN0, hN]
            have hz9 := Option.some.inj hz9; subst hz9
            refine And.intro rfl (Fit2.of (fit_loc hU rfl rfl ?_) (by omega))
            simp only [push_cast, seval, ↓reduceIte, cast_lit, c18, c19, c20, c21, hN0, hN]
        · replace hz9 := condF c20 hz9
          try rw [c20] at c18
          try rw [c20] at c19
          refine W_regionD tab_ok [some true, some true, some true, some true, some true, some true, some false, some false, some false, some false, some false, some false] ?_
          simp only [push_cast, seval, ↓reduceIte, cast_lit, c18, c19, c20, hN0, hN]
          refine (ok_reader_Ref_Kind hy14).then ?_
          simp only [push_cast, seval, ↓reduceIte, cast_lit, c18, c19, c20, hN0, hN]
          refine (ok_reader_Ref_Words hy15).then ?_
          simp only [push_cast, seval, ↓reduceIte, cast_lit, c18, c19, c20, hN0, hN]
          have hz9 := Option.some.inj hz9; subst hz9
          refine And.intro rfl (Fit2.of (fit_loc hU rfl rfl ?_) (by omega))
          simp only [push_cast, seval, ↓reduceIte, cast_lit, c18, c19, c20, hN0, hN]
      · replace hz9 := condF c19 hz9
        try rw [c19] at c18
        refine W_regionD tab_ok [some true, some true, some true, some false, some false, some false, some false, some false, some false, some false, some false, some false] ?_
        simp only [push_cast, seval, ↓reduceIte, cast_lit, c18, c19, hN0, hN]
        refine (ok_reader_Ref_Kind hy14).then ?_
        simp only [push_cast, seval, ↓reduceIte, cast_lit, c18, c19, hN0, hN]
        have hz9 := Option.some.inj hz9; subst hz9
        refine And.intro rfl (Fit2.of (fit_loc hU rfl rfl ?_) (by omega))
        simp only [push_cast, seval, ↓reduceIte, cast_lit, c18, c19, hN0, hN]
    · replace hz9 := condF c18 hz9
      refine W_regionD tab_ok [some false, some false, some false, some false, some false, some false, some false, some false, some false, some false, some false, some false] ?_
      simp only [push_cast, seval, ↓reduceIte, cast_lit, c18, hN0, hN]
      have hz9 := Option.some.inj hz9; subst hz9
      refine And.intro rfl (Fit2.of (fit_loc hU rfl rfl ?_) (by omega))
      simp only [push_cast, seval, ↓reduceIte, cast_lit, c18, hN0, hN]
  refine W_ret ?_
  try simp only [gthen, gblock]
  have h := Option.some.inj h; subst h
  refine fin_loc (.inr rfl) hU [.val (.bool z9)] (by omega) ?_
  simp only [push_cast, seval, ↓reduceIte, cast_lit, Try.results22, hN0, hN]
theorem ok_centolaw09_ReaderStays {a0 : (List (List Int))} {a1 : (List Int)} {r : Bool} {O : Objs} {n : Nat} (h : m_centolaw09_ReaderStays a0 a1 = some r) : GTo Try.prog 5 [.sl a0.length (fl (eL (eI .u64)) a0), .sl a1.length (fl (eI .i64) a1)] O n (.val (.bool r)) O n := by
  unfold m_centolaw09_ReaderStays at h
  refine fn_of tab_ok Try.call5 Try.func5 rfl (Nat.le_of_ble_eq_true rfl) (Nat.le_refl _) fun hU => ?_
  have hN0 : O n = none := hU.fresh _ (Nat.le_refl _)
  have hN : ∀ k, O (n + k) = none := fun k => hU.fresh _ (Nat.le_add_right _ _)
  show W _ _ _ _ ⟨72, [], [(0, .sl a0.length (fl (eL (eI .u64)) a0)), (1, .sl a1.length (fl (eI .i64) a1))]⟩ (Loc O n []) _
  refine W_sq [0, 1] (W_regionD tab_ok [] ?_)
  simp only [push_cast, seval, ↓reduceIte, cast_lit, hN0, hN]
  refine W_seqK ?_
  obtain ⟨y2, hy2, h⟩ := bC h
  refine W_regionD tab_ok [] ?_
  simp only [push_cast, seval, ↓reduceIte, cast_lit, hN0, hN]
  refine (ok_arena_Of hy2).then ?_
  simp only [push_cast, seval, ↓reduceIte, cast_lit, hN0, hN]
  refine W_drop [0, 1, 5] [] ?_
  simp only [push_cast, seval, ↓reduceIte]
  refine W_seqK ?_
  obtain ⟨y4, hy4, h⟩ := bC h
  refine W_regionD tab_ok [] ?_
  simp only [push_cast, seval, ↓reduceIte, cast_lit, hN0, hN]
  refine (ok_reader_Root hy4).then ?_
  simp only [push_cast, seval, ↓reduceIte, cast_lit, hN0, hN]
  refine W_drop [0, 1, 5, 6, 7] [true] ?_
  simp only [push_cast, seval, ↓reduceIte]
  refine W_seqK ?_
  obtain ⟨y6, hy6, h⟩ := bC h
  refine W_regionD tab_ok [] ?_
  simp only [push_cast, seval, ↓reduceIte, cast_lit, hN0, hN]
  refine (ok_reader_At hy6).then ?_
  simp only [push_cast, seval, ↓reduceIte, cast_lit, hN0, hN]
  refine W_drop [0, 1, 5, 6, 7, 8, 9] [true, true] ?_
  simp only [push_cast, seval, ↓reduceIte]
  refine W_seqK ?_
  obtain ⟨z11, hz11, h⟩ := bC h
  refine W_seqN (E' := ⟨72, [], [(0, .sl a0.length (fl (eL (eI .u64)) a0)), (1, .sl a1.length (fl (eI .i64) a1)), (5, (gP e_S_arena_Arena y2)), (6, .ref n 0), (39, .val (.bool z11))]⟩) (O' := (Loc O n [some ⟨false, 27, 9, 1, (c_S_reader_Ref y4.1)⟩, none])) (n0 := (n + 2)) ?_ ?_
  · rcases Bool.eq_false_or_eq_true (y4.2 != y6.2) with c20 | c20
    · replace hz11 := condT c20 hz11
      refine W_drawD tab_ok (by kernel_rfl) [some false, some false, some false, some false, some false, some false, some false, some false, some false, some false] (by kernel_rfl) ?_
      simp only [push_cast, seval, ↓reduceIte, cast_lit, c20, hN0, hN]
      have hz11 := Option.some.inj hz11; subst hz11
      refine And.intro rfl (Fit2.of (fit_loc hU rfl rfl ?_) (by omega))
      simp only [push_cast, seval, ↓reduceIte, cast_lit, c20, hN0, hN]
    · replace hz11 := condF c20 hz11
      obtain ⟨y16, hy16, hz11⟩ := bC hz11
      obtain ⟨y17, hy17, hz11⟩ := bC hz11
      rcases Bool.eq_false_or_eq_true (y16 != y17) with c21 | c21
      · replace hz11 := condT c21 hz11
        try rw [c21] at c20
        refine W_drawD tab_ok (by kernel_rfl) [some true, some true, some true, some true, some true, some false, some false, some false, some false, some false] (by kernel_rfl) ?_
        simp only [push_cast, seval, ↓reduceIte, cast_lit, c20, c21, hN0, hN]
        refine PCall.of (ok_reader_Ref_Kind hy16) ?_
        simp only [push_cast, seval, ↓reduceIte, cast_lit, c20, c21, hN0, hN]
        refine PCall.of (ok_reader_Ref_Kind hy17) ?_
        simp only [push_cast, seval, ↓reduceIte, cast_lit, c20, c21, hN0, hN]
        have hz11 := Option.some.inj hz11; subst hz11
        refine And.intro rfl (Fit2.of (fit_loc hU rfl rfl ?_) (by omega))
        simp only [push_cast, seval, ↓reduceIte, cast_lit, c20, c21, hN0, hN]
      · replace hz11 := condF c21 hz11
        try rw [c21] at c20
        obtain ⟨y18, hy18, hz11⟩ := bC hz11
        obtain ⟨y19, hy19, hz11⟩ := bC hz11
        refine W_drawD tab_ok (by kernel_rfl) [some true, some true, some true, some true, some true, some true, some true, some true, some true, some true] (by kernel_rfl) ?_
        simp only [push_cast, seval, ↓reduceIte, cast_lit, c20, c21, hN0, hN]
        refine PCall.of (ok_reader_Ref_Kind hy16) ?_
        simp only [push_cast, seval, ↓reduceIte, cast_lit, c20, c21, hN0, hN]
        refine PCall.of (ok_reader_Ref_Kind hy17) ?_
        simp only [push_cast, seval, ↓reduceIte, cast_lit, c20, c21, hN0, hN]
        refine PCall.of (ok_reader_Ref_Kids hy18) ?_
        simp only [push_cast, seval, ↓reduceIte, cast_lit, c20, c21, hN0, hN]
        refine PCall.of (ok_reader_Ref_Kids hy19) ?_
        simp only [push_cast, seval, ↓reduceIte, cast_lit, c20, c21, hN0, hN]
        have hz11 := Option.some.inj hz11; subst hz11
        refine And.intro rfl (Fit2.of (fit_loc hU rfl rfl ?_) (by omega))
        simp only [push_cast, seval, ↓reduceIte, cast_lit, c20, c21, hN0, hN]
  refine W_cond (t := z11) rfl (fun c41 => ?_) (fun c41 => ?_)
  · replace h := condT c41 h
    refine W_sq [4] (W_regionD tab_ok [] ?_)
    simp only [push_cast, seval, ↓reduceIte, cast_lit, hN0, hN]
    refine W_ret ?_
    try simp only [gthen, gblock]
    have h := Option.some.inj h; subst h
    refine fin_loc (.inr rfl) hU [.val (.bool false)] (by omega) ?_
    simp only [push_cast, seval, ↓reduceIte, cast_lit, Try.results5, hN0, hN]
  · replace h := condF c41 h
    refine W_skip ?_
    try simp only [gthen, gblock]
    refine W_drop [0, 1, 5, 6] [true, false] ?_
    simp only [push_cast, seval, ↓reduceIte]
    refine W_seqK ?_
    refine W_sq [0, 1, 5, 6, 10] (W_regionD tab_ok [] ?_)
    simp only [push_cast, seval, ↓reduceIte, cast_lit, hN0, hN]
    refine W_drop [0, 1, 5, 6, 10] [true, false] ?_
    simp only [push_cast, seval, ↓reduceIte]
    obtain ⟨z29, hz29, h⟩ := bC h
    refine W_blockX (E' := ⟨72, [], [(0, .sl a0.length (fl (eL (eI .u64)) a0)), (5, (gP e_S_arena_Arena y2))]⟩) (O' := (Loc O n [none, none])) (n0 := (n + 2)) ?_ ?_
    · refine W_loopJ hz29 (fun s0_ => ⟨72, [], [(0, .sl a0.length (fl (eL (eI .u64)) a0)), (1, .sl a1.length (fl (eI .i64) a1)), (5, (gP e_S_arena_Arena y2)), (6, .ref n 0), (10, .val (.int .i64 s0_.1))]⟩) (fun s0_ => (Loc O n [some ⟨false, 27, 9, 1, [(gP e_S_arena_Arena s0_.2.1), .val (.int .i64 s0_.2.2.1), .val (.int .i64 s0_.2.2.2.1), .val (.int .i64 s0_.2.2.2.2.1), .val (.int .i64 s0_.2.2.2.2.2.1), .val (.int .i64 s0_.2.2.2.2.2.2.1), .val (.int .i64 s0_.2.2.2.2.2.2.2.1), .val (.int .i64 s0_.2.2.2.2.2.2.2.2.1), .val (.int .i64 s0_.2.2.2.2.2.2.2.2.2)]⟩, none])) (fun z29 => JX 0 n (⟨72, [], [(0, .sl a0.length (fl (eL (eI .u64)) a0)), (5, (gP e_S_arena_Arena y2))]⟩ : Env) (Loc O n [none, none]) (n + 2)) ?_
      intro s0_ x0_ hs0_
      unfold m_centolaw09_ReaderStays_L0 at hs0_
      try dsimp only
      refine W_seqK ?_
      refine W_sq [0, 1, 5, 6, 10, 47] (W_regionD tab_ok [none, none] ?_)
      simp only [push_cast, seval, ↓reduceIte, cast_lit, hN0, hN]
      repeat (with_reducible refine And.intro (by first | (intro h0; simp only [h0, and_self]; done) | (intro h0; simp only [h0, Bool.not_false, Bool.not_true, Bool.true_and, Bool.and_true, true_and, and_true, and_self, imp_self, implies_true, bne_iff_ne, ne_eq, beq_iff_eq]; done) | (intros; simp_all; done) | exact True.intro) ?_)
      refine W_cond (t := (cond (decide (s0_.1 < (a1.length : Int))) (decide (s0_.1 < 30)) false)) rfl (fun c28 => ?_) (fun c28 => ?_)
      · replace hs0_ := condT c28 hs0_
        refine W_skip ?_
        try simp only [gthen, gblock]
        refine W_drop [0, 1, 5, 6, 10] [true, false] ?_
        simp only [push_cast, seval, ↓reduceIte]
        refine W_seqK ?_
        refine W_block ?_
        refine W_seqK ?_
        obtain ⟨x24, hx24, ax24, bx24, cx24, hs0_⟩ := bE (f := (eI .i64)) tab3 (fun _ => rfl) (by decide) hs0_
        obtain ⟨y25, hy25, hs0_⟩ := bC hs0_
        refine W_drawY tab_ok (by kernel_rfl) [.plain, .plain, .plain, .plain, .plain, .plain, .plain, .plain, .low, .pass] (fun i => i ≠ n + 0) [0, 1, 2, 3, 4, 5, 6, 7, 8, 9] [.plain, .plain, .plain, .plain, .plain, .plain, .plain, .plain, .low, .pass] [] (by kernel_rfl) rfl ?_
        simp only [push_cast, Nat.reduceAdd, Nat.reduceSub, Nat.reduceMul, Nat.reduceLeDiff, Nat.reduceLT, Nat.reduceEqDiff, ↓reduceIte, reduceCtorEq, Int.reduceBEq, Int.reduceBNe, Nat.reduceBEq, Int.reduceLE, Int.reduceLT, Int.reduceEq, Int.reduceNe, Int.reduceNeg, Nat.reduceDiv, Nat.reduceMod, Nat.reducePow, cast_lit, ax24, bx24, cx24, hN0, hN]
        repeat (with_reducible refine And.intro (by first | omega | exact agree_loc rfl | exact agree_loc0 | exact agree_ne0 rfl | exact agree_ne rfl rfl) ?_)
        first | refine PCallA.of (fun _ _ => ok_reader_Ref_Kid hy25) ?_ | refine PCall.of (ok_reader_Ref_Kid hy25) ?_
        simp only [push_cast, Nat.reduceAdd, Nat.reduceSub, Nat.reduceMul, Nat.reduceLeDiff, Nat.reduceLT, Nat.reduceEqDiff, ↓reduceIte, reduceCtorEq, Int.reduceBEq, Int.reduceBNe, Nat.reduceBEq, Int.reduceLE, Int.reduceLT, Int.reduceEq, Int.reduceNe, Int.reduceNeg, Nat.reduceDiv, Nat.reduceMod, Nat.reducePow, cast_lit, ax24, bx24, cx24, hN0, hN]
        repeat (with_reducible refine And.intro (by first | omega | exact agree_loc rfl | exact agree_loc0 | exact agree_ne0 rfl | exact agree_ne rfl rfl) ?_)
        refine W_drop [0, 1, 5, 6, 10] [true, false] ?_
        simp only [push_cast, seval, ↓reduceIte]
        obtain ⟨x26, hx26, ax26, bx26, cx26, hs0_⟩ := bE (f := (eI .i64)) tab3 (fun _ => rfl) (by decide) hs0_
        obtain ⟨y27, hy27, hs0_⟩ := bC hs0_
        refine W_drawD tab_ok (by kernel_rfl) [] (by kernel_rfl) ?_
        simp only [push_cast, Nat.reduceAdd, Nat.reduceSub, Nat.reduceMul, Nat.reduceLeDiff, Nat.reduceLT, Nat.reduceEqDiff, ↓reduceIte, reduceCtorEq, Int.reduceBEq, Int.reduceBNe, Nat.reduceBEq, Int.reduceLE, Int.reduceLT, Int.reduceEq, Int.reduceNe, Int.reduceNeg, Nat.reduceDiv, Nat.reduceMod, Nat.reducePow, cast_lit, ax26, bx26, cx26, hN0, hN]
        refine PCall.of (ok_reader_Ref_Word hy27) ?_
        simp only [push_cast, Nat.reduceAdd, Nat.reduceSub, Nat.reduceMul, Nat.reduceLeDiff, Nat.reduceLT, Nat.reduceEqDiff, ↓reduceIte, reduceCtorEq, Int.reduceBEq, Int.reduceBNe, Nat.reduceBEq, Int.reduceLE, Int.reduceLT, Int.reduceEq, Int.reduceNe, Int.reduceNeg, Nat.reduceDiv, Nat.reduceMod, Nat.reducePow, cast_lit, ax26, bx26, cx26, hN0, hN]
        refine W_drop [0, 1, 5, 6, 10] [true, false] ?_
        simp only [push_cast, seval, ↓reduceIte]
        refine W_regionD tab_ok [] ?_
        simp only [push_cast, seval, ↓reduceIte, cast_lit, hN0, hN]
        have hs0_ := Option.some.inj hs0_; subst hs0_
        refine And.intro rfl (Fit2.of (fit_loc hU rfl rfl ?_) (by omega))
        simp only [push_cast, seval, ↓reduceIte, cast_lit, hN0, hN]
      · replace hs0_ := condF c28 hs0_
        refine W_exit ?_
        try simp only [gthen, gblock, ↓reduceIte, Nat.reduceEqDiff]
        have hs0_ := Option.some.inj hs0_; subst hs0_
        refine And.intro (fun h => by cases h) (And.intro rfl (Fit2.of (fit_loc hU rfl rfl ?_) (by omega)))
        simp only [push_cast, seval, ↓reduceIte, cast_lit, hN0, hN]
    try simp only [gthen, gblock, ↓reduceIte, Nat.reduceEqDiff]
    refine W_drop [0, 5] [false, false] ?_
    simp only [push_cast, seval, ↓reduceIte]
    obtain ⟨z33, hz33, h⟩ := bC h
    refine W_seqN (E' := ⟨72, [], [(4, .val (.bool z33))]⟩) (O' := (Loc O n [none, none])) (n0 := (n + 2)) ?_ ?_
    · obtain ⟨y37, hy37, hz33⟩ := bC hz33
      obtain ⟨y38, hy38, hz33⟩ := bC hz33
      rcases Bool.eq_false_or_eq_true y38 with c40 | c40
      · replace hz33 := condT c40 hz33
        obtain ⟨y39, hy39, hz33⟩ := bC hz33
        refine W_regionD tab_ok [some true] ?_
        simp only [push_cast, seval, ↓reduceIte, cast_lit, c40, hN0, hN]
        refine (ok_arena_Arena_Segments hy37).then ?_
        simp only [push_cast, seval, ↓reduceIte, cast_lit, c40, hN0, hN]
        refine (ok_centoref03_Same hy38).then ?_
        simp only [push_cast, seval, ↓reduceIte, cast_lit, c40, hN0, hN]
        refine (ok_centolaw09_awake hy39).then ?_
        simp only [push_cast, seval, ↓reduceIte, cast_lit, c40, hN0, hN]
        have hz33 := Option.some.inj hz33; subst hz33
        refine And.intro rfl (Fit2.of (fit_loc hU rfl rfl ?_) (by omega))
        simp only [push_cast, seval, ↓reduceIte, cast_lit, c40, hN0, hN]
      · replace hz33 := condF c40 hz33
        refine W_regionD tab_ok [some false] ?_
        simp only [push_cast, seval, ↓reduceIte, cast_lit, c40, hN0, hN]
        refine (ok_arena_Arena_Segments hy37).then ?_
        simp only [push_cast, seval, ↓reduceIte, cast_lit, c40, hN0, hN]
        refine (ok_centoref03_Same hy38).then ?_
        simp only [push_cast, seval, ↓reduceIte, cast_lit, c40, hN0, hN]
        have hz33 := Option.some.inj hz33; subst hz33
        refine And.intro rfl (Fit2.of (fit_loc hU rfl rfl ?_) (by omega))
        simp only [push_cast, seval, ↓reduceIte, cast_lit, c40, hN0, hN]
    refine W_ret ?_
    try simp only [gthen, gblock]
    have h := Option.some.inj h; subst h
    refine fin_loc (.inr rfl) hU [.val (.bool z33)] (by omega) ?_
    simp only [push_cast, seval, ↓reduceIte, cast_lit, Try.results5, hN0, hN]
end Go.Proofs.Ytmlhokaflhlhbaa
