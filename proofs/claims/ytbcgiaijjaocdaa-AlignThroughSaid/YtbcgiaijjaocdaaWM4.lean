/- Part WM4 of this seat's mirrors: functions of the seat's program, and the plain functions that they are; each theorem bears its own conditions. -/
import Derived.Test.YtbcgiaijjaocdaaWE
import Derived.Test.YtbcgiaijjaocdaaWM3
namespace Go.Proofs.Ytbcgiaijjaocdaa
open Go.RowKit
set_option linter.unusedVariables false
set_option linter.unusedSimpArgs false
set_option maxRecDepth 100000
set_option maxHeartbeats 1000000
attribute [local push_cast] c_S_align_Piece c_S_api_Edit c_S_api_KidEdit c_S_api_Op c_S_api_Tree c_S_api_WordEdit c_S_centoref24_Unit gfork_t gfork_f pfork_t pfork_f gthen gblock gops_nil gops_plain gops_guard onW gwantB gcalm gact gpick gpickV strip evS wok calmOp Op.operands Call.operands gop onK onP atK List.all_cons List.all_nil Bool.and_true Bool.true_and Bool.and_self Value.oneCell' List.take_zero List.take_succ_cons List.take_nil List.drop_zero List.drop_succ_cons List.drop_nil List.append_nil Nat.add_zero Nat.zero_add gstep gputE ev look genv gbin geqS geqF gint gunary gconvert gload gcells gpart_lit gstore gcellsOf gput gplace_lit gfieldAddr gstepIn gindexAddr gindex gfield gopt bLo bHi bMx gextract galloc gbox gbuild gfill gplaces gbuildSlice gmake glen gappend gsrc gbuiltin gnil isLive gres gone prun_nil prun_plain prun_guard pop TK.isAgg G.one G.under G.unders List.getD_cons_zero List.getD_cons_succ List.set_cons_zero List.set_cons_succ List.map_cons List.map_nil List.toList_toArray Array.toList_append Option.toArray_none Option.toArray_some Array.toList_map Option.map_some Option.map_none Option.bind_some Option.bind_none List.getElem?_cons_zero List.getElem?_cons_succ List.getElem?_nil List.nil_append List.cons_append List.replicate_succ List.replicate_zero List.length_cons List.length_nil and_true true_and and_false false_and Bool.true_eq_false Bool.false_eq_true forall_const false_implies implies_true IntKind.bits if_true if_false ite_true ite_false eq_self true_implies false_or or_false or_true true_or not_true_eq_false not_false_eq_true decide_true decide_false decide_eq_true_eq decide_eq_false_iff_not beq_iff_eq bne_iff_ne ne_eq Bool.not_eq_true Bool.not_eq_false beq_eq_false_iff_ne bne_eq_false_iff_eq beq_self_eq_true bne_self_eq_false Option.some.injEq exists_eq_left' exists_eq_left ge_iff_le gt_iff_lt decide_not Bool.not_true Bool.not_false imp_self gquiet cond_true cond_false beqT beqF Bool.not_not Bool.and_false Bool.false_and Bool.or_true Bool.true_or Bool.or_false Bool.false_or Loc_at Loc_at0 Loc_upd Loc_upd0 Loc_push Loc_push0 Option.join_some Nat.add_assoc Int.toNat_natCast eI eB eS eL fl_nil gopsD_nil gopsD_plain gopsD_t gopsD_f gopsD_n onKD onWD prunD_nil prunD_plain prunD_t prunD_f prunD_n onPD fitO fitO1 sameO fitL fl_append fl_one List.length_append G.agg.injEq G.row.injEq G.ref.injEq G.val.injEq G.sl.injEq G.tup.injEq Value.int.injEq Value.bool.injEq Value.string.injEq List.cons.injEq exists_and_left exists_const List.flatten_cons List.flatten_nil Int.le_refl Nat.le_refl upd_updU Loc_out Loc_updo Bool.not_eq_true' Bool.not_eq_false' wkl_nil wkl_cons wk_any wk_val wk_agg wk_tup wk_sl wk_fn List.size_toArray renO renO1 G.ren G.rens renL rho_at rho_at0 gP_none gP_some strip_gP wok_gP one_gP G.fn.injEq wk_slnil wk_slrow wk_slrs wk_ip wk_ipref wk_row wk_rs wk_rp wk_ref locLt0 locLt Option.join_none upd_same fl_cons undef keepL Arr.len Arr.put_eq prunB_nil prunB_bar prunB_bart prunB_plain prunB_t prunB_f prunB_n onB onBP gcopy setI_len Loc_cat0 Loc_cat1 Loc_cat2 Loc_cat3 Loc_cat4 Loc_cat5 noObjs_at prunK_nil prunK_bar prunK_pass prunK_plain prunK_low prunK_pt prunK_pf prunK_lt prunK_lf onKg onKa onKp popL pickOps lows lowG prunK_shp prunK_fill popH shpOp fillOp fillG rho_low rens_app Loc_cat6 Loc_cat7 Loc_cat8 Loc_cat9 Loc_cat10 Loc_cat11 Loc_cat12 Loc_cat13 Loc_cat14 Loc_cat15 Loc_cat16 dropM tab2 tkind2 tab3 tkind3 tab4 tkind4 tab5 tkind5 tab6 tkind6 tab7 tkind7 tab8 tkind8 tab9 tkind9 tab10 tkind10 tab11 tkind11 tab12 tkind12 tab13 tkind13 tab14 tkind14 tab15 tkind15 tab16 tkind16 tab17 tkind17 tab18 tkind18 tab19 tkind19 tab21 tkind21 tab22 tkind22 tab23 tkind23 tab24 tkind24 tab25 tkind25 tab26 tkind26 tab27 tkind27 tab28 tkind28 tab29 tkind29 tab30 tkind30 tab46 tkind46 tab49 tkind49 tab52 tkind52 tab56 tkind56 tab57 tkind57 tab58 tkind58 tab62 tkind62 tab68 tkind68 tab69 tkind69 tab70 tkind70 tab71 tkind71 tab78 tkind78 tab79 tkind79 tab81 tkind81 tab82 tkind82 tab83 tkind83 tab84 tkind84 tab95 tkind95 tab99 tkind99 tab101 tkind101 tab102 tkind102 tab109 tkind109 tab110 tkind110 tab113 tkind113 tab123 tkind123 tab124 tkind124 tab132 tkind132 tab133 tkind133 tab136 tkind136 tab138 tkind138 tab139 tkind139 tab141 tkind141 tab142 tkind142 tab157 tkind157 tab159 tkind159 tab160 tkind160 tab165 tkind165 tab166 tkind166 tab167 tkind167 tab169 tkind169 tab170 tkind170 tab171 tkind171 e_S_api_Tree e0_eq_S_api_Tree wkl_eI_u64 wka_eI_u64 len_eI_u64 one_eI_u64 wkp_eI_u64 undp_eI_u64 rens_eI_u64 renp_eI_u64 und_eI_u64 wkl_e_S_api_Tree wka_e_S_api_Tree len_e_S_api_Tree one_e_S_api_Tree wkp_e_S_api_Tree undp_e_S_api_Tree rens_e_S_api_Tree renp_e_S_api_Tree und_e_S_api_Tree e_S_api_WordEdit e_S_api_Edit e_S_api_Op e_S_api_KidEdit e0_eq_S_api_Edit e0_eq_S_api_Op e0_eq_S_api_KidEdit wkl_e_S_api_WordEdit wka_e_S_api_WordEdit len_e_S_api_WordEdit one_e_S_api_WordEdit wkp_e_S_api_WordEdit undp_e_S_api_WordEdit rens_e_S_api_WordEdit renp_e_S_api_WordEdit und_e_S_api_WordEdit wkl_e_S_api_KidEdit wka_e_S_api_KidEdit len_e_S_api_KidEdit one_e_S_api_KidEdit wkp_e_S_api_KidEdit undp_e_S_api_KidEdit rens_e_S_api_KidEdit renp_e_S_api_KidEdit und_e_S_api_KidEdit wkl_e_S_api_Op wka_e_S_api_Op len_e_S_api_Op one_e_S_api_Op wkp_e_S_api_Op undp_e_S_api_Op rens_e_S_api_Op renp_e_S_api_Op und_e_S_api_Op wkl_eI_u8 wka_eI_u8 len_eI_u8 one_eI_u8 wkp_eI_u8 undp_eI_u8 rens_eI_u8 renp_eI_u8 und_eI_u8 e_S_align_cursor wkl_e_S_align_cursor wka_e_S_align_cursor len_e_S_align_cursor one_e_S_align_cursor wkp_e_S_align_cursor undp_e_S_align_cursor rens_e_S_align_cursor renp_e_S_align_cursor und_e_S_align_cursor e_S_align_Piece wkl_e_S_align_Piece wka_e_S_align_Piece len_e_S_align_Piece one_e_S_align_Piece wkp_e_S_align_Piece undp_e_S_align_Piece rens_e_S_align_Piece renp_e_S_align_Piece und_e_S_align_Piece e_S_centoref24_Unit wkl_e_S_centoref24_Unit wka_e_S_centoref24_Unit len_e_S_centoref24_Unit one_e_S_centoref24_Unit wkp_e_S_centoref24_Unit undp_e_S_centoref24_Unit rens_e_S_centoref24_Unit renp_e_S_centoref24_Unit und_e_S_centoref24_Unit e_S_centoref24_Pair wkl_e_S_centoref24_Pair wka_e_S_centoref24_Pair len_e_S_centoref24_Pair one_e_S_centoref24_Pair wkp_e_S_centoref24_Pair undp_e_S_centoref24_Pair rens_e_S_centoref24_Pair renp_e_S_centoref24_Pair und_e_S_centoref24_Pair
theorem ok_centolaw24_alike {a0 : (List S_align_Piece)} {a1 : Int} {a2 : (List S_centoref24_Pair)} {r : Bool} {O : Objs} {n : Nat} (h : m_centolaw24_alike a0 a1 a2 = some r) : GTo Try.prog 37 [.sl a0.length (fl e_S_align_Piece a0), .val (.int .i64 a1), .sl a2.length (fl e_S_centoref24_Pair a2)] O n (.val (.bool r)) O n := by
  unfold m_centolaw24_alike at h
  refine fn_of tab_ok Try.call37 Try.func37 rfl (Nat.le_of_ble_eq_true rfl) (Nat.le_refl _) fun hU => ?_
  have hN0 : O n = none := hU.fresh _ (Nat.le_refl _)
  have hN : ∀ k, O (n + k) = none := fun k => hU.fresh _ (Nat.le_add_right _ _)
  show W _ _ _ _ ⟨100, [], [(0, .sl a0.length (fl e_S_align_Piece a0)), (1, .val (.int .i64 a1)), (2, .sl a2.length (fl e_S_centoref24_Pair a2))]⟩ (Loc O n []) _
  refine W_sq [0, 1, 2] (W_regionD tab_ok [] ?_)
  simp only [push_cast, seval, ↓reduceIte, cast_lit, hN0, hN]
  refine W_sq [0, 1, 2, 7] (W_regionD tab_ok [] ?_)
  simp only [push_cast, seval, ↓reduceIte, cast_lit, hN0, hN]
  refine W_seqK ?_
  refine W_sq [0, 1, 2, 7, 8] (W_regionD tab_ok [] ?_)
  simp only [push_cast, seval, ↓reduceIte, cast_lit, hN0, hN]
  refine W_drop [0, 1, 2, 7, 8] [] ?_
  simp only [push_cast, seval, ↓reduceIte]
  obtain ⟨z39, hz39, h⟩ := bC h
  refine W_sumB (J := (SumJ (fun z39 => JR n (⟨100, [], [(6, .val (.bool false))]⟩ : Env) (Loc O n []) n) (fun z39 => JX 0 n (⟨100, [], [(2, .sl a2.length (fl e_S_centoref24_Pair a2)), (7, .val (.int .i64 z39))]⟩ : Env) (Loc O n []) n))) (z := z39) ?_ fun hw => ?_
  · refine W_loopJ hz39 (fun s0_ => ⟨100, [], [(0, .sl a0.length (fl e_S_align_Piece a0)), (1, .val (.int .i64 a1)), (2, .sl a2.length (fl e_S_centoref24_Pair a2)), (7, .val (.int .i64 s0_.1)), (8, .val (.int .i64 s0_.2))]⟩) (fun s0_ => (Loc O n [])) (SumJ (fun z39 => JR n (⟨100, [], [(6, .val (.bool false))]⟩ : Env) (Loc O n []) n) (fun z39 => JX 0 n (⟨100, [], [(2, .sl a2.length (fl e_S_centoref24_Pair a2)), (7, .val (.int .i64 z39))]⟩ : Env) (Loc O n []) n)) ?_
    intro s0_ x0_ hs0_
    unfold m_centolaw24_alike_L0 at hs0_
    try dsimp only
    refine W_seqK ?_
    refine W_sq [0, 1, 2, 7, 8, 15] (W_regionD tab_ok [] ?_)
    simp only [push_cast, seval, ↓reduceIte, cast_lit, hN0, hN]
    refine W_cond (t := (decide (s0_.2 < (a0.length : Int)))) rfl (fun c38 => ?_) (fun c38 => ?_)
    · replace hs0_ := condT c38 hs0_
      refine W_skip ?_
      try simp only [gthen, gblock]
      refine W_drop [0, 1, 2, 7, 8] [] ?_
      simp only [push_cast, seval, ↓reduceIte]
      refine W_seqK ?_
      refine W_block ?_
      refine W_seqK ?_
      obtain ⟨x2, hx2, ax2, bx2, cx2, hs0_⟩ := bE (f := e_S_align_Piece) tab79 (fun _ => rfl) (by decide) hs0_
      refine W_regionD tab_ok [] ?_
      simp only [push_cast, Nat.reduceAdd, Nat.reduceSub, Nat.reduceMul, Nat.reduceLeDiff, Nat.reduceLT, Nat.reduceEqDiff, ↓reduceIte, reduceCtorEq, Int.reduceBEq, Int.reduceBNe, Nat.reduceBEq, Int.reduceLE, Int.reduceLT, Int.reduceEq, Int.reduceNe, Int.reduceNeg, Nat.reduceDiv, Nat.reduceMod, Nat.reducePow, cast_lit, ax2, bx2, cx2, hN0, hN]
      refine W_drop [0, 1, 2, 7, 8, 9] [true] ?_
      simp only [push_cast, seval, ↓reduceIte]
      refine W_seqK ?_
      obtain ⟨y4, hy4, hs0_⟩ := bC hs0_
      refine W_regionD tab_ok [] ?_
      simp only [push_cast, seval, ↓reduceIte, cast_lit, hN0, hN]
      refine (ok_centolaw24_kids hy4).then ?_
      simp only [push_cast, seval, ↓reduceIte, cast_lit, hN0, hN]
      refine W_drop [0, 1, 2, 7, 8, 9, 10] [true] ?_
      simp only [push_cast, seval, ↓reduceIte]
      obtain ⟨z5, hz5, hs0_⟩ := bC hs0_
      refine W_seqN (E' := ⟨100, [], [(0, .sl a0.length (fl e_S_align_Piece a0)), (1, .val (.int .i64 a1)), (2, .sl a2.length (fl e_S_centoref24_Pair a2)), (7, .val (.int .i64 s0_.1)), (8, .val (.int .i64 s0_.2)), (9, .ref n 0), (10, .val (.int .i64 z5))]⟩) (O' := (Loc O n [some ⟨false, 79, 29, 1, (c_S_align_Piece x2)⟩])) (n0 := (n + 1)) ?_ ?_
      · refine W_sq [0, 1, 2, 7, 8, 9, 10, 27] (W_regionD tab_ok [] ?_)
        simp only [push_cast, seval, ↓reduceIte, cast_lit, hN0, hN]
        refine W_cond (t := (x2.Of == 2)) rfl (fun c7 => ?_) (fun c7 => ?_)
        · replace hz5 := condT c7 hz5
          obtain ⟨y6, hy6, hz5⟩ := bC hz5
          refine W_regionD tab_ok [] ?_
          simp only [push_cast, seval, ↓reduceIte, cast_lit, hN0, hN]
          refine (ok_centolaw24_kids hy6).then ?_
          simp only [push_cast, seval, ↓reduceIte, cast_lit, hN0, hN]
          have hz5 := Option.some.inj hz5; subst hz5
          refine And.intro rfl (Fit2.of (fit_loc hU rfl rfl ?_) (by omega))
          simp only [push_cast, seval, ↓reduceIte, cast_lit, hN0, hN]
        · replace hz5 := condF c7 hz5
          refine W_skip ?_
          try simp only [gthen, gblock]
          have hz5 := Option.some.inj hz5; subst hz5
          refine And.intro rfl (Fit2.of (fit_loc hU rfl rfl ?_) (by omega))
          simp only [push_cast, seval, ↓reduceIte, cast_lit, hN0, hN]
      refine W_seqK ?_
      obtain ⟨z9, hz9, hs0_⟩ := bC hs0_
      refine W_seqN (E' := ⟨100, [], [(0, .sl a0.length (fl e_S_align_Piece a0)), (1, .val (.int .i64 a1)), (2, .sl a2.length (fl e_S_centoref24_Pair a2)), (7, .val (.int .i64 s0_.1)), (8, .val (.int .i64 s0_.2)), (9, .ref n 0), (10, .val (.int .i64 z5)), (52, .val (.bool z9))]⟩) (O' := (Loc O n [some ⟨false, 79, 29, 1, (c_S_align_Piece x2)⟩])) (n0 := (n + 1)) ?_ ?_
      · rcases Bool.eq_false_or_eq_true (decide (z5 < 1)) with c12 | c12
        · replace hz9 := condT c12 hz9
          refine W_regionD tab_ok [none, none, none, none, none, none, some false, some false, some false, some false, some false, some false, some false, some false, some false, some false] ?_
          simp only [push_cast, seval, ↓reduceIte, cast_lit, c12, hN0, hN]
          repeat (with_reducible refine And.intro (by first | (intro h0; simp only [h0, and_self]; done) | (intro h0; simp only [h0, Bool.not_false, Bool.not_true, Bool.true_and, Bool.and_true, true_and, and_true, and_self, imp_self, implies_true, bne_iff_ne, ne_eq, beq_iff_eq]; done) | (intros; simp_all; done) | exact True.intro) ?_)
          have hz9 := Option.some.inj hz9; subst hz9
          refine And.intro rfl (Fit2.of (fit_loc hU rfl rfl ?_) (by omega))
          simp only [push_cast, seval, ↓reduceIte, cast_lit, c12, hN0, hN]
        · replace hz9 := condF c12 hz9
          rcases Bool.eq_false_or_eq_true (decide ((IntKind.i64.wrap ((a2.length : Int) - s0_.1)) < z5)) with c13 | c13
          · replace hz9 := condT c13 hz9
            try rw [c13] at c12
            refine W_regionD tab_ok [none, none, none, none, none, none, some false, some false, some false, some false, some false, some false, some false, some false, some false, some false] ?_
            simp only [push_cast, seval, ↓reduceIte, cast_lit, c12, c13, hN0, hN]
            repeat (with_reducible refine And.intro (by first | (intro h0; simp only [h0, and_self]; done) | (intro h0; simp only [h0, Bool.not_false, Bool.not_true, Bool.true_and, Bool.and_true, true_and, and_true, and_self, imp_self, implies_true, bne_iff_ne, ne_eq, beq_iff_eq]; done) | (intros; simp_all; done) | exact True.intro) ?_)
            have hz9 := Option.some.inj hz9; subst hz9
            refine And.intro rfl (Fit2.of (fit_loc hU rfl rfl ?_) (by omega))
            simp only [push_cast, seval, ↓reduceIte, cast_lit, c12, c13, hN0, hN]
          · replace hz9 := condF c13 hz9
            try rw [c13] at c12
            rcases Bool.eq_false_or_eq_true (x2.Of == 0) with c14 | c14
            · replace hz9 := condT c14 hz9
              try rw [c14] at c12
              try rw [c14] at c13
              obtain ⟨y11, hy11, hz9⟩ := bC hz9
              refine W_regionD tab_ok [none, none, none, none, none, none, some true, some true, some true, some true, some true, some true, some true, some true, some true, some true] ?_
              simp only [push_cast, seval, ↓reduceIte, cast_lit, c12, c13, c14, hN0, hN]
              repeat (with_reducible refine And.intro (by first | (intro h0; simp only [h0, and_self]; done) | (intro h0; simp only [h0, Bool.not_false, Bool.not_true, Bool.true_and, Bool.and_true, true_and, and_true, and_self, imp_self, implies_true, bne_iff_ne, ne_eq, beq_iff_eq]; done) | (intros; simp_all; done) | exact True.intro) ?_)
              refine (ok_centolaw24_kids hy11).then ?_
              simp only [push_cast, seval, ↓reduceIte, cast_lit, c12, c13, c14, hN0, hN]
              repeat (with_reducible refine And.intro (by first | (intro h0; simp only [h0, and_self]; done) | (intro h0; simp only [h0, Bool.not_false, Bool.not_true, Bool.true_and, Bool.and_true, true_and, and_true, and_self, imp_self, implies_true, bne_iff_ne, ne_eq, beq_iff_eq]; done) | (intros; simp_all; done) | exact True.intro) ?_)
              have hz9 := Option.some.inj hz9; subst hz9
              refine And.intro rfl (Fit2.of (fit_loc hU rfl rfl ?_) (by omega))
              simp only [push_cast, seval, ↓reduceIte, cast_lit, c12, c13, c14, hN0, hN]
            · replace hz9 := condF c14 hz9
              try rw [c14] at c12
              try rw [c14] at c13
              refine W_regionD tab_ok [none, none, none, none, none, none, some true, some true, some true, some true, some false, some false, some false, some false, some false, some true] ?_
              simp only [push_cast, seval, ↓reduceIte, cast_lit, c12, c13, c14, hN0, hN]
              repeat (with_reducible refine And.intro (by first | (intro h0; simp only [h0, and_self]; done) | (intro h0; simp only [h0, Bool.not_false, Bool.not_true, Bool.true_and, Bool.and_true, true_and, and_true, and_self, imp_self, implies_true, bne_iff_ne, ne_eq, beq_iff_eq]; done) | (intros; simp_all; done) | exact True.intro) ?_)
              have hz9 := Option.some.inj hz9; subst hz9
              refine And.intro rfl (Fit2.of (fit_loc hU rfl rfl ?_) (by omega))
              simp only [push_cast, seval, ↓reduceIte, cast_lit, c12, c13, c14, hN0, hN]
      refine W_cond (t := z9) rfl (fun c37 => ?_) (fun c37 => ?_)
      · replace hs0_ := condT c37 hs0_
        refine W_sq [6] (W_regionD tab_ok [] ?_)
        simp only [push_cast, seval, ↓reduceIte, cast_lit, hN0, hN]
        refine W_ret ?_
        try simp only [gthen, gblock]
        have hs0_ := Option.some.inj hs0_; subst hs0_
        refine And.intro (fun h => by cases h) (And.intro rfl (Fit2.of (fit_loc hU rfl rfl ?_) (by omega)))
        simp only [push_cast, seval, ↓reduceIte, cast_lit, hN0, hN]
      · replace hs0_ := condF c37 hs0_
        refine W_skip ?_
        try simp only [gthen, gblock]
        refine W_drop [0, 1, 2, 7, 8, 9, 10] [true] ?_
        simp only [push_cast, seval, ↓reduceIte]
        refine W_seqK ?_
        refine W_sq [0, 1, 2, 7, 8, 9, 10, 11] (W_regionD tab_ok [] ?_)
        simp only [push_cast, seval, ↓reduceIte, cast_lit, hN0, hN]
        refine W_drop [0, 1, 2, 7, 8, 9, 10, 11] [true] ?_
        simp only [push_cast, seval, ↓reduceIte]
        obtain ⟨z21, hz21, hs0_⟩ := bC hs0_
        refine W_sumB (J := (SumJ (fun z21 => JR n (⟨100, [], [(6, .val (.bool false))]⟩ : Env) (Loc O n [none]) (n + 1)) (fun z21 => JX 2 n (⟨100, [], [(0, .sl a0.length (fl e_S_align_Piece a0)), (1, .val (.int .i64 a1)), (2, .sl a2.length (fl e_S_centoref24_Pair a2)), (7, .val (.int .i64 s0_.1)), (8, .val (.int .i64 s0_.2)), (9, .ref n 0), (10, .val (.int .i64 z5))]⟩ : Env) (Loc O n [some ⟨false, 79, 29, 1, (c_S_align_Piece x2)⟩]) (n + 1)))) (z := z21) ?_ fun hw => ?_
        · refine W_loopJ hz21 (fun s1_ => ⟨100, [], [(0, .sl a0.length (fl e_S_align_Piece a0)), (1, .val (.int .i64 a1)), (2, .sl a2.length (fl e_S_centoref24_Pair a2)), (7, .val (.int .i64 s0_.1)), (8, .val (.int .i64 s0_.2)), (9, .ref n 0), (10, .val (.int .i64 z5)), (11, .val (.int .i64 s1_))]⟩) (fun s1_ => (Loc O n [some ⟨false, 79, 29, 1, (c_S_align_Piece x2)⟩])) (SumJ (fun z21 => JR n (⟨100, [], [(6, .val (.bool false))]⟩ : Env) (Loc O n [none]) (n + 1)) (fun z21 => JX 2 n (⟨100, [], [(0, .sl a0.length (fl e_S_align_Piece a0)), (1, .val (.int .i64 a1)), (2, .sl a2.length (fl e_S_centoref24_Pair a2)), (7, .val (.int .i64 s0_.1)), (8, .val (.int .i64 s0_.2)), (9, .ref n 0), (10, .val (.int .i64 z5))]⟩ : Env) (Loc O n [some ⟨false, 79, 29, 1, (c_S_align_Piece x2)⟩]) (n + 1))) ?_
          intro s1_ x1_ hs1_
          unfold m_centolaw24_alike_L1 at hs1_
          try dsimp only
          refine W_seqK ?_
          refine W_sq [0, 1, 2, 7, 8, 9, 10, 11, 55] (W_regionD tab_ok [] ?_)
          simp only [push_cast, seval, ↓reduceIte, cast_lit, hN0, hN]
          refine W_cond (t := (decide (s1_ < z5))) rfl (fun c20 => ?_) (fun c20 => ?_)
          · replace hs1_ := condT c20 hs1_
            refine W_skip ?_
            try simp only [gthen, gblock]
            refine W_drop [0, 1, 2, 7, 8, 9, 10, 11] [true] ?_
            simp only [push_cast, seval, ↓reduceIte]
            refine W_seqK ?_
            refine W_block ?_
            obtain ⟨x17, hx17, ax17, bx17, cx17, hs1_⟩ := bE (f := e_S_centoref24_Pair) tab84 (fun _ => rfl) (by decide) hs1_
            have g18 := gpart_fld0 (f := e_S_centoref24_Pair) (sz := 35) tab3 (fun _ => rfl) (by decide) (by decide) hx17
            refine W_sq [0, 1, 2, 7, 8, 9, 10, 11, 67] (W_drawD tab_ok (by kernel_rfl) [] (by kernel_rfl) ?_)
            simp only [push_cast, Nat.reduceAdd, Nat.reduceSub, Nat.reduceMul, Nat.reduceLeDiff, Nat.reduceLT, Nat.reduceEqDiff, ↓reduceIte, reduceCtorEq, Int.reduceBEq, Int.reduceBNe, Nat.reduceBEq, Int.reduceLE, Int.reduceLT, Int.reduceEq, Int.reduceNe, Int.reduceNeg, Nat.reduceDiv, Nat.reduceMod, Nat.reducePow, cast_lit, ax17, bx17, cx17, g18, hN0, hN]
            refine W_cond (t := (x17.Of != x2.Of)) rfl (fun c19 => ?_) (fun c19 => ?_)
            · replace hs1_ := condT c19 hs1_
              refine W_sq [6] (W_regionD tab_ok [] ?_)
              simp only [push_cast, seval, ↓reduceIte, cast_lit, hN0, hN]
              refine W_ret ?_
              try simp only [gthen, gblock]
              have hs1_ := Option.some.inj hs1_; subst hs1_
              refine And.intro (fun h => by cases h) (And.intro rfl (Fit2.of (fit_loc hU rfl rfl ?_) (by omega)))
              simp only [push_cast, seval, ↓reduceIte, cast_lit, hN0, hN]
            · replace hs1_ := condF c19 hs1_
              refine W_skip ?_
              try simp only [gthen, gblock]
              refine W_drop [0, 1, 2, 7, 8, 9, 10, 11] [true] ?_
              simp only [push_cast, seval, ↓reduceIte]
              refine W_regionD tab_ok [] ?_
              simp only [push_cast, seval, ↓reduceIte, cast_lit, hN0, hN]
              have hs1_ := Option.some.inj hs1_; subst hs1_
              refine And.intro rfl (Fit2.of (fit_loc hU rfl rfl ?_) (by omega))
              simp only [push_cast, seval, ↓reduceIte, cast_lit, hN0, hN]
          · replace hs1_ := condF c20 hs1_
            refine W_exit ?_
            try simp only [gthen, gblock, ↓reduceIte, Nat.reduceEqDiff]
            have hs1_ := Option.some.inj hs1_; subst hs1_
            refine And.intro (fun h => by cases h) (And.intro rfl (Fit2.of (fit_loc hU rfl rfl ?_) (by omega)))
            simp only [push_cast, seval, ↓reduceIte, cast_lit, hN0, hN]
        rcases z21 with z21 | z21
        · dsimp only [SumJ] at hw hs0_
          refine W_blockR hw ?_
          try simp only [gthen, gblock, ↓reduceIte, Nat.reduceEqDiff]
          have hs0_ := Option.some.inj hs0_; subst hs0_
          refine And.intro (fun h => by cases h) (And.intro rfl (Fit2.of (fit_loc hU rfl rfl ?_) (by omega)))
          simp only [push_cast, seval, ↓reduceIte, cast_lit, hN0, hN]
        · dsimp only [SumJ] at hw hs0_
          refine W_blockX hw ?_
          try simp only [gthen, gblock, ↓reduceIte, Nat.reduceEqDiff]
          refine W_drop [0, 1, 2, 7, 8, 9, 10] [true] ?_
          simp only [push_cast, seval, ↓reduceIte]
          refine W_seqK ?_
          obtain ⟨z25, hz25, hs0_⟩ := bC hs0_
          refine W_seqN (E' := ⟨100, [], [(0, .sl a0.length (fl e_S_align_Piece a0)), (1, .val (.int .i64 a1)), (2, .sl a2.length (fl e_S_centoref24_Pair a2)), (7, .val (.int .i64 s0_.1)), (8, .val (.int .i64 s0_.2)), (10, .val (.int .i64 z5)), (92, .val (.bool z25))]⟩) (O' := (Loc O n [none])) (n0 := (n + 1)) ?_ ?_
          · rcases Bool.eq_false_or_eq_true (x2.Of != 2) with c32 | c32
            · replace hz25 := condT c32 hz25
              obtain ⟨y29, hy29, hz25⟩ := bC hz25
              rcases Bool.eq_false_or_eq_true y29 with c33 | c33
              · replace hz25 := condT c33 hz25
                try rw [c33] at c32
                rcases Bool.eq_false_or_eq_true (x2.Of != 1) with c34 | c34
                · replace hz25 := condT c34 hz25
                  try rw [c34] at c32
                  try rw [c34] at c33
                  obtain ⟨y30, hy30, hz25⟩ := bC hz25
                  refine W_regionD tab_ok [some true, some true, some true, some true, some true, some true, some true, some true, some true, some true, some true, some true, some true, some true, some true, some true, some true, some true] ?_
                  simp only [push_cast, seval, ↓reduceIte, cast_lit, c32, c33, c34, hN0, hN]
                  refine (ok_centolaw24_same hy29).then ?_
                  simp only [push_cast, seval, ↓reduceIte, cast_lit, c32, c33, c34, hN0, hN]
                  refine (ok_centolaw24_same hy30).then ?_
                  simp only [push_cast, seval, ↓reduceIte, cast_lit, c32, c33, c34, hN0, hN]
                  have hz25 := Option.some.inj hz25; subst hz25
                  refine And.intro rfl (Fit2.of (fit_loc hU rfl rfl ?_) (by omega))
                  simp only [push_cast, seval, ↓reduceIte, cast_lit, c32, c33, c34, hN0, hN]
                · replace hz25 := condF c34 hz25
                  try rw [c34] at c32
                  try rw [c34] at c33
                  refine W_regionD tab_ok [some true, some true, some true, some true, some true, some true, some true, some true, some true, some true, some true, some false, some false, some false, some false, some false, some false, some true] ?_
                  simp only [push_cast, seval, ↓reduceIte, cast_lit, c32, c33, c34, hN0, hN]
                  refine (ok_centolaw24_same hy29).then ?_
                  simp only [push_cast, seval, ↓reduceIte, cast_lit, c32, c33, c34, hN0, hN]
                  have hz25 := Option.some.inj hz25; subst hz25
                  refine And.intro rfl (Fit2.of (fit_loc hU rfl rfl ?_) (by omega))
                  simp only [push_cast, seval, ↓reduceIte, cast_lit, c32, c33, c34, hN0, hN]
              · replace hz25 := condF c33 hz25
                try rw [c33] at c32
                refine W_regionD tab_ok [some true, some true, some true, some true, some true, some true, some true, some false, some false, some false, some false, some false, some false, some false, some false, some false, some false, some false] ?_
                simp only [push_cast, seval, ↓reduceIte, cast_lit, c32, c33, hN0, hN]
                refine (ok_centolaw24_same hy29).then ?_
                simp only [push_cast, seval, ↓reduceIte, cast_lit, c32, c33, hN0, hN]
                have hz25 := Option.some.inj hz25; subst hz25
                refine And.intro rfl (Fit2.of (fit_loc hU rfl rfl ?_) (by omega))
                simp only [push_cast, seval, ↓reduceIte, cast_lit, c32, c33, hN0, hN]
            · replace hz25 := condF c32 hz25
              rcases Bool.eq_false_or_eq_true (x2.Of != 1) with c35 | c35
              · replace hz25 := condT c35 hz25
                try rw [c35] at c32
                obtain ⟨y31, hy31, hz25⟩ := bC hz25
                refine W_regionD tab_ok [some false, some false, some false, some false, some false, some false, some false, some true, some true, some true, some true, some true, some true, some true, some true, some true, some true, some true] ?_
                simp only [push_cast, seval, ↓reduceIte, cast_lit, c32, c35, hN0, hN]
                refine (ok_centolaw24_same hy31).then ?_
                simp only [push_cast, seval, ↓reduceIte, cast_lit, c32, c35, hN0, hN]
                have hz25 := Option.some.inj hz25; subst hz25
                refine And.intro rfl (Fit2.of (fit_loc hU rfl rfl ?_) (by omega))
                simp only [push_cast, seval, ↓reduceIte, cast_lit, c32, c35, hN0, hN]
              · replace hz25 := condF c35 hz25
                try rw [c35] at c32
                refine W_regionD tab_ok [some false, some false, some false, some false, some false, some false, some false, some true, some true, some true, some true, some false, some false, some false, some false, some false, some false, some true] ?_
                simp only [push_cast, seval, ↓reduceIte, cast_lit, c32, c35, hN0, hN]
                have hz25 := Option.some.inj hz25; subst hz25
                refine And.intro rfl (Fit2.of (fit_loc hU rfl rfl ?_) (by omega))
                simp only [push_cast, seval, ↓reduceIte, cast_lit, c32, c35, hN0, hN]
          refine W_cond (t := z25) rfl (fun c36 => ?_) (fun c36 => ?_)
          · replace hs0_ := condT c36 hs0_
            refine W_sq [6] (W_regionD tab_ok [] ?_)
            simp only [push_cast, seval, ↓reduceIte, cast_lit, hN0, hN]
            refine W_ret ?_
            try simp only [gthen, gblock]
            have hs0_ := Option.some.inj hs0_; subst hs0_
            refine And.intro (fun h => by cases h) (And.intro rfl (Fit2.of (fit_loc hU rfl rfl ?_) (by omega)))
            simp only [push_cast, seval, ↓reduceIte, cast_lit, hN0, hN]
          · replace hs0_ := condF c36 hs0_
            refine W_skip ?_
            try simp only [gthen, gblock]
            refine W_drop [0, 1, 2, 7, 8, 10] [false] ?_
            simp only [push_cast, seval, ↓reduceIte]
            refine W_regionD tab_ok [] ?_
            simp only [push_cast, seval, ↓reduceIte, cast_lit, hN0, hN]
            refine W_drop [0, 1, 2, 7, 8] [false] ?_
            simp only [push_cast, seval, ↓reduceIte]
            refine W_regionD tab_ok [] ?_
            simp only [push_cast, seval, ↓reduceIte, cast_lit, hN0, hN]
            have hs0_ := Option.some.inj hs0_; subst hs0_
            refine And.intro rfl (Fit2.of (fit_loc hU rfl rfl ?_) (by omega))
            simp only [push_cast, seval, ↓reduceIte, cast_lit, hN0, hN]
    · replace hs0_ := condF c38 hs0_
      refine W_exit ?_
      try simp only [gthen, gblock, ↓reduceIte, Nat.reduceEqDiff]
      have hs0_ := Option.some.inj hs0_; subst hs0_
      refine And.intro (fun h => by cases h) (And.intro rfl (Fit2.of (fit_loc hU rfl rfl ?_) (by omega)))
      simp only [push_cast, seval, ↓reduceIte, cast_lit, hN0, hN]
  rcases z39 with z39 | z39
  · dsimp only [SumJ] at hw h
    refine W_blockR hw ?_
    try simp only [gthen, gblock, ↓reduceIte, Nat.reduceEqDiff]
    have h := Option.some.inj h; subst h
    refine fin_loc (.inr rfl) hU [.val (.bool false)] (by omega) ?_
    simp only [push_cast, seval, ↓reduceIte, cast_lit, Try.results37, hN0, hN]
  · dsimp only [SumJ] at hw h
    refine W_blockX hw ?_
    try simp only [gthen, gblock, ↓reduceIte, Nat.reduceEqDiff]
    refine W_drop [2, 7] [] ?_
    simp only [push_cast, seval, ↓reduceIte]
    refine W_sq [6] (W_regionD tab_ok [] ?_)
    simp only [push_cast, seval, ↓reduceIte, cast_lit, hN0, hN]
    refine W_ret ?_
    try simp only [gthen, gblock]
    have h := Option.some.inj h; subst h
    refine fin_loc (.inr rfl) hU [.val (.bool (z39 == (a2.length : Int)))] (by omega) ?_
    simp only [push_cast, seval, ↓reduceIte, cast_lit, Try.results37, hN0, hN]
theorem ok_centolaw24_AlignThrough {a0 : (List S_api_Op)} {a1 : (List S_api_Op)} {r : Bool} {O : Objs} {n : Nat} (h : m_centolaw24_AlignThrough a0 a1 = some r) : GTo Try.prog 9 [.sl a0.length (fl e_S_api_Op a0), .sl a1.length (fl e_S_api_Op a1)] O n (.val (.bool r)) O n := by
  unfold m_centolaw24_AlignThrough at h
  refine fn_of tab_ok Try.call9 Try.func9 rfl (Nat.le_of_ble_eq_true rfl) (Nat.le_refl _) fun hU => ?_
  have hN0 : O n = none := hU.fresh _ (Nat.le_refl _)
  have hN : ∀ k, O (n + k) = none := fun k => hU.fresh _ (Nat.le_add_right _ _)
  show W _ _ _ _ ⟨51, [], [(0, .sl a0.length (fl e_S_api_Op a0)), (1, .sl a1.length (fl e_S_api_Op a1))]⟩ (Loc O n []) _
  refine W_sq [0, 1] (W_regionD tab_ok [] ?_)
  simp only [push_cast, seval, ↓reduceIte, cast_lit, hN0, hN]
  refine W_seqK ?_
  obtain ⟨z3, hz3, h⟩ := bC h
  refine W_seqN (E' := ⟨51, [], [(0, .sl a0.length (fl e_S_api_Op a0)), (1, .sl a1.length (fl e_S_api_Op a1)), (16, .val (.bool z3))]⟩) (O' := (Loc O n [])) (n0 := n) ?_ ?_
  · obtain ⟨y6, hy6, hz3⟩ := bC hz3
    rcases Bool.eq_false_or_eq_true y6 with c8 | c8
    · replace hz3 := condT c8 hz3
      obtain ⟨y7, hy7, hz3⟩ := bC hz3
      refine W_regionD tab_ok [some true, some true, some true] ?_
      simp only [push_cast, seval, ↓reduceIte, cast_lit, c8, hN0, hN]
      refine (ok_centolaw24_steps hy6).then ?_
      simp only [push_cast, seval, ↓reduceIte, cast_lit, c8, hN0, hN]
      refine (ok_centolaw24_steps hy7).then ?_
      simp only [push_cast, seval, ↓reduceIte, cast_lit, c8, hN0, hN]
      have hz3 := Option.some.inj hz3; subst hz3
      refine And.intro rfl (Fit2.of (fit_loc hU rfl rfl ?_) (by omega))
      simp only [push_cast, seval, ↓reduceIte, cast_lit, c8, hN0, hN]
    · replace hz3 := condF c8 hz3
      refine W_regionD tab_ok [some false, some false, some false] ?_
      simp only [push_cast, seval, ↓reduceIte, cast_lit, c8, hN0, hN]
      refine (ok_centolaw24_steps hy6).then ?_
      simp only [push_cast, seval, ↓reduceIte, cast_lit, c8, hN0, hN]
      have hz3 := Option.some.inj hz3; subst hz3
      refine And.intro rfl (Fit2.of (fit_loc hU rfl rfl ?_) (by omega))
      simp only [push_cast, seval, ↓reduceIte, cast_lit, c8, hN0, hN]
  refine W_cond (t := z3) rfl (fun c37 => ?_) (fun c37 => ?_)
  · replace h := condT c37 h
    refine W_seqK ?_
    obtain ⟨y10, hy10, h⟩ := bC h
    refine W_regionD tab_ok [] ?_
    simp only [push_cast, seval, ↓reduceIte, cast_lit, hN0, hN]
    refine (ok_centolaw24_awake hy10).then ?_
    simp only [push_cast, seval, ↓reduceIte, cast_lit, hN0, hN]
    refine W_drop [4] [] ?_
    simp only [push_cast, seval, ↓reduceIte]
    refine W_ret ?_
    try simp only [gthen, gblock]
    have h := Option.some.inj h; subst h
    refine fin_loc (.inr rfl) hU [.val (.bool y10)] (by omega) ?_
    simp only [push_cast, seval, ↓reduceIte, cast_lit, Try.results9, hN0, hN]
  · replace h := condF c37 h
    refine W_skip ?_
    try simp only [gthen, gblock]
    refine W_drop [0, 1] [] ?_
    simp only [push_cast, seval, ↓reduceIte]
    refine W_seqK ?_
    obtain ⟨y12, hy12, h⟩ := bC h
    refine W_regionD tab_ok [] ?_
    simp only [push_cast, seval, ↓reduceIte, cast_lit, hN0, hN]
    refine (ok_align_Through hy12).then ?_
    simp only [push_cast, seval, ↓reduceIte, cast_lit, hN0, hN]
    refine W_drop [0, 1, 5, 6] [] ?_
    simp only [push_cast, seval, ↓reduceIte]
    refine W_seqK ?_
    obtain ⟨y16, hy16, h⟩ := bC h
    obtain ⟨y17, hy17, h⟩ := bC h
    obtain ⟨y18, hy18, h⟩ := bC h
    refine W_regionD tab_ok [] ?_
    simp only [push_cast, seval, ↓reduceIte, cast_lit, hN0, hN]
    refine (ok_centoref24_Units hy16).then ?_
    simp only [push_cast, seval, ↓reduceIte, cast_lit, hN0, hN]
    refine (ok_centoref24_Units hy17).then ?_
    simp only [push_cast, seval, ↓reduceIte, cast_lit, hN0, hN]
    refine (ok_centoref24_Pairs hy18).then ?_
    simp only [push_cast, seval, ↓reduceIte, cast_lit, hN0, hN]
    refine W_drop [5, 6, 7, 8] [] ?_
    simp only [push_cast, seval, ↓reduceIte]
    obtain ⟨z23, hz23, h⟩ := bC h
    refine W_seqN (E' := ⟨51, [], [(4, .val (.bool z23))]⟩) (O' := (Loc O n [])) (n0 := n) ?_ ?_
    · rcases Bool.eq_false_or_eq_true (y12.2 == y18.2) with c32 | c32
      · replace hz23 := condT c32 hz23
        rcases Bool.eq_false_or_eq_true y12.2 with c33 | c33
        · replace hz23 := condT c33 hz23
          try rw [c33] at c32
          obtain ⟨y28, hy28, hz23⟩ := bC hz23
          rcases Bool.eq_false_or_eq_true y28 with c34 | c34
          · replace hz23 := condT c34 hz23
            try rw [c34] at c32
            try rw [c34] at c33
            obtain ⟨y29, hy29, hz23⟩ := bC hz23
            refine W_regionD tab_ok [none, none, none, none, none, none, some true, some true, some true, some true] ?_
            simp only [push_cast, seval, ↓reduceIte, cast_lit, c32, c33, c34, hN0, hN]
            repeat (with_reducible refine And.intro (by first | (intro h0; simp only [h0, and_self]; done) | (intro h0; simp only [h0, Bool.not_false, Bool.not_true, Bool.true_and, Bool.and_true, true_and, and_true, and_self, imp_self, implies_true, bne_iff_ne, ne_eq, beq_iff_eq]; done) | (intros; simp_all; done) | exact True.intro) ?_)
            refine (ok_centolaw24_alike hy28).then ?_
            simp only [push_cast, seval, ↓reduceIte, cast_lit, c32, c33, c34, hN0, hN]
            repeat (with_reducible refine And.intro (by first | (intro h0; simp only [h0, and_self]; done) | (intro h0; simp only [h0, Bool.not_false, Bool.not_true, Bool.true_and, Bool.and_true, true_and, and_true, and_self, imp_self, implies_true, bne_iff_ne, ne_eq, beq_iff_eq]; done) | (intros; simp_all; done) | exact True.intro) ?_)
            refine (ok_centolaw24_awake hy29).then ?_
            simp only [push_cast, seval, ↓reduceIte, cast_lit, c32, c33, c34, hN0, hN]
            repeat (with_reducible refine And.intro (by first | (intro h0; simp only [h0, and_self]; done) | (intro h0; simp only [h0, Bool.not_false, Bool.not_true, Bool.true_and, Bool.and_true, true_and, and_true, and_self, imp_self, implies_true, bne_iff_ne, ne_eq, beq_iff_eq]; done) | (intros; simp_all; done) | exact True.intro) ?_)
            have hz23 := Option.some.inj hz23; subst hz23
            refine And.intro rfl (Fit2.of (fit_loc hU rfl rfl ?_) (by omega))
            simp only [push_cast, seval, ↓reduceIte, cast_lit, c32, c33, c34, hN0, hN]
          · replace hz23 := condF c34 hz23
            try rw [c34] at c32
            try rw [c34] at c33
            refine W_regionD tab_ok [none, none, none, none, none, none, some true, some true, some true, some false] ?_
            simp only [push_cast, seval, ↓reduceIte, cast_lit, c32, c33, c34, hN0, hN]
            repeat (with_reducible refine And.intro (by first | (intro h0; simp only [h0, and_self]; done) | (intro h0; simp only [h0, Bool.not_false, Bool.not_true, Bool.true_and, Bool.and_true, true_and, and_true, and_self, imp_self, implies_true, bne_iff_ne, ne_eq, beq_iff_eq]; done) | (intros; simp_all; done) | exact True.intro) ?_)
            refine (ok_centolaw24_alike hy28).then ?_
            simp only [push_cast, seval, ↓reduceIte, cast_lit, c32, c33, c34, hN0, hN]
            repeat (with_reducible refine And.intro (by first | (intro h0; simp only [h0, and_self]; done) | (intro h0; simp only [h0, Bool.not_false, Bool.not_true, Bool.true_and, Bool.and_true, true_and, and_true, and_self, imp_self, implies_true, bne_iff_ne, ne_eq, beq_iff_eq]; done) | (intros; simp_all; done) | exact True.intro) ?_)
            have hz23 := Option.some.inj hz23; subst hz23
            refine And.intro rfl (Fit2.of (fit_loc hU rfl rfl ?_) (by omega))
            simp only [push_cast, seval, ↓reduceIte, cast_lit, c32, c33, c34, hN0, hN]
        · replace hz23 := condF c33 hz23
          try rw [c33] at c32
          rcases Bool.eq_false_or_eq_true ((y12.1.length : Int) == 0) with c35 | c35
          · replace hz23 := condT c35 hz23
            try rw [c35] at c32
            try rw [c35] at c33
            obtain ⟨y30, hy30, hz23⟩ := bC hz23
            rcases Bool.eq_false_or_eq_true y30 with c36 | c36
            · replace hz23 := condT c36 hz23
              try rw [c36] at c32
              try rw [c36] at c33
              try rw [c36] at c35
              obtain ⟨y31, hy31, hz23⟩ := bC hz23
              refine W_regionD tab_ok [none, none, none, none, none, none, some true, some true, some true, some true] ?_
              simp only [push_cast, seval, ↓reduceIte, cast_lit, c32, c33, c35, c36, hN0, hN]
              repeat (with_reducible refine And.intro (by first | (intro h0; simp only [h0, and_self]; done) | (intro h0; simp only [h0, Bool.not_false, Bool.not_true, Bool.true_and, Bool.and_true, true_and, and_true, and_self, imp_self, implies_true, bne_iff_ne, ne_eq, beq_iff_eq]; done) | (intros; simp_all; done) | exact True.intro) ?_)
              refine (ok_centolaw24_alike hy30).then ?_
              simp only [push_cast, seval, ↓reduceIte, cast_lit, c32, c33, c35, c36, hN0, hN]
              repeat (with_reducible refine And.intro (by first | (intro h0; simp only [h0, and_self]; done) | (intro h0; simp only [h0, Bool.not_false, Bool.not_true, Bool.true_and, Bool.and_true, true_and, and_true, and_self, imp_self, implies_true, bne_iff_ne, ne_eq, beq_iff_eq]; done) | (intros; simp_all; done) | exact True.intro) ?_)
              refine (ok_centolaw24_awake hy31).then ?_
              simp only [push_cast, seval, ↓reduceIte, cast_lit, c32, c33, c35, c36, hN0, hN]
              repeat (with_reducible refine And.intro (by first | (intro h0; simp only [h0, and_self]; done) | (intro h0; simp only [h0, Bool.not_false, Bool.not_true, Bool.true_and, Bool.and_true, true_and, and_true, and_self, imp_self, implies_true, bne_iff_ne, ne_eq, beq_iff_eq]; done) | (intros; simp_all; done) | exact True.intro) ?_)
              have hz23 := Option.some.inj hz23; subst hz23
              refine And.intro rfl (Fit2.of (fit_loc hU rfl rfl ?_) (by omega))
              simp only [push_cast, seval, ↓reduceIte, cast_lit, c32, c33, c35, c36, hN0, hN]
            · replace hz23 := condF c36 hz23
              try rw [c36] at c32
              try rw [c36] at c33
              try rw [c36] at c35
              refine W_regionD tab_ok [none, none, none, none, none, none, some true, some true, some true, some false] ?_
              simp only [push_cast, seval, ↓reduceIte, cast_lit, c32, c33, c35, c36, hN0, hN]
              repeat (with_reducible refine And.intro (by first | (intro h0; simp only [h0, and_self]; done) | (intro h0; simp only [h0, Bool.not_false, Bool.not_true, Bool.true_and, Bool.and_true, true_and, and_true, and_self, imp_self, implies_true, bne_iff_ne, ne_eq, beq_iff_eq]; done) | (intros; simp_all; done) | exact True.intro) ?_)
              refine (ok_centolaw24_alike hy30).then ?_
              simp only [push_cast, seval, ↓reduceIte, cast_lit, c32, c33, c35, c36, hN0, hN]
              repeat (with_reducible refine And.intro (by first | (intro h0; simp only [h0, and_self]; done) | (intro h0; simp only [h0, Bool.not_false, Bool.not_true, Bool.true_and, Bool.and_true, true_and, and_true, and_self, imp_self, implies_true, bne_iff_ne, ne_eq, beq_iff_eq]; done) | (intros; simp_all; done) | exact True.intro) ?_)
              have hz23 := Option.some.inj hz23; subst hz23
              refine And.intro rfl (Fit2.of (fit_loc hU rfl rfl ?_) (by omega))
              simp only [push_cast, seval, ↓reduceIte, cast_lit, c32, c33, c35, c36, hN0, hN]
          · replace hz23 := condF c35 hz23
            try rw [c35] at c32
            try rw [c35] at c33
            refine W_regionD tab_ok [none, none, none, none, none, none, some false, some false, some false, some false] ?_
            simp only [push_cast, seval, ↓reduceIte, cast_lit, c32, c33, c35, hN0, hN]
            repeat (with_reducible refine And.intro (by first | (intro h0; simp only [h0, and_self]; done) | (intro h0; simp only [h0, Bool.not_false, Bool.not_true, Bool.true_and, Bool.and_true, true_and, and_true, and_self, imp_self, implies_true, bne_iff_ne, ne_eq, beq_iff_eq]; done) | (intros; simp_all; done) | exact True.intro) ?_)
            have hz23 := Option.some.inj hz23; subst hz23
            refine And.intro rfl (Fit2.of (fit_loc hU rfl rfl ?_) (by omega))
            simp only [push_cast, seval, ↓reduceIte, cast_lit, c32, c33, c35, hN0, hN]
      · replace hz23 := condF c32 hz23
        refine W_regionD tab_ok [none, none, none, none, none, none, some false, some false, some false, some false] ?_
        simp only [push_cast, seval, ↓reduceIte, cast_lit, c32, hN0, hN]
        repeat (with_reducible refine And.intro (by first | (intro h0; simp only [h0, and_self]; done) | (intro h0; simp only [h0, Bool.not_false, Bool.not_true, Bool.true_and, Bool.and_true, true_and, and_true, and_self, imp_self, implies_true, bne_iff_ne, ne_eq, beq_iff_eq]; done) | (intros; simp_all; done) | exact True.intro) ?_)
        have hz23 := Option.some.inj hz23; subst hz23
        refine And.intro rfl (Fit2.of (fit_loc hU rfl rfl ?_) (by omega))
        simp only [push_cast, seval, ↓reduceIte, cast_lit, c32, hN0, hN]
    refine W_ret ?_
    try simp only [gthen, gblock]
    have h := Option.some.inj h; subst h
    refine fin_loc (.inr rfl) hU [.val (.bool z23)] (by omega) ?_
    simp only [push_cast, seval, ↓reduceIte, cast_lit, Try.results9, hN0, hN]
end Go.Proofs.Ytbcgiaijjaocdaa
