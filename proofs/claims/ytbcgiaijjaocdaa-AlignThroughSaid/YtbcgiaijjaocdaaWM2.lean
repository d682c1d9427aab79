/- Part WM2 of this seat's mirrors: functions of the seat's program, and the plain functions that they are; each theorem bears its own conditions. -/
import Derived.Test.YtbcgiaijjaocdaaWE
import Derived.Test.YtbcgiaijjaocdaaWM1
namespace Go.Proofs.Ytbcgiaijjaocdaa
open Go.RowKit
set_option linter.unusedVariables false
set_option linter.unusedSimpArgs false
set_option maxRecDepth 100000
set_option maxHeartbeats 1000000
attribute [local push_cast] c_S_align_Piece c_S_api_Edit c_S_api_KidEdit c_S_api_Op c_S_api_Tree c_S_api_WordEdit c_S_centoref24_Unit gfork_t gfork_f pfork_t pfork_f gthen gblock gops_nil gops_plain gops_guard onW gwantB gcalm gact gpick gpickV strip evS wok calmOp Op.operands Call.operands gop onK onP atK List.all_cons List.all_nil Bool.and_true Bool.true_and Bool.and_self Value.oneCell' List.take_zero List.take_succ_cons List.take_nil List.drop_zero List.drop_succ_cons List.drop_nil List.append_nil Nat.add_zero Nat.zero_add gstep gputE ev look genv gbin geqS geqF gint gunary gconvert gload gcells gpart_lit gstore gcellsOf gput gplace_lit gfieldAddr gstepIn gindexAddr gindex gfield gopt bLo bHi bMx gextract galloc gbox gbuild gfill gplaces gbuildSlice gmake glen gappend gsrc gbuiltin gnil isLive gres gone prun_nil prun_plain prun_guard pop TK.isAgg G.one G.under G.unders List.getD_cons_zero List.getD_cons_succ List.set_cons_zero List.set_cons_succ List.map_cons List.map_nil List.toList_toArray Array.toList_append Option.toArray_none Option.toArray_some Array.toList_map Option.map_some Option.map_none Option.bind_some Option.bind_none List.getElem?_cons_zero List.getElem?_cons_succ List.getElem?_nil List.nil_append List.cons_append List.replicate_succ List.replicate_zero List.length_cons List.length_nil and_true true_and and_false false_and Bool.true_eq_false Bool.false_eq_true forall_const false_implies implies_true IntKind.bits if_true if_false ite_true ite_false eq_self true_implies false_or or_false or_true true_or not_true_eq_false not_false_eq_true decide_true decide_false decide_eq_true_eq decide_eq_false_iff_not beq_iff_eq bne_iff_ne ne_eq Bool.not_eq_true Bool.not_eq_false beq_eq_false_iff_ne bne_eq_false_iff_eq beq_self_eq_true bne_self_eq_false Option.some.injEq exists_eq_left' exists_eq_left ge_iff_le gt_iff_lt decide_not Bool.not_true Bool.not_false imp_self gquiet cond_true cond_false beqT beqF Bool.not_not Bool.and_false Bool.false_and Bool.or_true Bool.true_or Bool.or_false Bool.false_or Loc_at Loc_at0 Loc_upd Loc_upd0 Loc_push Loc_push0 Option.join_some Nat.add_assoc Int.toNat_natCast eI eB eS eL fl_nil gopsD_nil gopsD_plain gopsD_t gopsD_f gopsD_n onKD onWD prunD_nil prunD_plain prunD_t prunD_f prunD_n onPD fitO fitO1 sameO fitL fl_append fl_one List.length_append G.agg.injEq G.row.injEq G.ref.injEq G.val.injEq G.sl.injEq G.tup.injEq Value.int.injEq Value.bool.injEq Value.string.injEq List.cons.injEq exists_and_left exists_const List.flatten_cons List.flatten_nil Int.le_refl Nat.le_refl upd_updU Loc_out Loc_updo Bool.not_eq_true' Bool.not_eq_false' wkl_nil wkl_cons wk_any wk_val wk_agg wk_tup wk_sl wk_fn List.size_toArray renO renO1 G.ren G.rens renL rho_at rho_at0 gP_none gP_some strip_gP wok_gP one_gP G.fn.injEq wk_slnil wk_slrow wk_slrs wk_ip wk_ipref wk_row wk_rs wk_rp wk_ref locLt0 locLt Option.join_none upd_same fl_cons undef keepL Arr.len Arr.put_eq prunB_nil prunB_bar prunB_bart prunB_plain prunB_t prunB_f prunB_n onB onBP gcopy setI_len Loc_cat0 Loc_cat1 Loc_cat2 Loc_cat3 Loc_cat4 Loc_cat5 noObjs_at prunK_nil prunK_bar prunK_pass prunK_plain prunK_low prunK_pt prunK_pf prunK_lt prunK_lf onKg onKa onKp popL pickOps lows lowG prunK_shp prunK_fill popH shpOp fillOp fillG rho_low rens_app Loc_cat6 Loc_cat7 Loc_cat8 Loc_cat9 Loc_cat10 Loc_cat11 Loc_cat12 Loc_cat13 Loc_cat14 Loc_cat15 Loc_cat16 dropM tab2 tkind2 tab3 tkind3 tab4 tkind4 tab5 tkind5 tab6 tkind6 tab7 tkind7 tab8 tkind8 tab9 tkind9 tab10 tkind10 tab11 tkind11 tab12 tkind12 tab13 tkind13 tab14 tkind14 tab15 tkind15 tab16 tkind16 tab17 tkind17 tab18 tkind18 tab19 tkind19 tab21 tkind21 tab22 tkind22 tab23 tkind23 tab24 tkind24 tab25 tkind25 tab26 tkind26 tab27 tkind27 tab28 tkind28 tab29 tkind29 tab30 tkind30 tab46 tkind46 tab49 tkind49 tab52 tkind52 tab56 tkind56 tab57 tkind57 tab58 tkind58 tab62 tkind62 tab68 tkind68 tab69 tkind69 tab70 tkind70 tab71 tkind71 tab78 tkind78 tab79 tkind79 tab81 tkind81 tab82 tkind82 tab83 tkind83 tab84 tkind84 tab95 tkind95 tab99 tkind99 tab101 tkind101 tab102 tkind102 tab109 tkind109 tab110 tkind110 tab113 tkind113 tab123 tkind123 tab124 tkind124 tab132 tkind132 tab133 tkind133 tab136 tkind136 tab138 tkind138 tab139 tkind139 tab141 tkind141 tab142 tkind142 tab157 tkind157 tab159 tkind159 tab160 tkind160 tab165 tkind165 tab166 tkind166 tab167 tkind167 tab169 tkind169 tab170 tkind170 tab171 tkind171 e_S_api_Tree e0_eq_S_api_Tree wkl_eI_u64 wka_eI_u64 len_eI_u64 one_eI_u64 wkp_eI_u64 undp_eI_u64 rens_eI_u64 renp_eI_u64 und_eI_u64 wkl_e_S_api_Tree wka_e_S_api_Tree len_e_S_api_Tree one_e_S_api_Tree wkp_e_S_api_Tree undp_e_S_api_Tree rens_e_S_api_Tree renp_e_S_api_Tree und_e_S_api_Tree e_S_api_WordEdit e_S_api_Edit e_S_api_Op e_S_api_KidEdit e0_eq_S_api_Edit e0_eq_S_api_Op e0_eq_S_api_KidEdit wkl_e_S_api_WordEdit wka_e_S_api_WordEdit len_e_S_api_WordEdit one_e_S_api_WordEdit wkp_e_S_api_WordEdit undp_e_S_api_WordEdit rens_e_S_api_WordEdit renp_e_S_api_WordEdit und_e_S_api_WordEdit wkl_e_S_api_KidEdit wka_e_S_api_KidEdit len_e_S_api_KidEdit one_e_S_api_KidEdit wkp_e_S_api_KidEdit undp_e_S_api_KidEdit rens_e_S_api_KidEdit renp_e_S_api_KidEdit und_e_S_api_KidEdit wkl_e_S_api_Op wka_e_S_api_Op len_e_S_api_Op one_e_S_api_Op wkp_e_S_api_Op undp_e_S_api_Op rens_e_S_api_Op renp_e_S_api_Op und_e_S_api_Op wkl_eI_u8 wka_eI_u8 len_eI_u8 one_eI_u8 wkp_eI_u8 undp_eI_u8 rens_eI_u8 renp_eI_u8 und_eI_u8 e_S_align_cursor wkl_e_S_align_cursor wka_e_S_align_cursor len_e_S_align_cursor one_e_S_align_cursor wkp_e_S_align_cursor undp_e_S_align_cursor rens_e_S_align_cursor renp_e_S_align_cursor und_e_S_align_cursor e_S_align_Piece wkl_e_S_align_Piece wka_e_S_align_Piece len_e_S_align_Piece one_e_S_align_Piece wkp_e_S_align_Piece undp_e_S_align_Piece rens_e_S_align_Piece renp_e_S_align_Piece und_e_S_align_Piece e_S_centoref24_Unit wkl_e_S_centoref24_Unit wka_e_S_centoref24_Unit len_e_S_centoref24_Unit one_e_S_centoref24_Unit wkp_e_S_centoref24_Unit undp_e_S_centoref24_Unit rens_e_S_centoref24_Unit renp_e_S_centoref24_Unit und_e_S_centoref24_Unit e_S_centoref24_Pair wkl_e_S_centoref24_Pair wka_e_S_centoref24_Pair len_e_S_centoref24_Pair one_e_S_centoref24_Pair wkp_e_S_centoref24_Pair undp_e_S_centoref24_Pair rens_e_S_centoref24_Pair renp_e_S_centoref24_Pair und_e_S_centoref24_Pair
theorem okb_centoref20_Right {r_centoref20_Right : (S_api_Edit → Int → Option Bool)} {r_centoref20_op : (Int → S_api_Op → Int → Option Bool)} (ok_r_centoref20_Right : ∀ {a0 : S_api_Edit} {a1 : Int} {r : Bool} {O : Objs} {n : Nat}, r_centoref20_Right a0 a1 = some r → GTo Try.prog 39 [.agg (c_S_api_Edit a0), .val (.int .i64 a1)] O n (.val (.bool r)) O n) (ok_r_centoref20_op : ∀ {a0 : Int} {a1 : S_api_Op} {a2 : Int} {r : Bool} {O : Objs} {n : Nat}, r_centoref20_op a0 a1 a2 = some r → GTo Try.prog 69 [.val (.int .i64 a0), .agg (c_S_api_Op a1), .val (.int .i64 a2)] O n (.val (.bool r)) O n) {a0 : S_api_Edit} {a1 : Int} {r : Bool} {O : Objs} {n : Nat} (h : b_centoref20_Right r_centoref20_Right r_centoref20_op a0 a1 = some r) : GTo Try.prog 39 [.agg (c_S_api_Edit a0), .val (.int .i64 a1)] O n (.val (.bool r)) O n := by
  unfold b_centoref20_Right at h
  refine fn_of tab_ok Try.call39 Try.func39 rfl (Nat.le_of_ble_eq_true rfl) (Nat.le_refl _) fun hU => ?_
  have hN0 : O n = none := hU.fresh _ (Nat.le_refl _)
  have hN : ∀ k, O (n + k) = none := fun k => hU.fresh _ (Nat.le_add_right _ _)
  show W _ _ _ _ ⟨216, [], [(0, .agg (c_S_api_Edit a0)), (1, .val (.int .i64 a1))]⟩ (Loc O n []) _
  refine W_sq [1, 2] (W_regionD tab_ok [] ?_)
  simp only [push_cast, seval, ↓reduceIte, cast_lit, hN0, hN]
  refine W_seqK ?_
  refine W_sq [1, 2, 24] (W_regionD tab_ok [none, none, none, none, none, none] ?_)
  simp only [push_cast, seval, ↓reduceIte, cast_lit, hN0, hN]
  repeat (with_reducible refine And.intro (by first | (intro h0; simp only [h0, and_self]; done) | (intro h0; simp only [h0, Bool.not_false, Bool.not_true, Bool.true_and, Bool.and_true, true_and, and_true, and_self, imp_self, implies_true, bne_iff_ne, ne_eq, beq_iff_eq]; done) | (intros; simp_all; done) | exact True.intro) ?_)
  refine W_cond (t := (cond (cond (a1 == 0) true (decide (a0.Kind < 0))) true (decide (3 < a0.Kind)))) rfl (fun c58 => ?_) (fun c58 => ?_)
  · replace h := condT c58 h
    refine W_sq [4] (W_regionD tab_ok [] ?_)
    simp only [push_cast, seval, ↓reduceIte, cast_lit, hN0, hN]
    refine W_ret ?_
    try simp only [gthen, gblock]
    have h := Option.some.inj h; subst h
    refine fin_loc (.inr rfl) hU [.val (.bool false)] (by omega) ?_
    simp only [push_cast, seval, ↓reduceIte, cast_lit, Try.results39, hN0, hN]
  · replace h := condF c58 h
    refine W_skip ?_
    try simp only [gthen, gblock]
    refine W_drop [1, 2] [true] ?_
    simp only [push_cast, seval, ↓reduceIte]
    refine W_seqK ?_
    obtain ⟨z3, hz3, h⟩ := bC h
    refine W_seqN (E' := ⟨216, [], [(1, .val (.int .i64 a1)), (2, .ref n 0), (69, .val (.bool z3))]⟩) (O' := (Loc O n [some ⟨false, 30, 11, 1, (c_S_api_Edit a0)⟩])) (n0 := (n + 1)) ?_ ?_
    · rcases Bool.eq_false_or_eq_true (a0.Kind != 1) with c8 | c8
      · replace hz3 := condT c8 hz3
        obtain ⟨y6, hy6, hz3⟩ := bC hz3
        rcases Bool.eq_false_or_eq_true y6 with c9 | c9
        · replace hz3 := condT c9 hz3
          try rw [c9] at c8
          obtain ⟨y7, hy7, hz3⟩ := bC hz3
          refine W_regionD tab_ok [some true, some true, some true, some true, some true, some true, some true, some true, some true, none, none, none, none, none, none, none, none, none, none, none, none, none, none, none, none, none, none, none, none, none, none, none, none, none, none, none] ?_
          simp only [push_cast, seval, ↓reduceIte, cast_lit, c8, c9, hN0, hN]
          repeat (with_reducible refine And.intro (by first | (intro h0; simp only [h0, and_self]; done) | (intro h0; simp only [h0, Bool.not_false, Bool.not_true, Bool.true_and, Bool.and_true, true_and, and_true, and_self, imp_self, implies_true, bne_iff_ne, ne_eq, beq_iff_eq]; done) | (intros; simp_all; done) | exact True.intro) ?_)
          refine (ok_centoref20_none hy6).then ?_
          simp only [push_cast, seval, ↓reduceIte, cast_lit, c8, c9, hN0, hN]
          repeat (with_reducible refine And.intro (by first | (intro h0; simp only [h0, and_self]; done) | (intro h0; simp only [h0, Bool.not_false, Bool.not_true, Bool.true_and, Bool.and_true, true_and, and_true, and_self, imp_self, implies_true, bne_iff_ne, ne_eq, beq_iff_eq]; done) | (intros; simp_all; done) | exact True.intro) ?_)
          refine (ok_centoref20_none hy7).then ?_
          simp only [push_cast, seval, ↓reduceIte, cast_lit, c8, c9, hN0, hN]
          repeat (with_reducible refine And.intro (by first | (intro h0; simp only [h0, and_self]; done) | (intro h0; simp only [h0, Bool.not_false, Bool.not_true, Bool.true_and, Bool.and_true, true_and, and_true, and_self, imp_self, implies_true, bne_iff_ne, ne_eq, beq_iff_eq]; done) | (intros; simp_all; done) | exact True.intro) ?_)
          have hz3 := Option.some.inj hz3; subst hz3
          refine And.intro rfl (Fit2.of (fit_loc hU rfl rfl ?_) (by omega))
          simp only [push_cast, seval, ↓reduceIte, cast_lit, c8, c9, hN0, hN]
        · replace hz3 := condF c9 hz3
          try rw [c9] at c8
          refine W_regionD tab_ok [some true, some true, some true, some true, some false, some false, some false, some true, some true, some false, some false, some false, some false, some false, some false, some false, some false, some false, some false, some false, some false, some false, some false, some false, some false, some false, some false, some false, some false, some false, some false, some false, some false, some false, some false, some false] ?_
          simp only [push_cast, seval, ↓reduceIte, cast_lit, c8, c9, hN0, hN]
          refine (ok_centoref20_none hy6).then ?_
          simp only [push_cast, seval, ↓reduceIte, cast_lit, c8, c9, hN0, hN]
          have hz3 := Option.some.inj hz3; subst hz3
          refine And.intro rfl (Fit2.of (fit_loc hU rfl rfl ?_) (by omega))
          simp only [push_cast, seval, ↓reduceIte, cast_lit, c8, c9, hN0, hN]
      · replace hz3 := condF c8 hz3
        refine W_regionD tab_ok [some false, some false, some false, some false, some false, some false, some false, some false, some false, some true, some true, some true, some true, none, none, none, none, none, none, none, none, some true, none, none, none, none, none, none, none, none, none, none, none, none, none, none] ?_
        simp only [push_cast, seval, ↓reduceIte, cast_lit, c8, hN0, hN]
        repeat (with_reducible refine And.intro (by first | (intro h0; simp only [h0, and_self]; done) | (intro h0; simp only [h0, Bool.not_false, Bool.not_true, Bool.true_and, Bool.and_true, true_and, and_true, and_self, imp_self, implies_true, bne_iff_ne, ne_eq, beq_iff_eq]; done) | (intros; simp_all; done) | exact True.intro) ?_)
        have hz3 := Option.some.inj hz3; subst hz3
        refine And.intro rfl (Fit2.of (fit_loc hU rfl rfl ?_) (by omega))
        simp only [push_cast, seval, ↓reduceIte, cast_lit, c8, hN0, hN]
    refine W_cond (t := z3) rfl (fun c57 => ?_) (fun c57 => ?_)
    · replace h := condT c57 h
      refine W_sq [4] (W_regionD tab_ok [] ?_)
      simp only [push_cast, seval, ↓reduceIte, cast_lit, hN0, hN]
      refine W_ret ?_
      try simp only [gthen, gblock]
      have h := Option.some.inj h; subst h
      refine fin_loc (.inr rfl) hU [.val (.bool false)] (by omega) ?_
      simp only [push_cast, seval, ↓reduceIte, cast_lit, Try.results39, hN0, hN]
    · replace h := condF c57 h
      refine W_skip ?_
      try simp only [gthen, gblock]
      refine W_drop [1, 2] [true] ?_
      simp only [push_cast, seval, ↓reduceIte]
      refine W_seqK ?_
      refine W_sq [1, 2, 72] (W_regionD tab_ok [] ?_)
      simp only [push_cast, seval, ↓reduceIte, cast_lit, hN0, hN]
      refine W_cond (t := (a0.Kind == 1)) rfl (fun c56 => ?_) (fun c56 => ?_)
      · replace h := condT c56 h
        obtain ⟨z12, hz12, h⟩ := bC h
        refine W_seqN (E' := ⟨216, [], [(4, .val (.bool z12))]⟩) (O' := (Loc O n [none])) (n0 := (n + 1)) ?_ ?_
        · obtain ⟨y15, hy15, hz12⟩ := bC hz12
          rcases Bool.eq_false_or_eq_true y15 with c17 | c17
          · replace hz12 := condT c17 hz12
            obtain ⟨y16, hy16, hz12⟩ := bC hz12
            refine W_regionD tab_ok [some true, some true, some true, none, none, none, none, none, none, none, none] ?_
            simp only [push_cast, seval, ↓reduceIte, cast_lit, c17, hN0, hN]
            repeat (with_reducible refine And.intro (by first | (intro h0; simp only [h0, and_self]; done) | (intro h0; simp only [h0, Bool.not_false, Bool.not_true, Bool.true_and, Bool.and_true, true_and, and_true, and_self, imp_self, implies_true, bne_iff_ne, ne_eq, beq_iff_eq]; done) | (intros; simp_all; done) | exact True.intro) ?_)
            refine (ok_centoref07_Right hy15).then ?_
            simp only [push_cast, seval, ↓reduceIte, cast_lit, c17, hN0, hN]
            repeat (with_reducible refine And.intro (by first | (intro h0; simp only [h0, and_self]; done) | (intro h0; simp only [h0, Bool.not_false, Bool.not_true, Bool.true_and, Bool.and_true, true_and, and_true, and_self, imp_self, implies_true, bne_iff_ne, ne_eq, beq_iff_eq]; done) | (intros; simp_all; done) | exact True.intro) ?_)
            refine (ok_centoref07_Right hy16).then ?_
            simp only [push_cast, seval, ↓reduceIte, cast_lit, c17, hN0, hN]
            repeat (with_reducible refine And.intro (by first | (intro h0; simp only [h0, and_self]; done) | (intro h0; simp only [h0, Bool.not_false, Bool.not_true, Bool.true_and, Bool.and_true, true_and, and_true, and_self, imp_self, implies_true, bne_iff_ne, ne_eq, beq_iff_eq]; done) | (intros; simp_all; done) | exact True.intro) ?_)
            have hz12 := Option.some.inj hz12; subst hz12
            refine And.intro rfl (Fit2.of (fit_loc hU rfl rfl ?_) (by omega))
            simp only [push_cast, seval, ↓reduceIte, cast_lit, c17, hN0, hN]
          · replace hz12 := condF c17 hz12
            refine W_regionD tab_ok [some false, some false, some false, some false, some false, some false, some false, some false, some false, some false, some false] ?_
            simp only [push_cast, seval, ↓reduceIte, cast_lit, c17, hN0, hN]
            refine (ok_centoref07_Right hy15).then ?_
            simp only [push_cast, seval, ↓reduceIte, cast_lit, c17, hN0, hN]
            have hz12 := Option.some.inj hz12; subst hz12
            refine And.intro rfl (Fit2.of (fit_loc hU rfl rfl ?_) (by omega))
            simp only [push_cast, seval, ↓reduceIte, cast_lit, c17, hN0, hN]
        refine W_ret ?_
        try simp only [gthen, gblock]
        have h := Option.some.inj h; subst h
        refine fin_loc (.inr rfl) hU [.val (.bool z12)] (by omega) ?_
        simp only [push_cast, seval, ↓reduceIte, cast_lit, Try.results39, hN0, hN]
      · replace h := condF c56 h
        refine W_skip ?_
        try simp only [gthen, gblock]
        refine W_drop [1, 2] [true] ?_
        simp only [push_cast, seval, ↓reduceIte]
        refine W_sq [1, 2, 5] (W_regionD tab_ok [] ?_)
        simp only [push_cast, seval, ↓reduceIte, cast_lit, hN0, hN]
        refine W_seqK ?_
        refine W_sq [1, 2, 5, 6] (W_regionD tab_ok [] ?_)
        simp only [push_cast, seval, ↓reduceIte, cast_lit, hN0, hN]
        refine W_drop [1, 2, 5, 6] [true] ?_
        simp only [push_cast, seval, ↓reduceIte]
        obtain ⟨z33, hz33, h⟩ := bC h
        refine W_sumB (J := (SumJ (fun z33 => JR n (⟨216, [], [(4, .val (.bool false))]⟩ : Env) (Loc O n [none]) (n + 1)) (fun z33 => JX 0 n (⟨216, [], [(1, .val (.int .i64 a1)), (2, .ref n 0)]⟩ : Env) (Loc O n [some ⟨false, 30, 11, 1, (c_S_api_Edit a0)⟩]) (n + 1)))) (z := z33) ?_ fun hw => ?_
        · refine W_loopJ hz33 (fun s0_ => ⟨216, [], [(1, .val (.int .i64 a1)), (2, .ref n 0), (5, .val (.int .i64 s0_.1)), (6, .val (.int .i64 s0_.2))]⟩) (fun s0_ => (Loc O n [some ⟨false, 30, 11, 1, (c_S_api_Edit a0)⟩])) (SumJ (fun z33 => JR n (⟨216, [], [(4, .val (.bool false))]⟩ : Env) (Loc O n [none]) (n + 1)) (fun z33 => JX 0 n (⟨216, [], [(1, .val (.int .i64 a1)), (2, .ref n 0)]⟩ : Env) (Loc O n [some ⟨false, 30, 11, 1, (c_S_api_Edit a0)⟩]) (n + 1))) ?_
          intro s0_ x0_ hs0_
          unfold b_centoref20_Right_L0 at hs0_
          try dsimp only
          refine W_seqK ?_
          refine W_sq [1, 2, 5, 6, 97] (W_regionD tab_ok [] ?_)
          simp only [push_cast, seval, ↓reduceIte, cast_lit, hN0, hN]
          refine W_cond (t := (decide (s0_.2 < (a0.Words.length : Int)))) rfl (fun c32 => ?_) (fun c32 => ?_)
          · replace hs0_ := condT c32 hs0_
            refine W_skip ?_
            try simp only [gthen, gblock]
            refine W_drop [1, 2, 5, 6] [true] ?_
            simp only [push_cast, seval, ↓reduceIte]
            refine W_seqK ?_
            refine W_block ?_
            refine W_seqK ?_
            obtain ⟨x19, hx19, ax19, bx19, cx19, hs0_⟩ := bE (f := e_S_api_WordEdit) tab58 (fun _ => rfl) (by decide) hs0_
            refine W_regionD tab_ok [] ?_
            simp only [push_cast, Nat.reduceAdd, Nat.reduceSub, Nat.reduceMul, Nat.reduceLeDiff, Nat.reduceLT, Nat.reduceEqDiff, ↓reduceIte, reduceCtorEq, Int.reduceBEq, Int.reduceBNe, Nat.reduceBEq, Int.reduceLE, Int.reduceLT, Int.reduceEq, Int.reduceNe, Int.reduceNeg, Nat.reduceDiv, Nat.reduceMod, Nat.reducePow, cast_lit, ax19, bx19, cx19, hN0, hN]
            refine W_drop [1, 2, 5, 6, 7] [true, true] ?_
            simp only [push_cast, seval, ↓reduceIte]
            refine W_seqK ?_
            obtain ⟨z22, hz22, hs0_⟩ := bC hs0_
            refine W_seqN (E' := ⟨216, [], [(1, .val (.int .i64 a1)), (2, .ref n 0), (6, .val (.int .i64 s0_.2)), (7, .ref (n + 1) 0), (134, .val (.bool z22))]⟩) (O' := (Loc O n [some ⟨false, 30, 11, 1, (c_S_api_Edit a0)⟩, some ⟨false, 58, 4, 1, (c_S_api_WordEdit x19)⟩])) (n0 := (n + 2)) ?_ ?_
            · rcases Bool.eq_false_or_eq_true (decide (x19.At ≤ s0_.1)) with c27 | c27
              · replace hz22 := condT c27 hz22
                refine W_regionD tab_ok [none, none, none, none, none, none, some false, some false, some false, some false, some false, some false, some false, some false, some false, some false, some false, some false] ?_
                simp only [push_cast, seval, ↓reduceIte, cast_lit, c27, hN0, hN]
                repeat (with_reducible refine And.intro (by first | (intro h0; simp only [h0, and_self]; done) | (intro h0; simp only [h0, Bool.not_false, Bool.not_true, Bool.true_and, Bool.and_true, true_and, and_true, and_self, imp_self, implies_true, bne_iff_ne, ne_eq, beq_iff_eq]; done) | (intros; simp_all; done) | exact True.intro) ?_)
                have hz22 := Option.some.inj hz22; subst hz22
                refine And.intro rfl (Fit2.of (fit_loc hU rfl rfl ?_) (by omega))
                simp only [push_cast, seval, ↓reduceIte, cast_lit, c27, hN0, hN]
              · replace hz22 := condF c27 hz22
                rcases Bool.eq_false_or_eq_true (decide (65534 < x19.At)) with c28 | c28
                · replace hz22 := condT c28 hz22
                  try rw [c28] at c27
                  refine W_regionD tab_ok [none, none, none, none, none, none, some false, some false, some false, some false, some false, some false, some false, some false, some false, some false, some false, some false] ?_
                  simp only [push_cast, seval, ↓reduceIte, cast_lit, c27, c28, hN0, hN]
                  repeat (with_reducible refine And.intro (by first | (intro h0; simp only [h0, and_self]; done) | (intro h0; simp only [h0, Bool.not_false, Bool.not_true, Bool.true_and, Bool.and_true, true_and, and_true, and_self, imp_self, implies_true, bne_iff_ne, ne_eq, beq_iff_eq]; done) | (intros; simp_all; done) | exact True.intro) ?_)
                  have hz22 := Option.some.inj hz22; subst hz22
                  refine And.intro rfl (Fit2.of (fit_loc hU rfl rfl ?_) (by omega))
                  simp only [push_cast, seval, ↓reduceIte, cast_lit, c27, c28, hN0, hN]
                · replace hz22 := condF c28 hz22
                  try rw [c28] at c27
                  rcases Bool.eq_false_or_eq_true (x19.Mask == 0) with c29 | c29
                  · replace hz22 := condT c29 hz22
                    try rw [c29] at c27
                    try rw [c29] at c28
                    refine W_regionD tab_ok [none, none, none, none, none, none, some false, some false, some false, some false, some false, some false, some false, some false, some false, some false, some false, some false] ?_
                    simp only [push_cast, seval, ↓reduceIte, cast_lit, c27, c28, c29, hN0, hN]
                    repeat (with_reducible refine And.intro (by first | (intro h0; simp only [h0, and_self]; done) | (intro h0; simp only [h0, Bool.not_false, Bool.not_true, Bool.true_and, Bool.and_true, true_and, and_true, and_self, imp_self, implies_true, bne_iff_ne, ne_eq, beq_iff_eq]; done) | (intros; simp_all; done) | exact True.intro) ?_)
                    have hz22 := Option.some.inj hz22; subst hz22
                    refine And.intro rfl (Fit2.of (fit_loc hU rfl rfl ?_) (by omega))
                    simp only [push_cast, seval, ↓reduceIte, cast_lit, c27, c28, c29, hN0, hN]
                  · replace hz22 := condF c29 hz22
                    try rw [c29] at c27
                    try rw [c29] at c28
                    obtain ⟨y25, hy25, hz22⟩ := bC hz22
                    rcases Bool.eq_false_or_eq_true y25 with c30 | c30
                    · replace hz22 := condT c30 hz22
                      try rw [c30] at c27
                      try rw [c30] at c28
                      try rw [c30] at c29
                      obtain ⟨y26, hy26, hz22⟩ := bC hz22
                      refine W_regionD tab_ok [none, none, none, none, none, none, some true, some true, some true, some true, some true, some true, some true, some true, some true, some true, some true, some true] ?_
                      simp only [push_cast, seval, ↓reduceIte, cast_lit, c27, c28, c29, c30, hN0, hN]
                      repeat (with_reducible refine And.intro (by first | (intro h0; simp only [h0, and_self]; done) | (intro h0; simp only [h0, Bool.not_false, Bool.not_true, Bool.true_and, Bool.and_true, true_and, and_true, and_self, imp_self, implies_true, bne_iff_ne, ne_eq, beq_iff_eq]; done) | (intros; simp_all; done) | exact True.intro) ?_)
                      refine (ok_centoref20_within hy25).then ?_
                      simp only [push_cast, seval, ↓reduceIte, cast_lit, c27, c28, c29, c30, hN0, hN]
                      repeat (with_reducible refine And.intro (by first | (intro h0; simp only [h0, and_self]; done) | (intro h0; simp only [h0, Bool.not_false, Bool.not_true, Bool.true_and, Bool.and_true, true_and, and_true, and_self, imp_self, implies_true, bne_iff_ne, ne_eq, beq_iff_eq]; done) | (intros; simp_all; done) | exact True.intro) ?_)
                      refine (ok_centoref20_within hy26).then ?_
                      simp only [push_cast, seval, ↓reduceIte, cast_lit, c27, c28, c29, c30, hN0, hN]
                      repeat (with_reducible refine And.intro (by first | (intro h0; simp only [h0, and_self]; done) | (intro h0; simp only [h0, Bool.not_false, Bool.not_true, Bool.true_and, Bool.and_true, true_and, and_true, and_self, imp_self, implies_true, bne_iff_ne, ne_eq, beq_iff_eq]; done) | (intros; simp_all; done) | exact True.intro) ?_)
                      have hz22 := Option.some.inj hz22; subst hz22
                      refine And.intro rfl (Fit2.of (fit_loc hU rfl rfl ?_) (by omega))
                      simp only [push_cast, seval, ↓reduceIte, cast_lit, c27, c28, c29, c30, hN0, hN]
                    · replace hz22 := condF c30 hz22
                      try rw [c30] at c27
                      try rw [c30] at c28
                      try rw [c30] at c29
                      refine W_regionD tab_ok [none, none, none, none, none, none, some true, some true, some true, some true, some true, some true, some false, some false, some false, some false, some false, some false] ?_
                      simp only [push_cast, seval, ↓reduceIte, cast_lit, c27, c28, c29, c30, hN0, hN]
                      repeat (with_reducible refine And.intro (by first | (intro h0; simp only [h0, and_self]; done) | (intro h0; simp only [h0, Bool.not_false, Bool.not_true, Bool.true_and, Bool.and_true, true_and, and_true, and_self, imp_self, implies_true, bne_iff_ne, ne_eq, beq_iff_eq]; done) | (intros; simp_all; done) | exact True.intro) ?_)
                      refine (ok_centoref20_within hy25).then ?_
                      simp only [push_cast, seval, ↓reduceIte, cast_lit, c27, c28, c29, c30, hN0, hN]
                      repeat (with_reducible refine And.intro (by first | (intro h0; simp only [h0, and_self]; done) | (intro h0; simp only [h0, Bool.not_false, Bool.not_true, Bool.true_and, Bool.and_true, true_and, and_true, and_self, imp_self, implies_true, bne_iff_ne, ne_eq, beq_iff_eq]; done) | (intros; simp_all; done) | exact True.intro) ?_)
                      have hz22 := Option.some.inj hz22; subst hz22
                      refine And.intro rfl (Fit2.of (fit_loc hU rfl rfl ?_) (by omega))
                      simp only [push_cast, seval, ↓reduceIte, cast_lit, c27, c28, c29, c30, hN0, hN]
            refine W_cond (t := z22) rfl (fun c31 => ?_) (fun c31 => ?_)
            · replace hs0_ := condT c31 hs0_
              refine W_sq [4] (W_regionD tab_ok [] ?_)
              simp only [push_cast, seval, ↓reduceIte, cast_lit, hN0, hN]
              refine W_ret ?_
              try simp only [gthen, gblock]
              have hs0_ := Option.some.inj hs0_; subst hs0_
              refine And.intro (fun h => by cases h) (And.intro rfl (Fit2.of (fit_loc hU rfl rfl ?_) (by omega)))
              simp only [push_cast, seval, ↓reduceIte, cast_lit, hN0, hN]
            · replace hs0_ := condF c31 hs0_
              refine W_skip ?_
              try simp only [gthen, gblock]
              refine W_drop [1, 2, 6, 7] [true, true] ?_
              simp only [push_cast, seval, ↓reduceIte]
              refine W_regionD tab_ok [] ?_
              simp only [push_cast, seval, ↓reduceIte, cast_lit, hN0, hN]
              refine W_drop [1, 2, 5, 6] [true, false] ?_
              simp only [push_cast, seval, ↓reduceIte]
              refine W_regionD tab_ok [] ?_
              simp only [push_cast, seval, ↓reduceIte, cast_lit, hN0, hN]
              have hs0_ := Option.some.inj hs0_; subst hs0_
              refine And.intro rfl (Fit2.of (fit_loc hU rfl rfl ?_) (by omega))
              simp only [push_cast, seval, ↓reduceIte, cast_lit, hN0, hN]
          · replace hs0_ := condF c32 hs0_
            refine W_exit ?_
            try simp only [gthen, gblock, ↓reduceIte, Nat.reduceEqDiff]
            have hs0_ := Option.some.inj hs0_; subst hs0_
            refine And.intro (fun h => by cases h) (And.intro rfl (Fit2.of (fit_loc hU rfl rfl ?_) (by omega)))
            simp only [push_cast, seval, ↓reduceIte, cast_lit, hN0, hN]
        rcases z33 with z33 | z33
        · dsimp only [SumJ] at hw h
          refine W_blockR hw ?_
          try simp only [gthen, gblock, ↓reduceIte, Nat.reduceEqDiff]
          have h := Option.some.inj h; subst h
          refine fin_loc (.inr rfl) hU [.val (.bool false)] (by omega) ?_
          simp only [push_cast, seval, ↓reduceIte, cast_lit, Try.results39, hN0, hN]
        · dsimp only [SumJ] at hw h
          refine W_blockX hw ?_
          try simp only [gthen, gblock, ↓reduceIte, Nat.reduceEqDiff]
          refine W_drop [1, 2] [true] ?_
          simp only [push_cast, seval, ↓reduceIte]
          refine W_sq [1, 2, 5] (W_regionD tab_ok [] ?_)
          simp only [push_cast, seval, ↓reduceIte, cast_lit, hN0, hN]
          refine W_seqK ?_
          refine W_sq [1, 2, 5, 8] (W_regionD tab_ok [] ?_)
          simp only [push_cast, seval, ↓reduceIte, cast_lit, hN0, hN]
          refine W_drop [1, 2, 5, 8] [true] ?_
          simp only [push_cast, seval, ↓reduceIte]
          obtain ⟨z45, hz45, h⟩ := bC h
          refine W_sumB (J := (SumJ (fun z45 => JR n (⟨216, [], [(4, .val (.bool false))]⟩ : Env) (Loc O n [none]) (n + 1)) (fun z45 => JX 2 n (⟨216, [], [(1, .val (.int .i64 a1)), (2, .ref n 0)]⟩ : Env) (Loc O n [some ⟨false, 30, 11, 1, (c_S_api_Edit a0)⟩]) (n + 1)))) (z := z45) ?_ fun hw => ?_
          · refine W_loopJ hz45 (fun s1_ => ⟨216, [], [(1, .val (.int .i64 a1)), (2, .ref n 0), (5, .val (.int .i64 s1_.1)), (8, .val (.int .i64 s1_.2))]⟩) (fun s1_ => (Loc O n [some ⟨false, 30, 11, 1, (c_S_api_Edit a0)⟩])) (SumJ (fun z45 => JR n (⟨216, [], [(4, .val (.bool false))]⟩ : Env) (Loc O n [none]) (n + 1)) (fun z45 => JX 2 n (⟨216, [], [(1, .val (.int .i64 a1)), (2, .ref n 0)]⟩ : Env) (Loc O n [some ⟨false, 30, 11, 1, (c_S_api_Edit a0)⟩]) (n + 1))) ?_
            intro s1_ x1_ hs1_
            unfold b_centoref20_Right_L1 at hs1_
            try dsimp only
            refine W_seqK ?_
            refine W_sq [1, 2, 5, 8, 141] (W_regionD tab_ok [] ?_)
            simp only [push_cast, seval, ↓reduceIte, cast_lit, hN0, hN]
            refine W_cond (t := (decide (s1_.2 < (a0.Kids.length : Int)))) rfl (fun c44 => ?_) (fun c44 => ?_)
            · replace hs1_ := condT c44 hs1_
              refine W_skip ?_
              try simp only [gthen, gblock]
              refine W_drop [1, 2, 5, 8] [true] ?_
              simp only [push_cast, seval, ↓reduceIte]
              refine W_seqK ?_
              refine W_block ?_
              refine W_seqK ?_
              obtain ⟨x35, hx35, ax35, bx35, cx35, hs1_⟩ := bE (f := e_S_api_KidEdit) tab71 (fun _ => rfl) (by decide) hs1_
              refine W_regionD tab_ok [] ?_
              simp only [push_cast, Nat.reduceAdd, Nat.reduceSub, Nat.reduceMul, Nat.reduceLeDiff, Nat.reduceLT, Nat.reduceEqDiff, ↓reduceIte, reduceCtorEq, Int.reduceBEq, Int.reduceBNe, Nat.reduceBEq, Int.reduceLE, Int.reduceLT, Int.reduceEq, Int.reduceNe, Int.reduceNeg, Nat.reduceDiv, Nat.reduceMod, Nat.reducePow, cast_lit, ax35, bx35, cx35, hN0, hN]
              refine W_drop [1, 2, 5, 8, 9] [true, true] ?_
              simp only [push_cast, seval, ↓reduceIte]
              refine W_seqK ?_
              obtain ⟨z37, hz37, hs1_⟩ := bC hs1_
              refine W_seqN (E' := ⟨216, [], [(1, .val (.int .i64 a1)), (2, .ref n 0), (8, .val (.int .i64 s1_.2)), (9, .ref (n + 1) 0), (171, .val (.bool z37))]⟩) (O' := (Loc O n [some ⟨false, 30, 11, 1, (c_S_api_Edit a0)⟩, some ⟨false, 71, 12, 1, (c_S_api_KidEdit x35)⟩])) (n0 := (n + 2)) ?_ ?_
              · rcases Bool.eq_false_or_eq_true (decide (x35.At ≤ s1_.1)) with c40 | c40
                · replace hz37 := condT c40 hz37
                  refine W_regionD tab_ok [none, none, none, none, none, none, none, some false, some false, some false, some false, some false, some false] ?_
                  simp only [push_cast, seval, ↓reduceIte, cast_lit, c40, hN0, hN]
                  repeat (with_reducible refine And.intro (by first | (intro h0; simp only [h0, and_self]; done) | (intro h0; simp only [h0, Bool.not_false, Bool.not_true, Bool.true_and, Bool.and_true, true_and, and_true, and_self, imp_self, implies_true, bne_iff_ne, ne_eq, beq_iff_eq]; done) | (intros; simp_all; done) | exact True.intro) ?_)
                  have hz37 := Option.some.inj hz37; subst hz37
                  refine And.intro rfl (Fit2.of (fit_loc hU rfl rfl ?_) (by omega))
                  simp only [push_cast, seval, ↓reduceIte, cast_lit, c40, hN0, hN]
                · replace hz37 := condF c40 hz37
                  rcases Bool.eq_false_or_eq_true (decide (65534 < x35.At)) with c41 | c41
                  · replace hz37 := condT c41 hz37
                    try rw [c41] at c40
                    refine W_regionD tab_ok [none, none, none, none, none, none, none, some false, some false, some false, some false, some false, some false] ?_
                    simp only [push_cast, seval, ↓reduceIte, cast_lit, c40, c41, hN0, hN]
                    repeat (with_reducible refine And.intro (by first | (intro h0; simp only [h0, and_self]; done) | (intro h0; simp only [h0, Bool.not_false, Bool.not_true, Bool.true_and, Bool.and_true, true_and, and_true, and_self, imp_self, implies_true, bne_iff_ne, ne_eq, beq_iff_eq]; done) | (intros; simp_all; done) | exact True.intro) ?_)
                    have hz37 := Option.some.inj hz37; subst hz37
                    refine And.intro rfl (Fit2.of (fit_loc hU rfl rfl ?_) (by omega))
                    simp only [push_cast, seval, ↓reduceIte, cast_lit, c40, c41, hN0, hN]
                  · replace hz37 := condF c41 hz37
                    try rw [c41] at c40
                    rcases Bool.eq_false_or_eq_true (x35.E.Kind == 0) with c42 | c42
                    · replace hz37 := condT c42 hz37
                      try rw [c42] at c40
                      try rw [c42] at c41
                      refine W_regionD tab_ok [none, none, none, none, none, none, none, some false, some false, some false, some false, some false, some false] ?_
                      simp only [push_cast, seval, ↓reduceIte, cast_lit, c40, c41, c42, hN0, hN]
                      repeat (with_reducible refine And.intro (by first | (intro h0; simp only [h0, and_self]; done) | (intro h0; simp only [h0, Bool.not_false, Bool.not_true, Bool.true_and, Bool.and_true, true_and, and_true, and_self, imp_self, implies_true, bne_iff_ne, ne_eq, beq_iff_eq]; done) | (intros; simp_all; done) | exact True.intro) ?_)
                      have hz37 := Option.some.inj hz37; subst hz37
                      refine And.intro rfl (Fit2.of (fit_loc hU rfl rfl ?_) (by omega))
                      simp only [push_cast, seval, ↓reduceIte, cast_lit, c40, c41, c42, hN0, hN]
                    · replace hz37 := condF c42 hz37
                      try rw [c42] at c40
                      try rw [c42] at c41
                      obtain ⟨y39, hy39, hz37⟩ := bC hz37
                      refine W_regionD tab_ok [none, none, none, none, none, none, none, some true, some true, some true, some true, some true, some true] ?_
                      simp only [push_cast, seval, ↓reduceIte, cast_lit, c40, c41, c42, hN0, hN]
                      repeat (with_reducible refine And.intro (by first | (intro h0; simp only [h0, and_self]; done) | (intro h0; simp only [h0, Bool.not_false, Bool.not_true, Bool.true_and, Bool.and_true, true_and, and_true, and_self, imp_self, implies_true, bne_iff_ne, ne_eq, beq_iff_eq]; done) | (intros; simp_all; done) | exact True.intro) ?_)
                      refine (ok_r_centoref20_Right hy39).then ?_
                      simp only [push_cast, seval, ↓reduceIte, cast_lit, c40, c41, c42, hN0, hN]
                      repeat (with_reducible refine And.intro (by first | (intro h0; simp only [h0, and_self]; done) | (intro h0; simp only [h0, Bool.not_false, Bool.not_true, Bool.true_and, Bool.and_true, true_and, and_true, and_self, imp_self, implies_true, bne_iff_ne, ne_eq, beq_iff_eq]; done) | (intros; simp_all; done) | exact True.intro) ?_)
                      have hz37 := Option.some.inj hz37; subst hz37
                      refine And.intro rfl (Fit2.of (fit_loc hU rfl rfl ?_) (by omega))
                      simp only [push_cast, seval, ↓reduceIte, cast_lit, c40, c41, c42, hN0, hN]
              refine W_cond (t := z37) rfl (fun c43 => ?_) (fun c43 => ?_)
              · replace hs1_ := condT c43 hs1_
                refine W_sq [4] (W_regionD tab_ok [] ?_)
                simp only [push_cast, seval, ↓reduceIte, cast_lit, hN0, hN]
                refine W_ret ?_
                try simp only [gthen, gblock]
                have hs1_ := Option.some.inj hs1_; subst hs1_
                refine And.intro (fun h => by cases h) (And.intro rfl (Fit2.of (fit_loc hU rfl rfl ?_) (by omega)))
                simp only [push_cast, seval, ↓reduceIte, cast_lit, hN0, hN]
              · replace hs1_ := condF c43 hs1_
                refine W_skip ?_
                try simp only [gthen, gblock]
                refine W_drop [1, 2, 8, 9] [true, true] ?_
                simp only [push_cast, seval, ↓reduceIte]
                refine W_regionD tab_ok [] ?_
                simp only [push_cast, seval, ↓reduceIte, cast_lit, hN0, hN]
                refine W_drop [1, 2, 5, 8] [true, false] ?_
                simp only [push_cast, seval, ↓reduceIte]
                refine W_regionD tab_ok [] ?_
                simp only [push_cast, seval, ↓reduceIte, cast_lit, hN0, hN]
                have hs1_ := Option.some.inj hs1_; subst hs1_
                refine And.intro rfl (Fit2.of (fit_loc hU rfl rfl ?_) (by omega))
                simp only [push_cast, seval, ↓reduceIte, cast_lit, hN0, hN]
            · replace hs1_ := condF c44 hs1_
              refine W_exit ?_
              try simp only [gthen, gblock, ↓reduceIte, Nat.reduceEqDiff]
              have hs1_ := Option.some.inj hs1_; subst hs1_
              refine And.intro (fun h => by cases h) (And.intro rfl (Fit2.of (fit_loc hU rfl rfl ?_) (by omega)))
              simp only [push_cast, seval, ↓reduceIte, cast_lit, hN0, hN]
          rcases z45 with z45 | z45
          · dsimp only [SumJ] at hw h
            refine W_blockR hw ?_
            try simp only [gthen, gblock, ↓reduceIte, Nat.reduceEqDiff]
            have h := Option.some.inj h; subst h
            refine fin_loc (.inr rfl) hU [.val (.bool false)] (by omega) ?_
            simp only [push_cast, seval, ↓reduceIte, cast_lit, Try.results39, hN0, hN]
          · dsimp only [SumJ] at hw h
            refine W_blockX hw ?_
            try simp only [gthen, gblock, ↓reduceIte, Nat.reduceEqDiff]
            refine W_drop [1, 2] [true] ?_
            simp only [push_cast, seval, ↓reduceIte]
            refine W_seqK ?_
            refine W_sq [1, 2, 186] (W_regionD tab_ok [none, none, none, none, none, none, none, none] ?_)
            simp only [push_cast, seval, ↓reduceIte, cast_lit, hN0, hN]
            repeat (with_reducible refine And.intro (by first | (intro h0; simp only [h0, and_self]; done) | (intro h0; simp only [h0, Bool.not_false, Bool.not_true, Bool.true_and, Bool.and_true, true_and, and_true, and_self, imp_self, implies_true, bne_iff_ne, ne_eq, beq_iff_eq]; done) | (intros; simp_all; done) | exact True.intro) ?_)
            refine W_cond (t := (cond (a0.Kind == 3) (cond (decide (a0.List_ < 2)) true (decide (9 < a0.List_))) false)) rfl (fun c55 => ?_) (fun c55 => ?_)
            · replace h := condT c55 h
              refine W_sq [4] (W_regionD tab_ok [] ?_)
              simp only [push_cast, seval, ↓reduceIte, cast_lit, hN0, hN]
              refine W_ret ?_
              try simp only [gthen, gblock]
              have h := Option.some.inj h; subst h
              refine fin_loc (.inr rfl) hU [.val (.bool false)] (by omega) ?_
              simp only [push_cast, seval, ↓reduceIte, cast_lit, Try.results39, hN0, hN]
            · replace h := condF c55 h
              refine W_skip ?_
              try simp only [gthen, gblock]
              refine W_drop [1, 2] [true] ?_
              simp only [push_cast, seval, ↓reduceIte]
              refine W_seqK ?_
              refine W_sq [1, 2, 10] (W_regionD tab_ok [] ?_)
              simp only [push_cast, seval, ↓reduceIte, cast_lit, hN0, hN]
              refine W_drop [1, 2, 10] [true] ?_
              simp only [push_cast, seval, ↓reduceIte]
              obtain ⟨z52, hz52, h⟩ := bC h
              refine W_sumB (J := (SumJ (fun z52 => JR n (⟨216, [], [(4, .val (.bool false))]⟩ : Env) (Loc O n [none]) (n + 1)) (fun z52 => JX 4 n (⟨216, [], [(2, .ref n 0)]⟩ : Env) (Loc O n [some ⟨false, 30, 11, 1, (c_S_api_Edit a0)⟩]) (n + 1)))) (z := z52) ?_ fun hw => ?_
              · refine W_loopJ hz52 (fun s2_ => ⟨216, [], [(1, .val (.int .i64 a1)), (2, .ref n 0), (10, .val (.int .i64 s2_))]⟩) (fun s2_ => (Loc O n [some ⟨false, 30, 11, 1, (c_S_api_Edit a0)⟩])) (SumJ (fun z52 => JR n (⟨216, [], [(4, .val (.bool false))]⟩ : Env) (Loc O n [none]) (n + 1)) (fun z52 => JX 4 n (⟨216, [], [(2, .ref n 0)]⟩ : Env) (Loc O n [some ⟨false, 30, 11, 1, (c_S_api_Edit a0)⟩]) (n + 1))) ?_
                intro s2_ x2_ hs2_
                unfold b_centoref20_Right_L2 at hs2_
                try dsimp only
                refine W_seqK ?_
                refine W_sq [1, 2, 10, 191] (W_regionD tab_ok [] ?_)
                simp only [push_cast, seval, ↓reduceIte, cast_lit, hN0, hN]
                refine W_cond (t := (decide (s2_ < (a0.Ops.length : Int)))) rfl (fun c51 => ?_) (fun c51 => ?_)
                · replace hs2_ := condT c51 hs2_
                  refine W_skip ?_
                  try simp only [gthen, gblock]
                  refine W_drop [1, 2, 10] [true] ?_
                  simp only [push_cast, seval, ↓reduceIte]
                  refine W_seqK ?_
                  refine W_block ?_
                  refine W_seqK ?_
                  obtain ⟨x48, hx48, ax48, bx48, cx48, hs2_⟩ := bE (f := e_S_api_Op) tab69 (fun _ => rfl) (by decide) hs2_
                  obtain ⟨y49, hy49, hs2_⟩ := bC hs2_
                  refine W_drawD tab_ok (by kernel_rfl) [] (by kernel_rfl) ?_
                  simp only [push_cast, Nat.reduceAdd, Nat.reduceSub, Nat.reduceMul, Nat.reduceLeDiff, Nat.reduceLT, Nat.reduceEqDiff, ↓reduceIte, reduceCtorEq, Int.reduceBEq, Int.reduceBNe, Nat.reduceBEq, Int.reduceLE, Int.reduceLT, Int.reduceEq, Int.reduceNe, Int.reduceNeg, Nat.reduceDiv, Nat.reduceMod, Nat.reducePow, cast_lit, ax48, bx48, cx48, hN0, hN]
                  refine PCall.of (ok_r_centoref20_op hy49) ?_
                  simp only [push_cast, Nat.reduceAdd, Nat.reduceSub, Nat.reduceMul, Nat.reduceLeDiff, Nat.reduceLT, Nat.reduceEqDiff, ↓reduceIte, reduceCtorEq, Int.reduceBEq, Int.reduceBNe, Nat.reduceBEq, Int.reduceLE, Int.reduceLT, Int.reduceEq, Int.reduceNe, Int.reduceNeg, Nat.reduceDiv, Nat.reduceMod, Nat.reducePow, cast_lit, ax48, bx48, cx48, hN0, hN]
                  refine W_drop [1, 2, 10, 204] [true] ?_
                  simp only [push_cast, seval, ↓reduceIte]
                  refine W_cond (t := (!y49)) rfl (fun c50 => ?_) (fun c50 => ?_)
                  · replace hs2_ := condT c50 hs2_
                    refine W_sq [4] (W_regionD tab_ok [] ?_)
                    simp only [push_cast, seval, ↓reduceIte, cast_lit, hN0, hN]
                    refine W_ret ?_
                    try simp only [gthen, gblock]
                    have hs2_ := Option.some.inj hs2_; subst hs2_
                    refine And.intro (fun h => by cases h) (And.intro rfl (Fit2.of (fit_loc hU rfl rfl ?_) (by omega)))
                    simp only [push_cast, seval, ↓reduceIte, cast_lit, hN0, hN]
                  · replace hs2_ := condF c50 hs2_
                    refine W_skip ?_
                    try simp only [gthen, gblock]
                    refine W_drop [1, 2, 10] [true] ?_
                    simp only [push_cast, seval, ↓reduceIte]
                    refine W_regionD tab_ok [] ?_
                    simp only [push_cast, seval, ↓reduceIte, cast_lit, hN0, hN]
                    have hs2_ := Option.some.inj hs2_; subst hs2_
                    refine And.intro rfl (Fit2.of (fit_loc hU rfl rfl ?_) (by omega))
                    simp only [push_cast, seval, ↓reduceIte, cast_lit, hN0, hN]
                · replace hs2_ := condF c51 hs2_
                  refine W_exit ?_
                  try simp only [gthen, gblock, ↓reduceIte, Nat.reduceEqDiff]
                  have hs2_ := Option.some.inj hs2_; subst hs2_
                  refine And.intro (fun h => by cases h) (And.intro rfl (Fit2.of (fit_loc hU rfl rfl ?_) (by omega)))
                  simp only [push_cast, seval, ↓reduceIte, cast_lit, hN0, hN]
              rcases z52 with z52 | z52
              · dsimp only [SumJ] at hw h
                refine W_blockR hw ?_
                try simp only [gthen, gblock, ↓reduceIte, Nat.reduceEqDiff]
                have h := Option.some.inj h; subst h
                refine fin_loc (.inr rfl) hU [.val (.bool false)] (by omega) ?_
                simp only [push_cast, seval, ↓reduceIte, cast_lit, Try.results39, hN0, hN]
              · dsimp only [SumJ] at hw h
                refine W_blockX hw ?_
                try simp only [gthen, gblock, ↓reduceIte, Nat.reduceEqDiff]
                refine W_drop [2] [true] ?_
                simp only [push_cast, seval, ↓reduceIte]
                refine W_seqK ?_
                obtain ⟨y54, hy54, h⟩ := bC h
                refine W_regionD tab_ok [] ?_
                simp only [push_cast, seval, ↓reduceIte, cast_lit, hN0, hN]
                refine (ok_centoref20_Lengths hy54).then ?_
                simp only [push_cast, seval, ↓reduceIte, cast_lit, hN0, hN]
                refine W_drop [11, 12] [false] ?_
                simp only [push_cast, seval, ↓reduceIte]
                refine W_sq [4] (W_regionD tab_ok [none, none] ?_)
                simp only [push_cast, seval, ↓reduceIte, cast_lit, hN0, hN]
                repeat (with_reducible refine And.intro (by first | (intro h0; simp only [h0, and_self]; done) | (intro h0; simp only [h0, Bool.not_false, Bool.not_true, Bool.true_and, Bool.and_true, true_and, and_true, and_self, imp_self, implies_true, bne_iff_ne, ne_eq, beq_iff_eq]; done) | (intros; simp_all; done) | exact True.intro) ?_)
                refine W_ret ?_
                try simp only [gthen, gblock]
                have h := Option.some.inj h; subst h
                refine fin_loc (.inr rfl) hU [.val (.bool (cond (decide (y54.1 < 1048576)) (decide (y54.2 < 1048576)) false))] (by omega) ?_
                simp only [push_cast, seval, ↓reduceIte, cast_lit, Try.results39, hN0, hN]
theorem okb_centoref20_op {r_centoref20_Right : (S_api_Edit → Int → Option Bool)} {r_centoref20_op : (Int → S_api_Op → Int → Option Bool)} (ok_r_centoref20_Right : ∀ {a0 : S_api_Edit} {a1 : Int} {r : Bool} {O : Objs} {n : Nat}, r_centoref20_Right a0 a1 = some r → GTo Try.prog 39 [.agg (c_S_api_Edit a0), .val (.int .i64 a1)] O n (.val (.bool r)) O n) (ok_r_centoref20_op : ∀ {a0 : Int} {a1 : S_api_Op} {a2 : Int} {r : Bool} {O : Objs} {n : Nat}, r_centoref20_op a0 a1 a2 = some r → GTo Try.prog 69 [.val (.int .i64 a0), .agg (c_S_api_Op a1), .val (.int .i64 a2)] O n (.val (.bool r)) O n) {a0 : Int} {a1 : S_api_Op} {a2 : Int} {r : Bool} {O : Objs} {n : Nat} (h : b_centoref20_op r_centoref20_Right r_centoref20_op a0 a1 a2 = some r) : GTo Try.prog 69 [.val (.int .i64 a0), .agg (c_S_api_Op a1), .val (.int .i64 a2)] O n (.val (.bool r)) O n := by
  unfold b_centoref20_op at h
  refine fn_of tab_ok Try.call69 Try.func69 rfl (Nat.le_of_ble_eq_true rfl) (Nat.le_refl _) fun hU => ?_
  have hN0 : O n = none := hU.fresh _ (Nat.le_refl _)
  have hN : ∀ k, O (n + k) = none := fun k => hU.fresh _ (Nat.le_add_right _ _)
  show W _ _ _ _ ⟨121, [], [(0, .val (.int .i64 a0)), (1, .agg (c_S_api_Op a1)), (2, .val (.int .i64 a2))]⟩ (Loc O n []) _
  refine W_sq [0, 2, 4] (W_regionD tab_ok [] ?_)
  simp only [push_cast, seval, ↓reduceIte, cast_lit, hN0, hN]
  refine W_seqK ?_
  refine W_sq [0, 2, 4, 10] (W_regionD tab_ok [] ?_)
  simp only [push_cast, seval, ↓reduceIte, cast_lit, hN0, hN]
  refine W_cond (t := (a1.Kind == 0)) rfl (fun c30 => ?_) (fun c30 => ?_)
  · replace h := condT c30 h
    obtain ⟨z2, hz2, h⟩ := bC h
    refine W_seqN (E' := ⟨121, [], [(6, .val (.bool z2))]⟩) (O' := (Loc O n [none])) (n0 := (n + 1)) ?_ ?_
    · rcases Bool.eq_false_or_eq_true (decide (1 ≤ a1.N)) with c5 | c5
      · replace hz2 := condT c5 hz2
        rcases Bool.eq_false_or_eq_true (decide (a1.N ≤ 1048576)) with c6 | c6
        · replace hz2 := condT c6 hz2
          try rw [c6] at c5
          rcases Bool.eq_false_or_eq_true ((a1.L.length : Int) == 0) with c7 | c7
          · replace hz2 := condT c7 hz2
            try rw [c7] at c5
            try rw [c7] at c6
            obtain ⟨y4, hy4, hz2⟩ := bC hz2
            refine W_regionD tab_ok [none, none, none, none, none, none, none, some true, some true, some true] ?_
            simp only [push_cast, seval, ↓reduceIte, cast_lit, c5, c6, c7, hN0, hN]
            repeat (with_reducible refine And.intro (by first | (intro h0; simp only [h0, and_self]; done) | (intro h0; simp only [h0, Bool.not_false, Bool.not_true, Bool.true_and, Bool.and_true, true_and, and_true, and_self, imp_self, implies_true, bne_iff_ne, ne_eq, beq_iff_eq]; done) | (intros; simp_all; done) | exact True.intro) ?_)
            refine (ok_centoref20_same hy4).then ?_
            simp only [push_cast, seval, ↓reduceIte, cast_lit, c5, c6, c7, hN0, hN]
            repeat (with_reducible refine And.intro (by first | (intro h0; simp only [h0, and_self]; done) | (intro h0; simp only [h0, Bool.not_false, Bool.not_true, Bool.true_and, Bool.and_true, true_and, and_true, and_self, imp_self, implies_true, bne_iff_ne, ne_eq, beq_iff_eq]; done) | (intros; simp_all; done) | exact True.intro) ?_)
            have hz2 := Option.some.inj hz2; subst hz2
            refine And.intro rfl (Fit2.of (fit_loc hU rfl rfl ?_) (by omega))
            simp only [push_cast, seval, ↓reduceIte, cast_lit, c5, c6, c7, hN0, hN]
          · replace hz2 := condF c7 hz2
            try rw [c7] at c5
            try rw [c7] at c6
            refine W_regionD tab_ok [none, none, none, none, none, none, none, some false, some false, some false] ?_
            simp only [push_cast, seval, ↓reduceIte, cast_lit, c5, c6, c7, hN0, hN]
            repeat (with_reducible refine And.intro (by first | (intro h0; simp only [h0, and_self]; done) | (intro h0; simp only [h0, Bool.not_false, Bool.not_true, Bool.true_and, Bool.and_true, true_and, and_true, and_self, imp_self, implies_true, bne_iff_ne, ne_eq, beq_iff_eq]; done) | (intros; simp_all; done) | exact True.intro) ?_)
            have hz2 := Option.some.inj hz2; subst hz2
            refine And.intro rfl (Fit2.of (fit_loc hU rfl rfl ?_) (by omega))
            simp only [push_cast, seval, ↓reduceIte, cast_lit, c5, c6, c7, hN0, hN]
        · replace hz2 := condF c6 hz2
          try rw [c6] at c5
          refine W_regionD tab_ok [none, none, none, none, none, none, none, some false, some false, some false] ?_
          simp only [push_cast, seval, ↓reduceIte, cast_lit, c5, c6, hN0, hN]
          repeat (with_reducible refine And.intro (by first | (intro h0; simp only [h0, and_self]; done) | (intro h0; simp only [h0, Bool.not_false, Bool.not_true, Bool.true_and, Bool.and_true, true_and, and_true, and_self, imp_self, implies_true, bne_iff_ne, ne_eq, beq_iff_eq]; done) | (intros; simp_all; done) | exact True.intro) ?_)
          have hz2 := Option.some.inj hz2; subst hz2
          refine And.intro rfl (Fit2.of (fit_loc hU rfl rfl ?_) (by omega))
          simp only [push_cast, seval, ↓reduceIte, cast_lit, c5, c6, hN0, hN]
      · replace hz2 := condF c5 hz2
        refine W_regionD tab_ok [none, none, none, none, none, none, none, some false, some false, some false] ?_
        simp only [push_cast, seval, ↓reduceIte, cast_lit, c5, hN0, hN]
        repeat (with_reducible refine And.intro (by first | (intro h0; simp only [h0, and_self]; done) | (intro h0; simp only [h0, Bool.not_false, Bool.not_true, Bool.true_and, Bool.and_true, true_and, and_true, and_self, imp_self, implies_true, bne_iff_ne, ne_eq, beq_iff_eq]; done) | (intros; simp_all; done) | exact True.intro) ?_)
        have hz2 := Option.some.inj hz2; subst hz2
        refine And.intro rfl (Fit2.of (fit_loc hU rfl rfl ?_) (by omega))
        simp only [push_cast, seval, ↓reduceIte, cast_lit, c5, hN0, hN]
    refine W_ret ?_
    try simp only [gthen, gblock]
    have h := Option.some.inj h; subst h
    refine fin_loc (.inr rfl) hU [.val (.bool z2)] (by omega) ?_
    simp only [push_cast, seval, ↓reduceIte, cast_lit, Try.results69, hN0, hN]
  · replace h := condF c30 h
    refine W_skip ?_
    try simp only [gthen, gblock]
    refine W_drop [0, 2, 4] [true] ?_
    simp only [push_cast, seval, ↓reduceIte]
    refine W_seqK ?_
    refine W_sq [0, 2, 4, 42] (W_regionD tab_ok [none, none, none, none, none, none] ?_)
    simp only [push_cast, seval, ↓reduceIte, cast_lit, hN0, hN]
    repeat (with_reducible refine And.intro (by first | (intro h0; simp only [h0, and_self]; done) | (intro h0; simp only [h0, Bool.not_false, Bool.not_true, Bool.true_and, Bool.and_true, true_and, and_true, and_self, imp_self, implies_true, bne_iff_ne, ne_eq, beq_iff_eq]; done) | (intros; simp_all; done) | exact True.intro) ?_)
    refine W_cond (t := (cond (cond (a1.N != 0) true (decide (a1.Kind < 0))) true (decide (3 < a1.Kind)))) rfl (fun c29 => ?_) (fun c29 => ?_)
    · replace h := condT c29 h
      refine W_sq [6] (W_regionD tab_ok [] ?_)
      simp only [push_cast, seval, ↓reduceIte, cast_lit, hN0, hN]
      refine W_ret ?_
      try simp only [gthen, gblock]
      have h := Option.some.inj h; subst h
      refine fin_loc (.inr rfl) hU [.val (.bool false)] (by omega) ?_
      simp only [push_cast, seval, ↓reduceIte, cast_lit, Try.results69, hN0, hN]
    · replace h := condF c29 h
      refine W_skip ?_
      try simp only [gthen, gblock]
      refine W_drop [0, 2, 4] [true] ?_
      simp only [push_cast, seval, ↓reduceIte]
      refine W_seqK ?_
      refine W_sq [0, 2, 4, 45] (W_regionD tab_ok [] ?_)
      simp only [push_cast, seval, ↓reduceIte, cast_lit, hN0, hN]
      refine W_cond (t := (decide (a1.Kind < 3))) rfl (fun c28 => ?_) (fun c28 => ?_)
      · replace h := condT c28 h
        refine W_seqK ?_
        refine W_sq [0, 4, 7] (W_regionD tab_ok [] ?_)
        simp only [push_cast, seval, ↓reduceIte, cast_lit, hN0, hN]
        refine W_drop [0, 4, 7] [true] ?_
        simp only [push_cast, seval, ↓reduceIte]
        obtain ⟨z14, hz14, h⟩ := bC h
        refine W_sumB (J := (SumJ (fun z14 => JR n (⟨121, [], [(6, .val (.bool false))]⟩ : Env) (Loc O n [none]) (n + 1)) (fun z14 => JX 0 n (⟨121, [], [(4, .ref n 0)]⟩ : Env) (Loc O n [some ⟨false, 69, 14, 1, (c_S_api_Op a1)⟩]) (n + 1)))) (z := z14) ?_ fun hw => ?_
        · refine W_loopJ hz14 (fun s0_ => ⟨121, [], [(0, .val (.int .i64 a0)), (4, .ref n 0), (7, .val (.int .i64 s0_))]⟩) (fun s0_ => (Loc O n [some ⟨false, 69, 14, 1, (c_S_api_Op a1)⟩])) (SumJ (fun z14 => JR n (⟨121, [], [(6, .val (.bool false))]⟩ : Env) (Loc O n [none]) (n + 1)) (fun z14 => JX 0 n (⟨121, [], [(4, .ref n 0)]⟩ : Env) (Loc O n [some ⟨false, 69, 14, 1, (c_S_api_Op a1)⟩]) (n + 1))) ?_
          intro s0_ x0_ hs0_
          unfold b_centoref20_op_L0 at hs0_
          try dsimp only
          refine W_seqK ?_
          refine W_sq [0, 4, 7, 50] (W_regionD tab_ok [] ?_)
          simp only [push_cast, seval, ↓reduceIte, cast_lit, hN0, hN]
          refine W_cond (t := (decide (s0_ < (a1.L.length : Int)))) rfl (fun c13 => ?_) (fun c13 => ?_)
          · replace hs0_ := condT c13 hs0_
            refine W_skip ?_
            try simp only [gthen, gblock]
            refine W_drop [0, 4, 7] [true] ?_
            simp only [push_cast, seval, ↓reduceIte]
            refine W_seqK ?_
            refine W_block ?_
            refine W_seqK ?_
            obtain ⟨l10, al10, bl10, cl10, gl10, hs0_⟩ := bS (lo := (some (.i64, s0_))) (hi := (some (.i64, (IntKind.i64.wrap (s0_ + 1))))) (f := e_S_api_Tree) rfl rfl tkind23 tab25 (fun _ => rfl) hs0_
            obtain ⟨y11, hy11, hs0_⟩ := bC hs0_
            refine W_regionD tab_ok [] ?_
            simp only [push_cast, seval, ↓reduceIte, cast_lit, al10, bl10, cl10, gl10, hN0, hN]
            refine GCalls.argsW ?_ ((ok_centoref07_Right hy11).then ?_)
            · simp only [push_cast, seval, ↓reduceIte, cast_lit, al10, bl10, cl10, gl10, hN0, hN]
            simp only [push_cast, seval, ↓reduceIte, cast_lit, al10, bl10, cl10, gl10, hN0, hN]
            refine W_drop [0, 4, 7, 62] [true] ?_
            simp only [push_cast, seval, ↓reduceIte]
            refine W_cond (t := (!y11)) rfl (fun c12 => ?_) (fun c12 => ?_)
            · replace hs0_ := condT c12 hs0_
              refine W_sq [6] (W_regionD tab_ok [] ?_)
              simp only [push_cast, seval, ↓reduceIte, cast_lit, hN0, hN]
              refine W_ret ?_
              try simp only [gthen, gblock]
              have hs0_ := Option.some.inj hs0_; subst hs0_
              refine And.intro (fun h => by cases h) (And.intro rfl (Fit2.of (fit_loc hU rfl rfl ?_) (by omega)))
              simp only [push_cast, seval, ↓reduceIte, cast_lit, hN0, hN]
            · replace hs0_ := condF c12 hs0_
              refine W_skip ?_
              try simp only [gthen, gblock]
              refine W_drop [0, 4, 7] [true] ?_
              simp only [push_cast, seval, ↓reduceIte]
              refine W_regionD tab_ok [] ?_
              simp only [push_cast, seval, ↓reduceIte, cast_lit, hN0, hN]
              have hs0_ := Option.some.inj hs0_; subst hs0_
              refine And.intro rfl (Fit2.of (fit_loc hU rfl rfl ?_) (by omega))
              simp only [push_cast, seval, ↓reduceIte, cast_lit, hN0, hN]
          · replace hs0_ := condF c13 hs0_
            refine W_exit ?_
            try simp only [gthen, gblock, ↓reduceIte, Nat.reduceEqDiff]
            have hs0_ := Option.some.inj hs0_; subst hs0_
            refine And.intro (fun h => by cases h) (And.intro rfl (Fit2.of (fit_loc hU rfl rfl ?_) (by omega)))
            simp only [push_cast, seval, ↓reduceIte, cast_lit, hN0, hN]
        rcases z14 with z14 | z14
        · dsimp only [SumJ] at hw h
          refine W_blockR hw ?_
          try simp only [gthen, gblock, ↓reduceIte, Nat.reduceEqDiff]
          have h := Option.some.inj h; subst h
          refine fin_loc (.inr rfl) hU [.val (.bool false)] (by omega) ?_
          simp only [push_cast, seval, ↓reduceIte, cast_lit, Try.results69, hN0, hN]
        · dsimp only [SumJ] at hw h
          refine W_blockX hw ?_
          try simp only [gthen, gblock, ↓reduceIte, Nat.reduceEqDiff]
          refine W_drop [4] [true] ?_
          simp only [push_cast, seval, ↓reduceIte]
          obtain ⟨z16, hz16, h⟩ := bC h
          refine W_seqN (E' := ⟨121, [], [(6, .val (.bool z16))]⟩) (O' := (Loc O n [none])) (n0 := (n + 1)) ?_ ?_
          · rcases Bool.eq_false_or_eq_true (decide (0 < (a1.L.length : Int))) with c19 | c19
            · replace hz16 := condT c19 hz16
              obtain ⟨y18, hy18, hz16⟩ := bC hz16
              refine W_regionD tab_ok [some true, some true, some true] ?_
              simp only [push_cast, seval, ↓reduceIte, cast_lit, c19, hN0, hN]
              refine (ok_centoref20_same hy18).then ?_
              simp only [push_cast, seval, ↓reduceIte, cast_lit, c19, hN0, hN]
              have hz16 := Option.some.inj hz16; subst hz16
              refine And.intro rfl (Fit2.of (fit_loc hU rfl rfl ?_) (by omega))
              simp only [push_cast, seval, ↓reduceIte, cast_lit, c19, hN0, hN]
            · replace hz16 := condF c19 hz16
              refine W_regionD tab_ok [some false, some false, some false] ?_
              simp only [push_cast, seval, ↓reduceIte, cast_lit, c19, hN0, hN]
              have hz16 := Option.some.inj hz16; subst hz16
              refine And.intro rfl (Fit2.of (fit_loc hU rfl rfl ?_) (by omega))
              simp only [push_cast, seval, ↓reduceIte, cast_lit, c19, hN0, hN]
          refine W_ret ?_
          try simp only [gthen, gblock]
          have h := Option.some.inj h; subst h
          refine fin_loc (.inr rfl) hU [.val (.bool z16)] (by omega) ?_
          simp only [push_cast, seval, ↓reduceIte, cast_lit, Try.results69, hN0, hN]
      · replace h := condF c28 h
        refine W_skip ?_
        try simp only [gthen, gblock]
        refine W_drop [0, 2, 4] [true] ?_
        simp only [push_cast, seval, ↓reduceIte]
        refine W_seqK ?_
        obtain ⟨z21, hz21, h⟩ := bC h
        refine W_seqN (E' := ⟨121, [], [(0, .val (.int .i64 a0)), (4, .ref n 0), (92, .val (.bool z21))]⟩) (O' := (Loc O n [some ⟨false, 69, 14, 1, (c_S_api_Op a1)⟩])) (n0 := (n + 1)) ?_ ?_
        · rcases Bool.eq_false_or_eq_true (decide (0 < (a1.L.length : Int))) with c24 | c24
          · replace hz21 := condT c24 hz21
            refine W_regionD tab_ok [none, none, none, none, none, none, some false, some false, some false, some false, some false] ?_
            simp only [push_cast, seval, ↓reduceIte, cast_lit, c24, hN0, hN]
            repeat (with_reducible refine And.intro (by first | (intro h0; simp only [h0, and_self]; done) | (intro h0; simp only [h0, Bool.not_false, Bool.not_true, Bool.true_and, Bool.and_true, true_and, and_true, and_self, imp_self, implies_true, bne_iff_ne, ne_eq, beq_iff_eq]; done) | (intros; simp_all; done) | exact True.intro) ?_)
            have hz21 := Option.some.inj hz21; subst hz21
            refine And.intro rfl (Fit2.of (fit_loc hU rfl rfl ?_) (by omega))
            simp only [push_cast, seval, ↓reduceIte, cast_lit, c24, hN0, hN]
          · replace hz21 := condF c24 hz21
            rcases Bool.eq_false_or_eq_true (a1.E.Kind == 0) with c25 | c25
            · replace hz21 := condT c25 hz21
              try rw [c25] at c24
              refine W_regionD tab_ok [none, none, none, none, none, none, some false, some false, some false, some false, some false] ?_
              simp only [push_cast, seval, ↓reduceIte, cast_lit, c24, c25, hN0, hN]
              repeat (with_reducible refine And.intro (by first | (intro h0; simp only [h0, and_self]; done) | (intro h0; simp only [h0, Bool.not_false, Bool.not_true, Bool.true_and, Bool.and_true, true_and, and_true, and_self, imp_self, implies_true, bne_iff_ne, ne_eq, beq_iff_eq]; done) | (intros; simp_all; done) | exact True.intro) ?_)
              have hz21 := Option.some.inj hz21; subst hz21
              refine And.intro rfl (Fit2.of (fit_loc hU rfl rfl ?_) (by omega))
              simp only [push_cast, seval, ↓reduceIte, cast_lit, c24, c25, hN0, hN]
            · replace hz21 := condF c25 hz21
              try rw [c25] at c24
              rcases Bool.eq_false_or_eq_true (decide (a0 ≤ 7)) with c26 | c26
              · replace hz21 := condT c26 hz21
                try rw [c26] at c24
                try rw [c26] at c25
                refine W_regionD tab_ok [none, none, none, none, none, none, some false, some false, some false, some false, some false] ?_
                simp only [push_cast, seval, ↓reduceIte, cast_lit, c24, c25, c26, hN0, hN]
                repeat (with_reducible refine And.intro (by first | (intro h0; simp only [h0, and_self]; done) | (intro h0; simp only [h0, Bool.not_false, Bool.not_true, Bool.true_and, Bool.and_true, true_and, and_true, and_self, imp_self, implies_true, bne_iff_ne, ne_eq, beq_iff_eq]; done) | (intros; simp_all; done) | exact True.intro) ?_)
                have hz21 := Option.some.inj hz21; subst hz21
                refine And.intro rfl (Fit2.of (fit_loc hU rfl rfl ?_) (by omega))
                simp only [push_cast, seval, ↓reduceIte, cast_lit, c24, c25, c26, hN0, hN]
              · replace hz21 := condF c26 hz21
                try rw [c26] at c24
                try rw [c26] at c25
                obtain ⟨y23, hy23, hz21⟩ := bC hz21
                refine W_regionD tab_ok [none, none, none, none, none, none, some true, some true, some true, some true, some true] ?_
                simp only [push_cast, seval, ↓reduceIte, cast_lit, c24, c25, c26, hN0, hN]
                repeat (with_reducible refine And.intro (by first | (intro h0; simp only [h0, and_self]; done) | (intro h0; simp only [h0, Bool.not_false, Bool.not_true, Bool.true_and, Bool.and_true, true_and, and_true, and_self, imp_self, implies_true, bne_iff_ne, ne_eq, beq_iff_eq]; done) | (intros; simp_all; done) | exact True.intro) ?_)
                refine (ok_r_centoref20_Right hy23).then ?_
                simp only [push_cast, seval, ↓reduceIte, cast_lit, c24, c25, c26, hN0, hN]
                repeat (with_reducible refine And.intro (by first | (intro h0; simp only [h0, and_self]; done) | (intro h0; simp only [h0, Bool.not_false, Bool.not_true, Bool.true_and, Bool.and_true, true_and, and_true, and_self, imp_self, implies_true, bne_iff_ne, ne_eq, beq_iff_eq]; done) | (intros; simp_all; done) | exact True.intro) ?_)
                have hz21 := Option.some.inj hz21; subst hz21
                refine And.intro rfl (Fit2.of (fit_loc hU rfl rfl ?_) (by omega))
                simp only [push_cast, seval, ↓reduceIte, cast_lit, c24, c25, c26, hN0, hN]
        refine W_cond (t := z21) rfl (fun c27 => ?_) (fun c27 => ?_)
        · replace h := condT c27 h
          refine W_sq [6] (W_regionD tab_ok [] ?_)
          simp only [push_cast, seval, ↓reduceIte, cast_lit, hN0, hN]
          refine W_ret ?_
          try simp only [gthen, gblock]
          have h := Option.some.inj h; subst h
          refine fin_loc (.inr rfl) hU [.val (.bool false)] (by omega) ?_
          simp only [push_cast, seval, ↓reduceIte, cast_lit, Try.results69, hN0, hN]
        · replace h := condF c27 h
          refine W_skip ?_
          try simp only [gthen, gblock]
          refine W_drop [0, 4] [true] ?_
          simp only [push_cast, seval, ↓reduceIte]
          refine W_sq [6] (W_regionD tab_ok [none, none, none, none, none, none, none, none, none, none, none, none, none, none, none, none, none, none, none, none, none, none] ?_)
          simp only [push_cast, seval, ↓reduceIte, cast_lit, hN0, hN]
          repeat (with_reducible refine And.intro (by first | (intro h0; simp only [h0, and_self]; done) | (intro h0; simp only [h0, Bool.not_false, Bool.not_true, Bool.true_and, Bool.and_true, true_and, and_true, and_self, imp_self, implies_true, bne_iff_ne, ne_eq, beq_iff_eq]; done) | (intros; simp_all; done) | exact True.intro) ?_)
          refine W_ret ?_
          try simp only [gthen, gblock]
          have h := Option.some.inj h; subst h
          refine fin_loc (.inr rfl) hU [.val (.bool (cond (cond (a0 == 8) true (a1.E.Kind == 2)) true (cond (cond (a1.E.Kind == 1) (a1.E.Old.Kind == 1) false) (a1.E.New.Kind == 1) false)))] (by omega) ?_
          simp only [push_cast, seval, ↓reduceIte, cast_lit, Try.results69, hN0, hN]
theorem lv_centoref20_Right_ok : ∀ k, (∀ {a0 : S_api_Edit} {a1 : Int} {r : Bool} {O : Objs} {n : Nat}, (lv_centoref20_Right k).1 a0 a1 = some r → GTo Try.prog 39 [.agg (c_S_api_Edit a0), .val (.int .i64 a1)] O n (.val (.bool r)) O n) ∧ (∀ {a0 : Int} {a1 : S_api_Op} {a2 : Int} {r : Bool} {O : Objs} {n : Nat}, (lv_centoref20_Right k).2 a0 a1 a2 = some r → GTo Try.prog 69 [.val (.int .i64 a0), .agg (c_S_api_Op a1), .val (.int .i64 a2)] O n (.val (.bool r)) O n) := fun k => by
  induction k with
  | zero => exact ⟨@fun a0 a1 r O n h => (nomatch (show (none : Option _) = some _ from h)), @fun a0 a1 a2 r O n h => (nomatch (show (none : Option _) = some _ from h))⟩
  | succ k ih => exact ⟨@fun a0 a1 r O n h => okb_centoref20_Right (ih.1) (ih.2)  h, @fun a0 a1 a2 r O n h => okb_centoref20_op (ih.1) (ih.2)  h⟩
theorem ok_centoref20_Right {a0 : S_api_Edit} {a1 : Int} {r : Bool} {O : Objs} {n : Nat} (h : m_centoref20_Right a0 a1 = some r) : GTo Try.prog 39 [.agg (c_S_api_Edit a0), .val (.int .i64 a1)] O n (.val (.bool r)) O n := by
  obtain ⟨k, hk⟩ := lim_some h
  exact (lv_centoref20_Right_ok k).1  hk
theorem okb_centoref20_Light {r_centoref20_Light : (S_api_Edit → Option Bool)} (ok_r_centoref20_Light : ∀ {a0 : S_api_Edit} {r : Bool} {O : Objs} {n : Nat}, r_centoref20_Light a0 = some r → GTo Try.prog 50 [.agg (c_S_api_Edit a0)] O n (.val (.bool r)) O n) {a0 : S_api_Edit} {r : Bool} {O : Objs} {n : Nat} (h : b_centoref20_Light r_centoref20_Light a0 = some r) : GTo Try.prog 50 [.agg (c_S_api_Edit a0)] O n (.val (.bool r)) O n := by
  unfold b_centoref20_Light at h
  refine fn_of tab_ok Try.call50 Try.func50 rfl (Nat.le_of_ble_eq_true rfl) (Nat.le_refl _) fun hU => ?_
  have hN0 : O n = none := hU.fresh _ (Nat.le_refl _)
  have hN : ∀ k, O (n + k) = none := fun k => hU.fresh _ (Nat.le_add_right _ _)
  show W _ _ _ _ ⟨48, [], [(0, .agg (c_S_api_Edit a0))]⟩ (Loc O n []) _
  refine W_sq [1] (W_regionD tab_ok [] ?_)
  simp only [push_cast, seval, ↓reduceIte, cast_lit, hN0, hN]
  refine W_seqK ?_
  obtain ⟨y2, hy2, h⟩ := bC h
  refine W_regionD tab_ok [] ?_
  simp only [push_cast, seval, ↓reduceIte, cast_lit, hN0, hN]
  refine (ok_centoref20_Lengths hy2).then ?_
  simp only [push_cast, seval, ↓reduceIte, cast_lit, hN0, hN]
  refine W_drop [1, 3, 4] [true] ?_
  simp only [push_cast, seval, ↓reduceIte]
  refine W_seqK ?_
  refine W_sq [1, 17] (W_regionD tab_ok [none, none] ?_)
  simp only [push_cast, seval, ↓reduceIte, cast_lit, hN0, hN]
  repeat (with_reducible refine And.intro (by first | (intro h0; simp only [h0, and_self]; done) | (intro h0; simp only [h0, Bool.not_false, Bool.not_true, Bool.true_and, Bool.and_true, true_and, and_true, and_self, imp_self, implies_true, bne_iff_ne, ne_eq, beq_iff_eq]; done) | (intros; simp_all; done) | exact True.intro) ?_)
  refine W_cond (t := (cond (decide (2000 < y2.1)) true (decide (2000 < y2.2)))) rfl (fun c21 => ?_) (fun c21 => ?_)
  · replace h := condT c21 h
    refine W_sq [2] (W_regionD tab_ok [] ?_)
    simp only [push_cast, seval, ↓reduceIte, cast_lit, hN0, hN]
    refine W_ret ?_
    try simp only [gthen, gblock]
    have h := Option.some.inj h; subst h
    refine fin_loc (.inr rfl) hU [.val (.bool false)] (by omega) ?_
    simp only [push_cast, seval, ↓reduceIte, cast_lit, Try.results50, hN0, hN]
  · replace h := condF c21 h
    refine W_skip ?_
    try simp only [gthen, gblock]
    refine W_drop [1] [true] ?_
    simp only [push_cast, seval, ↓reduceIte]
    refine W_seqK ?_
    refine W_sq [1, 5] (W_regionD tab_ok [] ?_)
    simp only [push_cast, seval, ↓reduceIte, cast_lit, hN0, hN]
    refine W_drop [1, 5] [true] ?_
    simp only [push_cast, seval, ↓reduceIte]
    obtain ⟨z11, hz11, h⟩ := bC h
    refine W_sumB (J := (SumJ (fun z11 => JR n (⟨48, [], [(2, .val (.bool false))]⟩ : Env) (Loc O n [none]) (n + 1)) (fun z11 => JX 0 n (⟨48, [], [(1, .ref n 0)]⟩ : Env) (Loc O n [some ⟨false, 30, 11, 1, (c_S_api_Edit a0)⟩]) (n + 1)))) (z := z11) ?_ fun hw => ?_
    · refine W_loopJ hz11 (fun s0_ => ⟨48, [], [(1, .ref n 0), (5, .val (.int .i64 s0_))]⟩) (fun s0_ => (Loc O n [some ⟨false, 30, 11, 1, (c_S_api_Edit a0)⟩])) (SumJ (fun z11 => JR n (⟨48, [], [(2, .val (.bool false))]⟩ : Env) (Loc O n [none]) (n + 1)) (fun z11 => JX 0 n (⟨48, [], [(1, .ref n 0)]⟩ : Env) (Loc O n [some ⟨false, 30, 11, 1, (c_S_api_Edit a0)⟩]) (n + 1))) ?_
      intro s0_ x0_ hs0_
      unfold b_centoref20_Light_L0 at hs0_
      try dsimp only
      refine W_seqK ?_
      refine W_sq [1, 5, 22] (W_regionD tab_ok [] ?_)
      simp only [push_cast, seval, ↓reduceIte, cast_lit, hN0, hN]
      refine W_cond (t := (decide (s0_ < (a0.Kids.length : Int)))) rfl (fun c10 => ?_) (fun c10 => ?_)
      · replace hs0_ := condT c10 hs0_
        refine W_skip ?_
        try simp only [gthen, gblock]
        refine W_drop [1, 5] [true] ?_
        simp only [push_cast, seval, ↓reduceIte]
        refine W_seqK ?_
        refine W_block ?_
        refine W_seqK ?_
        obtain ⟨x6, hx6, ax6, bx6, cx6, hs0_⟩ := bE (f := e_S_api_KidEdit) tab71 (fun _ => rfl) (by decide) hs0_
        have g7 := gpart_fld (f := e_S_api_KidEdit) (off := 1) (sz := 12) tab30 (fun _ => rfl) (by decide) (by decide) hx6
        obtain ⟨y8, hy8, hs0_⟩ := bC hs0_
        refine W_regionD tab_ok [] ?_
        simp only [push_cast, Nat.reduceAdd, Nat.reduceSub, Nat.reduceMul, Nat.reduceLeDiff, Nat.reduceLT, Nat.reduceEqDiff, ↓reduceIte, reduceCtorEq, Int.reduceBEq, Int.reduceBNe, Nat.reduceBEq, Int.reduceLE, Int.reduceLT, Int.reduceEq, Int.reduceNe, Int.reduceNeg, Nat.reduceDiv, Nat.reduceMod, Nat.reducePow, cast_lit, ax6, bx6, cx6, g7, hN0, hN]
        refine (ok_r_centoref20_Light hy8).then ?_
        simp only [push_cast, Nat.reduceAdd, Nat.reduceSub, Nat.reduceMul, Nat.reduceLeDiff, Nat.reduceLT, Nat.reduceEqDiff, ↓reduceIte, reduceCtorEq, Int.reduceBEq, Int.reduceBNe, Nat.reduceBEq, Int.reduceLE, Int.reduceLT, Int.reduceEq, Int.reduceNe, Int.reduceNeg, Nat.reduceDiv, Nat.reduceMod, Nat.reducePow, cast_lit, ax6, bx6, cx6, g7, hN0, hN]
        refine W_drop [1, 5, 32] [true] ?_
        simp only [push_cast, seval, ↓reduceIte]
        refine W_cond (t := (!y8)) rfl (fun c9 => ?_) (fun c9 => ?_)
        · replace hs0_ := condT c9 hs0_
          refine W_sq [2] (W_regionD tab_ok [] ?_)
          simp only [push_cast, seval, ↓reduceIte, cast_lit, hN0, hN]
          refine W_ret ?_
          try simp only [gthen, gblock]
          have hs0_ := Option.some.inj hs0_; subst hs0_
          refine And.intro (fun h => by cases h) (And.intro rfl (Fit2.of (fit_loc hU rfl rfl ?_) (by omega)))
          simp only [push_cast, seval, ↓reduceIte, cast_lit, hN0, hN]
        · replace hs0_ := condF c9 hs0_
          refine W_skip ?_
          try simp only [gthen, gblock]
          refine W_drop [1, 5] [true] ?_
          simp only [push_cast, seval, ↓reduceIte]
          refine W_regionD tab_ok [] ?_
          simp only [push_cast, seval, ↓reduceIte, cast_lit, hN0, hN]
          have hs0_ := Option.some.inj hs0_; subst hs0_
          refine And.intro rfl (Fit2.of (fit_loc hU rfl rfl ?_) (by omega))
          simp only [push_cast, seval, ↓reduceIte, cast_lit, hN0, hN]
      · replace hs0_ := condF c10 hs0_
        refine W_exit ?_
        try simp only [gthen, gblock, ↓reduceIte, Nat.reduceEqDiff]
        have hs0_ := Option.some.inj hs0_; subst hs0_
        refine And.intro (fun h => by cases h) (And.intro rfl (Fit2.of (fit_loc hU rfl rfl ?_) (by omega)))
        simp only [push_cast, seval, ↓reduceIte, cast_lit, hN0, hN]
    rcases z11 with z11 | z11
    · dsimp only [SumJ] at hw h
      refine W_blockR hw ?_
      try simp only [gthen, gblock, ↓reduceIte, Nat.reduceEqDiff]
      have h := Option.some.inj h; subst h
      refine fin_loc (.inr rfl) hU [.val (.bool false)] (by omega) ?_
      simp only [push_cast, seval, ↓reduceIte, cast_lit, Try.results50, hN0, hN]
    · dsimp only [SumJ] at hw h
      refine W_blockX hw ?_
      try simp only [gthen, gblock, ↓reduceIte, Nat.reduceEqDiff]
      refine W_drop [1] [true] ?_
      simp only [push_cast, seval, ↓reduceIte]
      refine W_seqK ?_
      refine W_sq [1, 6] (W_regionD tab_ok [] ?_)
      simp only [push_cast, seval, ↓reduceIte, cast_lit, hN0, hN]
      refine W_drop [1, 6] [true] ?_
      simp only [push_cast, seval, ↓reduceIte]
      obtain ⟨z20, hz20, h⟩ := bC h
      refine W_sumB (J := (SumJ (fun z20 => JR n (⟨48, [], [(2, .val (.bool false))]⟩ : Env) (Loc O n [none]) (n + 1)) (fun z20 => JX 2 n (⟨48, [], []⟩ : Env) (Loc O n [none]) (n + 1)))) (z := z20) ?_ fun hw => ?_
      · refine W_loopJ hz20 (fun s1_ => ⟨48, [], [(1, .ref n 0), (6, .val (.int .i64 s1_))]⟩) (fun s1_ => (Loc O n [some ⟨false, 30, 11, 1, (c_S_api_Edit a0)⟩])) (SumJ (fun z20 => JR n (⟨48, [], [(2, .val (.bool false))]⟩ : Env) (Loc O n [none]) (n + 1)) (fun z20 => JX 2 n (⟨48, [], []⟩ : Env) (Loc O n [none]) (n + 1))) ?_
        intro s1_ x1_ hs1_
        unfold b_centoref20_Light_L1 at hs1_
        try dsimp only
        refine W_seqK ?_
        refine W_sq [1, 6, 37] (W_regionD tab_ok [] ?_)
        simp only [push_cast, seval, ↓reduceIte, cast_lit, hN0, hN]
        refine W_cond (t := (decide (s1_ < (a0.Ops.length : Int)))) rfl (fun c19 => ?_) (fun c19 => ?_)
        · replace hs1_ := condT c19 hs1_
          refine W_skip ?_
          try simp only [gthen, gblock]
          refine W_drop [1, 6] [true] ?_
          simp only [push_cast, seval, ↓reduceIte]
          refine W_seqK ?_
          refine W_block ?_
          refine W_seqK ?_
          obtain ⟨x15, hx15, ax15, bx15, cx15, hs1_⟩ := bE (f := e_S_api_Op) tab69 (fun _ => rfl) (by decide) hs1_
          have g16 := gpart_fld (f := e_S_api_Op) (off := 3) (sz := 14) tab30 (fun _ => rfl) (by decide) (by decide) hx15
          obtain ⟨y17, hy17, hs1_⟩ := bC hs1_
          refine W_regionD tab_ok [] ?_
          simp only [push_cast, Nat.reduceAdd, Nat.reduceSub, Nat.reduceMul, Nat.reduceLeDiff, Nat.reduceLT, Nat.reduceEqDiff, ↓reduceIte, reduceCtorEq, Int.reduceBEq, Int.reduceBNe, Nat.reduceBEq, Int.reduceLE, Int.reduceLT, Int.reduceEq, Int.reduceNe, Int.reduceNeg, Nat.reduceDiv, Nat.reduceMod, Nat.reducePow, cast_lit, ax15, bx15, cx15, g16, hN0, hN]
          refine (ok_r_centoref20_Light hy17).then ?_
          simp only [push_cast, Nat.reduceAdd, Nat.reduceSub, Nat.reduceMul, Nat.reduceLeDiff, Nat.reduceLT, Nat.reduceEqDiff, ↓reduceIte, reduceCtorEq, Int.reduceBEq, Int.reduceBNe, Nat.reduceBEq, Int.reduceLE, Int.reduceLT, Int.reduceEq, Int.reduceNe, Int.reduceNeg, Nat.reduceDiv, Nat.reduceMod, Nat.reducePow, cast_lit, ax15, bx15, cx15, g16, hN0, hN]
          refine W_drop [1, 6, 47] [true] ?_
          simp only [push_cast, seval, ↓reduceIte]
          refine W_cond (t := (!y17)) rfl (fun c18 => ?_) (fun c18 => ?_)
          · replace hs1_ := condT c18 hs1_
            refine W_sq [2] (W_regionD tab_ok [] ?_)
            simp only [push_cast, seval, ↓reduceIte, cast_lit, hN0, hN]
            refine W_ret ?_
            try simp only [gthen, gblock]
            have hs1_ := Option.some.inj hs1_; subst hs1_
            refine And.intro (fun h => by cases h) (And.intro rfl (Fit2.of (fit_loc hU rfl rfl ?_) (by omega)))
            simp only [push_cast, seval, ↓reduceIte, cast_lit, hN0, hN]
          · replace hs1_ := condF c18 hs1_
            refine W_skip ?_
            try simp only [gthen, gblock]
            refine W_drop [1, 6] [true] ?_
            simp only [push_cast, seval, ↓reduceIte]
            refine W_regionD tab_ok [] ?_
            simp only [push_cast, seval, ↓reduceIte, cast_lit, hN0, hN]
            have hs1_ := Option.some.inj hs1_; subst hs1_
            refine And.intro rfl (Fit2.of (fit_loc hU rfl rfl ?_) (by omega))
            simp only [push_cast, seval, ↓reduceIte, cast_lit, hN0, hN]
        · replace hs1_ := condF c19 hs1_
          refine W_exit ?_
          try simp only [gthen, gblock, ↓reduceIte, Nat.reduceEqDiff]
          have hs1_ := Option.some.inj hs1_; subst hs1_
          refine And.intro (fun h => by cases h) (And.intro rfl (Fit2.of (fit_loc hU rfl rfl ?_) (by omega)))
          simp only [push_cast, seval, ↓reduceIte, cast_lit, hN0, hN]
      rcases z20 with z20 | z20
      · dsimp only [SumJ] at hw h
        refine W_blockR hw ?_
        try simp only [gthen, gblock, ↓reduceIte, Nat.reduceEqDiff]
        have h := Option.some.inj h; subst h
        refine fin_loc (.inr rfl) hU [.val (.bool false)] (by omega) ?_
        simp only [push_cast, seval, ↓reduceIte, cast_lit, Try.results50, hN0, hN]
      · dsimp only [SumJ] at hw h
        refine W_blockX hw ?_
        try simp only [gthen, gblock, ↓reduceIte, Nat.reduceEqDiff]
        refine W_drop [] [false] ?_
        simp only [push_cast, seval, ↓reduceIte]
        refine W_sq [2] (W_regionD tab_ok [] ?_)
        simp only [push_cast, seval, ↓reduceIte, cast_lit, hN0, hN]
        refine W_ret ?_
        try simp only [gthen, gblock]
        have h := Option.some.inj h; subst h
        refine fin_loc (.inr rfl) hU [.val (.bool true)] (by omega) ?_
        simp only [push_cast, seval, ↓reduceIte, cast_lit, Try.results50, hN0, hN]
theorem lv_centoref20_Light_ok : ∀ k, (∀ {a0 : S_api_Edit} {r : Bool} {O : Objs} {n : Nat}, (lv_centoref20_Light k) a0 = some r → GTo Try.prog 50 [.agg (c_S_api_Edit a0)] O n (.val (.bool r)) O n) := fun k => by
  induction k with
  | zero => exact @fun a0 r O n h => (nomatch (show (none : Option _) = some _ from h))
  | succ k ih => exact @fun a0 r O n h => okb_centoref20_Light (ih)  h
theorem ok_centoref20_Light {a0 : S_api_Edit} {r : Bool} {O : Objs} {n : Nat} (h : m_centoref20_Light a0 = some r) : GTo Try.prog 50 [.agg (c_S_api_Edit a0)] O n (.val (.bool r)) O n := by
  obtain ⟨k, hk⟩ := lim_some h
  exact (lv_centoref20_Light_ok k)  hk
theorem ok_centoref20_Good {a0 : S_api_Edit} {r : Bool} {O : Objs} {n : Nat} (h : m_centoref20_Good a0 = some r) : GTo Try.prog 15 [.agg (c_S_api_Edit a0)] O n (.val (.bool r)) O n := by
  unfold m_centoref20_Good at h
  refine fn_of tab_ok Try.call15 Try.func15 rfl (Nat.le_of_ble_eq_true rfl) (Nat.le_refl _) fun hU => ?_
  have hN0 : O n = none := hU.fresh _ (Nat.le_refl _)
  have hN : ∀ k, O (n + k) = none := fun k => hU.fresh _ (Nat.le_add_right _ _)
  show W _ _ _ _ ⟨13, [], [(0, .agg (c_S_api_Edit a0))]⟩ (Loc O n []) _
  refine W_sq [1] (W_regionD tab_ok [] ?_)
  simp only [push_cast, seval, ↓reduceIte, cast_lit, hN0, hN]
  obtain ⟨z4, hz4, h⟩ := bC h
  refine W_seqN (E' := ⟨13, [], [(2, .val (.bool z4))]⟩) (O' := (Loc O n [none])) (n0 := (n + 1)) ?_ ?_
  · obtain ⟨y8, hy8, hz4⟩ := bC hz4
    rcases Bool.eq_false_or_eq_true y8 with c11 | c11
    · replace hz4 := condT c11 hz4
      obtain ⟨y9, hy9, hz4⟩ := bC hz4
      rcases Bool.eq_false_or_eq_true y9 with c12 | c12
      · replace hz4 := condT c12 hz4
        try rw [c12] at c11
        obtain ⟨y10, hy10, hz4⟩ := bC hz4
        refine W_regionD tab_ok [some true, some true, some true, some true] ?_
        simp only [push_cast, seval, ↓reduceIte, cast_lit, c11, c12, hN0, hN]
        refine (ok_centoref20_Few hy8).then ?_
        simp only [push_cast, seval, ↓reduceIte, cast_lit, c11, c12, hN0, hN]
        refine (ok_centoref20_Right hy9).then ?_
        simp only [push_cast, seval, ↓reduceIte, cast_lit, c11, c12, hN0, hN]
        refine (ok_centoref20_Light hy10).then ?_
        simp only [push_cast, seval, ↓reduceIte, cast_lit, c11, c12, hN0, hN]
        have hz4 := Option.some.inj hz4; subst hz4
        refine And.intro rfl (Fit2.of (fit_loc hU rfl rfl ?_) (by omega))
        simp only [push_cast, seval, ↓reduceIte, cast_lit, c11, c12, hN0, hN]
      · replace hz4 := condF c12 hz4
        try rw [c12] at c11
        refine W_regionD tab_ok [some true, some true, some false, some false] ?_
        simp only [push_cast, seval, ↓reduceIte, cast_lit, c11, c12, hN0, hN]
        refine (ok_centoref20_Few hy8).then ?_
        simp only [push_cast, seval, ↓reduceIte, cast_lit, c11, c12, hN0, hN]
        refine (ok_centoref20_Right hy9).then ?_
        simp only [push_cast, seval, ↓reduceIte, cast_lit, c11, c12, hN0, hN]
        have hz4 := Option.some.inj hz4; subst hz4
        refine And.intro rfl (Fit2.of (fit_loc hU rfl rfl ?_) (by omega))
        simp only [push_cast, seval, ↓reduceIte, cast_lit, c11, c12, hN0, hN]
    · replace hz4 := condF c11 hz4
      refine W_regionD tab_ok [some false, some false, some false, some false] ?_
      simp only [push_cast, seval, ↓reduceIte, cast_lit, c11, hN0, hN]
      refine (ok_centoref20_Few hy8).then ?_
      simp only [push_cast, seval, ↓reduceIte, cast_lit, c11, hN0, hN]
      have hz4 := Option.some.inj hz4; subst hz4
      refine And.intro rfl (Fit2.of (fit_loc hU rfl rfl ?_) (by omega))
      simp only [push_cast, seval, ↓reduceIte, cast_lit, c11, hN0, hN]
  refine W_ret ?_
  try simp only [gthen, gblock]
  have h := Option.some.inj h; subst h
  refine fin_loc (.inr rfl) hU [.val (.bool z4)] (by omega) ?_
  simp only [push_cast, seval, ↓reduceIte, cast_lit, Try.results15, hN0, hN]
theorem ok_centolaw24_steps {a0 : (List S_api_Op)} {r : Bool} {O : Objs} {n : Nat} (h : m_centolaw24_steps a0 = some r) : GTo Try.prog 32 [.sl a0.length (fl e_S_api_Op a0)] O n (.val (.bool r)) O n := by
  unfold m_centolaw24_steps at h
  refine fn_of tab_ok Try.call32 Try.func32 rfl (Nat.le_of_ble_eq_true rfl) (Nat.le_refl _) fun hU => ?_
  have hN0 : O n = none := hU.fresh _ (Nat.le_refl _)
  have hN : ∀ k, O (n + k) = none := fun k => hU.fresh _ (Nat.le_add_right _ _)
  show W _ _ _ _ ⟨11, [], [(0, .sl a0.length (fl e_S_api_Op a0))]⟩ (Loc O n []) _
  refine W_sq [0] (W_regionD tab_ok [] ?_)
  simp only [push_cast, seval, ↓reduceIte, cast_lit, hN0, hN]
  obtain ⟨z3, hz3, h⟩ := bC h
  refine W_seqN (E' := ⟨11, [], [(2, .val (.bool z3))]⟩) (O' := (Loc O n [])) (n0 := n) ?_ ?_
  · obtain ⟨y6, hy6, hz3⟩ := bC hz3
    rcases Bool.eq_false_or_eq_true y6 with c8 | c8
    · replace hz3 := condT c8 hz3
      refine W_regionD tab_ok [some false, some false, some false] ?_
      simp only [push_cast, seval, ↓reduceIte, cast_lit, c8, hN0, hN]
      refine GCalls.argsW ?_ ((ok_centoref20_Good hy6).then ?_)
      · simp only [push_cast, seval, ↓reduceIte, cast_lit, c8, hN0, hN]
      simp only [push_cast, seval, ↓reduceIte, cast_lit, c8, hN0, hN]
      have hz3 := Option.some.inj hz3; subst hz3
      refine And.intro rfl (Fit2.of (fit_loc hU rfl rfl ?_) (by omega))
      simp only [push_cast, seval, ↓reduceIte, cast_lit, c8, hN0, hN]
    · replace hz3 := condF c8 hz3
      obtain ⟨y7, hy7, hz3⟩ := bC hz3
      refine W_regionD tab_ok [some true, some true, some true] ?_
      simp only [push_cast, seval, ↓reduceIte, cast_lit, c8, hN0, hN]
      refine GCalls.argsW ?_ ((ok_centoref20_Good hy6).then ?_)
      · simp only [push_cast, seval, ↓reduceIte, cast_lit, c8, hN0, hN]
      simp only [push_cast, seval, ↓reduceIte, cast_lit, c8, hN0, hN]
      refine GCalls.argsW ?_ ((ok_centoref20_Good hy7).then ?_)
      · simp only [push_cast, seval, ↓reduceIte, cast_lit, c8, hN0, hN]
      simp only [push_cast, seval, ↓reduceIte, cast_lit, c8, hN0, hN]
      have hz3 := Option.some.inj hz3; subst hz3
      refine And.intro rfl (Fit2.of (fit_loc hU rfl rfl ?_) (by omega))
      simp only [push_cast, seval, ↓reduceIte, cast_lit, c8, hN0, hN]
  refine W_ret ?_
  try simp only [gthen, gblock]
  have h := Option.some.inj h; subst h
  refine fin_loc (.inr rfl) hU [.val (.bool z3)] (by omega) ?_
  simp only [push_cast, seval, ↓reduceIte, cast_lit, Try.results32, hN0, hN]
theorem ok_align_kids {a0 : S_api_Op} {r : Int} {O : Objs} {n : Nat} (h : m_align_kids a0 = some r) : GTo Try.prog 126 [.agg (c_S_api_Op a0)] O n (.val (.int .i64 r)) O n := by
  unfold m_align_kids at h
  refine fn_of tab_ok Try.call126 Try.func126 rfl (Nat.le_of_ble_eq_true rfl) (Nat.le_refl _) fun hU => ?_
  have hN0 : O n = none := hU.fresh _ (Nat.le_refl _)
  have hN : ∀ k, O (n + k) = none := fun k => hU.fresh _ (Nat.le_add_right _ _)
  show W _ _ _ _ ⟨15, [], [(0, .agg (c_S_api_Op a0))]⟩ (Loc O n []) _
  refine W_sq [1] (W_regionD tab_ok [] ?_)
  simp only [push_cast, seval, ↓reduceIte, cast_lit, hN0, hN]
  refine W_seqK ?_
  refine W_sq [1, 4] (W_regionD tab_ok [] ?_)
  simp only [push_cast, seval, ↓reduceIte, cast_lit, hN0, hN]
  refine W_block ?_
  refine W_sq [1, 4, 5] (W_regionD tab_ok [] ?_)
  simp only [push_cast, seval, ↓reduceIte, cast_lit, hN0, hN]
  refine W_cond (t := (a0.Kind == 0)) rfl (fun c4 => ?_) (fun c4 => ?_)
  · replace h := condT c4 h
    refine W_sq [2] (W_regionD tab_ok [] ?_)
    simp only [push_cast, seval, ↓reduceIte, cast_lit, hN0, hN]
    refine W_ret ?_
    try simp only [gthen, gblock]
    have h := Option.some.inj h; subst h
    refine fin_loc (.inr rfl) hU [.val (.int .i64 a0.N)] (by omega) ?_
    simp only [push_cast, seval, ↓reduceIte, cast_lit, Try.results126, hN0, hN]
  · replace h := condF c4 h
    obtain ⟨z1, hz1, h⟩ := bC h
    refine W_seqN (E' := ⟨15, [], [(1, .ref n 0), (9, .val (.bool z1))]⟩) (O' := (Loc O n [some ⟨false, 69, 14, 1, (c_S_api_Op a0)⟩])) (n0 := (n + 1)) ?_ ?_
    · refine W_sq [1, 4, 9] (W_regionD tab_ok [] ?_)
      simp only [push_cast, seval, ↓reduceIte, cast_lit, hN0, hN]
      refine W_cond (t := (a0.Kind == 1)) rfl (fun c2 => ?_) (fun c2 => ?_)
      · replace hz1 := condT c2 hz1
        refine W_skip ?_
        try simp only [gthen, gblock]
        have hz1 := Option.some.inj hz1; subst hz1
        refine And.intro rfl (Fit2.of (fit_loc hU rfl rfl ?_) (by omega))
        simp only [push_cast, seval, ↓reduceIte, cast_lit, hN0, hN]
      · replace hz1 := condF c2 hz1
        refine W_regionD tab_ok [] ?_
        simp only [push_cast, seval, ↓reduceIte, cast_lit, hN0, hN]
        have hz1 := Option.some.inj hz1; subst hz1
        refine And.intro rfl (Fit2.of (fit_loc hU rfl rfl ?_) (by omega))
        simp only [push_cast, seval, ↓reduceIte, cast_lit, hN0, hN]
    refine W_cond (t := z1) rfl (fun c3 => ?_) (fun c3 => ?_)
    · replace h := condT c3 h
      refine W_sq [2] (W_regionD tab_ok [] ?_)
      simp only [push_cast, seval, ↓reduceIte, cast_lit, hN0, hN]
      refine W_ret ?_
      try simp only [gthen, gblock]
      have h := Option.some.inj h; subst h
      refine fin_loc (.inr rfl) hU [.val (.int .i64 (a0.L.length : Int))] (by omega) ?_
      simp only [push_cast, seval, ↓reduceIte, cast_lit, Try.results126, hN0, hN]
    · replace h := condF c3 h
      refine W_skip ?_
      try simp only [gthen, gblock]
      refine W_drop [] [false] ?_
      simp only [push_cast, seval, ↓reduceIte]
      refine W_sq [2] (W_regionD tab_ok [] ?_)
      simp only [push_cast, seval, ↓reduceIte, cast_lit, hN0, hN]
      refine W_ret ?_
      try simp only [gthen, gblock]
      have h := Option.some.inj h; subst h
      refine fin_loc (.inr rfl) hU [.val (.int .i64 1)] (by omega) ?_
      simp only [push_cast, seval, ↓reduceIte, cast_lit, Try.results126, hN0, hN]
theorem ok_align_cursor_next {a0 : S_align_cursor} {r : (Int × Int × S_align_cursor)} {O : Objs} {n : Nat} {i0 : Nat} (hi0 : i0 < n) (ho0 : O i0 = some ⟨false, 124, 2, 1, [.sl a0.left.length (fl e_S_api_Op a0.left), .val (.int .i64 a0.gone)]⟩) (h : m_align_cursor_next a0 = some r) : GTo Try.prog 103 [.ref i0 0] O n (.tup [.val (.int .i64 r.1), .val (.int .i64 r.2.1)]) (Loc (O.upd i0 (some ⟨false, 124, 2, 1, [.sl r.2.2.left.length (fl e_S_api_Op r.2.2.left), .val (.int .i64 r.2.2.gone)]⟩)) n []) (n + 0) := by
  unfold m_align_cursor_next at h
  refine fn_of tab_ok Try.call103 Try.func103 rfl (Nat.le_of_ble_eq_true rfl) (by omega) fun hU => ?_
  rw [show Loc O n [] = Loc (O.upd i0 (some ⟨false, 124, 2, 1, [.sl a0.left.length (fl e_S_api_Op a0.left), .val (.int .i64 a0.gone)]⟩)) n [] from by rw [upd_self (show O i0 = _ from by exact ho0)]]
  have hk0 : ∀ k, i0 < n + k := fun k => by omega
  have hN0 : ∀ o, Objs.upd O i0 o n = none := fun o => upd_fresh hU hi0 _ (Nat.le_refl _)
  have hN : ∀ o k, Objs.upd O i0 o (n + k) = none := fun o k => upd_fresh hU hi0 _ (Nat.le_add_right _ _)
  show W _ _ _ _ ⟨44, [], [(0, .ref i0 0)]⟩ (Loc (O.upd i0 (some ⟨false, 124, 2, 1, [.sl a0.left.length (fl e_S_api_Op a0.left), .val (.int .i64 a0.gone)]⟩)) n []) _
  refine W_sq [0] (W_regionD tab_ok [] ?_)
  simp only [push_cast, seval, ↓reduceIte, cast_lit, hi0, hk0, hN0, hN]
  refine W_seqK ?_
  refine W_drop [0] [] ?_
  simp only [push_cast, seval, ↓reduceIte]
  obtain ⟨z12, hz12, h⟩ := bC h
  refine W_sumB (J := (SumJ (fun z12 => JR n (⟨44, [], [(2, .val (.int .i64 z12.1)), (3, .val (.int .i64 z12.2.1))]⟩ : Env) (Loc (O.upd i0 (some ⟨false, 124, 2, 1, [.sl z12.2.2.1.length (fl e_S_api_Op z12.2.2.1), .val (.int .i64 z12.2.2.2)]⟩)) n []) n) (fun z12 => JX 0 n (⟨44, [], []⟩ : Env) (Loc (O.upd i0 (some ⟨false, 124, 2, 1, [.sl z12.1.length (fl e_S_api_Op z12.1), .val (.int .i64 z12.2)]⟩)) n []) n))) (z := z12) ?_ fun hw => ?_
  · refine W_loopJ hz12 (fun s0_ => ⟨44, [], [(0, .ref i0 0)]⟩) (fun s0_ => (Loc (O.upd i0 (some ⟨false, 124, 2, 1, [.sl s0_.1.length (fl e_S_api_Op s0_.1), .val (.int .i64 s0_.2)]⟩)) n [])) (SumJ (fun z12 => JR n (⟨44, [], [(2, .val (.int .i64 z12.1)), (3, .val (.int .i64 z12.2.1))]⟩ : Env) (Loc (O.upd i0 (some ⟨false, 124, 2, 1, [.sl z12.2.2.1.length (fl e_S_api_Op z12.2.2.1), .val (.int .i64 z12.2.2.2)]⟩)) n []) n) (fun z12 => JX 0 n (⟨44, [], []⟩ : Env) (Loc (O.upd i0 (some ⟨false, 124, 2, 1, [.sl z12.1.length (fl e_S_api_Op z12.1), .val (.int .i64 z12.2)]⟩)) n []) n)) ?_
    intro s0_ x0_ hs0_
    unfold m_align_cursor_next_L0 at hs0_
    try dsimp only
    refine W_seqK ?_
    refine W_sq [0, 10] (W_regionD tab_ok [] ?_)
    simp only [push_cast, seval, ↓reduceIte, cast_lit, hi0, hk0, hN0, hN]
    refine W_cond (t := (decide (0 < (s0_.1.length : Int)))) rfl (fun c11 => ?_) (fun c11 => ?_)
    · replace hs0_ := condT c11 hs0_
      refine W_skip ?_
      try simp only [gthen, gblock]
      refine W_drop [0] [] ?_
      simp only [push_cast, seval, ↓reduceIte]
      refine W_block ?_
      refine W_seqK ?_
      refine W_seqK ?_
      obtain ⟨x3, hx3, ax3, bx3, cx3, hs0_⟩ := bE (f := e_S_api_Op) tab69 (fun _ => rfl) (by decide) hs0_
      obtain ⟨y4, hy4, hs0_⟩ := bC hs0_
      refine W_drawD tab_ok (by kernel_rfl) [] (by kernel_rfl) ?_
      simp only [push_cast, Nat.reduceAdd, Nat.reduceSub, Nat.reduceMul, Nat.reduceLeDiff, Nat.reduceLT, Nat.reduceEqDiff, ↓reduceIte, reduceCtorEq, Int.reduceBEq, Int.reduceBNe, Nat.reduceBEq, Int.reduceLE, Int.reduceLT, Int.reduceEq, Int.reduceNe, Int.reduceNeg, Nat.reduceDiv, Nat.reduceMod, Nat.reducePow, cast_lit, ax3, bx3, cx3, hi0, hk0, hN0, hN]
      refine PCall.of (ok_align_kids hy4) ?_
      simp only [push_cast, Nat.reduceAdd, Nat.reduceSub, Nat.reduceMul, Nat.reduceLeDiff, Nat.reduceLT, Nat.reduceEqDiff, ↓reduceIte, reduceCtorEq, Int.reduceBEq, Int.reduceBNe, Nat.reduceBEq, Int.reduceLE, Int.reduceLT, Int.reduceEq, Int.reduceNe, Int.reduceNeg, Nat.reduceDiv, Nat.reduceMod, Nat.reducePow, cast_lit, ax3, bx3, cx3, hi0, hk0, hN0, hN]
      refine W_drop [0, 4] [] ?_
      simp only [push_cast, seval, ↓reduceIte]
      refine W_sq [0, 4, 24] (W_regionD tab_ok [] ?_)
      simp only [push_cast, seval, ↓reduceIte, cast_lit, hi0, hk0, hN0, hN]
      refine W_cond (t := (decide (0 < (IntKind.i64.wrap (y4 - s0_.2))))) rfl (fun c10 => ?_) (fun c10 => ?_)
      · replace hs0_ := condT c10 hs0_
        obtain ⟨x7, hx7, ax7, bx7, cx7, hs0_⟩ := bE (f := e_S_api_Op) tab69 (fun _ => rfl) (by decide) hs0_
        have g8 := gpart_fld0 (f := e_S_api_Op) (sz := 14) tab3 (fun _ => rfl) (by decide) (by decide) hx7
        refine W_sq [2, 3] (W_regionD tab_ok [] ?_)
        simp only [push_cast, Nat.reduceAdd, Nat.reduceSub, Nat.reduceMul, Nat.reduceLeDiff, Nat.reduceLT, Nat.reduceEqDiff, ↓reduceIte, reduceCtorEq, Int.reduceBEq, Int.reduceBNe, Nat.reduceBEq, Int.reduceLE, Int.reduceLT, Int.reduceEq, Int.reduceNe, Int.reduceNeg, Nat.reduceDiv, Nat.reduceMod, Nat.reducePow, cast_lit, ax7, bx7, cx7, g8, hi0, hk0, hN0, hN]
        refine W_ret ?_
        try simp only [gthen, gblock]
        have hs0_ := Option.some.inj hs0_; subst hs0_
        refine And.intro (fun h => by cases h) (And.intro rfl (Fit2.of (fit_loco hU rfl rfl ?_) (by omega)))
        simp only [push_cast, seval, ↓reduceIte, cast_lit, hi0, hk0, hN0, hN]
      · replace hs0_ := condF c10 hs0_
        refine W_skip ?_
        try simp only [gthen, gblock]
        refine W_drop [0] [] ?_
        simp only [push_cast, seval, ↓reduceIte]
        obtain ⟨l9, al9, bl9, cl9, gl9, hs0_⟩ := bS (lo := (some (.i64, 1))) (hi := none) (f := e_S_api_Op) rfl rfl tkind28 tab69 (fun _ => rfl) hs0_
        refine W_regionD tab_ok [] ?_
        simp only [push_cast, seval, ↓reduceIte, cast_lit, al9, bl9, cl9, gl9, hi0, hk0, hN0, hN]
        have hs0_ := Option.some.inj hs0_; subst hs0_
        refine And.intro rfl (Fit2.of (fit_loco hU rfl rfl ?_) (by omega))
        simp only [push_cast, seval, ↓reduceIte, cast_lit, al9, bl9, cl9, gl9, hi0, hk0, hN0, hN]
    · replace hs0_ := condF c11 hs0_
      refine W_exit ?_
      try simp only [gthen, gblock, ↓reduceIte, Nat.reduceEqDiff]
      have hs0_ := Option.some.inj hs0_; subst hs0_
      refine And.intro (fun h => by cases h) (And.intro rfl (Fit2.of (fit_loco hU rfl rfl ?_) (by omega)))
      simp only [push_cast, seval, ↓reduceIte, cast_lit, hi0, hk0, hN0, hN]
  rcases z12 with z12 | z12
  · dsimp only [SumJ] at hw h
    refine W_blockR hw ?_
    try simp only [gthen, gblock, ↓reduceIte, Nat.reduceEqDiff]
    have h := Option.some.inj h; subst h
    refine fin_locV (k := 0) (i := i0) (q1 := ⟨false, 124, 2, 1, [.sl z12.2.2.1.length (fl e_S_api_Op z12.2.2.1), .val (.int .i64 z12.2.2.2)]⟩) (L3 := [none]) (E2 := (⟨44, [], [(2, .val (.int .i64 z12.1)), (3, .val (.int .i64 z12.2.1))]⟩ : Env)) (n3 := (n + 1)) (.inr rfl) hU rfl [.val (.int .i64 z12.1), .val (.int .i64 z12.2.1)] ?_ ?_
    · refine Fit2.trans (E' := (⟨44, [], [(2, .val (.int .i64 z12.1)), (3, .val (.int .i64 z12.2.1))]⟩ : Env)) (O' := (Loc (O.upd i0 (some ⟨false, 124, 2, 1, [.sl z12.2.2.1.length (fl e_S_api_Op z12.2.2.1), .val (.int .i64 z12.2.2.2)]⟩)) n [])) (n' := n) (Fit2.of (fit_loco hU rfl rfl ?_) (by omega)) ?_
      · simp only [push_cast, seval, ↓reduceIte, cast_lit, hi0, hk0, hN0, hN]
      refine ren_fito (k := 0) (k' := 1) hU [] [0] rfl rfl rfl rfl ⟨rfl, rfl⟩ ?_
      simp only [push_cast, seval, ↓reduceIte, cast_lit, hi0, hk0, hN0, hN]
    simp only [push_cast, seval, ↓reduceIte, cast_lit, Try.results103, hi0, hk0, hN0, hN]
  · dsimp only [SumJ] at hw h
    refine W_blockX hw ?_
    try simp only [gthen, gblock, ↓reduceIte, Nat.reduceEqDiff]
    refine W_drop [] [] ?_
    simp only [push_cast, seval, ↓reduceIte]
    refine W_sq [2, 3] (W_regionD tab_ok [] ?_)
    simp only [push_cast, seval, ↓reduceIte, cast_lit, hi0, hk0, hN0, hN]
    refine W_ret ?_
    try simp only [gthen, gblock]
    have h := Option.some.inj h; subst h
    refine fin_locV (k := 0) (i := i0) (q1 := ⟨false, 124, 2, 1, [.sl z12.1.length (fl e_S_api_Op z12.1), .val (.int .i64 z12.2)]⟩) (L3 := [none]) (E2 := (⟨44, [], [(2, .val (.int .i64 0)), (3, .val (.int .i64 0))]⟩ : Env)) (n3 := (n + 1)) (.inr rfl) hU rfl [.val (.int .i64 0), .val (.int .i64 0)] ?_ ?_
    · refine Fit2.trans (E' := (⟨44, [], [(2, .val (.int .i64 0)), (3, .val (.int .i64 0))]⟩ : Env)) (O' := (Loc (O.upd i0 (some ⟨false, 124, 2, 1, [.sl z12.1.length (fl e_S_api_Op z12.1), .val (.int .i64 z12.2)]⟩)) n [])) (n' := n) (Fit2.of (fit_loco hU rfl rfl ?_) (by omega)) ?_
      · simp only [push_cast, seval, ↓reduceIte, cast_lit, hi0, hk0, hN0, hN]
      refine ren_fito (k := 0) (k' := 1) hU [] [0] rfl rfl rfl rfl ⟨rfl, rfl⟩ ?_
      simp only [push_cast, seval, ↓reduceIte, cast_lit, hi0, hk0, hN0, hN]
    simp only [push_cast, seval, ↓reduceIte, cast_lit, Try.results103, hi0, hk0, hN0, hN]
theorem ok_align_cursor_take {a0 : S_align_cursor} {a1 : Int} {r : (S_api_Op × S_align_cursor)} {O : Objs} {n : Nat} {i0 : Nat} (hi0 : i0 < n) (ho0 : O i0 = some ⟨false, 124, 2, 1, [.sl a0.left.length (fl e_S_api_Op a0.left), .val (.int .i64 a0.gone)]⟩) (h : m_align_cursor_take a0 a1 = some r) : GTo Try.prog 104 [.ref i0 0, .val (.int .i64 a1)] O n (.agg (c_S_api_Op r.1)) (Loc (O.upd i0 (some ⟨false, 124, 2, 1, [.sl r.2.left.length (fl e_S_api_Op r.2.left), .val (.int .i64 r.2.gone)]⟩)) n []) (n + 0) := by
  unfold m_align_cursor_take at h
  refine fn_of tab_ok Try.call104 Try.func104 rfl (Nat.le_of_ble_eq_true rfl) (by omega) fun hU => ?_
  rw [show Loc O n [] = Loc (O.upd i0 (some ⟨false, 124, 2, 1, [.sl a0.left.length (fl e_S_api_Op a0.left), .val (.int .i64 a0.gone)]⟩)) n [] from by rw [upd_self (show O i0 = _ from by exact ho0)]]
  have hk0 : ∀ k, i0 < n + k := fun k => by omega
  have hN0 : ∀ o, Objs.upd O i0 o n = none := fun o => upd_fresh hU hi0 _ (Nat.le_refl _)
  have hN : ∀ o k, Objs.upd O i0 o (n + k) = none := fun o k => upd_fresh hU hi0 _ (Nat.le_add_right _ _)
  show W _ _ _ _ ⟨50, [], [(0, .ref i0 0), (1, .val (.int .i64 a1))]⟩ (Loc (O.upd i0 (some ⟨false, 124, 2, 1, [.sl a0.left.length (fl e_S_api_Op a0.left), .val (.int .i64 a0.gone)]⟩)) n []) _
  refine W_sq [0, 1, 4] (W_regionD tab_ok [] ?_)
  simp only [push_cast, seval, ↓reduceIte, cast_lit, hi0, hk0, hN0, hN]
  refine W_seqK ?_
  obtain ⟨x2, hx2, ax2, bx2, cx2, h⟩ := bE (f := e_S_api_Op) tab69 (fun _ => rfl) (by decide) h
  refine W_regionD tab_ok [] ?_
  simp only [push_cast, Nat.reduceAdd, Nat.reduceSub, Nat.reduceMul, Nat.reduceLeDiff, Nat.reduceLT, Nat.reduceEqDiff, ↓reduceIte, reduceCtorEq, Int.reduceBEq, Int.reduceBNe, Nat.reduceBEq, Int.reduceLE, Int.reduceLT, Int.reduceEq, Int.reduceNe, Int.reduceNeg, Nat.reduceDiv, Nat.reduceMod, Nat.reducePow, cast_lit, ax2, bx2, cx2, hi0, hk0, hN0, hN]
  refine W_drop [0, 1, 4, 5] [true, true] ?_
  simp only [push_cast, seval, ↓reduceIte]
  obtain ⟨z3, hz3, h⟩ := bC h
  refine W_seqN (E' := ⟨50, [], [(0, .ref i0 0), (1, .val (.int .i64 a1)), (4, .ref n 0), (5, .ref (n + 1) 0)]⟩) (O' := (Loc (O.upd i0 (some ⟨false, 124, 2, 1, [.sl a0.left.length (fl e_S_api_Op a0.left), .val (.int .i64 a0.gone)]⟩)) n [some ⟨false, 69, 14, 1, [.val (.int .i64 0), .val (.int .i64 0), .val (.slice none 0 0), .val (.int .i64 0), .val (.int .i64 0), .val (.slice none 0 0), .val (.slice none 0 0), .val (.int .i64 0), .val (.slice none 0 0), .val (.slice none 0 0), .val (.slice none 0 0), .val (.slice none 0 0), .val (.int .i64 0), .val (.slice none 0 0)]⟩, some ⟨false, 69, 14, 1, [.val (.int .i64 x2.Kind), .val (.int .i64 z3.1), .sl z3.2.length (fl e_S_api_Tree z3.2), .val (.int .i64 x2.E.Kind), .val (.int .i64 x2.E.Old.Kind), .sl x2.E.Old.Words.length (fl (eI .u64) x2.E.Old.Words), .sl x2.E.Old.Kids.length (fl e_S_api_Tree x2.E.Old.Kids), .val (.int .i64 x2.E.New.Kind), .sl x2.E.New.Words.length (fl (eI .u64) x2.E.New.Words), .sl x2.E.New.Kids.length (fl e_S_api_Tree x2.E.New.Kids), .sl x2.E.Words.length (fl e_S_api_WordEdit x2.E.Words), .sl x2.E.Kids.length (fl e_S_api_KidEdit x2.E.Kids), .val (.int .i64 x2.E.List_), .sl x2.E.Ops.length (fl e_S_api_Op x2.E.Ops)]⟩])) (n0 := (n + 2)) ?_ ?_
  · refine W_sq [0, 1, 4, 5, 13] (W_regionD tab_ok [] ?_)
    simp only [push_cast, seval, ↓reduceIte, cast_lit, hi0, hk0, hN0, hN]
    refine W_block ?_
    refine W_sq [0, 1, 4, 5, 13, 14] (W_regionD tab_ok [] ?_)
    simp only [push_cast, seval, ↓reduceIte, cast_lit, hi0, hk0, hN0, hN]
    refine W_cond (t := (x2.Kind == 0)) rfl (fun c8 => ?_) (fun c8 => ?_)
    · replace hz3 := condT c8 hz3
      refine W_regionD tab_ok [] ?_
      simp only [push_cast, seval, ↓reduceIte, cast_lit, hi0, hk0, hN0, hN]
      have hz3 := Option.some.inj hz3; subst hz3
      refine And.intro rfl (Fit2.of (fit_loco hU rfl rfl ?_) (by omega))
      simp only [push_cast, seval, ↓reduceIte, cast_lit, hi0, hk0, hN0, hN]
    · replace hz3 := condF c8 hz3
      obtain ⟨z4, hz4, hz3⟩ := bC hz3
      refine W_seqN (E' := ⟨50, [], [(0, .ref i0 0), (1, .val (.int .i64 a1)), (4, .ref n 0), (5, .ref (n + 1) 0), (18, .val (.bool z4))]⟩) (O' := (Loc (O.upd i0 (some ⟨false, 124, 2, 1, [.sl a0.left.length (fl e_S_api_Op a0.left), .val (.int .i64 a0.gone)]⟩)) n [some ⟨false, 69, 14, 1, [.val (.int .i64 0), .val (.int .i64 0), .val (.slice none 0 0), .val (.int .i64 0), .val (.int .i64 0), .val (.slice none 0 0), .val (.slice none 0 0), .val (.int .i64 0), .val (.slice none 0 0), .val (.slice none 0 0), .val (.slice none 0 0), .val (.slice none 0 0), .val (.int .i64 0), .val (.slice none 0 0)]⟩, some ⟨false, 69, 14, 1, (c_S_api_Op x2)⟩])) (n0 := (n + 2)) ?_ ?_
      · refine W_sq [0, 1, 4, 5, 13, 18] (W_regionD tab_ok [] ?_)
        simp only [push_cast, seval, ↓reduceIte, cast_lit, hi0, hk0, hN0, hN]
        refine W_cond (t := (x2.Kind == 1)) rfl (fun c5 => ?_) (fun c5 => ?_)
        · replace hz4 := condT c5 hz4
          refine W_skip ?_
          try simp only [gthen, gblock]
          have hz4 := Option.some.inj hz4; subst hz4
          refine And.intro rfl (Fit2.of (fit_loco hU rfl rfl ?_) (by omega))
          simp only [push_cast, seval, ↓reduceIte, cast_lit, hi0, hk0, hN0, hN]
        · replace hz4 := condF c5 hz4
          refine W_regionD tab_ok [] ?_
          simp only [push_cast, seval, ↓reduceIte, cast_lit, hi0, hk0, hN0, hN]
          have hz4 := Option.some.inj hz4; subst hz4
          refine And.intro rfl (Fit2.of (fit_loco hU rfl rfl ?_) (by omega))
          simp only [push_cast, seval, ↓reduceIte, cast_lit, hi0, hk0, hN0, hN]
      refine W_cond (t := z4) rfl (fun c7 => ?_) (fun c7 => ?_)
      · replace hz3 := condT c7 hz3
        obtain ⟨l6, al6, bl6, cl6, gl6, hz3⟩ := bS3 (lo := (some (.i64, a0.gone))) (hi := (.i64, (IntKind.i64.wrap (a0.gone + a1)))) (f := e_S_api_Tree) rfl rfl tkind23 tab25 (fun _ => rfl) hz3
        refine W_drawF tab_ok (by kernel_rfl) [false, false, false, false, false, false, false, false, false, false, false, false, false, false, false, false, false, false, false, false, true] [] (by kernel_rfl) ?_
        simp only [push_cast, seval, ↓reduceIte, cast_lit, al6, bl6, cl6, gl6, hi0, hk0, hN0, hN]
        have hz3 := Option.some.inj hz3; subst hz3
        refine And.intro rfl (Fit2.of (fit_loco hU rfl rfl ?_) (by omega))
        simp only [push_cast, seval, ↓reduceIte, cast_lit, al6, bl6, cl6, gl6, hi0, hk0, hN0, hN]
      · replace hz3 := condF c7 hz3
        refine W_skip ?_
        try simp only [gthen, gblock]
        have hz3 := Option.some.inj hz3; subst hz3
        refine And.intro rfl (Fit2.of (fit_loco hU rfl rfl ?_) (by omega))
        simp only [push_cast, seval, ↓reduceIte, cast_lit, hi0, hk0, hN0, hN]
  refine W_seqK ?_
  refine W_regionD tab_ok [] ?_
  simp only [push_cast, seval, ↓reduceIte, cast_lit, hi0, hk0, hN0, hN]
  refine W_drop [4, 5] [true, true] ?_
  simp only [push_cast, seval, ↓reduceIte]
  refine W_seqK ?_
  refine W_regionD tab_ok [] ?_
  simp only [push_cast, seval, ↓reduceIte, cast_lit, hi0, hk0, hN0, hN]
  refine W_drop [4] [true, false] ?_
  simp only [push_cast, seval, ↓reduceIte]
  refine W_ret ?_
  try simp only [gthen, gblock]
  have h := Option.some.inj h; subst h
  refine fin_locV (k := 0) (i := i0) (q1 := ⟨false, 124, 2, 1, [.sl a0.left.length (fl e_S_api_Op a0.left), .val (.int .i64 (IntKind.i64.wrap (a0.gone + a1)))]⟩) (L3 := [some ⟨false, 69, 14, 1, [.val (.int .i64 x2.Kind), .val (.int .i64 z3.1), .sl z3.2.length (fl e_S_api_Tree z3.2), .val (.int .i64 x2.E.Kind), .val (.int .i64 x2.E.Old.Kind), .sl x2.E.Old.Words.length (fl (eI .u64) x2.E.Old.Words), .sl x2.E.Old.Kids.length (fl e_S_api_Tree x2.E.Old.Kids), .val (.int .i64 x2.E.New.Kind), .sl x2.E.New.Words.length (fl (eI .u64) x2.E.New.Words), .sl x2.E.New.Kids.length (fl e_S_api_Tree x2.E.New.Kids), .sl x2.E.Words.length (fl e_S_api_WordEdit x2.E.Words), .sl x2.E.Kids.length (fl e_S_api_KidEdit x2.E.Kids), .val (.int .i64 x2.E.List_), .sl x2.E.Ops.length (fl e_S_api_Op x2.E.Ops)]⟩, none]) (E2 := (⟨50, [], [(4, .ref n 0)]⟩ : Env)) (n3 := (n + 2)) (.inr rfl) hU rfl [.agg [.val (.int .i64 x2.Kind), .val (.int .i64 z3.1), .sl z3.2.length (fl e_S_api_Tree z3.2), .val (.int .i64 x2.E.Kind), .val (.int .i64 x2.E.Old.Kind), .sl x2.E.Old.Words.length (fl (eI .u64) x2.E.Old.Words), .sl x2.E.Old.Kids.length (fl e_S_api_Tree x2.E.Old.Kids), .val (.int .i64 x2.E.New.Kind), .sl x2.E.New.Words.length (fl (eI .u64) x2.E.New.Words), .sl x2.E.New.Kids.length (fl e_S_api_Tree x2.E.New.Kids), .sl x2.E.Words.length (fl e_S_api_WordEdit x2.E.Words), .sl x2.E.Kids.length (fl e_S_api_KidEdit x2.E.Kids), .val (.int .i64 x2.E.List_), .sl x2.E.Ops.length (fl e_S_api_Op x2.E.Ops)]] ?_ ?_
  · refine Fit2.trans (E' := (⟨50, [], [(4, .ref n 0)]⟩ : Env)) (O' := (Loc (O.upd i0 (some ⟨false, 124, 2, 1, [.sl a0.left.length (fl e_S_api_Op a0.left), .val (.int .i64 (IntKind.i64.wrap (a0.gone + a1)))]⟩)) n [some ⟨false, 69, 14, 1, [.val (.int .i64 x2.Kind), .val (.int .i64 z3.1), .sl z3.2.length (fl e_S_api_Tree z3.2), .val (.int .i64 x2.E.Kind), .val (.int .i64 x2.E.Old.Kind), .sl x2.E.Old.Words.length (fl (eI .u64) x2.E.Old.Words), .sl x2.E.Old.Kids.length (fl e_S_api_Tree x2.E.Old.Kids), .val (.int .i64 x2.E.New.Kind), .sl x2.E.New.Words.length (fl (eI .u64) x2.E.New.Words), .sl x2.E.New.Kids.length (fl e_S_api_Tree x2.E.New.Kids), .sl x2.E.Words.length (fl e_S_api_WordEdit x2.E.Words), .sl x2.E.Kids.length (fl e_S_api_KidEdit x2.E.Kids), .val (.int .i64 x2.E.List_), .sl x2.E.Ops.length (fl e_S_api_Op x2.E.Ops)]⟩, none])) (n' := (n + 2)) (Fit2.of (fit_loco hU rfl rfl ?_) (by omega)) ?_
    · simp only [push_cast, seval, ↓reduceIte, cast_lit, hi0, hk0, hN0, hN]
    refine ren_fito (k := 2) (k' := 2) hU [0, 1] [0, 0] rfl rfl rfl rfl ⟨rfl, rfl⟩ ?_
    simp only [push_cast, seval, ↓reduceIte, cast_lit, hi0, hk0, hN0, hN]
  simp only [push_cast, seval, ↓reduceIte, cast_lit, Try.results104, hi0, hk0, hN0, hN]
theorem ok_align_pieces {a0 : (List S_api_Op)} {a1 : (List S_api_Op)} {a2 : Int} {a3 : Int} {r : ((List S_align_Piece) × Bool)} {O : Objs} {n : Nat} (h : m_align_pieces a0 a1 a2 a3 = some r) : GTo Try.prog 64 [.sl a0.length (fl e_S_api_Op a0), .sl a1.length (fl e_S_api_Op a1), .val (.int .i64 a2), .val (.int .i64 a3)] O n (.tup [.sl r.1.length (fl e_S_align_Piece r.1), .val (.bool r.2)]) O n := by
  unfold m_align_pieces at h
  refine fn_of tab_ok Try.call64 Try.func64 rfl (Nat.le_of_ble_eq_true rfl) (Nat.le_refl _) fun hU => ?_
  have hN0 : O n = none := hU.fresh _ (Nat.le_refl _)
  have hN : ∀ k, O (n + k) = none := fun k => hU.fresh _ (Nat.le_add_right _ _)
  show W _ _ _ _ ⟨83, [], [(0, .sl a0.length (fl e_S_api_Op a0)), (1, .sl a1.length (fl e_S_api_Op a1)), (2, .val (.int .i64 a2)), (3, .val (.int .i64 a3))]⟩ (Loc O n []) _
  refine W_sq [0, 1, 2, 3] (W_regionD tab_ok [] ?_)
  simp only [push_cast, seval, ↓reduceIte, cast_lit, hN0, hN]
  refine W_sq [0, 1, 2, 3, 10] (W_regionD tab_ok [] ?_)
  simp only [push_cast, seval, ↓reduceIte, cast_lit, hN0, hN]
  refine W_seqK ?_
  refine W_regionD tab_ok [] ?_
  simp only [push_cast, seval, ↓reduceIte, cast_lit, hN0, hN]
  refine W_drop [2, 3, 10, 11, 12] [true, true] ?_
  simp only [push_cast, seval, ↓reduceIte]
  refine W_drop [2, 3, 10, 11, 12] [true, true] ?_
  simp only [push_cast, seval, ↓reduceIte]
  refine W_fit2 (E' := (⟨83, [], [(2, .val (.int .i64 a2)), (3, .val (.int .i64 a3)), (10, .row (n + 2) ([] : List S_align_Piece).length), (11, .ref n 0), (12, .ref (n + 1) 0)]⟩ : Env)) (O' := (Loc O n [some ⟨false, 124, 2, 1, [.sl a0.length (fl e_S_api_Op a0), .val (.int .i64 0)]⟩, some ⟨false, 124, 2, 1, [.sl a1.length (fl e_S_api_Op a1), .val (.int .i64 0)]⟩, some ⟨true, 79, 29, ([] : List S_align_Piece).length, fl e_S_align_Piece ([] : List S_align_Piece)⟩, none])) (n' := (n + 4)) ?_ ?_
  · refine Fit2.trans (E' := (⟨83, [], [(2, .val (.int .i64 a2)), (3, .val (.int .i64 a3)), (10, .val (.slice none 0 0)), (11, .ref n 0), (12, .ref (n + 1) 0)]⟩ : Env)) (O' := (Loc O n [some ⟨false, 124, 2, 1, [.sl a0.length (fl e_S_api_Op a0), .val (.int .i64 0)]⟩, some ⟨false, 124, 2, 1, [.sl a1.length (fl e_S_api_Op a1), .val (.int .i64 0)]⟩])) (n' := (n + 2)) (Fit2.of (fit_loc hU rfl rfl ?_) (by omega)) ?_
    · simp only [push_cast, seval, ↓reduceIte, cast_lit, hN0, hN]
    refine Fit2.trans (E' := (⟨83, [], [(10, .row (n + 2) 0), (2, .val (.int .i64 a2)), (3, .val (.int .i64 a3)), (10, .val (.slice none 0 0)), (11, .ref n 0), (12, .ref (n + 1) 0)]⟩ : Env)) (O' := (Loc O n [some ⟨false, 124, 2, 1, [.sl a0.length (fl e_S_api_Op a0), .val (.int .i64 0)]⟩, some ⟨false, 124, 2, 1, [.sl a1.length (fl e_S_api_Op a1), .val (.int .i64 0)]⟩, some ⟨true, 79, 29, 0, []⟩])) (n' := (n + 3)) ?_ ?_
    · have ha := adopt_fit (ba := n) (E := (⟨83, [], [(2, .val (.int .i64 a2)), (3, .val (.int .i64 a3)), (10, .val (.slice none 0 0)), (11, .ref n 0), (12, .ref (n + 1) 0)]⟩ : Env)) (O := (Loc O n [some ⟨false, 124, 2, 1, [.sl a0.length (fl e_S_api_Op a0), .val (.int .i64 0)]⟩, some ⟨false, 124, 2, 1, [.sl a1.length (fl e_S_api_Op a1), .val (.int .i64 0)]⟩])) (n := (n + 2)) 10 79 29 rfl (by omega)
      simp only [Loc_push, Loc_push0, Loc_upd, Loc_upd0, List.set_cons_zero, List.set_cons_succ, List.cons_append, List.nil_append, List.length_cons, List.length_nil, Nat.zero_add, Nat.reduceAdd, Nat.reduceLT, Nat.add_assoc] at ha
      exact ha
    refine Fit2.trans (E' := (⟨83, [], [(2, .val (.int .i64 a2)), (3, .val (.int .i64 a3)), (10, .row (n + 2) ([] : List S_align_Piece).length), (11, .ref n 0), (12, .ref (n + 1) 0)]⟩ : Env)) (O' := (Loc O n [some ⟨false, 124, 2, 1, [.sl a0.length (fl e_S_api_Op a0), .val (.int .i64 0)]⟩, some ⟨false, 124, 2, 1, [.sl a1.length (fl e_S_api_Op a1), .val (.int .i64 0)]⟩, some ⟨true, 79, 29, ([] : List S_align_Piece).length, fl e_S_align_Piece ([] : List S_align_Piece)⟩])) (n' := (n + 3)) (Fit2.of (fit_loc hU rfl rfl ?_) (by omega)) ?_
    · simp only [push_cast, seval, ↓reduceIte, cast_lit, hN0, hN]
    refine ren_fit (k := 3) (k' := 4) hU [0, 1, 2] [0, 1, 2, 0] rfl rfl rfl rfl ⟨rfl, rfl⟩ ?_
    simp only [push_cast, seval, ↓reduceIte, cast_lit, hN0, hN]
  obtain ⟨z16, hz16, h⟩ := bC h
  refine W_blockR (E' := ⟨83, [], [(8, .sl z16.1.length (fl e_S_align_Piece z16.1)), (9, .val (.bool z16.2))]⟩) (O' := (Loc O n [none, none])) (n0 := (n + 2)) ?_ ?_
  · refine W_loopJ hz16 (fun s0_ => ⟨83, [], [(2, .val (.int .i64 a2)), (3, .val (.int .i64 a3)), (10, .row (n + 2) s0_.2.2.2.2.length), (11, .ref n 0), (12, .ref (n + 1) 0)]⟩) (fun s0_ => (Loc O n [some ⟨false, 124, 2, 1, [.sl s0_.1.length (fl e_S_api_Op s0_.1), .val (.int .i64 s0_.2.1)]⟩, some ⟨false, 124, 2, 1, [.sl s0_.2.2.1.length (fl e_S_api_Op s0_.2.2.1), .val (.int .i64 s0_.2.2.2.1)]⟩, some ⟨true, 79, 29, s0_.2.2.2.2.length, fl e_S_align_Piece s0_.2.2.2.2⟩, none])) (fun z16 => JR n (⟨83, [], [(8, .sl z16.1.length (fl e_S_align_Piece z16.1)), (9, .val (.bool z16.2))]⟩ : Env) (Loc O n [none, none]) (n + 2)) ?_
    intro s0_ x0_ hs0_
    unfold m_align_pieces_L0 at hs0_
    try dsimp only
    refine W_block ?_
    refine W_seqK ?_
    obtain ⟨y2, hy2, hs0_⟩ := bC hs0_
    refine W_regionD tab_ok [] ?_
    simp only [push_cast, seval, ↓reduceIte, cast_lit, hN0, hN]
    refine (ok_align_cursor_next (i0 := n) (by omega) (by simp only [push_cast, seval, ↓reduceIte, cast_lit, fl_nil, hN0, hN] <;> rfl) hy2).then ?_
    simp only [push_cast, seval, ↓reduceIte, cast_lit, hN0, hN]
    refine W_drop [2, 3, 10, 11, 12, 13, 14] [true, true, true, false] ?_
    simp only [push_cast, seval, ↓reduceIte]
    refine W_seqK ?_
    obtain ⟨y4, hy4, hs0_⟩ := bC hs0_
    refine W_regionD tab_ok [] ?_
    simp only [push_cast, seval, ↓reduceIte, cast_lit, hN0, hN]
    refine (ok_align_cursor_next (i0 := (n + 1)) (by omega) (by simp only [push_cast, seval, ↓reduceIte, cast_lit, fl_nil, hN0, hN] <;> rfl) hy4).then ?_
    simp only [push_cast, seval, ↓reduceIte, cast_lit, hN0, hN]
    refine W_drop [2, 3, 10, 11, 12, 13, 14, 15, 16] [true, true, true, false] ?_
    simp only [push_cast, seval, ↓reduceIte]
    refine W_block ?_
    refine W_sq [2, 3, 10, 11, 12, 14, 15, 16, 40] (W_regionD tab_ok [none, none, none] ?_)
    simp only [push_cast, seval, ↓reduceIte, cast_lit, hN0, hN]
    repeat (with_reducible refine And.intro (by first | (intro h0; simp only [h0, and_self]; done) | (intro h0; simp only [h0, Bool.not_false, Bool.not_true, Bool.true_and, Bool.and_true, true_and, and_true, and_self, imp_self, implies_true, bne_iff_ne, ne_eq, beq_iff_eq]; done) | (intros; simp_all; done) | exact True.intro) ?_)
    refine W_cond (t := (cond (decide (0 < y2.2.1)) (y2.1 == a2) false)) rfl (fun c15 => ?_) (fun c15 => ?_)
    · replace hs0_ := condT c15 hs0_
      obtain ⟨y5, hy5, hs0_⟩ := bC hs0_
      obtain ⟨l6, pl6, ql6, el6, hs0_⟩ := bA (k := 1) rfl hs0_
      refine W_regionD tab_ok [] ?_
      simp only [push_cast, seval, ↓reduceIte, cast_lit, pl6, ql6, el6, hN0, hN]
      refine (ok_align_cursor_take (i0 := n) (by omega) (by simp only [push_cast, seval, ↓reduceIte, cast_lit, fl_nil, pl6, ql6, el6, hN0, hN] <;> rfl) hy5).then ?_
      simp only [push_cast, seval, ↓reduceIte, cast_lit, pl6, ql6, el6, hN0, hN]
      have hs0_ := Option.some.inj hs0_; subst hs0_
      refine And.intro rfl (Fit2.of (fit_loc hU rfl rfl ?_) (by omega))
      simp only [push_cast, seval, ↓reduceIte, cast_lit, pl6, ql6, el6, hN0, hN]
    · replace hs0_ := condF c15 hs0_
      refine W_sq [2, 3, 10, 11, 12, 14, 16, 54] (W_regionD tab_ok [none, none, none] ?_)
      simp only [push_cast, seval, ↓reduceIte, cast_lit, hN0, hN]
      repeat (with_reducible refine And.intro (by first | (intro h0; simp only [h0, and_self]; done) | (intro h0; simp only [h0, Bool.not_false, Bool.not_true, Bool.true_and, Bool.and_true, true_and, and_true, and_self, imp_self, implies_true, bne_iff_ne, ne_eq, beq_iff_eq]; done) | (intros; simp_all; done) | exact True.intro) ?_)
      refine W_cond (t := (cond (decide (0 < y4.2.1)) (y4.1 == a3) false)) rfl (fun c14 => ?_) (fun c14 => ?_)
      · replace hs0_ := condT c14 hs0_
        obtain ⟨y7, hy7, hs0_⟩ := bC hs0_
        obtain ⟨l8, pl8, ql8, el8, hs0_⟩ := bA (k := 1) rfl hs0_
        refine W_regionD tab_ok [] ?_
        simp only [push_cast, seval, ↓reduceIte, cast_lit, pl8, ql8, el8, hN0, hN]
        refine (ok_align_cursor_take (i0 := (n + 1)) (by omega) (by simp only [push_cast, seval, ↓reduceIte, cast_lit, fl_nil, pl8, ql8, el8, hN0, hN] <;> rfl) hy7).then ?_
        simp only [push_cast, seval, ↓reduceIte, cast_lit, pl8, ql8, el8, hN0, hN]
        have hs0_ := Option.some.inj hs0_; subst hs0_
        refine And.intro rfl (Fit2.of (fit_loc hU rfl rfl ?_) (by omega))
        simp only [push_cast, seval, ↓reduceIte, cast_lit, pl8, ql8, el8, hN0, hN]
      · replace hs0_ := condF c14 hs0_
        refine W_sq [2, 3, 10, 11, 12, 14, 16, 68] (W_regionD tab_ok [none, none] ?_)
        simp only [push_cast, seval, ↓reduceIte, cast_lit, hN0, hN]
        repeat (with_reducible refine And.intro (by first | (intro h0; simp only [h0, and_self]; done) | (intro h0; simp only [h0, Bool.not_false, Bool.not_true, Bool.true_and, Bool.and_true, true_and, and_true, and_self, imp_self, implies_true, bne_iff_ne, ne_eq, beq_iff_eq]; done) | (intros; simp_all; done) | exact True.intro) ?_)
        refine W_cond (t := (cond (y2.2.1 == 0) (y4.2.1 == 0) false)) rfl (fun c13 => ?_) (fun c13 => ?_)
        · replace hs0_ := condT c13 hs0_
          refine W_sq [8, 9] (W_regionD tab_ok [] ?_)
          simp only [push_cast, seval, ↓reduceIte, cast_lit, hN0, hN]
          refine W_ret ?_
          try simp only [gthen, gblock]
          have hs0_ := Option.some.inj hs0_; subst hs0_
          refine And.intro (fun h => by cases h) (And.intro rfl (Fit2.of (fit_loc hU rfl rfl ?_) (by omega)))
          simp only [push_cast, seval, ↓reduceIte, cast_lit, hN0, hN]
        · replace hs0_ := condF c13 hs0_
          refine W_sq [2, 3, 10, 11, 12, 14, 16, 76] (W_regionD tab_ok [none, none] ?_)
          simp only [push_cast, seval, ↓reduceIte, cast_lit, hN0, hN]
          repeat (with_reducible refine And.intro (by first | (intro h0; simp only [h0, and_self]; done) | (intro h0; simp only [h0, Bool.not_false, Bool.not_true, Bool.true_and, Bool.and_true, true_and, and_true, and_self, imp_self, implies_true, bne_iff_ne, ne_eq, beq_iff_eq]; done) | (intros; simp_all; done) | exact True.intro) ?_)
          refine W_cond (t := (cond (y2.2.1 == 0) true (y4.2.1 == 0))) rfl (fun c12 => ?_) (fun c12 => ?_)
          · replace hs0_ := condT c12 hs0_
            refine W_sq [8, 9] (W_regionD tab_ok [] ?_)
            simp only [push_cast, seval, ↓reduceIte, cast_lit, hN0, hN]
            refine W_ret ?_
            try simp only [gthen, gblock]
            have hs0_ := Option.some.inj hs0_; subst hs0_
            refine And.intro (fun h => by cases h) (And.intro rfl (Fit2.of (fit_loc hU rfl rfl ?_) (by omega)))
            simp only [push_cast, seval, ↓reduceIte, cast_lit, hN0, hN]
          · replace hs0_ := condF c12 hs0_
            refine W_sq [2, 3, 10, 11, 12, 14] (W_regionD tab_ok [] ?_)
            simp only [push_cast, seval, ↓reduceIte, cast_lit, hN0, hN]
            obtain ⟨y9, hy9, hs0_⟩ := bC hs0_
            obtain ⟨y10, hy10, hs0_⟩ := bC hs0_
            obtain ⟨l11, pl11, ql11, el11, hs0_⟩ := bA (k := 1) rfl hs0_
            refine W_regionD tab_ok [] ?_
            simp only [push_cast, seval, ↓reduceIte, cast_lit, pl11, ql11, el11, hN0, hN]
            refine (ok_align_cursor_take (i0 := n) (by omega) (by simp only [push_cast, seval, ↓reduceIte, cast_lit, fl_nil, pl11, ql11, el11, hN0, hN] <;> rfl) hy9).then ?_
            simp only [push_cast, seval, ↓reduceIte, cast_lit, pl11, ql11, el11, hN0, hN]
            refine (ok_align_cursor_take (i0 := (n + 1)) (by omega) (by simp only [push_cast, seval, ↓reduceIte, cast_lit, fl_nil, pl11, ql11, el11, hN0, hN] <;> rfl) hy10).then ?_
            simp only [push_cast, seval, ↓reduceIte, cast_lit, pl11, ql11, el11, hN0, hN]
            have hs0_ := Option.some.inj hs0_; subst hs0_
            refine And.intro rfl (Fit2.of (fit_loc hU rfl rfl ?_) (by omega))
            simp only [push_cast, seval, ↓reduceIte, cast_lit, pl11, ql11, el11, hN0, hN]
  try simp only [gthen, gblock, ↓reduceIte, Nat.reduceEqDiff]
  have h := Option.some.inj h; subst h
  refine fin_loc (.inr rfl) hU [.sl z16.1.length (fl e_S_align_Piece z16.1), .val (.bool z16.2)] (by omega) ?_
  simp only [push_cast, seval, ↓reduceIte, cast_lit, Try.results64, hN0, hN]
theorem ok_align_Through {a0 : (List S_api_Op)} {a1 : (List S_api_Op)} {r : ((List S_align_Piece) × Bool)} {O : Objs} {n : Nat} (h : m_align_Through a0 a1 = some r) : GTo Try.prog 34 [.sl a0.length (fl e_S_api_Op a0), .sl a1.length (fl e_S_api_Op a1)] O n (.tup [.sl r.1.length (fl e_S_align_Piece r.1), .val (.bool r.2)]) O n := by
  unfold m_align_Through at h
  refine fn_of tab_ok Try.call34 Try.func34 rfl (Nat.le_of_ble_eq_true rfl) (Nat.le_refl _) fun hU => ?_
  have hN0 : O n = none := hU.fresh _ (Nat.le_refl _)
  have hN : ∀ k, O (n + k) = none := fun k => hU.fresh _ (Nat.le_add_right _ _)
  show W _ _ _ _ ⟨11, [], [(0, .sl a0.length (fl e_S_api_Op a0)), (1, .sl a1.length (fl e_S_api_Op a1))]⟩ (Loc O n []) _
  refine W_sq [0, 1] (W_regionD tab_ok [] ?_)
  simp only [push_cast, seval, ↓reduceIte, cast_lit, hN0, hN]
  refine W_seqK ?_
  obtain ⟨y2, hy2, h⟩ := bC h
  refine W_regionD tab_ok [] ?_
  simp only [push_cast, seval, ↓reduceIte, cast_lit, hN0, hN]
  refine (ok_align_pieces hy2).then ?_
  simp only [push_cast, seval, ↓reduceIte, cast_lit, hN0, hN]
  refine W_drop [4, 5] [] ?_
  simp only [push_cast, seval, ↓reduceIte]
  refine W_ret ?_
  try simp only [gthen, gblock]
  have h := Option.some.inj h; subst h
  refine fin_loc (.inr rfl) hU [.sl y2.1.length (fl e_S_align_Piece y2.1), .val (.bool y2.2)] (by omega) ?_
  simp only [push_cast, seval, ↓reduceIte, cast_lit, Try.results34, hN0, hN]
end Go.Proofs.Ytbcgiaijjaocdaa
