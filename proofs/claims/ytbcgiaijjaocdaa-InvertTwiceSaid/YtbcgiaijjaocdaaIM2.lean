/- Part IM2 of this seat's mirrors: functions of the seat's program, and the plain functions that they are; each theorem bears its own conditions. -/
import Derived.Test.YtbcgiaijjaocdaaIE
import Derived.Test.YtbcgiaijjaocdaaIM1
namespace Go.Proofs.Ytbcgiaijjaocdaa
open Go.RowKit
set_option linter.unusedVariables false
set_option linter.unusedSimpArgs false
set_option maxRecDepth 100000
set_option maxHeartbeats 1000000
attribute [local push_cast] c_S_api_Edit c_S_api_KidEdit c_S_api_Op c_S_api_Tree c_S_api_WordEdit gfork_t gfork_f pfork_t pfork_f gthen gblock gops_nil gops_plain gops_guard onW gwantB gcalm gact gpick gpickV strip evS wok calmOp Op.operands Call.operands gop onK onP atK List.all_cons List.all_nil Bool.and_true Bool.true_and Bool.and_self Value.oneCell' List.take_zero List.take_succ_cons List.take_nil List.drop_zero List.drop_succ_cons List.drop_nil List.append_nil Nat.add_zero Nat.zero_add gstep gputE ev look genv gbin geqS geqF gint gunary gconvert gload gcells gpart_lit gstore gcellsOf gput gplace_lit gfieldAddr gstepIn gindexAddr gindex gfield gopt bLo bHi bMx gextract galloc gbox gbuild gfill gplaces gbuildSlice gmake glen gappend gsrc gbuiltin gnil isLive gres gone prun_nil prun_plain prun_guard pop TK.isAgg G.one G.under G.unders List.getD_cons_zero List.getD_cons_succ List.set_cons_zero List.set_cons_succ List.map_cons List.map_nil List.toList_toArray Array.toList_append Option.toArray_none Option.toArray_some Array.toList_map Option.map_some Option.map_none Option.bind_some Option.bind_none List.getElem?_cons_zero List.getElem?_cons_succ List.getElem?_nil List.nil_append List.cons_append List.replicate_succ List.replicate_zero List.length_cons List.length_nil and_true true_and and_false false_and Bool.true_eq_false Bool.false_eq_true forall_const false_implies implies_true IntKind.bits if_true if_false ite_true ite_false eq_self true_implies false_or or_false or_true true_or not_true_eq_false not_false_eq_true decide_true decide_false decide_eq_true_eq decide_eq_false_iff_not beq_iff_eq bne_iff_ne ne_eq Bool.not_eq_true Bool.not_eq_false beq_eq_false_iff_ne bne_eq_false_iff_eq beq_self_eq_true bne_self_eq_false Option.some.injEq exists_eq_left' exists_eq_left ge_iff_le gt_iff_lt decide_not Bool.not_true Bool.not_false imp_self gquiet cond_true cond_false beqT beqF Bool.not_not Bool.and_false Bool.false_and Bool.or_true Bool.true_or Bool.or_false Bool.false_or Loc_at Loc_at0 Loc_upd Loc_upd0 Loc_push Loc_push0 Option.join_some Nat.add_assoc Int.toNat_natCast eI eB eS eL fl_nil gopsD_nil gopsD_plain gopsD_t gopsD_f gopsD_n onKD onWD prunD_nil prunD_plain prunD_t prunD_f prunD_n onPD fitO fitO1 sameO fitL fl_append fl_one List.length_append G.agg.injEq G.row.injEq G.ref.injEq G.val.injEq G.sl.injEq G.tup.injEq Value.int.injEq Value.bool.injEq Value.string.injEq List.cons.injEq exists_and_left exists_const List.flatten_cons List.flatten_nil Int.le_refl Nat.le_refl upd_updU Loc_out Loc_updo Bool.not_eq_true' Bool.not_eq_false' wkl_nil wkl_cons wk_any wk_val wk_agg wk_tup wk_sl wk_fn List.size_toArray renO renO1 G.ren G.rens renL rho_at rho_at0 gP_none gP_some strip_gP wok_gP one_gP G.fn.injEq wk_slnil wk_slrow wk_slrs wk_ip wk_ipref wk_row wk_rs wk_rp wk_ref locLt0 locLt Option.join_none upd_same fl_cons undef keepL Arr.len Arr.put_eq prunB_nil prunB_bar prunB_bart prunB_plain prunB_t prunB_f prunB_n onB onBP gcopy setI_len Loc_cat0 Loc_cat1 Loc_cat2 Loc_cat3 Loc_cat4 Loc_cat5 noObjs_at prunK_nil prunK_bar prunK_pass prunK_plain prunK_low prunK_pt prunK_pf prunK_lt prunK_lf onKg onKa onKp popL pickOps lows lowG prunK_shp prunK_fill popH shpOp fillOp fillG rho_low rens_app Loc_cat6 Loc_cat7 Loc_cat8 Loc_cat9 Loc_cat10 Loc_cat11 Loc_cat12 Loc_cat13 Loc_cat14 Loc_cat15 Loc_cat16 dropM tab2 tkind2 tab3 tkind3 tab4 tkind4 tab5 tkind5 tab6 tkind6 tab7 tkind7 tab8 tkind8 tab9 tkind9 tab10 tkind10 tab11 tkind11 tab12 tkind12 tab13 tkind13 tab14 tkind14 tab15 tkind15 tab16 tkind16 tab17 tkind17 tab18 tkind18 tab19 tkind19 tab21 tkind21 tab22 tkind22 tab23 tkind23 tab24 tkind24 tab25 tkind25 tab26 tkind26 tab27 tkind27 tab28 tkind28 tab29 tkind29 tab30 tkind30 tab46 tkind46 tab49 tkind49 tab52 tkind52 tab56 tkind56 tab57 tkind57 tab58 tkind58 tab62 tkind62 tab68 tkind68 tab69 tkind69 tab70 tkind70 tab71 tkind71 tab78 tkind78 tab79 tkind79 tab81 tkind81 tab82 tkind82 tab83 tkind83 tab84 tkind84 tab95 tkind95 tab99 tkind99 tab101 tkind101 tab102 tkind102 tab109 tkind109 tab110 tkind110 tab113 tkind113 tab123 tkind123 tab124 tkind124 tab132 tkind132 tab133 tkind133 tab136 tkind136 tab138 tkind138 tab139 tkind139 tab141 tkind141 tab142 tkind142 tab157 tkind157 tab159 tkind159 tab160 tkind160 tab165 tkind165 tab166 tkind166 tab167 tkind167 tab169 tkind169 tab170 tkind170 tab171 tkind171 e_S_api_Tree e0_eq_S_api_Tree wkl_eI_u64 wka_eI_u64 len_eI_u64 one_eI_u64 wkp_eI_u64 undp_eI_u64 rens_eI_u64 renp_eI_u64 und_eI_u64 wkl_e_S_api_Tree wka_e_S_api_Tree len_e_S_api_Tree one_e_S_api_Tree wkp_e_S_api_Tree undp_e_S_api_Tree rens_e_S_api_Tree renp_e_S_api_Tree und_e_S_api_Tree e_S_api_WordEdit e_S_api_Edit e_S_api_Op e_S_api_KidEdit e0_eq_S_api_Edit e0_eq_S_api_Op e0_eq_S_api_KidEdit wkl_e_S_api_WordEdit wka_e_S_api_WordEdit len_e_S_api_WordEdit one_e_S_api_WordEdit wkp_e_S_api_WordEdit undp_e_S_api_WordEdit rens_e_S_api_WordEdit renp_e_S_api_WordEdit und_e_S_api_WordEdit wkl_e_S_api_KidEdit wka_e_S_api_KidEdit len_e_S_api_KidEdit one_e_S_api_KidEdit wkp_e_S_api_KidEdit undp_e_S_api_KidEdit rens_e_S_api_KidEdit renp_e_S_api_KidEdit und_e_S_api_KidEdit wkl_e_S_api_Op wka_e_S_api_Op len_e_S_api_Op one_e_S_api_Op wkp_e_S_api_Op undp_e_S_api_Op rens_e_S_api_Op renp_e_S_api_Op und_e_S_api_Op wkl_eI_u8 wka_eI_u8 len_eI_u8 one_eI_u8 wkp_eI_u8 undp_eI_u8 rens_eI_u8 renp_eI_u8 und_eI_u8 e_S_normal_writer wkl_e_S_normal_writer wka_e_S_normal_writer len_e_S_normal_writer one_e_S_normal_writer wkp_e_S_normal_writer undp_e_S_normal_writer rens_e_S_normal_writer renp_e_S_normal_writer und_e_S_normal_writer
theorem okb_centoref20_Right {r_centoref20_Right : (S_api_Edit → Int → Option Bool)} {r_centoref20_op : (Int → S_api_Op → Int → Option Bool)} (ok_r_centoref20_Right : ∀ {a0 : S_api_Edit} {a1 : Int} {r : Bool} {O : Objs} {n : Nat}, r_centoref20_Right a0 a1 = some r → GTo Try.prog 39 [.agg (c_S_api_Edit a0), .val (.int .i64 a1)] O n (.val (.bool r)) O n) (ok_r_centoref20_op : ∀ {a0 : Int} {a1 : S_api_Op} {a2 : Int} {r : Bool} {O : Objs} {n : Nat}, r_centoref20_op a0 a1 a2 = some r → GTo Try.prog 69 [.val (.int .i64 a0), .agg (c_S_api_Op a1), .val (.int .i64 a2)] O n (.val (.bool r)) O n) {a0 : S_api_Edit} {a1 : Int} {r : Bool} {O : Objs} {n : Nat} (h : b_centoref20_Right r_centoref20_Right r_centoref20_op a0 a1 = some r) : GTo Try.prog 39 [.agg (c_S_api_Edit a0), .val (.int .i64 a1)] O n (.val (.bool r)) O n := by
  unfold b_centoref20_Right at h
  refine fn_of tab_ok Try.call39 Try.func39 rfl (Nat.le_of_ble_eq_true rfl) (Nat.le_refl _) fun hU => ?_
  have hN0 : O n = none := hU.fresh _ (Nat.le_refl _)
  have hN : ∀ k, O (n + k) = none := fun k => hU.fresh _ (Nat.le_add_right _ _)
  show W _ _ _ _ ⟨216, [], [(0, .agg (c_S_api_Edit a0)), (1, .val (.int .i64 a1))]⟩ (Loc O n []) _
  refine W_sq [1, 2] (W_regionD tab_ok [] ?_)
  simp only [push_cast, seval, ↓reduceIte, cast_lit, hN0, hN]
  refine W_seqK ?_
  refine W_sq [1, 2, 24] (W_regionD tab_ok [none, none, none, none, none, none] ?_)
  simp only [push_cast, seval, ↓reduceIte, cast_lit, hN0, hN]
  repeat (with_reducible refine And.intro (by first | (intro h0; simp only [h0, and_self]; done) | (intro h0; simp only [h0, Bool.not_false, Bool.not_true, Bool.true_and, Bool.and_true, true_and, and_true, and_self, imp_self, implies_true, bne_iff_ne, ne_eq, beq_iff_eq]; done) | (intros; simp_all; done) | exact True.intro) ?_)
  refine W_cond (t := (cond (cond (a1 == 0) true (decide (a0.Kind < 0))) true (decide (3 < a0.Kind)))) rfl (fun c58 => ?_) (fun c58 => ?_)
  · replace h := condT c58 h
    refine W_sq [4] (W_regionD tab_ok [] ?_)
    simp only [push_cast, seval, ↓reduceIte, cast_lit, hN0, hN]
    refine W_ret ?_
    try simp only [gthen, gblock]
    have h := Option.some.inj h; subst h
    refine fin_loc (.inr rfl) hU [.val (.bool false)] (by omega) ?_
    simp only [push_cast, seval, ↓reduceIte, cast_lit, Try.results39, hN0, hN]
  · replace h := condF c58 h
    refine W_skip ?_
    try simp only [gthen, gblock]
    refine W_drop [1, 2] [true] ?_
    simp only [push_cast, seval, ↓reduceIte]
    refine W_seqK ?_
    obtain ⟨z3, hz3, h⟩ := bC h
    refine W_seqN (E' := ⟨216, [], [(1, .val (.int .i64 a1)), (2, .ref n 0), (69, .val (.bool z3))]⟩) (O' := (Loc O n [some ⟨false, 30, 11, 1, (c_S_api_Edit a0)⟩])) (n0 := (n + 1)) ?_ ?_
    · rcases Bool.eq_false_or_eq_true (a0.Kind != 1) with c8 | c8
      · replace hz3 := condT c8 hz3
        obtain ⟨y6, hy6, hz3⟩ := bC hz3
        rcases Bool.eq_false_or_eq_true y6 with c9 | c9
        · replace hz3 := condT c9 hz3
          try rw [c9] at c8
          obtain ⟨y7, hy7, hz3⟩ := bC hz3
          refine W_regionD tab_ok [some true, some true, some true, some true, some true, some true, some true, some true, some true, none, none, none, none, none, none, none, none, none, none, none, none, none, none, none, none, none, none, none, none, none, none, none, none, none, none, none] ?_
          simp only [push_cast, seval, ↓reduceIte, cast_lit, c8, c9, hN0, hN]
          repeat (with_reducible refine And.intro (by first | (intro h0; simp only [h0, and_self]; done) | (intro h0; simp only [h0, Bool.not_false, Bool.not_true, Bool.true_and, Bool.and_true, true_and, and_true, and_self, imp_self, implies_true, bne_iff_ne, ne_eq, beq_iff_eq]; done) | (intros; simp_all; done) | exact True.intro) ?_)
          refine (ok_centoref20_none hy6).then ?_
          simp only [push_cast, seval, ↓reduceIte, cast_lit, c8, c9, hN0, hN]
          repeat (with_reducible refine And.intro (by first | (intro h0; simp only [h0, and_self]; done) | (intro h0; simp only [h0, Bool.not_false, Bool.not_true, Bool.true_and, Bool.and_true, true_and, and_true, and_self, imp_self, implies_true, bne_iff_ne, ne_eq, beq_iff_eq]; done) | (intros; simp_all; done) | exact True.intro) ?_)
          refine (ok_centoref20_none hy7).then ?_
          simp only [push_cast, seval, ↓reduceIte, cast_lit, c8, c9, hN0, hN]
          repeat (with_reducible refine And.intro (by first | (intro h0; simp only [h0, and_self]; done) | (intro h0; simp only [h0, Bool.not_false, Bool.not_true, Bool.true_and, Bool.and_true, true_and, and_true, and_self, imp_self, implies_true, bne_iff_ne, ne_eq, beq_iff_eq]; done) | (intros; simp_all; done) | exact True.intro) ?_)
          have hz3 := Option.some.inj hz3; subst hz3
          refine And.intro rfl (Fit2.of (fit_loc hU rfl rfl ?_) (by omega))
          simp only [push_cast, seval, ↓reduceIte, cast_lit, c8, c9, hN0, hN]
        · replace hz3 := condF c9 hz3
          try rw [c9] at c8
          refine W_regionD tab_ok [some true, some true, some true, some true, some false, some false, some false, some true, some true, some false, some false, some false, some false, some false, some false, some false, some false, some false, some false, some false, some false, some false, some false, some false, some false, some false, some false, some false, some false, some false, some false, some false, some false, some false, some false, some false] ?_
          simp only [push_cast, seval, ↓reduceIte, cast_lit, c8, c9, hN0, hN]
          refine (ok_centoref20_none hy6).then ?_
          simp only [push_cast, seval, ↓reduceIte, cast_lit, c8, c9, hN0, hN]
          have hz3 := Option.some.inj hz3; subst hz3
          refine And.intro rfl (Fit2.of (fit_loc hU rfl rfl ?_) (by omega))
          simp only [push_cast, seval, ↓reduceIte, cast_lit, c8, c9, hN0, hN]
      · replace hz3 := condF c8 hz3
        refine W_regionD tab_ok [some false, some false, some false, some false, some false, some false, some false, some false, some false, some true, some true, some true, some true, none, none, none, none, none, none, none, none, some true, none, none, none, none, none, none, none, none, none, none, none, none, none, none] ?_
        simp only [push_cast, seval, ↓reduceIte, cast_lit, c8, hN0, hN]
        repeat (with_reducible refine And.intro (by first | (intro h0; simp only [h0, and_self]; done) | (intro h0; simp only [h0, Bool.not_false, Bool.not_true, Bool.true_and, Bool.and_true, true_and, and_true, and_self, imp_self, implies_true, bne_iff_ne, ne_eq, beq_iff_eq]; done) | (intros; simp_all; done) | exact True.intro) ?_)
        have hz3 := Option.some.inj hz3; subst hz3
        refine And.intro rfl (Fit2.of (fit_loc hU rfl rfl ?_) (by omega))
        simp only [push_cast, seval, ↓reduceIte, cast_lit, c8, hN0, hN]
    refine W_cond (t := z3) rfl (fun c57 => ?_) (fun c57 => ?_)
    · replace h := condT c57 h
      refine W_sq [4] (W_regionD tab_ok [] ?_)
      simp only [push_cast, seval, ↓reduceIte, cast_lit, hN0, hN]
      refine W_ret ?_
      try simp only [gthen, gblock]
      have h := Option.some.inj h; subst h
      refine fin_loc (.inr rfl) hU [.val (.bool false)] (by omega) ?_
      simp only [push_cast, seval, ↓reduceIte, cast_lit, Try.results39, hN0, hN]
    · replace h := condF c57 h
      refine W_skip ?_
      try simp only [gthen, gblock]
      refine W_drop [1, 2] [true] ?_
      simp only [push_cast, seval, ↓reduceIte]
      refine W_seqK ?_
      refine W_sq [1, 2, 72] (W_regionD tab_ok [] ?_)
      simp only [push_cast, seval, ↓reduceIte, cast_lit, hN0, hN]
      refine W_cond (t := (a0.Kind == 1)) rfl (fun c56 => ?_) (fun c56 => ?_)
      · replace h := condT c56 h
        obtain ⟨z12, hz12, h⟩ := bC h
        refine W_seqN (E' := ⟨216, [], [(4, .val (.bool z12))]⟩) (O' := (Loc O n [none])) (n0 := (n + 1)) ?_ ?_
        · obtain ⟨y15, hy15, hz12⟩ := bC hz12
          rcases Bool.eq_false_or_eq_true y15 with c17 | c17
          · replace hz12 := condT c17 hz12
            obtain ⟨y16, hy16, hz12⟩ := bC hz12
            refine W_regionD tab_ok [some true, some true, some true, none, none, none, none, none, none, none, none] ?_
            simp only [push_cast, seval, ↓reduceIte, cast_lit, c17, hN0, hN]
            repeat (with_reducible refine And.intro (by first | (intro h0; simp only [h0, and_self]; done) | (intro h0; simp only [h0, Bool.not_false, Bool.not_true, Bool.true_and, Bool.and_true, true_and, and_true, and_self, imp_self, implies_true, bne_iff_ne, ne_eq, beq_iff_eq]; done) | (intros; simp_all; done) | exact True.intro) ?_)
            refine (ok_centoref07_Right hy15).then ?_
            simp only [push_cast, seval, ↓reduceIte, cast_lit, c17, hN0, hN]
            repeat (with_reducible refine And.intro (by first | (intro h0; simp only [h0, and_self]; done) | (intro h0; simp only [h0, Bool.not_false, Bool.not_true, Bool.true_and, Bool.and_true, true_and, and_true, and_self, imp_self, implies_true, bne_iff_ne, ne_eq, beq_iff_eq]; done) | (intros; simp_all; done) | exact True.intro) ?_)
            refine (ok_centoref07_Right hy16).then ?_
            simp only [push_cast, seval, ↓reduceIte, cast_lit, c17, hN0, hN]
            repeat (with_reducible refine And.intro (by first | (intro h0; simp only [h0, and_self]; done) | (intro h0; simp only [h0, Bool.not_false, Bool.not_true, Bool.true_and, Bool.and_true, true_and, and_true, and_self, imp_self, implies_true, bne_iff_ne, ne_eq, beq_iff_eq]; done) | (intros; simp_all; done) | exact True.intro) ?_)
            have hz12 := Option.some.inj hz12; subst hz12
            refine And.intro rfl (Fit2.of (fit_loc hU rfl rfl ?_) (by omega))
            simp only [push_cast, seval, ↓reduceIte, cast_lit, c17, hN0, hN]
          · replace hz12 := condF c17 hz12
            refine W_regionD tab_ok [some false, some false, some false, some false, some false, some false, some false, some false, some false, some false, some false] ?_
            simp only [push_cast, seval, ↓reduceIte, cast_lit, c17, hN0, hN]
            refine (ok_centoref07_Right hy15).then ?_
            simp only [push_cast, seval, ↓reduceIte, cast_lit, c17, hN0, hN]
            have hz12 := Option.some.inj hz12; subst hz12
            refine And.intro rfl (Fit2.of (fit_loc hU rfl rfl ?_) (by omega))
            simp only [push_cast, seval, ↓reduceIte, cast_lit, c17, hN0, hN]
        refine W_ret ?_
        try simp only [gthen, gblock]
        have h := Option.some.inj h; subst h
        refine fin_loc (.inr rfl) hU [.val (.bool z12)] (by omega) ?_
        simp only [push_cast, seval, ↓reduceIte, cast_lit, Try.results39, hN0, hN]
      · replace h := condF c56 h
        refine W_skip ?_
        try simp only [gthen, gblock]
        refine W_drop [1, 2] [true] ?_
        simp only [push_cast, seval, ↓reduceIte]
        refine W_sq [1, 2, 5] (W_regionD tab_ok [] ?_)
        simp only [push_cast, seval, ↓reduceIte, cast_lit, hN0, hN]
        refine W_seqK ?_
        refine W_sq [1, 2, 5, 6] (W_regionD tab_ok [] ?_)
        simp only [push_cast, seval, ↓reduceIte, cast_lit, hN0, hN]
        refine W_drop [1, 2, 5, 6] [true] ?_
        simp only [push_cast, seval, ↓reduceIte]
        obtain ⟨z33, hz33, h⟩ := bC h
        refine W_sumB (J := (SumJ (fun z33 => JR n (⟨216, [], [(4, .val (.bool false))]⟩ : Env) (Loc O n [none]) (n + 1)) (fun z33 => JX 0 n (⟨216, [], [(1, .val (.int .i64 a1)), (2, .ref n 0)]⟩ : Env) (Loc O n [some ⟨false, 30, 11, 1, (c_S_api_Edit a0)⟩]) (n + 1)))) (z := z33) ?_ fun hw => ?_
        · refine W_loopJ hz33 (fun s0_ => ⟨216, [], [(1, .val (.int .i64 a1)), (2, .ref n 0), (5, .val (.int .i64 s0_.1)), (6, .val (.int .i64 s0_.2))]⟩) (fun s0_ => (Loc O n [some ⟨false, 30, 11, 1, (c_S_api_Edit a0)⟩])) (SumJ (fun z33 => JR n (⟨216, [], [(4, .val (.bool false))]⟩ : Env) (Loc O n [none]) (n + 1)) (fun z33 => JX 0 n (⟨216, [], [(1, .val (.int .i64 a1)), (2, .ref n 0)]⟩ : Env) (Loc O n [some ⟨false, 30, 11, 1, (c_S_api_Edit a0)⟩]) (n + 1))) ?_
          intro s0_ x0_ hs0_
          unfold b_centoref20_Right_L0 at hs0_
          try dsimp only
          refine W_seqK ?_
          refine W_sq [1, 2, 5, 6, 97] (W_regionD tab_ok [] ?_)
          simp only [push_cast, seval, ↓reduceIte, cast_lit, hN0, hN]
          refine W_cond (t := (decide (s0_.2 < (a0.Words.length : Int)))) rfl (fun c32 => ?_) (fun c32 => ?_)
          · replace hs0_ := condT c32 hs0_
            refine W_skip ?_
            try simp only [gthen, gblock]
            refine W_drop [1, 2, 5, 6] [true] ?_
            simp only [push_cast, seval, ↓reduceIte]
            refine W_seqK ?_
            refine W_block ?_
            refine W_seqK ?_
            obtain ⟨x19, hx19, ax19, bx19, cx19, hs0_⟩ := bE (f := e_S_api_WordEdit) tab58 (fun _ => rfl) (by decide) hs0_
            refine W_regionD tab_ok [] ?_
            simp only [push_cast, Nat.reduceAdd, Nat.reduceSub, Nat.reduceMul, Nat.reduceLeDiff, Nat.reduceLT, Nat.reduceEqDiff, ↓reduceIte, reduceCtorEq, Int.reduceBEq, Int.reduceBNe, Nat.reduceBEq, Int.reduceLE, Int.reduceLT, Int.reduceEq, Int.reduceNe, Int.reduceNeg, Nat.reduceDiv, Nat.reduceMod, Nat.reducePow, cast_lit, ax19, bx19, cx19, hN0, hN]
            refine W_drop [1, 2, 5, 6, 7] [true, true] ?_
            simp only [push_cast, seval, ↓reduceIte]
            refine W_seqK ?_
            obtain ⟨z22, hz22, hs0_⟩ := bC hs0_
            refine W_seqN (E' := ⟨216, [], [(1, .val (.int .i64 a1)), (2, .ref n 0), (6, .val (.int .i64 s0_.2)), (7, .ref (n + 1) 0), (134, .val (.bool z22))]⟩) (O' := (Loc O n [some ⟨false, 30, 11, 1, (c_S_api_Edit a0)⟩, some ⟨false, 58, 4, 1, (c_S_api_WordEdit x19)⟩])) (n0 := (n + 2)) ?_ ?_
            · rcases Bool.eq_false_or_eq_true (decide (x19.At ≤ s0_.1)) with c27 | c27
              · replace hz22 := condT c27 hz22
                refine W_regionD tab_ok [none, none, none, none, none, none, some false, some false, some false, some false, some false, some false, some false, some false, some false, some false, some false, some false] ?_
                simp only [push_cast, seval, ↓reduceIte, cast_lit, c27, hN0, hN]
                repeat (with_reducible refine And.intro (by first | (intro h0; simp only [h0, and_self]; done) | (intro h0; simp only [h0, Bool.not_false, Bool.not_true, Bool.true_and, Bool.and_true, true_and, and_true, and_self, imp_self, implies_true, bne_iff_ne, ne_eq, beq_iff_eq]; done) | (intros; simp_all; done) | exact True.intro) ?_)
                have hz22 := Option.some.inj hz22; subst hz22
                refine And.intro rfl (Fit2.of (fit_loc hU rfl rfl ?_) (by omega))
                simp only [push_cast, seval, ↓reduceIte, cast_lit, c27, hN0, hN]
              · replace hz22 := condF c27 hz22
                rcases Bool.eq_false_or_eq_true (decide (65534 < x19.At)) with c28 | c28
                · replace hz22 := condT c28 hz22
                  try rw [c28] at c27
                  refine W_regionD tab_ok [none, none, none, none, none, none, some false, some false, some false, some false, some false, some false, some false, some false, some false, some false, some false, some false] ?_
                  simp only [push_cast, seval, ↓reduceIte, cast_lit, c27, c28, hN0, hN]
                  repeat (with_reducible refine And.intro (by first | (intro h0; simp only [h0, and_self]; done) | (intro h0; simp only [h0, Bool.not_false, Bool.not_true, Bool.true_and, Bool.and_true, true_and, and_true, and_self, imp_self, implies_true, bne_iff_ne, ne_eq, beq_iff_eq]; done) | (intros; simp_all; done) | exact True.intro) ?_)
                  have hz22 := Option.some.inj hz22; subst hz22
                  refine And.intro rfl (Fit2.of (fit_loc hU rfl rfl ?_) (by omega))
                  simp only [push_cast, seval, ↓reduceIte, cast_lit, c27, c28, hN0, hN]
                · replace hz22 := condF c28 hz22
                  try rw [c28] at c27
                  rcases Bool.eq_false_or_eq_true (x19.Mask == 0) with c29 | c29
                  · replace hz22 := condT c29 hz22
                    try rw [c29] at c27
                    try rw [c29] at c28
                    refine W_regionD tab_ok [none, none, none, none, none, none, some false, some false, some false, some false, some false, some false, some false, some false, some false, some false, some false, some false] ?_
                    simp only [push_cast, seval, ↓reduceIte, cast_lit, c27, c28, c29, hN0, hN]
                    repeat (with_reducible refine And.intro (by first | (intro h0; simp only [h0, and_self]; done) | (intro h0; simp only [h0, Bool.not_false, Bool.not_true, Bool.true_and, Bool.and_true, true_and, and_true, and_self, imp_self, implies_true, bne_iff_ne, ne_eq, beq_iff_eq]; done) | (intros; simp_all; done) | exact True.intro) ?_)
                    have hz22 := Option.some.inj hz22; subst hz22
                    refine And.intro rfl (Fit2.of (fit_loc hU rfl rfl ?_) (by omega))
                    simp only [push_cast, seval, ↓reduceIte, cast_lit, c27, c28, c29, hN0, hN]
                  · replace hz22 := condF c29 hz22
                    try rw [c29] at c27
                    try rw [c29] at c28
                    obtain ⟨y25, hy25, hz22⟩ := bC hz22
                    rcases Bool.eq_false_or_eq_true y25 with c30 | c30
                    · replace hz22 := condT c30 hz22
                      try rw [c30] at c27
                      try rw [c30] at c28
                      try rw [c30] at c29
                      obtain ⟨y26, hy26, hz22⟩ := bC hz22
                      refine W_regionD tab_ok [none, none, none, none, none, none, some true, some true, some true, some true, some true, some true, some true, some true, some true, some true, some true, some true] ?_
                      simp only [push_cast, seval, ↓reduceIte, cast_lit, c27, c28, c29, c30, hN0, hN]
                      repeat (with_reducible refine And.intro (by first | (intro h0; simp only [h0, and_self]; done) | (intro h0; simp only [h0, Bool.not_false, Bool.not_true, Bool.true_and, Bool.and_true, true_and, and_true, and_self, imp_self, implies_true, bne_iff_ne, ne_eq, beq_iff_eq]; done) | (intros; simp_all; done) | exact True.intro) ?_)
                      refine (ok_centoref20_within hy25).then ?_
                      simp only [push_cast, seval, ↓reduceIte, cast_lit, c27, c28, c29, c30, hN0, hN]
                      repeat (with_reducible refine And.intro (by first | (intro h0; simp only [h0, and_self]; done) | (intro h0; simp only [h0, Bool.not_false, Bool.not_true, Bool.true_and, Bool.and_true, true_and, and_true, and_self, imp_self, implies_true, bne_iff_ne, ne_eq, beq_iff_eq]; done) | (intros; simp_all; done) | exact True.intro) ?_)
                      refine (ok_centoref20_within hy26).then ?_
                      simp only [push_cast, seval, ↓reduceIte, cast_lit, c27, c28, c29, c30, hN0, hN]
                      repeat (with_reducible refine And.intro (by first | (intro h0; simp only [h0, and_self]; done) | (intro h0; simp only [h0, Bool.not_false, Bool.not_true, Bool.true_and, Bool.and_true, true_and, and_true, and_self, imp_self, implies_true, bne_iff_ne, ne_eq, beq_iff_eq]; done) | (intros; simp_all; done) | exact True.intro) ?_)
                      have hz22 := Option.some.inj hz22; subst hz22
                      refine And.intro rfl (Fit2.of (fit_loc hU rfl rfl ?_) (by omega))
                      simp only [push_cast, seval, ↓reduceIte, cast_lit, c27, c28, c29, c30, hN0, hN]
                    · replace hz22 := condF c30 hz22
                      try rw [c30] at c27
                      try rw [c30] at c28
                      try rw [c30] at c29
                      refine W_regionD tab_ok [none, none, none, none, none, none, some true, some true, some true, some true, some true, some true, some false, some false, some false, some false, some false, some false] ?_
                      simp only [push_cast, seval, ↓reduceIte, cast_lit, c27, c28, c29, c30, hN0, hN]
                      repeat (with_reducible refine And.intro (by first | (intro h0; simp only [h0, and_self]; done) | (intro h0; simp only [h0, Bool.not_false, Bool.not_true, Bool.true_and, Bool.and_true, true_and, and_true, and_self, imp_self, implies_true, bne_iff_ne, ne_eq, beq_iff_eq]; done) | (intros; simp_all; done) | exact True.intro) ?_)
                      refine (ok_centoref20_within hy25).then ?_
                      simp only [push_cast, seval, ↓reduceIte, cast_lit, c27, c28, c29, c30, hN0, hN]
                      repeat (with_reducible refine And.intro (by first | (intro h0; simp only [h0, and_self]; done) | (intro h0; simp only [h0, Bool.not_false, Bool.not_true, Bool.true_and, Bool.and_true, true_and, and_true, and_self, imp_self, implies_true, bne_iff_ne, ne_eq, beq_iff_eq]; done) | (intros; simp_all; done) | exact True.intro) ?_)
                      have hz22 := Option.some.inj hz22; subst hz22
                      refine And.intro rfl (Fit2.of (fit_loc hU rfl rfl ?_) (by omega))
                      simp only [push_cast, seval, ↓reduceIte, cast_lit, c27, c28, c29, c30, hN0, hN]
            refine W_cond (t := z22) rfl (fun c31 => ?_) (fun c31 => ?_)
            · replace hs0_ := condT c31 hs0_
              refine W_sq [4] (W_regionD tab_ok [] ?_)
              simp only [push_cast, seval, ↓reduceIte, cast_lit, hN0, hN]
              refine W_ret ?_
              try simp only [gthen, gblock]
              have hs0_ := Option.some.inj hs0_; subst hs0_
              refine And.intro (fun h => by cases h) (And.intro rfl (Fit2.of (fit_loc hU rfl rfl ?_) (by omega)))
              simp only [push_cast, seval, ↓reduceIte, cast_lit, hN0, hN]
            · replace hs0_ := condF c31 hs0_
              refine W_skip ?_
              try simp only [gthen, gblock]
              refine W_drop [1, 2, 6, 7] [true, true] ?_
              simp only [push_cast, seval, ↓reduceIte]
              refine W_regionD tab_ok [] ?_
              simp only [push_cast, seval, ↓reduceIte, cast_lit, hN0, hN]
              refine W_drop [1, 2, 5, 6] [true, false] ?_
              simp only [push_cast, seval, ↓reduceIte]
              refine W_regionD tab_ok [] ?_
              simp only [push_cast, seval, ↓reduceIte, cast_lit, hN0, hN]
              have hs0_ := Option.some.inj hs0_; subst hs0_
              refine And.intro rfl (Fit2.of (fit_loc hU rfl rfl ?_) (by omega))
              simp only [push_cast, seval, ↓reduceIte, cast_lit, hN0, hN]
          · replace hs0_ := condF c32 hs0_
            refine W_exit ?_
            try simp only [gthen, gblock, ↓reduceIte, Nat.reduceEqDiff]
            have hs0_ := Option.some.inj hs0_; subst hs0_
            refine And.intro (fun h => by cases h) (And.intro rfl (Fit2.of (fit_loc hU rfl rfl ?_) (by omega)))
            simp only [push_cast, seval, ↓reduceIte, cast_lit, hN0, hN]
        rcases z33 with z33 | z33
        · dsimp only [SumJ] at hw h
          refine W_blockR hw ?_
          try simp only [gthen, gblock, ↓reduceIte, Nat.reduceEqDiff]
          have h := Option.some.inj h; subst h
          refine fin_loc (.inr rfl) hU [.val (.bool false)] (by omega) ?_
          simp only [push_cast, seval, ↓reduceIte, cast_lit, Try.results39, hN0, hN]
        · dsimp only [SumJ] at hw h
          refine W_blockX hw ?_
          try simp only [gthen, gblock, ↓reduceIte, Nat.reduceEqDiff]
          refine W_drop [1, 2] [true] ?_
          simp only [push_cast, seval, ↓reduceIte]
          refine W_sq [1, 2, 5] (W_regionD tab_ok [] ?_)
          simp only [push_cast, seval, ↓reduceIte, cast_lit, hN0, hN]
          refine W_seqK ?_
          refine W_sq [1, 2, 5, 8] (W_regionD tab_ok [] ?_)
          simp only [push_cast, seval, ↓reduceIte, cast_lit, hN0, hN]
          refine W_drop [1, 2, 5, 8] [true] ?_
          simp only [push_cast, seval, ↓reduceIte]
          obtain ⟨z45, hz45, h⟩ := bC h
          refine W_sumB (J := (SumJ (fun z45 => JR n (⟨216, [], [(4, .val (.bool false))]⟩ : Env) (Loc O n [none]) (n + 1)) (fun z45 => JX 2 n (⟨216, [], [(1, .val (.int .i64 a1)), (2, .ref n 0)]⟩ : Env) (Loc O n [some ⟨false, 30, 11, 1, (c_S_api_Edit a0)⟩]) (n + 1)))) (z := z45) ?_ fun hw => ?_
          · refine W_loopJ hz45 (fun s1_ => ⟨216, [], [(1, .val (.int .i64 a1)), (2, .ref n 0), (5, .val (.int .i64 s1_.1)), (8, .val (.int .i64 s1_.2))]⟩) (fun s1_ => (Loc O n [some ⟨false, 30, 11, 1, (c_S_api_Edit a0)⟩])) (SumJ (fun z45 => JR n (⟨216, [], [(4, .val (.bool false))]⟩ : Env) (Loc O n [none]) (n + 1)) (fun z45 => JX 2 n (⟨216, [], [(1, .val (.int .i64 a1)), (2, .ref n 0)]⟩ : Env) (Loc O n [some ⟨false, 30, 11, 1, (c_S_api_Edit a0)⟩]) (n + 1))) ?_
            intro s1_ x1_ hs1_
            unfold b_centoref20_Right_L1 at hs1_
            try dsimp only
            refine W_seqK ?_
            refine W_sq [1, 2, 5, 8, 141] (W_regionD tab_ok [] ?_)
            simp only [push_cast, seval, ↓reduceIte, cast_lit, hN0, hN]
            refine W_cond (t := (decide (s1_.2 < (a0.Kids.length : Int)))) rfl (fun c44 => ?_) (fun c44 => ?_)
            · replace hs1_ := condT c44 hs1_
              refine W_skip ?_
              try simp only [gthen, gblock]
              refine W_drop [1, 2, 5, 8] [true] ?_
              simp only [push_cast, seval, ↓reduceIte]
              refine W_seqK ?_
              refine W_block ?_
              refine W_seqK ?_
              obtain ⟨x35, hx35, ax35, bx35, cx35, hs1_⟩ := bE (f := e_S_api_KidEdit) tab71 (fun _ => rfl) (by decide) hs1_
              refine W_regionD tab_ok [] ?_
              simp only [push_cast, Nat.reduceAdd, Nat.reduceSub, Nat.reduceMul, Nat.reduceLeDiff, Nat.reduceLT, Nat.reduceEqDiff, ↓reduceIte, reduceCtorEq, Int.reduceBEq, Int.reduceBNe, Nat.reduceBEq, Int.reduceLE, Int.reduceLT, Int.reduceEq, Int.reduceNe, Int.reduceNeg, Nat.reduceDiv, Nat.reduceMod, Nat.reducePow, cast_lit, ax35, bx35, cx35, hN0, hN]
              refine W_drop [1, 2, 5, 8, 9] [true, true] ?_
              simp only [push_cast, seval, ↓reduceIte]
              refine W_seqK ?_
              obtain ⟨z37, hz37, hs1_⟩ := bC hs1_
              refine W_seqN (E' := ⟨216, [], [(1, .val (.int .i64 a1)), (2, .ref n 0), (8, .val (.int .i64 s1_.2)), (9, .ref (n + 1) 0), (171, .val (.bool z37))]⟩) (O' := (Loc O n [some ⟨false, 30, 11, 1, (c_S_api_Edit a0)⟩, some ⟨false, 71, 12, 1, (c_S_api_KidEdit x35)⟩])) (n0 := (n + 2)) ?_ ?_
              · rcases Bool.eq_false_or_eq_true (decide (x35.At ≤ s1_.1)) with c40 | c40
                · replace hz37 := condT c40 hz37
                  refine W_regionD tab_ok [none, none, none, none, none, none, none, some false, some false, some false, some false, some false, some false] ?_
                  simp only [push_cast, seval, ↓reduceIte, cast_lit, c40, hN0, hN]
                  repeat (with_reducible refine And.intro (by first | (intro h0; simp only [h0, and_self]; done) | (intro h0; simp only [h0, Bool.not_false, Bool.not_true, Bool.true_and, Bool.and_true, true_and, and_true, and_self, imp_self, implies_true, bne_iff_ne, ne_eq, beq_iff_eq]; done) | (intros; simp_all; done) | exact True.intro) ?_)
                  have hz37 := Option.some.inj hz37; subst hz37
                  refine And.intro rfl (Fit2.of (fit_loc hU rfl rfl ?_) (by omega))
                  simp only [push_cast, seval, ↓reduceIte, cast_lit, c40, hN0, hN]
                · replace hz37 := condF c40 hz37
                  rcases Bool.eq_false_or_eq_true (decide (65534 < x35.At)) with c41 | c41
                  · replace hz37 := condT c41 hz37
                    try rw [c41] at c40
                    refine W_regionD tab_ok [none, none, none, none, none, none, none, some false, some false, some false, some false, some false, some false] ?_
                    simp only [push_cast, seval, ↓reduceIte, cast_lit, c40, c41, hN0, hN]
                    repeat (with_reducible refine And.intro (by first | (intro h0; simp only [h0, and_self]; done) | (intro h0; simp only [h0, Bool.not_false, Bool.not_true, Bool.true_and, Bool.and_true, true_and, and_true, and_self, imp_self, implies_true, bne_iff_ne, ne_eq, beq_iff_eq]; done) | (intros; simp_all; done) | exact True.intro) ?_)
                    have hz37 := Option.some.inj hz37; subst hz37
                    refine And.intro rfl (Fit2.of (fit_loc hU rfl rfl ?_) (by omega))
                    simp only [push_cast, seval, ↓reduceIte, cast_lit, c40, c41, hN0, hN]
                  · replace hz37 := condF c41 hz37
                    try rw [c41] at c40
                    rcases Bool.eq_false_or_eq_true (x35.E.Kind == 0) with c42 | c42
                    · replace hz37 := condT c42 hz37
                      try rw [c42] at c40
                      try rw [c42] at c41
                      refine W_regionD tab_ok [none, none, none, none, none, none, none, some false, some false, some false, some false, some false, some false] ?_
                      simp only [push_cast, seval, ↓reduceIte, cast_lit, c40, c41, c42, hN0, hN]
                      repeat (with_reducible refine And.intro (by first | (intro h0; simp only [h0, and_self]; done) | (intro h0; simp only [h0, Bool.not_false, Bool.not_true, Bool.true_and, Bool.and_true, true_and, and_true, and_self, imp_self, implies_true, bne_iff_ne, ne_eq, beq_iff_eq]; done) | (intros; simp_all; done) | exact True.intro) ?_)
                      have hz37 := Option.some.inj hz37; subst hz37
                      refine And.intro rfl (Fit2.of (fit_loc hU rfl rfl ?_) (by omega))
                      simp only [push_cast, seval, ↓reduceIte, cast_lit, c40, c41, c42, hN0, hN]
                    · replace hz37 := condF c42 hz37
                      try rw [c42] at c40
                      try rw [c42] at c41
                      obtain ⟨y39, hy39, hz37⟩ := bC hz37
                      refine W_regionD tab_ok [none, none, none, none, none, none, none, some true, some true, some true, some true, some true, some true] ?_
                      simp only [push_cast, seval, ↓reduceIte, cast_lit, c40, c41, c42, hN0, hN]
                      repeat (with_reducible refine And.intro (by first | (intro h0; simp only [h0, and_self]; done) | (intro h0; simp only [h0, Bool.not_false, Bool.not_true, Bool.true_and, Bool.and_true, true_and, and_true, and_self, imp_self, implies_true, bne_iff_ne, ne_eq, beq_iff_eq]; done) | (intros; simp_all; done) | exact True.intro) ?_)
                      refine (ok_r_centoref20_Right hy39).then ?_
                      simp only [push_cast, seval, ↓reduceIte, cast_lit, c40, c41, c42, hN0, hN]
                      repeat (with_reducible refine And.intro (by first | (intro h0; simp only [h0, and_self]; done) | (intro h0; simp only [h0, Bool.not_false, Bool.not_true, Bool.true_and, Bool.and_true, true_and, and_true, and_self, imp_self, implies_true, bne_iff_ne, ne_eq, beq_iff_eq]; done) | (intros; simp_all; done) | exact True.intro) ?_)
                      have hz37 := Option.some.inj hz37; subst hz37
                      refine And.intro rfl (Fit2.of (fit_loc hU rfl rfl ?_) (by omega))
                      simp only [push_cast, seval, ↓reduceIte, cast_lit, c40, c41, c42, hN0, hN]
              refine W_cond (t := z37) rfl (fun c43 => ?_) (fun c43 => ?_)
              · replace hs1_ := condT c43 hs1_
                refine W_sq [4] (W_regionD tab_ok [] ?_)
                simp only [push_cast, seval, ↓reduceIte, cast_lit, hN0, hN]
                refine W_ret ?_
                try simp only [gthen, gblock]
                have hs1_ := Option.some.inj hs1_; subst hs1_
                refine And.intro (fun h => by cases h) (And.intro rfl (Fit2.of (fit_loc hU rfl rfl ?_) (by omega)))
                simp only [push_cast, seval, ↓reduceIte, cast_lit, hN0, hN]
              · replace hs1_ := condF c43 hs1_
                refine W_skip ?_
                try simp only [gthen, gblock]
                refine W_drop [1, 2, 8, 9] [true, true] ?_
                simp only [push_cast, seval, ↓reduceIte]
                refine W_regionD tab_ok [] ?_
                simp only [push_cast, seval, ↓reduceIte, cast_lit, hN0, hN]
                refine W_drop [1, 2, 5, 8] [true, false] ?_
                simp only [push_cast, seval, ↓reduceIte]
                refine W_regionD tab_ok [] ?_
                simp only [push_cast, seval, ↓reduceIte, cast_lit, hN0, hN]
                have hs1_ := Option.some.inj hs1_; subst hs1_
                refine And.intro rfl (Fit2.of (fit_loc hU rfl rfl ?_) (by omega))
                simp only [push_cast, seval, ↓reduceIte, cast_lit, hN0, hN]
            · replace hs1_ := condF c44 hs1_
              refine W_exit ?_
              try simp only [gthen, gblock, ↓reduceIte, Nat.reduceEqDiff]
              have hs1_ := Option.some.inj hs1_; subst hs1_
              refine And.intro (fun h => by cases h) (And.intro rfl (Fit2.of (fit_loc hU rfl rfl ?_) (by omega)))
              simp only [push_cast, seval, ↓reduceIte, cast_lit, hN0, hN]
          rcases z45 with z45 | z45
          · dsimp only [SumJ] at hw h
            refine W_blockR hw ?_
            try simp only [gthen, gblock, ↓reduceIte, Nat.reduceEqDiff]
            have h := Option.some.inj h; subst h
            refine fin_loc (.inr rfl) hU [.val (.bool false)] (by omega) ?_
            simp only [push_cast, seval, ↓reduceIte, cast_lit, Try.results39, hN0, hN]
          · dsimp only [SumJ] at hw h
            refine W_blockX hw ?_
            try simp only [gthen, gblock, ↓reduceIte, Nat.reduceEqDiff]
            refine W_drop [1, 2] [true] ?_
            simp only [push_cast, seval, ↓reduceIte]
            refine W_seqK ?_
            refine W_sq [1, 2, 186] (W_regionD tab_ok [none, none, none, none, none, none, none, none] ?_)
            simp only [push_cast, seval, ↓reduceIte, cast_lit, hN0, hN]
            repeat (with_reducible refine And.intro (by first | (intro h0; simp only [h0, and_self]; done) | (intro h0; simp only [h0, Bool.not_false, Bool.not_true, Bool.true_and, Bool.and_true, true_and, and_true, and_self, imp_self, implies_true, bne_iff_ne, ne_eq, beq_iff_eq]; done) | (intros; simp_all; done) | exact True.intro) ?_)
            refine W_cond (t := (cond (a0.Kind == 3) (cond (decide (a0.List_ < 2)) true (decide (9 < a0.List_))) false)) rfl (fun c55 => ?_) (fun c55 => ?_)
            · replace h := condT c55 h
              refine W_sq [4] (W_regionD tab_ok [] ?_)
              simp only [push_cast, seval, ↓reduceIte, cast_lit, hN0, hN]
              refine W_ret ?_
              try simp only [gthen, gblock]
              have h := Option.some.inj h; subst h
              refine fin_loc (.inr rfl) hU [.val (.bool false)] (by omega) ?_
              simp only [push_cast, seval, ↓reduceIte, cast_lit, Try.results39, hN0, hN]
            · replace h := condF c55 h
              refine W_skip ?_
              try simp only [gthen, gblock]
              refine W_drop [1, 2] [true] ?_
              simp only [push_cast, seval, ↓reduceIte]
              refine W_seqK ?_
              refine W_sq [1, 2, 10] (W_regionD tab_ok [] ?_)
              simp only [push_cast, seval, ↓reduceIte, cast_lit, hN0, hN]
              refine W_drop [1, 2, 10] [true] ?_
              simp only [push_cast, seval, ↓reduceIte]
              obtain ⟨z52, hz52, h⟩ := bC h
              refine W_sumB (J := (SumJ (fun z52 => JR n (⟨216, [], [(4, .val (.bool false))]⟩ : Env) (Loc O n [none]) (n + 1)) (fun z52 => JX 4 n (⟨216, [], [(2, .ref n 0)]⟩ : Env) (Loc O n [some ⟨false, 30, 11, 1, (c_S_api_Edit a0)⟩]) (n + 1)))) (z := z52) ?_ fun hw => ?_
              · refine W_loopJ hz52 (fun s2_ => ⟨216, [], [(1, .val (.int .i64 a1)), (2, .ref n 0), (10, .val (.int .i64 s2_))]⟩) (fun s2_ => (Loc O n [some ⟨false, 30, 11, 1, (c_S_api_Edit a0)⟩])) (SumJ (fun z52 => JR n (⟨216, [], [(4, .val (.bool false))]⟩ : Env) (Loc O n [none]) (n + 1)) (fun z52 => JX 4 n (⟨216, [], [(2, .ref n 0)]⟩ : Env) (Loc O n [some ⟨false, 30, 11, 1, (c_S_api_Edit a0)⟩]) (n + 1))) ?_
                intro s2_ x2_ hs2_
                unfold b_centoref20_Right_L2 at hs2_
                try dsimp only
                refine W_seqK ?_
                refine W_sq [1, 2, 10, 191] (W_regionD tab_ok [] ?_)
                simp only [push_cast, seval, ↓reduceIte, cast_lit, hN0, hN]
                refine W_cond (t := (decide (s2_ < (a0.Ops.length : Int)))) rfl (fun c51 => ?_) (fun c51 => ?_)
                · replace hs2_ := condT c51 hs2_
                  refine W_skip ?_
                  try simp only [gthen, gblock]
                  refine W_drop [1, 2, 10] [true] ?_
                  simp only [push_cast, seval, ↓reduceIte]
                  refine W_seqK ?_
                  refine W_block ?_
                  refine W_seqK ?_
                  obtain ⟨x48, hx48, ax48, bx48, cx48, hs2_⟩ := bE (f := e_S_api_Op) tab69 (fun _ => rfl) (by decide) hs2_
                  obtain ⟨y49, hy49, hs2_⟩ := bC hs2_
                  refine W_drawD tab_ok (by kernel_rfl) [] (by kernel_rfl) ?_
                  simp only [push_cast, Nat.reduceAdd, Nat.reduceSub, Nat.reduceMul, Nat.reduceLeDiff, Nat.reduceLT, Nat.reduceEqDiff, ↓reduceIte, reduceCtorEq, Int.reduceBEq, Int.reduceBNe, Nat.reduceBEq, Int.reduceLE, Int.reduceLT, Int.reduceEq, Int.reduceNe, Int.reduceNeg, Nat.reduceDiv, Nat.reduceMod, Nat.reducePow, cast_lit, ax48, bx48, cx48, hN0, hN]
                  refine PCall.of (ok_r_centoref20_op hy49) ?_
                  simp only [push_cast, Nat.reduceAdd, Nat.reduceSub, Nat.reduceMul, Nat.reduceLeDiff, Nat.reduceLT, Nat.reduceEqDiff, ↓reduceIte, reduceCtorEq, Int.reduceBEq, Int.reduceBNe, Nat.reduceBEq, Int.reduceLE, Int.reduceLT, Int.reduceEq, Int.reduceNe, Int.reduceNeg, Nat.reduceDiv, Nat.reduceMod, Nat.reducePow, cast_lit, ax48, bx48, cx48, hN0, hN]
                  refine W_drop [1, 2, 10, 204] [true] ?_
                  simp only [push_cast, seval, ↓reduceIte]
                  refine W_cond (t := (!y49)) rfl (fun c50 => ?_) (fun c50 => ?_)
                  · replace hs2_ := condT c50 hs2_
                    refine W_sq [4] (W_regionD tab_ok [] ?_)
                    simp only [push_cast, seval, ↓reduceIte, cast_lit, hN0, hN]
                    refine W_ret ?_
                    try simp only [gthen, gblock]
                    have hs2_ := Option.some.inj hs2_; subst hs2_
                    refine And.intro (fun h => by cases h) (And.intro rfl (Fit2.of (fit_loc hU rfl rfl ?_) (by omega)))
                    simp only [push_cast, seval, ↓reduceIte, cast_lit, hN0, hN]
                  · replace hs2_ := condF c50 hs2_
                    refine W_skip ?_
                    try simp only [gthen, gblock]
                    refine W_drop [1, 2, 10] [true] ?_
                    simp only [push_cast, seval, ↓reduceIte]
                    refine W_regionD tab_ok [] ?_
                    simp only [push_cast, seval, ↓reduceIte, cast_lit, hN0, hN]
                    have hs2_ := Option.some.inj hs2_; subst hs2_
                    refine And.intro rfl (Fit2.of (fit_loc hU rfl rfl ?_) (by omega))
                    simp only [push_cast, seval, ↓reduceIte, cast_lit, hN0, hN]
                · replace hs2_ := condF c51 hs2_
                  refine W_exit ?_
                  try simp only [gthen, gblock, ↓reduceIte, Nat.reduceEqDiff]
                  have hs2_ := Option.some.inj hs2_; subst hs2_
                  refine And.intro (fun h => by cases h) (And.intro rfl (Fit2.of (fit_loc hU rfl rfl ?_) (by omega)))
                  simp only [push_cast, seval, ↓reduceIte, cast_lit, hN0, hN]
              rcases z52 with z52 | z52
              · dsimp only [SumJ] at hw h
                refine W_blockR hw ?_
                try simp only [gthen, gblock, ↓reduceIte, Nat.reduceEqDiff]
                have h := Option.some.inj h; subst h
                refine fin_loc (.inr rfl) hU [.val (.bool false)] (by omega) ?_
                simp only [push_cast, seval, ↓reduceIte, cast_lit, Try.results39, hN0, hN]
              · dsimp only [SumJ] at hw h
                refine W_blockX hw ?_
                try simp only [gthen, gblock, ↓reduceIte, Nat.reduceEqDiff]
                refine W_drop [2] [true] ?_
                simp only [push_cast, seval, ↓reduceIte]
                refine W_seqK ?_
                obtain ⟨y54, hy54, h⟩ := bC h
                refine W_regionD tab_ok [] ?_
                simp only [push_cast, seval, ↓reduceIte, cast_lit, hN0, hN]
                refine (ok_centoref20_Lengths hy54).then ?_
                simp only [push_cast, seval, ↓reduceIte, cast_lit, hN0, hN]
                refine W_drop [11, 12] [false] ?_
                simp only [push_cast, seval, ↓reduceIte]
                refine W_sq [4] (W_regionD tab_ok [none, none] ?_)
                simp only [push_cast, seval, ↓reduceIte, cast_lit, hN0, hN]
                repeat (with_reducible refine And.intro (by first | (intro h0; simp only [h0, and_self]; done) | (intro h0; simp only [h0, Bool.not_false, Bool.not_true, Bool.true_and, Bool.and_true, true_and, and_true, and_self, imp_self, implies_true, bne_iff_ne, ne_eq, beq_iff_eq]; done) | (intros; simp_all; done) | exact True.intro) ?_)
                refine W_ret ?_
                try simp only [gthen, gblock]
                have h := Option.some.inj h; subst h
                refine fin_loc (.inr rfl) hU [.val (.bool (cond (decide (y54.1 < 1048576)) (decide (y54.2 < 1048576)) false))] (by omega) ?_
                simp only [push_cast, seval, ↓reduceIte, cast_lit, Try.results39, hN0, hN]
theorem okb_centoref20_op {r_centoref20_Right : (S_api_Edit → Int → Option Bool)} {r_centoref20_op : (Int → S_api_Op → Int → Option Bool)} (ok_r_centoref20_Right : ∀ {a0 : S_api_Edit} {a1 : Int} {r : Bool} {O : Objs} {n : Nat}, r_centoref20_Right a0 a1 = some r → GTo Try.prog 39 [.agg (c_S_api_Edit a0), .val (.int .i64 a1)] O n (.val (.bool r)) O n) (ok_r_centoref20_op : ∀ {a0 : Int} {a1 : S_api_Op} {a2 : Int} {r : Bool} {O : Objs} {n : Nat}, r_centoref20_op a0 a1 a2 = some r → GTo Try.prog 69 [.val (.int .i64 a0), .agg (c_S_api_Op a1), .val (.int .i64 a2)] O n (.val (.bool r)) O n) {a0 : Int} {a1 : S_api_Op} {a2 : Int} {r : Bool} {O : Objs} {n : Nat} (h : b_centoref20_op r_centoref20_Right r_centoref20_op a0 a1 a2 = some r) : GTo Try.prog 69 [.val (.int .i64 a0), .agg (c_S_api_Op a1), .val (.int .i64 a2)] O n (.val (.bool r)) O n := by
  unfold b_centoref20_op at h
  refine fn_of tab_ok Try.call69 Try.func69 rfl (Nat.le_of_ble_eq_true rfl) (Nat.le_refl _) fun hU => ?_
  have hN0 : O n = none := hU.fresh _ (Nat.le_refl _)
  have hN : ∀ k, O (n + k) = none := fun k => hU.fresh _ (Nat.le_add_right _ _)
  show W _ _ _ _ ⟨121, [], [(0, .val (.int .i64 a0)), (1, .agg (c_S_api_Op a1)), (2, .val (.int .i64 a2))]⟩ (Loc O n []) _
  refine W_sq [0, 2, 4] (W_regionD tab_ok [] ?_)
  simp only [push_cast, seval, ↓reduceIte, cast_lit, hN0, hN]
  refine W_seqK ?_
  refine W_sq [0, 2, 4, 10] (W_regionD tab_ok [] ?_)
  simp only [push_cast, seval, ↓reduceIte, cast_lit, hN0, hN]
  refine W_cond (t := (a1.Kind == 0)) rfl (fun c30 => ?_) (fun c30 => ?_)
  · replace h := condT c30 h
    obtain ⟨z2, hz2, h⟩ := bC h
    refine W_seqN (E' := ⟨121, [], [(6, .val (.bool z2))]⟩) (O' := (Loc O n [none])) (n0 := (n + 1)) ?_ ?_
    · rcases Bool.eq_false_or_eq_true (decide (1 ≤ a1.N)) with c5 | c5
      · replace hz2 := condT c5 hz2
        rcases Bool.eq_false_or_eq_true (decide (a1.N ≤ 1048576)) with c6 | c6
        · replace hz2 := condT c6 hz2
          try rw [c6] at c5
          rcases Bool.eq_false_or_eq_true ((a1.L.length : Int) == 0) with c7 | c7
          · replace hz2 := condT c7 hz2
            try rw [c7] at c5
            try rw [c7] at c6
            obtain ⟨y4, hy4, hz2⟩ := bC hz2
            refine W_regionD tab_ok [none, none, none, none, none, none, none, some true, some true, some true] ?_
            simp only [push_cast, seval, ↓reduceIte, cast_lit, c5, c6, c7, hN0, hN]
            repeat (with_reducible refine And.intro (by first | (intro h0; simp only [h0, and_self]; done) | (intro h0; simp only [h0, Bool.not_false, Bool.not_true, Bool.true_and, Bool.and_true, true_and, and_true, and_self, imp_self, implies_true, bne_iff_ne, ne_eq, beq_iff_eq]; done) | (intros; simp_all; done) | exact True.intro) ?_)
            refine (ok_centoref20_same hy4).then ?_
            simp only [push_cast, seval, ↓reduceIte, cast_lit, c5, c6, c7, hN0, hN]
            repeat (with_reducible refine And.intro (by first | (intro h0; simp only [h0, and_self]; done) | (intro h0; simp only [h0, Bool.not_false, Bool.not_true, Bool.true_and, Bool.and_true, true_and, and_true, and_self, imp_self, implies_true, bne_iff_ne, ne_eq, beq_iff_eq]; done) | (intros; simp_all; done) | exact True.intro) ?_)
            have hz2 := Option.some.inj hz2; subst hz2
            refine And.intro rfl (Fit2.of (fit_loc hU rfl rfl ?_) (by omega))
            simp only [push_cast, seval, ↓reduceIte, cast_lit, c5, c6, c7, hN0, hN]
          · replace hz2 := condF c7 hz2
            try rw [c7] at c5
            try rw [c7] at c6
            refine W_regionD tab_ok [none, none, none, none, none, none, none, some false, some false, some false] ?_
            simp only [push_cast, seval, ↓reduceIte, cast_lit, c5, c6, c7, hN0, hN]
            repeat (with_reducible refine And.intro (by first | (intro h0; simp only [h0, and_self]; done) | (intro h0; simp only [h0, Bool.not_false, Bool.not_true, Bool.true_and, Bool.and_true, true_and, and_true, and_self, imp_self, implies_true, bne_iff_ne, ne_eq, beq_iff_eq]; done) | (intros; simp_all; done) | exact True.intro) ?_)
            have hz2 := Option.some.inj hz2; subst hz2
            refine And.intro rfl (Fit2.of (fit_loc hU rfl rfl ?_) (by omega))
            simp only [push_cast, seval, ↓reduceIte, cast_lit, c5, c6, c7, hN0, hN]
        · replace hz2 := condF c6 hz2
          try rw [c6] at c5
          refine W_regionD tab_ok [none, none, none, none, none, none, none, some false, some false, some false] ?_
          simp only [push_cast, seval, ↓reduceIte, cast_lit, c5, c6, hN0, hN]
          repeat (with_reducible refine And.intro (by first | (intro h0; simp only [h0, and_self]; done) | (intro h0; simp only [h0, Bool.not_false, Bool.not_true, Bool.true_and, Bool.and_true, true_and, and_true, and_self, imp_self, implies_true, bne_iff_ne, ne_eq, beq_iff_eq]; done) | (intros; simp_all; done) | exact True.intro) ?_)
          have hz2 := Option.some.inj hz2; subst hz2
          refine And.intro rfl (Fit2.of (fit_loc hU rfl rfl ?_) (by omega))
          simp only [push_cast, seval, ↓reduceIte, cast_lit, c5, c6, hN0, hN]
      · replace hz2 := condF c5 hz2
        refine W_regionD tab_ok [none, none, none, none, none, none, none, some false, some false, some false] ?_
        simp only [push_cast, seval, ↓reduceIte, cast_lit, c5, hN0, hN]
        repeat (with_reducible refine And.intro (by first | (intro h0; simp only [h0, and_self]; done) | (intro h0; simp only [h0, Bool.not_false, Bool.not_true, Bool.true_and, Bool.and_true, true_and, and_true, and_self, imp_self, implies_true, bne_iff_ne, ne_eq, beq_iff_eq]; done) | (intros; simp_all; done) | exact True.intro) ?_)
        have hz2 := Option.some.inj hz2; subst hz2
        refine And.intro rfl (Fit2.of (fit_loc hU rfl rfl ?_) (by omega))
        simp only [push_cast, seval, ↓reduceIte, cast_lit, c5, hN0, hN]
    refine W_ret ?_
    try simp only [gthen, gblock]
    have h := Option.some.inj h; subst h
    refine fin_loc (.inr rfl) hU [.val (.bool z2)] (by omega) ?_
    simp only [push_cast, seval, ↓reduceIte, cast_lit, Try.results69, hN0, hN]
  · replace h := condF c30 h
    refine W_skip ?_
    try simp only [gthen, gblock]
    refine W_drop [0, 2, 4] [true] ?_
    simp only [push_cast, seval, ↓reduceIte]
    refine W_seqK ?_
    refine W_sq [0, 2, 4, 42] (W_regionD tab_ok [none, none, none, none, none, none] ?_)
    simp only [push_cast, seval, ↓reduceIte, cast_lit, hN0, hN]
    repeat (with_reducible refine And.intro (by first | (intro h0; simp only [h0, and_self]; done) | (intro h0; simp only [h0, Bool.not_false, Bool.not_true, Bool.true_and, Bool.and_true, true_and, and_true, and_self, imp_self, implies_true, bne_iff_ne, ne_eq, beq_iff_eq]; done) | (intros; simp_all; done) | exact True.intro) ?_)
    refine W_cond (t := (cond (cond (a1.N != 0) true (decide (a1.Kind < 0))) true (decide (3 < a1.Kind)))) rfl (fun c29 => ?_) (fun c29 => ?_)
    · replace h := condT c29 h
      refine W_sq [6] (W_regionD tab_ok [] ?_)
      simp only [push_cast, seval, ↓reduceIte, cast_lit, hN0, hN]
      refine W_ret ?_
      try simp only [gthen, gblock]
      have h := Option.some.inj h; subst h
      refine fin_loc (.inr rfl) hU [.val (.bool false)] (by omega) ?_
      simp only [push_cast, seval, ↓reduceIte, cast_lit, Try.results69, hN0, hN]
    · replace h := condF c29 h
      refine W_skip ?_
      try simp only [gthen, gblock]
      refine W_drop [0, 2, 4] [true] ?_
      simp only [push_cast, seval, ↓reduceIte]
      refine W_seqK ?_
      refine W_sq [0, 2, 4, 45] (W_regionD tab_ok [] ?_)
      simp only [push_cast, seval, ↓reduceIte, cast_lit, hN0, hN]
      refine W_cond (t := (decide (a1.Kind < 3))) rfl (fun c28 => ?_) (fun c28 => ?_)
      · replace h := condT c28 h
        refine W_seqK ?_
        refine W_sq [0, 4, 7] (W_regionD tab_ok [] ?_)
        simp only [push_cast, seval, ↓reduceIte, cast_lit, hN0, hN]
        refine W_drop [0, 4, 7] [true] ?_
        simp only [push_cast, seval, ↓reduceIte]
        obtain ⟨z14, hz14, h⟩ := bC h
        refine W_sumB (J := (SumJ (fun z14 => JR n (⟨121, [], [(6, .val (.bool false))]⟩ : Env) (Loc O n [none]) (n + 1)) (fun z14 => JX 0 n (⟨121, [], [(4, .ref n 0)]⟩ : Env) (Loc O n [some ⟨false, 69, 14, 1, (c_S_api_Op a1)⟩]) (n + 1)))) (z := z14) ?_ fun hw => ?_
        · refine W_loopJ hz14 (fun s0_ => ⟨121, [], [(0, .val (.int .i64 a0)), (4, .ref n 0), (7, .val (.int .i64 s0_))]⟩) (fun s0_ => (Loc O n [some ⟨false, 69, 14, 1, (c_S_api_Op a1)⟩])) (SumJ (fun z14 => JR n (⟨121, [], [(6, .val (.bool false))]⟩ : Env) (Loc O n [none]) (n + 1)) (fun z14 => JX 0 n (⟨121, [], [(4, .ref n 0)]⟩ : Env) (Loc O n [some ⟨false, 69, 14, 1, (c_S_api_Op a1)⟩]) (n + 1))) ?_
          intro s0_ x0_ hs0_
          unfold b_centoref20_op_L0 at hs0_
          try dsimp only
          refine W_seqK ?_
          refine W_sq [0, 4, 7, 50] (W_regionD tab_ok [] ?_)
          simp only [push_cast, seval, ↓reduceIte, cast_lit, hN0, hN]
          refine W_cond (t := (decide (s0_ < (a1.L.length : Int)))) rfl (fun c13 => ?_) (fun c13 => ?_)
          · replace hs0_ := condT c13 hs0_
            refine W_skip ?_
            try simp only [gthen, gblock]
            refine W_drop [0, 4, 7] [true] ?_
            simp only [push_cast, seval, ↓reduceIte]
            refine W_seqK ?_
            refine W_block ?_
            refine W_seqK ?_
            obtain ⟨l10, al10, bl10, cl10, gl10, hs0_⟩ := bS (lo := (some (.i64, s0_))) (hi := (some (.i64, (IntKind.i64.wrap (s0_ + 1))))) (f := e_S_api_Tree) rfl rfl tkind23 tab25 (fun _ => rfl) hs0_
            obtain ⟨y11, hy11, hs0_⟩ := bC hs0_
            refine W_regionD tab_ok [] ?_
            simp only [push_cast, seval, ↓reduceIte, cast_lit, al10, bl10, cl10, gl10, hN0, hN]
            refine GCalls.argsW ?_ ((ok_centoref07_Right hy11).then ?_)
            · simp only [push_cast, seval, ↓reduceIte, cast_lit, al10, bl10, cl10, gl10, hN0, hN]
            simp only [push_cast, seval, ↓reduceIte, cast_lit, al10, bl10, cl10, gl10, hN0, hN]
            refine W_drop [0, 4, 7, 62] [true] ?_
            simp only [push_cast, seval, ↓reduceIte]
            refine W_cond (t := (!y11)) rfl (fun c12 => ?_) (fun c12 => ?_)
            · replace hs0_ := condT c12 hs0_
              refine W_sq [6] (W_regionD tab_ok [] ?_)
              simp only [push_cast, seval, ↓reduceIte, cast_lit, hN0, hN]
              refine W_ret ?_
              try simp only [gthen, gblock]
              have hs0_ := Option.some.inj hs0_; subst hs0_
              refine And.intro (fun h => by cases h) (And.intro rfl (Fit2.of (fit_loc hU rfl rfl ?_) (by omega)))
              simp only [push_cast, seval, ↓reduceIte, cast_lit, hN0, hN]
            · replace hs0_ := condF c12 hs0_
              refine W_skip ?_
              try simp only [gthen, gblock]
              refine W_drop [0, 4, 7] [true] ?_
              simp only [push_cast, seval, ↓reduceIte]
              refine W_regionD tab_ok [] ?_
              simp only [push_cast, seval, ↓reduceIte, cast_lit, hN0, hN]
              have hs0_ := Option.some.inj hs0_; subst hs0_
              refine And.intro rfl (Fit2.of (fit_loc hU rfl rfl ?_) (by omega))
              simp only [push_cast, seval, ↓reduceIte, cast_lit, hN0, hN]
          · replace hs0_ := condF c13 hs0_
            refine W_exit ?_
            try simp only [gthen, gblock, ↓reduceIte, Nat.reduceEqDiff]
            have hs0_ := Option.some.inj hs0_; subst hs0_
            refine And.intro (fun h => by cases h) (And.intro rfl (Fit2.of (fit_loc hU rfl rfl ?_) (by omega)))
            simp only [push_cast, seval, ↓reduceIte, cast_lit, hN0, hN]
        rcases z14 with z14 | z14
        · dsimp only [SumJ] at hw h
          refine W_blockR hw ?_
          try simp only [gthen, gblock, ↓reduceIte, Nat.reduceEqDiff]
          have h := Option.some.inj h; subst h
          refine fin_loc (.inr rfl) hU [.val (.bool false)] (by omega) ?_
          simp only [push_cast, seval, ↓reduceIte, cast_lit, Try.results69, hN0, hN]
        · dsimp only [SumJ] at hw h
          refine W_blockX hw ?_
          try simp only [gthen, gblock, ↓reduceIte, Nat.reduceEqDiff]
          refine W_drop [4] [true] ?_
          simp only [push_cast, seval, ↓reduceIte]
          obtain ⟨z16, hz16, h⟩ := bC h
          refine W_seqN (E' := ⟨121, [], [(6, .val (.bool z16))]⟩) (O' := (Loc O n [none])) (n0 := (n + 1)) ?_ ?_
          · rcases Bool.eq_false_or_eq_true (decide (0 < (a1.L.length : Int))) with c19 | c19
            · replace hz16 := condT c19 hz16
              obtain ⟨y18, hy18, hz16⟩ := bC hz16
              refine W_regionD tab_ok [some true, some true, some true] ?_
              simp only [push_cast, seval, ↓reduceIte, cast_lit, c19, hN0, hN]
              refine (ok_centoref20_same hy18).then ?_
              simp only [push_cast, seval, ↓reduceIte, cast_lit, c19, hN0, hN]
              have hz16 := Option.some.inj hz16; subst hz16
              refine And.intro rfl (Fit2.of (fit_loc hU rfl rfl ?_) (by omega))
              simp only [push_cast, seval, ↓reduceIte, cast_lit, c19, hN0, hN]
            · replace hz16 := condF c19 hz16
              refine W_regionD tab_ok [some false, some false, some false] ?_
              simp only [push_cast, seval, ↓reduceIte, cast_lit, c19, hN0, hN]
              have hz16 := Option.some.inj hz16; subst hz16
              refine And.intro rfl (Fit2.of (fit_loc hU rfl rfl ?_) (by omega))
              simp only [push_cast, seval, ↓reduceIte, cast_lit, c19, hN0, hN]
          refine W_ret ?_
          try simp only [gthen, gblock]
          have h := Option.some.inj h; subst h
          refine fin_loc (.inr rfl) hU [.val (.bool z16)] (by omega) ?_
          simp only [push_cast, seval, ↓reduceIte, cast_lit, Try.results69, hN0, hN]
      · replace h := condF c28 h
        refine W_skip ?_
        try simp only [gthen, gblock]
        refine W_drop [0, 2, 4] [true] ?_
        simp only [push_cast, seval, ↓reduceIte]
        refine W_seqK ?_
        obtain ⟨z21, hz21, h⟩ := bC h
        refine W_seqN (E' := ⟨121, [], [(0, .val (.int .i64 a0)), (4, .ref n 0), (92, .val (.bool z21))]⟩) (O' := (Loc O n [some ⟨false, 69, 14, 1, (c_S_api_Op a1)⟩])) (n0 := (n + 1)) ?_ ?_
        · rcases Bool.eq_false_or_eq_true (decide (0 < (a1.L.length : Int))) with c24 | c24
          · replace hz21 := condT c24 hz21
            refine W_regionD tab_ok [none, none, none, none, none, none, some false, some false, some false, some false, some false] ?_
            simp only [push_cast, seval, ↓reduceIte, cast_lit, c24, hN0, hN]
            repeat (with_reducible refine And.intro (by first | (intro h0; simp only [h0, and_self]; done) | (intro h0; simp only [h0, Bool.not_false, Bool.not_true, Bool.true_and, Bool.and_true, true_and, and_true, and_self, imp_self, implies_true, bne_iff_ne, ne_eq, beq_iff_eq]; done) | (intros; simp_all; done) | exact True.intro) ?_)
            have hz21 := Option.some.inj hz21; subst hz21
            refine And.intro rfl (Fit2.of (fit_loc hU rfl rfl ?_) (by omega))
            simp only [push_cast, seval, ↓reduceIte, cast_lit, c24, hN0, hN]
          · replace hz21 := condF c24 hz21
            rcases Bool.eq_false_or_eq_true (a1.E.Kind == 0) with c25 | c25
            · replace hz21 := condT c25 hz21
              try rw [c25] at c24
              refine W_regionD tab_ok [none, none, none, none, none, none, some false, some false, some false, some false, some false] ?_
              simp only [push_cast, seval, ↓reduceIte, cast_lit, c24, c25, hN0, hN]
              repeat (with_reducible refine And.intro (by first | (intro h0; simp only [h0, and_self]; done) | (intro h0; simp only [h0, Bool.not_false, Bool.not_true, Bool.true_and, Bool.and_true, true_and, and_true, and_self, imp_self, implies_true, bne_iff_ne, ne_eq, beq_iff_eq]; done) | (intros; simp_all; done) | exact True.intro) ?_)
              have hz21 := Option.some.inj hz21; subst hz21
              refine And.intro rfl (Fit2.of (fit_loc hU rfl rfl ?_) (by omega))
              simp only [push_cast, seval, ↓reduceIte, cast_lit, c24, c25, hN0, hN]
            · replace hz21 := condF c25 hz21
              try rw [c25] at c24
              rcases Bool.eq_false_or_eq_true (decide (a0 ≤ 7)) with c26 | c26
              · replace hz21 := condT c26 hz21
                try rw [c26] at c24
                try rw [c26] at c25
                refine W_regionD tab_ok [none, none, none, none, none, none, some false, some false, some false, some false, some false] ?_
                simp only [push_cast, seval, ↓reduceIte, cast_lit, c24, c25, c26, hN0, hN]
                repeat (with_reducible refine And.intro (by first | (intro h0; simp only [h0, and_self]; done) | (intro h0; simp only [h0, Bool.not_false, Bool.not_true, Bool.true_and, Bool.and_true, true_and, and_true, and_self, imp_self, implies_true, bne_iff_ne, ne_eq, beq_iff_eq]; done) | (intros; simp_all; done) | exact True.intro) ?_)
                have hz21 := Option.some.inj hz21; subst hz21
                refine And.intro rfl (Fit2.of (fit_loc hU rfl rfl ?_) (by omega))
                simp only [push_cast, seval, ↓reduceIte, cast_lit, c24, c25, c26, hN0, hN]
              · replace hz21 := condF c26 hz21
                try rw [c26] at c24
                try rw [c26] at c25
                obtain ⟨y23, hy23, hz21⟩ := bC hz21
                refine W_regionD tab_ok [none, none, none, none, none, none, some true, some true, some true, some true, some true] ?_
                simp only [push_cast, seval, ↓reduceIte, cast_lit, c24, c25, c26, hN0, hN]
                repeat (with_reducible refine And.intro (by first | (intro h0; simp only [h0, and_self]; done) | (intro h0; simp only [h0, Bool.not_false, Bool.not_true, Bool.true_and, Bool.and_true, true_and, and_true, and_self, imp_self, implies_true, bne_iff_ne, ne_eq, beq_iff_eq]; done) | (intros; simp_all; done) | exact True.intro) ?_)
                refine (ok_r_centoref20_Right hy23).then ?_
                simp only [push_cast, seval, ↓reduceIte, cast_lit, c24, c25, c26, hN0, hN]
                repeat (with_reducible refine And.intro (by first | (intro h0; simp only [h0, and_self]; done) | (intro h0; simp only [h0, Bool.not_false, Bool.not_true, Bool.true_and, Bool.and_true, true_and, and_true, and_self, imp_self, implies_true, bne_iff_ne, ne_eq, beq_iff_eq]; done) | (intros; simp_all; done) | exact True.intro) ?_)
                have hz21 := Option.some.inj hz21; subst hz21
                refine And.intro rfl (Fit2.of (fit_loc hU rfl rfl ?_) (by omega))
                simp only [push_cast, seval, ↓reduceIte, cast_lit, c24, c25, c26, hN0, hN]
        refine W_cond (t := z21) rfl (fun c27 => ?_) (fun c27 => ?_)
        · replace h := condT c27 h
          refine W_sq [6] (W_regionD tab_ok [] ?_)
          simp only [push_cast, seval, ↓reduceIte, cast_lit, hN0, hN]
          refine W_ret ?_
          try simp only [gthen, gblock]
          have h := Option.some.inj h; subst h
          refine fin_loc (.inr rfl) hU [.val (.bool false)] (by omega) ?_
          simp only [push_cast, seval, ↓reduceIte, cast_lit, Try.results69, hN0, hN]
        · replace h := condF c27 h
          refine W_skip ?_
          try simp only [gthen, gblock]
          refine W_drop [0, 4] [true] ?_
          simp only [push_cast, seval, ↓reduceIte]
          refine W_sq [6] (W_regionD tab_ok [none, none, none, none, none, none, none, none, none, none, none, none, none, none, none, none, none, none, none, none, none, none] ?_)
          simp only [push_cast, seval, ↓reduceIte, cast_lit, hN0, hN]
          repeat (with_reducible refine And.intro (by first | (intro h0; simp only [h0, and_self]; done) | (intro h0; simp only [h0, Bool.not_false, Bool.not_true, Bool.true_and, Bool.and_true, true_and, and_true, and_self, imp_self, implies_true, bne_iff_ne, ne_eq, beq_iff_eq]; done) | (intros; simp_all; done) | exact True.intro) ?_)
          refine W_ret ?_
          try simp only [gthen, gblock]
          have h := Option.some.inj h; subst h
          refine fin_loc (.inr rfl) hU [.val (.bool (cond (cond (a0 == 8) true (a1.E.Kind == 2)) true (cond (cond (a1.E.Kind == 1) (a1.E.Old.Kind == 1) false) (a1.E.New.Kind == 1) false)))] (by omega) ?_
          simp only [push_cast, seval, ↓reduceIte, cast_lit, Try.results69, hN0, hN]
theorem lv_centoref20_Right_ok : ∀ k, (∀ {a0 : S_api_Edit} {a1 : Int} {r : Bool} {O : Objs} {n : Nat}, (lv_centoref20_Right k).1 a0 a1 = some r → GTo Try.prog 39 [.agg (c_S_api_Edit a0), .val (.int .i64 a1)] O n (.val (.bool r)) O n) ∧ (∀ {a0 : Int} {a1 : S_api_Op} {a2 : Int} {r : Bool} {O : Objs} {n : Nat}, (lv_centoref20_Right k).2 a0 a1 a2 = some r → GTo Try.prog 69 [.val (.int .i64 a0), .agg (c_S_api_Op a1), .val (.int .i64 a2)] O n (.val (.bool r)) O n) := fun k => by
  induction k with
  | zero => exact ⟨@fun a0 a1 r O n h => (nomatch (show (none : Option _) = some _ from h)), @fun a0 a1 a2 r O n h => (nomatch (show (none : Option _) = some _ from h))⟩
  | succ k ih => exact ⟨@fun a0 a1 r O n h => okb_centoref20_Right (ih.1) (ih.2)  h, @fun a0 a1 a2 r O n h => okb_centoref20_op (ih.1) (ih.2)  h⟩
theorem ok_centoref20_Right {a0 : S_api_Edit} {a1 : Int} {r : Bool} {O : Objs} {n : Nat} (h : m_centoref20_Right a0 a1 = some r) : GTo Try.prog 39 [.agg (c_S_api_Edit a0), .val (.int .i64 a1)] O n (.val (.bool r)) O n := by
  obtain ⟨k, hk⟩ := lim_some h
  exact (lv_centoref20_Right_ok k).1  hk
theorem okb_centoref20_Light {r_centoref20_Light : (S_api_Edit → Option Bool)} (ok_r_centoref20_Light : ∀ {a0 : S_api_Edit} {r : Bool} {O : Objs} {n : Nat}, r_centoref20_Light a0 = some r → GTo Try.prog 50 [.agg (c_S_api_Edit a0)] O n (.val (.bool r)) O n) {a0 : S_api_Edit} {r : Bool} {O : Objs} {n : Nat} (h : b_centoref20_Light r_centoref20_Light a0 = some r) : GTo Try.prog 50 [.agg (c_S_api_Edit a0)] O n (.val (.bool r)) O n := by
  unfold b_centoref20_Light at h
  refine fn_of tab_ok Try.call50 Try.func50 rfl (Nat.le_of_ble_eq_true rfl) (Nat.le_refl _) fun hU => ?_
  have hN0 : O n = none := hU.fresh _ (Nat.le_refl _)
  have hN : ∀ k, O (n + k) = none := fun k => hU.fresh _ (Nat.le_add_right _ _)
  show W _ _ _ _ ⟨48, [], [(0, .agg (c_S_api_Edit a0))]⟩ (Loc O n []) _
  refine W_sq [1] (W_regionD tab_ok [] ?_)
  simp only [push_cast, seval, ↓reduceIte, cast_lit, hN0, hN]
  refine W_seqK ?_
  obtain ⟨y2, hy2, h⟩ := bC h
  refine W_regionD tab_ok [] ?_
  simp only [push_cast, seval, ↓reduceIte, cast_lit, hN0, hN]
  refine (ok_centoref20_Lengths hy2).then ?_
  simp only [push_cast, seval, ↓reduceIte, cast_lit, hN0, hN]
  refine W_drop [1, 3, 4] [true] ?_
  simp only [push_cast, seval, ↓reduceIte]
  refine W_seqK ?_
  refine W_sq [1, 17] (W_regionD tab_ok [none, none] ?_)
  simp only [push_cast, seval, ↓reduceIte, cast_lit, hN0, hN]
  repeat (with_reducible refine And.intro (by first | (intro h0; simp only [h0, and_self]; done) | (intro h0; simp only [h0, Bool.not_false, Bool.not_true, Bool.true_and, Bool.and_true, true_and, and_true, and_self, imp_self, implies_true, bne_iff_ne, ne_eq, beq_iff_eq]; done) | (intros; simp_all; done) | exact True.intro) ?_)
  refine W_cond (t := (cond (decide (2000 < y2.1)) true (decide (2000 < y2.2)))) rfl (fun c21 => ?_) (fun c21 => ?_)
  · replace h := condT c21 h
    refine W_sq [2] (W_regionD tab_ok [] ?_)
    simp only [push_cast, seval, ↓reduceIte, cast_lit, hN0, hN]
    refine W_ret ?_
    try simp only [gthen, gblock]
    have h := Option.some.inj h; subst h
    refine fin_loc (.inr rfl) hU [.val (.bool false)] (by omega) ?_
    simp only [push_cast, seval, ↓reduceIte, cast_lit, Try.results50, hN0, hN]
  · replace h := condF c21 h
    refine W_skip ?_
    try simp only [gthen, gblock]
    refine W_drop [1] [true] ?_
    simp only [push_cast, seval, ↓reduceIte]
    refine W_seqK ?_
    refine W_sq [1, 5] (W_regionD tab_ok [] ?_)
    simp only [push_cast, seval, ↓reduceIte, cast_lit, hN0, hN]
    refine W_drop [1, 5] [true] ?_
    simp only [push_cast, seval, ↓reduceIte]
    obtain ⟨z11, hz11, h⟩ := bC h
    refine W_sumB (J := (SumJ (fun z11 => JR n (⟨48, [], [(2, .val (.bool false))]⟩ : Env) (Loc O n [none]) (n + 1)) (fun z11 => JX 0 n (⟨48, [], [(1, .ref n 0)]⟩ : Env) (Loc O n [some ⟨false, 30, 11, 1, (c_S_api_Edit a0)⟩]) (n + 1)))) (z := z11) ?_ fun hw => ?_
    · refine W_loopJ hz11 (fun s0_ => ⟨48, [], [(1, .ref n 0), (5, .val (.int .i64 s0_))]⟩) (fun s0_ => (Loc O n [some ⟨false, 30, 11, 1, (c_S_api_Edit a0)⟩])) (SumJ (fun z11 => JR n (⟨48, [], [(2, .val (.bool false))]⟩ : Env) (Loc O n [none]) (n + 1)) (fun z11 => JX 0 n (⟨48, [], [(1, .ref n 0)]⟩ : Env) (Loc O n [some ⟨false, 30, 11, 1, (c_S_api_Edit a0)⟩]) (n + 1))) ?_
      intro s0_ x0_ hs0_
      unfold b_centoref20_Light_L0 at hs0_
      try dsimp only
      refine W_seqK ?_
      refine W_sq [1, 5, 22] (W_regionD tab_ok [] ?_)
      simp only [push_cast, seval, ↓reduceIte, cast_lit, hN0, hN]
      refine W_cond (t := (decide (s0_ < (a0.Kids.length : Int)))) rfl (fun c10 => ?_) (fun c10 => ?_)
      · replace hs0_ := condT c10 hs0_
        refine W_skip ?_
        try simp only [gthen, gblock]
        refine W_drop [1, 5] [true] ?_
        simp only [push_cast, seval, ↓reduceIte]
        refine W_seqK ?_
        refine W_block ?_
        refine W_seqK ?_
        obtain ⟨x6, hx6, ax6, bx6, cx6, hs0_⟩ := bE (f := e_S_api_KidEdit) tab71 (fun _ => rfl) (by decide) hs0_
        have g7 := gpart_fld (f := e_S_api_KidEdit) (off := 1) (sz := 12) tab30 (fun _ => rfl) (by decide) (by decide) hx6
        obtain ⟨y8, hy8, hs0_⟩ := bC hs0_
        refine W_regionD tab_ok [] ?_
        simp only [push_cast, Nat.reduceAdd, Nat.reduceSub, Nat.reduceMul, Nat.reduceLeDiff, Nat.reduceLT, Nat.reduceEqDiff, ↓reduceIte, reduceCtorEq, Int.reduceBEq, Int.reduceBNe, Nat.reduceBEq, Int.reduceLE, Int.reduceLT, Int.reduceEq, Int.reduceNe, Int.reduceNeg, Nat.reduceDiv, Nat.reduceMod, Nat.reducePow, cast_lit, ax6, bx6, cx6, g7, hN0, hN]
        refine (ok_r_centoref20_Light hy8).then ?_
        simp only [push_cast, Nat.reduceAdd, Nat.reduceSub, Nat.reduceMul, Nat.reduceLeDiff, Nat.reduceLT, Nat.reduceEqDiff, ↓reduceIte, reduceCtorEq, Int.reduceBEq, Int.reduceBNe, Nat.reduceBEq, Int.reduceLE, Int.reduceLT, Int.reduceEq, Int.reduceNe, Int.reduceNeg, Nat.reduceDiv, Nat.reduceMod, Nat.reducePow, cast_lit, ax6, bx6, cx6, g7, hN0, hN]
        refine W_drop [1, 5, 32] [true] ?_
        simp only [push_cast, seval, ↓reduceIte]
        refine W_cond (t := (!y8)) rfl (fun c9 => ?_) (fun c9 => ?_)
        · replace hs0_ := condT c9 hs0_
          refine W_sq [2] (W_regionD tab_ok [] ?_)
          simp only [push_cast, seval, ↓reduceIte, cast_lit, hN0, hN]
          refine W_ret ?_
          try simp only [gthen, gblock]
          have hs0_ := Option.some.inj hs0_; subst hs0_
          refine And.intro (fun h => by cases h) (And.intro rfl (Fit2.of (fit_loc hU rfl rfl ?_) (by omega)))
          simp only [push_cast, seval, ↓reduceIte, cast_lit, hN0, hN]
        · replace hs0_ := condF c9 hs0_
          refine W_skip ?_
          try simp only [gthen, gblock]
          refine W_drop [1, 5] [true] ?_
          simp only [push_cast, seval, ↓reduceIte]
          refine W_regionD tab_ok [] ?_
          simp only [push_cast, seval, ↓reduceIte, cast_lit, hN0, hN]
          have hs0_ := Option.some.inj hs0_; subst hs0_
          refine And.intro rfl (Fit2.of (fit_loc hU rfl rfl ?_) (by omega))
          simp only [push_cast, seval, ↓reduceIte, cast_lit, hN0, hN]
      · replace hs0_ := condF c10 hs0_
        refine W_exit ?_
        try simp only [gthen, gblock, ↓reduceIte, Nat.reduceEqDiff]
        have hs0_ := Option.some.inj hs0_; subst hs0_
        refine And.intro (fun h => by cases h) (And.intro rfl (Fit2.of (fit_loc hU rfl rfl ?_) (by omega)))
        simp only [push_cast, seval, ↓reduceIte, cast_lit, hN0, hN]
    rcases z11 with z11 | z11
    · dsimp only [SumJ] at hw h
      refine W_blockR hw ?_
      try simp only [gthen, gblock, ↓reduceIte, Nat.reduceEqDiff]
      have h := Option.some.inj h; subst h
      refine fin_loc (.inr rfl) hU [.val (.bool false)] (by omega) ?_
      simp only [push_cast, seval, ↓reduceIte, cast_lit, Try.results50, hN0, hN]
    · dsimp only [SumJ] at hw h
      refine W_blockX hw ?_
      try simp only [gthen, gblock, ↓reduceIte, Nat.reduceEqDiff]
      refine W_drop [1] [true] ?_
      simp only [push_cast, seval, ↓reduceIte]
      refine W_seqK ?_
      refine W_sq [1, 6] (W_regionD tab_ok [] ?_)
      simp only [push_cast, seval, ↓reduceIte, cast_lit, hN0, hN]
      refine W_drop [1, 6] [true] ?_
      simp only [push_cast, seval, ↓reduceIte]
      obtain ⟨z20, hz20, h⟩ := bC h
      refine W_sumB (J := (SumJ (fun z20 => JR n (⟨48, [], [(2, .val (.bool false))]⟩ : Env) (Loc O n [none]) (n + 1)) (fun z20 => JX 2 n (⟨48, [], []⟩ : Env) (Loc O n [none]) (n + 1)))) (z := z20) ?_ fun hw => ?_
      · refine W_loopJ hz20 (fun s1_ => ⟨48, [], [(1, .ref n 0), (6, .val (.int .i64 s1_))]⟩) (fun s1_ => (Loc O n [some ⟨false, 30, 11, 1, (c_S_api_Edit a0)⟩])) (SumJ (fun z20 => JR n (⟨48, [], [(2, .val (.bool false))]⟩ : Env) (Loc O n [none]) (n + 1)) (fun z20 => JX 2 n (⟨48, [], []⟩ : Env) (Loc O n [none]) (n + 1))) ?_
        intro s1_ x1_ hs1_
        unfold b_centoref20_Light_L1 at hs1_
        try dsimp only
        refine W_seqK ?_
        refine W_sq [1, 6, 37] (W_regionD tab_ok [] ?_)
        simp only [push_cast, seval, ↓reduceIte, cast_lit, hN0, hN]
        refine W_cond (t := (decide (s1_ < (a0.Ops.length : Int)))) rfl (fun c19 => ?_) (fun c19 => ?_)
        · replace hs1_ := condT c19 hs1_
          refine W_skip ?_
          try simp only [gthen, gblock]
          refine W_drop [1, 6] [true] ?_
          simp only [push_cast, seval, ↓reduceIte]
          refine W_seqK ?_
          refine W_block ?_
          refine W_seqK ?_
          obtain ⟨x15, hx15, ax15, bx15, cx15, hs1_⟩ := bE (f := e_S_api_Op) tab69 (fun _ => rfl) (by decide) hs1_
          have g16 := gpart_fld (f := e_S_api_Op) (off := 3) (sz := 14) tab30 (fun _ => rfl) (by decide) (by decide) hx15
          obtain ⟨y17, hy17, hs1_⟩ := bC hs1_
          refine W_regionD tab_ok [] ?_
          simp only [push_cast, Nat.reduceAdd, Nat.reduceSub, Nat.reduceMul, Nat.reduceLeDiff, Nat.reduceLT, Nat.reduceEqDiff, ↓reduceIte, reduceCtorEq, Int.reduceBEq, Int.reduceBNe, Nat.reduceBEq, Int.reduceLE, Int.reduceLT, Int.reduceEq, Int.reduceNe, Int.reduceNeg, Nat.reduceDiv, Nat.reduceMod, Nat.reducePow, cast_lit, ax15, bx15, cx15, g16, hN0, hN]
          refine (ok_r_centoref20_Light hy17).then ?_
          simp only [push_cast, Nat.reduceAdd, Nat.reduceSub, Nat.reduceMul, Nat.reduceLeDiff, Nat.reduceLT, Nat.reduceEqDiff, ↓reduceIte, reduceCtorEq, Int.reduceBEq, Int.reduceBNe, Nat.reduceBEq, Int.reduceLE, Int.reduceLT, Int.reduceEq, Int.reduceNe, Int.reduceNeg, Nat.reduceDiv, Nat.reduceMod, Nat.reducePow, cast_lit, ax15, bx15, cx15, g16, hN0, hN]
          refine W_drop [1, 6, 47] [true] ?_
          simp only [push_cast, seval, ↓reduceIte]
          refine W_cond (t := (!y17)) rfl (fun c18 => ?_) (fun c18 => ?_)
          · replace hs1_ := condT c18 hs1_
            refine W_sq [2] (W_regionD tab_ok [] ?_)
            simp only [push_cast, seval, ↓reduceIte, cast_lit, hN0, hN]
            refine W_ret ?_
            try simp only [gthen, gblock]
            have hs1_ := Option.some.inj hs1_; subst hs1_
            refine And.intro (fun h => by cases h) (And.intro rfl (Fit2.of (fit_loc hU rfl rfl ?_) (by omega)))
            simp only [push_cast, seval, ↓reduceIte, cast_lit, hN0, hN]
          · replace hs1_ := condF c18 hs1_
            refine W_skip ?_
            try simp only [gthen, gblock]
            refine W_drop [1, 6] [true] ?_
            simp only [push_cast, seval, ↓reduceIte]
            refine W_regionD tab_ok [] ?_
            simp only [push_cast, seval, ↓reduceIte, cast_lit, hN0, hN]
            have hs1_ := Option.some.inj hs1_; subst hs1_
            refine And.intro rfl (Fit2.of (fit_loc hU rfl rfl ?_) (by omega))
            simp only [push_cast, seval, ↓reduceIte, cast_lit, hN0, hN]
        · replace hs1_ := condF c19 hs1_
          refine W_exit ?_
          try simp only [gthen, gblock, ↓reduceIte, Nat.reduceEqDiff]
          have hs1_ := Option.some.inj hs1_; subst hs1_
          refine And.intro (fun h => by cases h) (And.intro rfl (Fit2.of (fit_loc hU rfl rfl ?_) (by omega)))
          simp only [push_cast, seval, ↓reduceIte, cast_lit, hN0, hN]
      rcases z20 with z20 | z20
      · dsimp only [SumJ] at hw h
        refine W_blockR hw ?_
        try simp only [gthen, gblock, ↓reduceIte, Nat.reduceEqDiff]
        have h := Option.some.inj h; subst h
        refine fin_loc (.inr rfl) hU [.val (.bool false)] (by omega) ?_
        simp only [push_cast, seval, ↓reduceIte, cast_lit, Try.results50, hN0, hN]
      · dsimp only [SumJ] at hw h
        refine W_blockX hw ?_
        try simp only [gthen, gblock, ↓reduceIte, Nat.reduceEqDiff]
        refine W_drop [] [false] ?_
        simp only [push_cast, seval, ↓reduceIte]
        refine W_sq [2] (W_regionD tab_ok [] ?_)
        simp only [push_cast, seval, ↓reduceIte, cast_lit, hN0, hN]
        refine W_ret ?_
        try simp only [gthen, gblock]
        have h := Option.some.inj h; subst h
        refine fin_loc (.inr rfl) hU [.val (.bool true)] (by omega) ?_
        simp only [push_cast, seval, ↓reduceIte, cast_lit, Try.results50, hN0, hN]
theorem lv_centoref20_Light_ok : ∀ k, (∀ {a0 : S_api_Edit} {r : Bool} {O : Objs} {n : Nat}, (lv_centoref20_Light k) a0 = some r → GTo Try.prog 50 [.agg (c_S_api_Edit a0)] O n (.val (.bool r)) O n) := fun k => by
  induction k with
  | zero => exact @fun a0 r O n h => (nomatch (show (none : Option _) = some _ from h))
  | succ k ih => exact @fun a0 r O n h => okb_centoref20_Light (ih)  h
theorem ok_centoref20_Light {a0 : S_api_Edit} {r : Bool} {O : Objs} {n : Nat} (h : m_centoref20_Light a0 = some r) : GTo Try.prog 50 [.agg (c_S_api_Edit a0)] O n (.val (.bool r)) O n := by
  obtain ⟨k, hk⟩ := lim_some h
  exact (lv_centoref20_Light_ok k)  hk
theorem ok_centoref20_Good {a0 : S_api_Edit} {r : Bool} {O : Objs} {n : Nat} (h : m_centoref20_Good a0 = some r) : GTo Try.prog 15 [.agg (c_S_api_Edit a0)] O n (.val (.bool r)) O n := by
  unfold m_centoref20_Good at h
  refine fn_of tab_ok Try.call15 Try.func15 rfl (Nat.le_of_ble_eq_true rfl) (Nat.le_refl _) fun hU => ?_
  have hN0 : O n = none := hU.fresh _ (Nat.le_refl _)
  have hN : ∀ k, O (n + k) = none := fun k => hU.fresh _ (Nat.le_add_right _ _)
  show W _ _ _ _ ⟨13, [], [(0, .agg (c_S_api_Edit a0))]⟩ (Loc O n []) _
  refine W_sq [1] (W_regionD tab_ok [] ?_)
  simp only [push_cast, seval, ↓reduceIte, cast_lit, hN0, hN]
  obtain ⟨z4, hz4, h⟩ := bC h
  refine W_seqN (E' := ⟨13, [], [(2, .val (.bool z4))]⟩) (O' := (Loc O n [none])) (n0 := (n + 1)) ?_ ?_
  · obtain ⟨y8, hy8, hz4⟩ := bC hz4
    rcases Bool.eq_false_or_eq_true y8 with c11 | c11
    · replace hz4 := condT c11 hz4
      obtain ⟨y9, hy9, hz4⟩ := bC hz4
      rcases Bool.eq_false_or_eq_true y9 with c12 | c12
      · replace hz4 := condT c12 hz4
        try rw [c12] at c11
        obtain ⟨y10, hy10, hz4⟩ := bC hz4
        refine W_regionD tab_ok [some true, some true, some true, some true] ?_
        simp only [push_cast, seval, ↓reduceIte, cast_lit, c11, c12, hN0, hN]
        refine (ok_centoref20_Few hy8).then ?_
        simp only [push_cast, seval, ↓reduceIte, cast_lit, c11, c12, hN0, hN]
        refine (ok_centoref20_Right hy9).then ?_
        simp only [push_cast, seval, ↓reduceIte, cast_lit, c11, c12, hN0, hN]
        refine (ok_centoref20_Light hy10).then ?_
        simp only [push_cast, seval, ↓reduceIte, cast_lit, c11, c12, hN0, hN]
        have hz4 := Option.some.inj hz4; subst hz4
        refine And.intro rfl (Fit2.of (fit_loc hU rfl rfl ?_) (by omega))
        simp only [push_cast, seval, ↓reduceIte, cast_lit, c11, c12, hN0, hN]
      · replace hz4 := condF c12 hz4
        try rw [c12] at c11
        refine W_regionD tab_ok [some true, some true, some false, some false] ?_
        simp only [push_cast, seval, ↓reduceIte, cast_lit, c11, c12, hN0, hN]
        refine (ok_centoref20_Few hy8).then ?_
        simp only [push_cast, seval, ↓reduceIte, cast_lit, c11, c12, hN0, hN]
        refine (ok_centoref20_Right hy9).then ?_
        simp only [push_cast, seval, ↓reduceIte, cast_lit, c11, c12, hN0, hN]
        have hz4 := Option.some.inj hz4; subst hz4
        refine And.intro rfl (Fit2.of (fit_loc hU rfl rfl ?_) (by omega))
        simp only [push_cast, seval, ↓reduceIte, cast_lit, c11, c12, hN0, hN]
    · replace hz4 := condF c11 hz4
      refine W_regionD tab_ok [some false, some false, some false, some false] ?_
      simp only [push_cast, seval, ↓reduceIte, cast_lit, c11, hN0, hN]
      refine (ok_centoref20_Few hy8).then ?_
      simp only [push_cast, seval, ↓reduceIte, cast_lit, c11, hN0, hN]
      have hz4 := Option.some.inj hz4; subst hz4
      refine And.intro rfl (Fit2.of (fit_loc hU rfl rfl ?_) (by omega))
      simp only [push_cast, seval, ↓reduceIte, cast_lit, c11, hN0, hN]
  refine W_ret ?_
  try simp only [gthen, gblock]
  have h := Option.some.inj h; subst h
  refine fin_loc (.inr rfl) hU [.val (.bool z4)] (by omega) ?_
  simp only [push_cast, seval, ↓reduceIte, cast_lit, Try.results15, hN0, hN]
theorem okb_invert_turned {r_invert_turned : (S_api_Edit → Option S_api_Edit)} {r_invert_turnedOp : (S_api_Op → Option S_api_Op)} (ok_r_invert_turned : ∀ {a0 : S_api_Edit} {r : S_api_Edit} {O : Objs} {n : Nat}, r_invert_turned a0 = some r → GTo Try.prog 61 [.agg (c_S_api_Edit a0)] O n (.agg (c_S_api_Edit r)) O n) (ok_r_invert_turnedOp : ∀ {a0 : S_api_Op} {r : S_api_Op} {O : Objs} {n : Nat}, r_invert_turnedOp a0 = some r → GTo Try.prog 102 [.agg (c_S_api_Op a0)] O n (.agg (c_S_api_Op r)) O n) {a0 : S_api_Edit} {r : S_api_Edit} {O : Objs} {n : Nat} (h : b_invert_turned r_invert_turned r_invert_turnedOp a0 = some r) : GTo Try.prog 61 [.agg (c_S_api_Edit a0)] O n (.agg (c_S_api_Edit r)) O n := by
  unfold b_invert_turned at h
  refine fn_of tab_ok Try.call61 Try.func61 rfl (Nat.le_of_ble_eq_true rfl) (Nat.le_refl _) fun hU => ?_
  have hN0 : O n = none := hU.fresh _ (Nat.le_refl _)
  have hN : ∀ k, O (n + k) = none := fun k => hU.fresh _ (Nat.le_add_right _ _)
  show W _ _ _ _ ⟨76, [], [(0, .agg (c_S_api_Edit a0))]⟩ (Loc O n []) _
  refine W_sq [1, 2] (W_regionD tab_ok [] ?_)
  simp only [push_cast, seval, ↓reduceIte, cast_lit, hN0, hN]
  refine W_seqK ?_
  refine W_regionD tab_ok [] ?_
  simp only [push_cast, seval, ↓reduceIte, cast_lit, hN0, hN]
  refine W_drop [1, 2, 3] [true, true, true] ?_
  simp only [push_cast, seval, ↓reduceIte]
  refine W_seqK ?_
  refine W_sq [1, 2, 3, 20, 21, 22] (W_regionD tab_ok [] ?_)
  simp only [push_cast, seval, ↓reduceIte, cast_lit, hN0, hN]
  refine W_drop [1, 2, 3, 20, 21, 22] [true, true, true] ?_
  simp only [push_cast, seval, ↓reduceIte]
  refine W_fit2 (E' := (⟨76, [], [(1, .ref n 0), (2, .ref (n + 1) 0), (3, .ref (n + 2) 0), (20, .sl a0.Words.length (fl e_S_api_WordEdit a0.Words)), (21, .val (.int .i64 (a0.Words.length : Int))), (22, .val (.int .i64 0))]⟩ : Env)) (O' := (Loc O n [some ⟨false, 30, 11, 1, (c_S_api_Edit a0)⟩, some ⟨false, 30, 11, 1, [.val (.int .i64 0), .val (.int .i64 0), .val (.slice none 0 0), .val (.slice none 0 0), .val (.int .i64 0), .val (.slice none 0 0), .val (.slice none 0 0), .val (.slice none 0 0), .val (.slice none 0 0), .val (.int .i64 0), .val (.slice none 0 0)]⟩, some ⟨false, 30, 11, 1, [.val (.int .i64 a0.Kind), .val (.int .i64 a0.New.Kind), .sl a0.New.Words.length (fl (eI .u64) a0.New.Words), .sl a0.New.Kids.length (fl e_S_api_Tree a0.New.Kids), .val (.int .i64 a0.Old.Kind), .sl a0.Old.Words.length (fl (eI .u64) a0.Old.Words), .sl a0.Old.Kids.length (fl e_S_api_Tree a0.Old.Kids), .row (n + 3) ([] : List S_api_WordEdit).length, .val (.slice none 0 0), .val (.int .i64 a0.List_), .val (.slice none 0 0)]⟩, some ⟨true, 58, 4, ([] : List S_api_WordEdit).length, fl e_S_api_WordEdit ([] : List S_api_WordEdit)⟩, none])) (n' := (n + 5)) ?_ ?_
  · refine Fit2.trans (E' := (⟨76, [], [(1, .ref n 0), (2, .ref (n + 1) 0), (3, .ref (n + 2) 0), (20, .sl a0.Words.length (fl e_S_api_WordEdit a0.Words)), (21, .val (.int .i64 (a0.Words.length : Int))), (22, .val (.int .i64 0))]⟩ : Env)) (O' := (Loc O n [some ⟨false, 30, 11, 1, (c_S_api_Edit a0)⟩, some ⟨false, 30, 11, 1, [.val (.int .i64 0), .val (.int .i64 0), .val (.slice none 0 0), .val (.slice none 0 0), .val (.int .i64 0), .val (.slice none 0 0), .val (.slice none 0 0), .val (.slice none 0 0), .val (.slice none 0 0), .val (.int .i64 0), .val (.slice none 0 0)]⟩, some ⟨false, 30, 11, 1, [.val (.int .i64 a0.Kind), .val (.int .i64 a0.New.Kind), .sl a0.New.Words.length (fl (eI .u64) a0.New.Words), .sl a0.New.Kids.length (fl e_S_api_Tree a0.New.Kids), .val (.int .i64 a0.Old.Kind), .sl a0.Old.Words.length (fl (eI .u64) a0.Old.Words), .sl a0.Old.Kids.length (fl e_S_api_Tree a0.Old.Kids), .val (.slice none 0 0), .val (.slice none 0 0), .val (.int .i64 a0.List_), .val (.slice none 0 0)]⟩])) (n' := (n + 3)) (Fit2.of (fit_loc hU rfl rfl ?_) (by omega)) ?_
    · simp only [push_cast, seval, ↓reduceIte, cast_lit, hN0, hN]
    refine Fit2.trans (E' := (⟨76, [], [(1, .ref n 0), (2, .ref (n + 1) 0), (3, .ref (n + 2) 0), (20, .sl a0.Words.length (fl e_S_api_WordEdit a0.Words)), (21, .val (.int .i64 (a0.Words.length : Int))), (22, .val (.int .i64 0))]⟩ : Env)) (O' := (Loc O n [some ⟨false, 30, 11, 1, (c_S_api_Edit a0)⟩, some ⟨false, 30, 11, 1, [.val (.int .i64 0), .val (.int .i64 0), .val (.slice none 0 0), .val (.slice none 0 0), .val (.int .i64 0), .val (.slice none 0 0), .val (.slice none 0 0), .val (.slice none 0 0), .val (.slice none 0 0), .val (.int .i64 0), .val (.slice none 0 0)]⟩, some ⟨false, 30, 11, 1, [.val (.int .i64 a0.Kind), .val (.int .i64 a0.New.Kind), .sl a0.New.Words.length (fl (eI .u64) a0.New.Words), .sl a0.New.Kids.length (fl e_S_api_Tree a0.New.Kids), .val (.int .i64 a0.Old.Kind), .sl a0.Old.Words.length (fl (eI .u64) a0.Old.Words), .sl a0.Old.Kids.length (fl e_S_api_Tree a0.Old.Kids), .row (n + 3) 0, .val (.slice none 0 0), .val (.int .i64 a0.List_), .val (.slice none 0 0)]⟩, some ⟨true, 58, 4, 0, []⟩])) (n' := (n + 4)) ?_ ?_
    · have ha := adoptF_fit (ba := n) (E := (⟨76, [], [(1, .ref n 0), (2, .ref (n + 1) 0), (3, .ref (n + 2) 0), (20, .sl a0.Words.length (fl e_S_api_WordEdit a0.Words)), (21, .val (.int .i64 (a0.Words.length : Int))), (22, .val (.int .i64 0))]⟩ : Env)) (O := (Loc O n [some ⟨false, 30, 11, 1, [.val (.int .i64 a0.Kind), .val (.int .i64 a0.Old.Kind), .sl a0.Old.Words.length (fl (eI .u64) a0.Old.Words), .sl a0.Old.Kids.length (fl e_S_api_Tree a0.Old.Kids), .val (.int .i64 a0.New.Kind), .sl a0.New.Words.length (fl (eI .u64) a0.New.Words), .sl a0.New.Kids.length (fl e_S_api_Tree a0.New.Kids), .sl a0.Words.length (fl e_S_api_WordEdit a0.Words), .sl a0.Kids.length (fl e_S_api_KidEdit a0.Kids), .val (.int .i64 a0.List_), .sl a0.Ops.length (fl e_S_api_Op a0.Ops)]⟩, some ⟨false, 30, 11, 1, [.val (.int .i64 0), .val (.int .i64 0), .val (.slice none 0 0), .val (.slice none 0 0), .val (.int .i64 0), .val (.slice none 0 0), .val (.slice none 0 0), .val (.slice none 0 0), .val (.slice none 0 0), .val (.int .i64 0), .val (.slice none 0 0)]⟩, some ⟨false, 30, 11, 1, [.val (.int .i64 a0.Kind), .val (.int .i64 a0.New.Kind), .sl a0.New.Words.length (fl (eI .u64) a0.New.Words), .sl a0.New.Kids.length (fl e_S_api_Tree a0.New.Kids), .val (.int .i64 a0.Old.Kind), .sl a0.Old.Words.length (fl (eI .u64) a0.Old.Words), .sl a0.Old.Kids.length (fl e_S_api_Tree a0.Old.Kids), .val (.slice none 0 0), .val (.slice none 0 0), .val (.int .i64 a0.List_), .val (.slice none 0 0)]⟩])) (n := (n + 3)) (p := (n + 2)) (k := 7) (q := ⟨false, 30, 11, 1, [.val (.int .i64 a0.Kind), .val (.int .i64 a0.New.Kind), .sl a0.New.Words.length (fl (eI .u64) a0.New.Words), .sl a0.New.Kids.length (fl e_S_api_Tree a0.New.Kids), .val (.int .i64 a0.Old.Kind), .sl a0.Old.Words.length (fl (eI .u64) a0.Old.Words), .sl a0.Old.Kids.length (fl e_S_api_Tree a0.Old.Kids), .val (.slice none 0 0), .val (.slice none 0 0), .val (.int .i64 a0.List_), .val (.slice none 0 0)]⟩) 58 4 (by simp only [Loc_at, Loc_at0, List.getElem?_cons_zero, List.getElem?_cons_succ, Option.join_some, upd_same]) rfl (by omega)
      simp only [Loc_push, Loc_push0, Loc_upd, Loc_upd0, List.set_cons_zero, List.set_cons_succ, List.cons_append, List.nil_append, List.length_cons, List.length_nil, Nat.zero_add, Nat.reduceAdd, Nat.reduceLT, Nat.add_assoc] at ha
      exact ha
    refine Fit2.trans (E' := (⟨76, [], [(1, .ref n 0), (2, .ref (n + 1) 0), (3, .ref (n + 2) 0), (20, .sl a0.Words.length (fl e_S_api_WordEdit a0.Words)), (21, .val (.int .i64 (a0.Words.length : Int))), (22, .val (.int .i64 0))]⟩ : Env)) (O' := (Loc O n [some ⟨false, 30, 11, 1, (c_S_api_Edit a0)⟩, some ⟨false, 30, 11, 1, [.val (.int .i64 0), .val (.int .i64 0), .val (.slice none 0 0), .val (.slice none 0 0), .val (.int .i64 0), .val (.slice none 0 0), .val (.slice none 0 0), .val (.slice none 0 0), .val (.slice none 0 0), .val (.int .i64 0), .val (.slice none 0 0)]⟩, some ⟨false, 30, 11, 1, [.val (.int .i64 a0.Kind), .val (.int .i64 a0.New.Kind), .sl a0.New.Words.length (fl (eI .u64) a0.New.Words), .sl a0.New.Kids.length (fl e_S_api_Tree a0.New.Kids), .val (.int .i64 a0.Old.Kind), .sl a0.Old.Words.length (fl (eI .u64) a0.Old.Words), .sl a0.Old.Kids.length (fl e_S_api_Tree a0.Old.Kids), .row (n + 3) ([] : List S_api_WordEdit).length, .val (.slice none 0 0), .val (.int .i64 a0.List_), .val (.slice none 0 0)]⟩, some ⟨true, 58, 4, ([] : List S_api_WordEdit).length, fl e_S_api_WordEdit ([] : List S_api_WordEdit)⟩])) (n' := (n + 4)) (Fit2.of (fit_loc hU rfl rfl ?_) (by omega)) ?_
    · simp only [push_cast, seval, ↓reduceIte, cast_lit, hN0, hN]
    refine ren_fit (k := 4) (k' := 5) hU [0, 1, 2, 3] [0, 1, 2, 3, 0] rfl rfl rfl rfl ⟨rfl, rfl⟩ ?_
    simp only [push_cast, seval, ↓reduceIte, cast_lit, hN0, hN]
  obtain ⟨z5, hz5, h⟩ := bC h
  refine W_blockX (E' := ⟨76, [], [(1, .ref n 0), (2, .ref (n + 1) 0), (3, .ref (n + 2) 0)]⟩) (O' := (Loc O n [some ⟨false, 30, 11, 1, (c_S_api_Edit a0)⟩, some ⟨false, 30, 11, 1, [.val (.int .i64 0), .val (.int .i64 0), .val (.slice none 0 0), .val (.slice none 0 0), .val (.int .i64 0), .val (.slice none 0 0), .val (.slice none 0 0), .val (.slice none 0 0), .val (.slice none 0 0), .val (.int .i64 0), .val (.slice none 0 0)]⟩, some ⟨false, 30, 11, 1, [.val (.int .i64 a0.Kind), .val (.int .i64 a0.New.Kind), .sl a0.New.Words.length (fl (eI .u64) a0.New.Words), .sl a0.New.Kids.length (fl e_S_api_Tree a0.New.Kids), .val (.int .i64 a0.Old.Kind), .sl a0.Old.Words.length (fl (eI .u64) a0.Old.Words), .sl a0.Old.Kids.length (fl e_S_api_Tree a0.Old.Kids), .row (n + 3) z5.length, .val (.slice none 0 0), .val (.int .i64 a0.List_), .val (.slice none 0 0)]⟩, some ⟨true, 58, 4, z5.length, fl e_S_api_WordEdit z5⟩, none])) (n0 := (n + 5)) ?_ ?_
  · refine W_loopJ hz5 (fun s0_ => ⟨76, [], [(1, .ref n 0), (2, .ref (n + 1) 0), (3, .ref (n + 2) 0), (20, .sl a0.Words.length (fl e_S_api_WordEdit a0.Words)), (21, .val (.int .i64 (a0.Words.length : Int))), (22, .val (.int .i64 s0_.1))]⟩) (fun s0_ => (Loc O n [some ⟨false, 30, 11, 1, (c_S_api_Edit a0)⟩, some ⟨false, 30, 11, 1, [.val (.int .i64 0), .val (.int .i64 0), .val (.slice none 0 0), .val (.slice none 0 0), .val (.int .i64 0), .val (.slice none 0 0), .val (.slice none 0 0), .val (.slice none 0 0), .val (.slice none 0 0), .val (.int .i64 0), .val (.slice none 0 0)]⟩, some ⟨false, 30, 11, 1, [.val (.int .i64 a0.Kind), .val (.int .i64 a0.New.Kind), .sl a0.New.Words.length (fl (eI .u64) a0.New.Words), .sl a0.New.Kids.length (fl e_S_api_Tree a0.New.Kids), .val (.int .i64 a0.Old.Kind), .sl a0.Old.Words.length (fl (eI .u64) a0.Old.Words), .sl a0.Old.Kids.length (fl e_S_api_Tree a0.Old.Kids), .row (n + 3) s0_.2.length, .val (.slice none 0 0), .val (.int .i64 a0.List_), .val (.slice none 0 0)]⟩, some ⟨true, 58, 4, s0_.2.length, fl e_S_api_WordEdit s0_.2⟩, none])) (fun z5 => JX 0 n (⟨76, [], [(1, .ref n 0), (2, .ref (n + 1) 0), (3, .ref (n + 2) 0)]⟩ : Env) (Loc O n [some ⟨false, 30, 11, 1, (c_S_api_Edit a0)⟩, some ⟨false, 30, 11, 1, [.val (.int .i64 0), .val (.int .i64 0), .val (.slice none 0 0), .val (.slice none 0 0), .val (.int .i64 0), .val (.slice none 0 0), .val (.slice none 0 0), .val (.slice none 0 0), .val (.slice none 0 0), .val (.int .i64 0), .val (.slice none 0 0)]⟩, some ⟨false, 30, 11, 1, [.val (.int .i64 a0.Kind), .val (.int .i64 a0.New.Kind), .sl a0.New.Words.length (fl (eI .u64) a0.New.Words), .sl a0.New.Kids.length (fl e_S_api_Tree a0.New.Kids), .val (.int .i64 a0.Old.Kind), .sl a0.Old.Words.length (fl (eI .u64) a0.Old.Words), .sl a0.Old.Kids.length (fl e_S_api_Tree a0.Old.Kids), .row (n + 3) z5.length, .val (.slice none 0 0), .val (.int .i64 a0.List_), .val (.slice none 0 0)]⟩, some ⟨true, 58, 4, z5.length, fl e_S_api_WordEdit z5⟩, none]) (n + 5)) ?_
    intro s0_ x0_ hs0_
    unfold b_invert_turned_L0 at hs0_
    try dsimp only
    refine W_sq [1, 2, 3, 20, 21, 22, 23] (W_regionD tab_ok [] ?_)
    simp only [push_cast, seval, ↓reduceIte, cast_lit, hN0, hN]
    refine W_seqK ?_
    refine W_cond (t := (decide (s0_.1 < (a0.Words.length : Int)))) rfl (fun c4 => ?_) (fun c4 => ?_)
    · replace hs0_ := condT c4 hs0_
      refine W_skip ?_
      try simp only [gthen, gblock]
      refine W_drop [1, 2, 3, 20, 21, 22] [true, true, true, true, false] ?_
      simp only [push_cast, seval, ↓reduceIte]
      refine W_seqK ?_
      refine W_block ?_
      refine W_seqK ?_
      obtain ⟨x2, hx2, ax2, bx2, cx2, hs0_⟩ := bE (f := e_S_api_WordEdit) tab58 (fun _ => rfl) (by decide) hs0_
      refine W_regionD tab_ok [] ?_
      simp only [push_cast, Nat.reduceAdd, Nat.reduceSub, Nat.reduceMul, Nat.reduceLeDiff, Nat.reduceLT, Nat.reduceEqDiff, ↓reduceIte, reduceCtorEq, Int.reduceBEq, Int.reduceBNe, Nat.reduceBEq, Int.reduceLE, Int.reduceLT, Int.reduceEq, Int.reduceNe, Int.reduceNeg, Nat.reduceDiv, Nat.reduceMod, Nat.reducePow, cast_lit, ax2, bx2, cx2, hN0, hN]
      refine W_drop [1, 2, 3, 5, 20, 21, 22] [true, true, true, true, false, true] ?_
      simp only [push_cast, seval, ↓reduceIte]
      obtain ⟨l3, pl3, ql3, el3, hs0_⟩ := bA (k := 1) rfl hs0_
      refine W_regionD tab_ok [] ?_
      simp only [push_cast, seval, ↓reduceIte, cast_lit, pl3, ql3, el3, hN0, hN]
      refine W_fit ⟨76, [], [(1, .ref n 0), (2, .ref (n + 1) 0), (3, .ref (n + 2) 0), (20, .sl a0.Words.length (fl e_S_api_WordEdit a0.Words)), (21, .val (.int .i64 (a0.Words.length : Int))), (22, .val (.int .i64 s0_.1))]⟩ (Loc O n [some ⟨false, 30, 11, 1, (c_S_api_Edit a0)⟩, some ⟨false, 30, 11, 1, [.val (.int .i64 0), .val (.int .i64 0), .val (.slice none 0 0), .val (.slice none 0 0), .val (.int .i64 0), .val (.slice none 0 0), .val (.slice none 0 0), .val (.slice none 0 0), .val (.slice none 0 0), .val (.int .i64 0), .val (.slice none 0 0)]⟩, some ⟨false, 30, 11, 1, [.val (.int .i64 a0.Kind), .val (.int .i64 a0.New.Kind), .sl a0.New.Words.length (fl (eI .u64) a0.New.Words), .sl a0.New.Kids.length (fl e_S_api_Tree a0.New.Kids), .val (.int .i64 a0.Old.Kind), .sl a0.Old.Words.length (fl (eI .u64) a0.Old.Words), .sl a0.Old.Kids.length (fl e_S_api_Tree a0.Old.Kids), .row (n + 3) l3.length, .val (.slice none 0 0), .val (.int .i64 a0.List_), .val (.slice none 0 0)]⟩, some ⟨true, 58, 4, l3.length, fl e_S_api_WordEdit l3⟩, none, none, none]) (fit_loc hU rfl rfl ?_) ?_
      · simp only [push_cast, seval, ↓reduceIte, cast_lit, pl3, ql3, el3, hN0, hN]
      refine W_regionD tab_ok [] ?_
      simp only [push_cast, seval, ↓reduceIte, cast_lit, hN0, hN]
      have hs0_ := Option.some.inj hs0_; subst hs0_
      refine And.intro rfl (Fit2.of (fit_loc hU rfl rfl ?_) (by omega))
      simp only [push_cast, seval, ↓reduceIte, cast_lit, hN0, hN]
    · replace hs0_ := condF c4 hs0_
      refine W_exit ?_
      try simp only [gthen, gblock, ↓reduceIte, Nat.reduceEqDiff]
      have hs0_ := Option.some.inj hs0_; subst hs0_
      refine And.intro (fun h => by cases h) (And.intro rfl (Fit2.of (fit_loc hU rfl rfl ?_) (by omega)))
      simp only [push_cast, seval, ↓reduceIte, cast_lit, hN0, hN]
  try simp only [gthen, gblock, ↓reduceIte, Nat.reduceEqDiff]
  refine W_drop [1, 2, 3] [true, true, true, true, false] ?_
  simp only [push_cast, seval, ↓reduceIte]
  refine W_seqK ?_
  refine W_sq [1, 2, 3, 42, 43, 44] (W_regionD tab_ok [] ?_)
  simp only [push_cast, seval, ↓reduceIte, cast_lit, hN0, hN]
  refine W_drop [1, 2, 3, 42, 43, 44] [true, true, true, true, false] ?_
  simp only [push_cast, seval, ↓reduceIte]
  refine W_fit2 (E' := (⟨76, [], [(1, .ref n 0), (2, .ref (n + 1) 0), (3, .ref (n + 2) 0), (42, .sl a0.Kids.length (fl e_S_api_KidEdit a0.Kids)), (43, .val (.int .i64 (a0.Kids.length : Int))), (44, .val (.int .i64 0))]⟩ : Env)) (O' := (Loc O n [some ⟨false, 30, 11, 1, (c_S_api_Edit a0)⟩, some ⟨false, 30, 11, 1, [.val (.int .i64 0), .val (.int .i64 0), .val (.slice none 0 0), .val (.slice none 0 0), .val (.int .i64 0), .val (.slice none 0 0), .val (.slice none 0 0), .val (.slice none 0 0), .val (.slice none 0 0), .val (.int .i64 0), .val (.slice none 0 0)]⟩, some ⟨false, 30, 11, 1, [.val (.int .i64 a0.Kind), .val (.int .i64 a0.New.Kind), .sl a0.New.Words.length (fl (eI .u64) a0.New.Words), .sl a0.New.Kids.length (fl e_S_api_Tree a0.New.Kids), .val (.int .i64 a0.Old.Kind), .sl a0.Old.Words.length (fl (eI .u64) a0.Old.Words), .sl a0.Old.Kids.length (fl e_S_api_Tree a0.Old.Kids), .row (n + 3) z5.length, .row (n + 5) ([] : List S_api_KidEdit).length, .val (.int .i64 a0.List_), .val (.slice none 0 0)]⟩, some ⟨true, 58, 4, z5.length, fl e_S_api_WordEdit z5⟩, none, some ⟨true, 71, 12, ([] : List S_api_KidEdit).length, fl e_S_api_KidEdit ([] : List S_api_KidEdit)⟩, none])) (n' := (n + 7)) ?_ ?_
  · refine Fit2.trans (E' := (⟨76, [], [(1, .ref n 0), (2, .ref (n + 1) 0), (3, .ref (n + 2) 0), (42, .sl a0.Kids.length (fl e_S_api_KidEdit a0.Kids)), (43, .val (.int .i64 (a0.Kids.length : Int))), (44, .val (.int .i64 0))]⟩ : Env)) (O' := (Loc O n [some ⟨false, 30, 11, 1, (c_S_api_Edit a0)⟩, some ⟨false, 30, 11, 1, [.val (.int .i64 0), .val (.int .i64 0), .val (.slice none 0 0), .val (.slice none 0 0), .val (.int .i64 0), .val (.slice none 0 0), .val (.slice none 0 0), .val (.slice none 0 0), .val (.slice none 0 0), .val (.int .i64 0), .val (.slice none 0 0)]⟩, some ⟨false, 30, 11, 1, [.val (.int .i64 a0.Kind), .val (.int .i64 a0.New.Kind), .sl a0.New.Words.length (fl (eI .u64) a0.New.Words), .sl a0.New.Kids.length (fl e_S_api_Tree a0.New.Kids), .val (.int .i64 a0.Old.Kind), .sl a0.Old.Words.length (fl (eI .u64) a0.Old.Words), .sl a0.Old.Kids.length (fl e_S_api_Tree a0.Old.Kids), .row (n + 3) z5.length, .val (.slice none 0 0), .val (.int .i64 a0.List_), .val (.slice none 0 0)]⟩, some ⟨true, 58, 4, z5.length, fl e_S_api_WordEdit z5⟩, none])) (n' := (n + 5)) (Fit2.of (fit_loc hU rfl rfl ?_) (by omega)) ?_
    · simp only [push_cast, seval, ↓reduceIte, cast_lit, hN0, hN]
    refine Fit2.trans (E' := (⟨76, [], [(1, .ref n 0), (2, .ref (n + 1) 0), (3, .ref (n + 2) 0), (42, .sl a0.Kids.length (fl e_S_api_KidEdit a0.Kids)), (43, .val (.int .i64 (a0.Kids.length : Int))), (44, .val (.int .i64 0))]⟩ : Env)) (O' := (Loc O n [some ⟨false, 30, 11, 1, (c_S_api_Edit a0)⟩, some ⟨false, 30, 11, 1, [.val (.int .i64 0), .val (.int .i64 0), .val (.slice none 0 0), .val (.slice none 0 0), .val (.int .i64 0), .val (.slice none 0 0), .val (.slice none 0 0), .val (.slice none 0 0), .val (.slice none 0 0), .val (.int .i64 0), .val (.slice none 0 0)]⟩, some ⟨false, 30, 11, 1, [.val (.int .i64 a0.Kind), .val (.int .i64 a0.New.Kind), .sl a0.New.Words.length (fl (eI .u64) a0.New.Words), .sl a0.New.Kids.length (fl e_S_api_Tree a0.New.Kids), .val (.int .i64 a0.Old.Kind), .sl a0.Old.Words.length (fl (eI .u64) a0.Old.Words), .sl a0.Old.Kids.length (fl e_S_api_Tree a0.Old.Kids), .row (n + 3) z5.length, .row (n + 5) 0, .val (.int .i64 a0.List_), .val (.slice none 0 0)]⟩, some ⟨true, 58, 4, z5.length, fl e_S_api_WordEdit z5⟩, none, some ⟨true, 71, 12, 0, []⟩])) (n' := (n + 6)) ?_ ?_
    · have ha := adoptF_fit (ba := n) (E := (⟨76, [], [(1, .ref n 0), (2, .ref (n + 1) 0), (3, .ref (n + 2) 0), (42, .sl a0.Kids.length (fl e_S_api_KidEdit a0.Kids)), (43, .val (.int .i64 (a0.Kids.length : Int))), (44, .val (.int .i64 0))]⟩ : Env)) (O := (Loc O n [some ⟨false, 30, 11, 1, [.val (.int .i64 a0.Kind), .val (.int .i64 a0.Old.Kind), .sl a0.Old.Words.length (fl (eI .u64) a0.Old.Words), .sl a0.Old.Kids.length (fl e_S_api_Tree a0.Old.Kids), .val (.int .i64 a0.New.Kind), .sl a0.New.Words.length (fl (eI .u64) a0.New.Words), .sl a0.New.Kids.length (fl e_S_api_Tree a0.New.Kids), .sl a0.Words.length (fl e_S_api_WordEdit a0.Words), .sl a0.Kids.length (fl e_S_api_KidEdit a0.Kids), .val (.int .i64 a0.List_), .sl a0.Ops.length (fl e_S_api_Op a0.Ops)]⟩, some ⟨false, 30, 11, 1, [.val (.int .i64 0), .val (.int .i64 0), .val (.slice none 0 0), .val (.slice none 0 0), .val (.int .i64 0), .val (.slice none 0 0), .val (.slice none 0 0), .val (.slice none 0 0), .val (.slice none 0 0), .val (.int .i64 0), .val (.slice none 0 0)]⟩, some ⟨false, 30, 11, 1, [.val (.int .i64 a0.Kind), .val (.int .i64 a0.New.Kind), .sl a0.New.Words.length (fl (eI .u64) a0.New.Words), .sl a0.New.Kids.length (fl e_S_api_Tree a0.New.Kids), .val (.int .i64 a0.Old.Kind), .sl a0.Old.Words.length (fl (eI .u64) a0.Old.Words), .sl a0.Old.Kids.length (fl e_S_api_Tree a0.Old.Kids), .row (n + 3) z5.length, .val (.slice none 0 0), .val (.int .i64 a0.List_), .val (.slice none 0 0)]⟩, some ⟨true, 58, 4, z5.length, fl e_S_api_WordEdit z5⟩, none])) (n := (n + 5)) (p := (n + 2)) (k := 8) (q := ⟨false, 30, 11, 1, [.val (.int .i64 a0.Kind), .val (.int .i64 a0.New.Kind), .sl a0.New.Words.length (fl (eI .u64) a0.New.Words), .sl a0.New.Kids.length (fl e_S_api_Tree a0.New.Kids), .val (.int .i64 a0.Old.Kind), .sl a0.Old.Words.length (fl (eI .u64) a0.Old.Words), .sl a0.Old.Kids.length (fl e_S_api_Tree a0.Old.Kids), .row (n + 3) z5.length, .val (.slice none 0 0), .val (.int .i64 a0.List_), .val (.slice none 0 0)]⟩) 71 12 (by simp only [Loc_at, Loc_at0, List.getElem?_cons_zero, List.getElem?_cons_succ, Option.join_some, upd_same]) rfl (by omega)
      simp only [Loc_push, Loc_push0, Loc_upd, Loc_upd0, List.set_cons_zero, List.set_cons_succ, List.cons_append, List.nil_append, List.length_cons, List.length_nil, Nat.zero_add, Nat.reduceAdd, Nat.reduceLT, Nat.add_assoc] at ha
      exact ha
    refine Fit2.trans (E' := (⟨76, [], [(1, .ref n 0), (2, .ref (n + 1) 0), (3, .ref (n + 2) 0), (42, .sl a0.Kids.length (fl e_S_api_KidEdit a0.Kids)), (43, .val (.int .i64 (a0.Kids.length : Int))), (44, .val (.int .i64 0))]⟩ : Env)) (O' := (Loc O n [some ⟨false, 30, 11, 1, (c_S_api_Edit a0)⟩, some ⟨false, 30, 11, 1, [.val (.int .i64 0), .val (.int .i64 0), .val (.slice none 0 0), .val (.slice none 0 0), .val (.int .i64 0), .val (.slice none 0 0), .val (.slice none 0 0), .val (.slice none 0 0), .val (.slice none 0 0), .val (.int .i64 0), .val (.slice none 0 0)]⟩, some ⟨false, 30, 11, 1, [.val (.int .i64 a0.Kind), .val (.int .i64 a0.New.Kind), .sl a0.New.Words.length (fl (eI .u64) a0.New.Words), .sl a0.New.Kids.length (fl e_S_api_Tree a0.New.Kids), .val (.int .i64 a0.Old.Kind), .sl a0.Old.Words.length (fl (eI .u64) a0.Old.Words), .sl a0.Old.Kids.length (fl e_S_api_Tree a0.Old.Kids), .row (n + 3) z5.length, .row (n + 5) ([] : List S_api_KidEdit).length, .val (.int .i64 a0.List_), .val (.slice none 0 0)]⟩, some ⟨true, 58, 4, z5.length, fl e_S_api_WordEdit z5⟩, none, some ⟨true, 71, 12, ([] : List S_api_KidEdit).length, fl e_S_api_KidEdit ([] : List S_api_KidEdit)⟩])) (n' := (n + 6)) (Fit2.of (fit_loc hU rfl rfl ?_) (by omega)) ?_
    · simp only [push_cast, seval, ↓reduceIte, cast_lit, hN0, hN]
    refine ren_fit (k := 6) (k' := 7) hU [0, 1, 2, 3, 6, 5] [0, 1, 2, 3, 0, 5, 0] rfl rfl rfl rfl ⟨rfl, rfl⟩ ?_
    simp only [push_cast, seval, ↓reduceIte, cast_lit, hN0, hN]
  obtain ⟨z11, hz11, h⟩ := bC h
  refine W_blockX (E' := ⟨76, [], [(1, .ref n 0), (2, .ref (n + 1) 0), (3, .ref (n + 2) 0)]⟩) (O' := (Loc O n [some ⟨false, 30, 11, 1, (c_S_api_Edit a0)⟩, some ⟨false, 30, 11, 1, [.val (.int .i64 0), .val (.int .i64 0), .val (.slice none 0 0), .val (.slice none 0 0), .val (.int .i64 0), .val (.slice none 0 0), .val (.slice none 0 0), .val (.slice none 0 0), .val (.slice none 0 0), .val (.int .i64 0), .val (.slice none 0 0)]⟩, some ⟨false, 30, 11, 1, [.val (.int .i64 a0.Kind), .val (.int .i64 a0.New.Kind), .sl a0.New.Words.length (fl (eI .u64) a0.New.Words), .sl a0.New.Kids.length (fl e_S_api_Tree a0.New.Kids), .val (.int .i64 a0.Old.Kind), .sl a0.Old.Words.length (fl (eI .u64) a0.Old.Words), .sl a0.Old.Kids.length (fl e_S_api_Tree a0.Old.Kids), .row (n + 3) z5.length, .row (n + 5) z11.length, .val (.int .i64 a0.List_), .val (.slice none 0 0)]⟩, some ⟨true, 58, 4, z5.length, fl e_S_api_WordEdit z5⟩, none, some ⟨true, 71, 12, z11.length, fl e_S_api_KidEdit z11⟩, none])) (n0 := (n + 7)) ?_ ?_
  · refine W_loopJ hz11 (fun s1_ => ⟨76, [], [(1, .ref n 0), (2, .ref (n + 1) 0), (3, .ref (n + 2) 0), (42, .sl a0.Kids.length (fl e_S_api_KidEdit a0.Kids)), (43, .val (.int .i64 (a0.Kids.length : Int))), (44, .val (.int .i64 s1_.1))]⟩) (fun s1_ => (Loc O n [some ⟨false, 30, 11, 1, (c_S_api_Edit a0)⟩, some ⟨false, 30, 11, 1, [.val (.int .i64 0), .val (.int .i64 0), .val (.slice none 0 0), .val (.slice none 0 0), .val (.int .i64 0), .val (.slice none 0 0), .val (.slice none 0 0), .val (.slice none 0 0), .val (.slice none 0 0), .val (.int .i64 0), .val (.slice none 0 0)]⟩, some ⟨false, 30, 11, 1, [.val (.int .i64 a0.Kind), .val (.int .i64 a0.New.Kind), .sl a0.New.Words.length (fl (eI .u64) a0.New.Words), .sl a0.New.Kids.length (fl e_S_api_Tree a0.New.Kids), .val (.int .i64 a0.Old.Kind), .sl a0.Old.Words.length (fl (eI .u64) a0.Old.Words), .sl a0.Old.Kids.length (fl e_S_api_Tree a0.Old.Kids), .row (n + 3) z5.length, .row (n + 5) s1_.2.length, .val (.int .i64 a0.List_), .val (.slice none 0 0)]⟩, some ⟨true, 58, 4, z5.length, fl e_S_api_WordEdit z5⟩, none, some ⟨true, 71, 12, s1_.2.length, fl e_S_api_KidEdit s1_.2⟩, none])) (fun z11 => JX 2 n (⟨76, [], [(1, .ref n 0), (2, .ref (n + 1) 0), (3, .ref (n + 2) 0)]⟩ : Env) (Loc O n [some ⟨false, 30, 11, 1, (c_S_api_Edit a0)⟩, some ⟨false, 30, 11, 1, [.val (.int .i64 0), .val (.int .i64 0), .val (.slice none 0 0), .val (.slice none 0 0), .val (.int .i64 0), .val (.slice none 0 0), .val (.slice none 0 0), .val (.slice none 0 0), .val (.slice none 0 0), .val (.int .i64 0), .val (.slice none 0 0)]⟩, some ⟨false, 30, 11, 1, [.val (.int .i64 a0.Kind), .val (.int .i64 a0.New.Kind), .sl a0.New.Words.length (fl (eI .u64) a0.New.Words), .sl a0.New.Kids.length (fl e_S_api_Tree a0.New.Kids), .val (.int .i64 a0.Old.Kind), .sl a0.Old.Words.length (fl (eI .u64) a0.Old.Words), .sl a0.Old.Kids.length (fl e_S_api_Tree a0.Old.Kids), .row (n + 3) z5.length, .row (n + 5) z11.length, .val (.int .i64 a0.List_), .val (.slice none 0 0)]⟩, some ⟨true, 58, 4, z5.length, fl e_S_api_WordEdit z5⟩, none, some ⟨true, 71, 12, z11.length, fl e_S_api_KidEdit z11⟩, none]) (n + 7)) ?_
    intro s1_ x1_ hs1_
    unfold b_invert_turned_L1 at hs1_
    try dsimp only
    refine W_sq [1, 2, 3, 42, 43, 44, 45] (W_regionD tab_ok [] ?_)
    simp only [push_cast, seval, ↓reduceIte, cast_lit, hN0, hN]
    refine W_seqK ?_
    refine W_cond (t := (decide (s1_.1 < (a0.Kids.length : Int)))) rfl (fun c10 => ?_) (fun c10 => ?_)
    · replace hs1_ := condT c10 hs1_
      refine W_skip ?_
      try simp only [gthen, gblock]
      refine W_drop [1, 2, 3, 42, 43, 44] [true, true, true, true, false, true, false] ?_
      simp only [push_cast, seval, ↓reduceIte]
      refine W_seqK ?_
      refine W_block ?_
      refine W_seqK ?_
      obtain ⟨x7, hx7, ax7, bx7, cx7, hs1_⟩ := bE (f := e_S_api_KidEdit) tab71 (fun _ => rfl) (by decide) hs1_
      refine W_regionD tab_ok [] ?_
      simp only [push_cast, Nat.reduceAdd, Nat.reduceSub, Nat.reduceMul, Nat.reduceLeDiff, Nat.reduceLT, Nat.reduceEqDiff, ↓reduceIte, reduceCtorEq, Int.reduceBEq, Int.reduceBNe, Nat.reduceBEq, Int.reduceLE, Int.reduceLT, Int.reduceEq, Int.reduceNe, Int.reduceNeg, Nat.reduceDiv, Nat.reduceMod, Nat.reducePow, cast_lit, ax7, bx7, cx7, hN0, hN]
      refine W_drop [1, 2, 3, 7, 42, 43, 44] [true, true, true, true, false, true, false, true] ?_
      simp only [push_cast, seval, ↓reduceIte]
      obtain ⟨y8, hy8, hs1_⟩ := bC hs1_
      obtain ⟨l9, pl9, ql9, el9, hs1_⟩ := bA (k := 1) rfl hs1_
      refine W_drawY tab_ok (by kernel_rfl) [.low, .low, .plain, .plain, .plain, .plain, .plain, .plain, .pass, .bar, .plain, .bar] (fun i => i < (n + 8)) [0, 1, 2, 3, 4, 5, 6, 7, 8, 9, 10, 11] [.low, .low, .plain, .plain, .plain, .plain, .plain, .plain, .pass, .bar, .plain, .bar] [] (by kernel_rfl) rfl ?_
      simp only [push_cast, seval, ↓reduceIte, cast_lit, pl9, ql9, el9, hN0, hN]
      repeat (with_reducible refine And.intro (by first | omega | exact agree_loc rfl | exact agree_loc0 | exact agree_ne rfl rfl) ?_)
      first | refine PCallA.of (fun _ _ => ok_r_invert_turned hy8) ?_ | refine PCall.of (ok_r_invert_turned hy8) ?_
      simp only [push_cast, seval, ↓reduceIte, cast_lit, pl9, ql9, el9, hN0, hN]
      repeat (with_reducible refine And.intro (by first | omega | exact agree_loc rfl | exact agree_loc0 | exact agree_ne rfl rfl) ?_)
      refine W_fit ⟨76, [], [(1, .ref n 0), (2, .ref (n + 1) 0), (3, .ref (n + 2) 0), (42, .sl a0.Kids.length (fl e_S_api_KidEdit a0.Kids)), (43, .val (.int .i64 (a0.Kids.length : Int))), (44, .val (.int .i64 s1_.1))]⟩ (Loc O n [some ⟨false, 30, 11, 1, (c_S_api_Edit a0)⟩, some ⟨false, 30, 11, 1, [.val (.int .i64 0), .val (.int .i64 0), .val (.slice none 0 0), .val (.slice none 0 0), .val (.int .i64 0), .val (.slice none 0 0), .val (.slice none 0 0), .val (.slice none 0 0), .val (.slice none 0 0), .val (.int .i64 0), .val (.slice none 0 0)]⟩, some ⟨false, 30, 11, 1, [.val (.int .i64 a0.Kind), .val (.int .i64 a0.New.Kind), .sl a0.New.Words.length (fl (eI .u64) a0.New.Words), .sl a0.New.Kids.length (fl e_S_api_Tree a0.New.Kids), .val (.int .i64 a0.Old.Kind), .sl a0.Old.Words.length (fl (eI .u64) a0.Old.Words), .sl a0.Old.Kids.length (fl e_S_api_Tree a0.Old.Kids), .row (n + 3) z5.length, .row (n + 5) l9.length, .val (.int .i64 a0.List_), .val (.slice none 0 0)]⟩, some ⟨true, 58, 4, z5.length, fl e_S_api_WordEdit z5⟩, none, some ⟨true, 71, 12, l9.length, fl e_S_api_KidEdit l9⟩, none, none, none]) (fit_loc hU rfl rfl ?_) ?_
      · simp only [push_cast, seval, ↓reduceIte, cast_lit, pl9, ql9, el9, hN0, hN]
      refine W_regionD tab_ok [] ?_
      simp only [push_cast, seval, ↓reduceIte, cast_lit, hN0, hN]
      have hs1_ := Option.some.inj hs1_; subst hs1_
      refine And.intro rfl (Fit2.of (fit_loc hU rfl rfl ?_) (by omega))
      simp only [push_cast, seval, ↓reduceIte, cast_lit, hN0, hN]
    · replace hs1_ := condF c10 hs1_
      refine W_exit ?_
      try simp only [gthen, gblock, ↓reduceIte, Nat.reduceEqDiff]
      have hs1_ := Option.some.inj hs1_; subst hs1_
      refine And.intro (fun h => by cases h) (And.intro rfl (Fit2.of (fit_loc hU rfl rfl ?_) (by omega)))
      simp only [push_cast, seval, ↓reduceIte, cast_lit, hN0, hN]
  try simp only [gthen, gblock, ↓reduceIte, Nat.reduceEqDiff]
  refine W_drop [1, 2, 3] [true, true, true, true, false, true, false] ?_
  simp only [push_cast, seval, ↓reduceIte]
  refine W_seqK ?_
  refine W_sq [2, 3, 61, 62, 63] (W_regionD tab_ok [] ?_)
  simp only [push_cast, seval, ↓reduceIte, cast_lit, hN0, hN]
  refine W_drop [2, 3, 61, 62, 63] [false, true, true, true, false, true, false] ?_
  simp only [push_cast, seval, ↓reduceIte]
  refine W_fit2 (E' := (⟨76, [], [(2, .ref (n + 1) 0), (3, .ref (n + 2) 0), (61, .sl a0.Ops.length (fl e_S_api_Op a0.Ops)), (62, .val (.int .i64 (a0.Ops.length : Int))), (63, .val (.int .i64 0))]⟩ : Env)) (O' := (Loc O n [none, some ⟨false, 30, 11, 1, [.val (.int .i64 0), .val (.int .i64 0), .val (.slice none 0 0), .val (.slice none 0 0), .val (.int .i64 0), .val (.slice none 0 0), .val (.slice none 0 0), .val (.slice none 0 0), .val (.slice none 0 0), .val (.int .i64 0), .val (.slice none 0 0)]⟩, some ⟨false, 30, 11, 1, [.val (.int .i64 a0.Kind), .val (.int .i64 a0.New.Kind), .sl a0.New.Words.length (fl (eI .u64) a0.New.Words), .sl a0.New.Kids.length (fl e_S_api_Tree a0.New.Kids), .val (.int .i64 a0.Old.Kind), .sl a0.Old.Words.length (fl (eI .u64) a0.Old.Words), .sl a0.Old.Kids.length (fl e_S_api_Tree a0.Old.Kids), .row (n + 3) z5.length, .row (n + 5) z11.length, .val (.int .i64 a0.List_), .row (n + 7) ([] : List S_api_Op).length]⟩, some ⟨true, 58, 4, z5.length, fl e_S_api_WordEdit z5⟩, none, some ⟨true, 71, 12, z11.length, fl e_S_api_KidEdit z11⟩, none, some ⟨true, 69, 14, ([] : List S_api_Op).length, fl e_S_api_Op ([] : List S_api_Op)⟩, none])) (n' := (n + 9)) ?_ ?_
  · refine Fit2.trans (E' := (⟨76, [], [(2, .ref (n + 1) 0), (3, .ref (n + 2) 0), (61, .sl a0.Ops.length (fl e_S_api_Op a0.Ops)), (62, .val (.int .i64 (a0.Ops.length : Int))), (63, .val (.int .i64 0))]⟩ : Env)) (O' := (Loc O n [none, some ⟨false, 30, 11, 1, [.val (.int .i64 0), .val (.int .i64 0), .val (.slice none 0 0), .val (.slice none 0 0), .val (.int .i64 0), .val (.slice none 0 0), .val (.slice none 0 0), .val (.slice none 0 0), .val (.slice none 0 0), .val (.int .i64 0), .val (.slice none 0 0)]⟩, some ⟨false, 30, 11, 1, [.val (.int .i64 a0.Kind), .val (.int .i64 a0.New.Kind), .sl a0.New.Words.length (fl (eI .u64) a0.New.Words), .sl a0.New.Kids.length (fl e_S_api_Tree a0.New.Kids), .val (.int .i64 a0.Old.Kind), .sl a0.Old.Words.length (fl (eI .u64) a0.Old.Words), .sl a0.Old.Kids.length (fl e_S_api_Tree a0.Old.Kids), .row (n + 3) z5.length, .row (n + 5) z11.length, .val (.int .i64 a0.List_), .val (.slice none 0 0)]⟩, some ⟨true, 58, 4, z5.length, fl e_S_api_WordEdit z5⟩, none, some ⟨true, 71, 12, z11.length, fl e_S_api_KidEdit z11⟩, none])) (n' := (n + 7)) (Fit2.of (fit_loc hU rfl rfl ?_) (by omega)) ?_
    · simp only [push_cast, seval, ↓reduceIte, cast_lit, hN0, hN]
    refine Fit2.trans (E' := (⟨76, [], [(2, .ref (n + 1) 0), (3, .ref (n + 2) 0), (61, .sl a0.Ops.length (fl e_S_api_Op a0.Ops)), (62, .val (.int .i64 (a0.Ops.length : Int))), (63, .val (.int .i64 0))]⟩ : Env)) (O' := (Loc O n [none, some ⟨false, 30, 11, 1, [.val (.int .i64 0), .val (.int .i64 0), .val (.slice none 0 0), .val (.slice none 0 0), .val (.int .i64 0), .val (.slice none 0 0), .val (.slice none 0 0), .val (.slice none 0 0), .val (.slice none 0 0), .val (.int .i64 0), .val (.slice none 0 0)]⟩, some ⟨false, 30, 11, 1, [.val (.int .i64 a0.Kind), .val (.int .i64 a0.New.Kind), .sl a0.New.Words.length (fl (eI .u64) a0.New.Words), .sl a0.New.Kids.length (fl e_S_api_Tree a0.New.Kids), .val (.int .i64 a0.Old.Kind), .sl a0.Old.Words.length (fl (eI .u64) a0.Old.Words), .sl a0.Old.Kids.length (fl e_S_api_Tree a0.Old.Kids), .row (n + 3) z5.length, .row (n + 5) z11.length, .val (.int .i64 a0.List_), .row (n + 7) 0]⟩, some ⟨true, 58, 4, z5.length, fl e_S_api_WordEdit z5⟩, none, some ⟨true, 71, 12, z11.length, fl e_S_api_KidEdit z11⟩, none, some ⟨true, 69, 14, 0, []⟩])) (n' := (n + 8)) ?_ ?_
    · have ha := adoptF_fit (ba := n) (E := (⟨76, [], [(2, .ref (n + 1) 0), (3, .ref (n + 2) 0), (61, .sl a0.Ops.length (fl e_S_api_Op a0.Ops)), (62, .val (.int .i64 (a0.Ops.length : Int))), (63, .val (.int .i64 0))]⟩ : Env)) (O := (Loc O n [none, some ⟨false, 30, 11, 1, [.val (.int .i64 0), .val (.int .i64 0), .val (.slice none 0 0), .val (.slice none 0 0), .val (.int .i64 0), .val (.slice none 0 0), .val (.slice none 0 0), .val (.slice none 0 0), .val (.slice none 0 0), .val (.int .i64 0), .val (.slice none 0 0)]⟩, some ⟨false, 30, 11, 1, [.val (.int .i64 a0.Kind), .val (.int .i64 a0.New.Kind), .sl a0.New.Words.length (fl (eI .u64) a0.New.Words), .sl a0.New.Kids.length (fl e_S_api_Tree a0.New.Kids), .val (.int .i64 a0.Old.Kind), .sl a0.Old.Words.length (fl (eI .u64) a0.Old.Words), .sl a0.Old.Kids.length (fl e_S_api_Tree a0.Old.Kids), .row (n + 3) z5.length, .row (n + 5) z11.length, .val (.int .i64 a0.List_), .val (.slice none 0 0)]⟩, some ⟨true, 58, 4, z5.length, fl e_S_api_WordEdit z5⟩, none, some ⟨true, 71, 12, z11.length, fl e_S_api_KidEdit z11⟩, none])) (n := (n + 7)) (p := (n + 2)) (k := 10) (q := ⟨false, 30, 11, 1, [.val (.int .i64 a0.Kind), .val (.int .i64 a0.New.Kind), .sl a0.New.Words.length (fl (eI .u64) a0.New.Words), .sl a0.New.Kids.length (fl e_S_api_Tree a0.New.Kids), .val (.int .i64 a0.Old.Kind), .sl a0.Old.Words.length (fl (eI .u64) a0.Old.Words), .sl a0.Old.Kids.length (fl e_S_api_Tree a0.Old.Kids), .row (n + 3) z5.length, .row (n + 5) z11.length, .val (.int .i64 a0.List_), .val (.slice none 0 0)]⟩) 69 14 (by simp only [Loc_at, Loc_at0, List.getElem?_cons_zero, List.getElem?_cons_succ, Option.join_some, upd_same]) rfl (by omega)
      simp only [Loc_push, Loc_push0, Loc_upd, Loc_upd0, List.set_cons_zero, List.set_cons_succ, List.cons_append, List.nil_append, List.length_cons, List.length_nil, Nat.zero_add, Nat.reduceAdd, Nat.reduceLT, Nat.add_assoc] at ha
      exact ha
    refine Fit2.trans (E' := (⟨76, [], [(2, .ref (n + 1) 0), (3, .ref (n + 2) 0), (61, .sl a0.Ops.length (fl e_S_api_Op a0.Ops)), (62, .val (.int .i64 (a0.Ops.length : Int))), (63, .val (.int .i64 0))]⟩ : Env)) (O' := (Loc O n [none, some ⟨false, 30, 11, 1, [.val (.int .i64 0), .val (.int .i64 0), .val (.slice none 0 0), .val (.slice none 0 0), .val (.int .i64 0), .val (.slice none 0 0), .val (.slice none 0 0), .val (.slice none 0 0), .val (.slice none 0 0), .val (.int .i64 0), .val (.slice none 0 0)]⟩, some ⟨false, 30, 11, 1, [.val (.int .i64 a0.Kind), .val (.int .i64 a0.New.Kind), .sl a0.New.Words.length (fl (eI .u64) a0.New.Words), .sl a0.New.Kids.length (fl e_S_api_Tree a0.New.Kids), .val (.int .i64 a0.Old.Kind), .sl a0.Old.Words.length (fl (eI .u64) a0.Old.Words), .sl a0.Old.Kids.length (fl e_S_api_Tree a0.Old.Kids), .row (n + 3) z5.length, .row (n + 5) z11.length, .val (.int .i64 a0.List_), .row (n + 7) ([] : List S_api_Op).length]⟩, some ⟨true, 58, 4, z5.length, fl e_S_api_WordEdit z5⟩, none, some ⟨true, 71, 12, z11.length, fl e_S_api_KidEdit z11⟩, none, some ⟨true, 69, 14, ([] : List S_api_Op).length, fl e_S_api_Op ([] : List S_api_Op)⟩])) (n' := (n + 8)) (Fit2.of (fit_loc hU rfl rfl ?_) (by omega)) ?_
    · simp only [push_cast, seval, ↓reduceIte, cast_lit, hN0, hN]
    refine ren_fit (k := 8) (k' := 9) hU [8, 1, 2, 3, 8, 5, 8, 7] [0, 1, 2, 3, 0, 5, 0, 7, 0] rfl rfl rfl rfl ⟨rfl, rfl⟩ ?_
    simp only [push_cast, seval, ↓reduceIte, cast_lit, hN0, hN]
  obtain ⟨z17, hz17, h⟩ := bC h
  refine W_blockX (E' := ⟨76, [], [(2, .ref (n + 1) 0), (3, .ref (n + 2) 0)]⟩) (O' := (Loc O n [none, some ⟨false, 30, 11, 1, [.val (.int .i64 0), .val (.int .i64 0), .val (.slice none 0 0), .val (.slice none 0 0), .val (.int .i64 0), .val (.slice none 0 0), .val (.slice none 0 0), .val (.slice none 0 0), .val (.slice none 0 0), .val (.int .i64 0), .val (.slice none 0 0)]⟩, some ⟨false, 30, 11, 1, [.val (.int .i64 a0.Kind), .val (.int .i64 a0.New.Kind), .sl a0.New.Words.length (fl (eI .u64) a0.New.Words), .sl a0.New.Kids.length (fl e_S_api_Tree a0.New.Kids), .val (.int .i64 a0.Old.Kind), .sl a0.Old.Words.length (fl (eI .u64) a0.Old.Words), .sl a0.Old.Kids.length (fl e_S_api_Tree a0.Old.Kids), .row (n + 3) z5.length, .row (n + 5) z11.length, .val (.int .i64 a0.List_), .row (n + 7) z17.length]⟩, some ⟨true, 58, 4, z5.length, fl e_S_api_WordEdit z5⟩, none, some ⟨true, 71, 12, z11.length, fl e_S_api_KidEdit z11⟩, none, some ⟨true, 69, 14, z17.length, fl e_S_api_Op z17⟩, none])) (n0 := (n + 9)) ?_ ?_
  · refine W_loopJ hz17 (fun s2_ => ⟨76, [], [(2, .ref (n + 1) 0), (3, .ref (n + 2) 0), (61, .sl a0.Ops.length (fl e_S_api_Op a0.Ops)), (62, .val (.int .i64 (a0.Ops.length : Int))), (63, .val (.int .i64 s2_.1))]⟩) (fun s2_ => (Loc O n [none, some ⟨false, 30, 11, 1, [.val (.int .i64 0), .val (.int .i64 0), .val (.slice none 0 0), .val (.slice none 0 0), .val (.int .i64 0), .val (.slice none 0 0), .val (.slice none 0 0), .val (.slice none 0 0), .val (.slice none 0 0), .val (.int .i64 0), .val (.slice none 0 0)]⟩, some ⟨false, 30, 11, 1, [.val (.int .i64 a0.Kind), .val (.int .i64 a0.New.Kind), .sl a0.New.Words.length (fl (eI .u64) a0.New.Words), .sl a0.New.Kids.length (fl e_S_api_Tree a0.New.Kids), .val (.int .i64 a0.Old.Kind), .sl a0.Old.Words.length (fl (eI .u64) a0.Old.Words), .sl a0.Old.Kids.length (fl e_S_api_Tree a0.Old.Kids), .row (n + 3) z5.length, .row (n + 5) z11.length, .val (.int .i64 a0.List_), .row (n + 7) s2_.2.length]⟩, some ⟨true, 58, 4, z5.length, fl e_S_api_WordEdit z5⟩, none, some ⟨true, 71, 12, z11.length, fl e_S_api_KidEdit z11⟩, none, some ⟨true, 69, 14, s2_.2.length, fl e_S_api_Op s2_.2⟩, none])) (fun z17 => JX 4 n (⟨76, [], [(2, .ref (n + 1) 0), (3, .ref (n + 2) 0)]⟩ : Env) (Loc O n [none, some ⟨false, 30, 11, 1, [.val (.int .i64 0), .val (.int .i64 0), .val (.slice none 0 0), .val (.slice none 0 0), .val (.int .i64 0), .val (.slice none 0 0), .val (.slice none 0 0), .val (.slice none 0 0), .val (.slice none 0 0), .val (.int .i64 0), .val (.slice none 0 0)]⟩, some ⟨false, 30, 11, 1, [.val (.int .i64 a0.Kind), .val (.int .i64 a0.New.Kind), .sl a0.New.Words.length (fl (eI .u64) a0.New.Words), .sl a0.New.Kids.length (fl e_S_api_Tree a0.New.Kids), .val (.int .i64 a0.Old.Kind), .sl a0.Old.Words.length (fl (eI .u64) a0.Old.Words), .sl a0.Old.Kids.length (fl e_S_api_Tree a0.Old.Kids), .row (n + 3) z5.length, .row (n + 5) z11.length, .val (.int .i64 a0.List_), .row (n + 7) z17.length]⟩, some ⟨true, 58, 4, z5.length, fl e_S_api_WordEdit z5⟩, none, some ⟨true, 71, 12, z11.length, fl e_S_api_KidEdit z11⟩, none, some ⟨true, 69, 14, z17.length, fl e_S_api_Op z17⟩, none]) (n + 9)) ?_
    intro s2_ x2_ hs2_
    unfold b_invert_turned_L2 at hs2_
    try dsimp only
    refine W_sq [2, 3, 61, 62, 63, 64] (W_regionD tab_ok [] ?_)
    simp only [push_cast, seval, ↓reduceIte, cast_lit, hN0, hN]
    refine W_seqK ?_
    refine W_cond (t := (decide (s2_.1 < (a0.Ops.length : Int)))) rfl (fun c16 => ?_) (fun c16 => ?_)
    · replace hs2_ := condT c16 hs2_
      refine W_skip ?_
      try simp only [gthen, gblock]
      refine W_drop [2, 3, 61, 62, 63] [false, true, true, true, false, true, false, true, false] ?_
      simp only [push_cast, seval, ↓reduceIte]
      refine W_seqK ?_
      refine W_block ?_
      refine W_seqK ?_
      obtain ⟨x13, hx13, ax13, bx13, cx13, hs2_⟩ := bE (f := e_S_api_Op) tab69 (fun _ => rfl) (by decide) hs2_
      refine W_regionD tab_ok [] ?_
      simp only [push_cast, Nat.reduceAdd, Nat.reduceSub, Nat.reduceMul, Nat.reduceLeDiff, Nat.reduceLT, Nat.reduceEqDiff, ↓reduceIte, reduceCtorEq, Int.reduceBEq, Int.reduceBNe, Nat.reduceBEq, Int.reduceLE, Int.reduceLT, Int.reduceEq, Int.reduceNe, Int.reduceNeg, Nat.reduceDiv, Nat.reduceMod, Nat.reducePow, cast_lit, ax13, bx13, cx13, hN0, hN]
      refine W_drop [2, 3, 9, 61, 62, 63] [false, true, true, true, false, true, false, true, false, true] ?_
      simp only [push_cast, seval, ↓reduceIte]
      obtain ⟨y14, hy14, hs2_⟩ := bC hs2_
      obtain ⟨l15, pl15, ql15, el15, hs2_⟩ := bA (k := 1) rfl hs2_
      refine W_drawY tab_ok (by kernel_rfl) [.low, .low, .plain, .plain, .pass, .bar, .plain, .bar] (fun i => i < (n + 10)) [0, 1, 2, 3, 4, 5, 6, 7] [.low, .low, .plain, .plain, .pass, .bar, .plain, .bar] [] (by kernel_rfl) rfl ?_
      simp only [push_cast, seval, ↓reduceIte, cast_lit, pl15, ql15, el15, hN0, hN]
      repeat (with_reducible refine And.intro (by first | omega | exact agree_loc rfl | exact agree_loc0 | exact agree_ne rfl rfl) ?_)
      first | refine PCallA.of (fun _ _ => ok_r_invert_turnedOp hy14) ?_ | refine PCall.of (ok_r_invert_turnedOp hy14) ?_
      simp only [push_cast, seval, ↓reduceIte, cast_lit, pl15, ql15, el15, hN0, hN]
      repeat (with_reducible refine And.intro (by first | omega | exact agree_loc rfl | exact agree_loc0 | exact agree_ne rfl rfl) ?_)
      refine W_fit ⟨76, [], [(2, .ref (n + 1) 0), (3, .ref (n + 2) 0), (61, .sl a0.Ops.length (fl e_S_api_Op a0.Ops)), (62, .val (.int .i64 (a0.Ops.length : Int))), (63, .val (.int .i64 s2_.1))]⟩ (Loc O n [none, some ⟨false, 30, 11, 1, [.val (.int .i64 0), .val (.int .i64 0), .val (.slice none 0 0), .val (.slice none 0 0), .val (.int .i64 0), .val (.slice none 0 0), .val (.slice none 0 0), .val (.slice none 0 0), .val (.slice none 0 0), .val (.int .i64 0), .val (.slice none 0 0)]⟩, some ⟨false, 30, 11, 1, [.val (.int .i64 a0.Kind), .val (.int .i64 a0.New.Kind), .sl a0.New.Words.length (fl (eI .u64) a0.New.Words), .sl a0.New.Kids.length (fl e_S_api_Tree a0.New.Kids), .val (.int .i64 a0.Old.Kind), .sl a0.Old.Words.length (fl (eI .u64) a0.Old.Words), .sl a0.Old.Kids.length (fl e_S_api_Tree a0.Old.Kids), .row (n + 3) z5.length, .row (n + 5) z11.length, .val (.int .i64 a0.List_), .row (n + 7) l15.length]⟩, some ⟨true, 58, 4, z5.length, fl e_S_api_WordEdit z5⟩, none, some ⟨true, 71, 12, z11.length, fl e_S_api_KidEdit z11⟩, none, some ⟨true, 69, 14, l15.length, fl e_S_api_Op l15⟩, none, none, none]) (fit_loc hU rfl rfl ?_) ?_
      · simp only [push_cast, seval, ↓reduceIte, cast_lit, pl15, ql15, el15, hN0, hN]
      refine W_regionD tab_ok [] ?_
      simp only [push_cast, seval, ↓reduceIte, cast_lit, hN0, hN]
      have hs2_ := Option.some.inj hs2_; subst hs2_
      refine And.intro rfl (Fit2.of (fit_loc hU rfl rfl ?_) (by omega))
      simp only [push_cast, seval, ↓reduceIte, cast_lit, hN0, hN]
    · replace hs2_ := condF c16 hs2_
      refine W_exit ?_
      try simp only [gthen, gblock, ↓reduceIte, Nat.reduceEqDiff]
      have hs2_ := Option.some.inj hs2_; subst hs2_
      refine And.intro (fun h => by cases h) (And.intro rfl (Fit2.of (fit_loc hU rfl rfl ?_) (by omega)))
      simp only [push_cast, seval, ↓reduceIte, cast_lit, hN0, hN]
  try simp only [gthen, gblock, ↓reduceIte, Nat.reduceEqDiff]
  refine W_drop [2, 3] [false, true, true, true, false, true, false, true, false] ?_
  simp only [push_cast, seval, ↓reduceIte]
  refine W_seqK ?_
  refine W_regionD tab_ok [] ?_
  simp only [push_cast, seval, ↓reduceIte, cast_lit, hN0, hN]
  refine W_drop [2] [false, true, false, true, false, true, false, true, false] ?_
  simp only [push_cast, seval, ↓reduceIte]
  refine W_ret ?_
  try simp only [gthen, gblock]
  have h := Option.some.inj h; subst h
  refine fin_loc (.inr rfl) hU [.agg [.val (.int .i64 a0.Kind), .val (.int .i64 a0.New.Kind), .sl a0.New.Words.length (fl (eI .u64) a0.New.Words), .sl a0.New.Kids.length (fl e_S_api_Tree a0.New.Kids), .val (.int .i64 a0.Old.Kind), .sl a0.Old.Words.length (fl (eI .u64) a0.Old.Words), .sl a0.Old.Kids.length (fl e_S_api_Tree a0.Old.Kids), .row (n + 3) z5.length, .row (n + 5) z11.length, .val (.int .i64 a0.List_), .row (n + 7) z17.length]] (by omega) ?_
  simp only [push_cast, seval, ↓reduceIte, cast_lit, Try.results61, hN0, hN]
theorem okb_invert_turnedOp {r_invert_turned : (S_api_Edit → Option S_api_Edit)} {r_invert_turnedOp : (S_api_Op → Option S_api_Op)} (ok_r_invert_turned : ∀ {a0 : S_api_Edit} {r : S_api_Edit} {O : Objs} {n : Nat}, r_invert_turned a0 = some r → GTo Try.prog 61 [.agg (c_S_api_Edit a0)] O n (.agg (c_S_api_Edit r)) O n) (ok_r_invert_turnedOp : ∀ {a0 : S_api_Op} {r : S_api_Op} {O : Objs} {n : Nat}, r_invert_turnedOp a0 = some r → GTo Try.prog 102 [.agg (c_S_api_Op a0)] O n (.agg (c_S_api_Op r)) O n) {a0 : S_api_Op} {r : S_api_Op} {O : Objs} {n : Nat} (h : b_invert_turnedOp r_invert_turned r_invert_turnedOp a0 = some r) : GTo Try.prog 102 [.agg (c_S_api_Op a0)] O n (.agg (c_S_api_Op r)) O n := by
  unfold b_invert_turnedOp at h
  refine fn_of tab_ok Try.call102 Try.func102 rfl (Nat.le_of_ble_eq_true rfl) (Nat.le_refl _) fun hU => ?_
  have hN0 : O n = none := hU.fresh _ (Nat.le_refl _)
  have hN : ∀ k, O (n + k) = none := fun k => hU.fresh _ (Nat.le_add_right _ _)
  show W _ _ _ _ ⟨18, [], [(0, .agg (c_S_api_Op a0))]⟩ (Loc O n []) _
  refine W_sq [1, 2] (W_regionD tab_ok [] ?_)
  simp only [push_cast, seval, ↓reduceIte, cast_lit, hN0, hN]
  obtain ⟨z1, hz1, h⟩ := bC h
  refine W_seqN (E' := ⟨18, [], [(1, .ref n 0), (2, .ref (n + 1) 0)]⟩) (O' := (Loc O n [some ⟨false, 69, 14, 1, [.val (.int .i64 z1.1), .val (.int .i64 a0.N), .sl a0.L.length (fl e_S_api_Tree a0.L), .val (.int .i64 z1.2.1), .val (.int .i64 z1.2.2.1), .sl z1.2.2.2.1.length (fl (eI .u64) z1.2.2.2.1), .sl z1.2.2.2.2.1.length (fl e_S_api_Tree z1.2.2.2.2.1), .val (.int .i64 z1.2.2.2.2.2.1), .sl z1.2.2.2.2.2.2.1.length (fl (eI .u64) z1.2.2.2.2.2.2.1), .sl z1.2.2.2.2.2.2.2.1.length (fl e_S_api_Tree z1.2.2.2.2.2.2.2.1), .sl z1.2.2.2.2.2.2.2.2.1.length (fl e_S_api_WordEdit z1.2.2.2.2.2.2.2.2.1), .sl z1.2.2.2.2.2.2.2.2.2.1.length (fl e_S_api_KidEdit z1.2.2.2.2.2.2.2.2.2.1), .val (.int .i64 z1.2.2.2.2.2.2.2.2.2.2.1), .sl z1.2.2.2.2.2.2.2.2.2.2.2.length (fl e_S_api_Op z1.2.2.2.2.2.2.2.2.2.2.2)]⟩, some ⟨false, 69, 14, 1, [.val (.int .i64 0), .val (.int .i64 0), .val (.slice none 0 0), .val (.int .i64 0), .val (.int .i64 0), .val (.slice none 0 0), .val (.slice none 0 0), .val (.int .i64 0), .val (.slice none 0 0), .val (.slice none 0 0), .val (.slice none 0 0), .val (.slice none 0 0), .val (.int .i64 0), .val (.slice none 0 0)]⟩])) (n0 := (n + 2)) ?_ ?_
  · refine W_sq [1, 2, 4] (W_regionD tab_ok [] ?_)
    simp only [push_cast, seval, ↓reduceIte, cast_lit, hN0, hN]
    refine W_block ?_
    refine W_sq [1, 2, 4, 5] (W_regionD tab_ok [] ?_)
    simp only [push_cast, seval, ↓reduceIte, cast_lit, hN0, hN]
    refine W_cond (t := (a0.Kind == 1)) rfl (fun c5 => ?_) (fun c5 => ?_)
    · replace hz1 := condT c5 hz1
      refine W_regionD tab_ok [] ?_
      simp only [push_cast, seval, ↓reduceIte, cast_lit, hN0, hN]
      have hz1 := Option.some.inj hz1; subst hz1
      refine And.intro rfl (Fit2.of (fit_loc hU rfl rfl ?_) (by omega))
      simp only [push_cast, seval, ↓reduceIte, cast_lit, hN0, hN]
    · replace hz1 := condF c5 hz1
      refine W_sq [1, 2, 4, 8] (W_regionD tab_ok [] ?_)
      simp only [push_cast, seval, ↓reduceIte, cast_lit, hN0, hN]
      refine W_cond (t := (a0.Kind == 2)) rfl (fun c4 => ?_) (fun c4 => ?_)
      · replace hz1 := condT c4 hz1
        refine W_regionD tab_ok [] ?_
        simp only [push_cast, seval, ↓reduceIte, cast_lit, hN0, hN]
        have hz1 := Option.some.inj hz1; subst hz1
        refine And.intro rfl (Fit2.of (fit_loc hU rfl rfl ?_) (by omega))
        simp only [push_cast, seval, ↓reduceIte, cast_lit, hN0, hN]
      · replace hz1 := condF c4 hz1
        refine W_sq [1, 2, 11] (W_regionD tab_ok [] ?_)
        simp only [push_cast, seval, ↓reduceIte, cast_lit, hN0, hN]
        refine W_cond (t := (a0.Kind == 3)) rfl (fun c3 => ?_) (fun c3 => ?_)
        · replace hz1 := condT c3 hz1
          obtain ⟨y2, hy2, hz1⟩ := bC hz1
          refine W_regionD tab_ok [] ?_
          simp only [push_cast, seval, ↓reduceIte, cast_lit, hN0, hN]
          refine (ok_r_invert_turned hy2).then ?_
          simp only [push_cast, seval, ↓reduceIte, cast_lit, hN0, hN]
          have hz1 := Option.some.inj hz1; subst hz1
          refine And.intro rfl (Fit2.of (fit_loc hU rfl rfl ?_) (by omega))
          simp only [push_cast, seval, ↓reduceIte, cast_lit, hN0, hN]
        · replace hz1 := condF c3 hz1
          refine W_skip ?_
          try simp only [gthen, gblock]
          have hz1 := Option.some.inj hz1; subst hz1
          refine And.intro rfl (Fit2.of (fit_loc hU rfl rfl ?_) (by omega))
          simp only [push_cast, seval, ↓reduceIte, cast_lit, hN0, hN]
  refine W_seqK ?_
  refine W_regionD tab_ok [] ?_
  simp only [push_cast, seval, ↓reduceIte, cast_lit, hN0, hN]
  refine W_drop [2] [false, true] ?_
  simp only [push_cast, seval, ↓reduceIte]
  refine W_ret ?_
  try simp only [gthen, gblock]
  have h := Option.some.inj h; subst h
  refine fin_loc (.inr rfl) hU [.agg [.val (.int .i64 z1.1), .val (.int .i64 a0.N), .sl a0.L.length (fl e_S_api_Tree a0.L), .val (.int .i64 z1.2.1), .val (.int .i64 z1.2.2.1), .sl z1.2.2.2.1.length (fl (eI .u64) z1.2.2.2.1), .sl z1.2.2.2.2.1.length (fl e_S_api_Tree z1.2.2.2.2.1), .val (.int .i64 z1.2.2.2.2.2.1), .sl z1.2.2.2.2.2.2.1.length (fl (eI .u64) z1.2.2.2.2.2.2.1), .sl z1.2.2.2.2.2.2.2.1.length (fl e_S_api_Tree z1.2.2.2.2.2.2.2.1), .sl z1.2.2.2.2.2.2.2.2.1.length (fl e_S_api_WordEdit z1.2.2.2.2.2.2.2.2.1), .sl z1.2.2.2.2.2.2.2.2.2.1.length (fl e_S_api_KidEdit z1.2.2.2.2.2.2.2.2.2.1), .val (.int .i64 z1.2.2.2.2.2.2.2.2.2.2.1), .sl z1.2.2.2.2.2.2.2.2.2.2.2.length (fl e_S_api_Op z1.2.2.2.2.2.2.2.2.2.2.2)]] (by omega) ?_
  simp only [push_cast, seval, ↓reduceIte, cast_lit, Try.results102, hN0, hN]
theorem lv_invert_turned_ok : ∀ k, (∀ {a0 : S_api_Edit} {r : S_api_Edit} {O : Objs} {n : Nat}, (lv_invert_turned k).1 a0 = some r → GTo Try.prog 61 [.agg (c_S_api_Edit a0)] O n (.agg (c_S_api_Edit r)) O n) ∧ (∀ {a0 : S_api_Op} {r : S_api_Op} {O : Objs} {n : Nat}, (lv_invert_turned k).2 a0 = some r → GTo Try.prog 102 [.agg (c_S_api_Op a0)] O n (.agg (c_S_api_Op r)) O n) := fun k => by
  induction k with
  | zero => exact ⟨@fun a0 r O n h => (nomatch (show (none : Option _) = some _ from h)), @fun a0 r O n h => (nomatch (show (none : Option _) = some _ from h))⟩
  | succ k ih => exact ⟨@fun a0 r O n h => okb_invert_turned (ih.1) (ih.2)  h, @fun a0 r O n h => okb_invert_turnedOp (ih.1) (ih.2)  h⟩
theorem ok_invert_turned {a0 : S_api_Edit} {r : S_api_Edit} {O : Objs} {n : Nat} (h : m_invert_turned a0 = some r) : GTo Try.prog 61 [.agg (c_S_api_Edit a0)] O n (.agg (c_S_api_Edit r)) O n := by
  obtain ⟨k, hk⟩ := lim_some h
  exact (lv_invert_turned_ok k).1  hk
end Go.Proofs.Ytbcgiaijjaocdaa
