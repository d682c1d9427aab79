/- Part IM5 of this seat's mirrors: functions of the seat's program, and the plain functions that they are; each theorem bears its own conditions. -/
import Derived.Test.YtbcgiaijjaocdaaIE
import Derived.Test.YtbcgiaijjaocdaaIM4
namespace Go.Proofs.Ytbcgiaijjaocdaa
open Go.RowKit
set_option linter.unusedVariables false
set_option linter.unusedSimpArgs false
set_option maxRecDepth 100000
set_option maxHeartbeats 1000000
attribute [local push_cast] c_S_api_Edit c_S_api_KidEdit c_S_api_Op c_S_api_Tree c_S_api_WordEdit gfork_t gfork_f pfork_t pfork_f gthen gblock gops_nil gops_plain gops_guard onW gwantB gcalm gact gpick gpickV strip evS wok calmOp Op.operands Call.operands gop onK onP atK List.all_cons List.all_nil Bool.and_true Bool.true_and Bool.and_self Value.oneCell' List.take_zero List.take_succ_cons List.take_nil List.drop_zero List.drop_succ_cons List.drop_nil List.append_nil Nat.add_zero Nat.zero_add gstep gputE ev look genv gbin geqS geqF gint gunary gconvert gload gcells gpart_lit gstore gcellsOf gput gplace_lit gfieldAddr gstepIn gindexAddr gindex gfield gopt bLo bHi bMx gextract galloc gbox gbuild gfill gplaces gbuildSlice gmake glen gappend gsrc gbuiltin gnil isLive gres gone prun_nil prun_plain prun_guard pop TK.isAgg G.one G.under G.unders List.getD_cons_zero List.getD_cons_succ List.set_cons_zero List.set_cons_succ List.map_cons List.map_nil List.toList_toArray Array.toList_append Option.toArray_none Option.toArray_some Array.toList_map Option.map_some Option.map_none Option.bind_some Option.bind_none List.getElem?_cons_zero List.getElem?_cons_succ List.getElem?_nil List.nil_append List.cons_append List.replicate_succ List.replicate_zero List.length_cons List.length_nil and_true true_and and_false false_and Bool.true_eq_false Bool.false_eq_true forall_const false_implies implies_true IntKind.bits if_true if_false ite_true ite_false eq_self true_implies false_or or_false or_true true_or not_true_eq_false not_false_eq_true decide_true decide_false decide_eq_true_eq decide_eq_false_iff_not beq_iff_eq bne_iff_ne ne_eq Bool.not_eq_true Bool.not_eq_false beq_eq_false_iff_ne bne_eq_false_iff_eq beq_self_eq_true bne_self_eq_false Option.some.injEq exists_eq_left' exists_eq_left ge_iff_le gt_iff_lt decide_not Bool.not_true Bool.not_false imp_self gquiet cond_true cond_false beqT beqF Bool.not_not Bool.and_false Bool.false_and Bool.or_true Bool.true_or Bool.or_false Bool.false_or Loc_at Loc_at0 Loc_upd Loc_upd0 Loc_push Loc_push0 Option.join_some Nat.add_assoc Int.toNat_natCast eI eB eS eL fl_nil gopsD_nil gopsD_plain gopsD_t gopsD_f gopsD_n onKD onWD prunD_nil prunD_plain prunD_t prunD_f prunD_n onPD fitO fitO1 sameO fitL fl_append fl_one List.length_append G.agg.injEq G.row.injEq G.ref.injEq G.val.injEq G.sl.injEq G.tup.injEq Value.int.injEq Value.bool.injEq Value.string.injEq List.cons.injEq exists_and_left exists_const List.flatten_cons List.flatten_nil Int.le_refl Nat.le_refl upd_updU Loc_out Loc_updo Bool.not_eq_true' Bool.not_eq_false' wkl_nil wkl_cons wk_any wk_val wk_agg wk_tup wk_sl wk_fn List.size_toArray renO renO1 G.ren G.rens renL rho_at rho_at0 gP_none gP_some strip_gP wok_gP one_gP G.fn.injEq wk_slnil wk_slrow wk_slrs wk_ip wk_ipref wk_row wk_rs wk_rp wk_ref locLt0 locLt Option.join_none upd_same fl_cons undef keepL Arr.len Arr.put_eq prunB_nil prunB_bar prunB_bart prunB_plain prunB_t prunB_f prunB_n onB onBP gcopy setI_len Loc_cat0 Loc_cat1 Loc_cat2 Loc_cat3 Loc_cat4 Loc_cat5 noObjs_at prunK_nil prunK_bar prunK_pass prunK_plain prunK_low prunK_pt prunK_pf prunK_lt prunK_lf onKg onKa onKp popL pickOps lows lowG prunK_shp prunK_fill popH shpOp fillOp fillG rho_low rens_app Loc_cat6 Loc_cat7 Loc_cat8 Loc_cat9 Loc_cat10 Loc_cat11 Loc_cat12 Loc_cat13 Loc_cat14 Loc_cat15 Loc_cat16 dropM tab2 tkind2 tab3 tkind3 tab4 tkind4 tab5 tkind5 tab6 tkind6 tab7 tkind7 tab8 tkind8 tab9 tkind9 tab10 tkind10 tab11 tkind11 tab12 tkind12 tab13 tkind13 tab14 tkind14 tab15 tkind15 tab16 tkind16 tab17 tkind17 tab18 tkind18 tab19 tkind19 tab21 tkind21 tab22 tkind22 tab23 tkind23 tab24 tkind24 tab25 tkind25 tab26 tkind26 tab27 tkind27 tab28 tkind28 tab29 tkind29 tab30 tkind30 tab46 tkind46 tab49 tkind49 tab52 tkind52 tab56 tkind56 tab57 tkind57 tab58 tkind58 tab62 tkind62 tab68 tkind68 tab69 tkind69 tab70 tkind70 tab71 tkind71 tab78 tkind78 tab79 tkind79 tab81 tkind81 tab82 tkind82 tab83 tkind83 tab84 tkind84 tab95 tkind95 tab99 tkind99 tab101 tkind101 tab102 tkind102 tab109 tkind109 tab110 tkind110 tab113 tkind113 tab123 tkind123 tab124 tkind124 tab132 tkind132 tab133 tkind133 tab136 tkind136 tab138 tkind138 tab139 tkind139 tab141 tkind141 tab142 tkind142 tab157 tkind157 tab159 tkind159 tab160 tkind160 tab165 tkind165 tab166 tkind166 tab167 tkind167 tab169 tkind169 tab170 tkind170 tab171 tkind171 e_S_api_Tree e0_eq_S_api_Tree wkl_eI_u64 wka_eI_u64 len_eI_u64 one_eI_u64 wkp_eI_u64 undp_eI_u64 rens_eI_u64 renp_eI_u64 und_eI_u64 wkl_e_S_api_Tree wka_e_S_api_Tree len_e_S_api_Tree one_e_S_api_Tree wkp_e_S_api_Tree undp_e_S_api_Tree rens_e_S_api_Tree renp_e_S_api_Tree und_e_S_api_Tree e_S_api_WordEdit e_S_api_Edit e_S_api_Op e_S_api_KidEdit e0_eq_S_api_Edit e0_eq_S_api_Op e0_eq_S_api_KidEdit wkl_e_S_api_WordEdit wka_e_S_api_WordEdit len_e_S_api_WordEdit one_e_S_api_WordEdit wkp_e_S_api_WordEdit undp_e_S_api_WordEdit rens_e_S_api_WordEdit renp_e_S_api_WordEdit und_e_S_api_WordEdit wkl_e_S_api_KidEdit wka_e_S_api_KidEdit len_e_S_api_KidEdit one_e_S_api_KidEdit wkp_e_S_api_KidEdit undp_e_S_api_KidEdit rens_e_S_api_KidEdit renp_e_S_api_KidEdit und_e_S_api_KidEdit wkl_e_S_api_Op wka_e_S_api_Op len_e_S_api_Op one_e_S_api_Op wkp_e_S_api_Op undp_e_S_api_Op rens_e_S_api_Op renp_e_S_api_Op und_e_S_api_Op wkl_eI_u8 wka_eI_u8 len_eI_u8 one_eI_u8 wkp_eI_u8 undp_eI_u8 rens_eI_u8 renp_eI_u8 und_eI_u8 e_S_normal_writer wkl_e_S_normal_writer wka_e_S_normal_writer len_e_S_normal_writer one_e_S_normal_writer wkp_e_S_normal_writer undp_e_S_normal_writer rens_e_S_normal_writer renp_e_S_normal_writer und_e_S_normal_writer
theorem okb_centoref22_Same {r_centoref22_Same : (S_api_Edit → S_api_Edit → Option Bool)} (ok_r_centoref22_Same : ∀ {a0 : S_api_Edit} {a1 : S_api_Edit} {r : Bool} {O : Objs} {n : Nat}, r_centoref22_Same a0 a1 = some r → GTo Try.prog 17 [.agg (c_S_api_Edit a0), .agg (c_S_api_Edit a1)] O n (.val (.bool r)) O n) {a0 : S_api_Edit} {a1 : S_api_Edit} {r : Bool} {O : Objs} {n : Nat} (h : b_centoref22_Same r_centoref22_Same a0 a1 = some r) : GTo Try.prog 17 [.agg (c_S_api_Edit a0), .agg (c_S_api_Edit a1)] O n (.val (.bool r)) O n := by
  unfold b_centoref22_Same at h
  refine fn_of tab_ok Try.call17 Try.func17 rfl (Nat.le_of_ble_eq_true rfl) (Nat.le_refl _) fun hU => ?_
  have hN0 : O n = none := hU.fresh _ (Nat.le_refl _)
  have hN : ∀ k, O (n + k) = none := fun k => hU.fresh _ (Nat.le_add_right _ _)
  show W _ _ _ _ ⟨164, [], [(0, .agg (c_S_api_Edit a0)), (1, .agg (c_S_api_Edit a1))]⟩ (Loc O n []) _
  refine W_sq [2, 3] (W_regionD tab_ok [] ?_)
  simp only [push_cast, seval, ↓reduceIte, cast_lit, hN0, hN]
  refine W_seqK ?_
  obtain ⟨z3, hz3, h⟩ := bC h
  refine W_seqN (E' := ⟨164, [], [(2, .ref n 0), (3, .ref (n + 1) 0), (64, .val (.bool z3))]⟩) (O' := (Loc O n [some ⟨false, 30, 11, 1, (c_S_api_Edit a0)⟩, some ⟨false, 30, 11, 1, (c_S_api_Edit a1)⟩])) (n0 := (n + 2)) ?_ ?_
  · rcases Bool.eq_false_or_eq_true (a0.Kind != a1.Kind) with c8 | c8
    · replace hz3 := condT c8 hz3
      refine W_regionD tab_ok [none, none, none, none, none, some false, some false, some false, some false, some false, some false, some false, some false, some false, some false, some false, some false, some false, some false, some false, some false, some false, some false, some false, some false, some false, some false, some false, some false, some false, some false, some false, some false, some false, some false, some false, some false, some false] ?_
      simp only [push_cast, seval, ↓reduceIte, cast_lit, c8, hN0, hN]
      repeat (with_reducible refine And.intro (by first | (intro h0; simp only [h0, and_self]; done) | (intro h0; simp only [h0, Bool.not_false, Bool.not_true, Bool.true_and, Bool.and_true, true_and, and_true, and_self, imp_self, implies_true, bne_iff_ne, ne_eq, beq_iff_eq]; done) | (intros; simp_all; done) | exact True.intro) ?_)
      have hz3 := Option.some.inj hz3; subst hz3
      refine And.intro rfl (Fit2.of (fit_loc hU rfl rfl ?_) (by omega))
      simp only [push_cast, seval, ↓reduceIte, cast_lit, c8, hN0, hN]
    · replace hz3 := condF c8 hz3
      rcases Bool.eq_false_or_eq_true (a0.List_ != a1.List_) with c9 | c9
      · replace hz3 := condT c9 hz3
        try rw [c9] at c8
        refine W_regionD tab_ok [none, none, none, none, none, some false, some false, some false, some false, some false, some false, some false, some false, some false, some false, some false, some false, some false, some false, some false, some false, some false, some false, some false, some false, some false, some false, some false, some false, some false, some false, some false, some false, some false, some false, some false, some false, some false] ?_
        simp only [push_cast, seval, ↓reduceIte, cast_lit, c8, c9, hN0, hN]
        repeat (with_reducible refine And.intro (by first | (intro h0; simp only [h0, and_self]; done) | (intro h0; simp only [h0, Bool.not_false, Bool.not_true, Bool.true_and, Bool.and_true, true_and, and_true, and_self, imp_self, implies_true, bne_iff_ne, ne_eq, beq_iff_eq]; done) | (intros; simp_all; done) | exact True.intro) ?_)
        have hz3 := Option.some.inj hz3; subst hz3
        refine And.intro rfl (Fit2.of (fit_loc hU rfl rfl ?_) (by omega))
        simp only [push_cast, seval, ↓reduceIte, cast_lit, c8, c9, hN0, hN]
      · replace hz3 := condF c9 hz3
        try rw [c9] at c8
        obtain ⟨y6, hy6, hz3⟩ := bC hz3
        rcases Bool.eq_false_or_eq_true y6 with c10 | c10
        · replace hz3 := condT c10 hz3
          try rw [c10] at c8
          try rw [c10] at c9
          obtain ⟨y7, hy7, hz3⟩ := bC hz3
          refine W_regionD tab_ok [none, none, none, none, none, some true, some true, some true, some true, some true, some true, some true, some true, some true, some true, some true, some true, none, none, none, none, none, none, none, none, none, none, none, none, none, none, none, none, none, none, none, none, none] ?_
          simp only [push_cast, seval, ↓reduceIte, cast_lit, c8, c9, c10, hN0, hN]
          repeat (with_reducible refine And.intro (by first | (intro h0; simp only [h0, and_self]; done) | (intro h0; simp only [h0, Bool.not_false, Bool.not_true, Bool.true_and, Bool.and_true, true_and, and_true, and_self, imp_self, implies_true, bne_iff_ne, ne_eq, beq_iff_eq]; done) | (intros; simp_all; done) | exact True.intro) ?_)
          refine (ok_centoref07_Same hy6).then ?_
          simp only [push_cast, seval, ↓reduceIte, cast_lit, c8, c9, c10, hN0, hN]
          repeat (with_reducible refine And.intro (by first | (intro h0; simp only [h0, and_self]; done) | (intro h0; simp only [h0, Bool.not_false, Bool.not_true, Bool.true_and, Bool.and_true, true_and, and_true, and_self, imp_self, implies_true, bne_iff_ne, ne_eq, beq_iff_eq]; done) | (intros; simp_all; done) | exact True.intro) ?_)
          refine (ok_centoref07_Same hy7).then ?_
          simp only [push_cast, seval, ↓reduceIte, cast_lit, c8, c9, c10, hN0, hN]
          repeat (with_reducible refine And.intro (by first | (intro h0; simp only [h0, and_self]; done) | (intro h0; simp only [h0, Bool.not_false, Bool.not_true, Bool.true_and, Bool.and_true, true_and, and_true, and_self, imp_self, implies_true, bne_iff_ne, ne_eq, beq_iff_eq]; done) | (intros; simp_all; done) | exact True.intro) ?_)
          have hz3 := Option.some.inj hz3; subst hz3
          refine And.intro rfl (Fit2.of (fit_loc hU rfl rfl ?_) (by omega))
          simp only [push_cast, seval, ↓reduceIte, cast_lit, c8, c9, c10, hN0, hN]
        · replace hz3 := condF c10 hz3
          try rw [c10] at c8
          try rw [c10] at c9
          refine W_regionD tab_ok [none, none, none, none, none, some true, some true, some true, some true, some true, some true, some false, some false, some false, some false, some false, some false, some false, some false, some false, some false, some false, some false, some false, some false, some false, some false, some false, some false, some false, some false, some false, some false, some false, some false, some false, some false, some false] ?_
          simp only [push_cast, seval, ↓reduceIte, cast_lit, c8, c9, c10, hN0, hN]
          repeat (with_reducible refine And.intro (by first | (intro h0; simp only [h0, and_self]; done) | (intro h0; simp only [h0, Bool.not_false, Bool.not_true, Bool.true_and, Bool.and_true, true_and, and_true, and_self, imp_self, implies_true, bne_iff_ne, ne_eq, beq_iff_eq]; done) | (intros; simp_all; done) | exact True.intro) ?_)
          refine (ok_centoref07_Same hy6).then ?_
          simp only [push_cast, seval, ↓reduceIte, cast_lit, c8, c9, c10, hN0, hN]
          repeat (with_reducible refine And.intro (by first | (intro h0; simp only [h0, and_self]; done) | (intro h0; simp only [h0, Bool.not_false, Bool.not_true, Bool.true_and, Bool.and_true, true_and, and_true, and_self, imp_self, implies_true, bne_iff_ne, ne_eq, beq_iff_eq]; done) | (intros; simp_all; done) | exact True.intro) ?_)
          have hz3 := Option.some.inj hz3; subst hz3
          refine And.intro rfl (Fit2.of (fit_loc hU rfl rfl ?_) (by omega))
          simp only [push_cast, seval, ↓reduceIte, cast_lit, c8, c9, c10, hN0, hN]
  refine W_cond (t := z3) rfl (fun c65 => ?_) (fun c65 => ?_)
  · replace h := condT c65 h
    refine W_sq [4] (W_regionD tab_ok [] ?_)
    simp only [push_cast, seval, ↓reduceIte, cast_lit, hN0, hN]
    refine W_ret ?_
    try simp only [gthen, gblock]
    have h := Option.some.inj h; subst h
    refine fin_loc (.inr rfl) hU [.val (.bool false)] (by omega) ?_
    simp only [push_cast, seval, ↓reduceIte, cast_lit, Try.results17, hN0, hN]
  · replace h := condF c65 h
    refine W_skip ?_
    try simp only [gthen, gblock]
    refine W_drop [2, 3] [true, true] ?_
    simp only [push_cast, seval, ↓reduceIte]
    refine W_seqK ?_
    refine W_sq [2, 3, 5] (W_regionD tab_ok [] ?_)
    simp only [push_cast, seval, ↓reduceIte, cast_lit, hN0, hN]
    refine W_drop [2, 3, 5] [true, true] ?_
    simp only [push_cast, seval, ↓reduceIte]
    obtain ⟨z17, hz17, h⟩ := bC h
    refine W_sumB (J := (SumJ (fun z17 => JR n (⟨164, [], [(4, .val (.bool false))]⟩ : Env) (Loc O n [none, none]) (n + 2)) (fun z17 => JX 0 n (⟨164, [], [(2, .ref n 0), (3, .ref (n + 1) 0)]⟩ : Env) (Loc O n [some ⟨false, 30, 11, 1, (c_S_api_Edit a0)⟩, some ⟨false, 30, 11, 1, (c_S_api_Edit a1)⟩]) (n + 2)))) (z := z17) ?_ fun hw => ?_
    · refine W_loopJ hz17 (fun s0_ => ⟨164, [], [(2, .ref n 0), (3, .ref (n + 1) 0), (5, .val (.int .i64 s0_))]⟩) (fun s0_ => (Loc O n [some ⟨false, 30, 11, 1, (c_S_api_Edit a0)⟩, some ⟨false, 30, 11, 1, (c_S_api_Edit a1)⟩])) (SumJ (fun z17 => JR n (⟨164, [], [(4, .val (.bool false))]⟩ : Env) (Loc O n [none, none]) (n + 2)) (fun z17 => JX 0 n (⟨164, [], [(2, .ref n 0), (3, .ref (n + 1) 0)]⟩ : Env) (Loc O n [some ⟨false, 30, 11, 1, (c_S_api_Edit a0)⟩, some ⟨false, 30, 11, 1, (c_S_api_Edit a1)⟩]) (n + 2))) ?_
      intro s0_ x0_ hs0_
      unfold b_centoref22_Same_L0 at hs0_
      try dsimp only
      refine W_seqK ?_
      refine W_sq [2, 3, 5, 69] (W_regionD tab_ok [] ?_)
      simp only [push_cast, seval, ↓reduceIte, cast_lit, hN0, hN]
      refine W_cond (t := (decide (s0_ < (a0.Words.length : Int)))) rfl (fun c16 => ?_) (fun c16 => ?_)
      · replace hs0_ := condT c16 hs0_
        refine W_skip ?_
        try simp only [gthen, gblock]
        refine W_drop [2, 3, 5] [true, true] ?_
        simp only [push_cast, seval, ↓reduceIte]
        refine W_seqK ?_
        refine W_block ?_
        obtain ⟨x13, hx13, ax13, bx13, cx13, hs0_⟩ := bE (f := e_S_api_WordEdit) tab58 (fun _ => rfl) (by decide) hs0_
        obtain ⟨x14, hx14, ax14, bx14, cx14, hs0_⟩ := bE (f := e_S_api_WordEdit) tab58 (fun _ => rfl) (by decide) hs0_
        refine W_sq [2, 3, 5, 82] (W_drawD tab_ok (by kernel_rfl) [] (by kernel_rfl) ?_)
        simp only [push_cast, Nat.reduceAdd, Nat.reduceSub, Nat.reduceMul, Nat.reduceLeDiff, Nat.reduceLT, Nat.reduceEqDiff, ↓reduceIte, reduceCtorEq, Int.reduceBEq, Int.reduceBNe, Nat.reduceBEq, Int.reduceLE, Int.reduceLT, Int.reduceEq, Int.reduceNe, Int.reduceNeg, Nat.reduceDiv, Nat.reduceMod, Nat.reducePow, cast_lit, ax13, bx13, cx13, ax14, bx14, cx14, hN0, hN]
        refine W_cond (t := (!((x13.At == x14.At) && ((x13.Mask == x14.Mask) && ((x13.Old == x14.Old) && (x13.New == x14.New)))))) rfl (fun c15 => ?_) (fun c15 => ?_)
        · replace hs0_ := condT c15 hs0_
          refine W_sq [4] (W_regionD tab_ok [] ?_)
          simp only [push_cast, seval, ↓reduceIte, cast_lit, hN0, hN]
          refine W_ret ?_
          try simp only [gthen, gblock]
          have hs0_ := Option.some.inj hs0_; subst hs0_
          refine And.intro (fun h => by cases h) (And.intro rfl (Fit2.of (fit_loc hU rfl rfl ?_) (by omega)))
          simp only [push_cast, seval, ↓reduceIte, cast_lit, hN0, hN]
        · replace hs0_ := condF c15 hs0_
          refine W_skip ?_
          try simp only [gthen, gblock]
          refine W_drop [2, 3, 5] [true, true] ?_
          simp only [push_cast, seval, ↓reduceIte]
          refine W_regionD tab_ok [] ?_
          simp only [push_cast, seval, ↓reduceIte, cast_lit, hN0, hN]
          have hs0_ := Option.some.inj hs0_; subst hs0_
          refine And.intro rfl (Fit2.of (fit_loc hU rfl rfl ?_) (by omega))
          simp only [push_cast, seval, ↓reduceIte, cast_lit, hN0, hN]
      · replace hs0_ := condF c16 hs0_
        refine W_exit ?_
        try simp only [gthen, gblock, ↓reduceIte, Nat.reduceEqDiff]
        have hs0_ := Option.some.inj hs0_; subst hs0_
        refine And.intro (fun h => by cases h) (And.intro rfl (Fit2.of (fit_loc hU rfl rfl ?_) (by omega)))
        simp only [push_cast, seval, ↓reduceIte, cast_lit, hN0, hN]
    rcases z17 with z17 | z17
    · dsimp only [SumJ] at hw h
      refine W_blockR hw ?_
      try simp only [gthen, gblock, ↓reduceIte, Nat.reduceEqDiff]
      have h := Option.some.inj h; subst h
      refine fin_loc (.inr rfl) hU [.val (.bool false)] (by omega) ?_
      simp only [push_cast, seval, ↓reduceIte, cast_lit, Try.results17, hN0, hN]
    · dsimp only [SumJ] at hw h
      refine W_blockX hw ?_
      try simp only [gthen, gblock, ↓reduceIte, Nat.reduceEqDiff]
      refine W_drop [2, 3] [true, true] ?_
      simp only [push_cast, seval, ↓reduceIte]
      refine W_seqK ?_
      refine W_sq [2, 3, 6] (W_regionD tab_ok [] ?_)
      simp only [push_cast, seval, ↓reduceIte, cast_lit, hN0, hN]
      refine W_drop [2, 3, 6] [true, true] ?_
      simp only [push_cast, seval, ↓reduceIte]
      obtain ⟨z49, hz49, h⟩ := bC h
      refine W_sumB (J := (SumJ (fun z49 => JR n (⟨164, [], [(4, .val (.bool false))]⟩ : Env) (Loc O n [none, none]) (n + 2)) (fun z49 => JX 2 n (⟨164, [], [(2, .ref n 0), (3, .ref (n + 1) 0)]⟩ : Env) (Loc O n [some ⟨false, 30, 11, 1, (c_S_api_Edit a0)⟩, some ⟨false, 30, 11, 1, (c_S_api_Edit a1)⟩]) (n + 2)))) (z := z49) ?_ fun hw => ?_
      · refine W_loopJ hz49 (fun s1_ => ⟨164, [], [(2, .ref n 0), (3, .ref (n + 1) 0), (6, .val (.int .i64 s1_))]⟩) (fun s1_ => (Loc O n [some ⟨false, 30, 11, 1, (c_S_api_Edit a0)⟩, some ⟨false, 30, 11, 1, (c_S_api_Edit a1)⟩])) (SumJ (fun z49 => JR n (⟨164, [], [(4, .val (.bool false))]⟩ : Env) (Loc O n [none, none]) (n + 2)) (fun z49 => JX 2 n (⟨164, [], [(2, .ref n 0), (3, .ref (n + 1) 0)]⟩ : Env) (Loc O n [some ⟨false, 30, 11, 1, (c_S_api_Edit a0)⟩, some ⟨false, 30, 11, 1, (c_S_api_Edit a1)⟩]) (n + 2))) ?_
        intro s1_ x1_ hs1_
        unfold b_centoref22_Same_L1 at hs1_
        try dsimp only
        refine W_seqK ?_
        refine W_sq [2, 3, 6, 87] (W_regionD tab_ok [] ?_)
        simp only [push_cast, seval, ↓reduceIte, cast_lit, hN0, hN]
        refine W_cond (t := (decide (s1_ < (a0.Kids.length : Int)))) rfl (fun c48 => ?_) (fun c48 => ?_)
        · replace hs1_ := condT c48 hs1_
          refine W_skip ?_
          try simp only [gthen, gblock]
          refine W_drop [2, 3, 6] [true, true] ?_
          simp only [push_cast, seval, ↓reduceIte]
          refine W_seqK ?_
          refine W_block ?_
          obtain ⟨z27, hz27, hs1_⟩ := bC hs1_
          refine W_seqN (E' := ⟨164, [], [(2, .ref n 0), (3, .ref (n + 1) 0), (6, .val (.int .i64 s1_)), (118, .val (.bool z27))]⟩) (O' := (Loc O n [some ⟨false, 30, 11, 1, (c_S_api_Edit a0)⟩, some ⟨false, 30, 11, 1, (c_S_api_Edit a1)⟩])) (n0 := (n + 2)) ?_ ?_
          · obtain ⟨x37, hx37, ax37, bx37, cx37, hz27⟩ := bE (f := e_S_api_KidEdit) tab71 (fun _ => rfl) (by decide) hz27
            have g38 := gpart_fld0 (f := e_S_api_KidEdit) (sz := 12) tab3 (fun _ => rfl) (by decide) (by decide) hx37
            obtain ⟨x39, hx39, ax39, bx39, cx39, hz27⟩ := bE (f := e_S_api_KidEdit) tab71 (fun _ => rfl) (by decide) hz27
            have g40 := gpart_fld0 (f := e_S_api_KidEdit) (sz := 12) tab3 (fun _ => rfl) (by decide) (by decide) hx39
            rcases Bool.eq_false_or_eq_true (x37.At != x39.At) with c46 | c46
            · replace hz27 := condT c46 hz27
              refine W_drawD tab_ok (by kernel_rfl) [some false, some false, some false, some false, some false, some false, some false, some false, some false, some false, some false, some false, some false, some false] (by kernel_rfl) ?_
              simp only [push_cast, Nat.reduceAdd, Nat.reduceSub, Nat.reduceMul, Nat.reduceLeDiff, Nat.reduceLT, Nat.reduceEqDiff, ↓reduceIte, reduceCtorEq, Int.reduceBEq, Int.reduceBNe, Nat.reduceBEq, Int.reduceLE, Int.reduceLT, Int.reduceEq, Int.reduceNe, Int.reduceNeg, Nat.reduceDiv, Nat.reduceMod, Nat.reducePow, cast_lit, ax37, bx37, cx37, g38, ax39, bx39, cx39, g40, c46, hN0, hN]
              have hz27 := Option.some.inj hz27; subst hz27
              refine And.intro rfl (Fit2.of (fit_loc hU rfl rfl ?_) (by omega))
              simp only [push_cast, Nat.reduceAdd, Nat.reduceSub, Nat.reduceMul, Nat.reduceLeDiff, Nat.reduceLT, Nat.reduceEqDiff, ↓reduceIte, reduceCtorEq, Int.reduceBEq, Int.reduceBNe, Nat.reduceBEq, Int.reduceLE, Int.reduceLT, Int.reduceEq, Int.reduceNe, Int.reduceNeg, Nat.reduceDiv, Nat.reduceMod, Nat.reducePow, cast_lit, ax37, bx37, cx37, g38, ax39, bx39, cx39, g40, c46, hN0, hN]
            · replace hz27 := condF c46 hz27
              have g42 := gpart_fld (f := e_S_api_KidEdit) (off := 1) (sz := 12) tab30 (fun _ => rfl) (by decide) (by decide) hx37
              have g44 := gpart_fld (f := e_S_api_KidEdit) (off := 1) (sz := 12) tab30 (fun _ => rfl) (by decide) (by decide) hx39
              obtain ⟨y45, hy45, hz27⟩ := bC hz27
              refine W_drawD tab_ok (by kernel_rfl) [some true, some true, some true, some true, some true, some true, some true, some true, some true, some true, some true, some true, some true, some true] (by kernel_rfl) ?_
              simp only [push_cast, Nat.reduceAdd, Nat.reduceSub, Nat.reduceMul, Nat.reduceLeDiff, Nat.reduceLT, Nat.reduceEqDiff, ↓reduceIte, reduceCtorEq, Int.reduceBEq, Int.reduceBNe, Nat.reduceBEq, Int.reduceLE, Int.reduceLT, Int.reduceEq, Int.reduceNe, Int.reduceNeg, Nat.reduceDiv, Nat.reduceMod, Nat.reducePow, cast_lit, ax37, bx37, cx37, g38, ax39, bx39, cx39, g40, c46, g42, g44, hN0, hN]
              refine PCall.of (ok_r_centoref22_Same hy45) ?_
              simp only [push_cast, Nat.reduceAdd, Nat.reduceSub, Nat.reduceMul, Nat.reduceLeDiff, Nat.reduceLT, Nat.reduceEqDiff, ↓reduceIte, reduceCtorEq, Int.reduceBEq, Int.reduceBNe, Nat.reduceBEq, Int.reduceLE, Int.reduceLT, Int.reduceEq, Int.reduceNe, Int.reduceNeg, Nat.reduceDiv, Nat.reduceMod, Nat.reducePow, cast_lit, ax37, bx37, cx37, g38, ax39, bx39, cx39, g40, c46, g42, g44, hN0, hN]
              have hz27 := Option.some.inj hz27; subst hz27
              refine And.intro rfl (Fit2.of (fit_loc hU rfl rfl ?_) (by omega))
              simp only [push_cast, Nat.reduceAdd, Nat.reduceSub, Nat.reduceMul, Nat.reduceLeDiff, Nat.reduceLT, Nat.reduceEqDiff, ↓reduceIte, reduceCtorEq, Int.reduceBEq, Int.reduceBNe, Nat.reduceBEq, Int.reduceLE, Int.reduceLT, Int.reduceEq, Int.reduceNe, Int.reduceNeg, Nat.reduceDiv, Nat.reduceMod, Nat.reducePow, cast_lit, ax37, bx37, cx37, g38, ax39, bx39, cx39, g40, c46, g42, g44, hN0, hN]
          refine W_cond (t := z27) rfl (fun c47 => ?_) (fun c47 => ?_)
          · replace hs1_ := condT c47 hs1_
            refine W_sq [4] (W_regionD tab_ok [] ?_)
            simp only [push_cast, seval, ↓reduceIte, cast_lit, hN0, hN]
            refine W_ret ?_
            try simp only [gthen, gblock]
            have hs1_ := Option.some.inj hs1_; subst hs1_
            refine And.intro (fun h => by cases h) (And.intro rfl (Fit2.of (fit_loc hU rfl rfl ?_) (by omega)))
            simp only [push_cast, seval, ↓reduceIte, cast_lit, hN0, hN]
          · replace hs1_ := condF c47 hs1_
            refine W_skip ?_
            try simp only [gthen, gblock]
            refine W_drop [2, 3, 6] [true, true] ?_
            simp only [push_cast, seval, ↓reduceIte]
            refine W_regionD tab_ok [] ?_
            simp only [push_cast, seval, ↓reduceIte, cast_lit, hN0, hN]
            have hs1_ := Option.some.inj hs1_; subst hs1_
            refine And.intro rfl (Fit2.of (fit_loc hU rfl rfl ?_) (by omega))
            simp only [push_cast, seval, ↓reduceIte, cast_lit, hN0, hN]
        · replace hs1_ := condF c48 hs1_
          refine W_exit ?_
          try simp only [gthen, gblock, ↓reduceIte, Nat.reduceEqDiff]
          have hs1_ := Option.some.inj hs1_; subst hs1_
          refine And.intro (fun h => by cases h) (And.intro rfl (Fit2.of (fit_loc hU rfl rfl ?_) (by omega)))
          simp only [push_cast, seval, ↓reduceIte, cast_lit, hN0, hN]
      rcases z49 with z49 | z49
      · dsimp only [SumJ] at hw h
        refine W_blockR hw ?_
        try simp only [gthen, gblock, ↓reduceIte, Nat.reduceEqDiff]
        have h := Option.some.inj h; subst h
        refine fin_loc (.inr rfl) hU [.val (.bool false)] (by omega) ?_
        simp only [push_cast, seval, ↓reduceIte, cast_lit, Try.results17, hN0, hN]
      · dsimp only [SumJ] at hw h
        refine W_blockX hw ?_
        try simp only [gthen, gblock, ↓reduceIte, Nat.reduceEqDiff]
        refine W_drop [2, 3] [true, true] ?_
        simp only [push_cast, seval, ↓reduceIte]
        refine W_seqK ?_
        refine W_sq [2, 3, 7] (W_regionD tab_ok [] ?_)
        simp only [push_cast, seval, ↓reduceIte, cast_lit, hN0, hN]
        refine W_drop [2, 3, 7] [true, true] ?_
        simp only [push_cast, seval, ↓reduceIte]
        obtain ⟨z64, hz64, h⟩ := bC h
        refine W_sumB (J := (SumJ (fun z64 => JR n (⟨164, [], [(4, .val (.bool false))]⟩ : Env) (Loc O n [none, none]) (n + 2)) (fun z64 => JX 4 n (⟨164, [], []⟩ : Env) (Loc O n [none, none]) (n + 2)))) (z := z64) ?_ fun hw => ?_
        · refine W_loopJ hz64 (fun s2_ => ⟨164, [], [(2, .ref n 0), (3, .ref (n + 1) 0), (7, .val (.int .i64 s2_))]⟩) (fun s2_ => (Loc O n [some ⟨false, 30, 11, 1, (c_S_api_Edit a0)⟩, some ⟨false, 30, 11, 1, (c_S_api_Edit a1)⟩])) (SumJ (fun z64 => JR n (⟨164, [], [(4, .val (.bool false))]⟩ : Env) (Loc O n [none, none]) (n + 2)) (fun z64 => JX 4 n (⟨164, [], []⟩ : Env) (Loc O n [none, none]) (n + 2))) ?_
          intro s2_ x2_ hs2_
          unfold b_centoref22_Same_L2 at hs2_
          try dsimp only
          refine W_seqK ?_
          refine W_sq [2, 3, 7, 123] (W_regionD tab_ok [] ?_)
          simp only [push_cast, seval, ↓reduceIte, cast_lit, hN0, hN]
          refine W_cond (t := (decide (s2_ < (a0.Ops.length : Int)))) rfl (fun c63 => ?_) (fun c63 => ?_)
          · replace hs2_ := condT c63 hs2_
            refine W_skip ?_
            try simp only [gthen, gblock]
            refine W_drop [2, 3, 7] [true, true] ?_
            simp only [push_cast, seval, ↓reduceIte]
            refine W_seqK ?_
            refine W_block ?_
            obtain ⟨x50, hx50, ax50, bx50, cx50, hs2_⟩ := bE (f := e_S_api_Op) tab69 (fun _ => rfl) (by decide) hs2_
            obtain ⟨x51, hx51, ax51, bx51, cx51, hs2_⟩ := bE (f := e_S_api_Op) tab69 (fun _ => rfl) (by decide) hs2_
            refine W_seqN (E' := ⟨164, [], [(2, .ref n 0), (3, .ref (n + 1) 0), (7, .val (.int .i64 s2_)), (8, .ref (n + 2) 0), (9, .ref (n + 3) 0)]⟩) (O' := (Loc O n [some ⟨false, 30, 11, 1, (c_S_api_Edit a0)⟩, some ⟨false, 30, 11, 1, (c_S_api_Edit a1)⟩, some ⟨false, 69, 14, 1, (c_S_api_Op x50)⟩, some ⟨false, 69, 14, 1, (c_S_api_Op x51)⟩])) (n0 := (n + 4)) ?_ ?_
            · refine W_drawX tab_ok (by kernel_rfl) [.low, .low, .low, .low, .low, .low, .low, .low, .low, .low, .pass, .pass, .pass, .pass] (fun i => i < (n + 2)) 10 11 [0, 1, 2, 3, 4, 5, 6, 7, 8, 9] [12, 13] [.low, .low, .low, .low, .low, .low, .low, .low, .low, .low] [.pass, .pass, .pass, .pass] [.pass, .pass, .pass, .pass] [] (by kernel_rfl) rfl rfl rfl ?_
              simp only [push_cast, Nat.reduceAdd, Nat.reduceSub, Nat.reduceMul, Nat.reduceLeDiff, Nat.reduceLT, Nat.reduceEqDiff, ↓reduceIte, reduceCtorEq, Int.reduceBEq, Int.reduceBNe, Nat.reduceBEq, Int.reduceLE, Int.reduceLT, Int.reduceEq, Int.reduceNe, Int.reduceNeg, Nat.reduceDiv, Nat.reduceMod, Nat.reducePow, cast_lit, ax50, bx50, cx50, ax51, bx51, cx51, hN0, hN]
              repeat (with_reducible refine And.intro (by omega) ?_)
              refine And.intro ?_ ?_
              · simp only [push_cast, Nat.reduceAdd, Nat.reduceSub, Nat.reduceMul, Nat.reduceLeDiff, Nat.reduceLT, Nat.reduceEqDiff, ↓reduceIte, reduceCtorEq, Int.reduceBEq, Int.reduceBNe, Nat.reduceBEq, Int.reduceLE, Int.reduceLT, Int.reduceEq, Int.reduceNe, Int.reduceNeg, Nat.reduceDiv, Nat.reduceMod, Nat.reducePow, cast_lit, ax50, bx50, cx50, ax51, bx51, cx51, hN0, hN]
                repeat (with_reducible refine And.intro (by first | exact agree_loc rfl | exact agree_loc0) ?_)
                refine And.intro rfl (Fit2.of (fit_loc hU rfl rfl ?_) (by omega))
                simp only [push_cast, Nat.reduceAdd, Nat.reduceSub, Nat.reduceMul, Nat.reduceLeDiff, Nat.reduceLT, Nat.reduceEqDiff, ↓reduceIte, reduceCtorEq, Int.reduceBEq, Int.reduceBNe, Nat.reduceBEq, Int.reduceLE, Int.reduceLT, Int.reduceEq, Int.reduceNe, Int.reduceNeg, Nat.reduceDiv, Nat.reduceMod, Nat.reducePow, cast_lit, ax50, bx50, cx50, ax51, bx51, cx51, hN0, hN]
              · simp only [push_cast, Nat.reduceAdd, Nat.reduceSub, Nat.reduceMul, Nat.reduceLeDiff, Nat.reduceLT, Nat.reduceEqDiff, ↓reduceIte, reduceCtorEq, Int.reduceBEq, Int.reduceBNe, Nat.reduceBEq, Int.reduceLE, Int.reduceLT, Int.reduceEq, Int.reduceNe, Int.reduceNeg, Nat.reduceDiv, Nat.reduceMod, Nat.reducePow, cast_lit, ax50, bx50, cx50, ax51, bx51, cx51, hN0, hN]
                repeat (with_reducible refine And.intro (by first | exact agree_loc rfl | exact agree_loc0) ?_)
                refine And.intro rfl ?_
                refine Fit2.trans (E' := (⟨164, [], [(2, .ref n 0), (3, .ref (n + 1) 0), (7, .val (.int .i64 s2_)), (8, .ref (n + 3) 0), (9, .ref (n + 2) 0)]⟩ : Env)) (O' := (Loc O n [some ⟨false, 30, 11, 1, (c_S_api_Edit a0)⟩, some ⟨false, 30, 11, 1, (c_S_api_Edit a1)⟩, some ⟨false, 69, 14, 1, (c_S_api_Op x51)⟩, some ⟨false, 69, 14, 1, (c_S_api_Op x50)⟩])) (n' := (n + 4)) (Fit2.of (fit_loc hU rfl rfl ?_) (by omega)) ?_
                · simp only [push_cast, Nat.reduceAdd, Nat.reduceSub, Nat.reduceMul, Nat.reduceLeDiff, Nat.reduceLT, Nat.reduceEqDiff, ↓reduceIte, reduceCtorEq, Int.reduceBEq, Int.reduceBNe, Nat.reduceBEq, Int.reduceLE, Int.reduceLT, Int.reduceEq, Int.reduceNe, Int.reduceNeg, Nat.reduceDiv, Nat.reduceMod, Nat.reducePow, cast_lit, ax50, bx50, cx50, ax51, bx51, cx51, hN0, hN]
                refine ren_fit (k := 4) (k' := 4) hU [0, 1, 3, 2] [0, 1, 3, 2] rfl rfl rfl rfl ⟨rfl, rfl⟩ ?_
                simp only [push_cast, seval, ↓reduceIte, cast_lit, hN0, hN]
            obtain ⟨z54, hz54, hs2_⟩ := bC hs2_
            refine W_seqN (E' := ⟨164, [], [(2, .ref n 0), (3, .ref (n + 1) 0), (7, .val (.int .i64 s2_)), (163, .val (.bool z54))]⟩) (O' := (Loc O n [some ⟨false, 30, 11, 1, (c_S_api_Edit a0)⟩, some ⟨false, 30, 11, 1, (c_S_api_Edit a1)⟩, none, none])) (n0 := (n + 4)) ?_ ?_
            · rcases Bool.eq_false_or_eq_true (x50.Kind != x51.Kind) with c59 | c59
              · replace hz54 := condT c59 hz54
                refine W_regionD tab_ok [none, none, none, none, none, some false, some false, some false, some false, some false, some false, some false, some false, some false, some false, some false, some false] ?_
                simp only [push_cast, seval, ↓reduceIte, cast_lit, c59, hN0, hN]
                repeat (with_reducible refine And.intro (by first | (intro h0; simp only [h0, and_self]; done) | (intro h0; simp only [h0, Bool.not_false, Bool.not_true, Bool.true_and, Bool.and_true, true_and, and_true, and_self, imp_self, implies_true, bne_iff_ne, ne_eq, beq_iff_eq]; done) | (intros; simp_all; done) | exact True.intro) ?_)
                have hz54 := Option.some.inj hz54; subst hz54
                refine And.intro rfl (Fit2.of (fit_loc hU rfl rfl ?_) (by omega))
                simp only [push_cast, seval, ↓reduceIte, cast_lit, c59, hN0, hN]
              · replace hz54 := condF c59 hz54
                rcases Bool.eq_false_or_eq_true (x50.N != x51.N) with c60 | c60
                · replace hz54 := condT c60 hz54
                  try rw [c60] at c59
                  refine W_regionD tab_ok [none, none, none, none, none, some false, some false, some false, some false, some false, some false, some false, some false, some false, some false, some false, some false] ?_
                  simp only [push_cast, seval, ↓reduceIte, cast_lit, c59, c60, hN0, hN]
                  repeat (with_reducible refine And.intro (by first | (intro h0; simp only [h0, and_self]; done) | (intro h0; simp only [h0, Bool.not_false, Bool.not_true, Bool.true_and, Bool.and_true, true_and, and_true, and_self, imp_self, implies_true, bne_iff_ne, ne_eq, beq_iff_eq]; done) | (intros; simp_all; done) | exact True.intro) ?_)
                  have hz54 := Option.some.inj hz54; subst hz54
                  refine And.intro rfl (Fit2.of (fit_loc hU rfl rfl ?_) (by omega))
                  simp only [push_cast, seval, ↓reduceIte, cast_lit, c59, c60, hN0, hN]
                · replace hz54 := condF c60 hz54
                  try rw [c60] at c59
                  obtain ⟨y57, hy57, hz54⟩ := bC hz54
                  rcases Bool.eq_false_or_eq_true y57 with c61 | c61
                  · replace hz54 := condT c61 hz54
                    try rw [c61] at c59
                    try rw [c61] at c60
                    obtain ⟨y58, hy58, hz54⟩ := bC hz54
                    refine W_regionD tab_ok [none, none, none, none, none, some true, some true, some true, some true, some true, some true, some true, some true, some true, some true, some true, some true] ?_
                    simp only [push_cast, seval, ↓reduceIte, cast_lit, c59, c60, c61, hN0, hN]
                    repeat (with_reducible refine And.intro (by first | (intro h0; simp only [h0, and_self]; done) | (intro h0; simp only [h0, Bool.not_false, Bool.not_true, Bool.true_and, Bool.and_true, true_and, and_true, and_self, imp_self, implies_true, bne_iff_ne, ne_eq, beq_iff_eq]; done) | (intros; simp_all; done) | exact True.intro) ?_)
                    refine (ok_centoref22_sameTrees hy57).then ?_
                    simp only [push_cast, seval, ↓reduceIte, cast_lit, c59, c60, c61, hN0, hN]
                    repeat (with_reducible refine And.intro (by first | (intro h0; simp only [h0, and_self]; done) | (intro h0; simp only [h0, Bool.not_false, Bool.not_true, Bool.true_and, Bool.and_true, true_and, and_true, and_self, imp_self, implies_true, bne_iff_ne, ne_eq, beq_iff_eq]; done) | (intros; simp_all; done) | exact True.intro) ?_)
                    refine (ok_r_centoref22_Same hy58).then ?_
                    simp only [push_cast, seval, ↓reduceIte, cast_lit, c59, c60, c61, hN0, hN]
                    repeat (with_reducible refine And.intro (by first | (intro h0; simp only [h0, and_self]; done) | (intro h0; simp only [h0, Bool.not_false, Bool.not_true, Bool.true_and, Bool.and_true, true_and, and_true, and_self, imp_self, implies_true, bne_iff_ne, ne_eq, beq_iff_eq]; done) | (intros; simp_all; done) | exact True.intro) ?_)
                    have hz54 := Option.some.inj hz54; subst hz54
                    refine And.intro rfl (Fit2.of (fit_loc hU rfl rfl ?_) (by omega))
                    simp only [push_cast, seval, ↓reduceIte, cast_lit, c59, c60, c61, hN0, hN]
                  · replace hz54 := condF c61 hz54
                    try rw [c61] at c59
                    try rw [c61] at c60
                    refine W_regionD tab_ok [none, none, none, none, none, some true, some true, some true, some true, some true, some true, some false, some false, some false, some false, some false, some false] ?_
                    simp only [push_cast, seval, ↓reduceIte, cast_lit, c59, c60, c61, hN0, hN]
                    repeat (with_reducible refine And.intro (by first | (intro h0; simp only [h0, and_self]; done) | (intro h0; simp only [h0, Bool.not_false, Bool.not_true, Bool.true_and, Bool.and_true, true_and, and_true, and_self, imp_self, implies_true, bne_iff_ne, ne_eq, beq_iff_eq]; done) | (intros; simp_all; done) | exact True.intro) ?_)
                    refine (ok_centoref22_sameTrees hy57).then ?_
                    simp only [push_cast, seval, ↓reduceIte, cast_lit, c59, c60, c61, hN0, hN]
                    repeat (with_reducible refine And.intro (by first | (intro h0; simp only [h0, and_self]; done) | (intro h0; simp only [h0, Bool.not_false, Bool.not_true, Bool.true_and, Bool.and_true, true_and, and_true, and_self, imp_self, implies_true, bne_iff_ne, ne_eq, beq_iff_eq]; done) | (intros; simp_all; done) | exact True.intro) ?_)
                    have hz54 := Option.some.inj hz54; subst hz54
                    refine And.intro rfl (Fit2.of (fit_loc hU rfl rfl ?_) (by omega))
                    simp only [push_cast, seval, ↓reduceIte, cast_lit, c59, c60, c61, hN0, hN]
            refine W_cond (t := z54) rfl (fun c62 => ?_) (fun c62 => ?_)
            · replace hs2_ := condT c62 hs2_
              refine W_sq [4] (W_regionD tab_ok [] ?_)
              simp only [push_cast, seval, ↓reduceIte, cast_lit, hN0, hN]
              refine W_ret ?_
              try simp only [gthen, gblock]
              have hs2_ := Option.some.inj hs2_; subst hs2_
              refine And.intro (fun h => by cases h) (And.intro rfl (Fit2.of (fit_loc hU rfl rfl ?_) (by omega)))
              simp only [push_cast, seval, ↓reduceIte, cast_lit, hN0, hN]
            · replace hs2_ := condF c62 hs2_
              refine W_skip ?_
              try simp only [gthen, gblock]
              refine W_drop [2, 3, 7] [true, true, false, false] ?_
              simp only [push_cast, seval, ↓reduceIte]
              refine W_regionD tab_ok [] ?_
              simp only [push_cast, seval, ↓reduceIte, cast_lit, hN0, hN]
              have hs2_ := Option.some.inj hs2_; subst hs2_
              refine And.intro rfl (Fit2.of (fit_loc hU rfl rfl ?_) (by omega))
              simp only [push_cast, seval, ↓reduceIte, cast_lit, hN0, hN]
          · replace hs2_ := condF c63 hs2_
            refine W_exit ?_
            try simp only [gthen, gblock, ↓reduceIte, Nat.reduceEqDiff]
            have hs2_ := Option.some.inj hs2_; subst hs2_
            refine And.intro (fun h => by cases h) (And.intro rfl (Fit2.of (fit_loc hU rfl rfl ?_) (by omega)))
            simp only [push_cast, seval, ↓reduceIte, cast_lit, hN0, hN]
        rcases z64 with z64 | z64
        · dsimp only [SumJ] at hw h
          refine W_blockR hw ?_
          try simp only [gthen, gblock, ↓reduceIte, Nat.reduceEqDiff]
          have h := Option.some.inj h; subst h
          refine fin_loc (.inr rfl) hU [.val (.bool false)] (by omega) ?_
          simp only [push_cast, seval, ↓reduceIte, cast_lit, Try.results17, hN0, hN]
        · dsimp only [SumJ] at hw h
          refine W_blockX hw ?_
          try simp only [gthen, gblock, ↓reduceIte, Nat.reduceEqDiff]
          refine W_drop [] [false, false] ?_
          simp only [push_cast, seval, ↓reduceIte]
          refine W_sq [4] (W_regionD tab_ok [] ?_)
          simp only [push_cast, seval, ↓reduceIte, cast_lit, hN0, hN]
          refine W_ret ?_
          try simp only [gthen, gblock]
          have h := Option.some.inj h; subst h
          refine fin_loc (.inr rfl) hU [.val (.bool true)] (by omega) ?_
          simp only [push_cast, seval, ↓reduceIte, cast_lit, Try.results17, hN0, hN]
theorem lv_centoref22_Same_ok : ∀ k, (∀ {a0 : S_api_Edit} {a1 : S_api_Edit} {r : Bool} {O : Objs} {n : Nat}, (lv_centoref22_Same k) a0 a1 = some r → GTo Try.prog 17 [.agg (c_S_api_Edit a0), .agg (c_S_api_Edit a1)] O n (.val (.bool r)) O n) := fun k => by
  induction k with
  | zero => exact @fun a0 a1 r O n h => (nomatch (show (none : Option _) = some _ from h))
  | succ k ih => exact @fun a0 a1 r O n h => okb_centoref22_Same (ih)  h
theorem ok_centoref22_Same {a0 : S_api_Edit} {a1 : S_api_Edit} {r : Bool} {O : Objs} {n : Nat} (h : m_centoref22_Same a0 a1 = some r) : GTo Try.prog 17 [.agg (c_S_api_Edit a0), .agg (c_S_api_Edit a1)] O n (.val (.bool r)) O n := by
  obtain ⟨k, hk⟩ := lim_some h
  exact (lv_centoref22_Same_ok k)  hk
theorem ok_centolaw23_InvertTwice {a0 : S_api_Edit} {r : Bool} {O : Objs} {n : Nat} (h : m_centolaw23_InvertTwice a0 = some r) : GTo Try.prog 8 [.agg (c_S_api_Edit a0)] O n (.val (.bool r)) O n := by
  unfold m_centolaw23_InvertTwice at h
  refine fn_of tab_ok Try.call8 Try.func8 rfl (Nat.le_of_ble_eq_true rfl) (Nat.le_refl _) fun hU => ?_
  have hN0 : O n = none := hU.fresh _ (Nat.le_refl _)
  have hN : ∀ k, O (n + k) = none := fun k => hU.fresh _ (Nat.le_add_right _ _)
  show W _ _ _ _ ⟨16, [], [(0, .agg (c_S_api_Edit a0))]⟩ (Loc O n []) _
  refine W_sq [1] (W_regionD tab_ok [] ?_)
  simp only [push_cast, seval, ↓reduceIte, cast_lit, hN0, hN]
  refine W_seqK ?_
  refine W_seqK ?_
  obtain ⟨y2, hy2, h⟩ := bC h
  refine W_regionD tab_ok [] ?_
  simp only [push_cast, seval, ↓reduceIte, cast_lit, hN0, hN]
  refine (ok_centoref20_Good hy2).then ?_
  simp only [push_cast, seval, ↓reduceIte, cast_lit, hN0, hN]
  refine W_drop [1, 5] [true] ?_
  simp only [push_cast, seval, ↓reduceIte]
  refine W_cond (t := (!y2)) rfl (fun c22 => ?_) (fun c22 => ?_)
  · replace h := condT c22 h
    refine W_seqK ?_
    obtain ⟨y4, hy4, h⟩ := bC h
    refine W_regionD tab_ok [] ?_
    simp only [push_cast, seval, ↓reduceIte, cast_lit, hN0, hN]
    refine (ok_centolaw23_awake hy4).then ?_
    simp only [push_cast, seval, ↓reduceIte, cast_lit, hN0, hN]
    refine W_drop [2] [false] ?_
    simp only [push_cast, seval, ↓reduceIte]
    refine W_ret ?_
    try simp only [gthen, gblock]
    have h := Option.some.inj h; subst h
    refine fin_loc (.inr rfl) hU [.val (.bool y4)] (by omega) ?_
    simp only [push_cast, seval, ↓reduceIte, cast_lit, Try.results8, hN0, hN]
  · replace h := condF c22 h
    refine W_skip ?_
    try simp only [gthen, gblock]
    refine W_drop [1] [true] ?_
    simp only [push_cast, seval, ↓reduceIte]
    obtain ⟨z10, hz10, h⟩ := bC h
    refine W_seqN (E' := ⟨16, [], [(2, .val (.bool z10))]⟩) (O' := (Loc O n [none])) (n0 := (n + 1)) ?_ ?_
    · obtain ⟨y16, hy16, hz10⟩ := bC hz10
      obtain ⟨y17, hy17, hz10⟩ := bC hz10
      obtain ⟨y18, hy18, hz10⟩ := bC hz10
      obtain ⟨y19, hy19, hz10⟩ := bC hz10
      rcases Bool.eq_false_or_eq_true y19 with c21 | c21
      · replace hz10 := condT c21 hz10
        obtain ⟨y20, hy20, hz10⟩ := bC hz10
        refine W_drawD tab_ok (by kernel_rfl) [some true] (by kernel_rfl) ?_
        simp only [push_cast, seval, ↓reduceIte, cast_lit, c21, hN0, hN]
        refine PCall.of (ok_invert_Edit hy16) ?_
        simp only [push_cast, seval, ↓reduceIte, cast_lit, c21, hN0, hN]
        refine PCall.of (ok_invert_Edit hy17) ?_
        simp only [push_cast, seval, ↓reduceIte, cast_lit, c21, hN0, hN]
        refine PCall.of (ok_centoref22_Edit hy18) ?_
        simp only [push_cast, seval, ↓reduceIte, cast_lit, c21, hN0, hN]
        refine PCall.of (ok_centoref22_Same hy19) ?_
        simp only [push_cast, seval, ↓reduceIte, cast_lit, c21, hN0, hN]
        refine PCall.of (ok_centolaw23_awake hy20) ?_
        simp only [push_cast, seval, ↓reduceIte, cast_lit, c21, hN0, hN]
        have hz10 := Option.some.inj hz10; subst hz10
        refine And.intro rfl (Fit2.of (fit_loc hU rfl rfl ?_) (by omega))
        simp only [push_cast, seval, ↓reduceIte, cast_lit, c21, hN0, hN]
      · replace hz10 := condF c21 hz10
        refine W_drawD tab_ok (by kernel_rfl) [some false] (by kernel_rfl) ?_
        simp only [push_cast, seval, ↓reduceIte, cast_lit, c21, hN0, hN]
        refine PCall.of (ok_invert_Edit hy16) ?_
        simp only [push_cast, seval, ↓reduceIte, cast_lit, c21, hN0, hN]
        refine PCall.of (ok_invert_Edit hy17) ?_
        simp only [push_cast, seval, ↓reduceIte, cast_lit, c21, hN0, hN]
        refine PCall.of (ok_centoref22_Edit hy18) ?_
        simp only [push_cast, seval, ↓reduceIte, cast_lit, c21, hN0, hN]
        refine PCall.of (ok_centoref22_Same hy19) ?_
        simp only [push_cast, seval, ↓reduceIte, cast_lit, c21, hN0, hN]
        have hz10 := Option.some.inj hz10; subst hz10
        refine And.intro rfl (Fit2.of (fit_loc hU rfl rfl ?_) (by omega))
        simp only [push_cast, seval, ↓reduceIte, cast_lit, c21, hN0, hN]
    refine W_ret ?_
    try simp only [gthen, gblock]
    have h := Option.some.inj h; subst h
    refine fin_loc (.inr rfl) hU [.val (.bool z10)] (by omega) ?_
    simp only [push_cast, seval, ↓reduceIte, cast_lit, Try.results8, hN0, hN]
end Go.Proofs.Ytbcgiaijjaocdaa
