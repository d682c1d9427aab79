/- Part IM4 of this seat's mirrors: functions of the seat's program, and the plain functions that they are; each theorem bears its own conditions. -/
import Derived.Test.YtbcgiaijjaocdaaIE
import Derived.Test.YtbcgiaijjaocdaaIM3
namespace Go.Proofs.Ytbcgiaijjaocdaa
open Go.RowKit
set_option linter.unusedVariables false
set_option linter.unusedSimpArgs false
set_option maxRecDepth 100000
set_option maxHeartbeats 1000000
attribute [local push_cast] c_S_api_Edit c_S_api_KidEdit c_S_api_Op c_S_api_Tree c_S_api_WordEdit gfork_t gfork_f pfork_t pfork_f gthen gblock gops_nil gops_plain gops_guard onW gwantB gcalm gact gpick gpickV strip evS wok calmOp Op.operands Call.operands gop onK onP atK List.all_cons List.all_nil Bool.and_true Bool.true_and Bool.and_self Value.oneCell' List.take_zero List.take_succ_cons List.take_nil List.drop_zero List.drop_succ_cons List.drop_nil List.append_nil Nat.add_zero Nat.zero_add gstep gputE ev look genv gbin geqS geqF gint gunary gconvert gload gcells gpart_lit gstore gcellsOf gput gplace_lit gfieldAddr gstepIn gindexAddr gindex gfield gopt bLo bHi bMx gextract galloc gbox gbuild gfill gplaces gbuildSlice gmake glen gappend gsrc gbuiltin gnil isLive gres gone prun_nil prun_plain prun_guard pop TK.isAgg G.one G.under G.unders List.getD_cons_zero List.getD_cons_succ List.set_cons_zero List.set_cons_succ List.map_cons List.map_nil List.toList_toArray Array.toList_append Option.toArray_none Option.toArray_some Array.toList_map Option.map_some Option.map_none Option.bind_some Option.bind_none List.getElem?_cons_zero List.getElem?_cons_succ List.getElem?_nil List.nil_append List.cons_append List.replicate_succ List.replicate_zero List.length_cons List.length_nil and_true true_and and_false false_and Bool.true_eq_false Bool.false_eq_true forall_const false_implies implies_true IntKind.bits if_true if_false ite_true ite_false eq_self true_implies false_or or_false or_true true_or not_true_eq_false not_false_eq_true decide_true decide_false decide_eq_true_eq decide_eq_false_iff_not beq_iff_eq bne_iff_ne ne_eq Bool.not_eq_true Bool.not_eq_false beq_eq_false_iff_ne bne_eq_false_iff_eq beq_self_eq_true bne_self_eq_false Option.some.injEq exists_eq_left' exists_eq_left ge_iff_le gt_iff_lt decide_not Bool.not_true Bool.not_false imp_self gquiet cond_true cond_false beqT beqF Bool.not_not Bool.and_false Bool.false_and Bool.or_true Bool.true_or Bool.or_false Bool.false_or Loc_at Loc_at0 Loc_upd Loc_upd0 Loc_push Loc_push0 Option.join_some Nat.add_assoc Int.toNat_natCast eI eB eS eL fl_nil gopsD_nil gopsD_plain gopsD_t gopsD_f gopsD_n onKD onWD prunD_nil prunD_plain prunD_t prunD_f prunD_n onPD fitO fitO1 sameO fitL fl_append fl_one List.length_append G.agg.injEq G.row.injEq G.ref.injEq G.val.injEq G.sl.injEq G.tup.injEq Value.int.injEq Value.bool.injEq Value.string.injEq List.cons.injEq exists_and_left exists_const List.flatten_cons List.flatten_nil Int.le_refl Nat.le_refl upd_updU Loc_out Loc_updo Bool.not_eq_true' Bool.not_eq_false' wkl_nil wkl_cons wk_any wk_val wk_agg wk_tup wk_sl wk_fn List.size_toArray renO renO1 G.ren G.rens renL rho_at rho_at0 gP_none gP_some strip_gP wok_gP one_gP G.fn.injEq wk_slnil wk_slrow wk_slrs wk_ip wk_ipref wk_row wk_rs wk_rp wk_ref locLt0 locLt Option.join_none upd_same fl_cons undef keepL Arr.len Arr.put_eq prunB_nil prunB_bar prunB_bart prunB_plain prunB_t prunB_f prunB_n onB onBP gcopy setI_len Loc_cat0 Loc_cat1 Loc_cat2 Loc_cat3 Loc_cat4 Loc_cat5 noObjs_at prunK_nil prunK_bar prunK_pass prunK_plain prunK_low prunK_pt prunK_pf prunK_lt prunK_lf onKg onKa onKp popL pickOps lows lowG prunK_shp prunK_fill popH shpOp fillOp fillG rho_low rens_app Loc_cat6 Loc_cat7 Loc_cat8 Loc_cat9 Loc_cat10 Loc_cat11 Loc_cat12 Loc_cat13 Loc_cat14 Loc_cat15 Loc_cat16 dropM tab2 tkind2 tab3 tkind3 tab4 tkind4 tab5 tkind5 tab6 tkind6 tab7 tkind7 tab8 tkind8 tab9 tkind9 tab10 tkind10 tab11 tkind11 tab12 tkind12 tab13 tkind13 tab14 tkind14 tab15 tkind15 tab16 tkind16 tab17 tkind17 tab18 tkind18 tab19 tkind19 tab21 tkind21 tab22 tkind22 tab23 tkind23 tab24 tkind24 tab25 tkind25 tab26 tkind26 tab27 tkind27 tab28 tkind28 tab29 tkind29 tab30 tkind30 tab46 tkind46 tab49 tkind49 tab52 tkind52 tab56 tkind56 tab57 tkind57 tab58 tkind58 tab62 tkind62 tab68 tkind68 tab69 tkind69 tab70 tkind70 tab71 tkind71 tab78 tkind78 tab79 tkind79 tab81 tkind81 tab82 tkind82 tab83 tkind83 tab84 tkind84 tab95 tkind95 tab99 tkind99 tab101 tkind101 tab102 tkind102 tab109 tkind109 tab110 tkind110 tab113 tkind113 tab123 tkind123 tab124 tkind124 tab132 tkind132 tab133 tkind133 tab136 tkind136 tab138 tkind138 tab139 tkind139 tab141 tkind141 tab142 tkind142 tab157 tkind157 tab159 tkind159 tab160 tkind160 tab165 tkind165 tab166 tkind166 tab167 tkind167 tab169 tkind169 tab170 tkind170 tab171 tkind171 e_S_api_Tree e0_eq_S_api_Tree wkl_eI_u64 wka_eI_u64 len_eI_u64 one_eI_u64 wkp_eI_u64 undp_eI_u64 rens_eI_u64 renp_eI_u64 und_eI_u64 wkl_e_S_api_Tree wka_e_S_api_Tree len_e_S_api_Tree one_e_S_api_Tree wkp_e_S_api_Tree undp_e_S_api_Tree rens_e_S_api_Tree renp_e_S_api_Tree und_e_S_api_Tree e_S_api_WordEdit e_S_api_Edit e_S_api_Op e_S_api_KidEdit e0_eq_S_api_Edit e0_eq_S_api_Op e0_eq_S_api_KidEdit wkl_e_S_api_WordEdit wka_e_S_api_WordEdit len_e_S_api_WordEdit one_e_S_api_WordEdit wkp_e_S_api_WordEdit undp_e_S_api_WordEdit rens_e_S_api_WordEdit renp_e_S_api_WordEdit und_e_S_api_WordEdit wkl_e_S_api_KidEdit wka_e_S_api_KidEdit len_e_S_api_KidEdit one_e_S_api_KidEdit wkp_e_S_api_KidEdit undp_e_S_api_KidEdit rens_e_S_api_KidEdit renp_e_S_api_KidEdit und_e_S_api_KidEdit wkl_e_S_api_Op wka_e_S_api_Op len_e_S_api_Op one_e_S_api_Op wkp_e_S_api_Op undp_e_S_api_Op rens_e_S_api_Op renp_e_S_api_Op und_e_S_api_Op wkl_eI_u8 wka_eI_u8 len_eI_u8 one_eI_u8 wkp_eI_u8 undp_eI_u8 rens_eI_u8 renp_eI_u8 und_eI_u8 e_S_normal_writer wkl_e_S_normal_writer wka_e_S_normal_writer len_e_S_normal_writer one_e_S_normal_writer wkp_e_S_normal_writer undp_e_S_normal_writer rens_e_S_normal_writer renp_e_S_normal_writer und_e_S_normal_writer
theorem ok_invert_Edit {a0 : S_api_Edit} {r : S_api_Edit} {O : Objs} {n : Nat} (h : m_invert_Edit a0 = some r) : GTo Try.prog 28 [.agg (c_S_api_Edit a0)] O n (.agg (c_S_api_Edit r)) O n := by
  unfold m_invert_Edit at h
  refine fn_of tab_ok Try.call28 Try.func28 rfl (Nat.le_of_ble_eq_true rfl) (Nat.le_refl _) fun hU => ?_
  have hN0 : O n = none := hU.fresh _ (Nat.le_refl _)
  have hN : ∀ k, O (n + k) = none := fun k => hU.fresh _ (Nat.le_add_right _ _)
  show W _ _ _ _ ⟨6, [], [(0, .agg (c_S_api_Edit a0))]⟩ (Loc O n []) _
  refine W_sq [1, 2] (W_regionD tab_ok [] ?_)
  simp only [push_cast, seval, ↓reduceIte, cast_lit, hN0, hN]
  refine W_seqK ?_
  obtain ⟨y3, hy3, h⟩ := bC h
  obtain ⟨y4, hy4, h⟩ := bC h
  refine W_regionD tab_ok [] ?_
  simp only [push_cast, seval, ↓reduceIte, cast_lit, hN0, hN]
  refine (ok_invert_turned hy3).then ?_
  simp only [push_cast, seval, ↓reduceIte, cast_lit, hN0, hN]
  refine (ok_normal_Edit hy4).then ?_
  simp only [push_cast, seval, ↓reduceIte, cast_lit, hN0, hN]
  refine W_drop [2] [false, true] ?_
  simp only [push_cast, seval, ↓reduceIte]
  refine W_ret ?_
  try simp only [gthen, gblock]
  have h := Option.some.inj h; subst h
  refine fin_loc (.inr rfl) hU [.agg (c_S_api_Edit y4)] (by omega) ?_
  simp only [push_cast, seval, ↓reduceIte, cast_lit, Try.results28, hN0, hN]
theorem ok_centolaw23_awake  {r : Bool} {O : Objs} {n : Nat} (h : m_centolaw23_awake = some r) : GTo Try.prog 27 [] O n (.val (.bool r)) O n := by
  unfold m_centolaw23_awake at h
  refine fn_of tab_ok Try.call27 Try.func27 rfl (Nat.le_of_ble_eq_true rfl) (Nat.le_refl _) fun hU => ?_
  have hN0 : O n = none := hU.fresh _ (Nat.le_refl _)
  have hN : ∀ k, O (n + k) = none := fun k => hU.fresh _ (Nat.le_add_right _ _)
  show W _ _ _ _ ⟨32, [], []⟩ (Loc O n []) _
  refine W_sq [] (W_regionD tab_ok [] ?_)
  simp only [push_cast, seval, ↓reduceIte, cast_lit, hN0, hN]
  refine W_seqK ?_
  refine W_regionD tab_ok [] ?_
  simp only [push_cast, seval, ↓reduceIte, cast_lit, hN0, hN]
  refine W_fit ⟨32, [], [(1, .row (n + 1) ([(⟨10, ([1] : List Int), ([] : (List S_api_Tree))⟩ : S_api_Tree)] : List S_api_Tree).length)]⟩ (Loc O n [none, some ⟨true, 25, 3, ([(⟨10, ([1] : List Int), ([] : (List S_api_Tree))⟩ : S_api_Tree)] : List S_api_Tree).length, fl e_S_api_Tree ([(⟨10, ([1] : List Int), ([] : (List S_api_Tree))⟩ : S_api_Tree)] : List S_api_Tree)⟩]) (fit_loc hU rfl rfl ?_) ?_
  · simp only [push_cast, seval, ↓reduceIte, cast_lit, hN0, hN]
  refine W_fit ⟨32, [], [(1, .sl ([(⟨10, ([1] : List Int), ([] : (List S_api_Tree))⟩ : S_api_Tree)] : List S_api_Tree).length (fl e_S_api_Tree ([(⟨10, ([1] : List Int), ([] : (List S_api_Tree))⟩ : S_api_Tree)] : List S_api_Tree)))]⟩ (Loc O n [none, none]) (fit_loc hU rfl rfl ?_) ?_
  · simp only [push_cast, seval, ↓reduceIte, cast_lit, hN0, hN]
  refine W_seqK ?_
  obtain ⟨y2, hy2, h⟩ := bC h
  refine W_regionD tab_ok [] ?_
  simp only [push_cast, seval, ↓reduceIte, cast_lit, hN0, hN]
  refine GCalls.dropL (l' := [none, none, none]) hU rfl ?_ ((ok_invert_Edit hy2).then ?_)
  · simp only [push_cast, seval, ↓reduceIte, cast_lit, hN0, hN]
  simp only [push_cast, seval, ↓reduceIte, cast_lit, hN0, hN]
  refine W_drop [2] [false, false, false, true] ?_
  simp only [push_cast, seval, ↓reduceIte]
  obtain ⟨z7, hz7, h⟩ := bC h
  refine W_seqN (E' := ⟨32, [], [(0, .val (.bool z7))]⟩) (O' := (Loc O n [none, none, none, none])) (n0 := (n + 4)) ?_ ?_
  · rcases Bool.eq_false_or_eq_true ((y2.Ops.length : Int) == 2) with c16 | c16
    · replace hz7 := condT c16 hz7
      obtain ⟨x12, hx12, ax12, bx12, cx12, hz7⟩ := bE (f := e_S_api_Op) tab69 (fun _ => rfl) (by decide) hz7
      have g13 := gpart_fld0 (f := e_S_api_Op) (sz := 14) tab3 (fun _ => rfl) (by decide) (by decide) hx12
      rcases Bool.eq_false_or_eq_true (x12.Kind == 1) with c17 | c17
      · replace hz7 := condT c17 hz7
        try rw [c17] at c16
        obtain ⟨x14, hx14, ax14, bx14, cx14, hz7⟩ := bE (f := e_S_api_Op) tab69 (fun _ => rfl) (by decide) hz7
        have g15 := gpart_fld0 (f := e_S_api_Op) (sz := 14) tab3 (fun _ => rfl) (by decide) (by decide) hx14
        refine W_regionD tab_ok [some true, some true, some true, some true, some true, some true, some true, some true, some true, some true, some true, some true] ?_
        simp only [push_cast, Nat.reduceAdd, Nat.reduceSub, Nat.reduceMul, Nat.reduceLeDiff, Nat.reduceLT, Nat.reduceEqDiff, ↓reduceIte, reduceCtorEq, Int.reduceBEq, Int.reduceBNe, Nat.reduceBEq, Int.reduceLE, Int.reduceLT, Int.reduceEq, Int.reduceNe, Int.reduceNeg, Nat.reduceDiv, Nat.reduceMod, Nat.reducePow, cast_lit, c16, ax12, bx12, cx12, g13, c17, ax14, bx14, cx14, g15, hN0, hN]
        have hz7 := Option.some.inj hz7; subst hz7
        refine And.intro rfl (Fit2.of (fit_loc hU rfl rfl ?_) (by omega))
        simp only [push_cast, Nat.reduceAdd, Nat.reduceSub, Nat.reduceMul, Nat.reduceLeDiff, Nat.reduceLT, Nat.reduceEqDiff, ↓reduceIte, reduceCtorEq, Int.reduceBEq, Int.reduceBNe, Nat.reduceBEq, Int.reduceLE, Int.reduceLT, Int.reduceEq, Int.reduceNe, Int.reduceNeg, Nat.reduceDiv, Nat.reduceMod, Nat.reducePow, cast_lit, c16, ax12, bx12, cx12, g13, c17, ax14, bx14, cx14, g15, hN0, hN]
      · replace hz7 := condF c17 hz7
        try rw [c17] at c16
        refine W_regionD tab_ok [some true, some true, some true, some true, some true, some true, some false, some false, some false, some false, some false, some false] ?_
        simp only [push_cast, Nat.reduceAdd, Nat.reduceSub, Nat.reduceMul, Nat.reduceLeDiff, Nat.reduceLT, Nat.reduceEqDiff, ↓reduceIte, reduceCtorEq, Int.reduceBEq, Int.reduceBNe, Nat.reduceBEq, Int.reduceLE, Int.reduceLT, Int.reduceEq, Int.reduceNe, Int.reduceNeg, Nat.reduceDiv, Nat.reduceMod, Nat.reducePow, cast_lit, c16, ax12, bx12, cx12, g13, c17, hN0, hN]
        have hz7 := Option.some.inj hz7; subst hz7
        refine And.intro rfl (Fit2.of (fit_loc hU rfl rfl ?_) (by omega))
        simp only [push_cast, Nat.reduceAdd, Nat.reduceSub, Nat.reduceMul, Nat.reduceLeDiff, Nat.reduceLT, Nat.reduceEqDiff, ↓reduceIte, reduceCtorEq, Int.reduceBEq, Int.reduceBNe, Nat.reduceBEq, Int.reduceLE, Int.reduceLT, Int.reduceEq, Int.reduceNe, Int.reduceNeg, Nat.reduceDiv, Nat.reduceMod, Nat.reducePow, cast_lit, c16, ax12, bx12, cx12, g13, c17, hN0, hN]
    · replace hz7 := condF c16 hz7
      refine W_regionD tab_ok [some false, some false, some false, some false, some false, some false, some false, some false, some false, some false, some false, some false] ?_
      simp only [push_cast, seval, ↓reduceIte, cast_lit, c16, hN0, hN]
      have hz7 := Option.some.inj hz7; subst hz7
      refine And.intro rfl (Fit2.of (fit_loc hU rfl rfl ?_) (by omega))
      simp only [push_cast, seval, ↓reduceIte, cast_lit, c16, hN0, hN]
  refine W_ret ?_
  try simp only [gthen, gblock]
  have h := Option.some.inj h; subst h
  refine fin_loc (.inr rfl) hU [.val (.bool z7)] (by omega) ?_
  simp only [push_cast, seval, ↓reduceIte, cast_lit, Try.results27, hN0, hN]
theorem ok_centoref07_Trim {a0 : (List Int)} {r : (List Int)} {O : Objs} {n : Nat} (h : m_centoref07_Trim a0 = some r) : GTo Try.prog 63 [.sl a0.length (fl (eI .u64) a0)] O n (.sl r.length (fl (eI .u64) r)) O n := by
  unfold m_centoref07_Trim at h
  refine fn_of tab_ok Try.call63 Try.func63 rfl (Nat.le_of_ble_eq_true rfl) (Nat.le_refl _) fun hU => ?_
  have hN0 : O n = none := hU.fresh _ (Nat.le_refl _)
  have hN : ∀ k, O (n + k) = none := fun k => hU.fresh _ (Nat.le_add_right _ _)
  show W _ _ _ _ ⟨24, [], [(0, .sl a0.length (fl (eI .u64) a0))]⟩ (Loc O n []) _
  refine W_sq [0] (W_regionD tab_ok [] ?_)
  simp only [push_cast, seval, ↓reduceIte, cast_lit, hN0, hN]
  refine W_sq [0, 3] (W_regionD tab_ok [] ?_)
  simp only [push_cast, seval, ↓reduceIte, cast_lit, hN0, hN]
  refine W_seqK ?_
  refine W_drop [0, 3] [] ?_
  simp only [push_cast, seval, ↓reduceIte]
  obtain ⟨z7, hz7, h⟩ := bC h
  refine W_blockX (E' := ⟨24, [], [(0, .sl a0.length (fl (eI .u64) a0)), (3, .val (.int .i64 z7))]⟩) (O' := (Loc O n [])) (n0 := n) ?_ ?_
  · refine W_loopJ hz7 (fun s0_ => ⟨24, [], [(0, .sl a0.length (fl (eI .u64) a0)), (3, .val (.int .i64 s0_))]⟩) (fun s0_ => (Loc O n [])) (fun z7 => JX 0 n (⟨24, [], [(0, .sl a0.length (fl (eI .u64) a0)), (3, .val (.int .i64 z7))]⟩ : Env) (Loc O n []) n) ?_
    intro s0_ x0_ hs0_
    unfold m_centoref07_Trim_L0 at hs0_
    try dsimp only
    refine W_seqK ?_
    obtain ⟨z2, hz2, hs0_⟩ := bC hs0_
    refine W_seqN (E' := ⟨24, [], [(0, .sl a0.length (fl (eI .u64) a0)), (3, .val (.int .i64 s0_)), (16, .val (.bool z2))]⟩) (O' := (Loc O n [])) (n0 := n) ?_ ?_
    · rcases Bool.eq_false_or_eq_true (decide (0 < s0_)) with c5 | c5
      · replace hz2 := condT c5 hz2
        obtain ⟨x4, hx4, ax4, bx4, cx4, hz2⟩ := bE (f := (eI .u64)) tab56 (fun _ => rfl) (by decide) hz2
        refine W_regionD tab_ok [some true, some true, some true, some true, some true, some true] ?_
        simp only [push_cast, Nat.reduceAdd, Nat.reduceSub, Nat.reduceMul, Nat.reduceLeDiff, Nat.reduceLT, Nat.reduceEqDiff, ↓reduceIte, reduceCtorEq, Int.reduceBEq, Int.reduceBNe, Nat.reduceBEq, Int.reduceLE, Int.reduceLT, Int.reduceEq, Int.reduceNe, Int.reduceNeg, Nat.reduceDiv, Nat.reduceMod, Nat.reducePow, cast_lit, c5, ax4, bx4, cx4, hN0, hN]
        have hz2 := Option.some.inj hz2; subst hz2
        refine And.intro rfl (Fit2.of (fit_loc hU rfl rfl ?_) (by omega))
        simp only [push_cast, Nat.reduceAdd, Nat.reduceSub, Nat.reduceMul, Nat.reduceLeDiff, Nat.reduceLT, Nat.reduceEqDiff, ↓reduceIte, reduceCtorEq, Int.reduceBEq, Int.reduceBNe, Nat.reduceBEq, Int.reduceLE, Int.reduceLT, Int.reduceEq, Int.reduceNe, Int.reduceNeg, Nat.reduceDiv, Nat.reduceMod, Nat.reducePow, cast_lit, c5, ax4, bx4, cx4, hN0, hN]
      · replace hz2 := condF c5 hz2
        refine W_regionD tab_ok [some false, some false, some false, some false, some false, some false] ?_
        simp only [push_cast, seval, ↓reduceIte, cast_lit, c5, hN0, hN]
        have hz2 := Option.some.inj hz2; subst hz2
        refine And.intro rfl (Fit2.of (fit_loc hU rfl rfl ?_) (by omega))
        simp only [push_cast, seval, ↓reduceIte, cast_lit, c5, hN0, hN]
    refine W_cond (t := z2) rfl (fun c6 => ?_) (fun c6 => ?_)
    · replace hs0_ := condT c6 hs0_
      refine W_skip ?_
      try simp only [gthen, gblock]
      refine W_drop [0, 3] [] ?_
      simp only [push_cast, seval, ↓reduceIte]
      refine W_block ?_
      refine W_regionD tab_ok [] ?_
      simp only [push_cast, seval, ↓reduceIte, cast_lit, hN0, hN]
      have hs0_ := Option.some.inj hs0_; subst hs0_
      refine And.intro rfl (Fit2.of (fit_loc hU rfl rfl ?_) (by omega))
      simp only [push_cast, seval, ↓reduceIte, cast_lit, hN0, hN]
    · replace hs0_ := condF c6 hs0_
      refine W_exit ?_
      try simp only [gthen, gblock, ↓reduceIte, Nat.reduceEqDiff]
      have hs0_ := Option.some.inj hs0_; subst hs0_
      refine And.intro (fun h => by cases h) (And.intro rfl (Fit2.of (fit_loc hU rfl rfl ?_) (by omega)))
      simp only [push_cast, seval, ↓reduceIte, cast_lit, hN0, hN]
  try simp only [gthen, gblock, ↓reduceIte, Nat.reduceEqDiff]
  refine W_drop [0, 3] [] ?_
  simp only [push_cast, seval, ↓reduceIte]
  refine W_sq [0, 3, 4] (W_regionD tab_ok [] ?_)
  simp only [push_cast, seval, ↓reduceIte, cast_lit, hN0, hN]
  refine W_seqK ?_
  obtain ⟨l10, al10, bl10, cl10, gl10, h⟩ := bS (lo := none) (hi := (some (.i64, z7))) (f := (eI .u64)) rfl rfl tkind22 tab56 (fun _ => rfl) h
  obtain ⟨l11, pl11, ql11, el11, h⟩ := bA0 (k := l10.length) rfl h
  refine W_regionD tab_ok [] ?_
  simp only [push_cast, seval, ↓reduceIte, cast_lit, al10, bl10, cl10, gl10, pl11, ql11, el11, hN0, hN]
  refine W_fit ⟨24, [], [(2, .row n l11.length)]⟩ (Loc O n [some ⟨true, 56, 1, l11.length, fl (eI .u64) l11⟩]) (fit_loc hU rfl rfl ?_) ?_
  · simp only [push_cast, seval, ↓reduceIte, cast_lit, al10, bl10, cl10, gl10, pl11, ql11, el11, hN0, hN]
  refine W_ret ?_
  try simp only [gthen, gblock]
  have h := Option.some.inj h; subst h
  refine fin_loc (.inr rfl) hU [.row n l11.length] (by omega) ?_
  simp only [push_cast, seval, ↓reduceIte, cast_lit, Try.results63, hN0, hN]
theorem okb_centoref07_Norm {r_centoref07_Norm : (S_api_Tree → Option S_api_Tree)} (ok_r_centoref07_Norm : ∀ {a0 : S_api_Tree} {r : S_api_Tree} {O : Objs} {n : Nat}, r_centoref07_Norm a0 = some r → GTo Try.prog 31 [.agg (c_S_api_Tree a0)] O n (.agg (c_S_api_Tree r)) O n) {a0 : S_api_Tree} {r : S_api_Tree} {O : Objs} {n : Nat} (h : b_centoref07_Norm r_centoref07_Norm a0 = some r) : GTo Try.prog 31 [.agg (c_S_api_Tree a0)] O n (.agg (c_S_api_Tree r)) O n := by
  unfold b_centoref07_Norm at h
  refine fn_of tab_ok Try.call31 Try.func31 rfl (Nat.le_of_ble_eq_true rfl) (Nat.le_refl _) fun hU => ?_
  have hN0 : O n = none := hU.fresh _ (Nat.le_refl _)
  have hN : ∀ k, O (n + k) = none := fun k => hU.fresh _ (Nat.le_add_right _ _)
  show W _ _ _ _ ⟨53, [], [(0, .agg (c_S_api_Tree a0))]⟩ (Loc O n []) _
  refine W_sq [1, 2] (W_regionD tab_ok [] ?_)
  simp only [push_cast, seval, ↓reduceIte, cast_lit, hN0, hN]
  refine W_seqK ?_
  refine W_sq [1, 2, 10] (W_regionD tab_ok [] ?_)
  simp only [push_cast, seval, ↓reduceIte, cast_lit, hN0, hN]
  refine W_cond (t := (a0.Kind == 0)) rfl (fun c19 => ?_) (fun c19 => ?_)
  · replace h := condT c19 h
    refine W_seqK ?_
    refine W_regionD tab_ok [] ?_
    simp only [push_cast, seval, ↓reduceIte, cast_lit, hN0, hN]
    refine W_drop [2] [false, true] ?_
    simp only [push_cast, seval, ↓reduceIte]
    refine W_ret ?_
    try simp only [gthen, gblock]
    have h := Option.some.inj h; subst h
    refine fin_loc (.inr rfl) hU [.agg [.val (.int .i64 0), .val (.slice none 0 0), .val (.slice none 0 0)]] (by omega) ?_
    simp only [push_cast, seval, ↓reduceIte, cast_lit, Try.results31, hN0, hN]
  · replace h := condF c19 h
    refine W_skip ?_
    try simp only [gthen, gblock]
    refine W_drop [1, 2] [true, true] ?_
    simp only [push_cast, seval, ↓reduceIte]
    refine W_sq [1, 2, 3] (W_regionD tab_ok [] ?_)
    simp only [push_cast, seval, ↓reduceIte, cast_lit, hN0, hN]
    refine W_sq [1, 2, 3, 4] (W_regionD tab_ok [] ?_)
    simp only [push_cast, seval, ↓reduceIte, cast_lit, hN0, hN]
    refine W_seqK ?_
    refine W_sq [1, 2, 3, 4, 5] (W_regionD tab_ok [] ?_)
    simp only [push_cast, seval, ↓reduceIte, cast_lit, hN0, hN]
    refine W_drop [1, 2, 3, 4, 5] [true, true] ?_
    simp only [push_cast, seval, ↓reduceIte]
    refine W_fit2 (E' := (⟨53, [], [(1, .ref n 0), (2, .ref (n + 1) 0), (3, .row (n + 2) ([] : List S_api_Tree).length), (4, .val (.int .i64 0)), (5, .val (.int .i64 0))]⟩ : Env)) (O' := (Loc O n [some ⟨false, 25, 3, 1, (c_S_api_Tree a0)⟩, some ⟨false, 25, 3, 1, [.val (.int .i64 0), .val (.slice none 0 0), .val (.slice none 0 0)]⟩, some ⟨true, 25, 3, ([] : List S_api_Tree).length, fl e_S_api_Tree ([] : List S_api_Tree)⟩, none])) (n' := (n + 4)) ?_ ?_
    · refine Fit2.trans (E' := (⟨53, [], [(1, .ref n 0), (2, .ref (n + 1) 0), (3, .val (.slice none 0 0)), (4, .val (.int .i64 0)), (5, .val (.int .i64 0))]⟩ : Env)) (O' := (Loc O n [some ⟨false, 25, 3, 1, (c_S_api_Tree a0)⟩, some ⟨false, 25, 3, 1, [.val (.int .i64 0), .val (.slice none 0 0), .val (.slice none 0 0)]⟩])) (n' := (n + 2)) (Fit2.of (fit_loc hU rfl rfl ?_) (by omega)) ?_
      · simp only [push_cast, seval, ↓reduceIte, cast_lit, hN0, hN]
      refine Fit2.trans (E' := (⟨53, [], [(3, .row (n + 2) 0), (1, .ref n 0), (2, .ref (n + 1) 0), (3, .val (.slice none 0 0)), (4, .val (.int .i64 0)), (5, .val (.int .i64 0))]⟩ : Env)) (O' := (Loc O n [some ⟨false, 25, 3, 1, (c_S_api_Tree a0)⟩, some ⟨false, 25, 3, 1, [.val (.int .i64 0), .val (.slice none 0 0), .val (.slice none 0 0)]⟩, some ⟨true, 25, 3, 0, []⟩])) (n' := (n + 3)) ?_ ?_
      · have ha := adopt_fit (ba := n) (E := (⟨53, [], [(1, .ref n 0), (2, .ref (n + 1) 0), (3, .val (.slice none 0 0)), (4, .val (.int .i64 0)), (5, .val (.int .i64 0))]⟩ : Env)) (O := (Loc O n [some ⟨false, 25, 3, 1, [.val (.int .i64 a0.Kind), .sl a0.Words.length (fl (eI .u64) a0.Words), .sl a0.Kids.length (fl e_S_api_Tree a0.Kids)]⟩, some ⟨false, 25, 3, 1, [.val (.int .i64 0), .val (.slice none 0 0), .val (.slice none 0 0)]⟩])) (n := (n + 2)) 3 25 3 rfl (by omega)
        simp only [Loc_push, Loc_push0, Loc_upd, Loc_upd0, List.set_cons_zero, List.set_cons_succ, List.cons_append, List.nil_append, List.length_cons, List.length_nil, Nat.zero_add, Nat.reduceAdd, Nat.reduceLT, Nat.add_assoc] at ha
        exact ha
      refine Fit2.trans (E' := (⟨53, [], [(1, .ref n 0), (2, .ref (n + 1) 0), (3, .row (n + 2) ([] : List S_api_Tree).length), (4, .val (.int .i64 0)), (5, .val (.int .i64 0))]⟩ : Env)) (O' := (Loc O n [some ⟨false, 25, 3, 1, (c_S_api_Tree a0)⟩, some ⟨false, 25, 3, 1, [.val (.int .i64 0), .val (.slice none 0 0), .val (.slice none 0 0)]⟩, some ⟨true, 25, 3, ([] : List S_api_Tree).length, fl e_S_api_Tree ([] : List S_api_Tree)⟩])) (n' := (n + 3)) (Fit2.of (fit_loc hU rfl rfl ?_) (by omega)) ?_
      · simp only [push_cast, seval, ↓reduceIte, cast_lit, hN0, hN]
      refine ren_fit (k := 3) (k' := 4) hU [0, 1, 2] [0, 1, 2, 0] rfl rfl rfl rfl ⟨rfl, rfl⟩ ?_
      simp only [push_cast, seval, ↓reduceIte, cast_lit, hN0, hN]
    obtain ⟨z10, hz10, h⟩ := bC h
    refine W_blockX (E' := ⟨53, [], [(1, .ref n 0), (2, .ref (n + 1) 0), (3, .row (n + 2) z10.2.length), (4, .val (.int .i64 z10.1))]⟩) (O' := (Loc O n [some ⟨false, 25, 3, 1, (c_S_api_Tree a0)⟩, some ⟨false, 25, 3, 1, [.val (.int .i64 0), .val (.slice none 0 0), .val (.slice none 0 0)]⟩, some ⟨true, 25, 3, z10.2.length, fl e_S_api_Tree z10.2⟩, none])) (n0 := (n + 4)) ?_ ?_
    · refine W_loopJ hz10 (fun s0_ => ⟨53, [], [(1, .ref n 0), (2, .ref (n + 1) 0), (3, .row (n + 2) s0_.2.2.length), (4, .val (.int .i64 s0_.1)), (5, .val (.int .i64 s0_.2.1))]⟩) (fun s0_ => (Loc O n [some ⟨false, 25, 3, 1, (c_S_api_Tree a0)⟩, some ⟨false, 25, 3, 1, [.val (.int .i64 0), .val (.slice none 0 0), .val (.slice none 0 0)]⟩, some ⟨true, 25, 3, s0_.2.2.length, fl e_S_api_Tree s0_.2.2⟩, none])) (fun z10 => JX 0 n (⟨53, [], [(1, .ref n 0), (2, .ref (n + 1) 0), (3, .row (n + 2) z10.2.length), (4, .val (.int .i64 z10.1))]⟩ : Env) (Loc O n [some ⟨false, 25, 3, 1, (c_S_api_Tree a0)⟩, some ⟨false, 25, 3, 1, [.val (.int .i64 0), .val (.slice none 0 0), .val (.slice none 0 0)]⟩, some ⟨true, 25, 3, z10.2.length, fl e_S_api_Tree z10.2⟩, none]) (n + 4)) ?_
      intro s0_ x0_ hs0_
      unfold b_centoref07_Norm_L0 at hs0_
      try dsimp only
      refine W_seqK ?_
      refine W_sq [1, 2, 3, 4, 5, 16] (W_regionD tab_ok [] ?_)
      simp only [push_cast, seval, ↓reduceIte, cast_lit, hN0, hN]
      refine W_cond (t := (decide (s0_.2.1 < (a0.Kids.length : Int)))) rfl (fun c9 => ?_) (fun c9 => ?_)
      · replace hs0_ := condT c9 hs0_
        refine W_skip ?_
        try simp only [gthen, gblock]
        refine W_drop [1, 2, 3, 4, 5] [true, true, true, false] ?_
        simp only [push_cast, seval, ↓reduceIte]
        obtain ⟨z1, hz1, hs0_⟩ := bC hs0_
        refine W_seqN (E' := ⟨53, [], [(1, .ref n 0), (2, .ref (n + 1) 0), (3, .row (n + 2) z1.2.length), (4, .val (.int .i64 z1.1)), (5, .val (.int .i64 s0_.2.1))]⟩) (O' := (Loc O n [some ⟨false, 25, 3, 1, (c_S_api_Tree a0)⟩, some ⟨false, 25, 3, 1, [.val (.int .i64 0), .val (.slice none 0 0), .val (.slice none 0 0)]⟩, some ⟨true, 25, 3, z1.2.length, fl e_S_api_Tree z1.2⟩, none, none, none])) (n0 := (n + 6)) ?_ ?_
        · refine W_block ?_
          refine W_seqK ?_
          obtain ⟨x4, hx4, ax4, bx4, cx4, hz1⟩ := bE (f := e_S_api_Tree) tab25 (fun _ => rfl) (by decide) hz1
          obtain ⟨y5, hy5, hz1⟩ := bC hz1
          refine W_regionD tab_ok [] ?_
          simp only [push_cast, Nat.reduceAdd, Nat.reduceSub, Nat.reduceMul, Nat.reduceLeDiff, Nat.reduceLT, Nat.reduceEqDiff, ↓reduceIte, reduceCtorEq, Int.reduceBEq, Int.reduceBNe, Nat.reduceBEq, Int.reduceLE, Int.reduceLT, Int.reduceEq, Int.reduceNe, Int.reduceNeg, Nat.reduceDiv, Nat.reduceMod, Nat.reducePow, cast_lit, ax4, bx4, cx4, hN0, hN]
          refine (ok_r_centoref07_Norm hy5).then ?_
          simp only [push_cast, Nat.reduceAdd, Nat.reduceSub, Nat.reduceMul, Nat.reduceLeDiff, Nat.reduceLT, Nat.reduceEqDiff, ↓reduceIte, reduceCtorEq, Int.reduceBEq, Int.reduceBNe, Nat.reduceBEq, Int.reduceLE, Int.reduceLT, Int.reduceEq, Int.reduceNe, Int.reduceNeg, Nat.reduceDiv, Nat.reduceMod, Nat.reducePow, cast_lit, ax4, bx4, cx4, hN0, hN]
          refine W_drop [1, 2, 3, 4, 5, 6] [true, true, true, false, true] ?_
          simp only [push_cast, seval, ↓reduceIte]
          refine W_seqK ?_
          obtain ⟨l7, pl7, ql7, el7, hz1⟩ := bA (k := 1) rfl hz1
          refine W_regionD tab_ok [] ?_
          simp only [push_cast, seval, ↓reduceIte, cast_lit, pl7, ql7, el7, hN0, hN]
          refine W_fit ⟨53, [], [(1, .ref n 0), (2, .ref (n + 1) 0), (3, .row (n + 2) l7.length), (4, .val (.int .i64 s0_.1)), (5, .val (.int .i64 s0_.2.1)), (6, .ref (n + 4) 0)]⟩ (Loc O n [some ⟨false, 25, 3, 1, (c_S_api_Tree a0)⟩, some ⟨false, 25, 3, 1, [.val (.int .i64 0), .val (.slice none 0 0), .val (.slice none 0 0)]⟩, some ⟨true, 25, 3, l7.length, fl e_S_api_Tree l7⟩, none, some ⟨false, 25, 3, 1, (c_S_api_Tree y5)⟩, none]) (fit_loc hU rfl rfl ?_) ?_
          · simp only [push_cast, seval, ↓reduceIte, cast_lit, pl7, ql7, el7, hN0, hN]
          refine W_sq [1, 2, 3, 4, 5, 31] (W_regionD tab_ok [] ?_)
          simp only [push_cast, seval, ↓reduceIte, cast_lit, hN0, hN]
          refine W_cond (t := (y5.Kind != 0)) rfl (fun c8 => ?_) (fun c8 => ?_)
          · replace hz1 := condT c8 hz1
            refine W_regionD tab_ok [] ?_
            simp only [push_cast, seval, ↓reduceIte, cast_lit, hN0, hN]
            have hz1 := Option.some.inj hz1; subst hz1
            refine And.intro rfl (Fit2.of (fit_loc hU rfl rfl ?_) (by omega))
            simp only [push_cast, seval, ↓reduceIte, cast_lit, hN0, hN]
          · replace hz1 := condF c8 hz1
            refine W_skip ?_
            try simp only [gthen, gblock]
            have hz1 := Option.some.inj hz1; subst hz1
            refine And.intro rfl (Fit2.of (fit_loc hU rfl rfl ?_) (by omega))
            simp only [push_cast, seval, ↓reduceIte, cast_lit, hN0, hN]
        refine W_regionD tab_ok [] ?_
        simp only [push_cast, seval, ↓reduceIte, cast_lit, hN0, hN]
        have hs0_ := Option.some.inj hs0_; subst hs0_
        refine And.intro rfl (Fit2.of (fit_loc hU rfl rfl ?_) (by omega))
        simp only [push_cast, seval, ↓reduceIte, cast_lit, hN0, hN]
      · replace hs0_ := condF c9 hs0_
        refine W_exit ?_
        try simp only [gthen, gblock, ↓reduceIte, Nat.reduceEqDiff]
        have hs0_ := Option.some.inj hs0_; subst hs0_
        refine And.intro (fun h => by cases h) (And.intro rfl (Fit2.of (fit_loc hU rfl rfl ?_) (by omega)))
        simp only [push_cast, seval, ↓reduceIte, cast_lit, hN0, hN]
    try simp only [gthen, gblock, ↓reduceIte, Nat.reduceEqDiff]
    refine W_drop [1, 2, 3, 4] [true, true, true, false] ?_
    simp only [push_cast, seval, ↓reduceIte]
    refine W_seqK ?_
    refine W_sq [1, 2, 3, 4, 36] (W_regionD tab_ok [] ?_)
    simp only [push_cast, seval, ↓reduceIte, cast_lit, hN0, hN]
    refine W_cond (t := (a0.Kind == 1)) rfl (fun c18 => ?_) (fun c18 => ?_)
    · replace h := condT c18 h
      refine W_fit ⟨53, [], [(1, .ref n 0), (2, .ref (n + 1) 0), (3, .sl z10.2.length (fl e_S_api_Tree z10.2)), (4, .val (.int .i64 z10.1))]⟩ (Loc O n [some ⟨false, 25, 3, 1, (c_S_api_Tree a0)⟩, some ⟨false, 25, 3, 1, [.val (.int .i64 0), .val (.slice none 0 0), .val (.slice none 0 0)]⟩, none, none]) (fit_loc hU rfl rfl ?_) ?_
      · simp only [push_cast, seval, ↓reduceIte, cast_lit, hN0, hN]
      refine W_seqK ?_
      obtain ⟨y14, hy14, h⟩ := bC h
      obtain ⟨l15, al15, bl15, cl15, gl15, h⟩ := bS (lo := none) (hi := (some (.i64, z10.1))) (f := e_S_api_Tree) rfl rfl tkind23 tab25 (fun _ => rfl) h
      refine W_drawF tab_ok (by kernel_rfl) [false, false, false, false, false, false, false, true] [] (by kernel_rfl) ?_
      simp only [push_cast, seval, ↓reduceIte, cast_lit, al15, bl15, cl15, gl15, hN0, hN]
      refine PCall.of (ok_centoref07_Trim hy14) ?_
      simp only [push_cast, seval, ↓reduceIte, cast_lit, al15, bl15, cl15, gl15, hN0, hN]
      refine W_drop [2] [false, true, false, false] ?_
      simp only [push_cast, seval, ↓reduceIte]
      refine W_ret ?_
      try simp only [gthen, gblock]
      have h := Option.some.inj h; subst h
      refine fin_loc (.inr rfl) hU [.agg [.val (.int .i64 1), .sl y14.length (fl (eI .u64) y14), .sl l15.length (fl e_S_api_Tree l15)]] (by omega) ?_
      simp only [push_cast, seval, ↓reduceIte, cast_lit, Try.results31, hN0, hN]
    · replace h := condF c18 h
      refine W_skip ?_
      try simp only [gthen, gblock]
      refine W_drop [1, 2, 3] [true, true, true, false] ?_
      simp only [push_cast, seval, ↓reduceIte]
      refine W_sq [1, 2, 3, 7] (W_regionD tab_ok [] ?_)
      simp only [push_cast, seval, ↓reduceIte, cast_lit, hN0, hN]
      refine W_seqK ?_
      obtain ⟨l17, pl17, ql17, el17, h⟩ := bA0 (k := a0.Words.length) rfl h
      refine W_regionD tab_ok [] ?_
      simp only [push_cast, seval, ↓reduceIte, cast_lit, pl17, ql17, el17, hN0, hN]
      refine W_fit ⟨53, [], [(1, .ref n 0), (2, .ref (n + 1) 0), (3, .row (n + 2) z10.2.length), (7, .row (n + 4) l17.length)]⟩ (Loc O n [some ⟨false, 25, 3, 1, (c_S_api_Tree a0)⟩, some ⟨false, 25, 3, 1, [.val (.int .i64 0), .val (.slice none 0 0), .val (.slice none 0 0)]⟩, some ⟨true, 25, 3, z10.2.length, fl e_S_api_Tree z10.2⟩, none, some ⟨true, 56, 1, l17.length, fl (eI .u64) l17⟩]) (fit_loc hU rfl rfl ?_) ?_
      · simp only [push_cast, seval, ↓reduceIte, cast_lit, pl17, ql17, el17, hN0, hN]
      refine W_seqK ?_
      refine W_regionD tab_ok [] ?_
      simp only [push_cast, seval, ↓reduceIte, cast_lit, hN0, hN]
      refine W_drop [2] [false, true, true, false, true] ?_
      simp only [push_cast, seval, ↓reduceIte]
      refine W_ret ?_
      try simp only [gthen, gblock]
      have h := Option.some.inj h; subst h
      refine fin_loc (.inr rfl) hU [.agg [.val (.int .i64 a0.Kind), .row (n + 4) l17.length, .row (n + 2) z10.2.length]] (by omega) ?_
      simp only [push_cast, seval, ↓reduceIte, cast_lit, Try.results31, hN0, hN]
theorem lv_centoref07_Norm_ok : ∀ k, (∀ {a0 : S_api_Tree} {r : S_api_Tree} {O : Objs} {n : Nat}, (lv_centoref07_Norm k) a0 = some r → GTo Try.prog 31 [.agg (c_S_api_Tree a0)] O n (.agg (c_S_api_Tree r)) O n) := fun k => by
  induction k with
  | zero => exact @fun a0 r O n h => (nomatch (show (none : Option _) = some _ from h))
  | succ k ih => exact @fun a0 r O n h => okb_centoref07_Norm (ih)  h
theorem ok_centoref07_Norm {a0 : S_api_Tree} {r : S_api_Tree} {O : Objs} {n : Nat} (h : m_centoref07_Norm a0 = some r) : GTo Try.prog 31 [.agg (c_S_api_Tree a0)] O n (.agg (c_S_api_Tree r)) O n := by
  obtain ⟨k, hk⟩ := lim_some h
  exact (lv_centoref07_Norm_ok k)  hk
theorem ok_centoref22_norms {a0 : (List S_api_Tree)} {r : (List S_api_Tree)} {O : Objs} {n : Nat} (h : m_centoref22_norms a0 = some r) : GTo Try.prog 114 [.sl a0.length (fl e_S_api_Tree a0)] O n (.sl r.length (fl e_S_api_Tree r)) O n := by
  unfold m_centoref22_norms at h
  refine fn_of tab_ok Try.call114 Try.func114 rfl (Nat.le_of_ble_eq_true rfl) (Nat.le_refl _) fun hU => ?_
  have hN0 : O n = none := hU.fresh _ (Nat.le_refl _)
  have hN : ∀ k, O (n + k) = none := fun k => hU.fresh _ (Nat.le_add_right _ _)
  show W _ _ _ _ ⟨20, [], [(0, .sl a0.length (fl e_S_api_Tree a0))]⟩ (Loc O n []) _
  refine W_sq [0] (W_regionD tab_ok [] ?_)
  simp only [push_cast, seval, ↓reduceIte, cast_lit, hN0, hN]
  refine W_sq [0, 3] (W_regionD tab_ok [] ?_)
  simp only [push_cast, seval, ↓reduceIte, cast_lit, hN0, hN]
  refine W_seqK ?_
  refine W_sq [0, 3, 4] (W_regionD tab_ok [] ?_)
  simp only [push_cast, seval, ↓reduceIte, cast_lit, hN0, hN]
  refine W_drop [0, 3, 4] [] ?_
  simp only [push_cast, seval, ↓reduceIte]
  refine W_fit2 (E' := (⟨20, [], [(0, .sl a0.length (fl e_S_api_Tree a0)), (3, .row n ([] : List S_api_Tree).length), (4, .val (.int .i64 0))]⟩ : Env)) (O' := (Loc O n [some ⟨true, 25, 3, ([] : List S_api_Tree).length, fl e_S_api_Tree ([] : List S_api_Tree)⟩, none])) (n' := (n + 2)) ?_ ?_
  · refine Fit2.trans (E' := (⟨20, [], [(0, .sl a0.length (fl e_S_api_Tree a0)), (3, .val (.slice none 0 0)), (4, .val (.int .i64 0))]⟩ : Env)) (O' := (Loc O n [])) (n' := n) (Fit2.of (fit_loc hU rfl rfl ?_) (by omega)) ?_
    · simp only [push_cast, seval, ↓reduceIte, cast_lit, hN0, hN]
    refine Fit2.trans (E' := (⟨20, [], [(3, .row n 0), (0, .sl a0.length (fl e_S_api_Tree a0)), (3, .val (.slice none 0 0)), (4, .val (.int .i64 0))]⟩ : Env)) (O' := (Loc O n [some ⟨true, 25, 3, 0, []⟩])) (n' := (n + 1)) ?_ ?_
    · have ha := adopt_fit (ba := n) (E := (⟨20, [], [(0, .sl a0.length (fl e_S_api_Tree a0)), (3, .val (.slice none 0 0)), (4, .val (.int .i64 0))]⟩ : Env)) (O := (Loc O n [])) (n := n) 3 25 3 rfl (by omega)
      simp only [Loc_push, Loc_push0, Loc_upd, Loc_upd0, List.set_cons_zero, List.set_cons_succ, List.cons_append, List.nil_append, List.length_cons, List.length_nil, Nat.zero_add, Nat.reduceAdd, Nat.reduceLT, Nat.add_assoc] at ha
      exact ha
    refine Fit2.trans (E' := (⟨20, [], [(0, .sl a0.length (fl e_S_api_Tree a0)), (3, .row n ([] : List S_api_Tree).length), (4, .val (.int .i64 0))]⟩ : Env)) (O' := (Loc O n [some ⟨true, 25, 3, ([] : List S_api_Tree).length, fl e_S_api_Tree ([] : List S_api_Tree)⟩])) (n' := (n + 1)) (Fit2.of (fit_loc hU rfl rfl ?_) (by omega)) ?_
    · simp only [push_cast, seval, ↓reduceIte, cast_lit, hN0, hN]
    refine ren_fit (k := 1) (k' := 2) hU [0] [0, 0] rfl rfl rfl rfl ⟨rfl, rfl⟩ ?_
    simp only [push_cast, seval, ↓reduceIte, cast_lit, hN0, hN]
  obtain ⟨z5, hz5, h⟩ := bC h
  refine W_blockX (E' := ⟨20, [], [(3, .row n z5.length)]⟩) (O' := (Loc O n [some ⟨true, 25, 3, z5.length, fl e_S_api_Tree z5⟩, none])) (n0 := (n + 2)) ?_ ?_
  · refine W_loopJ hz5 (fun s0_ => ⟨20, [], [(0, .sl a0.length (fl e_S_api_Tree a0)), (3, .row n s0_.2.length), (4, .val (.int .i64 s0_.1))]⟩) (fun s0_ => (Loc O n [some ⟨true, 25, 3, s0_.2.length, fl e_S_api_Tree s0_.2⟩, none])) (fun z5 => JX 0 n (⟨20, [], [(3, .row n z5.length)]⟩ : Env) (Loc O n [some ⟨true, 25, 3, z5.length, fl e_S_api_Tree z5⟩, none]) (n + 2)) ?_
    intro s0_ x0_ hs0_
    unfold m_centoref22_norms_L0 at hs0_
    try dsimp only
    refine W_seqK ?_
    refine W_sq [0, 3, 4, 8] (W_regionD tab_ok [] ?_)
    simp only [push_cast, seval, ↓reduceIte, cast_lit, hN0, hN]
    refine W_cond (t := (decide (s0_.1 < (a0.length : Int)))) rfl (fun c4 => ?_) (fun c4 => ?_)
    · replace hs0_ := condT c4 hs0_
      refine W_skip ?_
      try simp only [gthen, gblock]
      refine W_drop [0, 3, 4] [true, false] ?_
      simp only [push_cast, seval, ↓reduceIte]
      refine W_seqK ?_
      refine W_block ?_
      obtain ⟨x1, hx1, ax1, bx1, cx1, hs0_⟩ := bE (f := e_S_api_Tree) tab25 (fun _ => rfl) (by decide) hs0_
      obtain ⟨y2, hy2, hs0_⟩ := bC hs0_
      obtain ⟨l3, pl3, ql3, el3, hs0_⟩ := bA (k := 1) rfl hs0_
      refine W_regionD tab_ok [] ?_
      simp only [push_cast, Nat.reduceAdd, Nat.reduceSub, Nat.reduceMul, Nat.reduceLeDiff, Nat.reduceLT, Nat.reduceEqDiff, ↓reduceIte, reduceCtorEq, Int.reduceBEq, Int.reduceBNe, Nat.reduceBEq, Int.reduceLE, Int.reduceLT, Int.reduceEq, Int.reduceNe, Int.reduceNeg, Nat.reduceDiv, Nat.reduceMod, Nat.reducePow, cast_lit, ax1, bx1, cx1, pl3, ql3, el3, hN0, hN]
      refine (ok_centoref07_Norm hy2).then ?_
      simp only [push_cast, Nat.reduceAdd, Nat.reduceSub, Nat.reduceMul, Nat.reduceLeDiff, Nat.reduceLT, Nat.reduceEqDiff, ↓reduceIte, reduceCtorEq, Int.reduceBEq, Int.reduceBNe, Nat.reduceBEq, Int.reduceLE, Int.reduceLT, Int.reduceEq, Int.reduceNe, Int.reduceNeg, Nat.reduceDiv, Nat.reduceMod, Nat.reducePow, cast_lit, ax1, bx1, cx1, pl3, ql3, el3, hN0, hN]
      refine W_fit ⟨20, [], [(0, .sl a0.length (fl e_S_api_Tree a0)), (3, .row n l3.length), (4, .val (.int .i64 s0_.1))]⟩ (Loc O n [some ⟨true, 25, 3, l3.length, fl e_S_api_Tree l3⟩, none, none]) (fit_loc hU rfl rfl ?_) ?_
      · simp only [push_cast, Nat.reduceAdd, Nat.reduceSub, Nat.reduceMul, Nat.reduceLeDiff, Nat.reduceLT, Nat.reduceEqDiff, ↓reduceIte, reduceCtorEq, Int.reduceBEq, Int.reduceBNe, Nat.reduceBEq, Int.reduceLE, Int.reduceLT, Int.reduceEq, Int.reduceNe, Int.reduceNeg, Nat.reduceDiv, Nat.reduceMod, Nat.reducePow, cast_lit, ax1, bx1, cx1, pl3, ql3, el3, hN0, hN]
      refine W_regionD tab_ok [] ?_
      simp only [push_cast, seval, ↓reduceIte, cast_lit, hN0, hN]
      have hs0_ := Option.some.inj hs0_; subst hs0_
      refine And.intro rfl (Fit2.of (fit_loc hU rfl rfl ?_) (by omega))
      simp only [push_cast, seval, ↓reduceIte, cast_lit, hN0, hN]
    · replace hs0_ := condF c4 hs0_
      refine W_exit ?_
      try simp only [gthen, gblock, ↓reduceIte, Nat.reduceEqDiff]
      have hs0_ := Option.some.inj hs0_; subst hs0_
      refine And.intro (fun h => by cases h) (And.intro rfl (Fit2.of (fit_loc hU rfl rfl ?_) (by omega)))
      simp only [push_cast, seval, ↓reduceIte, cast_lit, hN0, hN]
  try simp only [gthen, gblock, ↓reduceIte, Nat.reduceEqDiff]
  refine W_drop [3] [true, false] ?_
  simp only [push_cast, seval, ↓reduceIte]
  refine W_sq [2] (W_regionD tab_ok [] ?_)
  simp only [push_cast, seval, ↓reduceIte, cast_lit, hN0, hN]
  refine W_ret ?_
  try simp only [gthen, gblock]
  have h := Option.some.inj h; subst h
  refine fin_loc (.inr rfl) hU [.row n z5.length] (by omega) ?_
  simp only [push_cast, seval, ↓reduceIte, cast_lit, Try.results114, hN0, hN]
theorem ok_centoref22_gap {a0 : (List S_api_Op)} {a1 : Int} {a2 : Int} {r : ((List S_api_Tree) × Int)} {O : Objs} {n : Nat} (h : m_centoref22_gap a0 a1 a2 = some r) : GTo Try.prog 90 [.sl a0.length (fl e_S_api_Op a0), .val (.int .i64 a1), .val (.int .i64 a2)] O n (.tup [.sl r.1.length (fl e_S_api_Tree r.1), .val (.int .i64 r.2)]) O n := by
  unfold m_centoref22_gap at h
  refine fn_of tab_ok Try.call90 Try.func90 rfl (Nat.le_of_ble_eq_true rfl) (Nat.le_refl _) fun hU => ?_
  have hN0 : O n = none := hU.fresh _ (Nat.le_refl _)
  have hN : ∀ k, O (n + k) = none := fun k => hU.fresh _ (Nat.le_add_right _ _)
  show W _ _ _ _ ⟨50, [], [(0, .sl a0.length (fl e_S_api_Op a0)), (1, .val (.int .i64 a1)), (2, .val (.int .i64 a2))]⟩ (Loc O n []) _
  refine W_sq [0, 1, 2] (W_regionD tab_ok [] ?_)
  simp only [push_cast, seval, ↓reduceIte, cast_lit, hN0, hN]
  refine W_sq [0, 1, 2, 8] (W_regionD tab_ok [] ?_)
  simp only [push_cast, seval, ↓reduceIte, cast_lit, hN0, hN]
  refine W_sq [0, 2, 8, 9] (W_regionD tab_ok [] ?_)
  simp only [push_cast, seval, ↓reduceIte, cast_lit, hN0, hN]
  refine W_seqK ?_
  refine W_drop [0, 2, 8, 9] [] ?_
  simp only [push_cast, seval, ↓reduceIte]
  refine W_fit2 (E' := (⟨50, [], [(0, .sl a0.length (fl e_S_api_Op a0)), (2, .val (.int .i64 a2)), (8, .row n ([] : List S_api_Tree).length), (9, .val (.int .i64 a1))]⟩ : Env)) (O' := (Loc O n [some ⟨true, 25, 3, ([] : List S_api_Tree).length, fl e_S_api_Tree ([] : List S_api_Tree)⟩, none])) (n' := (n + 2)) ?_ ?_
  · refine Fit2.trans (E' := (⟨50, [], [(0, .sl a0.length (fl e_S_api_Op a0)), (2, .val (.int .i64 a2)), (8, .val (.slice none 0 0)), (9, .val (.int .i64 a1))]⟩ : Env)) (O' := (Loc O n [])) (n' := n) (Fit2.of (fit_loc hU rfl rfl ?_) (by omega)) ?_
    · simp only [push_cast, seval, ↓reduceIte, cast_lit, hN0, hN]
    refine Fit2.trans (E' := (⟨50, [], [(8, .row n 0), (0, .sl a0.length (fl e_S_api_Op a0)), (2, .val (.int .i64 a2)), (8, .val (.slice none 0 0)), (9, .val (.int .i64 a1))]⟩ : Env)) (O' := (Loc O n [some ⟨true, 25, 3, 0, []⟩])) (n' := (n + 1)) ?_ ?_
    · have ha := adopt_fit (ba := n) (E := (⟨50, [], [(0, .sl a0.length (fl e_S_api_Op a0)), (2, .val (.int .i64 a2)), (8, .val (.slice none 0 0)), (9, .val (.int .i64 a1))]⟩ : Env)) (O := (Loc O n [])) (n := n) 8 25 3 rfl (by omega)
      simp only [Loc_push, Loc_push0, Loc_upd, Loc_upd0, List.set_cons_zero, List.set_cons_succ, List.cons_append, List.nil_append, List.length_cons, List.length_nil, Nat.zero_add, Nat.reduceAdd, Nat.reduceLT, Nat.add_assoc] at ha
      exact ha
    refine Fit2.trans (E' := (⟨50, [], [(0, .sl a0.length (fl e_S_api_Op a0)), (2, .val (.int .i64 a2)), (8, .row n ([] : List S_api_Tree).length), (9, .val (.int .i64 a1))]⟩ : Env)) (O' := (Loc O n [some ⟨true, 25, 3, ([] : List S_api_Tree).length, fl e_S_api_Tree ([] : List S_api_Tree)⟩])) (n' := (n + 1)) (Fit2.of (fit_loc hU rfl rfl ?_) (by omega)) ?_
    · simp only [push_cast, seval, ↓reduceIte, cast_lit, hN0, hN]
    refine ren_fit (k := 1) (k' := 2) hU [0] [0, 0] rfl rfl rfl rfl ⟨rfl, rfl⟩ ?_
    simp only [push_cast, seval, ↓reduceIte, cast_lit, hN0, hN]
  obtain ⟨z27, hz27, h⟩ := bC h
  refine W_blockX (E' := ⟨50, [], [(8, .row n z27.2.length), (9, .val (.int .i64 z27.1))]⟩) (O' := (Loc O n [some ⟨true, 25, 3, z27.2.length, fl e_S_api_Tree z27.2⟩, none])) (n0 := (n + 2)) ?_ ?_
  · refine W_loopJ hz27 (fun s0_ => ⟨50, [], [(0, .sl a0.length (fl e_S_api_Op a0)), (2, .val (.int .i64 a2)), (8, .row n s0_.2.length), (9, .val (.int .i64 s0_.1))]⟩) (fun s0_ => (Loc O n [some ⟨true, 25, 3, s0_.2.length, fl e_S_api_Tree s0_.2⟩, none])) (fun z27 => JX 0 n (⟨50, [], [(8, .row n z27.2.length), (9, .val (.int .i64 z27.1))]⟩ : Env) (Loc O n [some ⟨true, 25, 3, z27.2.length, fl e_S_api_Tree z27.2⟩, none]) (n + 2)) ?_
    intro s0_ x0_ hs0_
    unfold m_centoref22_gap_L0 at hs0_
    try dsimp only
    refine W_seqK ?_
    obtain ⟨z5, hz5, hs0_⟩ := bC hs0_
    refine W_seqN (E' := ⟨50, [], [(0, .sl a0.length (fl e_S_api_Op a0)), (2, .val (.int .i64 a2)), (8, .row n s0_.2.length), (9, .val (.int .i64 s0_.1)), (30, .val (.bool z5))]⟩) (O' := (Loc O n [some ⟨true, 25, 3, s0_.2.length, fl e_S_api_Tree s0_.2⟩, none])) (n0 := (n + 2)) ?_ ?_
    · rcases Bool.eq_false_or_eq_true (decide (s0_.1 < (a0.length : Int))) with c14 | c14
      · replace hz5 := condT c14 hz5
        obtain ⟨x10, hx10, ax10, bx10, cx10, hz5⟩ := bE (f := e_S_api_Op) tab69 (fun _ => rfl) (by decide) hz5
        have g11 := gpart_fld0 (f := e_S_api_Op) (sz := 14) tab3 (fun _ => rfl) (by decide) (by decide) hx10
        rcases Bool.eq_false_or_eq_true (x10.Kind == 1) with c15 | c15
        · replace hz5 := condT c15 hz5
          try rw [c15] at c14
          refine W_regionD tab_ok [some true, some true, some true, some true, some true, some true, some true, some false, some false, some false, some false, some false, some false, some true] ?_
          simp only [push_cast, Nat.reduceAdd, Nat.reduceSub, Nat.reduceMul, Nat.reduceLeDiff, Nat.reduceLT, Nat.reduceEqDiff, ↓reduceIte, reduceCtorEq, Int.reduceBEq, Int.reduceBNe, Nat.reduceBEq, Int.reduceLE, Int.reduceLT, Int.reduceEq, Int.reduceNe, Int.reduceNeg, Nat.reduceDiv, Nat.reduceMod, Nat.reducePow, cast_lit, c14, ax10, bx10, cx10, g11, c15, hN0, hN]
          have hz5 := Option.some.inj hz5; subst hz5
          refine And.intro rfl (Fit2.of (fit_loc hU rfl rfl ?_) (by omega))
          simp only [push_cast, Nat.reduceAdd, Nat.reduceSub, Nat.reduceMul, Nat.reduceLeDiff, Nat.reduceLT, Nat.reduceEqDiff, ↓reduceIte, reduceCtorEq, Int.reduceBEq, Int.reduceBNe, Nat.reduceBEq, Int.reduceLE, Int.reduceLT, Int.reduceEq, Int.reduceNe, Int.reduceNeg, Nat.reduceDiv, Nat.reduceMod, Nat.reducePow, cast_lit, c14, ax10, bx10, cx10, g11, c15, hN0, hN]
        · replace hz5 := condF c15 hz5
          try rw [c15] at c14
          have g13 := gpart_fld0 (f := e_S_api_Op) (sz := 14) tab3 (fun _ => rfl) (by decide) (by decide) hx10
          refine W_regionD tab_ok [some true, some true, some true, some true, some true, some true, some true, some true, some true, some true, some true, some true, some true, some true] ?_
          simp only [push_cast, Nat.reduceAdd, Nat.reduceSub, Nat.reduceMul, Nat.reduceLeDiff, Nat.reduceLT, Nat.reduceEqDiff, ↓reduceIte, reduceCtorEq, Int.reduceBEq, Int.reduceBNe, Nat.reduceBEq, Int.reduceLE, Int.reduceLT, Int.reduceEq, Int.reduceNe, Int.reduceNeg, Nat.reduceDiv, Nat.reduceMod, Nat.reducePow, cast_lit, c14, ax10, bx10, cx10, g11, c15, g13, hN0, hN]
          have hz5 := Option.some.inj hz5; subst hz5
          refine And.intro rfl (Fit2.of (fit_loc hU rfl rfl ?_) (by omega))
          simp only [push_cast, Nat.reduceAdd, Nat.reduceSub, Nat.reduceMul, Nat.reduceLeDiff, Nat.reduceLT, Nat.reduceEqDiff, ↓reduceIte, reduceCtorEq, Int.reduceBEq, Int.reduceBNe, Nat.reduceBEq, Int.reduceLE, Int.reduceLT, Int.reduceEq, Int.reduceNe, Int.reduceNeg, Nat.reduceDiv, Nat.reduceMod, Nat.reducePow, cast_lit, c14, ax10, bx10, cx10, g11, c15, g13, hN0, hN]
      · replace hz5 := condF c14 hz5
        refine W_regionD tab_ok [some false, some false, some false, some false, some false, some false, some false, some false, some false, some false, some false, some false, some false, some false] ?_
        simp only [push_cast, seval, ↓reduceIte, cast_lit, c14, hN0, hN]
        have hz5 := Option.some.inj hz5; subst hz5
        refine And.intro rfl (Fit2.of (fit_loc hU rfl rfl ?_) (by omega))
        simp only [push_cast, seval, ↓reduceIte, cast_lit, c14, hN0, hN]
    refine W_cond (t := z5) rfl (fun c26 => ?_) (fun c26 => ?_)
    · replace hs0_ := condT c26 hs0_
      refine W_skip ?_
      try simp only [gthen, gblock]
      refine W_drop [0, 2, 8, 9] [true, false] ?_
      simp only [push_cast, seval, ↓reduceIte]
      refine W_block ?_
      obtain ⟨z16, hz16, hs0_⟩ := bC hs0_
      refine W_seqN (E' := ⟨50, [], [(0, .sl a0.length (fl e_S_api_Op a0)), (2, .val (.int .i64 a2)), (8, .row n z16.length), (9, .val (.int .i64 s0_.1))]⟩) (O' := (Loc O n [some ⟨true, 25, 3, z16.length, fl e_S_api_Tree z16⟩, none])) (n0 := (n + 2)) ?_ ?_
      · obtain ⟨x19, hx19, ax19, bx19, cx19, hz16⟩ := bE (f := e_S_api_Op) tab69 (fun _ => rfl) (by decide) hz16
        have g20 := gpart_fld0 (f := e_S_api_Op) (sz := 14) tab3 (fun _ => rfl) (by decide) (by decide) hx19
        refine W_sq [0, 2, 8, 9, 37] (W_regionD tab_ok [] ?_)
        simp only [push_cast, Nat.reduceAdd, Nat.reduceSub, Nat.reduceMul, Nat.reduceLeDiff, Nat.reduceLT, Nat.reduceEqDiff, ↓reduceIte, reduceCtorEq, Int.reduceBEq, Int.reduceBNe, Nat.reduceBEq, Int.reduceLE, Int.reduceLT, Int.reduceEq, Int.reduceNe, Int.reduceNeg, Nat.reduceDiv, Nat.reduceMod, Nat.reducePow, cast_lit, ax19, bx19, cx19, g20, hN0, hN]
        refine W_cond (t := (x19.Kind == a2)) rfl (fun c25 => ?_) (fun c25 => ?_)
        · replace hz16 := condT c25 hz16
          obtain ⟨x21, hx21, ax21, bx21, cx21, hz16⟩ := bE (f := e_S_api_Op) tab69 (fun _ => rfl) (by decide) hz16
          have g22 := gpart_fld (f := e_S_api_Op) (off := 2) (sz := 14) tab23 (fun _ => rfl) (by decide) (by decide) hx21
          obtain ⟨y23, hy23, hz16⟩ := bC hz16
          obtain ⟨l24, pl24, ql24, el24, hz16⟩ := bA (k := y23.length) rfl hz16
          refine W_regionD tab_ok [] ?_
          simp only [push_cast, Nat.reduceAdd, Nat.reduceSub, Nat.reduceMul, Nat.reduceLeDiff, Nat.reduceLT, Nat.reduceEqDiff, ↓reduceIte, reduceCtorEq, Int.reduceBEq, Int.reduceBNe, Nat.reduceBEq, Int.reduceLE, Int.reduceLT, Int.reduceEq, Int.reduceNe, Int.reduceNeg, Nat.reduceDiv, Nat.reduceMod, Nat.reducePow, cast_lit, ax21, bx21, cx21, g22, pl24, ql24, el24, hN0, hN]
          refine (ok_centoref22_norms hy23).then ?_
          simp only [push_cast, Nat.reduceAdd, Nat.reduceSub, Nat.reduceMul, Nat.reduceLeDiff, Nat.reduceLT, Nat.reduceEqDiff, ↓reduceIte, reduceCtorEq, Int.reduceBEq, Int.reduceBNe, Nat.reduceBEq, Int.reduceLE, Int.reduceLT, Int.reduceEq, Int.reduceNe, Int.reduceNeg, Nat.reduceDiv, Nat.reduceMod, Nat.reducePow, cast_lit, ax21, bx21, cx21, g22, pl24, ql24, el24, hN0, hN]
          have hz16 := Option.some.inj hz16; subst hz16
          refine And.intro rfl (Fit2.of (fit_loc hU rfl rfl ?_) (by omega))
          simp only [push_cast, Nat.reduceAdd, Nat.reduceSub, Nat.reduceMul, Nat.reduceLeDiff, Nat.reduceLT, Nat.reduceEqDiff, ↓reduceIte, reduceCtorEq, Int.reduceBEq, Int.reduceBNe, Nat.reduceBEq, Int.reduceLE, Int.reduceLT, Int.reduceEq, Int.reduceNe, Int.reduceNeg, Nat.reduceDiv, Nat.reduceMod, Nat.reducePow, cast_lit, ax21, bx21, cx21, g22, pl24, ql24, el24, hN0, hN]
        · replace hz16 := condF c25 hz16
          refine W_skip ?_
          try simp only [gthen, gblock]
          have hz16 := Option.some.inj hz16; subst hz16
          refine And.intro rfl (Fit2.of (fit_loc hU rfl rfl ?_) (by omega))
          simp only [push_cast, seval, ↓reduceIte, cast_lit, hN0, hN]
      refine W_regionD tab_ok [] ?_
      simp only [push_cast, seval, ↓reduceIte, cast_lit, hN0, hN]
      have hs0_ := Option.some.inj hs0_; subst hs0_
      refine And.intro rfl (Fit2.of (fit_loc hU rfl rfl ?_) (by omega))
      simp only [push_cast, seval, ↓reduceIte, cast_lit, hN0, hN]
    · replace hs0_ := condF c26 hs0_
      refine W_exit ?_
      try simp only [gthen, gblock, ↓reduceIte, Nat.reduceEqDiff]
      have hs0_ := Option.some.inj hs0_; subst hs0_
      refine And.intro (fun h => by cases h) (And.intro rfl (Fit2.of (fit_loc hU rfl rfl ?_) (by omega)))
      simp only [push_cast, seval, ↓reduceIte, cast_lit, hN0, hN]
  try simp only [gthen, gblock, ↓reduceIte, Nat.reduceEqDiff]
  refine W_drop [8, 9] [true, false] ?_
  simp only [push_cast, seval, ↓reduceIte]
  refine W_sq [6, 7] (W_regionD tab_ok [] ?_)
  simp only [push_cast, seval, ↓reduceIte, cast_lit, hN0, hN]
  refine W_ret ?_
  try simp only [gthen, gblock]
  have h := Option.some.inj h; subst h
  refine fin_loc (.inr rfl) hU [.row n z27.2.length, .val (.int .i64 z27.1)] (by omega) ?_
  simp only [push_cast, seval, ↓reduceIte, cast_lit, Try.results90, hN0, hN]
theorem ok_centoref22_idle {a0 : Int} {a1 : S_api_Edit} {r : Bool} {O : Objs} {n : Nat} (h : m_centoref22_idle a0 a1 = some r) : GTo Try.prog 91 [.val (.int .i64 a0), .agg (c_S_api_Edit a1)] O n (.val (.bool r)) O n := by
  unfold m_centoref22_idle at h
  refine fn_of tab_ok Try.call91 Try.func91 rfl (Nat.le_of_ble_eq_true rfl) (Nat.le_refl _) fun hU => ?_
  have hN0 : O n = none := hU.fresh _ (Nat.le_refl _)
  have hN : ∀ k, O (n + k) = none := fun k => hU.fresh _ (Nat.le_add_right _ _)
  show W _ _ _ _ ⟨29, [], [(0, .val (.int .i64 a0)), (1, .agg (c_S_api_Edit a1))]⟩ (Loc O n []) _
  refine W_sq [0, 3] (W_regionD tab_ok [] ?_)
  simp only [push_cast, seval, ↓reduceIte, cast_lit, hN0, hN]
  refine W_sq [4] (W_regionD tab_ok [none, none, none, none, none, none, none, none, none, none, none, none, none, none, none, none, none, none, none] ?_)
  simp only [push_cast, seval, ↓reduceIte, cast_lit, hN0, hN]
  repeat (with_reducible refine And.intro (by first | (intro h0; simp only [h0, and_self]; done) | (intro h0; simp only [h0, Bool.not_false, Bool.not_true, Bool.true_and, Bool.and_true, true_and, and_true, and_self, imp_self, implies_true, bne_iff_ne, ne_eq, beq_iff_eq]; done) | (intros; simp_all; done) | exact True.intro) ?_)
  refine W_ret ?_
  try simp only [gthen, gblock]
  have h := Option.some.inj h; subst h
  refine fin_loc (.inr rfl) hU [.val (.bool (cond (a1.Kind == 0) true (cond (cond (cond (a1.Kind == 2) (a0 == 9) false) ((a1.Words.length : Int) == 0) false) ((a1.Kids.length : Int) == 0) false)))] (by omega) ?_
  simp only [push_cast, seval, ↓reduceIte, cast_lit, Try.results91, hN0, hN]
theorem okb_centoref22_Edit {r_centoref22_Edit : (S_api_Edit → Option S_api_Edit)} {r_centoref22_Ops : (Int → (List S_api_Op) → Option (List S_api_Op))} (ok_r_centoref22_Edit : ∀ {a0 : S_api_Edit} {r : S_api_Edit} {O : Objs} {n : Nat}, r_centoref22_Edit a0 = some r → GTo Try.prog 19 [.agg (c_S_api_Edit a0)] O n (.agg (c_S_api_Edit r)) O n) (ok_r_centoref22_Ops : ∀ {a0 : Int} {a1 : (List S_api_Op)} {r : (List S_api_Op)} {O : Objs} {n : Nat}, r_centoref22_Ops a0 a1 = some r → GTo Try.prog 55 [.val (.int .i64 a0), .sl a1.length (fl e_S_api_Op a1)] O n (.sl r.length (fl e_S_api_Op r)) O n) {a0 : S_api_Edit} {r : S_api_Edit} {O : Objs} {n : Nat} (h : b_centoref22_Edit r_centoref22_Edit r_centoref22_Ops a0 = some r) : GTo Try.prog 19 [.agg (c_S_api_Edit a0)] O n (.agg (c_S_api_Edit r)) O n := by
  unfold b_centoref22_Edit at h
  refine fn_of tab_ok Try.call19 Try.func19 rfl (Nat.le_of_ble_eq_true rfl) (Nat.le_refl _) fun hU => ?_
  have hN0 : O n = none := hU.fresh _ (Nat.le_refl _)
  have hN : ∀ k, O (n + k) = none := fun k => hU.fresh _ (Nat.le_add_right _ _)
  show W _ _ _ _ ⟨63, [], [(0, .agg (c_S_api_Edit a0))]⟩ (Loc O n []) _
  refine W_sq [1, 2] (W_regionD tab_ok [] ?_)
  simp only [push_cast, seval, ↓reduceIte, cast_lit, hN0, hN]
  refine W_seqK ?_
  refine W_sq [1, 2, 6] (W_regionD tab_ok [] ?_)
  simp only [push_cast, seval, ↓reduceIte, cast_lit, hN0, hN]
  refine W_block ?_
  refine W_sq [1, 2, 6, 7] (W_regionD tab_ok [] ?_)
  simp only [push_cast, seval, ↓reduceIte, cast_lit, hN0, hN]
  refine W_cond (t := (a0.Kind == 1)) rfl (fun c19 => ?_) (fun c19 => ?_)
  · replace h := condT c19 h
    refine W_seqK ?_
    obtain ⟨y3, hy3, h⟩ := bC h
    obtain ⟨y4, hy4, h⟩ := bC h
    refine W_drawF tab_ok (by kernel_rfl) [false, false, false, false, false, false, false, true] [] (by kernel_rfl) ?_
    simp only [push_cast, seval, ↓reduceIte, cast_lit, hN0, hN]
    refine PCall.of (ok_centoref07_Norm hy3) ?_
    simp only [push_cast, seval, ↓reduceIte, cast_lit, hN0, hN]
    refine PCall.of (ok_centoref07_Norm hy4) ?_
    simp only [push_cast, seval, ↓reduceIte, cast_lit, hN0, hN]
    refine W_drop [2] [false, true] ?_
    simp only [push_cast, seval, ↓reduceIte]
    refine W_ret ?_
    try simp only [gthen, gblock]
    have h := Option.some.inj h; subst h
    refine fin_loc (.inr rfl) hU [.agg [.val (.int .i64 1), .val (.int .i64 y3.Kind), .sl y3.Words.length (fl (eI .u64) y3.Words), .sl y3.Kids.length (fl e_S_api_Tree y3.Kids), .val (.int .i64 y4.Kind), .sl y4.Words.length (fl (eI .u64) y4.Words), .sl y4.Kids.length (fl e_S_api_Tree y4.Kids), .val (.slice none 0 0), .val (.slice none 0 0), .val (.int .i64 0), .val (.slice none 0 0)]] (by omega) ?_
    simp only [push_cast, seval, ↓reduceIte, cast_lit, Try.results19, hN0, hN]
  · replace h := condF c19 h
    refine W_sq [1, 2, 6, 16] (W_regionD tab_ok [] ?_)
    simp only [push_cast, seval, ↓reduceIte, cast_lit, hN0, hN]
    refine W_cond (t := (a0.Kind == 2)) rfl (fun c18 => ?_) (fun c18 => ?_)
    · replace h := condT c18 h
      refine W_seqK ?_
      refine W_regionD tab_ok [] ?_
      simp only [push_cast, seval, ↓reduceIte, cast_lit, hN0, hN]
      refine W_drop [1, 2, 3] [true, true, true] ?_
      simp only [push_cast, seval, ↓reduceIte]
      refine W_seqK ?_
      obtain ⟨l6, pl6, ql6, el6, h⟩ := bA0 (k := a0.Words.length) rfl h
      refine W_regionD tab_ok [] ?_
      simp only [push_cast, seval, ↓reduceIte, cast_lit, pl6, ql6, el6, hN0, hN]
      refine W_fit ⟨63, [], [(1, .ref n 0), (2, .ref (n + 1) 0), (3, .ref (n + 2) 0)]⟩ (Loc O n [some ⟨false, 30, 11, 1, (c_S_api_Edit a0)⟩, some ⟨false, 30, 11, 1, [.val (.int .i64 0), .val (.int .i64 0), .val (.slice none 0 0), .val (.slice none 0 0), .val (.int .i64 0), .val (.slice none 0 0), .val (.slice none 0 0), .val (.slice none 0 0), .val (.slice none 0 0), .val (.int .i64 0), .val (.slice none 0 0)]⟩, some ⟨false, 30, 11, 1, [.val (.int .i64 2), .val (.int .i64 0), .val (.slice none 0 0), .val (.slice none 0 0), .val (.int .i64 0), .val (.slice none 0 0), .val (.slice none 0 0), .row (n + 3) l6.length, .val (.slice none 0 0), .val (.int .i64 0), .val (.slice none 0 0)]⟩, some ⟨true, 58, 4, l6.length, fl e_S_api_WordEdit l6⟩]) (fit_loc hU rfl rfl ?_) ?_
      · simp only [push_cast, seval, ↓reduceIte, cast_lit, pl6, ql6, el6, hN0, hN]
      refine W_seqK ?_
      refine W_sq [1, 2, 3, 4] (W_regionD tab_ok [] ?_)
      simp only [push_cast, seval, ↓reduceIte, cast_lit, hN0, hN]
      refine W_drop [1, 2, 3, 4] [true, true, true, true] ?_
      simp only [push_cast, seval, ↓reduceIte]
      refine W_fit2 (E' := (⟨63, [], [(1, .ref n 0), (2, .ref (n + 1) 0), (3, .ref (n + 2) 0), (4, .val (.int .i64 0))]⟩ : Env)) (O' := (Loc O n [some ⟨false, 30, 11, 1, (c_S_api_Edit a0)⟩, some ⟨false, 30, 11, 1, [.val (.int .i64 0), .val (.int .i64 0), .val (.slice none 0 0), .val (.slice none 0 0), .val (.int .i64 0), .val (.slice none 0 0), .val (.slice none 0 0), .val (.slice none 0 0), .val (.slice none 0 0), .val (.int .i64 0), .val (.slice none 0 0)]⟩, some ⟨false, 30, 11, 1, [.val (.int .i64 2), .val (.int .i64 0), .val (.slice none 0 0), .val (.slice none 0 0), .val (.int .i64 0), .val (.slice none 0 0), .val (.slice none 0 0), .row (n + 3) l6.length, .row (n + 4) ([] : List S_api_KidEdit).length, .val (.int .i64 0), .val (.slice none 0 0)]⟩, some ⟨true, 58, 4, l6.length, fl e_S_api_WordEdit l6⟩, some ⟨true, 71, 12, ([] : List S_api_KidEdit).length, fl e_S_api_KidEdit ([] : List S_api_KidEdit)⟩, none])) (n' := (n + 6)) ?_ ?_
      · refine Fit2.trans (E' := (⟨63, [], [(1, .ref n 0), (2, .ref (n + 1) 0), (3, .ref (n + 2) 0), (4, .val (.int .i64 0))]⟩ : Env)) (O' := (Loc O n [some ⟨false, 30, 11, 1, (c_S_api_Edit a0)⟩, some ⟨false, 30, 11, 1, [.val (.int .i64 0), .val (.int .i64 0), .val (.slice none 0 0), .val (.slice none 0 0), .val (.int .i64 0), .val (.slice none 0 0), .val (.slice none 0 0), .val (.slice none 0 0), .val (.slice none 0 0), .val (.int .i64 0), .val (.slice none 0 0)]⟩, some ⟨false, 30, 11, 1, [.val (.int .i64 2), .val (.int .i64 0), .val (.slice none 0 0), .val (.slice none 0 0), .val (.int .i64 0), .val (.slice none 0 0), .val (.slice none 0 0), .row (n + 3) l6.length, .val (.slice none 0 0), .val (.int .i64 0), .val (.slice none 0 0)]⟩, some ⟨true, 58, 4, l6.length, fl e_S_api_WordEdit l6⟩])) (n' := (n + 4)) (Fit2.of (fit_loc hU rfl rfl ?_) (by omega)) ?_
        · simp only [push_cast, seval, ↓reduceIte, cast_lit, hN0, hN]
        refine Fit2.trans (E' := (⟨63, [], [(1, .ref n 0), (2, .ref (n + 1) 0), (3, .ref (n + 2) 0), (4, .val (.int .i64 0))]⟩ : Env)) (O' := (Loc O n [some ⟨false, 30, 11, 1, (c_S_api_Edit a0)⟩, some ⟨false, 30, 11, 1, [.val (.int .i64 0), .val (.int .i64 0), .val (.slice none 0 0), .val (.slice none 0 0), .val (.int .i64 0), .val (.slice none 0 0), .val (.slice none 0 0), .val (.slice none 0 0), .val (.slice none 0 0), .val (.int .i64 0), .val (.slice none 0 0)]⟩, some ⟨false, 30, 11, 1, [.val (.int .i64 2), .val (.int .i64 0), .val (.slice none 0 0), .val (.slice none 0 0), .val (.int .i64 0), .val (.slice none 0 0), .val (.slice none 0 0), .row (n + 3) l6.length, .row (n + 4) 0, .val (.int .i64 0), .val (.slice none 0 0)]⟩, some ⟨true, 58, 4, l6.length, fl e_S_api_WordEdit l6⟩, some ⟨true, 71, 12, 0, []⟩])) (n' := (n + 5)) ?_ ?_
        · have ha := adoptF_fit (ba := n) (E := (⟨63, [], [(1, .ref n 0), (2, .ref (n + 1) 0), (3, .ref (n + 2) 0), (4, .val (.int .i64 0))]⟩ : Env)) (O := (Loc O n [some ⟨false, 30, 11, 1, [.val (.int .i64 a0.Kind), .val (.int .i64 a0.Old.Kind), .sl a0.Old.Words.length (fl (eI .u64) a0.Old.Words), .sl a0.Old.Kids.length (fl e_S_api_Tree a0.Old.Kids), .val (.int .i64 a0.New.Kind), .sl a0.New.Words.length (fl (eI .u64) a0.New.Words), .sl a0.New.Kids.length (fl e_S_api_Tree a0.New.Kids), .sl a0.Words.length (fl e_S_api_WordEdit a0.Words), .sl a0.Kids.length (fl e_S_api_KidEdit a0.Kids), .val (.int .i64 a0.List_), .sl a0.Ops.length (fl e_S_api_Op a0.Ops)]⟩, some ⟨false, 30, 11, 1, [.val (.int .i64 0), .val (.int .i64 0), .val (.slice none 0 0), .val (.slice none 0 0), .val (.int .i64 0), .val (.slice none 0 0), .val (.slice none 0 0), .val (.slice none 0 0), .val (.slice none 0 0), .val (.int .i64 0), .val (.slice none 0 0)]⟩, some ⟨false, 30, 11, 1, [.val (.int .i64 2), .val (.int .i64 0), .val (.slice none 0 0), .val (.slice none 0 0), .val (.int .i64 0), .val (.slice none 0 0), .val (.slice none 0 0), .row (n + 3) l6.length, .val (.slice none 0 0), .val (.int .i64 0), .val (.slice none 0 0)]⟩, some ⟨true, 58, 4, l6.length, fl e_S_api_WordEdit l6⟩])) (n := (n + 4)) (p := (n + 2)) (k := 8) (q := ⟨false, 30, 11, 1, [.val (.int .i64 2), .val (.int .i64 0), .val (.slice none 0 0), .val (.slice none 0 0), .val (.int .i64 0), .val (.slice none 0 0), .val (.slice none 0 0), .row (n + 3) l6.length, .val (.slice none 0 0), .val (.int .i64 0), .val (.slice none 0 0)]⟩) 71 12 (by simp only [Loc_at, Loc_at0, List.getElem?_cons_zero, List.getElem?_cons_succ, Option.join_some, upd_same]) rfl (by omega)
          simp only [Loc_push, Loc_push0, Loc_upd, Loc_upd0, List.set_cons_zero, List.set_cons_succ, List.cons_append, List.nil_append, List.length_cons, List.length_nil, Nat.zero_add, Nat.reduceAdd, Nat.reduceLT, Nat.add_assoc] at ha
          exact ha
        refine Fit2.trans (E' := (⟨63, [], [(1, .ref n 0), (2, .ref (n + 1) 0), (3, .ref (n + 2) 0), (4, .val (.int .i64 0))]⟩ : Env)) (O' := (Loc O n [some ⟨false, 30, 11, 1, (c_S_api_Edit a0)⟩, some ⟨false, 30, 11, 1, [.val (.int .i64 0), .val (.int .i64 0), .val (.slice none 0 0), .val (.slice none 0 0), .val (.int .i64 0), .val (.slice none 0 0), .val (.slice none 0 0), .val (.slice none 0 0), .val (.slice none 0 0), .val (.int .i64 0), .val (.slice none 0 0)]⟩, some ⟨false, 30, 11, 1, [.val (.int .i64 2), .val (.int .i64 0), .val (.slice none 0 0), .val (.slice none 0 0), .val (.int .i64 0), .val (.slice none 0 0), .val (.slice none 0 0), .row (n + 3) l6.length, .row (n + 4) ([] : List S_api_KidEdit).length, .val (.int .i64 0), .val (.slice none 0 0)]⟩, some ⟨true, 58, 4, l6.length, fl e_S_api_WordEdit l6⟩, some ⟨true, 71, 12, ([] : List S_api_KidEdit).length, fl e_S_api_KidEdit ([] : List S_api_KidEdit)⟩])) (n' := (n + 5)) (Fit2.of (fit_loc hU rfl rfl ?_) (by omega)) ?_
        · simp only [push_cast, seval, ↓reduceIte, cast_lit, hN0, hN]
        refine ren_fit (k := 5) (k' := 6) hU [0, 1, 2, 3, 4] [0, 1, 2, 3, 4, 0] rfl rfl rfl rfl ⟨rfl, rfl⟩ ?_
        simp only [push_cast, seval, ↓reduceIte, cast_lit, hN0, hN]
      obtain ⟨z14, hz14, h⟩ := bC h
      refine W_blockX (E' := ⟨63, [], [(2, .ref (n + 1) 0), (3, .ref (n + 2) 0)]⟩) (O' := (Loc O n [none, some ⟨false, 30, 11, 1, [.val (.int .i64 0), .val (.int .i64 0), .val (.slice none 0 0), .val (.slice none 0 0), .val (.int .i64 0), .val (.slice none 0 0), .val (.slice none 0 0), .val (.slice none 0 0), .val (.slice none 0 0), .val (.int .i64 0), .val (.slice none 0 0)]⟩, some ⟨false, 30, 11, 1, [.val (.int .i64 2), .val (.int .i64 0), .val (.slice none 0 0), .val (.slice none 0 0), .val (.int .i64 0), .val (.slice none 0 0), .val (.slice none 0 0), .row (n + 3) l6.length, .row (n + 4) z14.length, .val (.int .i64 0), .val (.slice none 0 0)]⟩, some ⟨true, 58, 4, l6.length, fl e_S_api_WordEdit l6⟩, some ⟨true, 71, 12, z14.length, fl e_S_api_KidEdit z14⟩, none])) (n0 := (n + 6)) ?_ ?_
      · refine W_loopJ hz14 (fun s0_ => ⟨63, [], [(1, .ref n 0), (2, .ref (n + 1) 0), (3, .ref (n + 2) 0), (4, .val (.int .i64 s0_.1))]⟩) (fun s0_ => (Loc O n [some ⟨false, 30, 11, 1, (c_S_api_Edit a0)⟩, some ⟨false, 30, 11, 1, [.val (.int .i64 0), .val (.int .i64 0), .val (.slice none 0 0), .val (.slice none 0 0), .val (.int .i64 0), .val (.slice none 0 0), .val (.slice none 0 0), .val (.slice none 0 0), .val (.slice none 0 0), .val (.int .i64 0), .val (.slice none 0 0)]⟩, some ⟨false, 30, 11, 1, [.val (.int .i64 2), .val (.int .i64 0), .val (.slice none 0 0), .val (.slice none 0 0), .val (.int .i64 0), .val (.slice none 0 0), .val (.slice none 0 0), .row (n + 3) l6.length, .row (n + 4) s0_.2.length, .val (.int .i64 0), .val (.slice none 0 0)]⟩, some ⟨true, 58, 4, l6.length, fl e_S_api_WordEdit l6⟩, some ⟨true, 71, 12, s0_.2.length, fl e_S_api_KidEdit s0_.2⟩, none])) (fun z14 => JX 1 n (⟨63, [], [(2, .ref (n + 1) 0), (3, .ref (n + 2) 0)]⟩ : Env) (Loc O n [none, some ⟨false, 30, 11, 1, [.val (.int .i64 0), .val (.int .i64 0), .val (.slice none 0 0), .val (.slice none 0 0), .val (.int .i64 0), .val (.slice none 0 0), .val (.slice none 0 0), .val (.slice none 0 0), .val (.slice none 0 0), .val (.int .i64 0), .val (.slice none 0 0)]⟩, some ⟨false, 30, 11, 1, [.val (.int .i64 2), .val (.int .i64 0), .val (.slice none 0 0), .val (.slice none 0 0), .val (.int .i64 0), .val (.slice none 0 0), .val (.slice none 0 0), .row (n + 3) l6.length, .row (n + 4) z14.length, .val (.int .i64 0), .val (.slice none 0 0)]⟩, some ⟨true, 58, 4, l6.length, fl e_S_api_WordEdit l6⟩, some ⟨true, 71, 12, z14.length, fl e_S_api_KidEdit z14⟩, none]) (n + 6)) ?_
        intro s0_ x0_ hs0_
        unfold b_centoref22_Edit_L0 at hs0_
        try dsimp only
        refine W_seqK ?_
        refine W_sq [1, 2, 3, 4, 29] (W_regionD tab_ok [] ?_)
        simp only [push_cast, seval, ↓reduceIte, cast_lit, hN0, hN]
        refine W_cond (t := (decide (s0_.1 < (a0.Kids.length : Int)))) rfl (fun c13 => ?_) (fun c13 => ?_)
        · replace hs0_ := condT c13 hs0_
          refine W_skip ?_
          try simp only [gthen, gblock]
          refine W_drop [1, 2, 3, 4] [true, true, true, true, true, false] ?_
          simp only [push_cast, seval, ↓reduceIte]
          refine W_seqK ?_
          refine W_block ?_
          obtain ⟨x7, hx7, ax7, bx7, cx7, hs0_⟩ := bE (f := e_S_api_KidEdit) tab71 (fun _ => rfl) (by decide) hs0_
          have g8 := gpart_fld0 (f := e_S_api_KidEdit) (sz := 12) tab3 (fun _ => rfl) (by decide) (by decide) hx7
          have g10 := gpart_fld (f := e_S_api_KidEdit) (off := 1) (sz := 12) tab30 (fun _ => rfl) (by decide) (by decide) hx7
          obtain ⟨y11, hy11, hs0_⟩ := bC hs0_
          obtain ⟨l12, pl12, ql12, el12, hs0_⟩ := bA (k := 1) rfl hs0_
          refine W_drawY tab_ok (by kernel_rfl) [.low, .low, .plain, .plain, .plain, .plain, .plain, .plain, .plain, .plain, .plain, .plain, .plain, .plain, .plain, .plain, .pass, .bar, .plain, .bar] (fun i => i < (n + 6)) [0, 1, 2, 3, 4, 5, 6, 7, 8, 9, 10, 11, 12, 13, 14, 15, 16, 17, 18, 19] [.low, .low, .plain, .plain, .plain, .plain, .plain, .plain, .plain, .plain, .plain, .plain, .plain, .plain, .plain, .plain, .pass, .bar, .plain, .bar] [] (by kernel_rfl) rfl ?_
          simp only [push_cast, Nat.reduceAdd, Nat.reduceSub, Nat.reduceMul, Nat.reduceLeDiff, Nat.reduceLT, Nat.reduceEqDiff, ↓reduceIte, reduceCtorEq, Int.reduceBEq, Int.reduceBNe, Nat.reduceBEq, Int.reduceLE, Int.reduceLT, Int.reduceEq, Int.reduceNe, Int.reduceNeg, Nat.reduceDiv, Nat.reduceMod, Nat.reducePow, cast_lit, ax7, bx7, cx7, g8, g10, pl12, ql12, el12, hN0, hN]
          repeat (with_reducible refine And.intro (by first | omega | exact agree_loc rfl | exact agree_loc0 | exact agree_ne rfl rfl) ?_)
          first | refine PCallA.of (fun _ _ => ok_r_centoref22_Edit hy11) ?_ | refine PCall.of (ok_r_centoref22_Edit hy11) ?_
          simp only [push_cast, Nat.reduceAdd, Nat.reduceSub, Nat.reduceMul, Nat.reduceLeDiff, Nat.reduceLT, Nat.reduceEqDiff, ↓reduceIte, reduceCtorEq, Int.reduceBEq, Int.reduceBNe, Nat.reduceBEq, Int.reduceLE, Int.reduceLT, Int.reduceEq, Int.reduceNe, Int.reduceNeg, Nat.reduceDiv, Nat.reduceMod, Nat.reducePow, cast_lit, ax7, bx7, cx7, g8, g10, pl12, ql12, el12, hN0, hN]
          repeat (with_reducible refine And.intro (by first | omega | exact agree_loc rfl | exact agree_loc0 | exact agree_ne rfl rfl) ?_)
          refine W_fit ⟨63, [], [(1, .ref n 0), (2, .ref (n + 1) 0), (3, .ref (n + 2) 0), (4, .val (.int .i64 s0_.1))]⟩ (Loc O n [some ⟨false, 30, 11, 1, (c_S_api_Edit a0)⟩, some ⟨false, 30, 11, 1, [.val (.int .i64 0), .val (.int .i64 0), .val (.slice none 0 0), .val (.slice none 0 0), .val (.int .i64 0), .val (.slice none 0 0), .val (.slice none 0 0), .val (.slice none 0 0), .val (.slice none 0 0), .val (.int .i64 0), .val (.slice none 0 0)]⟩, some ⟨false, 30, 11, 1, [.val (.int .i64 2), .val (.int .i64 0), .val (.slice none 0 0), .val (.slice none 0 0), .val (.int .i64 0), .val (.slice none 0 0), .val (.slice none 0 0), .row (n + 3) l6.length, .row (n + 4) l12.length, .val (.int .i64 0), .val (.slice none 0 0)]⟩, some ⟨true, 58, 4, l6.length, fl e_S_api_WordEdit l6⟩, some ⟨true, 71, 12, l12.length, fl e_S_api_KidEdit l12⟩, none, none]) (fit_loc hU rfl rfl ?_) ?_
          · simp only [push_cast, Nat.reduceAdd, Nat.reduceSub, Nat.reduceMul, Nat.reduceLeDiff, Nat.reduceLT, Nat.reduceEqDiff, ↓reduceIte, reduceCtorEq, Int.reduceBEq, Int.reduceBNe, Nat.reduceBEq, Int.reduceLE, Int.reduceLT, Int.reduceEq, Int.reduceNe, Int.reduceNeg, Nat.reduceDiv, Nat.reduceMod, Nat.reducePow, cast_lit, ax7, bx7, cx7, g8, g10, pl12, ql12, el12, hN0, hN]
          refine W_regionD tab_ok [] ?_
          simp only [push_cast, seval, ↓reduceIte, cast_lit, hN0, hN]
          have hs0_ := Option.some.inj hs0_; subst hs0_
          refine And.intro rfl (Fit2.of (fit_loc hU rfl rfl ?_) (by omega))
          simp only [push_cast, seval, ↓reduceIte, cast_lit, hN0, hN]
        · replace hs0_ := condF c13 hs0_
          refine W_exit ?_
          try simp only [gthen, gblock, ↓reduceIte, Nat.reduceEqDiff]
          have hs0_ := Option.some.inj hs0_; subst hs0_
          refine And.intro (fun h => by cases h) (And.intro rfl (Fit2.of (fit_loc hU rfl rfl ?_) (by omega)))
          simp only [push_cast, seval, ↓reduceIte, cast_lit, hN0, hN]
      try simp only [gthen, gblock, ↓reduceIte, Nat.reduceEqDiff]
      refine W_drop [2, 3] [false, true, true, true, true, false] ?_
      simp only [push_cast, seval, ↓reduceIte]
      refine W_seqK ?_
      refine W_regionD tab_ok [] ?_
      simp only [push_cast, seval, ↓reduceIte, cast_lit, hN0, hN]
      refine W_drop [2] [false, true, false, true, true, false] ?_
      simp only [push_cast, seval, ↓reduceIte]
      refine W_ret ?_
      try simp only [gthen, gblock]
      have h := Option.some.inj h; subst h
      refine fin_loc (.inr rfl) hU [.agg [.val (.int .i64 2), .val (.int .i64 0), .val (.slice none 0 0), .val (.slice none 0 0), .val (.int .i64 0), .val (.slice none 0 0), .val (.slice none 0 0), .row (n + 3) l6.length, .row (n + 4) z14.length, .val (.int .i64 0), .val (.slice none 0 0)]] (by omega) ?_
      simp only [push_cast, seval, ↓reduceIte, cast_lit, Try.results19, hN0, hN]
    · replace h := condF c18 h
      refine W_sq [1, 2, 52] (W_regionD tab_ok [] ?_)
      simp only [push_cast, seval, ↓reduceIte, cast_lit, hN0, hN]
      refine W_cond (t := (a0.Kind == 3)) rfl (fun c17 => ?_) (fun c17 => ?_)
      · replace h := condT c17 h
        refine W_seqK ?_
        obtain ⟨y16, hy16, h⟩ := bC h
        refine W_drawF tab_ok (by kernel_rfl) [false, false, false, false, false, false, false, false, true] [] (by kernel_rfl) ?_
        simp only [push_cast, seval, ↓reduceIte, cast_lit, hN0, hN]
        refine PCall.of (ok_r_centoref22_Ops hy16) ?_
        simp only [push_cast, seval, ↓reduceIte, cast_lit, hN0, hN]
        refine W_drop [2] [false, true] ?_
        simp only [push_cast, seval, ↓reduceIte]
        refine W_ret ?_
        try simp only [gthen, gblock]
        have h := Option.some.inj h; subst h
        refine fin_loc (.inr rfl) hU [.agg [.val (.int .i64 3), .val (.int .i64 0), .val (.slice none 0 0), .val (.slice none 0 0), .val (.int .i64 0), .val (.slice none 0 0), .val (.slice none 0 0), .val (.slice none 0 0), .val (.slice none 0 0), .val (.int .i64 a0.List_), .sl y16.length (fl e_S_api_Op y16)]] (by omega) ?_
        simp only [push_cast, seval, ↓reduceIte, cast_lit, Try.results19, hN0, hN]
      · replace h := condF c17 h
        refine W_skip ?_
        try simp only [gthen, gblock]
        refine W_drop [2] [false, true] ?_
        simp only [push_cast, seval, ↓reduceIte]
        refine W_seqK ?_
        refine W_regionD tab_ok [] ?_
        simp only [push_cast, seval, ↓reduceIte, cast_lit, hN0, hN]
        refine W_drop [2] [false, true] ?_
        simp only [push_cast, seval, ↓reduceIte]
        refine W_ret ?_
        try simp only [gthen, gblock]
        have h := Option.some.inj h; subst h
        refine fin_loc (.inr rfl) hU [.agg [.val (.int .i64 0), .val (.int .i64 0), .val (.slice none 0 0), .val (.slice none 0 0), .val (.int .i64 0), .val (.slice none 0 0), .val (.slice none 0 0), .val (.slice none 0 0), .val (.slice none 0 0), .val (.int .i64 0), .val (.slice none 0 0)]] (by omega) ?_
        simp only [push_cast, seval, ↓reduceIte, cast_lit, Try.results19, hN0, hN]
theorem okb_centoref22_Ops {r_centoref22_Edit : (S_api_Edit → Option S_api_Edit)} {r_centoref22_Ops : (Int → (List S_api_Op) → Option (List S_api_Op))} (ok_r_centoref22_Edit : ∀ {a0 : S_api_Edit} {r : S_api_Edit} {O : Objs} {n : Nat}, r_centoref22_Edit a0 = some r → GTo Try.prog 19 [.agg (c_S_api_Edit a0)] O n (.agg (c_S_api_Edit r)) O n) (ok_r_centoref22_Ops : ∀ {a0 : Int} {a1 : (List S_api_Op)} {r : (List S_api_Op)} {O : Objs} {n : Nat}, r_centoref22_Ops a0 a1 = some r → GTo Try.prog 55 [.val (.int .i64 a0), .sl a1.length (fl e_S_api_Op a1)] O n (.sl r.length (fl e_S_api_Op r)) O n) {a0 : Int} {a1 : (List S_api_Op)} {r : (List S_api_Op)} {O : Objs} {n : Nat} (h : b_centoref22_Ops r_centoref22_Edit r_centoref22_Ops a0 a1 = some r) : GTo Try.prog 55 [.val (.int .i64 a0), .sl a1.length (fl e_S_api_Op a1)] O n (.sl r.length (fl e_S_api_Op r)) O n := by
  unfold b_centoref22_Ops at h
  refine fn_of tab_ok Try.call55 Try.func55 rfl (Nat.le_of_ble_eq_true rfl) (Nat.le_refl _) fun hU => ?_
  have hN0 : O n = none := hU.fresh _ (Nat.le_refl _)
  have hN : ∀ k, O (n + k) = none := fun k => hU.fresh _ (Nat.le_add_right _ _)
  show W _ _ _ _ ⟨114, [], [(0, .val (.int .i64 a0)), (1, .sl a1.length (fl e_S_api_Op a1))]⟩ (Loc O n []) _
  refine W_sq [0, 1] (W_regionD tab_ok [] ?_)
  simp only [push_cast, seval, ↓reduceIte, cast_lit, hN0, hN]
  refine W_sq [0, 1, 5] (W_regionD tab_ok [] ?_)
  simp only [push_cast, seval, ↓reduceIte, cast_lit, hN0, hN]
  refine W_seqK ?_
  refine W_sq [0, 1, 5, 6] (W_regionD tab_ok [] ?_)
  simp only [push_cast, seval, ↓reduceIte, cast_lit, hN0, hN]
  refine W_drop [0, 1, 5, 6] [] ?_
  simp only [push_cast, seval, ↓reduceIte]
  refine W_fit2 (E' := (⟨114, [], [(0, .val (.int .i64 a0)), (1, .sl a1.length (fl e_S_api_Op a1)), (5, .row n ([] : List S_api_Op).length), (6, .val (.int .i64 0))]⟩ : Env)) (O' := (Loc O n [some ⟨true, 69, 14, ([] : List S_api_Op).length, fl e_S_api_Op ([] : List S_api_Op)⟩, none])) (n' := (n + 2)) ?_ ?_
  · refine Fit2.trans (E' := (⟨114, [], [(0, .val (.int .i64 a0)), (1, .sl a1.length (fl e_S_api_Op a1)), (5, .val (.slice none 0 0)), (6, .val (.int .i64 0))]⟩ : Env)) (O' := (Loc O n [])) (n' := n) (Fit2.of (fit_loc hU rfl rfl ?_) (by omega)) ?_
    · simp only [push_cast, seval, ↓reduceIte, cast_lit, hN0, hN]
    refine Fit2.trans (E' := (⟨114, [], [(5, .row n 0), (0, .val (.int .i64 a0)), (1, .sl a1.length (fl e_S_api_Op a1)), (5, .val (.slice none 0 0)), (6, .val (.int .i64 0))]⟩ : Env)) (O' := (Loc O n [some ⟨true, 69, 14, 0, []⟩])) (n' := (n + 1)) ?_ ?_
    · have ha := adopt_fit (ba := n) (E := (⟨114, [], [(0, .val (.int .i64 a0)), (1, .sl a1.length (fl e_S_api_Op a1)), (5, .val (.slice none 0 0)), (6, .val (.int .i64 0))]⟩ : Env)) (O := (Loc O n [])) (n := n) 5 69 14 rfl (by omega)
      simp only [Loc_push, Loc_push0, Loc_upd, Loc_upd0, List.set_cons_zero, List.set_cons_succ, List.cons_append, List.nil_append, List.length_cons, List.length_nil, Nat.zero_add, Nat.reduceAdd, Nat.reduceLT, Nat.add_assoc] at ha
      exact ha
    refine Fit2.trans (E' := (⟨114, [], [(0, .val (.int .i64 a0)), (1, .sl a1.length (fl e_S_api_Op a1)), (5, .row n ([] : List S_api_Op).length), (6, .val (.int .i64 0))]⟩ : Env)) (O' := (Loc O n [some ⟨true, 69, 14, ([] : List S_api_Op).length, fl e_S_api_Op ([] : List S_api_Op)⟩])) (n' := (n + 1)) (Fit2.of (fit_loc hU rfl rfl ?_) (by omega)) ?_
    · simp only [push_cast, seval, ↓reduceIte, cast_lit, hN0, hN]
    refine ren_fit (k := 1) (k' := 2) hU [0] [0, 0] rfl rfl rfl rfl ⟨rfl, rfl⟩ ?_
    simp only [push_cast, seval, ↓reduceIte, cast_lit, hN0, hN]
  obtain ⟨z48, hz48, h⟩ := bC h
  refine W_sumB (J := (SumJ (fun z48 => JR n (⟨114, [], [(4, .sl z48.length (fl e_S_api_Op z48))]⟩ : Env) (Loc O n []) n) (fun z48 => JX 0 n (⟨114, [], [(5, .row n z48.length)]⟩ : Env) (Loc O n [some ⟨true, 69, 14, z48.length, fl e_S_api_Op z48⟩, none]) (n + 2)))) (z := z48) ?_ fun hw => ?_
  · refine W_loopJ hz48 (fun s0_ => ⟨114, [], [(0, .val (.int .i64 a0)), (1, .sl a1.length (fl e_S_api_Op a1)), (5, .row n s0_.2.length), (6, .val (.int .i64 s0_.1))]⟩) (fun s0_ => (Loc O n [some ⟨true, 69, 14, s0_.2.length, fl e_S_api_Op s0_.2⟩, none])) (SumJ (fun z48 => JR n (⟨114, [], [(4, .sl z48.length (fl e_S_api_Op z48))]⟩ : Env) (Loc O n []) n) (fun z48 => JX 0 n (⟨114, [], [(5, .row n z48.length)]⟩ : Env) (Loc O n [some ⟨true, 69, 14, z48.length, fl e_S_api_Op z48⟩, none]) (n + 2))) ?_
    intro s0_ x0_ hs0_
    unfold b_centoref22_Ops_L0 at hs0_
    try dsimp only
    refine W_seqK ?_
    refine W_sq [0, 1, 5, 6, 16] (W_regionD tab_ok [] ?_)
    simp only [push_cast, seval, ↓reduceIte, cast_lit, hN0, hN]
    refine W_cond (t := (decide (s0_.1 < (a1.length : Int)))) rfl (fun c47 => ?_) (fun c47 => ?_)
    · replace hs0_ := condT c47 hs0_
      refine W_skip ?_
      try simp only [gthen, gblock]
      refine W_drop [0, 1, 5, 6] [true, false] ?_
      simp only [push_cast, seval, ↓reduceIte]
      obtain ⟨z1, hz1, hs0_⟩ := bC hs0_
      refine W_sum (J := (SumJ (fun z1 => JN n (⟨114, [], [(0, .val (.int .i64 a0)), (1, .sl a1.length (fl e_S_api_Op a1)), (5, .row n z1.2.length), (6, .val (.int .i64 z1.1))]⟩ : Env) (Loc O n [some ⟨true, 69, 14, z1.2.length, fl e_S_api_Op z1.2⟩, none, none, none, none, none]) (n + 6)) (fun z1 => JR n (⟨114, [], [(4, .row n z1.length)]⟩ : Env) (Loc O n [some ⟨true, 69, 14, z1.length, fl e_S_api_Op z1⟩, none]) (n + 2)))) (z := z1) ?_ fun hw => ?_
      · refine W_block ?_
        refine W_seqK ?_
        obtain ⟨y3, hy3, hz1⟩ := bC hz1
        refine W_regionD tab_ok [] ?_
        simp only [push_cast, seval, ↓reduceIte, cast_lit, hN0, hN]
        refine (ok_centoref22_gap hy3).then ?_
        simp only [push_cast, seval, ↓reduceIte, cast_lit, hN0, hN]
        refine W_drop [0, 1, 5, 6, 7, 8] [true, false] ?_
        simp only [push_cast, seval, ↓reduceIte]
        refine W_seqK ?_
        obtain ⟨y5, hy5, hz1⟩ := bC hz1
        refine W_regionD tab_ok [] ?_
        simp only [push_cast, seval, ↓reduceIte, cast_lit, hN0, hN]
        refine (ok_centoref22_gap hy5).then ?_
        simp only [push_cast, seval, ↓reduceIte, cast_lit, hN0, hN]
        refine W_drop [0, 1, 5, 7, 8, 9] [true, false] ?_
        simp only [push_cast, seval, ↓reduceIte]
        obtain ⟨z6, hz6, hz1⟩ := bC hz1
        refine W_seqN (E' := ⟨114, [], [(0, .val (.int .i64 a0)), (1, .sl a1.length (fl e_S_api_Op a1)), (5, .row n z6.length), (8, .val (.int .i64 y3.2)), (9, .sl y5.1.length (fl e_S_api_Tree y5.1))]⟩) (O' := (Loc O n [some ⟨true, 69, 14, z6.length, fl e_S_api_Op z6⟩, none, none])) (n0 := (n + 3)) ?_ ?_
        · refine W_sq [0, 1, 5, 7, 8, 9, 33] (W_regionD tab_ok [] ?_)
          simp only [push_cast, seval, ↓reduceIte, cast_lit, hN0, hN]
          refine W_cond (t := (decide (0 < (y3.1.length : Int)))) rfl (fun c8 => ?_) (fun c8 => ?_)
          · replace hz6 := condT c8 hz6
            obtain ⟨l7, pl7, ql7, el7, hz6⟩ := bA (k := 1) rfl hz6
            refine W_regionD tab_ok [] ?_
            simp only [push_cast, seval, ↓reduceIte, cast_lit, pl7, ql7, el7, hN0, hN]
            have hz6 := Option.some.inj hz6; subst hz6
            refine And.intro rfl (Fit2.of (fit_loc hU rfl rfl ?_) (by omega))
            simp only [push_cast, seval, ↓reduceIte, cast_lit, pl7, ql7, el7, hN0, hN]
          · replace hz6 := condF c8 hz6
            refine W_skip ?_
            try simp only [gthen, gblock]
            have hz6 := Option.some.inj hz6; subst hz6
            refine And.intro rfl (Fit2.of (fit_loc hU rfl rfl ?_) (by omega))
            simp only [push_cast, seval, ↓reduceIte, cast_lit, hN0, hN]
        obtain ⟨z9, hz9, hz1⟩ := bC hz1
        refine W_seqN (E' := ⟨114, [], [(0, .val (.int .i64 a0)), (1, .sl a1.length (fl e_S_api_Op a1)), (5, .row n z9.length), (8, .val (.int .i64 y3.2))]⟩) (O' := (Loc O n [some ⟨true, 69, 14, z9.length, fl e_S_api_Op z9⟩, none, none, none])) (n0 := (n + 4)) ?_ ?_
        · refine W_sq [0, 1, 5, 8, 9, 41] (W_regionD tab_ok [] ?_)
          simp only [push_cast, seval, ↓reduceIte, cast_lit, hN0, hN]
          refine W_cond (t := (decide (0 < (y5.1.length : Int)))) rfl (fun c11 => ?_) (fun c11 => ?_)
          · replace hz9 := condT c11 hz9
            obtain ⟨l10, pl10, ql10, el10, hz9⟩ := bA (k := 1) rfl hz9
            refine W_regionD tab_ok [] ?_
            simp only [push_cast, seval, ↓reduceIte, cast_lit, pl10, ql10, el10, hN0, hN]
            have hz9 := Option.some.inj hz9; subst hz9
            refine And.intro rfl (Fit2.of (fit_loc hU rfl rfl ?_) (by omega))
            simp only [push_cast, seval, ↓reduceIte, cast_lit, pl10, ql10, el10, hN0, hN]
          · replace hz9 := condF c11 hz9
            refine W_skip ?_
            try simp only [gthen, gblock]
            have hz9 := Option.some.inj hz9; subst hz9
            refine And.intro rfl (Fit2.of (fit_loc hU rfl rfl ?_) (by omega))
            simp only [push_cast, seval, ↓reduceIte, cast_lit, hN0, hN]
        refine W_sq [0, 1, 5, 6] (W_regionD tab_ok [] ?_)
        simp only [push_cast, seval, ↓reduceIte, cast_lit, hN0, hN]
        refine W_seqK ?_
        refine W_sq [0, 1, 5, 6, 51] (W_regionD tab_ok [] ?_)
        simp only [push_cast, seval, ↓reduceIte, cast_lit, hN0, hN]
        refine W_cond (t := (decide ((a1.length : Int) ≤ y3.2))) rfl (fun c46 => ?_) (fun c46 => ?_)
        · replace hz1 := condT c46 hz1
          refine W_sq [4] (W_regionD tab_ok [] ?_)
          simp only [push_cast, seval, ↓reduceIte, cast_lit, hN0, hN]
          refine W_ret ?_
          try simp only [gthen, gblock]
          have hz1 := Option.some.inj hz1; subst hz1
          refine And.intro rfl (Fit2.of (fit_loc hU rfl rfl ?_) (by omega))
          simp only [push_cast, seval, ↓reduceIte, cast_lit, hN0, hN]
        · replace hz1 := condF c46 hz1
          refine W_skip ?_
          try simp only [gthen, gblock]
          refine W_drop [0, 1, 5, 6] [true, false, false, false] ?_
          simp only [push_cast, seval, ↓reduceIte]
          refine W_seqK ?_
          obtain ⟨x14, hx14, ax14, bx14, cx14, hz1⟩ := bE (f := e_S_api_Op) tab69 (fun _ => rfl) (by decide) hz1
          have g15 := gpart_fld (f := e_S_api_Op) (off := 1) (sz := 14) tab3 (fun _ => rfl) (by decide) (by decide) hx14
          refine W_regionD tab_ok [] ?_
          simp only [push_cast, Nat.reduceAdd, Nat.reduceSub, Nat.reduceMul, Nat.reduceLeDiff, Nat.reduceLT, Nat.reduceEqDiff, ↓reduceIte, reduceCtorEq, Int.reduceBEq, Int.reduceBNe, Nat.reduceBEq, Int.reduceLE, Int.reduceLT, Int.reduceEq, Int.reduceNe, Int.reduceNeg, Nat.reduceDiv, Nat.reduceMod, Nat.reducePow, cast_lit, ax14, bx14, cx14, g15, hN0, hN]
          refine W_drop [0, 1, 5, 6, 11] [true, false, false, false, true] ?_
          simp only [push_cast, seval, ↓reduceIte]
          obtain ⟨z16, hz16, hz1⟩ := bC hz1
          refine W_seqN (E' := ⟨114, [], [(0, .val (.int .i64 a0)), (1, .sl a1.length (fl e_S_api_Op a1)), (5, .row n z9.length), (6, .val (.int .i64 y3.2)), (11, .ref (n + 4) 0)]⟩) (O' := (Loc O n [some ⟨true, 69, 14, z9.length, fl e_S_api_Op z9⟩, none, none, none, some ⟨false, 69, 14, 1, [.val (.int .i64 z16.1), .val (.int .i64 z16.2.1), .val (.slice none 0 0), .val (.int .i64 z16.2.2.1), .val (.int .i64 z16.2.2.2.1), .sl z16.2.2.2.2.1.length (fl (eI .u64) z16.2.2.2.2.1), .sl z16.2.2.2.2.2.1.length (fl e_S_api_Tree z16.2.2.2.2.2.1), .val (.int .i64 z16.2.2.2.2.2.2.1), .sl z16.2.2.2.2.2.2.2.1.length (fl (eI .u64) z16.2.2.2.2.2.2.2.1), .sl z16.2.2.2.2.2.2.2.2.1.length (fl e_S_api_Tree z16.2.2.2.2.2.2.2.2.1), .sl z16.2.2.2.2.2.2.2.2.2.1.length (fl e_S_api_WordEdit z16.2.2.2.2.2.2.2.2.2.1), .sl z16.2.2.2.2.2.2.2.2.2.2.1.length (fl e_S_api_KidEdit z16.2.2.2.2.2.2.2.2.2.2.1), .val (.int .i64 z16.2.2.2.2.2.2.2.2.2.2.2.1), .sl z16.2.2.2.2.2.2.2.2.2.2.2.2.length (fl e_S_api_Op z16.2.2.2.2.2.2.2.2.2.2.2.2)]⟩])) (n0 := (n + 5)) ?_ ?_
          · obtain ⟨x19, hx19, ax19, bx19, cx19, hz16⟩ := bE (f := e_S_api_Op) tab69 (fun _ => rfl) (by decide) hz16
            have g20 := gpart_fld0 (f := e_S_api_Op) (sz := 14) tab3 (fun _ => rfl) (by decide) (by decide) hx19
            refine W_sq [0, 1, 5, 6, 11, 64] (W_regionD tab_ok [] ?_)
            simp only [push_cast, Nat.reduceAdd, Nat.reduceSub, Nat.reduceMul, Nat.reduceLeDiff, Nat.reduceLT, Nat.reduceEqDiff, ↓reduceIte, reduceCtorEq, Int.reduceBEq, Int.reduceBNe, Nat.reduceBEq, Int.reduceLE, Int.reduceLT, Int.reduceEq, Int.reduceNe, Int.reduceNeg, Nat.reduceDiv, Nat.reduceMod, Nat.reducePow, cast_lit, ax19, bx19, cx19, g20, hN0, hN]
            refine W_cond (t := (x19.Kind == 3)) rfl (fun c30 => ?_) (fun c30 => ?_)
            · replace hz16 := condT c30 hz16
              refine W_seqK ?_
              obtain ⟨x24, hx24, ax24, bx24, cx24, hz16⟩ := bE (f := e_S_api_Op) tab69 (fun _ => rfl) (by decide) hz16
              have g25 := gpart_fld (f := e_S_api_Op) (off := 3) (sz := 14) tab30 (fun _ => rfl) (by decide) (by decide) hx24
              obtain ⟨y26, hy26, hz16⟩ := bC hz16
              refine W_regionD tab_ok [] ?_
              simp only [push_cast, Nat.reduceAdd, Nat.reduceSub, Nat.reduceMul, Nat.reduceLeDiff, Nat.reduceLT, Nat.reduceEqDiff, ↓reduceIte, reduceCtorEq, Int.reduceBEq, Int.reduceBNe, Nat.reduceBEq, Int.reduceLE, Int.reduceLT, Int.reduceEq, Int.reduceNe, Int.reduceNeg, Nat.reduceDiv, Nat.reduceMod, Nat.reducePow, cast_lit, ax24, bx24, cx24, g25, hN0, hN]
              refine (ok_r_centoref22_Edit hy26).then ?_
              simp only [push_cast, Nat.reduceAdd, Nat.reduceSub, Nat.reduceMul, Nat.reduceLeDiff, Nat.reduceLT, Nat.reduceEqDiff, ↓reduceIte, reduceCtorEq, Int.reduceBEq, Int.reduceBNe, Nat.reduceBEq, Int.reduceLE, Int.reduceLT, Int.reduceEq, Int.reduceNe, Int.reduceNeg, Nat.reduceDiv, Nat.reduceMod, Nat.reducePow, cast_lit, ax24, bx24, cx24, g25, hN0, hN]
              refine W_drop [0, 1, 5, 6, 11] [true, false, false, false, true] ?_
              simp only [push_cast, seval, ↓reduceIte]
              refine W_seqK ?_
              obtain ⟨y28, hy28, hz16⟩ := bC hz16
              refine W_regionD tab_ok [] ?_
              simp only [push_cast, seval, ↓reduceIte, cast_lit, hN0, hN]
              refine (ok_centoref22_idle hy28).then ?_
              simp only [push_cast, seval, ↓reduceIte, cast_lit, hN0, hN]
              refine W_drop [0, 1, 5, 6, 11, 75] [true, false, false, false, true] ?_
              simp only [push_cast, seval, ↓reduceIte]
              refine W_cond (t := y28) rfl (fun c29 => ?_) (fun c29 => ?_)
              · replace hz16 := condT c29 hz16
                refine W_regionD tab_ok [] ?_
                simp only [push_cast, seval, ↓reduceIte, cast_lit, hN0, hN]
                have hz16 := Option.some.inj hz16; subst hz16
                refine And.intro rfl (Fit2.of (fit_loc hU rfl rfl ?_) (by omega))
                simp only [push_cast, seval, ↓reduceIte, cast_lit, hN0, hN]
              · replace hz16 := condF c29 hz16
                refine W_skip ?_
                try simp only [gthen, gblock]
                have hz16 := Option.some.inj hz16; subst hz16
                refine And.intro rfl (Fit2.of (fit_loc hU rfl rfl ?_) (by omega))
                simp only [push_cast, seval, ↓reduceIte, cast_lit, hN0, hN]
            · replace hz16 := condF c30 hz16
              refine W_skip ?_
              try simp only [gthen, gblock]
              have hz16 := Option.some.inj hz16; subst hz16
              refine And.intro rfl (Fit2.of (fit_loc hU rfl rfl ?_) (by omega))
              simp only [push_cast, seval, ↓reduceIte, cast_lit, hN0, hN]
          refine W_sq [0, 1, 5, 6, 11, 12] (W_regionD tab_ok [] ?_)
          simp only [push_cast, seval, ↓reduceIte, cast_lit, hN0, hN]
          obtain ⟨z33, hz33, hz1⟩ := bC hz1
          refine W_seqN (E' := ⟨114, [], [(0, .val (.int .i64 a0)), (1, .sl a1.length (fl e_S_api_Op a1)), (5, .row n z9.length), (6, .val (.int .i64 y3.2)), (11, .ref (n + 4) 0), (12, .val (.int .i64 (z9.length : Int))), (94, .val (.bool z33))]⟩) (O' := (Loc O n [some ⟨true, 69, 14, z9.length, fl e_S_api_Op z9⟩, none, none, none, some ⟨false, 69, 14, 1, [.val (.int .i64 z16.1), .val (.int .i64 z16.2.1), .val (.slice none 0 0), .val (.int .i64 z16.2.2.1), .val (.int .i64 z16.2.2.2.1), .sl z16.2.2.2.2.1.length (fl (eI .u64) z16.2.2.2.2.1), .sl z16.2.2.2.2.2.1.length (fl e_S_api_Tree z16.2.2.2.2.2.1), .val (.int .i64 z16.2.2.2.2.2.2.1), .sl z16.2.2.2.2.2.2.2.1.length (fl (eI .u64) z16.2.2.2.2.2.2.2.1), .sl z16.2.2.2.2.2.2.2.2.1.length (fl e_S_api_Tree z16.2.2.2.2.2.2.2.2.1), .sl z16.2.2.2.2.2.2.2.2.2.1.length (fl e_S_api_WordEdit z16.2.2.2.2.2.2.2.2.2.1), .sl z16.2.2.2.2.2.2.2.2.2.2.1.length (fl e_S_api_KidEdit z16.2.2.2.2.2.2.2.2.2.2.1), .val (.int .i64 z16.2.2.2.2.2.2.2.2.2.2.2.1), .sl z16.2.2.2.2.2.2.2.2.2.2.2.2.length (fl e_S_api_Op z16.2.2.2.2.2.2.2.2.2.2.2.2)]⟩])) (n0 := (n + 5)) ?_ ?_
          · rcases Bool.eq_false_or_eq_true (z16.1 == 0) with c38 | c38
            · replace hz33 := condT c38 hz33
              rcases Bool.eq_false_or_eq_true (decide (0 < (z9.length : Int))) with c39 | c39
              · replace hz33 := condT c39 hz33
                try rw [c39] at c38
                obtain ⟨x36, hx36, ax36, bx36, cx36, hz33⟩ := bE (f := e_S_api_Op) tab69 (fun _ => rfl) (by decide) hz33
                have g37 := gpart_fld0 (f := e_S_api_Op) (sz := 14) tab3 (fun _ => rfl) (by decide) (by decide) hx36
                refine W_regionD tab_ok [none, none, some true, some true, some true, some true, some true, some true, some true] ?_
                simp only [push_cast, Nat.reduceAdd, Nat.reduceSub, Nat.reduceMul, Nat.reduceLeDiff, Nat.reduceLT, Nat.reduceEqDiff, ↓reduceIte, reduceCtorEq, Int.reduceBEq, Int.reduceBNe, Nat.reduceBEq, Int.reduceLE, Int.reduceLT, Int.reduceEq, Int.reduceNe, Int.reduceNeg, Nat.reduceDiv, Nat.reduceMod, Nat.reducePow, cast_lit, c38, c39, ax36, bx36, cx36, g37, hN0, hN]
                repeat (with_reducible refine And.intro (by first | (intro h0; simp only [h0, and_self]; done) | (intro h0; simp only [h0, Bool.not_false, Bool.not_true, Bool.true_and, Bool.and_true, true_and, and_true, and_self, imp_self, implies_true, bne_iff_ne, ne_eq, beq_iff_eq]; done) | (intros; simp_all; done) | exact True.intro) ?_)
                have hz33 := Option.some.inj hz33; subst hz33
                refine And.intro rfl (Fit2.of (fit_loc hU rfl rfl ?_) (by omega))
                simp only [push_cast, Nat.reduceAdd, Nat.reduceSub, Nat.reduceMul, Nat.reduceLeDiff, Nat.reduceLT, Nat.reduceEqDiff, ↓reduceIte, reduceCtorEq, Int.reduceBEq, Int.reduceBNe, Nat.reduceBEq, Int.reduceLE, Int.reduceLT, Int.reduceEq, Int.reduceNe, Int.reduceNeg, Nat.reduceDiv, Nat.reduceMod, Nat.reducePow, cast_lit, c38, c39, ax36, bx36, cx36, g37, hN0, hN]
              · replace hz33 := condF c39 hz33
                try rw [c39] at c38
                refine W_regionD tab_ok [none, none, some false, some false, some false, some false, some false, some false, some false] ?_
                simp only [push_cast, seval, ↓reduceIte, cast_lit, c38, c39, hN0, hN]
                repeat (with_reducible refine And.intro (by first | (intro h0; simp only [h0, and_self]; done) | (intro h0; simp only [h0, Bool.not_false, Bool.not_true, Bool.true_and, Bool.and_true, true_and, and_true, and_self, imp_self, implies_true, bne_iff_ne, ne_eq, beq_iff_eq]; done) | (intros; simp_all; done) | exact True.intro) ?_)
                have hz33 := Option.some.inj hz33; subst hz33
                refine And.intro rfl (Fit2.of (fit_loc hU rfl rfl ?_) (by omega))
                simp only [push_cast, seval, ↓reduceIte, cast_lit, c38, c39, hN0, hN]
            · replace hz33 := condF c38 hz33
              refine W_regionD tab_ok [none, none, some false, some false, some false, some false, some false, some false, some false] ?_
              simp only [push_cast, seval, ↓reduceIte, cast_lit, c38, hN0, hN]
              repeat (with_reducible refine And.intro (by first | (intro h0; simp only [h0, and_self]; done) | (intro h0; simp only [h0, Bool.not_false, Bool.not_true, Bool.true_and, Bool.and_true, true_and, and_true, and_self, imp_self, implies_true, bne_iff_ne, ne_eq, beq_iff_eq]; done) | (intros; simp_all; done) | exact True.intro) ?_)
              have hz33 := Option.some.inj hz33; subst hz33
              refine And.intro rfl (Fit2.of (fit_loc hU rfl rfl ?_) (by omega))
              simp only [push_cast, seval, ↓reduceIte, cast_lit, c38, hN0, hN]
          refine W_cond (t := z33) rfl (fun c45 => ?_) (fun c45 => ?_)
          · replace hz1 := condT c45 hz1
            obtain ⟨x40, hx40, ax40, bx40, cx40, hz1⟩ := bE (f := e_S_api_Op) tab69 (fun _ => rfl) (by decide) hz1
            have g41 := gpart_fld (f := e_S_api_Op) (off := 1) (sz := 14) tab3 (fun _ => rfl) (by decide) (by decide) hx40
            have gu43 : gplace (fl e_S_api_Op z9) [.val (.int .i64 (IntKind.i64.wrap (x40.N + z16.2.1)))] (Int.toNat (IntKind.i64.wrap ((z9.length : Int) - 1)) * 14 + 1) = some (fl e_S_api_Op (setI z9 (IntKind.i64.wrap ((z9.length : Int) - 1)) (⟨x40.Kind, (IntKind.i64.wrap (x40.N + z16.2.1)), x40.L, x40.E⟩ : S_api_Op))) := gplace_fld (f := e_S_api_Op) (sz := 14) (fun _ => rfl) (Nat.le_of_ble_eq_true rfl) hx40 (by simp only [e_S_api_Op, e0_eq_S_api_Op, e_S_api_Tree, e0_eq_S_api_Tree, e_S_api_Edit, e0_eq_S_api_Edit, e_S_api_WordEdit, e_S_api_KidEdit, e0_eq_S_api_KidEdit, eI, eB, eS, eL, List.take_zero, List.take_succ_cons, List.drop_zero, List.drop_succ_cons, List.cons_append, List.nil_append, List.length_cons, List.length_nil, Nat.zero_add, Nat.reduceAdd])
            refine W_drawF tab_ok (by kernel_rfl) [false, false, false, false, false, false, false, false, false, false, false, false, false, false, true] [] (by kernel_rfl) ?_
            simp only [push_cast, Nat.reduceAdd, Nat.reduceSub, Nat.reduceMul, Nat.reduceLeDiff, Nat.reduceLT, Nat.reduceEqDiff, ↓reduceIte, reduceCtorEq, Int.reduceBEq, Int.reduceBNe, Nat.reduceBEq, Int.reduceLE, Int.reduceLT, Int.reduceEq, Int.reduceNe, Int.reduceNeg, Nat.reduceDiv, Nat.reduceMod, Nat.reducePow, cast_lit, ax40, bx40, cx40, g41, gu43, hN0, hN]
            have hz1 := Option.some.inj hz1; subst hz1
            refine And.intro rfl (Fit2.of (fit_loc hU rfl rfl ?_) (by omega))
            simp only [push_cast, Nat.reduceAdd, Nat.reduceSub, Nat.reduceMul, Nat.reduceLeDiff, Nat.reduceLT, Nat.reduceEqDiff, ↓reduceIte, reduceCtorEq, Int.reduceBEq, Int.reduceBNe, Nat.reduceBEq, Int.reduceLE, Int.reduceLT, Int.reduceEq, Int.reduceNe, Int.reduceNeg, Nat.reduceDiv, Nat.reduceMod, Nat.reducePow, cast_lit, ax40, bx40, cx40, g41, gu43, hN0, hN]
          · replace hz1 := condF c45 hz1
            obtain ⟨l44, pl44, ql44, el44, hz1⟩ := bA (k := 1) rfl hz1
            refine W_regionD tab_ok [] ?_
            simp only [push_cast, seval, ↓reduceIte, cast_lit, pl44, ql44, el44, hN0, hN]
            have hz1 := Option.some.inj hz1; subst hz1
            refine And.intro rfl (Fit2.of (fit_loc hU rfl rfl ?_) (by omega))
            simp only [push_cast, seval, ↓reduceIte, cast_lit, pl44, ql44, el44, hN0, hN]
      rcases z1 with z1 | z1
      · dsimp only [SumJ] at hw hs0_
        refine W_seqN hw ?_
        refine W_regionD tab_ok [] ?_
        simp only [push_cast, seval, ↓reduceIte, cast_lit, hN0, hN]
        have hs0_ := Option.some.inj hs0_; subst hs0_
        refine And.intro rfl (Fit2.of (fit_loc hU rfl rfl ?_) (by omega))
        simp only [push_cast, seval, ↓reduceIte, cast_lit, hN0, hN]
      · dsimp only [SumJ] at hw hs0_
        refine W_seqR hw ?_
        try simp only [gthen, gblock]
        have hs0_ := Option.some.inj hs0_; subst hs0_
        refine And.intro (fun h => by cases h) (And.intro rfl (Fit2.of (fit_loc hU rfl rfl ?_) (by omega)))
        simp only [push_cast, seval, ↓reduceIte, cast_lit, hN0, hN]
    · replace hs0_ := condF c47 hs0_
      refine W_exit ?_
      try simp only [gthen, gblock, ↓reduceIte, Nat.reduceEqDiff]
      have hs0_ := Option.some.inj hs0_; subst hs0_
      refine And.intro (fun h => by cases h) (And.intro rfl (Fit2.of (fit_loc hU rfl rfl ?_) (by omega)))
      simp only [push_cast, seval, ↓reduceIte, cast_lit, hN0, hN]
  rcases z48 with z48 | z48
  · dsimp only [SumJ] at hw h
    refine W_blockR hw ?_
    try simp only [gthen, gblock, ↓reduceIte, Nat.reduceEqDiff]
    have h := Option.some.inj h; subst h
    refine fin_loc (.inr rfl) hU [.sl z48.length (fl e_S_api_Op z48)] (by omega) ?_
    simp only [push_cast, seval, ↓reduceIte, cast_lit, Try.results55, hN0, hN]
  · dsimp only [SumJ] at hw h
    refine W_blockX hw ?_
    try simp only [gthen, gblock, ↓reduceIte, Nat.reduceEqDiff]
    refine W_drop [5] [true, false] ?_
    simp only [push_cast, seval, ↓reduceIte]
    refine W_sq [4] (W_regionD tab_ok [] ?_)
    simp only [push_cast, seval, ↓reduceIte, cast_lit, hN0, hN]
    refine W_ret ?_
    try simp only [gthen, gblock]
    have h := Option.some.inj h; subst h
    refine fin_loc (.inr rfl) hU [.row n z48.length] (by omega) ?_
    simp only [push_cast, seval, ↓reduceIte, cast_lit, Try.results55, hN0, hN]
theorem lv_centoref22_Edit_ok : ∀ k, (∀ {a0 : S_api_Edit} {r : S_api_Edit} {O : Objs} {n : Nat}, (lv_centoref22_Edit k).1 a0 = some r → GTo Try.prog 19 [.agg (c_S_api_Edit a0)] O n (.agg (c_S_api_Edit r)) O n) ∧ (∀ {a0 : Int} {a1 : (List S_api_Op)} {r : (List S_api_Op)} {O : Objs} {n : Nat}, (lv_centoref22_Edit k).2 a0 a1 = some r → GTo Try.prog 55 [.val (.int .i64 a0), .sl a1.length (fl e_S_api_Op a1)] O n (.sl r.length (fl e_S_api_Op r)) O n) := fun k => by
  induction k with
  | zero => exact ⟨@fun a0 r O n h => (nomatch (show (none : Option _) = some _ from h)), @fun a0 a1 r O n h => (nomatch (show (none : Option _) = some _ from h))⟩
  | succ k ih => exact ⟨@fun a0 r O n h => okb_centoref22_Edit (ih.1) (ih.2)  h, @fun a0 a1 r O n h => okb_centoref22_Ops (ih.1) (ih.2)  h⟩
theorem ok_centoref22_Edit {a0 : S_api_Edit} {r : S_api_Edit} {O : Objs} {n : Nat} (h : m_centoref22_Edit a0 = some r) : GTo Try.prog 19 [.agg (c_S_api_Edit a0)] O n (.agg (c_S_api_Edit r)) O n := by
  obtain ⟨k, hk⟩ := lim_some h
  exact (lv_centoref22_Edit_ok k).1  hk
theorem ok_centoref01_Same {a0 : (List Int)} {a1 : (List Int)} {r : Bool} {O : Objs} {n : Nat} (h : m_centoref01_Same a0 a1 = some r) : GTo Try.prog 60 [.sl a0.length (fl (eI .u64) a0), .sl a1.length (fl (eI .u64) a1)] O n (.val (.bool r)) O n := by
  unfold m_centoref01_Same at h
  refine fn_of tab_ok Try.call60 Try.func60 rfl (Nat.le_of_ble_eq_true rfl) (Nat.le_refl _) fun hU => ?_
  have hN0 : O n = none := hU.fresh _ (Nat.le_refl _)
  have hN : ∀ k, O (n + k) = none := fun k => hU.fresh _ (Nat.le_add_right _ _)
  show W _ _ _ _ ⟨26, [], [(0, .sl a0.length (fl (eI .u64) a0)), (1, .sl a1.length (fl (eI .u64) a1))]⟩ (Loc O n []) _
  refine W_sq [0, 1] (W_regionD tab_ok [] ?_)
  simp only [push_cast, seval, ↓reduceIte, cast_lit, hN0, hN]
  refine W_seqK ?_
  refine W_sq [0, 1, 10] (W_regionD tab_ok [] ?_)
  simp only [push_cast, seval, ↓reduceIte, cast_lit, hN0, hN]
  refine W_cond (t := ((a0.length : Int) != (a1.length : Int))) rfl (fun c8 => ?_) (fun c8 => ?_)
  · replace h := condT c8 h
    refine W_sq [4] (W_regionD tab_ok [] ?_)
    simp only [push_cast, seval, ↓reduceIte, cast_lit, hN0, hN]
    refine W_ret ?_
    try simp only [gthen, gblock]
    have h := Option.some.inj h; subst h
    refine fin_loc (.inr rfl) hU [.val (.bool false)] (by omega) ?_
    simp only [push_cast, seval, ↓reduceIte, cast_lit, Try.results60, hN0, hN]
  · replace h := condF c8 h
    refine W_skip ?_
    try simp only [gthen, gblock]
    refine W_drop [0, 1] [] ?_
    simp only [push_cast, seval, ↓reduceIte]
    refine W_seqK ?_
    refine W_sq [0, 1, 5] (W_regionD tab_ok [] ?_)
    simp only [push_cast, seval, ↓reduceIte, cast_lit, hN0, hN]
    refine W_drop [0, 1, 5] [] ?_
    simp only [push_cast, seval, ↓reduceIte]
    obtain ⟨z7, hz7, h⟩ := bC h
    refine W_sumB (J := (SumJ (fun z7 => JR n (⟨26, [], [(4, .val (.bool false))]⟩ : Env) (Loc O n []) n) (fun z7 => JX 0 n (⟨26, [], []⟩ : Env) (Loc O n []) n))) (z := z7) ?_ fun hw => ?_
    · refine W_loopJ hz7 (fun s0_ => ⟨26, [], [(0, .sl a0.length (fl (eI .u64) a0)), (1, .sl a1.length (fl (eI .u64) a1)), (5, .val (.int .i64 s0_))]⟩) (fun s0_ => (Loc O n [])) (SumJ (fun z7 => JR n (⟨26, [], [(4, .val (.bool false))]⟩ : Env) (Loc O n []) n) (fun z7 => JX 0 n (⟨26, [], []⟩ : Env) (Loc O n []) n)) ?_
      intro s0_ x0_ hs0_
      unfold m_centoref01_Same_L0 at hs0_
      try dsimp only
      refine W_seqK ?_
      refine W_sq [0, 1, 5, 14] (W_regionD tab_ok [] ?_)
      simp only [push_cast, seval, ↓reduceIte, cast_lit, hN0, hN]
      refine W_cond (t := (decide (s0_ < (a0.length : Int)))) rfl (fun c6 => ?_) (fun c6 => ?_)
      · replace hs0_ := condT c6 hs0_
        refine W_skip ?_
        try simp only [gthen, gblock]
        refine W_drop [0, 1, 5] [] ?_
        simp only [push_cast, seval, ↓reduceIte]
        refine W_seqK ?_
        refine W_block ?_
        obtain ⟨x3, hx3, ax3, bx3, cx3, hs0_⟩ := bE (f := (eI .u64)) tab56 (fun _ => rfl) (by decide) hs0_
        obtain ⟨x4, hx4, ax4, bx4, cx4, hs0_⟩ := bE (f := (eI .u64)) tab56 (fun _ => rfl) (by decide) hs0_
        refine W_sq [0, 1, 5, 25] (W_drawD tab_ok (by kernel_rfl) [] (by kernel_rfl) ?_)
        simp only [push_cast, Nat.reduceAdd, Nat.reduceSub, Nat.reduceMul, Nat.reduceLeDiff, Nat.reduceLT, Nat.reduceEqDiff, ↓reduceIte, reduceCtorEq, Int.reduceBEq, Int.reduceBNe, Nat.reduceBEq, Int.reduceLE, Int.reduceLT, Int.reduceEq, Int.reduceNe, Int.reduceNeg, Nat.reduceDiv, Nat.reduceMod, Nat.reducePow, cast_lit, ax3, bx3, cx3, ax4, bx4, cx4, hN0, hN]
        refine W_cond (t := (x3 != x4)) rfl (fun c5 => ?_) (fun c5 => ?_)
        · replace hs0_ := condT c5 hs0_
          refine W_sq [4] (W_regionD tab_ok [] ?_)
          simp only [push_cast, seval, ↓reduceIte, cast_lit, hN0, hN]
          refine W_ret ?_
          try simp only [gthen, gblock]
          have hs0_ := Option.some.inj hs0_; subst hs0_
          refine And.intro (fun h => by cases h) (And.intro rfl (Fit2.of (fit_loc hU rfl rfl ?_) (by omega)))
          simp only [push_cast, seval, ↓reduceIte, cast_lit, hN0, hN]
        · replace hs0_ := condF c5 hs0_
          refine W_skip ?_
          try simp only [gthen, gblock]
          refine W_drop [0, 1, 5] [] ?_
          simp only [push_cast, seval, ↓reduceIte]
          refine W_regionD tab_ok [] ?_
          simp only [push_cast, seval, ↓reduceIte, cast_lit, hN0, hN]
          have hs0_ := Option.some.inj hs0_; subst hs0_
          refine And.intro rfl (Fit2.of (fit_loc hU rfl rfl ?_) (by omega))
          simp only [push_cast, seval, ↓reduceIte, cast_lit, hN0, hN]
      · replace hs0_ := condF c6 hs0_
        refine W_exit ?_
        try simp only [gthen, gblock, ↓reduceIte, Nat.reduceEqDiff]
        have hs0_ := Option.some.inj hs0_; subst hs0_
        refine And.intro (fun h => by cases h) (And.intro rfl (Fit2.of (fit_loc hU rfl rfl ?_) (by omega)))
        simp only [push_cast, seval, ↓reduceIte, cast_lit, hN0, hN]
    rcases z7 with z7 | z7
    · dsimp only [SumJ] at hw h
      refine W_blockR hw ?_
      try simp only [gthen, gblock, ↓reduceIte, Nat.reduceEqDiff]
      have h := Option.some.inj h; subst h
      refine fin_loc (.inr rfl) hU [.val (.bool false)] (by omega) ?_
      simp only [push_cast, seval, ↓reduceIte, cast_lit, Try.results60, hN0, hN]
    · dsimp only [SumJ] at hw h
      refine W_blockX hw ?_
      try simp only [gthen, gblock, ↓reduceIte, Nat.reduceEqDiff]
      refine W_drop [] [] ?_
      simp only [push_cast, seval, ↓reduceIte]
      refine W_sq [4] (W_regionD tab_ok [] ?_)
      simp only [push_cast, seval, ↓reduceIte, cast_lit, hN0, hN]
      refine W_ret ?_
      try simp only [gthen, gblock]
      have h := Option.some.inj h; subst h
      refine fin_loc (.inr rfl) hU [.val (.bool true)] (by omega) ?_
      simp only [push_cast, seval, ↓reduceIte, cast_lit, Try.results60, hN0, hN]
theorem okb_centoref07_Same {r_centoref07_Same : (S_api_Tree → S_api_Tree → Option Bool)} (ok_r_centoref07_Same : ∀ {a0 : S_api_Tree} {a1 : S_api_Tree} {r : Bool} {O : Objs} {n : Nat}, r_centoref07_Same a0 a1 = some r → GTo Try.prog 25 [.agg (c_S_api_Tree a0), .agg (c_S_api_Tree a1)] O n (.val (.bool r)) O n) {a0 : S_api_Tree} {a1 : S_api_Tree} {r : Bool} {O : Objs} {n : Nat} (h : b_centoref07_Same r_centoref07_Same a0 a1 = some r) : GTo Try.prog 25 [.agg (c_S_api_Tree a0), .agg (c_S_api_Tree a1)] O n (.val (.bool r)) O n := by
  unfold b_centoref07_Same at h
  refine fn_of tab_ok Try.call25 Try.func25 rfl (Nat.le_of_ble_eq_true rfl) (Nat.le_refl _) fun hU => ?_
  have hN0 : O n = none := hU.fresh _ (Nat.le_refl _)
  have hN : ∀ k, O (n + k) = none := fun k => hU.fresh _ (Nat.le_add_right _ _)
  show W _ _ _ _ ⟨47, [], [(0, .agg (c_S_api_Tree a0)), (1, .agg (c_S_api_Tree a1))]⟩ (Loc O n []) _
  refine W_sq [2, 3] (W_regionD tab_ok [] ?_)
  simp only [push_cast, seval, ↓reduceIte, cast_lit, hN0, hN]
  refine W_seqK ?_
  obtain ⟨z2, hz2, h⟩ := bC h
  refine W_seqN (E' := ⟨47, [], [(2, .ref n 0), (3, .ref (n + 1) 0), (27, .val (.bool z2))]⟩) (O' := (Loc O n [some ⟨false, 25, 3, 1, (c_S_api_Tree a0)⟩, some ⟨false, 25, 3, 1, (c_S_api_Tree a1)⟩])) (n0 := (n + 2)) ?_ ?_
  · rcases Bool.eq_false_or_eq_true (a0.Kind != a1.Kind) with c5 | c5
    · replace hz2 := condT c5 hz2
      refine W_regionD tab_ok [some false, some false, some false, some false, some false, some false, some false, some false, some false, some false, some false, some false, some false] ?_
      simp only [push_cast, seval, ↓reduceIte, cast_lit, c5, hN0, hN]
      have hz2 := Option.some.inj hz2; subst hz2
      refine And.intro rfl (Fit2.of (fit_loc hU rfl rfl ?_) (by omega))
      simp only [push_cast, seval, ↓reduceIte, cast_lit, c5, hN0, hN]
    · replace hz2 := condF c5 hz2
      obtain ⟨y4, hy4, hz2⟩ := bC hz2
      refine W_regionD tab_ok [some true, some true, some true, some true, some true, some true, none, none, none, none, none, none, none] ?_
      simp only [push_cast, seval, ↓reduceIte, cast_lit, c5, hN0, hN]
      repeat (with_reducible refine And.intro (by first | (intro h0; simp only [h0, and_self]; done) | (intro h0; simp only [h0, Bool.not_false, Bool.not_true, Bool.true_and, Bool.and_true, true_and, and_true, and_self, imp_self, implies_true, bne_iff_ne, ne_eq, beq_iff_eq]; done) | (intros; simp_all; done) | exact True.intro) ?_)
      refine (ok_centoref01_Same hy4).then ?_
      simp only [push_cast, seval, ↓reduceIte, cast_lit, c5, hN0, hN]
      repeat (with_reducible refine And.intro (by first | (intro h0; simp only [h0, and_self]; done) | (intro h0; simp only [h0, Bool.not_false, Bool.not_true, Bool.true_and, Bool.and_true, true_and, and_true, and_self, imp_self, implies_true, bne_iff_ne, ne_eq, beq_iff_eq]; done) | (intros; simp_all; done) | exact True.intro) ?_)
      have hz2 := Option.some.inj hz2; subst hz2
      refine And.intro rfl (Fit2.of (fit_loc hU rfl rfl ?_) (by omega))
      simp only [push_cast, seval, ↓reduceIte, cast_lit, c5, hN0, hN]
  refine W_cond (t := z2) rfl (fun c15 => ?_) (fun c15 => ?_)
  · replace h := condT c15 h
    refine W_sq [4] (W_regionD tab_ok [] ?_)
    simp only [push_cast, seval, ↓reduceIte, cast_lit, hN0, hN]
    refine W_ret ?_
    try simp only [gthen, gblock]
    have h := Option.some.inj h; subst h
    refine fin_loc (.inr rfl) hU [.val (.bool false)] (by omega) ?_
    simp only [push_cast, seval, ↓reduceIte, cast_lit, Try.results25, hN0, hN]
  · replace h := condF c15 h
    refine W_skip ?_
    try simp only [gthen, gblock]
    refine W_drop [2, 3] [true, true] ?_
    simp only [push_cast, seval, ↓reduceIte]
    refine W_seqK ?_
    refine W_sq [2, 3, 5] (W_regionD tab_ok [] ?_)
    simp only [push_cast, seval, ↓reduceIte, cast_lit, hN0, hN]
    refine W_drop [2, 3, 5] [true, true] ?_
    simp only [push_cast, seval, ↓reduceIte]
    obtain ⟨z14, hz14, h⟩ := bC h
    refine W_sumB (J := (SumJ (fun z14 => JR n (⟨47, [], [(4, .val (.bool false))]⟩ : Env) (Loc O n [none, none]) (n + 2)) (fun z14 => JX 0 n (⟨47, [], []⟩ : Env) (Loc O n [none, none]) (n + 2)))) (z := z14) ?_ fun hw => ?_
    · refine W_loopJ hz14 (fun s0_ => ⟨47, [], [(2, .ref n 0), (3, .ref (n + 1) 0), (5, .val (.int .i64 s0_))]⟩) (fun s0_ => (Loc O n [some ⟨false, 25, 3, 1, (c_S_api_Tree a0)⟩, some ⟨false, 25, 3, 1, (c_S_api_Tree a1)⟩])) (SumJ (fun z14 => JR n (⟨47, [], [(4, .val (.bool false))]⟩ : Env) (Loc O n [none, none]) (n + 2)) (fun z14 => JX 0 n (⟨47, [], []⟩ : Env) (Loc O n [none, none]) (n + 2))) ?_
      intro s0_ x0_ hs0_
      unfold b_centoref07_Same_L0 at hs0_
      try dsimp only
      refine W_seqK ?_
      refine W_sq [2, 3, 5, 32] (W_regionD tab_ok [] ?_)
      simp only [push_cast, seval, ↓reduceIte, cast_lit, hN0, hN]
      refine W_cond (t := (decide (s0_ < (a0.Kids.length : Int)))) rfl (fun c13 => ?_) (fun c13 => ?_)
      · replace hs0_ := condT c13 hs0_
        refine W_skip ?_
        try simp only [gthen, gblock]
        refine W_drop [2, 3, 5] [true, true] ?_
        simp only [push_cast, seval, ↓reduceIte]
        refine W_seqK ?_
        refine W_block ?_
        refine W_seqK ?_
        obtain ⟨x9, hx9, ax9, bx9, cx9, hs0_⟩ := bE (f := e_S_api_Tree) tab25 (fun _ => rfl) (by decide) hs0_
        obtain ⟨x10, hx10, ax10, bx10, cx10, hs0_⟩ := bE (f := e_S_api_Tree) tab25 (fun _ => rfl) (by decide) hs0_
        obtain ⟨y11, hy11, hs0_⟩ := bC hs0_
        refine W_drawD tab_ok (by kernel_rfl) [] (by kernel_rfl) ?_
        simp only [push_cast, Nat.reduceAdd, Nat.reduceSub, Nat.reduceMul, Nat.reduceLeDiff, Nat.reduceLT, Nat.reduceEqDiff, ↓reduceIte, reduceCtorEq, Int.reduceBEq, Int.reduceBNe, Nat.reduceBEq, Int.reduceLE, Int.reduceLT, Int.reduceEq, Int.reduceNe, Int.reduceNeg, Nat.reduceDiv, Nat.reduceMod, Nat.reducePow, cast_lit, ax9, bx9, cx9, ax10, bx10, cx10, hN0, hN]
        refine PCall.of (ok_r_centoref07_Same hy11) ?_
        simp only [push_cast, Nat.reduceAdd, Nat.reduceSub, Nat.reduceMul, Nat.reduceLeDiff, Nat.reduceLT, Nat.reduceEqDiff, ↓reduceIte, reduceCtorEq, Int.reduceBEq, Int.reduceBNe, Nat.reduceBEq, Int.reduceLE, Int.reduceLT, Int.reduceEq, Int.reduceNe, Int.reduceNeg, Nat.reduceDiv, Nat.reduceMod, Nat.reducePow, cast_lit, ax9, bx9, cx9, ax10, bx10, cx10, hN0, hN]
        refine W_drop [2, 3, 5, 46] [true, true] ?_
        simp only [push_cast, seval, ↓reduceIte]
        refine W_cond (t := (!y11)) rfl (fun c12 => ?_) (fun c12 => ?_)
        · replace hs0_ := condT c12 hs0_
          refine W_sq [4] (W_regionD tab_ok [] ?_)
          simp only [push_cast, seval, ↓reduceIte, cast_lit, hN0, hN]
          refine W_ret ?_
          try simp only [gthen, gblock]
          have hs0_ := Option.some.inj hs0_; subst hs0_
          refine And.intro (fun h => by cases h) (And.intro rfl (Fit2.of (fit_loc hU rfl rfl ?_) (by omega)))
          simp only [push_cast, seval, ↓reduceIte, cast_lit, hN0, hN]
        · replace hs0_ := condF c12 hs0_
          refine W_skip ?_
          try simp only [gthen, gblock]
          refine W_drop [2, 3, 5] [true, true] ?_
          simp only [push_cast, seval, ↓reduceIte]
          refine W_regionD tab_ok [] ?_
          simp only [push_cast, seval, ↓reduceIte, cast_lit, hN0, hN]
          have hs0_ := Option.some.inj hs0_; subst hs0_
          refine And.intro rfl (Fit2.of (fit_loc hU rfl rfl ?_) (by omega))
          simp only [push_cast, seval, ↓reduceIte, cast_lit, hN0, hN]
      · replace hs0_ := condF c13 hs0_
        refine W_exit ?_
        try simp only [gthen, gblock, ↓reduceIte, Nat.reduceEqDiff]
        have hs0_ := Option.some.inj hs0_; subst hs0_
        refine And.intro (fun h => by cases h) (And.intro rfl (Fit2.of (fit_loc hU rfl rfl ?_) (by omega)))
        simp only [push_cast, seval, ↓reduceIte, cast_lit, hN0, hN]
    rcases z14 with z14 | z14
    · dsimp only [SumJ] at hw h
      refine W_blockR hw ?_
      try simp only [gthen, gblock, ↓reduceIte, Nat.reduceEqDiff]
      have h := Option.some.inj h; subst h
      refine fin_loc (.inr rfl) hU [.val (.bool false)] (by omega) ?_
      simp only [push_cast, seval, ↓reduceIte, cast_lit, Try.results25, hN0, hN]
    · dsimp only [SumJ] at hw h
      refine W_blockX hw ?_
      try simp only [gthen, gblock, ↓reduceIte, Nat.reduceEqDiff]
      refine W_drop [] [false, false] ?_
      simp only [push_cast, seval, ↓reduceIte]
      refine W_sq [4] (W_regionD tab_ok [] ?_)
      simp only [push_cast, seval, ↓reduceIte, cast_lit, hN0, hN]
      refine W_ret ?_
      try simp only [gthen, gblock]
      have h := Option.some.inj h; subst h
      refine fin_loc (.inr rfl) hU [.val (.bool true)] (by omega) ?_
      simp only [push_cast, seval, ↓reduceIte, cast_lit, Try.results25, hN0, hN]
theorem lv_centoref07_Same_ok : ∀ k, (∀ {a0 : S_api_Tree} {a1 : S_api_Tree} {r : Bool} {O : Objs} {n : Nat}, (lv_centoref07_Same k) a0 a1 = some r → GTo Try.prog 25 [.agg (c_S_api_Tree a0), .agg (c_S_api_Tree a1)] O n (.val (.bool r)) O n) := fun k => by
  induction k with
  | zero => exact @fun a0 a1 r O n h => (nomatch (show (none : Option _) = some _ from h))
  | succ k ih => exact @fun a0 a1 r O n h => okb_centoref07_Same (ih)  h
theorem ok_centoref07_Same {a0 : S_api_Tree} {a1 : S_api_Tree} {r : Bool} {O : Objs} {n : Nat} (h : m_centoref07_Same a0 a1 = some r) : GTo Try.prog 25 [.agg (c_S_api_Tree a0), .agg (c_S_api_Tree a1)] O n (.val (.bool r)) O n := by
  obtain ⟨k, hk⟩ := lim_some h
  exact (lv_centoref07_Same_ok k)  hk
theorem ok_centoref22_sameTrees {a0 : (List S_api_Tree)} {a1 : (List S_api_Tree)} {r : Bool} {O : Objs} {n : Nat} (h : m_centoref22_sameTrees a0 a1 = some r) : GTo Try.prog 52 [.sl a0.length (fl e_S_api_Tree a0), .sl a1.length (fl e_S_api_Tree a1)] O n (.val (.bool r)) O n := by
  unfold m_centoref22_sameTrees at h
  refine fn_of tab_ok Try.call52 Try.func52 rfl (Nat.le_of_ble_eq_true rfl) (Nat.le_refl _) fun hU => ?_
  have hN0 : O n = none := hU.fresh _ (Nat.le_refl _)
  have hN : ∀ k, O (n + k) = none := fun k => hU.fresh _ (Nat.le_add_right _ _)
  show W _ _ _ _ ⟨27, [], [(0, .sl a0.length (fl e_S_api_Tree a0)), (1, .sl a1.length (fl e_S_api_Tree a1))]⟩ (Loc O n []) _
  refine W_sq [0, 1] (W_regionD tab_ok [] ?_)
  simp only [push_cast, seval, ↓reduceIte, cast_lit, hN0, hN]
  refine W_seqK ?_
  refine W_sq [0, 1, 10] (W_regionD tab_ok [] ?_)
  simp only [push_cast, seval, ↓reduceIte, cast_lit, hN0, hN]
  refine W_cond (t := ((a0.length : Int) != (a1.length : Int))) rfl (fun c10 => ?_) (fun c10 => ?_)
  · replace h := condT c10 h
    refine W_sq [4] (W_regionD tab_ok [] ?_)
    simp only [push_cast, seval, ↓reduceIte, cast_lit, hN0, hN]
    refine W_ret ?_
    try simp only [gthen, gblock]
    have h := Option.some.inj h; subst h
    refine fin_loc (.inr rfl) hU [.val (.bool false)] (by omega) ?_
    simp only [push_cast, seval, ↓reduceIte, cast_lit, Try.results52, hN0, hN]
  · replace h := condF c10 h
    refine W_skip ?_
    try simp only [gthen, gblock]
    refine W_drop [0, 1] [] ?_
    simp only [push_cast, seval, ↓reduceIte]
    refine W_seqK ?_
    refine W_sq [0, 1, 5] (W_regionD tab_ok [] ?_)
    simp only [push_cast, seval, ↓reduceIte, cast_lit, hN0, hN]
    refine W_drop [0, 1, 5] [] ?_
    simp only [push_cast, seval, ↓reduceIte]
    obtain ⟨z9, hz9, h⟩ := bC h
    refine W_sumB (J := (SumJ (fun z9 => JR n (⟨27, [], [(4, .val (.bool false))]⟩ : Env) (Loc O n []) n) (fun z9 => JX 0 n (⟨27, [], []⟩ : Env) (Loc O n []) n))) (z := z9) ?_ fun hw => ?_
    · refine W_loopJ hz9 (fun s0_ => ⟨27, [], [(0, .sl a0.length (fl e_S_api_Tree a0)), (1, .sl a1.length (fl e_S_api_Tree a1)), (5, .val (.int .i64 s0_))]⟩) (fun s0_ => (Loc O n [])) (SumJ (fun z9 => JR n (⟨27, [], [(4, .val (.bool false))]⟩ : Env) (Loc O n []) n) (fun z9 => JX 0 n (⟨27, [], []⟩ : Env) (Loc O n []) n)) ?_
      intro s0_ x0_ hs0_
      unfold m_centoref22_sameTrees_L0 at hs0_
      try dsimp only
      refine W_seqK ?_
      refine W_sq [0, 1, 5, 14] (W_regionD tab_ok [] ?_)
      simp only [push_cast, seval, ↓reduceIte, cast_lit, hN0, hN]
      refine W_cond (t := (decide (s0_ < (a0.length : Int)))) rfl (fun c8 => ?_) (fun c8 => ?_)
      · replace hs0_ := condT c8 hs0_
        refine W_skip ?_
        try simp only [gthen, gblock]
        refine W_drop [0, 1, 5] [] ?_
        simp only [push_cast, seval, ↓reduceIte]
        refine W_seqK ?_
        refine W_block ?_
        refine W_seqK ?_
        obtain ⟨x4, hx4, ax4, bx4, cx4, hs0_⟩ := bE (f := e_S_api_Tree) tab25 (fun _ => rfl) (by decide) hs0_
        obtain ⟨x5, hx5, ax5, bx5, cx5, hs0_⟩ := bE (f := e_S_api_Tree) tab25 (fun _ => rfl) (by decide) hs0_
        obtain ⟨y6, hy6, hs0_⟩ := bC hs0_
        refine W_drawD tab_ok (by kernel_rfl) [] (by kernel_rfl) ?_
        simp only [push_cast, Nat.reduceAdd, Nat.reduceSub, Nat.reduceMul, Nat.reduceLeDiff, Nat.reduceLT, Nat.reduceEqDiff, ↓reduceIte, reduceCtorEq, Int.reduceBEq, Int.reduceBNe, Nat.reduceBEq, Int.reduceLE, Int.reduceLT, Int.reduceEq, Int.reduceNe, Int.reduceNeg, Nat.reduceDiv, Nat.reduceMod, Nat.reducePow, cast_lit, ax4, bx4, cx4, ax5, bx5, cx5, hN0, hN]
        refine PCall.of (ok_centoref07_Same hy6) ?_
        simp only [push_cast, Nat.reduceAdd, Nat.reduceSub, Nat.reduceMul, Nat.reduceLeDiff, Nat.reduceLT, Nat.reduceEqDiff, ↓reduceIte, reduceCtorEq, Int.reduceBEq, Int.reduceBNe, Nat.reduceBEq, Int.reduceLE, Int.reduceLT, Int.reduceEq, Int.reduceNe, Int.reduceNeg, Nat.reduceDiv, Nat.reduceMod, Nat.reducePow, cast_lit, ax4, bx4, cx4, ax5, bx5, cx5, hN0, hN]
        refine W_drop [0, 1, 5, 26] [] ?_
        simp only [push_cast, seval, ↓reduceIte]
        refine W_cond (t := (!y6)) rfl (fun c7 => ?_) (fun c7 => ?_)
        · replace hs0_ := condT c7 hs0_
          refine W_sq [4] (W_regionD tab_ok [] ?_)
          simp only [push_cast, seval, ↓reduceIte, cast_lit, hN0, hN]
          refine W_ret ?_
          try simp only [gthen, gblock]
          have hs0_ := Option.some.inj hs0_; subst hs0_
          refine And.intro (fun h => by cases h) (And.intro rfl (Fit2.of (fit_loc hU rfl rfl ?_) (by omega)))
          simp only [push_cast, seval, ↓reduceIte, cast_lit, hN0, hN]
        · replace hs0_ := condF c7 hs0_
          refine W_skip ?_
          try simp only [gthen, gblock]
          refine W_drop [0, 1, 5] [] ?_
          simp only [push_cast, seval, ↓reduceIte]
          refine W_regionD tab_ok [] ?_
          simp only [push_cast, seval, ↓reduceIte, cast_lit, hN0, hN]
          have hs0_ := Option.some.inj hs0_; subst hs0_
          refine And.intro rfl (Fit2.of (fit_loc hU rfl rfl ?_) (by omega))
          simp only [push_cast, seval, ↓reduceIte, cast_lit, hN0, hN]
      · replace hs0_ := condF c8 hs0_
        refine W_exit ?_
        try simp only [gthen, gblock, ↓reduceIte, Nat.reduceEqDiff]
        have hs0_ := Option.some.inj hs0_; subst hs0_
        refine And.intro (fun h => by cases h) (And.intro rfl (Fit2.of (fit_loc hU rfl rfl ?_) (by omega)))
        simp only [push_cast, seval, ↓reduceIte, cast_lit, hN0, hN]
    rcases z9 with z9 | z9
    · dsimp only [SumJ] at hw h
      refine W_blockR hw ?_
      try simp only [gthen, gblock, ↓reduceIte, Nat.reduceEqDiff]
      have h := Option.some.inj h; subst h
      refine fin_loc (.inr rfl) hU [.val (.bool false)] (by omega) ?_
      simp only [push_cast, seval, ↓reduceIte, cast_lit, Try.results52, hN0, hN]
    · dsimp only [SumJ] at hw h
      refine W_blockX hw ?_
      try simp only [gthen, gblock, ↓reduceIte, Nat.reduceEqDiff]
      refine W_drop [] [] ?_
      simp only [push_cast, seval, ↓reduceIte]
      refine W_sq [4] (W_regionD tab_ok [] ?_)
      simp only [push_cast, seval, ↓reduceIte, cast_lit, hN0, hN]
      refine W_ret ?_
      try simp only [gthen, gblock]
      have h := Option.some.inj h; subst h
      refine fin_loc (.inr rfl) hU [.val (.bool true)] (by omega) ?_
      simp only [push_cast, seval, ↓reduceIte, cast_lit, Try.results52, hN0, hN]
end Go.Proofs.Ytbcgiaijjaocdaa
