/- Part LM2 of this seat's mirrors: functions of the seat's program, and the plain functions that they are; each theorem bears its own conditions. -/
import Derived.Test.YtkdanjfmobibbaaLE
import Derived.Test.YtkdanjfmobibbaaLM1
namespace Go.Proofs.Ytkdanjfmobibbaa
open Go.RowKit
set_option linter.unusedVariables false
set_option linter.unusedSimpArgs false
set_option maxRecDepth 100000
set_option maxHeartbeats 4000000
attribute [local push_cast] gfork_t gfork_f pfork_t pfork_f gthen gblock gops_nil gops_plain gops_guard onW gwantB gcalm gact gpick gpickV strip_any strip_val strip_agg strip_tup strip_sl strip_ip strip_row strip_rs strip_rp strip_ref strip_fn strip_when evS wok calmOp Op.operands Call.operands gop onK onP atK List.all_cons List.all_nil Bool.and_true Bool.true_and Bool.and_self Value.oneCell' List.take_zero List.take_succ_cons List.take_nil List.drop_zero List.drop_succ_cons List.drop_nil List.append_nil Nat.add_zero Nat.zero_add gstep gputE ev look genv gbin_ii gbin_bb gbin_ss gbin_pp gbin_rp gbin_ip gbin_ll gbin_aa geqS geqF gint gunary gconvert gload gcells gpart_lit gstore cellsOf_agg cellsOf_val cellsOf_sl cellsOf_ip cellsOf_row cellsOf_rs cellsOf_rp cellsOf_ref cellsOf_fn cellsOf_any cellsOf_tup cellsOf_when cellsOf_gP gput gplace_lit gfieldAddr gstepIn gindexAddr gindex gfield gopt bLo bHi bMx gextract galloc gbox gbuild gfill gplaces gbuildSlice gmake glen gappend gsrc gbuiltin gnil live_any live_val live_agg live_tup live_sl live_ip live_fn live_when live_ref live_rs live_rp live_row live_gP gres gone prun_nil prun_plain prun_guard pop TK.isAgg one_any one_val one_agg one_tup one_when one_sl one_ip one_row one_rs one_rp one_ref one_fn G.under G.unders List.getD_cons_zero List.getD_cons_succ List.set_cons_zero List.set_cons_succ List.map_cons List.map_nil List.toList_toArray Array.toList_append Option.toArray_none Option.toArray_some Array.toList_map Option.map_some Option.map_none Option.bind_some Option.bind_none List.getElem?_cons_zero List.getElem?_cons_succ List.getElem?_nil List.nil_append List.cons_append List.replicate_succ List.replicate_zero List.length_cons List.length_nil and_true true_and and_false false_and Bool.true_eq_false Bool.false_eq_true forall_const false_implies implies_true IntKind.bits if_true if_false ite_true ite_false eq_self true_implies false_or or_false or_true true_or not_true_eq_false not_false_eq_true decide_true decide_false decide_eq_true_eq decide_eq_false_iff_not beq_iff_eq bne_iff_ne ne_eq Bool.not_eq_true Bool.not_eq_false beq_eq_false_iff_ne bne_eq_false_iff_eq beq_self_eq_true bne_self_eq_false Option.some.injEq exists_eq_left' exists_eq_left ge_iff_le gt_iff_lt decide_not Bool.not_true Bool.not_false imp_self gquiet cond_true cond_false beqT beqF Bool.not_not Bool.and_false Bool.false_and Bool.or_true Bool.true_or Bool.or_false Bool.false_or Loc_at Loc_at0 Loc_upd Loc_upd0 Loc_push Loc_push0 Option.join_some Nat.add_assoc Int.toNat_natCast eI eB eS eL fl_nil gopsD_nil gopsD_plain gopsD_t gopsD_f gopsD_n onKD onWD prunD_nil prunD_plain prunD_t prunD_f prunD_n onPD fitO fitO1 sameO fitL fl_append fl_one List.length_append G.agg.injEq G.row.injEq G.ref.injEq G.val.injEq G.sl.injEq G.tup.injEq Value.int.injEq Value.bool.injEq Value.string.injEq List.cons.injEq exists_and_left exists_const List.flatten_cons List.flatten_nil Int.le_refl Nat.le_refl upd_updU Loc_out Loc_updo Bool.not_eq_true' Bool.not_eq_false' wkl_nil wkl_cons wk_any wk_val wk_agg wk_tup wk_sl wk_fn List.size_toArray renO renO1 G.ren G.rens renL rho_at rho_at0 gP_none gP_some strip_gP wok_gP one_gP G.fn.injEq wk_slnil wk_slrow wk_slrs wk_ip wk_ipref wk_row wk_rs wk_rp wk_ref locLt0 locLt Option.join_none upd_same fl_cons undef keepL Arr.len Arr.put_eq prunB_nil prunB_bar prunB_bart prunB_plain prunB_t prunB_f prunB_n onB onBP gcopy setI_len Loc_cat0 Loc_cat1 Loc_cat2 Loc_cat3 Loc_cat4 Loc_cat5 noObjs_at prunK_nil prunK_bar prunK_pass prunK_plain prunK_low prunK_pt prunK_pf prunK_lt prunK_lf onKg onKa onKp popL pickOps lows lowG prunK_shp prunK_fill popH shpOp fillOp fillG rho_low rens_app Loc_cat6 Loc_cat7 Loc_cat8 Loc_cat9 Loc_cat10 Loc_cat11 Loc_cat12 Loc_cat13 Loc_cat14 Loc_cat15 Loc_cat16 dropM prT kdOf tab2 tkind2 tab3 tkind3 tab4 tkind4 tab5 tkind5 tab6 tkind6 tab7 tkind7 tab8 tkind8 tab9 tkind9 tab10 tkind10 tab11 tkind11 tab12 tkind12 tab13 tkind13 tab14 tkind14 tab15 tkind15 tab16 tkind16 tab17 tkind17 tab18 tkind18 tab19 tkind19 tab21 tkind21 tab22 tkind22 tab23 tkind23 tab25 tkind25 tab28 tkind28 tab33 tkind33 tab34 tkind34 tab35 tkind35 tab38 tkind38 tab45 tkind45 tab48 tkind48 tab50 tkind50 tab55 tkind55 tab56 tkind56 tab73 tkind73 tab75 tkind75 tab77 tkind77 tab79 tkind79 tab80 tkind80 tab81 tkind81 tab82 tkind82 tab83 tkind83 tab85 tkind85 tab86 tkind86 tab87 tkind87 tab88 tkind88 tab89 tkind89 tab91 tkind91 tab92 tkind92 tab96 tkind96 tab104 tkind104 tab105 tkind105 tab110 tkind110 tab116 tkind116 e_S_centoref17_Step wkl_e_S_centoref17_Step wka_e_S_centoref17_Step len_e_S_centoref17_Step one_e_S_centoref17_Step wkp_e_S_centoref17_Step undp_e_S_centoref17_Step rens_e_S_centoref17_Step renp_e_S_centoref17_Step und_e_S_centoref17_Step wkl_eI_i64 wka_eI_i64 len_eI_i64 one_eI_i64 wkp_eI_i64 undp_eI_i64 rens_eI_i64 renp_eI_i64 und_eI_i64
theorem ok_centolaw17_ScriptNormal {a0 : (List S_centoref17_Step)} {r : Bool} {O : Objs} {n : Nat} (h : m_centolaw17_ScriptNormal a0 = some r) : GTo Try.prog 5 [.sl a0.length (fl e_S_centoref17_Step a0)] O n (.val (.bool r)) O n := by
  unfold m_centolaw17_ScriptNormal at h
  refine fn_of tab_ok Try.call5 Try.func5 rfl (Nat.le_of_ble_eq_true rfl) (Nat.le_refl _) fun hU => ?_
  have hN0 : O n = none := hU.fresh _ (Nat.le_refl _)
  have hN : ∀ k, O (n + k) = none := fun k => hU.fresh _ (Nat.le_add_right _ _)
  show W _ _ _ _ ⟨94, [], [(0, .sl a0.length (fl e_S_centoref17_Step a0))]⟩ (Loc O n []) _
  refine W_sq [0] (W_regionD tab_ok [] ?_)
  simp only [push_cast, Nat.reduceAdd, Nat.reduceSub, Nat.reduceMul, Nat.reduceLeDiff, Nat.reduceLT, Nat.reduceEqDiff, ↓reduceIte, reduceCtorEq, Int.reduceBEq, Int.reduceBNe, Nat.reduceBEq, Int.reduceLE, Int.reduceLT, Int.reduceEq, Int.reduceNe, Int.reduceNeg, Nat.reduceDiv, Nat.reduceMod, Nat.reducePow, cast_lit, hN0, hN]
  refine W_seqK ?_
  obtain ⟨y2, hy2, h⟩ := bC h
  refine W_regionD tab_ok [] ?_
  simp only [push_cast, Nat.reduceAdd, Nat.reduceSub, Nat.reduceMul, Nat.reduceLeDiff, Nat.reduceLT, Nat.reduceEqDiff, ↓reduceIte, reduceCtorEq, Int.reduceBEq, Int.reduceBNe, Nat.reduceBEq, Int.reduceLE, Int.reduceLT, Int.reduceEq, Int.reduceNe, Int.reduceNeg, Nat.reduceDiv, Nat.reduceMod, Nat.reducePow, cast_lit, hN0, hN]
  refine (ok_centolaw17_few hy2).then ?_
  simp only [push_cast, Nat.reduceAdd, Nat.reduceSub, Nat.reduceMul, Nat.reduceLeDiff, Nat.reduceLT, Nat.reduceEqDiff, ↓reduceIte, reduceCtorEq, Int.reduceBEq, Int.reduceBNe, Nat.reduceBEq, Int.reduceLE, Int.reduceLT, Int.reduceEq, Int.reduceNe, Int.reduceNeg, Nat.reduceDiv, Nat.reduceMod, Nat.reducePow, cast_lit, hN0, hN]
  refine W_drop [0] [] ?_
  simp only [push_cast, seval, ↓reduceIte]
  refine W_seqK ?_
  obtain ⟨y4, hy4, h⟩ := bC h
  refine W_regionD tab_ok [] ?_
  simp only [push_cast, Nat.reduceAdd, Nat.reduceSub, Nat.reduceMul, Nat.reduceLeDiff, Nat.reduceLT, Nat.reduceEqDiff, ↓reduceIte, reduceCtorEq, Int.reduceBEq, Int.reduceBNe, Nat.reduceBEq, Int.reduceLE, Int.reduceLT, Int.reduceEq, Int.reduceNe, Int.reduceNeg, Nat.reduceDiv, Nat.reduceMod, Nat.reducePow, cast_lit, hN0, hN]
  refine (ok_centolaw17_Mine hy4).then ?_
  simp only [push_cast, Nat.reduceAdd, Nat.reduceSub, Nat.reduceMul, Nat.reduceLeDiff, Nat.reduceLT, Nat.reduceEqDiff, ↓reduceIte, reduceCtorEq, Int.reduceBEq, Int.reduceBNe, Nat.reduceBEq, Int.reduceLE, Int.reduceLT, Int.reduceEq, Int.reduceNe, Int.reduceNeg, Nat.reduceDiv, Nat.reduceMod, Nat.reducePow, cast_lit, hN0, hN]
  refine W_drop [0, 3] [] ?_
  simp only [push_cast, seval, ↓reduceIte]
  refine W_seqK ?_
  obtain ⟨y6, hy6, h⟩ := bC h
  refine W_regionD tab_ok [] ?_
  simp only [push_cast, Nat.reduceAdd, Nat.reduceSub, Nat.reduceMul, Nat.reduceLeDiff, Nat.reduceLT, Nat.reduceEqDiff, ↓reduceIte, reduceCtorEq, Int.reduceBEq, Int.reduceBNe, Nat.reduceBEq, Int.reduceLE, Int.reduceLT, Int.reduceEq, Int.reduceNe, Int.reduceNeg, Nat.reduceDiv, Nat.reduceMod, Nat.reducePow, cast_lit, hN0, hN]
  refine (ok_script_Sizes hy6).then ?_
  simp only [push_cast, Nat.reduceAdd, Nat.reduceSub, Nat.reduceMul, Nat.reduceLeDiff, Nat.reduceLT, Nat.reduceEqDiff, ↓reduceIte, reduceCtorEq, Int.reduceBEq, Int.reduceBNe, Nat.reduceBEq, Int.reduceLE, Int.reduceLT, Int.reduceEq, Int.reduceNe, Int.reduceNeg, Nat.reduceDiv, Nat.reduceMod, Nat.reducePow, cast_lit, hN0, hN]
  refine W_drop [0, 3, 4, 5, 6] [] ?_
  simp only [push_cast, seval, ↓reduceIte]
  refine W_seqK ?_
  obtain ⟨y8, hy8, h⟩ := bC h
  refine W_regionD tab_ok [] ?_
  simp only [push_cast, Nat.reduceAdd, Nat.reduceSub, Nat.reduceMul, Nat.reduceLeDiff, Nat.reduceLT, Nat.reduceEqDiff, ↓reduceIte, reduceCtorEq, Int.reduceBEq, Int.reduceBNe, Nat.reduceBEq, Int.reduceLE, Int.reduceLT, Int.reduceEq, Int.reduceNe, Int.reduceNeg, Nat.reduceDiv, Nat.reduceMod, Nat.reducePow, cast_lit, hN0, hN]
  refine (ok_centoref17_Sizes hy8).then ?_
  simp only [push_cast, Nat.reduceAdd, Nat.reduceSub, Nat.reduceMul, Nat.reduceLeDiff, Nat.reduceLT, Nat.reduceEqDiff, ↓reduceIte, reduceCtorEq, Int.reduceBEq, Int.reduceBNe, Nat.reduceBEq, Int.reduceLE, Int.reduceLT, Int.reduceEq, Int.reduceNe, Int.reduceNeg, Nat.reduceDiv, Nat.reduceMod, Nat.reducePow, cast_lit, hN0, hN]
  refine W_drop [0, 3, 4, 5, 6, 7, 8, 9] [] ?_
  simp only [push_cast, seval, ↓reduceIte]
  refine W_seqK ?_
  refine W_sq [0, 3, 40] (W_regionD tab_ok [none, none, none, none, none, none] ?_)
  simp only [push_cast, Nat.reduceAdd, Nat.reduceSub, Nat.reduceMul, Nat.reduceLeDiff, Nat.reduceLT, Nat.reduceEqDiff, ↓reduceIte, reduceCtorEq, Int.reduceBEq, Int.reduceBNe, Nat.reduceBEq, Int.reduceLE, Int.reduceLT, Int.reduceEq, Int.reduceNe, Int.reduceNeg, Nat.reduceDiv, Nat.reduceMod, Nat.reducePow, cast_lit, hN0, hN]
  repeat (with_reducible refine And.intro (by first | (intro h0; simp only [h0, and_self]; done) | (intro h0; simp only [h0, Bool.not_false, Bool.not_true, Bool.true_and, Bool.and_true, true_and, and_true, and_self, imp_self, implies_true, bne_iff_ne, ne_eq, beq_iff_eq]; done) | (intros; simp_all; done) | exact True.intro) ?_)
  refine W_cond (t := (cond (cond (y6.1 != y8.1) true (y6.2.1 != y8.2.1)) true (y6.2.2 != y8.2.2))) rfl (fun c70 => ?_) (fun c70 => ?_)
  · replace h := condT c70 h
    refine W_sq [2] (W_regionD tab_ok [] ?_)
    simp only [push_cast, Nat.reduceAdd, Nat.reduceSub, Nat.reduceMul, Nat.reduceLeDiff, Nat.reduceLT, Nat.reduceEqDiff, ↓reduceIte, reduceCtorEq, Int.reduceBEq, Int.reduceBNe, Nat.reduceBEq, Int.reduceLE, Int.reduceLT, Int.reduceEq, Int.reduceNe, Int.reduceNeg, Nat.reduceDiv, Nat.reduceMod, Nat.reducePow, cast_lit, hN0, hN]
    refine W_ret ?_
    try simp only [gthen, gblock]
    have h := Option.some.inj h; subst h
    refine fin_loc (.inr rfl) hU [.val (.bool false)] (by omega) ?_
    simp only [push_cast, Nat.reduceAdd, Nat.reduceSub, Nat.reduceMul, Nat.reduceLeDiff, Nat.reduceLT, Nat.reduceEqDiff, ↓reduceIte, reduceCtorEq, Int.reduceBEq, Int.reduceBNe, Nat.reduceBEq, Int.reduceLE, Int.reduceLT, Int.reduceEq, Int.reduceNe, Int.reduceNeg, Nat.reduceDiv, Nat.reduceMod, Nat.reducePow, cast_lit, Try.results5, hN0, hN]
  · replace h := condF c70 h
    refine W_skip ?_
    try simp only [gthen, gblock]
    refine W_drop [0, 3] [] ?_
    simp only [push_cast, seval, ↓reduceIte]
    obtain ⟨y11, hy11, ey11, h⟩ := bY (f := (eI .i64)) (cs := [.val (.int .i64 0), .val (.int .i64 0), .val (.int .i64 0)]) rfl h
    have g12 := congrArg (GObj.mk false 28 3 1) ey11
    refine W_sq [0, 3, 10] (W_regionD tab_ok [] ?_)
    simp only [push_cast, Nat.reduceAdd, Nat.reduceSub, Nat.reduceMul, Nat.reduceLeDiff, Nat.reduceLT, Nat.reduceEqDiff, ↓reduceIte, reduceCtorEq, Int.reduceBEq, Int.reduceBNe, Nat.reduceBEq, Int.reduceLE, Int.reduceLT, Int.reduceEq, Int.reduceNe, Int.reduceNeg, Nat.reduceDiv, Nat.reduceMod, Nat.reducePow, cast_lit, g12, hN0, hN]
    refine W_seqK ?_
    refine W_sq [0, 3, 10, 11] (W_regionD tab_ok [] ?_)
    simp only [push_cast, Nat.reduceAdd, Nat.reduceSub, Nat.reduceMul, Nat.reduceLeDiff, Nat.reduceLT, Nat.reduceEqDiff, ↓reduceIte, reduceCtorEq, Int.reduceBEq, Int.reduceBNe, Nat.reduceBEq, Int.reduceLE, Int.reduceLT, Int.reduceEq, Int.reduceNe, Int.reduceNeg, Nat.reduceDiv, Nat.reduceMod, Nat.reducePow, cast_lit, hN0, hN]
    refine W_drop [0, 3, 10, 11] [true] ?_
    simp only [push_cast, seval, ↓reduceIte]
    obtain ⟨z29, hz29, h⟩ := bC h
    refine W_blockX (E' := ⟨94, [], [(0, .sl y2.length (fl e_S_centoref17_Step y2)), (3, .sl y4.length (fl e_S_centoref17_Step y4)), (10, .ref n 0)]⟩) (O' := (Loc O n [some ⟨false, 28, 3, 1, fl (eI .i64) z29.1⟩])) (n0 := (n + 1)) ?_ ?_
    · refine W_loopJ hz29 (fun s0_ => ⟨94, [], [(0, .sl y2.length (fl e_S_centoref17_Step y2)), (3, .sl y4.length (fl e_S_centoref17_Step y4)), (10, .ref n 0), (11, .val (.int .i64 s0_.1))]⟩) (fun s0_ => (Loc O n [some ⟨false, 28, 3, 1, fl (eI .i64) s0_.2.1⟩])) (fun z29 => JX 0 n (⟨94, [], [(0, .sl y2.length (fl e_S_centoref17_Step y2)), (3, .sl y4.length (fl e_S_centoref17_Step y4)), (10, .ref n 0)]⟩ : Env) (Loc O n [some ⟨false, 28, 3, 1, fl (eI .i64) z29.1⟩]) (n + 1)) ?_
      intro s0_ x0_ hs0_
      unfold m_centolaw17_ScriptNormal_L0 at hs0_
      try dsimp only
      refine W_seqK ?_
      refine W_sq [0, 3, 10, 11, 44] (W_regionD tab_ok [] ?_)
      simp only [push_cast, Nat.reduceAdd, Nat.reduceSub, Nat.reduceMul, Nat.reduceLeDiff, Nat.reduceLT, Nat.reduceEqDiff, ↓reduceIte, reduceCtorEq, Int.reduceBEq, Int.reduceBNe, Nat.reduceBEq, Int.reduceLE, Int.reduceLT, Int.reduceEq, Int.reduceNe, Int.reduceNeg, Nat.reduceDiv, Nat.reduceMod, Nat.reducePow, cast_lit, hN0, hN]
      refine W_cond (t := (decide (s0_.1 < (y2.length : Int)))) rfl (fun c28 => ?_) (fun c28 => ?_)
      · replace hs0_ := condT c28 hs0_
        refine W_skip ?_
        try simp only [gthen, gblock]
        refine W_drop [0, 3, 10, 11] [true] ?_
        simp only [push_cast, seval, ↓reduceIte]
        obtain ⟨z13, hz13, hs0_⟩ := bC hs0_
        refine W_seqN (E' := ⟨94, [], [(0, .sl y2.length (fl e_S_centoref17_Step y2)), (3, .sl y4.length (fl e_S_centoref17_Step y4)), (10, .ref n 0), (11, .val (.int .i64 s0_.1))]⟩) (O' := (Loc O n [some ⟨false, 28, 3, 1, fl (eI .i64) z13.1⟩])) (n0 := (n + 1)) ?_ ?_
        · refine W_block ?_
          refine W_seqK ?_
          obtain ⟨x16, hx16, ax16, bx16, cx16, hz13⟩ := bE (f := e_S_centoref17_Step) tab56 (fun _ => rfl) (by decide) hz13
          obtain ⟨y17, hy17, hz13⟩ := bC hz13
          refine W_regionD tab_ok [] ?_
          simp only [push_cast, Nat.reduceAdd, Nat.reduceSub, Nat.reduceMul, Nat.reduceLeDiff, Nat.reduceLT, Nat.reduceEqDiff, ↓reduceIte, reduceCtorEq, Int.reduceBEq, Int.reduceBNe, Nat.reduceBEq, Int.reduceLE, Int.reduceLT, Int.reduceEq, Int.reduceNe, Int.reduceNeg, Nat.reduceDiv, Nat.reduceMod, Nat.reducePow, cast_lit, ax16, bx16, cx16, hN0, hN]
          refine (ok_centoref17_Right hy17).then ?_
          simp only [push_cast, Nat.reduceAdd, Nat.reduceSub, Nat.reduceMul, Nat.reduceLeDiff, Nat.reduceLT, Nat.reduceEqDiff, ↓reduceIte, reduceCtorEq, Int.reduceBEq, Int.reduceBNe, Nat.reduceBEq, Int.reduceLE, Int.reduceLT, Int.reduceEq, Int.reduceNe, Int.reduceNeg, Nat.reduceDiv, Nat.reduceMod, Nat.reducePow, cast_lit, ax16, bx16, cx16, hN0, hN]
          refine W_drop [0, 3, 10, 11, 51] [true] ?_
          simp only [push_cast, seval, ↓reduceIte]
          refine W_cond (t := y17) rfl (fun c27 => ?_) (fun c27 => ?_)
          · replace hz13 := condT c27 hz13
            obtain ⟨x18, hx18, ax18, bx18, cx18, hz13⟩ := bE (f := e_S_centoref17_Step) tab56 (fun _ => rfl) (by decide) hz13
            have g19 := gpart_fld0 (f := e_S_centoref17_Step) (sz := 2) tab3 (fun _ => rfl) (by decide) (by decide) hx18
            have g21 := gpart_fld0 (f := e_S_centoref17_Step) (sz := 2) tab3 (fun _ => rfl) (by decide) (by decide) hx18
            obtain ⟨x22, hx22, ax22, bx22, cx22, hz13⟩ := bEA (f := (eI .i64)) (b := 3) rfl tab3 (fun _ => rfl) (by decide) hz13
            have g24 := gpart_fld (f := e_S_centoref17_Step) (off := 1) (sz := 2) tab3 (fun _ => rfl) (by decide) (by decide) hx18
            have gu26 : gplace (fl (eI .i64) s0_.2.1) [.val (.int .i64 (IntKind.i64.wrap (x22 + x18.N)))] (Int.toNat x18.Kind * 1) = some (fl (eI .i64) (setI s0_.2.1 x18.Kind (IntKind.i64.wrap (x22 + x18.N)))) := gplace_el (f := (eI .i64)) (ti := ⟨.bool, 1, 0, [], false⟩) (x := (IntKind.i64.wrap (x22 + x18.N))) (fun _ => rfl) (getI_nat hx22)
            refine W_drawF tab_ok (by kernel_rfl) [false, false, false, false, false, false, false, false, false, false, false, false, false, false, false, false, false, false, false, true] [] (by kernel_rfl) ?_
            simp only [push_cast, Nat.reduceAdd, Nat.reduceSub, Nat.reduceMul, Nat.reduceLeDiff, Nat.reduceLT, Nat.reduceEqDiff, ↓reduceIte, reduceCtorEq, Int.reduceBEq, Int.reduceBNe, Nat.reduceBEq, Int.reduceLE, Int.reduceLT, Int.reduceEq, Int.reduceNe, Int.reduceNeg, Nat.reduceDiv, Nat.reduceMod, Nat.reducePow, cast_lit, ax18, bx18, cx18, g19, g21, ax22, bx22, cx22, g24, gu26, hN0, hN]
            have hz13 := Option.some.inj hz13; subst hz13
            refine And.intro rfl (Fit2.of (fit_loc hU rfl rfl ?_) (by omega))
            simp only [push_cast, Nat.reduceAdd, Nat.reduceSub, Nat.reduceMul, Nat.reduceLeDiff, Nat.reduceLT, Nat.reduceEqDiff, ↓reduceIte, reduceCtorEq, Int.reduceBEq, Int.reduceBNe, Nat.reduceBEq, Int.reduceLE, Int.reduceLT, Int.reduceEq, Int.reduceNe, Int.reduceNeg, Nat.reduceDiv, Nat.reduceMod, Nat.reducePow, cast_lit, ax18, bx18, cx18, g19, g21, ax22, bx22, cx22, g24, gu26, hN0, hN]
          · replace hz13 := condF c27 hz13
            refine W_skip ?_
            try simp only [gthen, gblock]
            have hz13 := Option.some.inj hz13; subst hz13
            refine And.intro rfl (Fit2.of (fit_loc hU rfl rfl ?_) (by omega))
            simp only [push_cast, Nat.reduceAdd, Nat.reduceSub, Nat.reduceMul, Nat.reduceLeDiff, Nat.reduceLT, Nat.reduceEqDiff, ↓reduceIte, reduceCtorEq, Int.reduceBEq, Int.reduceBNe, Nat.reduceBEq, Int.reduceLE, Int.reduceLT, Int.reduceEq, Int.reduceNe, Int.reduceNeg, Nat.reduceDiv, Nat.reduceMod, Nat.reducePow, cast_lit, hN0, hN]
        refine W_regionD tab_ok [] ?_
        simp only [push_cast, Nat.reduceAdd, Nat.reduceSub, Nat.reduceMul, Nat.reduceLeDiff, Nat.reduceLT, Nat.reduceEqDiff, ↓reduceIte, reduceCtorEq, Int.reduceBEq, Int.reduceBNe, Nat.reduceBEq, Int.reduceLE, Int.reduceLT, Int.reduceEq, Int.reduceNe, Int.reduceNeg, Nat.reduceDiv, Nat.reduceMod, Nat.reducePow, cast_lit, hN0, hN]
        have hs0_ := Option.some.inj hs0_; subst hs0_
        refine And.intro rfl (Fit2.of (fit_loc hU rfl rfl ?_) (by omega))
        simp only [push_cast, Nat.reduceAdd, Nat.reduceSub, Nat.reduceMul, Nat.reduceLeDiff, Nat.reduceLT, Nat.reduceEqDiff, ↓reduceIte, reduceCtorEq, Int.reduceBEq, Int.reduceBNe, Nat.reduceBEq, Int.reduceLE, Int.reduceLT, Int.reduceEq, Int.reduceNe, Int.reduceNeg, Nat.reduceDiv, Nat.reduceMod, Nat.reducePow, cast_lit, hN0, hN]
      · replace hs0_ := condF c28 hs0_
        refine W_exit ?_
        try simp only [gthen, gblock, ↓reduceIte, Nat.reduceEqDiff]
        have hs0_ := Option.some.inj hs0_; subst hs0_
        refine And.intro (fun h => by cases h) (And.intro rfl (Fit2.of (fit_loc hU rfl rfl ?_) (by omega)))
        simp only [push_cast, Nat.reduceAdd, Nat.reduceSub, Nat.reduceMul, Nat.reduceLeDiff, Nat.reduceLT, Nat.reduceEqDiff, ↓reduceIte, reduceCtorEq, Int.reduceBEq, Int.reduceBNe, Nat.reduceBEq, Int.reduceLE, Int.reduceLT, Int.reduceEq, Int.reduceNe, Int.reduceNeg, Nat.reduceDiv, Nat.reduceMod, Nat.reducePow, cast_lit, hN0, hN]
    try simp only [gthen, gblock, ↓reduceIte, Nat.reduceEqDiff]
    refine W_drop [0, 3, 10] [true] ?_
    simp only [push_cast, seval, ↓reduceIte]
    obtain ⟨z42, hz42, h⟩ := bC h
    refine W_seqN (E' := ⟨94, [], [(2, .val (.bool z42))]⟩) (O' := (Loc O n [none])) (n0 := (n + 1)) ?_ ?_
    · obtain ⟨y55, hy55, hz42⟩ := bC hz42
      obtain ⟨y56, hy56, hz42⟩ := bC hz42
      obtain ⟨y57, hy57, hz42⟩ := bC hz42
      obtain ⟨y58, hy58, hz42⟩ := bC hz42
      rcases Bool.eq_false_or_eq_true y58 with c67 | c67
      · replace hz42 := condT c67 hz42
        obtain ⟨y59, hy59, hz42⟩ := bC hz42
        obtain ⟨y60, hy60, hz42⟩ := bC hz42
        obtain ⟨y61, hy61, hz42⟩ := bC hz42
        obtain ⟨y62, hy62, hz42⟩ := bC hz42
        rcases Bool.eq_false_or_eq_true y62 with c68 | c68
        · replace hz42 := condT c68 hz42
          try rw [c68] at c67
          obtain ⟨y63, hy63, hz42⟩ := bC hz42
          have g64 := gpart_arr (f := (eI .i64)) z29 tab28 rfl (fun _ => rfl) rfl
          have g65 := geqS_arr tab28 rfl tab3 rfl rfl y63 z29
          rcases Bool.eq_false_or_eq_true (y63.1 == z29.1) with c69 | c69
          · replace hz42 := condT c69 hz42
            try rw [c69] at c67
            try rw [c69] at c68
            obtain ⟨y66, hy66, hz42⟩ := bC hz42
            refine W_drawD tab_ok (by kernel_rfl) [some true, some true, some true, some true, some true, some true, some true, some true, some true, some true, some true] (by kernel_rfl) ?_
            simp only [push_cast, Nat.reduceAdd, Nat.reduceSub, Nat.reduceMul, Nat.reduceLeDiff, Nat.reduceLT, Nat.reduceEqDiff, ↓reduceIte, reduceCtorEq, Int.reduceBEq, Int.reduceBNe, Nat.reduceBEq, Int.reduceLE, Int.reduceLT, Int.reduceEq, Int.reduceNe, Int.reduceNeg, Nat.reduceDiv, Nat.reduceMod, Nat.reducePow, cast_lit, c67, c68, g64, g65, c69, hN0, hN]
            refine PCall.of (ok_script_Normal hy55) ?_
            simp only [push_cast, Nat.reduceAdd, Nat.reduceSub, Nat.reduceMul, Nat.reduceLeDiff, Nat.reduceLT, Nat.reduceEqDiff, ↓reduceIte, reduceCtorEq, Int.reduceBEq, Int.reduceBNe, Nat.reduceBEq, Int.reduceLE, Int.reduceLT, Int.reduceEq, Int.reduceNe, Int.reduceNeg, Nat.reduceDiv, Nat.reduceMod, Nat.reducePow, cast_lit, c67, c68, g64, g65, c69, hN0, hN]
            refine PCall.of (ok_centolaw17_Theirs hy56) ?_
            simp only [push_cast, Nat.reduceAdd, Nat.reduceSub, Nat.reduceMul, Nat.reduceLeDiff, Nat.reduceLT, Nat.reduceEqDiff, ↓reduceIte, reduceCtorEq, Int.reduceBEq, Int.reduceBNe, Nat.reduceBEq, Int.reduceLE, Int.reduceLT, Int.reduceEq, Int.reduceNe, Int.reduceNeg, Nat.reduceDiv, Nat.reduceMod, Nat.reducePow, cast_lit, c67, c68, g64, g65, c69, hN0, hN]
            refine PCall.of (ok_centoref17_Normal hy57) ?_
            simp only [push_cast, Nat.reduceAdd, Nat.reduceSub, Nat.reduceMul, Nat.reduceLeDiff, Nat.reduceLT, Nat.reduceEqDiff, ↓reduceIte, reduceCtorEq, Int.reduceBEq, Int.reduceBNe, Nat.reduceBEq, Int.reduceLE, Int.reduceLT, Int.reduceEq, Int.reduceNe, Int.reduceNeg, Nat.reduceDiv, Nat.reduceMod, Nat.reducePow, cast_lit, c67, c68, g64, g65, c69, hN0, hN]
            refine PCall.of (ok_centoref17_Same hy58) ?_
            simp only [push_cast, Nat.reduceAdd, Nat.reduceSub, Nat.reduceMul, Nat.reduceLeDiff, Nat.reduceLT, Nat.reduceEqDiff, ↓reduceIte, reduceCtorEq, Int.reduceBEq, Int.reduceBNe, Nat.reduceBEq, Int.reduceLE, Int.reduceLT, Int.reduceEq, Int.reduceNe, Int.reduceNeg, Nat.reduceDiv, Nat.reduceMod, Nat.reducePow, cast_lit, c67, c68, g64, g65, c69, hN0, hN]
            refine PCall.of (ok_script_Back hy59) ?_
            simp only [push_cast, Nat.reduceAdd, Nat.reduceSub, Nat.reduceMul, Nat.reduceLeDiff, Nat.reduceLT, Nat.reduceEqDiff, ↓reduceIte, reduceCtorEq, Int.reduceBEq, Int.reduceBNe, Nat.reduceBEq, Int.reduceLE, Int.reduceLT, Int.reduceEq, Int.reduceNe, Int.reduceNeg, Nat.reduceDiv, Nat.reduceMod, Nat.reducePow, cast_lit, c67, c68, g64, g65, c69, hN0, hN]
            refine PCall.of (ok_centolaw17_Theirs hy60) ?_
            simp only [push_cast, Nat.reduceAdd, Nat.reduceSub, Nat.reduceMul, Nat.reduceLeDiff, Nat.reduceLT, Nat.reduceEqDiff, ↓reduceIte, reduceCtorEq, Int.reduceBEq, Int.reduceBNe, Nat.reduceBEq, Int.reduceLE, Int.reduceLT, Int.reduceEq, Int.reduceNe, Int.reduceNeg, Nat.reduceDiv, Nat.reduceMod, Nat.reducePow, cast_lit, c67, c68, g64, g65, c69, hN0, hN]
            refine PCall.of (ok_centoref17_Back hy61) ?_
            simp only [push_cast, Nat.reduceAdd, Nat.reduceSub, Nat.reduceMul, Nat.reduceLeDiff, Nat.reduceLT, Nat.reduceEqDiff, ↓reduceIte, reduceCtorEq, Int.reduceBEq, Int.reduceBNe, Nat.reduceBEq, Int.reduceLE, Int.reduceLT, Int.reduceEq, Int.reduceNe, Int.reduceNeg, Nat.reduceDiv, Nat.reduceMod, Nat.reducePow, cast_lit, c67, c68, g64, g65, c69, hN0, hN]
            refine PCall.of (ok_centoref17_Same hy62) ?_
            simp only [push_cast, Nat.reduceAdd, Nat.reduceSub, Nat.reduceMul, Nat.reduceLeDiff, Nat.reduceLT, Nat.reduceEqDiff, ↓reduceIte, reduceCtorEq, Int.reduceBEq, Int.reduceBNe, Nat.reduceBEq, Int.reduceLE, Int.reduceLT, Int.reduceEq, Int.reduceNe, Int.reduceNeg, Nat.reduceDiv, Nat.reduceMod, Nat.reducePow, cast_lit, c67, c68, g64, g65, c69, hN0, hN]
            refine PCall.of (ok_script_Counts hy63) ?_
            simp only [push_cast, Nat.reduceAdd, Nat.reduceSub, Nat.reduceMul, Nat.reduceLeDiff, Nat.reduceLT, Nat.reduceEqDiff, ↓reduceIte, reduceCtorEq, Int.reduceBEq, Int.reduceBNe, Nat.reduceBEq, Int.reduceLE, Int.reduceLT, Int.reduceEq, Int.reduceNe, Int.reduceNeg, Nat.reduceDiv, Nat.reduceMod, Nat.reducePow, cast_lit, c67, c68, g64, g65, c69, hN0, hN]
            refine PCall.of (ok_centolaw17_awake hy66) ?_
            simp only [push_cast, Nat.reduceAdd, Nat.reduceSub, Nat.reduceMul, Nat.reduceLeDiff, Nat.reduceLT, Nat.reduceEqDiff, ↓reduceIte, reduceCtorEq, Int.reduceBEq, Int.reduceBNe, Nat.reduceBEq, Int.reduceLE, Int.reduceLT, Int.reduceEq, Int.reduceNe, Int.reduceNeg, Nat.reduceDiv, Nat.reduceMod, Nat.reducePow, cast_lit, c67, c68, g64, g65, c69, hN0, hN]
            have hz42 := Option.some.inj hz42; subst hz42
            refine And.intro rfl (Fit2.of (fit_loc hU rfl rfl ?_) (by omega))
            simp only [push_cast, Nat.reduceAdd, Nat.reduceSub, Nat.reduceMul, Nat.reduceLeDiff, Nat.reduceLT, Nat.reduceEqDiff, ↓reduceIte, reduceCtorEq, Int.reduceBEq, Int.reduceBNe, Nat.reduceBEq, Int.reduceLE, Int.reduceLT, Int.reduceEq, Int.reduceNe, Int.reduceNeg, Nat.reduceDiv, Nat.reduceMod, Nat.reducePow, cast_lit, c67, c68, g64, g65, c69, hN0, hN]
          · replace hz42 := condF c69 hz42
            try rw [c69] at c67
            try rw [c69] at c68
            refine W_drawD tab_ok (by kernel_rfl) [some true, some true, some true, some true, some true, some true, some true, some true, some true, some true, some false] (by kernel_rfl) ?_
            simp only [push_cast, Nat.reduceAdd, Nat.reduceSub, Nat.reduceMul, Nat.reduceLeDiff, Nat.reduceLT, Nat.reduceEqDiff, ↓reduceIte, reduceCtorEq, Int.reduceBEq, Int.reduceBNe, Nat.reduceBEq, Int.reduceLE, Int.reduceLT, Int.reduceEq, Int.reduceNe, Int.reduceNeg, Nat.reduceDiv, Nat.reduceMod, Nat.reducePow, cast_lit, c67, c68, g64, g65, c69, hN0, hN]
            refine PCall.of (ok_script_Normal hy55) ?_
            simp only [push_cast, Nat.reduceAdd, Nat.reduceSub, Nat.reduceMul, Nat.reduceLeDiff, Nat.reduceLT, Nat.reduceEqDiff, ↓reduceIte, reduceCtorEq, Int.reduceBEq, Int.reduceBNe, Nat.reduceBEq, Int.reduceLE, Int.reduceLT, Int.reduceEq, Int.reduceNe, Int.reduceNeg, Nat.reduceDiv, Nat.reduceMod, Nat.reducePow, cast_lit, c67, c68, g64, g65, c69, hN0, hN]
            refine PCall.of (ok_centolaw17_Theirs hy56) ?_
            simp only [push_cast, Nat.reduceAdd, Nat.reduceSub, Nat.reduceMul, Nat.reduceLeDiff, Nat.reduceLT, Nat.reduceEqDiff, ↓reduceIte, reduceCtorEq, Int.reduceBEq, Int.reduceBNe, Nat.reduceBEq, Int.reduceLE, Int.reduceLT, Int.reduceEq, Int.reduceNe, Int.reduceNeg, Nat.reduceDiv, Nat.reduceMod, Nat.reducePow, cast_lit, c67, c68, g64, g65, c69, hN0, hN]
            refine PCall.of (ok_centoref17_Normal hy57) ?_
            simp only [push_cast, Nat.reduceAdd, Nat.reduceSub, Nat.reduceMul, Nat.reduceLeDiff, Nat.reduceLT, Nat.reduceEqDiff, ↓reduceIte, reduceCtorEq, Int.reduceBEq, Int.reduceBNe, Nat.reduceBEq, Int.reduceLE, Int.reduceLT, Int.reduceEq, Int.reduceNe, Int.reduceNeg, Nat.reduceDiv, Nat.reduceMod, Nat.reducePow, cast_lit, c67, c68, g64, g65, c69, hN0, hN]
            refine PCall.of (ok_centoref17_Same hy58) ?_
            simp only [push_cast, Nat.reduceAdd, Nat.reduceSub, Nat.reduceMul, Nat.reduceLeDiff, Nat.reduceLT, Nat.reduceEqDiff, ↓reduceIte, reduceCtorEq, Int.reduceBEq, Int.reduceBNe, Nat.reduceBEq, Int.reduceLE, Int.reduceLT, Int.reduceEq, Int.reduceNe, Int.reduceNeg, Nat.reduceDiv, Nat.reduceMod, Nat.reducePow, cast_lit, c67, c68, g64, g65, c69, hN0, hN]
            refine PCall.of (ok_script_Back hy59) ?_
            simp only [push_cast, Nat.reduceAdd, Nat.reduceSub, Nat.reduceMul, Nat.reduceLeDiff, Nat.reduceLT, Nat.reduceEqDiff, ↓reduceIte, reduceCtorEq, Int.reduceBEq, Int.reduceBNe, Nat.reduceBEq, Int.reduceLE, Int.reduceLT, Int.reduceEq, Int.reduceNe, Int.reduceNeg, Nat.reduceDiv, Nat.reduceMod, Nat.reducePow, cast_lit, c67, c68, g64, g65, c69, hN0, hN]
            refine PCall.of (ok_centolaw17_Theirs hy60) ?_
            simp only [push_cast, Nat.reduceAdd, Nat.reduceSub, Nat.reduceMul, Nat.reduceLeDiff, Nat.reduceLT, Nat.reduceEqDiff, ↓reduceIte, reduceCtorEq, Int.reduceBEq, Int.reduceBNe, Nat.reduceBEq, Int.reduceLE, Int.reduceLT, Int.reduceEq, Int.reduceNe, Int.reduceNeg, Nat.reduceDiv, Nat.reduceMod, Nat.reducePow, cast_lit, c67, c68, g64, g65, c69, hN0, hN]
            refine PCall.of (ok_centoref17_Back hy61) ?_
            simp only [push_cast, Nat.reduceAdd, Nat.reduceSub, Nat.reduceMul, Nat.reduceLeDiff, Nat.reduceLT, Nat.reduceEqDiff, ↓reduceIte, reduceCtorEq, Int.reduceBEq, Int.reduceBNe, Nat.reduceBEq, Int.reduceLE, Int.reduceLT, Int.reduceEq, Int.reduceNe, Int.reduceNeg, Nat.reduceDiv, Nat.reduceMod, Nat.reducePow, cast_lit, c67, c68, g64, g65, c69, hN0, hN]
            refine PCall.of (ok_centoref17_Same hy62) ?_
            simp only [push_cast, Nat.reduceAdd, Nat.reduceSub, Nat.reduceMul, Nat.reduceLeDiff, Nat.reduceLT, Nat.reduceEqDiff, ↓reduceIte, reduceCtorEq, Int.reduceBEq, Int.reduceBNe, Nat.reduceBEq, Int.reduceLE, Int.reduceLT, Int.reduceEq, Int.reduceNe, Int.reduceNeg, Nat.reduceDiv, Nat.reduceMod, Nat.reducePow, cast_lit, c67, c68, g64, g65, c69, hN0, hN]
            refine PCall.of (ok_script_Counts hy63) ?_
            simp only [push_cast, Nat.reduceAdd, Nat.reduceSub, Nat.reduceMul, Nat.reduceLeDiff, Nat.reduceLT, Nat.reduceEqDiff, ↓reduceIte, reduceCtorEq, Int.reduceBEq, Int.reduceBNe, Nat.reduceBEq, Int.reduceLE, Int.reduceLT, Int.reduceEq, Int.reduceNe, Int.reduceNeg, Nat.reduceDiv, Nat.reduceMod, Nat.reducePow, cast_lit, c67, c68, g64, g65, c69, hN0, hN]
            have hz42 := Option.some.inj hz42; subst hz42
            refine And.intro rfl (Fit2.of (fit_loc hU rfl rfl ?_) (by omega))
            simp only [push_cast, Nat.reduceAdd, Nat.reduceSub, Nat.reduceMul, Nat.reduceLeDiff, Nat.reduceLT, Nat.reduceEqDiff, ↓reduceIte, reduceCtorEq, Int.reduceBEq, Int.reduceBNe, Nat.reduceBEq, Int.reduceLE, Int.reduceLT, Int.reduceEq, Int.reduceNe, Int.reduceNeg, Nat.reduceDiv, Nat.reduceMod, Nat.reducePow, cast_lit, c67, c68, g64, g65, c69, hN0, hN]
        · replace hz42 := condF c68 hz42
          try rw [c68] at c67
          refine W_drawD tab_ok (by kernel_rfl) [some true, some true, some true, some true, some true, some true, some false, some false, some false, some false, some false] (by kernel_rfl) ?_
          simp only [push_cast, Nat.reduceAdd, Nat.reduceSub, Nat.reduceMul, Nat.reduceLeDiff, Nat.reduceLT, Nat.reduceEqDiff, ↓reduceIte, reduceCtorEq, Int.reduceBEq, Int.reduceBNe, Nat.reduceBEq, Int.reduceLE, Int.reduceLT, Int.reduceEq, Int.reduceNe, Int.reduceNeg, Nat.reduceDiv, Nat.reduceMod, Nat.reducePow, cast_lit, c67, c68, hN0, hN]
          refine PCall.of (ok_script_Normal hy55) ?_
          simp only [push_cast, Nat.reduceAdd, Nat.reduceSub, Nat.reduceMul, Nat.reduceLeDiff, Nat.reduceLT, Nat.reduceEqDiff, ↓reduceIte, reduceCtorEq, Int.reduceBEq, Int.reduceBNe, Nat.reduceBEq, Int.reduceLE, Int.reduceLT, Int.reduceEq, Int.reduceNe, Int.reduceNeg, Nat.reduceDiv, Nat.reduceMod, Nat.reducePow, cast_lit, c67, c68, hN0, hN]
          refine PCall.of (ok_centolaw17_Theirs hy56) ?_
          simp only [push_cast, Nat.reduceAdd, Nat.reduceSub, Nat.reduceMul, Nat.reduceLeDiff, Nat.reduceLT, Nat.reduceEqDiff, ↓reduceIte, reduceCtorEq, Int.reduceBEq, Int.reduceBNe, Nat.reduceBEq, Int.reduceLE, Int.reduceLT, Int.reduceEq, Int.reduceNe, Int.reduceNeg, Nat.reduceDiv, Nat.reduceMod, Nat.reducePow, cast_lit, c67, c68, hN0, hN]
          refine PCall.of (ok_centoref17_Normal hy57) ?_
          simp only [push_cast, Nat.reduceAdd, Nat.reduceSub, Nat.reduceMul, Nat.reduceLeDiff, Nat.reduceLT, Nat.reduceEqDiff, ↓reduceIte, reduceCtorEq, Int.reduceBEq, Int.reduceBNe, Nat.reduceBEq, Int.reduceLE, Int.reduceLT, Int.reduceEq, Int.reduceNe, Int.reduceNeg, Nat.reduceDiv, Nat.reduceMod, Nat.reducePow, cast_lit, c67, c68, hN0, hN]
          refine PCall.of (ok_centoref17_Same hy58) ?_
          simp only [push_cast, Nat.reduceAdd, Nat.reduceSub, Nat.reduceMul, Nat.reduceLeDiff, Nat.reduceLT, Nat.reduceEqDiff, ↓reduceIte, reduceCtorEq, Int.reduceBEq, Int.reduceBNe, Nat.reduceBEq, Int.reduceLE, Int.reduceLT, Int.reduceEq, Int.reduceNe, Int.reduceNeg, Nat.reduceDiv, Nat.reduceMod, Nat.reducePow, cast_lit, c67, c68, hN0, hN]
          refine PCall.of (ok_script_Back hy59) ?_
          simp only [push_cast, Nat.reduceAdd, Nat.reduceSub, Nat.reduceMul, Nat.reduceLeDiff, Nat.reduceLT, Nat.reduceEqDiff, ↓reduceIte, reduceCtorEq, Int.reduceBEq, Int.reduceBNe, Nat.reduceBEq, Int.reduceLE, Int.reduceLT, Int.reduceEq, Int.reduceNe, Int.reduceNeg, Nat.reduceDiv, Nat.reduceMod, Nat.reducePow, cast_lit, c67, c68, hN0, hN]
          refine PCall.of (ok_centolaw17_Theirs hy60) ?_
          simp only [push_cast, Nat.reduceAdd, Nat.reduceSub, Nat.reduceMul, Nat.reduceLeDiff, Nat.reduceLT, Nat.reduceEqDiff, ↓reduceIte, reduceCtorEq, Int.reduceBEq, Int.reduceBNe, Nat.reduceBEq, Int.reduceLE, Int.reduceLT, Int.reduceEq, Int.reduceNe, Int.reduceNeg, Nat.reduceDiv, Nat.reduceMod, Nat.reducePow, cast_lit, c67, c68, hN0, hN]
          refine PCall.of (ok_centoref17_Back hy61) ?_
          simp only [push_cast, Nat.reduceAdd, Nat.reduceSub, Nat.reduceMul, Nat.reduceLeDiff, Nat.reduceLT, Nat.reduceEqDiff, ↓reduceIte, reduceCtorEq, Int.reduceBEq, Int.reduceBNe, Nat.reduceBEq, Int.reduceLE, Int.reduceLT, Int.reduceEq, Int.reduceNe, Int.reduceNeg, Nat.reduceDiv, Nat.reduceMod, Nat.reducePow, cast_lit, c67, c68, hN0, hN]
          refine PCall.of (ok_centoref17_Same hy62) ?_
          simp only [push_cast, Nat.reduceAdd, Nat.reduceSub, Nat.reduceMul, Nat.reduceLeDiff, Nat.reduceLT, Nat.reduceEqDiff, ↓reduceIte, reduceCtorEq, Int.reduceBEq, Int.reduceBNe, Nat.reduceBEq, Int.reduceLE, Int.reduceLT, Int.reduceEq, Int.reduceNe, Int.reduceNeg, Nat.reduceDiv, Nat.reduceMod, Nat.reducePow, cast_lit, c67, c68, hN0, hN]
          have hz42 := Option.some.inj hz42; subst hz42
          refine And.intro rfl (Fit2.of (fit_loc hU rfl rfl ?_) (by omega))
          simp only [push_cast, Nat.reduceAdd, Nat.reduceSub, Nat.reduceMul, Nat.reduceLeDiff, Nat.reduceLT, Nat.reduceEqDiff, ↓reduceIte, reduceCtorEq, Int.reduceBEq, Int.reduceBNe, Nat.reduceBEq, Int.reduceLE, Int.reduceLT, Int.reduceEq, Int.reduceNe, Int.reduceNeg, Nat.reduceDiv, Nat.reduceMod, Nat.reducePow, cast_lit, c67, c68, hN0, hN]
      · replace hz42 := condF c67 hz42
        refine W_drawD tab_ok (by kernel_rfl) [some false, some false, some false, some false, some false, some false, some false, some false, some false, some false, some false] (by kernel_rfl) ?_
        simp only [push_cast, Nat.reduceAdd, Nat.reduceSub, Nat.reduceMul, Nat.reduceLeDiff, Nat.reduceLT, Nat.reduceEqDiff, ↓reduceIte, reduceCtorEq, Int.reduceBEq, Int.reduceBNe, Nat.reduceBEq, Int.reduceLE, Int.reduceLT, Int.reduceEq, Int.reduceNe, Int.reduceNeg, Nat.reduceDiv, Nat.reduceMod, Nat.reducePow, cast_lit, c67, hN0, hN]
        refine PCall.of (ok_script_Normal hy55) ?_
        simp only [push_cast, Nat.reduceAdd, Nat.reduceSub, Nat.reduceMul, Nat.reduceLeDiff, Nat.reduceLT, Nat.reduceEqDiff, ↓reduceIte, reduceCtorEq, Int.reduceBEq, Int.reduceBNe, Nat.reduceBEq, Int.reduceLE, Int.reduceLT, Int.reduceEq, Int.reduceNe, Int.reduceNeg, Nat.reduceDiv, Nat.reduceMod, Nat.reducePow, cast_lit, c67, hN0, hN]
        refine PCall.of (ok_centolaw17_Theirs hy56) ?_
        simp only [push_cast, Nat.reduceAdd, Nat.reduceSub, Nat.reduceMul, Nat.reduceLeDiff, Nat.reduceLT, Nat.reduceEqDiff, ↓reduceIte, reduceCtorEq, Int.reduceBEq, Int.reduceBNe, Nat.reduceBEq, Int.reduceLE, Int.reduceLT, Int.reduceEq, Int.reduceNe, Int.reduceNeg, Nat.reduceDiv, Nat.reduceMod, Nat.reducePow, cast_lit, c67, hN0, hN]
        refine PCall.of (ok_centoref17_Normal hy57) ?_
        simp only [push_cast, Nat.reduceAdd, Nat.reduceSub, Nat.reduceMul, Nat.reduceLeDiff, Nat.reduceLT, Nat.reduceEqDiff, ↓reduceIte, reduceCtorEq, Int.reduceBEq, Int.reduceBNe, Nat.reduceBEq, Int.reduceLE, Int.reduceLT, Int.reduceEq, Int.reduceNe, Int.reduceNeg, Nat.reduceDiv, Nat.reduceMod, Nat.reducePow, cast_lit, c67, hN0, hN]
        refine PCall.of (ok_centoref17_Same hy58) ?_
        simp only [push_cast, Nat.reduceAdd, Nat.reduceSub, Nat.reduceMul, Nat.reduceLeDiff, Nat.reduceLT, Nat.reduceEqDiff, ↓reduceIte, reduceCtorEq, Int.reduceBEq, Int.reduceBNe, Nat.reduceBEq, Int.reduceLE, Int.reduceLT, Int.reduceEq, Int.reduceNe, Int.reduceNeg, Nat.reduceDiv, Nat.reduceMod, Nat.reducePow, cast_lit, c67, hN0, hN]
        have hz42 := Option.some.inj hz42; subst hz42
        refine And.intro rfl (Fit2.of (fit_loc hU rfl rfl ?_) (by omega))
        simp only [push_cast, Nat.reduceAdd, Nat.reduceSub, Nat.reduceMul, Nat.reduceLeDiff, Nat.reduceLT, Nat.reduceEqDiff, ↓reduceIte, reduceCtorEq, Int.reduceBEq, Int.reduceBNe, Nat.reduceBEq, Int.reduceLE, Int.reduceLT, Int.reduceEq, Int.reduceNe, Int.reduceNeg, Nat.reduceDiv, Nat.reduceMod, Nat.reducePow, cast_lit, c67, hN0, hN]
    refine W_ret ?_
    try simp only [gthen, gblock]
    have h := Option.some.inj h; subst h
    refine fin_loc (.inr rfl) hU [.val (.bool z42)] (by omega) ?_
    simp only [push_cast, Nat.reduceAdd, Nat.reduceSub, Nat.reduceMul, Nat.reduceLeDiff, Nat.reduceLT, Nat.reduceEqDiff, ↓reduceIte, reduceCtorEq, Int.reduceBEq, Int.reduceBNe, Nat.reduceBEq, Int.reduceLE, Int.reduceLT, Int.reduceEq, Int.reduceNe, Int.reduceNeg, Nat.reduceDiv, Nat.reduceMod, Nat.reducePow, cast_lit, Try.results5, hN0, hN]

end Go.Proofs.Ytkdanjfmobibbaa
