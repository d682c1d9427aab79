/- Part EM3 of this seat's mirrors: functions of the seat's program, and the plain functions that they are; each theorem bears its own conditions. -/
import Derived.Test.YtgffgbdnbjbmoaaEE
import Derived.Test.YtgffgbdnbjbmoaaEM2
namespace Go.Proofs.Ytgffgbdnbjbmoaa
open Go.RowKit
set_option linter.unusedVariables false
set_option linter.unusedSimpArgs false
set_option maxRecDepth 100000
set_option maxHeartbeats 4000000
attribute [local push_cast] Try.results10 Try.results11 Try.results12 Try.results26 Try.results28 Try.results29 Try.results33 Try.results34 Try.results44 Try.results45 Try.results46 Try.results47 Try.results48 Try.results49 Try.results50 Try.results52 Try.results65 Try.results66 Try.results67 Try.results68 Try.results77 Try.results78 Try.results9 vI vB nV sL oR c_S_api_Limits c_S_api_Tree c_S_centoref09_Ref c_S_ptr_Ptr c_S_reader_Ref gfork_t gfork_f pfork_t pfork_f gthen gblock gops_nil gops_plain gops_guard onW gwantB gcalm gact gpick gpickV strip_any strip_val strip_agg strip_tup strip_sl strip_ip strip_row strip_rs strip_rp strip_rl strip_ref strip_fn strip_when evS wok calmOp Op.operands Call.operands gop onK onP atK List.all_cons List.all_nil Bool.and_true Bool.true_and Bool.and_self Value.oneCell' List.take_zero List.take_succ_cons List.take_nil List.drop_zero List.drop_succ_cons List.drop_nil List.append_nil Nat.add_zero Nat.zero_add gstep gputE ev look genv gbin_ii gbin_bb gbin_ss gbin_pp gbin_rp gbin_ip gbin_ll gbin_aa geqS geqF gint gunary gconvert gload gcells gpart_lit gstore cellsOf_agg cellsOf_val cellsOf_sl cellsOf_ip cellsOf_row cellsOf_rs cellsOf_rp cellsOf_rl cellsOf_ref cellsOf_fn cellsOf_any cellsOf_tup cellsOf_when cellsOf_gP gput gplace_lit gfieldAddr gstepIn gindexAddr gindex gfield gopt bLo bHi bMx gextract galloc gbox gbuild gfill gplaces gbuildSlice gmake glen gappend gappendN gsrc gbuiltin gnil live_any live_val live_agg live_tup live_sl live_ip live_fn live_when live_ref live_rs live_rp live_rl live_row live_gP gres gone prun_nil prun_plain prun_guard pop TK.isAgg one_any one_val one_agg one_tup one_when one_sl one_ip one_row one_rs one_rp one_rl one_ref one_fn G.under G.unders List.getD_cons_zero List.getD_cons_succ List.set_cons_zero List.set_cons_succ List.map_cons List.map_nil List.toList_toArray Array.toList_append Option.toArray_none Option.toArray_some Array.toList_map Option.map_some Option.map_none Option.bind_some Option.bind_none List.getElem?_cons_zero List.getElem?_cons_succ List.getElem?_nil List.nil_append List.cons_append List.replicate_succ List.replicate_zero List.length_cons List.length_nil and_true true_and and_false false_and Bool.true_eq_false Bool.false_eq_true forall_const false_implies implies_true IntKind.bits if_true if_false ite_true ite_false eq_self true_implies false_or or_false or_true true_or not_true_eq_false not_false_eq_true decide_true decide_false decide_eq_true_eq decide_eq_false_iff_not beq_iff_eq bne_iff_ne ne_eq Bool.not_eq_true Bool.not_eq_false beq_eq_false_iff_ne bne_eq_false_iff_eq beq_self_eq_true bne_self_eq_false Option.some.injEq exists_eq_left' exists_eq_left ge_iff_le gt_iff_lt decide_not Bool.not_true Bool.not_false imp_self gquiet cond_true cond_false beqT beqF Bool.not_not Bool.and_false Bool.false_and Bool.or_true Bool.true_or Bool.or_false Bool.false_or Loc_at Loc_at0 Loc_upd Loc_upd0 Loc_push Loc_push0 Option.join_some Nat.add_assoc Int.toNat_natCast eI eB eS eL fl_nil gopsD_nil gopsD_plain gopsD_t gopsD_f gopsD_n onKD onWD prunD_nil prunD_plain prunD_t prunD_f prunD_n onPD fitO fitO1 sameO fitL fl_append fl_one List.length_append G.agg.injEq G.row.injEq G.ref.injEq G.val.injEq G.sl.injEq G.tup.injEq Value.int.injEq Value.bool.injEq Value.string.injEq List.cons.injEq exists_and_left exists_const List.flatten_cons List.flatten_nil Int.le_refl Nat.le_refl upd_updU Loc_out Loc_updo Bool.not_eq_true' Bool.not_eq_false' wkl_nil wkl_cons wk_any wk_val wk_agg wk_tup wk_sl wk_fn List.size_toArray renO renO1 G.ren G.rens renL rho_at rho_at0 gP_none gP_some strip_gP wok_gP one_gP G.fn.injEq wk_slnil wk_slrow wk_slrs wk_ip wk_ipref wk_row wk_rs wk_rp wk_rl wk_ref locLt0 locLt Option.join_none upd_same fl_cons undef keepL Arr.len Arr.put_eq prunB_nil prunB_bar prunB_bart prunB_plain prunB_t prunB_f prunB_n onB onBP gcopy setI_len cpyAt_len Loc_cat0 Loc_cat1 Loc_cat2 Loc_cat3 Loc_cat4 Loc_cat5 noObjs_at prunK_nil prunK_bar prunK_pass prunK_plain prunK_low prunK_pt prunK_pf prunK_lt prunK_lf onKg onKa onKp popL pickOps lows lowG prunK_shp prunK_fill popH shpOp fillOp fillG rho_low rens_app Loc_cat6 Loc_cat7 Loc_cat8 Loc_cat9 Loc_cat10 Loc_cat11 Loc_cat12 Loc_cat13 Loc_cat14 Loc_cat15 Loc_cat16 dropM prT kdOf tab2 tkind2 tab3 tkind3 tab4 tkind4 tab5 tkind5 tab6 tkind6 tab7 tkind7 tab8 tkind8 tab9 tkind9 tab10 tkind10 tab11 tkind11 tab12 tkind12 tab13 tkind13 tab14 tkind14 tab15 tkind15 tab16 tkind16 tab17 tkind17 tab18 tkind18 tab19 tkind19 tab21 tkind21 tab22 tkind22 tab23 tkind23 tab24 tkind24 tab26 tkind26 tab27 tkind27 tab28 tkind28 tab29 tkind29 tab33 tkind33 tab34 tkind34 tab35 tkind35 tab37 tkind37 tab40 tkind40 tab45 tkind45 tab46 tkind46 tab54 tkind54 tab55 tkind55 tab63 tkind63 tab64 tkind64 tab71 tkind71 tab72 tkind72 tab73 tkind73 tab74 tkind74 tab77 tkind77 tab78 tkind78 tab79 tkind79 tab81 tkind81 tab82 tkind82 tab85 tkind85 tab86 tkind86 tab87 tkind87 tab88 tkind88 tab96 tkind96 tab97 tkind97 tab98 tkind98 tab101 tkind101 tab116 tkind116 tab117 tkind117 tab118 tkind118 tab135 tkind135 tab137 tkind137 tab138 tkind138 tab140 tkind140 tab141 tkind141 tab145 tkind145 tab146 tkind146 tab148 tkind148 tab149 tkind149 e_S_api_Limits wkl_eI_u64 wka_eI_u64 len_eI_u64 one_eI_u64 wkp_eI_u64 undp_eI_u64 rens_eI_u64 renp_eI_u64 und_eI_u64 wkl_eL_eI_u64 wka_eL_eI_u64 len_eL_eI_u64 one_eL_eI_u64 wkp_eL_eI_u64 undp_eL_eI_u64 rens_eL_eI_u64 renp_eL_eI_u64 und_eL_eI_u64 e_S_ptr_Ptr e_S_centoref06_Loc e_S_centoref09_Ref e_S_api_Tree e0_eq_S_api_Tree wkl_e_S_api_Tree wka_e_S_api_Tree len_e_S_api_Tree one_e_S_api_Tree wkp_e_S_api_Tree undp_e_S_api_Tree rens_e_S_api_Tree renp_e_S_api_Tree und_e_S_api_Tree e_S_arena_Arena wkl_e_S_arena_Arena wka_e_S_arena_Arena len_e_S_arena_Arena one_e_S_arena_Arena wkp_e_S_arena_Arena undp_e_S_arena_Arena rens_e_S_arena_Arena renp_e_S_arena_Arena und_e_S_arena_Arena wkl_eI_i64 wka_eI_i64 len_eI_i64 one_eI_i64 wkp_eI_i64 undp_eI_i64 rens_eI_i64 renp_eI_i64 und_eI_i64 e_S_far_Loc e_S_reader_Ref e_S_equal_comparer wkl_e_S_equal_comparer wka_e_S_equal_comparer len_e_S_equal_comparer one_e_S_equal_comparer wkp_e_S_equal_comparer undp_e_S_equal_comparer rens_e_S_equal_comparer renp_e_S_equal_comparer und_e_S_equal_comparer e_S_equal_hasher wkl_e_S_equal_hasher wka_e_S_equal_hasher len_e_S_equal_hasher one_e_S_equal_hasher wkp_e_S_equal_hasher undp_e_S_equal_hasher rens_e_S_equal_hasher renp_e_S_equal_hasher und_e_S_equal_hasher
theorem ok_reader_Root {a0 : (Option S_arena_Arena)} {r : (S_reader_Ref × Int)} {O : Objs} {n : Nat} (h : m_reader_Root a0 = some r) : GTo Try.prog 26 [(gP e_S_arena_Arena a0)] O n (.tup [.agg (c_S_reader_Ref r.1), (vI r.2)]) O n := by
  unfold m_reader_Root at h
  refine zFn Try.call26 Try.func26 fun hU hN0 hN => ?_
  show W _ _ _ _ ⟨8, [], [(0, (gP e_S_arena_Arena a0))]⟩ (Loc O n []) _
  refine zQ [0, 2] ?_
  refine W_seqK ?_
  obtain ⟨y2, hy2, h⟩ := bC h
  refine zCd (ok_reader_At hy2) [2, 3] [true] ?_
  exact zRet [.agg (c_S_reader_Ref y2.1), (vI y2.2)]

theorem ok_centolaw15_root {a0 : (List (List Int))} {r : S_reader_Ref} {O : Objs} {n : Nat} (h : m_centolaw15_root a0 = some r) : GTo Try.prog 10 [(sL (eL (eI .u64)) a0)] O n (.agg (c_S_reader_Ref r)) O n := by
  unfold m_centolaw15_root at h
  refine zFn Try.call10 Try.func10 fun hU hN0 hN => ?_
  show W _ _ _ _ ⟨12, [], [(0, (sL (eL (eI .u64)) a0))]⟩ (Loc O n []) _
  refine zQ [0, 2] ?_
  refine W_seqK ?_
  obtain ⟨y3, hy3, h⟩ := bC h
  obtain ⟨y4, hy4, h⟩ := bC h
  refine zC (ok_arena_Of hy3) ?_
  refine zTs (ok_reader_Root hy4) ?_
  refine zDs [2, 3] [true, true] ?_
  refine zRd [2] [true, false] ?_
  exact zRet [.agg (c_S_reader_Ref y4.1)]

theorem ok_reader_Ref_Kind {a0 : S_reader_Ref} {r : Int} {O : Objs} {n : Nat} (h : m_reader_Ref_Kind a0 = some r) : GTo Try.prog 44 [.agg (c_S_reader_Ref a0)] O n ((vI r)) O n := by
  unfold m_reader_Ref_Kind at h
  refine zFn Try.call44 Try.func44 fun hU hN0 hN => ?_
  show W _ _ _ _ ⟨5, [], [(0, .agg (c_S_reader_Ref a0))]⟩ (Loc O n []) _
  refine zQ [1] ?_
  refine zQ [2] ?_
  exact zRet [(vI a0.kind)]

theorem ok_reader_Ref_Words {a0 : S_reader_Ref} {r : Int} {O : Objs} {n : Nat} (h : m_reader_Ref_Words a0 = some r) : GTo Try.prog 67 [.agg (c_S_reader_Ref a0)] O n ((vI r)) O n := by
  unfold m_reader_Ref_Words at h
  refine zFn Try.call67 Try.func67 fun hU hN0 hN => ?_
  show W _ _ _ _ ⟨11, [], [(0, .agg (c_S_reader_Ref a0))]⟩ (Loc O n []) _
  refine zQ [1] ?_
  refine W_seqK ?_
  refine zQ [1, 4] ?_
  refine W_block ?_
  refine zQ [1, 4, 5] ?_
  refine W_cond (t := (a0.kind == 1)) rfl (fun c2 => ?_) (fun c2 => ?_)
  · replace h := condT c2 h
    refine zQ [2] ?_
    exact zRet [(vI a0.words)]
  · replace h := condF c2 h
    refine zQ [9] ?_
    refine W_cond (t := (a0.kind == 10)) rfl (fun c1 => ?_) (fun c1 => ?_)
    · replace h := condT c1 h
      refine zQ [2] ?_
      exact zRet [(vI 1)]
    · replace h := condF c1 h
      refine zKd [] [false] ?_
      refine zQ [2] ?_
      exact zRet [(vI 0)]

theorem ok_word_Width {a0 : Int} {r : (Int × Bool)} {O : Objs} {n : Nat} (h : m_word_Width a0 = some r) : GTo Try.prog 77 [(vI a0)] O n (.tup [(vI r.1), (vB r.2)]) O n := by
  unfold m_word_Width at h
  refine zFn Try.call77 Try.func77 fun hU hN0 hN => ?_
  show W _ _ _ _ ⟨15, [], [(0, (vI a0))]⟩ (Loc O n []) _
  refine zQ [0] ?_
  refine W_seqK ?_
  obtain ⟨y6, hy6, ey6, h⟩ := bY (f := (eI .i64)) (cs := [.val (.int .i64 0), .val (.int .i64 1), .val (.int .i64 8), .val (.int .i64 16), .val (.int .i64 32), .val (.int .i64 64)]) rfl h
  have g7 := congrArg G.agg ey6
  obtain ⟨y8, hy8, ey8, h⟩ := bY (f := (eI .i64)) (cs := [.val (.int .i64 0), .val (.int .i64 0), .val (.int .i64 0), .val (.int .i64 0), .val (.int .i64 0), .val (.int .i64 0)]) rfl h
  have g9 := congrArg (GObj.mk false 135 6 1) ey8
  have g10 := gplace_arr (f := (eI .i64)) y8 y6 (fun _ => rfl)
  refine zRox3 [] g7 g9 g10 ?_
  refine zDs [0, 4] [true] ?_
  refine zQD [0, 4, 11] [none, none] ?_
  refine W_cond (t := (cond (decide (a0 < 0)) true (decide (6 ≤ a0)))) rfl (fun c13 => ?_) (fun c13 => ?_)
  · replace h := condT c13 h
    refine zQ [2, 3] ?_
    exact zRet [(vI 0), (vB false)]
  · replace h := condF c13 h
    refine zKd [0, 4] [true] ?_
    obtain ⟨x12, hx12, ax12, bx12, cx12, h⟩ := bEA (f := (eI .i64)) (b := 6) rfl tab3 (fun _ => rfl) (by decide) h
    refine W_sq [2, 3] (W_regionD tab_ok [] ?_)
    refine zF3 ax12 bx12 cx12 ?_
    exact zRet [(vI x12), (vB true)]

theorem ok_word_Get {a0 : (List Int)} {a1 : Int} {a2 : Int} {r : Int} {O : Objs} {n : Nat} (h : m_word_Get a0 a1 a2 = some r) : GTo Try.prog 78 [(sL (eI .u64) a0), (vI a1), (vI a2)] O n (.val (.int .u64 r)) O n := by
  unfold m_word_Get at h
  refine zFn Try.call78 Try.func78 fun hU hN0 hN => ?_
  show W _ _ _ _ ⟨45, [], [(0, (sL (eI .u64) a0)), (1, (vI a1)), (2, (vI a2))]⟩ (Loc O n []) _
  refine zQ [0, 1, 2] ?_
  refine W_seqK ?_
  obtain ⟨y2, hy2, h⟩ := bC h
  refine zCd (ok_word_Width hy2) [0, 2, 7] [] ?_
  refine W_seqK ?_
  refine zQD [0, 2, 7, 20] [none, none] ?_
  refine W_cond (t := (cond (y2.1 == 0) true (decide (a2 < 0)))) rfl (fun c18 => ?_) (fun c18 => ?_)
  · replace h := condT c18 h
    refine zQ [6] ?_
    exact zRet [.val (.int .u64 0)]
  · replace h := condF c18 h
    refine zKd [0, 2, 7] [] ?_
    obtain ⟨pu4, h⟩ := bG h
    refine W_sq [0, 2, 7, 9] (W_regionD tab_ok [] ?_)
    simp only [push_cast, seval, ↓reduceIte, cast_lit, pu4, hN0, hN]
    refine W_seqK ?_
    obtain ⟨pu6, h⟩ := bG h
    refine W_sq [0, 2, 7, 9, 28] (W_regionD tab_ok [] ?_)
    simp only [push_cast, seval, ↓reduceIte, cast_lit, pu6, hN0, hN]
    refine W_cond (t := (decide ((a0.length : Int) ≤ (IntKind.i64.wrap (Int.tdiv a2 (IntKind.i64.wrap (Int.tdiv 64 y2.1))))))) rfl (fun c17 => ?_) (fun c17 => ?_)
    · replace h := condT c17 h
      refine zQ [6] ?_
      exact zRet [.val (.int .u64 0)]
    · replace h := condF c17 h
      refine zKd [0, 2, 7, 9] [] ?_
      obtain ⟨pu12, h⟩ := bG h
      obtain ⟨x13, hx13, ax13, bx13, cx13, h⟩ := bE (f := (eI .u64)) tab40 (fun _ => rfl) (by decide) h
      obtain ⟨pu14, h⟩ := bG h
      obtain ⟨pu15, h⟩ := bG h
      obtain ⟨pu16, h⟩ := bG h
      refine W_sq [6] (W_drawD tab_ok (by kernel_rfl) [] (by kernel_rfl) ?_)
      refine zF7 pu12 ax13 bx13 cx13 pu14 pu15 pu16 ?_
      exact zRet [.val (.int .u64 (IntKind.u64.wrap (landI .u64 (Int.fdiv x13 (2 ^ min (Int.toNat (IntKind.i64.wrap ((Int.tmod a2 (IntKind.i64.wrap (Int.tdiv 64 y2.1))) * y2.1))) 64)) (IntKind.u64.wrap ((IntKind.u64.wrap (1 * 2 ^ min (Int.toNat y2.1) 64)) - 1)))))]

theorem ok_reader_Ref_number {a0 : S_reader_Ref} {r : Int} {O : Objs} {n : Nat} (h : m_reader_Ref_number a0 = some r) : GTo Try.prog 68 [.agg (c_S_reader_Ref a0)] O n (.val (.int .u64 r)) O n := by
  unfold m_reader_Ref_number at h
  refine zFn Try.call68 Try.func68 fun hU hN0 hN => ?_
  show W _ _ _ _ ⟨42, [], [(0, .agg (c_S_reader_Ref a0))]⟩ (Loc O n []) _
  refine zQ [1] ?_
  refine W_seqK ?_
  obtain ⟨y2, hy2, h⟩ := bC h
  refine zCd (ok_word_Width hy2) [1, 3] [true] ?_
  refine W_seqK ?_
  refine zQ [1, 3, 15] ?_
  refine W_cond (t := (y2.1 == 0)) rfl (fun c13 => ?_) (fun c13 => ?_)
  · replace h := condT c13 h
    refine zQ [2] ?_
    exact zRet [.val (.int .u64 0)]
  · replace h := condF c13 h
    refine zKd [1, 3] [true] ?_
    obtain ⟨pu4, h⟩ := bG h
    refine W_sq [1, 5] (W_regionD tab_ok [] ?_)
    simp only [push_cast, seval, ↓reduceIte, cast_lit, pu4, hN0, hN]
    refine W_seqK ?_
    obtain ⟨pu7, h⟩ := bG h
    obtain ⟨y8, hy8, h⟩ := bC h
    refine W_drawD tab_ok (by kernel_rfl) [] (by kernel_rfl) ?_
    simp only [push_cast, seval, ↓reduceIte, cast_lit, pu7, hN0, hN]
    refine PCall.of (ok_arena_Arena_Get hy8) ?_
    simp only [push_cast, seval, ↓reduceIte, cast_lit, pu7, hN0, hN]
    refine zDs [1, 5, 6] [true] ?_
    obtain ⟨pu11, h⟩ := bG h
    obtain ⟨y12, hy12, h⟩ := bC h
    refine W_drawY tab_ok (by kernel_rfl) [.plain, .pass, .low, .low, .low, .low, .plain, .low, .bar, .plain] (fun i => i < (n + 1)) [0, 2, 3, 4, 5, 6, 7, 1, 8, 9] [.plain, .low, .low, .low, .low, .plain, .low, .pass, .bar, .plain] [] (by kernel_rfl) rfl ?_
    simp only [push_cast, seval, ↓reduceIte, cast_lit, pu11, hN0, hN]
    refine zO ?_
    refine GCalls.lend (ok_word_Get hy12) rfl ?_ ?_
    · simp only [push_cast, seval, ↓reduceIte, cast_lit, pu11, hN0, hN]
    simp only [push_cast, seval, ↓reduceIte, cast_lit, pu11, hN0, hN]
    refine zO ?_
    refine W_fit ⟨42, [], [(2, .val (.int .u64 y12))]⟩ (Loc O n [none, none]) (fit_loc hU rfl rfl ?_) ?_
    · simp only [push_cast, seval, ↓reduceIte, cast_lit, pu11, hN0, hN]
    exact zRet [.val (.int .u64 y12)]

theorem ok_reader_Ref_Word {a0 : S_reader_Ref} {a1 : Int} {r : Int} {O : Objs} {n : Nat} (h : m_reader_Ref_Word a0 a1 = some r) : GTo Try.prog 50 [.agg (c_S_reader_Ref a0), (vI a1)] O n (.val (.int .u64 r)) O n := by
  unfold m_reader_Ref_Word at h
  refine zFn Try.call50 Try.func50 fun hU hN0 hN => ?_
  show W _ _ _ _ ⟨33, [], [(0, .agg (c_S_reader_Ref a0)), (1, (vI a1))]⟩ (Loc O n []) _
  refine zQ [1, 2] ?_
  refine W_seqK ?_
  obtain ⟨z2, hz2, h⟩ := bC h
  refine W_seqN (E' := ⟨33, [], [(1, (vI a1)), (2, .ref n 0), (14, (vB z2))]⟩) (O' := (Loc O n [some ⟨false, 35, 9, 1, (c_S_reader_Ref a0)⟩])) (n0 := (n + 1)) ?_ ?_
  · rcases Bool.eq_false_or_eq_true (decide (a1 < 0)) with c5 | c5
    · replace hz2 := condT c5 hz2
      refine zRox1 [some false, some false, some false, some false] c5 ?_
      exact zEnx1 hz2 c5
    · replace hz2 := condF c5 hz2
      obtain ⟨y4, hy4, hz2⟩ := bC hz2
      refine zRox1 [some true, some true, some true, some true] c5 ?_
      refine (ok_reader_Ref_Words hy4).then ?_
      refine zX1 c5 ?_
      exact zEnx1 hz2 c5
  refine W_cond (t := z2) rfl (fun c11 => ?_) (fun c11 => ?_)
  · replace h := condT c11 h
    refine zQ [4] ?_
    exact zRet [.val (.int .u64 0)]
  · replace h := condF c11 h
    refine zKd [1, 2] [true] ?_
    refine W_seqK ?_
    refine zQ [1, 2, 17] ?_
    refine W_cond (t := (a0.kind == 10)) rfl (fun c10 => ?_) (fun c10 => ?_)
    · replace h := condT c10 h
      refine W_seqK ?_
      obtain ⟨y7, hy7, h⟩ := bC h
      refine zCd (ok_reader_Ref_number hy7) [4] [false] ?_
      exact zRet [.val (.int .u64 y7)]
    · replace h := condF c10 h
      refine zKd [1, 2] [true] ?_
      refine W_seqK ?_
      obtain ⟨y9, hy9, h⟩ := bC h
      refine zCd (ok_arena_Arena_Get hy9) [5] [false] ?_
      refine zQ [4] ?_
      exact zRet [.val (.int .u64 y9.1)]

theorem ok_copy_Long {a0 : S_reader_Ref} {r : Int} {O : Objs} {n : Nat} (h : m_copy_Long a0 = some r) : GTo Try.prog 65 [.agg (c_S_reader_Ref a0)] O n ((vI r)) O n := by
  unfold m_copy_Long at h
  refine zFn Try.call65 Try.func65 fun hU hN0 hN => ?_
  show W _ _ _ _ ⟨18, [], [(0, .agg (c_S_reader_Ref a0))]⟩ (Loc O n []) _
  refine zQ [1] ?_
  refine W_seqK ?_
  obtain ⟨y2, hy2, h⟩ := bC h
  refine zCd (ok_reader_Ref_Words hy2) [1, 3] [true] ?_
  refine W_seqK ?_
  refine zD [1, 3] [true] ?_
  obtain ⟨z9, hz9, h⟩ := bC h
  refine W_blockX (E' := ⟨18, [], [(3, (vI z9))]⟩) (O' := (Loc O n [none])) (n0 := (n + 1)) ?_ ?_
  · refine W_loopJ hz9 (fun s0_ => ⟨18, [], [(1, .ref n 0), (3, (vI s0_))]⟩) (fun s0_ => (Loc O n [some ⟨false, 35, 9, 1, (c_S_reader_Ref a0)⟩])) (fun z9 => JX 0 n (⟨18, [], [(3, (vI z9))]⟩ : Env) (Loc O n [none]) (n + 1)) ?_
    intro s0_ x0_ hs0_
    unfold m_copy_Long_L0 at hs0_
    try dsimp only
    refine W_seqK ?_
    obtain ⟨z4, hz4, hs0_⟩ := bC hs0_
    refine W_seqN (E' := ⟨18, [], [(1, .ref n 0), (3, (vI s0_)), (14, (vB z4))]⟩) (O' := (Loc O n [some ⟨false, 35, 9, 1, (c_S_reader_Ref a0)⟩])) (n0 := (n + 1)) ?_ ?_
    · rcases Bool.eq_false_or_eq_true (decide (0 < s0_)) with c7 | c7
      · replace hz4 := condT c7 hz4
        obtain ⟨y6, hy6, hz4⟩ := bC hz4
        refine zRox1 [some true, some true, some true, some true, some true] c7 ?_
        refine (ok_reader_Ref_Word hy6).then ?_
        refine zX1 c7 ?_
        exact zEnx1 hz4 c7
      · replace hz4 := condF c7 hz4
        refine zRox1 [some false, some false, some false, some false, some false] c7 ?_
        exact zEnx1 hz4 c7
    refine W_cond (t := z4) rfl (fun c8 => ?_) (fun c8 => ?_)
    · replace hs0_ := condT c8 hs0_
      refine zKd [1, 3] [true] ?_
      refine W_block ?_
      refine zR ?_
      exact zEn hs0_
    · replace hs0_ := condF c8 hs0_
      exact zEx hs0_
  try simp only [gthen, gblock, ↓reduceIte, Nat.reduceEqDiff]
  refine zD [3] [false] ?_
  refine zQ [2] ?_
  exact zRet [(vI z9)]

theorem ok_equal_sameWords {a0 : S_reader_Ref} {a1 : S_reader_Ref} {r : Bool} {O : Objs} {n : Nat} (h : m_equal_sameWords a0 a1 = some r) : GTo Try.prog 45 [.agg (c_S_reader_Ref a0), .agg (c_S_reader_Ref a1)] O n ((vB r)) O n := by
  unfold m_equal_sameWords at h
  refine zFn Try.call45 Try.func45 fun hU hN0 hN => ?_
  show W _ _ _ _ ⟨25, [], [(0, .agg (c_S_reader_Ref a0)), (1, .agg (c_S_reader_Ref a1))]⟩ (Loc O n []) _
  refine zQ [2, 3] ?_
  refine W_seqK ?_
  obtain ⟨y2, hy2, h⟩ := bC h
  refine zCd (ok_copy_Long hy2) [2, 3, 5] [true, true] ?_
  refine W_seqK ?_
  refine W_seqK ?_
  obtain ⟨y4, hy4, h⟩ := bC h
  refine zCd (ok_copy_Long hy4) [2, 3, 5, 12] [true, true] ?_
  refine W_cond (t := (y4 != y2)) rfl (fun c12 => ?_) (fun c12 => ?_)
  · replace h := condT c12 h
    refine zQ [4] ?_
    exact zRet [(vB false)]
  · replace h := condF c12 h
    refine zKd [2, 3, 5] [true, true] ?_
    refine W_seqK ?_
    refine zQd [2, 3, 13, 14] [2, 3, 13, 14] [true, true] ?_
    obtain ⟨z11, hz11, h⟩ := bC h
    refine W_sumB (J := (SumJ (fun z11 => JR n (⟨25, [], [(4, (vB false))]⟩ : Env) (Loc O n [none, none]) (n + 2)) (fun z11 => JX 0 n (⟨25, [], []⟩ : Env) (Loc O n [none, none]) (n + 2)))) (z := z11) ?_ fun hw => ?_
    · refine W_loopJ hz11 (fun s0_ => ⟨25, [], [(2, .ref n 0), (3, .ref (n + 1) 0), (13, (vI y2)), (14, (vI s0_))]⟩) (fun s0_ => (Loc O n [some ⟨false, 35, 9, 1, (c_S_reader_Ref a0)⟩, some ⟨false, 35, 9, 1, (c_S_reader_Ref a1)⟩])) (SumJ (fun z11 => JR n (⟨25, [], [(4, (vB false))]⟩ : Env) (Loc O n [none, none]) (n + 2)) (fun z11 => JX 0 n (⟨25, [], []⟩ : Env) (Loc O n [none, none]) (n + 2))) ?_
      intro s0_ x0_ hs0_
      unfold m_equal_sameWords_L0 at hs0_
      try dsimp only
      refine zQ [2, 3, 13, 14, 15] ?_
      refine W_seqK ?_
      refine W_cond (t := (decide (s0_ < y2))) rfl (fun c10 => ?_) (fun c10 => ?_)
      · replace hs0_ := condT c10 hs0_
        refine zKd [2, 3, 13, 14] [true, true] ?_
        refine W_seqK ?_
        refine W_block ?_
        refine zQ [2, 3, 6, 13, 14] ?_
        refine W_seqK ?_
        obtain ⟨y7, hy7, hs0_⟩ := bC hs0_
        obtain ⟨y8, hy8, hs0_⟩ := bC hs0_
        refine W_drawD tab_ok (by kernel_rfl) [] (by kernel_rfl) ?_
        refine zS ?_
        refine PCall.of (ok_reader_Ref_Word hy7) ?_
        refine zS ?_
        refine PCall.of (ok_reader_Ref_Word hy8) ?_
        refine zS ?_
        refine zD [2, 3, 13, 14, 23] [true, true] ?_
        refine W_cond (t := (y7 != y8)) rfl (fun c9 => ?_) (fun c9 => ?_)
        · replace hs0_ := condT c9 hs0_
          refine zQ [4] ?_
          refine zW ?_
          exact zEy hs0_
        · replace hs0_ := condF c9 hs0_
          refine zKd [2, 3, 13, 14] [true, true] ?_
          refine zR ?_
          exact zEn hs0_
      · replace hs0_ := condF c10 hs0_
        exact zEx hs0_
    rcases z11 with z11 | z11
    · dsimp only [SumJ] at hw h
      refine W_blockR hw ?_
      try simp only [gthen, gblock, ↓reduceIte, Nat.reduceEqDiff]
      exact zFin [(vB false)]
    · dsimp only [SumJ] at hw h
      refine W_blockX hw ?_
      try simp only [gthen, gblock, ↓reduceIte, Nat.reduceEqDiff]
      refine zD [] [false, false] ?_
      refine zQ [4] ?_
      exact zRet [(vB true)]

theorem ok_reader_Ref_Kids {a0 : S_reader_Ref} {r : Int} {O : Objs} {n : Nat} (h : m_reader_Ref_Kids a0 = some r) : GTo Try.prog 33 [.agg (c_S_reader_Ref a0)] O n ((vI r)) O n := by
  unfold m_reader_Ref_Kids at h
  refine zFn Try.call33 Try.func33 fun hU hN0 hN => ?_
  show W _ _ _ _ ⟨10, [], [(0, .agg (c_S_reader_Ref a0))]⟩ (Loc O n []) _
  refine zQ [1] ?_
  refine W_seqK ?_
  refine zQ [1, 5] ?_
  refine W_cond (t := (a0.kind == 1)) rfl (fun c1 => ?_) (fun c1 => ?_)
  · replace h := condT c1 h
    refine zQ [2] ?_
    exact zRet [(vI a0.ptrs)]
  · replace h := condF c1 h
    refine zKd [1] [true] ?_
    refine zQ [2] ?_
    exact zRet [(vI a0.count)]

theorem ok_reader_Ref_Kid {a0 : S_reader_Ref} {a1 : Int} {r : (S_reader_Ref × Int)} {O : Objs} {n : Nat} (h : m_reader_Ref_Kid a0 a1 = some r) : GTo Try.prog 34 [.agg (c_S_reader_Ref a0), (vI a1)] O n (.tup [.agg (c_S_reader_Ref r.1), (vI r.2)]) O n := by
  unfold m_reader_Ref_Kid at h
  refine zFn Try.call34 Try.func34 fun hU hN0 hN => ?_
  show W _ _ _ _ ⟨81, [], [(0, .agg (c_S_reader_Ref a0)), (1, (vI a1))]⟩ (Loc O n []) _
  refine zQ [1, 2, 4] ?_
  refine W_seqK ?_
  obtain ⟨z2, hz2, h⟩ := bC h
  refine W_seqN (E' := ⟨81, [], [(1, (vI a1)), (2, .ref n 0), (4, .ref (n + 1) 0), (14, (vB z2))]⟩) (O' := (Loc O n [some ⟨false, 35, 9, 1, (c_S_reader_Ref a0)⟩, some ⟨false, 35, 9, 1, [.val (.pointer none), (vI 0), (vI 0), (vI 0), (vI 0), (vI 0), (vI 0), (vI 0), (vI 0)]⟩])) (n0 := (n + 2)) ?_ ?_
  · rcases Bool.eq_false_or_eq_true (decide (a1 < 0)) with c5 | c5
    · replace hz2 := condT c5 hz2
      refine zRox1 [some false, some false, some false, some false] c5 ?_
      exact zEnx1 hz2 c5
    · replace hz2 := condF c5 hz2
      obtain ⟨y4, hy4, hz2⟩ := bC hz2
      refine zRox1 [some true, some true, some true, some true] c5 ?_
      refine (ok_reader_Ref_Kids hy4).then ?_
      refine zX1 c5 ?_
      exact zEnx1 hz2 c5
  refine W_cond (t := z2) rfl (fun c13 => ?_) (fun c13 => ?_)
  · replace h := condT c13 h
    refine W_seqK ?_
    refine zRd [4, 5] [false, true] ?_
    exact zRet [.agg [.val (.pointer none), (vI 0), (vI 0), (vI 0), (vI 0), (vI 0), (vI 0), (vI 0), (vI 0)], (vI 0)]
  · replace h := condF c13 h
    refine zKd [1, 2, 4] [true, true] ?_
    refine W_seqK ?_
    refine zQ [1, 2, 4, 17] ?_
    refine W_block ?_
    refine zQ [1, 2, 4, 17, 18] ?_
    refine W_cond (t := (a0.kind == 1)) rfl (fun c12 => ?_) (fun c12 => ?_)
    · replace h := condT c12 h
      refine W_seqK ?_
      obtain ⟨y7, hy7, h⟩ := bC h
      refine zCd (ok_reader_At hy7) [4, 5] [false, true] ?_
      exact zRet [.agg (c_S_reader_Ref y7.1), (vI y7.2)]
    · replace h := condF c12 h
      refine zQ [1, 2, 4, 17, 34] ?_
      refine W_cond (t := (a0.kind == 8)) rfl (fun c11 => ?_) (fun c11 => ?_)
      · replace h := condT c11 h
        refine W_seqK ?_
        obtain ⟨y9, hy9, h⟩ := bC h
        refine zCd (ok_reader_At hy9) [4, 5] [false, true] ?_
        exact zRet [.agg (c_S_reader_Ref y9.1), (vI y9.2)]
      · replace h := condF c11 h
        refine zQ [1, 2, 4, 47] ?_
        refine W_cond (t := (a0.kind == 9)) rfl (fun c10 => ?_) (fun c10 => ?_)
        · replace h := condT c10 h
          refine zQ [2, 4, 6] ?_
          refine W_seqK ?_
          refine zRd [4, 5] [false, true] ?_
          exact zRet [.agg [(gP e_S_arena_Arena a0.a), (vI 1), (vI a0.segment), (vI (IntKind.i64.wrap ((IntKind.i64.wrap (a0.at_ + 1)) + (IntKind.i64.wrap (a1 * (IntKind.i64.wrap (a0.words + a0.ptrs))))))), (vI a0.words), (vI a0.ptrs), (vI 0), (vI 0), (vI 0)], (vI 0)]
        · replace h := condF c10 h
          refine zKd [1, 2, 4] [true, true] ?_
          refine W_seqK ?_
          refine zRd [4, 5] [false, true] ?_
          exact zRet [.agg [(gP e_S_arena_Arena a0.a), (vI 10), (vI a0.segment), (vI a0.at_), (vI 0), (vI 0), (vI 0), (vI (IntKind.i64.wrap (a0.kind - 2))), (vI a1)], (vI 0)]

theorem ok_copy_Wide {a0 : S_reader_Ref} {r : (Int × Int)} {O : Objs} {n : Nat} (h : m_copy_Wide a0 = some r) : GTo Try.prog 66 [.agg (c_S_reader_Ref a0)] O n (.tup [(vI r.1), (vI r.2)]) O n := by
  unfold m_copy_Wide at h
  refine zFn Try.call66 Try.func66 fun hU hN0 hN => ?_
  show W _ _ _ _ ⟨29, [], [(0, .agg (c_S_reader_Ref a0))]⟩ (Loc O n []) _
  refine zQ [1] ?_
  refine W_seqK ?_
  obtain ⟨y2, hy2, h⟩ := bC h
  refine zCd (ok_reader_Ref_Kids hy2) [1, 4] [true] ?_
  refine W_seqK ?_
  refine zD [1, 4] [true] ?_
  obtain ⟨z12, hz12, h⟩ := bC h
  refine W_sumB (J := (SumJ (fun z12 => JR n (⟨29, [], [(2, (vI z12.1)), (3, (vI z12.2))]⟩ : Env) (Loc O n [none]) (n + 1)) (fun z12 => JX 0 n (⟨29, [], []⟩ : Env) (Loc O n [none]) (n + 1)))) (z := z12) ?_ fun hw => ?_
  · refine W_loopJ hz12 (fun s0_ => ⟨29, [], [(1, .ref n 0), (4, (vI s0_))]⟩) (fun s0_ => (Loc O n [some ⟨false, 35, 9, 1, (c_S_reader_Ref a0)⟩])) (SumJ (fun z12 => JR n (⟨29, [], [(2, (vI z12.1)), (3, (vI z12.2))]⟩ : Env) (Loc O n [none]) (n + 1)) (fun z12 => JX 0 n (⟨29, [], []⟩ : Env) (Loc O n [none]) (n + 1))) ?_
    intro s0_ x0_ hs0_
    unfold m_copy_Wide_L0 at hs0_
    try dsimp only
    refine W_seqK ?_
    refine zQ [1, 4, 10] ?_
    refine W_cond (t := (decide (0 < s0_))) rfl (fun c11 => ?_) (fun c11 => ?_)
    · replace hs0_ := condT c11 hs0_
      refine zKd [1, 4] [true] ?_
      refine W_block ?_
      refine W_seqK ?_
      obtain ⟨y4, hy4, hs0_⟩ := bC hs0_
      refine zCd (ok_reader_Ref_Kid hy4) [1, 4, 5, 6] [true, true] ?_
      refine W_seqK ?_
      obtain ⟨z6, hz6, hs0_⟩ := bC hs0_
      refine W_seqN (E' := ⟨29, [], [(1, .ref n 0), (4, (vI s0_)), (6, (vI y4.2)), (24, (vB z6))]⟩) (O' := (Loc O n [some ⟨false, 35, 9, 1, (c_S_reader_Ref a0)⟩, none])) (n0 := (n + 2)) ?_ ?_
      · rcases Bool.eq_false_or_eq_true (y4.2 != 0) with c9 | c9
        · replace hz6 := condT c9 hz6
          refine zRox1 [some false, some false, some false] c9 ?_
          exact zEnx1 hz6 c9
        · replace hz6 := condF c9 hz6
          obtain ⟨y8, hy8, hz6⟩ := bC hz6
          refine zRox1 [some true, some true, some true] c9 ?_
          refine (ok_reader_Ref_Kind hy8).then ?_
          refine zX1 c9 ?_
          exact zEnx1 hz6 c9
      refine W_cond (t := z6) rfl (fun c10 => ?_) (fun c10 => ?_)
      · replace hs0_ := condT c10 hs0_
        refine zQ [2, 3] ?_
        refine zW ?_
        exact zEy hs0_
      · replace hs0_ := condF c10 hs0_
        refine zKd [1, 4] [true, false] ?_
        refine zR ?_
        exact zEn hs0_
    · replace hs0_ := condF c11 hs0_
      exact zEx hs0_
  rcases z12 with z12 | z12
  · dsimp only [SumJ] at hw h
    refine W_blockR hw ?_
    try simp only [gthen, gblock, ↓reduceIte, Nat.reduceEqDiff]
    exact zFin [(vI z12.1), (vI z12.2)]
  · dsimp only [SumJ] at hw h
    refine W_blockX hw ?_
    try simp only [gthen, gblock, ↓reduceIte, Nat.reduceEqDiff]
    refine zD [] [false] ?_
    refine zQ [2, 3] ?_
    exact zRet [(vI 0), (vI 0)]

theorem ok_equal_kids {a0 : S_reader_Ref} {r : (Int × Int)} {O : Objs} {n : Nat} (h : m_equal_kids a0 = some r) : GTo Try.prog 46 [.agg (c_S_reader_Ref a0)] O n (.tup [(vI r.1), (vI r.2)]) O n := by
  unfold m_equal_kids at h
  refine zFn Try.call46 Try.func46 fun hU hN0 hN => ?_
  show W _ _ _ _ ⟨20, [], [(0, .agg (c_S_reader_Ref a0))]⟩ (Loc O n []) _
  refine zQ [1] ?_
  refine W_seqK ?_
  refine W_seqK ?_
  obtain ⟨y2, hy2, h⟩ := bC h
  refine zCd (ok_reader_Ref_Kind hy2) [1, 8] [true] ?_
  refine W_cond (t := (y2 != 1)) rfl (fun c8 => ?_) (fun c8 => ?_)
  · replace h := condT c8 h
    refine W_seqK ?_
    obtain ⟨y4, hy4, h⟩ := bC h
    refine zCd (ok_reader_Ref_Kids hy4) [2, 3] [false] ?_
    exact zRet [(vI y4), (vI 0)]
  · replace h := condF c8 h
    refine zKd [1] [true] ?_
    refine W_seqK ?_
    obtain ⟨y6, hy6, h⟩ := bC h
    refine zCd (ok_copy_Wide hy6) [4, 5] [false] ?_
    refine W_seqK ?_
    refine zQ [4, 5, 17] ?_
    refine W_cond (t := (y6.2 != 0)) rfl (fun c7 => ?_) (fun c7 => ?_)
    · replace h := condT c7 h
      refine zQ [2, 3] ?_
      exact zRet [(vI 0), (vI y6.2)]
    · replace h := condF c7 h
      refine zKd [4] [false] ?_
      refine zQ [2, 3] ?_
      exact zRet [(vI y6.1), (vI 0)]

def oT_r_equal_comparer_same (r_equal_comparer_same : (S_equal_comparer → S_reader_Ref → S_reader_Ref → Option (Bool × Int × S_equal_comparer))) : Prop := ∀ {a0 : S_equal_comparer} {a1 : S_reader_Ref} {a2 : S_reader_Ref} {r : (Bool × Int × S_equal_comparer)} {O : Objs} {n : Nat} {i0 : Nat}, i0 < n → O i0 = some ⟨false, 72, 1, 1, [(vI a0.left)]⟩ → r_equal_comparer_same a0 a1 a2 = some r → GTo Try.prog 28 [.ref i0 0, .agg (c_S_reader_Ref a1), .agg (c_S_reader_Ref a2)] O n (.tup [(vB r.1), (vI r.2.1)]) (Loc (O.upd i0 (some ⟨false, 72, 1, 1, [(vI r.2.2.left)]⟩)) n []) (n + 0)
def oT_r_equal_comparer_sameKids (r_equal_comparer_sameKids : (S_equal_comparer → S_reader_Ref → S_reader_Ref → Int → Option (Bool × Int × S_equal_comparer))) : Prop := ∀ {a0 : S_equal_comparer} {a1 : S_reader_Ref} {a2 : S_reader_Ref} {a3 : Int} {r : (Bool × Int × S_equal_comparer)} {O : Objs} {n : Nat} {i0 : Nat}, i0 < n → O i0 = some ⟨false, 72, 1, 1, [(vI a0.left)]⟩ → r_equal_comparer_sameKids a0 a1 a2 a3 = some r → GTo Try.prog 47 [.ref i0 0, .agg (c_S_reader_Ref a1), .agg (c_S_reader_Ref a2), (vI a3)] O n (.tup [(vB r.1), (vI r.2.1)]) (Loc (O.upd i0 (some ⟨false, 72, 1, 1, [(vI r.2.2.left)]⟩)) n []) (n + 0)
theorem okb_equal_comparer_same {r_equal_comparer_same : (S_equal_comparer → S_reader_Ref → S_reader_Ref → Option (Bool × Int × S_equal_comparer))} {r_equal_comparer_sameKids : (S_equal_comparer → S_reader_Ref → S_reader_Ref → Int → Option (Bool × Int × S_equal_comparer))} (ok_r_equal_comparer_same : oT_r_equal_comparer_same r_equal_comparer_same) (ok_r_equal_comparer_sameKids : oT_r_equal_comparer_sameKids r_equal_comparer_sameKids) {a0 : S_equal_comparer} {a1 : S_reader_Ref} {a2 : S_reader_Ref} {r : (Bool × Int × S_equal_comparer)} {O : Objs} {n : Nat} {i0 : Nat} (hi0 : i0 < n) (ho0 : O i0 = some ⟨false, 72, 1, 1, [(vI a0.left)]⟩) (h : b_equal_comparer_same r_equal_comparer_same r_equal_comparer_sameKids a0 a1 a2 = some r) : GTo Try.prog 28 [.ref i0 0, .agg (c_S_reader_Ref a1), .agg (c_S_reader_Ref a2)] O n (.tup [(vB r.1), (vI r.2.1)]) (Loc (O.upd i0 (some ⟨false, 72, 1, 1, [(vI r.2.2.left)]⟩)) n []) (n + 0) := by
  unfold b_equal_comparer_same at h
  refine fn_of tab_ok Try.call28 Try.func28 rfl (Nat.le_of_ble_eq_true rfl) (by omega) fun hU => ?_
  rw [show Loc O n [] = Loc (O.upd i0 (some ⟨false, 72, 1, 1, [(vI a0.left)]⟩)) n [] from by rw [upd_self (show O i0 = _ from by exact ho0)]]
  have hk0 : ∀ k, i0 < n + k := fun k => by omega
  have hN0 : ∀ o, Objs.upd O i0 o n = none := fun o => upd_fresh hU hi0 _ (Nat.le_refl _)
  have hN : ∀ o k, Objs.upd O i0 o (n + k) = none := fun o k => upd_fresh hU hi0 _ (Nat.le_add_right _ _)
  show W _ _ _ _ ⟨62, [], [(0, .ref i0 0), (1, .agg (c_S_reader_Ref a1)), (2, .agg (c_S_reader_Ref a2))]⟩ (Loc (O.upd i0 (some ⟨false, 72, 1, 1, [(vI a0.left)]⟩)) n []) _
  refine zQx2 [0, 4, 5] hi0 hk0 ?_
  refine W_seqK ?_
  refine zQx2 [0, 4, 5, 15] hi0 hk0 ?_
  refine W_cond (t := (a0.left == 0)) rfl (fun c21 => ?_) (fun c21 => ?_)
  · replace h := condT c21 h
    refine zQx2 [6, 7] hi0 hk0 ?_
    refine zW ?_
    have h := Option.some.inj h; subst h
    refine fin_locV (k := 0) (i := i0) (q1 := ⟨false, 72, 1, 1, [(vI a0.left)]⟩) (L3 := [none]) (E2 := (⟨62, [], [(6, (vB false)), (7, (vI 3))]⟩ : Env)) (n3 := (n + 1)) (.inr rfl) hU rfl [(vB false), (vI 3)] ?_ ?_
    · refine Fit2.trans (E' := (⟨62, [], [(6, (vB false)), (7, (vI 3))]⟩ : Env)) (O' := (Loc (O.upd i0 (some ⟨false, 72, 1, 1, [(vI a0.left)]⟩)) n [none, none])) (n' := (n + 2)) (Fit2.of (fit_loco hU rfl rfl ?_) (by omega)) ?_
      · exact zXe2 hi0 hk0
      refine ren_fito (k := 2) (k' := 1) hU [0, 0] [0] rfl rfl rfl rfl ⟨rfl, rfl⟩ ?_
      exact zXe2 hi0 hk0
    simp only [push_cast, seval, ↓reduceIte, cast_lit, Try.results28, hi0, hk0, hN0, hN]
  · replace h := condF c21 h
    refine zKd [0, 4, 5] [true, true] ?_
    refine W_seqK ?_
    refine zRox2 [] hi0 hk0 ?_
    refine zDs [0, 4, 5] [true, true] ?_
    obtain ⟨z4, hz4, h⟩ := bC h
    refine W_seqN (E' := ⟨62, [], [(0, .ref i0 0), (4, .ref n 0), (5, .ref (n + 1) 0), (33, (vB z4))]⟩) (O' := (Loc (O.upd i0 (some ⟨false, 72, 1, 1, [(vI (IntKind.i64.wrap (a0.left - 1)))]⟩)) n [some ⟨false, 35, 9, 1, (c_S_reader_Ref a1)⟩, some ⟨false, 35, 9, 1, (c_S_reader_Ref a2)⟩])) (n0 := (n + 2)) ?_ ?_
    · obtain ⟨y8, hy8, hz4⟩ := bC hz4
      obtain ⟨y9, hy9, hz4⟩ := bC hz4
      rcases Bool.eq_false_or_eq_true (y8 != y9) with c11 | c11
      · replace hz4 := condT c11 hz4
        refine W_drawD tab_ok (by kernel_rfl) [some false, some false, some false, some false] (by kernel_rfl) ?_
        refine zX3 c11 hi0 hk0 ?_
        refine PCall.of (ok_reader_Ref_Kind hy8) ?_
        refine zX3 c11 hi0 hk0 ?_
        refine PCall.of (ok_reader_Ref_Kind hy9) ?_
        refine zX3 c11 hi0 hk0 ?_
        have hz4 := Option.some.inj hz4; subst hz4
        refine And.intro rfl (Fit2.of (fit_loco hU rfl rfl ?_) (by omega))
        exact zXe3 c11 hi0 hk0
      · replace hz4 := condF c11 hz4
        obtain ⟨y10, hy10, hz4⟩ := bC hz4
        refine W_drawD tab_ok (by kernel_rfl) [some true, some true, some true, some true] (by kernel_rfl) ?_
        refine zX3 c11 hi0 hk0 ?_
        refine PCall.of (ok_reader_Ref_Kind hy8) ?_
        refine zX3 c11 hi0 hk0 ?_
        refine PCall.of (ok_reader_Ref_Kind hy9) ?_
        refine zX3 c11 hi0 hk0 ?_
        refine PCall.of (ok_equal_sameWords hy10) ?_
        refine zX3 c11 hi0 hk0 ?_
        have hz4 := Option.some.inj hz4; subst hz4
        refine And.intro rfl (Fit2.of (fit_loco hU rfl rfl ?_) (by omega))
        exact zXe3 c11 hi0 hk0
    refine W_cond (t := z4) rfl (fun c20 => ?_) (fun c20 => ?_)
    · replace h := condT c20 h
      refine zQx2 [6, 7] hi0 hk0 ?_
      refine zW ?_
      have h := Option.some.inj h; subst h
      refine fin_locV (k := 0) (i := i0) (q1 := ⟨false, 72, 1, 1, [(vI (IntKind.i64.wrap (a0.left - 1)))]⟩) (L3 := [none]) (E2 := (⟨62, [], [(6, (vB false)), (7, (vI 0))]⟩ : Env)) (n3 := (n + 1)) (.inr rfl) hU rfl [(vB false), (vI 0)] ?_ ?_
      · refine Fit2.trans (E' := (⟨62, [], [(6, (vB false)), (7, (vI 0))]⟩ : Env)) (O' := (Loc (O.upd i0 (some ⟨false, 72, 1, 1, [(vI (IntKind.i64.wrap (a0.left - 1)))]⟩)) n [none, none])) (n' := (n + 2)) (Fit2.of (fit_loco hU rfl rfl ?_) (by omega)) ?_
        · exact zXe2 hi0 hk0
        refine ren_fito (k := 2) (k' := 1) hU [0, 0] [0] rfl rfl rfl rfl ⟨rfl, rfl⟩ ?_
        exact zXe2 hi0 hk0
      simp only [push_cast, seval, ↓reduceIte, cast_lit, Try.results28, hi0, hk0, hN0, hN]
    · replace h := condF c20 h
      refine zKd [0, 4, 5] [true, true] ?_
      refine W_seqK ?_
      obtain ⟨y13, hy13, h⟩ := bC h
      refine zRox2 [] hi0 hk0 ?_
      refine (ok_equal_kids hy13).then ?_
      refine zX2 hi0 hk0 ?_
      refine zDs [0, 4, 5, 8, 9] [true, true] ?_
      refine zQx2 [0, 4, 5, 8, 9, 40] hi0 hk0 ?_
      refine W_cond (t := (y13.2 != 0)) rfl (fun c19 => ?_) (fun c19 => ?_)
      · replace h := condT c19 h
        refine zQx2 [6, 7] hi0 hk0 ?_
        refine zW ?_
        have h := Option.some.inj h; subst h
        refine fin_locV (k := 0) (i := i0) (q1 := ⟨false, 72, 1, 1, [(vI (IntKind.i64.wrap (a0.left - 1)))]⟩) (L3 := [none]) (E2 := (⟨62, [], [(6, (vB false)), (7, (vI y13.2))]⟩ : Env)) (n3 := (n + 1)) (.inr rfl) hU rfl [(vB false), (vI y13.2)] ?_ ?_
        · refine Fit2.trans (E' := (⟨62, [], [(6, (vB false)), (7, (vI y13.2))]⟩ : Env)) (O' := (Loc (O.upd i0 (some ⟨false, 72, 1, 1, [(vI (IntKind.i64.wrap (a0.left - 1)))]⟩)) n [none, none])) (n' := (n + 2)) (Fit2.of (fit_loco hU rfl rfl ?_) (by omega)) ?_
          · exact zXe2 hi0 hk0
          refine ren_fito (k := 2) (k' := 1) hU [0, 0] [0] rfl rfl rfl rfl ⟨rfl, rfl⟩ ?_
          exact zXe2 hi0 hk0
        simp only [push_cast, seval, ↓reduceIte, cast_lit, Try.results28, hi0, hk0, hN0, hN]
      · replace h := condF c19 h
        refine zKd [0, 4, 5, 8] [true, true] ?_
        refine W_seqK ?_
        obtain ⟨y15, hy15, h⟩ := bC h
        refine zRox2 [] hi0 hk0 ?_
        refine (ok_equal_kids hy15).then ?_
        refine zX2 hi0 hk0 ?_
        refine zDs [0, 4, 5, 8, 9, 10] [true, true] ?_
        refine W_sq [0, 4, 5, 8, 9, 53] (W_regionD tab_ok [none, none, none] ?_)
        refine zX2 hi0 hk0 ?_
        refine zG ?_
        refine W_cond (t := (cond (y15.2 != 0) true (y13.1 != y15.1))) rfl (fun c18 => ?_) (fun c18 => ?_)
        · replace h := condT c18 h
          refine zQx2 [6, 7] hi0 hk0 ?_
          refine zW ?_
          have h := Option.some.inj h; subst h
          refine fin_locV (k := 0) (i := i0) (q1 := ⟨false, 72, 1, 1, [(vI (IntKind.i64.wrap (a0.left - 1)))]⟩) (L3 := [none]) (E2 := (⟨62, [], [(6, (vB false)), (7, (vI y15.2))]⟩ : Env)) (n3 := (n + 1)) (.inr rfl) hU rfl [(vB false), (vI y15.2)] ?_ ?_
          · refine Fit2.trans (E' := (⟨62, [], [(6, (vB false)), (7, (vI y15.2))]⟩ : Env)) (O' := (Loc (O.upd i0 (some ⟨false, 72, 1, 1, [(vI (IntKind.i64.wrap (a0.left - 1)))]⟩)) n [none, none])) (n' := (n + 2)) (Fit2.of (fit_loco hU rfl rfl ?_) (by omega)) ?_
            · exact zXe2 hi0 hk0
            refine ren_fito (k := 2) (k' := 1) hU [0, 0] [0] rfl rfl rfl rfl ⟨rfl, rfl⟩ ?_
            exact zXe2 hi0 hk0
          simp only [push_cast, seval, ↓reduceIte, cast_lit, Try.results28, hi0, hk0, hN0, hN]
        · replace h := condF c18 h
          refine zKd [0, 4, 5, 8] [true, true] ?_
          refine W_seqK ?_
          obtain ⟨y17, hy17, h⟩ := bC h
          refine zRox2 [] hi0 hk0 ?_
          refine (ok_r_equal_comparer_sameKids (i0 := i0) (by omega) (by simp only [push_cast, seval, ↓reduceIte, cast_lit, fl_nil, hi0, hk0, hN0, hN] <;> rfl) hy17).then ?_
          refine zX2 hi0 hk0 ?_
          refine zD [6, 7] [false, false] ?_
          refine zW ?_
          have h := Option.some.inj h; subst h
          refine fin_locV (k := 0) (i := i0) (q1 := ⟨false, 72, 1, 1, [(vI y17.2.2.left)]⟩) (L3 := [none]) (E2 := (⟨62, [], [(6, (vB y17.1)), (7, (vI y17.2.1))]⟩ : Env)) (n3 := (n + 1)) (.inr rfl) hU rfl [(vB y17.1), (vI y17.2.1)] ?_ ?_
          · refine Fit2.trans (E' := (⟨62, [], [(6, (vB y17.1)), (7, (vI y17.2.1))]⟩ : Env)) (O' := (Loc (O.upd i0 (some ⟨false, 72, 1, 1, [(vI y17.2.2.left)]⟩)) n [none, none])) (n' := (n + 2)) (Fit2.of (fit_loco hU rfl rfl ?_) (by omega)) ?_
            · exact zXe2 hi0 hk0
            refine ren_fito (k := 2) (k' := 1) hU [0, 0] [0] rfl rfl rfl rfl ⟨rfl, rfl⟩ ?_
            exact zXe2 hi0 hk0
          simp only [push_cast, seval, ↓reduceIte, cast_lit, Try.results28, hi0, hk0, hN0, hN]

theorem okb_equal_comparer_sameKids {r_equal_comparer_same : (S_equal_comparer → S_reader_Ref → S_reader_Ref → Option (Bool × Int × S_equal_comparer))} {r_equal_comparer_sameKids : (S_equal_comparer → S_reader_Ref → S_reader_Ref → Int → Option (Bool × Int × S_equal_comparer))} (ok_r_equal_comparer_same : oT_r_equal_comparer_same r_equal_comparer_same) (ok_r_equal_comparer_sameKids : oT_r_equal_comparer_sameKids r_equal_comparer_sameKids) {a0 : S_equal_comparer} {a1 : S_reader_Ref} {a2 : S_reader_Ref} {a3 : Int} {r : (Bool × Int × S_equal_comparer)} {O : Objs} {n : Nat} {i0 : Nat} (hi0 : i0 < n) (ho0 : O i0 = some ⟨false, 72, 1, 1, [(vI a0.left)]⟩) (h : b_equal_comparer_sameKids r_equal_comparer_same r_equal_comparer_sameKids a0 a1 a2 a3 = some r) : GTo Try.prog 47 [.ref i0 0, .agg (c_S_reader_Ref a1), .agg (c_S_reader_Ref a2), (vI a3)] O n (.tup [(vB r.1), (vI r.2.1)]) (Loc (O.upd i0 (some ⟨false, 72, 1, 1, [(vI r.2.2.left)]⟩)) n []) (n + 0) := by
  unfold b_equal_comparer_sameKids at h
  refine fn_of tab_ok Try.call47 Try.func47 rfl (Nat.le_of_ble_eq_true rfl) (by omega) fun hU => ?_
  rw [show Loc O n [] = Loc (O.upd i0 (some ⟨false, 72, 1, 1, [(vI a0.left)]⟩)) n [] from by rw [upd_self (show O i0 = _ from by exact ho0)]]
  have hk0 : ∀ k, i0 < n + k := fun k => by omega
  have hN0 : ∀ o, Objs.upd O i0 o n = none := fun o => upd_fresh hU hi0 _ (Nat.le_refl _)
  have hN : ∀ o k, Objs.upd O i0 o (n + k) = none := fun o k => upd_fresh hU hi0 _ (Nat.le_add_right _ _)
  show W _ _ _ _ ⟨53, [], [(0, .ref i0 0), (1, .agg (c_S_reader_Ref a1)), (2, .agg (c_S_reader_Ref a2)), (3, (vI a3))]⟩ (Loc (O.upd i0 (some ⟨false, 72, 1, 1, [(vI a0.left)]⟩)) n []) _
  refine zQx2 [0, 3, 5, 6] hi0 hk0 ?_
  refine W_seqK ?_
  refine zQx2 [0, 5, 6, 16, 17] hi0 hk0 ?_
  refine zD [0, 5, 6, 16, 17] [true, true] ?_
  obtain ⟨z11, hz11, h⟩ := bC h
  refine W_sumB (J := (SumJ (fun z11 => JR n (⟨53, [], [(8, (vB false)), (9, (vI z11.1))]⟩ : Env) (Loc (O.upd i0 (some ⟨false, 72, 1, 1, [(vI z11.2)]⟩)) n [none, none]) (n + 2)) (fun z11 => JX 0 n (⟨53, [], []⟩ : Env) (Loc (O.upd i0 (some ⟨false, 72, 1, 1, [(vI z11)]⟩)) n [none, none]) (n + 2)))) (z := z11) ?_ fun hw => ?_
  · refine W_loopJ hz11 (fun s0_ => ⟨53, [], [(0, .ref i0 0), (5, .ref n 0), (6, .ref (n + 1) 0), (16, (vI a3)), (17, (vI s0_.1))]⟩) (fun s0_ => (Loc (O.upd i0 (some ⟨false, 72, 1, 1, [(vI s0_.2)]⟩)) n [some ⟨false, 35, 9, 1, (c_S_reader_Ref a1)⟩, some ⟨false, 35, 9, 1, (c_S_reader_Ref a2)⟩])) (SumJ (fun z11 => JR n (⟨53, [], [(8, (vB false)), (9, (vI z11.1))]⟩ : Env) (Loc (O.upd i0 (some ⟨false, 72, 1, 1, [(vI z11.2)]⟩)) n [none, none]) (n + 2)) (fun z11 => JX 0 n (⟨53, [], []⟩ : Env) (Loc (O.upd i0 (some ⟨false, 72, 1, 1, [(vI z11)]⟩)) n [none, none]) (n + 2))) ?_
    intro s0_ x0_ hs0_
    unfold b_equal_comparer_sameKids_L0 at hs0_
    try dsimp only
    refine zQx2 [0, 5, 6, 16, 17, 18] hi0 hk0 ?_
    refine W_seqK ?_
    refine W_cond (t := (decide (s0_.1 < a3))) rfl (fun c10 => ?_) (fun c10 => ?_)
    · replace hs0_ := condT c10 hs0_
      refine zKd [0, 5, 6, 16, 17] [true, true] ?_
      refine W_seqK ?_
      refine W_block ?_
      refine zQx2 [0, 5, 6, 10, 16, 17] hi0 hk0 ?_
      refine W_seqK ?_
      obtain ⟨y2, hy2, hs0_⟩ := bC hs0_
      refine zRox2 [] hi0 hk0 ?_
      refine (ok_reader_Ref_Kid hy2).then ?_
      refine zX2 hi0 hk0 ?_
      refine zDs [0, 5, 6, 10, 11, 12, 16, 17] [true, true, true] ?_
      refine zQx2 [0, 5, 6, 10, 11, 12, 16, 17, 27] hi0 hk0 ?_
      refine W_cond (t := (y2.2 != 0)) rfl (fun c9 => ?_) (fun c9 => ?_)
      · replace hs0_ := condT c9 hs0_
        refine zQx2 [8, 9] hi0 hk0 ?_
        refine zW ?_
        have hs0_ := Option.some.inj hs0_; subst hs0_
        refine And.intro (fun h => by cases h) (And.intro rfl (Fit2.of (fit_loco hU rfl rfl ?_) (by omega)))
        exact zXe2 hi0 hk0
      · replace hs0_ := condF c9 hs0_
        refine zKd [0, 5, 6, 10, 11, 16, 17] [true, true, true] ?_
        refine W_seqK ?_
        obtain ⟨y4, hy4, hs0_⟩ := bC hs0_
        refine zRox2 [] hi0 hk0 ?_
        refine (ok_reader_Ref_Kid hy4).then ?_
        refine zX2 hi0 hk0 ?_
        refine zDs [0, 5, 6, 11, 12, 13, 16, 17] [true, true, true, true] ?_
        refine zQx2 [0, 5, 6, 11, 12, 13, 16, 17, 36] hi0 hk0 ?_
        refine W_cond (t := (y4.2 != 0)) rfl (fun c8 => ?_) (fun c8 => ?_)
        · replace hs0_ := condT c8 hs0_
          refine zQx2 [8, 9] hi0 hk0 ?_
          refine zW ?_
          have hs0_ := Option.some.inj hs0_; subst hs0_
          refine And.intro (fun h => by cases h) (And.intro rfl (Fit2.of (fit_loco hU rfl rfl ?_) (by omega)))
          exact zXe2 hi0 hk0
        · replace hs0_ := condF c8 hs0_
          refine zKd [0, 5, 6, 11, 13, 16, 17] [true, true, true, true] ?_
          refine W_seqK ?_
          obtain ⟨y6, hy6, hs0_⟩ := bC hs0_
          refine zRox2 [] hi0 hk0 ?_
          refine (ok_r_equal_comparer_same (i0 := i0) (by omega) (by simp only [push_cast, seval, ↓reduceIte, cast_lit, fl_nil, hi0, hk0, hN0, hN] <;> rfl) hy6).then ?_
          refine zX2 hi0 hk0 ?_
          refine zD [0, 5, 6, 14, 15, 16, 17] [true, true, false, false] ?_
          refine W_sq [0, 5, 6, 15, 16, 17, 50] (W_regionD tab_ok [none, none] ?_)
          refine zX2 hi0 hk0 ?_
          refine zG ?_
          refine W_cond (t := (cond (!y6.1) true (y6.2.1 != 0))) rfl (fun c7 => ?_) (fun c7 => ?_)
          · replace hs0_ := condT c7 hs0_
            refine zQx2 [8, 9] hi0 hk0 ?_
            refine zW ?_
            have hs0_ := Option.some.inj hs0_; subst hs0_
            refine And.intro (fun h => by cases h) (And.intro rfl (Fit2.of (fit_loco hU rfl rfl ?_) (by omega)))
            exact zXe2 hi0 hk0
          · replace hs0_ := condF c7 hs0_
            refine zKd [0, 5, 6, 16, 17] [true, true, false, false] ?_
            refine zRox2 [] hi0 hk0 ?_
            have hs0_ := Option.some.inj hs0_; subst hs0_
            refine And.intro rfl (Fit2.of (fit_loco hU rfl rfl ?_) (by omega))
            exact zXe2 hi0 hk0
    · replace hs0_ := condF c10 hs0_
      refine zXt ?_
      have hs0_ := Option.some.inj hs0_; subst hs0_
      refine And.intro (fun h => by cases h) (And.intro rfl (Fit2.of (fit_loco hU rfl rfl ?_) (by omega)))
      exact zXe2 hi0 hk0
  rcases z11 with z11 | z11
  · dsimp only [SumJ] at hw h
    refine W_blockR hw ?_
    try simp only [gthen, gblock, ↓reduceIte, Nat.reduceEqDiff]
    have h := Option.some.inj h; subst h
    refine fin_locV (k := 0) (i := i0) (q1 := ⟨false, 72, 1, 1, [(vI z11.2)]⟩) (L3 := [none]) (E2 := (⟨53, [], [(8, (vB false)), (9, (vI z11.1))]⟩ : Env)) (n3 := (n + 1)) (.inr rfl) hU rfl [(vB false), (vI z11.1)] ?_ ?_
    · refine Fit2.trans (E' := (⟨53, [], [(8, (vB false)), (9, (vI z11.1))]⟩ : Env)) (O' := (Loc (O.upd i0 (some ⟨false, 72, 1, 1, [(vI z11.2)]⟩)) n [none, none])) (n' := (n + 2)) (Fit2.of (fit_loco hU rfl rfl ?_) (by omega)) ?_
      · exact zXe2 hi0 hk0
      refine ren_fito (k := 2) (k' := 1) hU [0, 0] [0] rfl rfl rfl rfl ⟨rfl, rfl⟩ ?_
      exact zXe2 hi0 hk0
    simp only [push_cast, seval, ↓reduceIte, cast_lit, Try.results47, hi0, hk0, hN0, hN]
  · dsimp only [SumJ] at hw h
    refine W_blockX hw ?_
    try simp only [gthen, gblock, ↓reduceIte, Nat.reduceEqDiff]
    refine zD [] [false, false] ?_
    refine zQx2 [8, 9] hi0 hk0 ?_
    refine zW ?_
    have h := Option.some.inj h; subst h
    refine fin_locV (k := 0) (i := i0) (q1 := ⟨false, 72, 1, 1, [(vI z11)]⟩) (L3 := [none]) (E2 := (⟨53, [], [(8, (vB true)), (9, (vI 0))]⟩ : Env)) (n3 := (n + 1)) (.inr rfl) hU rfl [(vB true), (vI 0)] ?_ ?_
    · refine Fit2.trans (E' := (⟨53, [], [(8, (vB true)), (9, (vI 0))]⟩ : Env)) (O' := (Loc (O.upd i0 (some ⟨false, 72, 1, 1, [(vI z11)]⟩)) n [none, none])) (n' := (n + 2)) (Fit2.of (fit_loco hU rfl rfl ?_) (by omega)) ?_
      · exact zXe2 hi0 hk0
      refine ren_fito (k := 2) (k' := 1) hU [0, 0] [0] rfl rfl rfl rfl ⟨rfl, rfl⟩ ?_
      exact zXe2 hi0 hk0
    simp only [push_cast, seval, ↓reduceIte, cast_lit, Try.results47, hi0, hk0, hN0, hN]

theorem lv_equal_comparer_same_ok : ∀ k, (oT_r_equal_comparer_same ((lv_equal_comparer_same k).1)) ∧ (oT_r_equal_comparer_sameKids ((lv_equal_comparer_same k).2)) := fun k => by
  induction k with
  | zero => exact ⟨@fun a0 a1 a2 r O n i0 hi0 ho0 h => (nomatch (show (none : Option _) = some _ from h)), @fun a0 a1 a2 a3 r O n i0 hi0 ho0 h => (nomatch (show (none : Option _) = some _ from h))⟩
  | succ k ih => exact ⟨@fun a0 a1 a2 r O n i0 hi0 ho0 h => okb_equal_comparer_same (ih.1) (ih.2) hi0 ho0 h, @fun a0 a1 a2 a3 r O n i0 hi0 ho0 h => okb_equal_comparer_sameKids (ih.1) (ih.2) hi0 ho0 h⟩

theorem ok_equal_comparer_same {a0 : S_equal_comparer} {a1 : S_reader_Ref} {a2 : S_reader_Ref} {r : (Bool × Int × S_equal_comparer)} {O : Objs} {n : Nat} {i0 : Nat} (hi0 : i0 < n) (ho0 : O i0 = some ⟨false, 72, 1, 1, [(vI a0.left)]⟩) (h : m_equal_comparer_same a0 a1 a2 = some r) : GTo Try.prog 28 [.ref i0 0, .agg (c_S_reader_Ref a1), .agg (c_S_reader_Ref a2)] O n (.tup [(vB r.1), (vI r.2.1)]) (Loc (O.upd i0 (some ⟨false, 72, 1, 1, [(vI r.2.2.left)]⟩)) n []) (n + 0) := by
  obtain ⟨k, hk⟩ := lim_some h
  exact (lv_equal_comparer_same_ok k).1 hi0 ho0 hk

theorem ok_equal_comparer_sameKids {a0 : S_equal_comparer} {a1 : S_reader_Ref} {a2 : S_reader_Ref} {a3 : Int} {r : (Bool × Int × S_equal_comparer)} {O : Objs} {n : Nat} {i0 : Nat} (hi0 : i0 < n) (ho0 : O i0 = some ⟨false, 72, 1, 1, [(vI a0.left)]⟩) (h : m_equal_comparer_sameKids a0 a1 a2 a3 = some r) : GTo Try.prog 47 [.ref i0 0, .agg (c_S_reader_Ref a1), .agg (c_S_reader_Ref a2), (vI a3)] O n (.tup [(vB r.1), (vI r.2.1)]) (Loc (O.upd i0 (some ⟨false, 72, 1, 1, [(vI r.2.2.left)]⟩)) n []) (n + 0) := by
  obtain ⟨k, hk⟩ := lim_some h
  exact (lv_equal_comparer_same_ok k).2 hi0 ho0 hk

theorem ok_equal_Values {a0 : S_reader_Ref} {a1 : S_reader_Ref} {r : (Bool × Int)} {O : Objs} {n : Nat} (h : m_equal_Values a0 a1 = some r) : GTo Try.prog 11 [.agg (c_S_reader_Ref a0), .agg (c_S_reader_Ref a1)] O n (.tup [(vB r.1), (vI r.2)]) O n := by
  unfold m_equal_Values at h
  refine zFn Try.call11 Try.func11 fun hU hN0 hN => ?_
  show W _ _ _ _ ⟨13, [], [(0, .agg (c_S_reader_Ref a0)), (1, .agg (c_S_reader_Ref a1))]⟩ (Loc O n []) _
  refine zQ [2, 3] ?_
  refine W_seqK ?_
  refine zRd [2, 3, 6] [true, true, true] ?_
  refine W_seqK ?_
  obtain ⟨y2, hy2, h⟩ := bC h
  refine zR ?_
  refine (ok_equal_comparer_same (i0 := (n + 2)) (by omega) (by simp only [push_cast, seval, ↓reduceIte, cast_lit, fl_nil, hN0, hN] <;> rfl) hy2).then ?_
  refine zS ?_
  refine zD [4, 5] [false, false, false] ?_
  exact zRet [(vB y2.1), (vI y2.2.1)]

theorem ok_centolaw15_awake  {r : Bool} {O : Objs} {n : Nat} (h : m_centolaw15_awake = some r) : GTo Try.prog 9 [] O n ((vB r)) O n := by
  unfold m_centolaw15_awake at h
  refine zFn Try.call9 Try.func9 fun hU hN0 hN => ?_
  show W _ _ _ _ ⟨38, [], []⟩ (Loc O n []) _
  refine zQ [] ?_
  refine W_seqK ?_
  obtain ⟨y4, hy4, h⟩ := bC h
  obtain ⟨y5, hy5, h⟩ := bC h
  obtain ⟨y6, hy6, h⟩ := bC h
  refine zR ?_
  refine GCalls.dropL (l' := [none, none]) hU rfl ?_ ((ok_centolaw15_root hy4).then ?_)
  · exact zSe
  refine zS ?_
  refine GCalls.dropL (l' := [none, none, none, none]) hU rfl ?_ ((ok_centolaw15_root hy5).then ?_)
  · exact zSe
  refine zS ?_
  refine zTs (ok_equal_Values hy6) ?_
  refine zDs [1, 2] [false, false, false, false] ?_
  obtain ⟨y10, hy10, h⟩ := bC h
  obtain ⟨y11, hy11, h⟩ := bC h
  obtain ⟨y12, hy12, h⟩ := bC h
  refine zR ?_
  refine GCalls.dropL (l' := [none, none, none, none, none, none]) hU rfl ?_ ((ok_centolaw15_root hy10).then ?_)
  · exact zSe
  refine zS ?_
  refine GCalls.dropL (l' := [none, none, none, none, none, none, none, none]) hU rfl ?_ ((ok_centolaw15_root hy11).then ?_)
  · exact zSe
  refine zS ?_
  refine zTs (ok_equal_Values hy12) ?_
  refine zD [1, 2, 3, 4] [false, false, false, false, false, false, false, false] ?_
  refine zQD [0] [none, none, none, none, none, none] ?_
  exact zRet [(vB (cond (cond (cond y6.1 (y6.2 == 0) false) (!y12.1) false) (y12.2 == 0) false))]

theorem ok_equal_hasher_mix {a0 : S_equal_hasher} {a1 : Int} {r : S_equal_hasher} {O : Objs} {n : Nat} {i0 : Nat} (hi0 : i0 < n) (ho0 : O i0 = some ⟨false, 74, 2, 1, [.val (.int .u64 a0.sum), (vI a0.left)]⟩) (h : m_equal_hasher_mix a0 a1 = some r) : GTo Try.prog 48 [.ref i0 0, .val (.int .u64 a1)] O n (.tup []) (Loc (O.upd i0 (some ⟨false, 74, 2, 1, [.val (.int .u64 r.sum), (vI r.left)]⟩)) n []) (n + 0) := by
  unfold m_equal_hasher_mix at h
  refine fn_of tab_ok Try.call48 Try.func48 rfl (Nat.le_of_ble_eq_true rfl) (by omega) fun hU => ?_
  rw [show Loc O n [] = Loc (O.upd i0 (some ⟨false, 74, 2, 1, [.val (.int .u64 a0.sum), (vI a0.left)]⟩)) n [] from by rw [upd_self (show O i0 = _ from by exact ho0)]]
  have hk0 : ∀ k, i0 < n + k := fun k => by omega
  have hN0 : ∀ o, Objs.upd O i0 o n = none := fun o => upd_fresh hU hi0 _ (Nat.le_refl _)
  have hN : ∀ o k, Objs.upd O i0 o (n + k) = none := fun o k => upd_fresh hU hi0 _ (Nat.le_add_right _ _)
  show W _ _ _ _ ⟨26, [], [(0, .ref i0 0), (1, .val (.int .u64 a1))]⟩ (Loc (O.upd i0 (some ⟨false, 74, 2, 1, [.val (.int .u64 a0.sum), (vI a0.left)]⟩)) n []) _
  refine W_seqK ?_
  refine zRox2 [] hi0 hk0 ?_
  refine zD [0] [] ?_
  refine W_drawF tab_ok (by kernel_rfl) [false, false, false, false, false, false, false, false, false, false, false, false, true] [] (by kernel_rfl) ?_
  refine zX2 hi0 hk0 ?_
  have h := Option.some.inj h; subst h
  refine fin_locV (k := 0) (i := i0) (q1 := ⟨false, 74, 2, 1, [.val (.int .u64 (IntKind.u64.wrap (lxorI .u64 (IntKind.u64.wrap ((IntKind.u64.wrap (lxorI .u64 a0.sum a1)) * 11400714819323198485)) (Int.fdiv (IntKind.u64.wrap ((IntKind.u64.wrap (lxorI .u64 a0.sum a1)) * 11400714819323198485)) (2 ^ min (Int.toNat 32) 64))))), (vI a0.left)]⟩) (L3 := [none]) (E2 := (⟨26, [], []⟩ : Env)) (n3 := (n + 1)) (.inl rfl) hU rfl [] ?_ ?_
  · refine Fit2.trans (E' := (⟨26, [], []⟩ : Env)) (O' := (Loc (O.upd i0 (some ⟨false, 74, 2, 1, [.val (.int .u64 (IntKind.u64.wrap (lxorI .u64 (IntKind.u64.wrap ((IntKind.u64.wrap (lxorI .u64 a0.sum a1)) * 11400714819323198485)) (Int.fdiv (IntKind.u64.wrap ((IntKind.u64.wrap (lxorI .u64 a0.sum a1)) * 11400714819323198485)) (2 ^ min (Int.toNat 32) 64))))), (vI a0.left)]⟩)) n [])) (n' := n) (Fit2.of (fit_loco hU rfl rfl ?_) (by omega)) ?_
    · exact zXe2 hi0 hk0
    refine ren_fito (k := 0) (k' := 1) hU [] [0] rfl rfl rfl rfl ⟨rfl, rfl⟩ ?_
    exact zXe2 hi0 hk0
  simp only [push_cast, seval, ↓reduceIte, cast_lit, Try.results48, hi0, hk0, hN0, hN]

theorem ok_equal_words_f50_c48q74 {a0 : S_reader_Ref} {a2 : S_equal_hasher} {r : S_equal_hasher} {O : Objs} {n : Nat} {i2 : Nat} (hi2 : i2 < n) (ho2 : O i2 = some ⟨false, 74, 2, 1, [.val (.int .u64 a2.sum), (vI a2.left)]⟩) (h : m_equal_words_f50_c48q74 a0 a2 = some r) : GTo Try.prog 49 [.agg (c_S_reader_Ref a0), .fn 50 0 [], .fn 48 1 [.ref i2 0]] O n (.tup []) (Loc (O.upd i2 (some ⟨false, 74, 2, 1, [.val (.int .u64 r.sum), (vI r.left)]⟩)) n []) (n + 0) := by
  unfold m_equal_words_f50_c48q74 at h
  refine fn_of tab_ok Try.call49 Try.func49 rfl (Nat.le_of_ble_eq_true rfl) (by omega) fun hU => ?_
  rw [show Loc O n [] = Loc (O.upd i2 (some ⟨false, 74, 2, 1, [.val (.int .u64 a2.sum), (vI a2.left)]⟩)) n [] from by rw [upd_self (show O i2 = _ from by exact ho2)]]
  have hk2 : ∀ k, i2 < n + k := fun k => by omega
  have hN0 : ∀ o, Objs.upd O i2 o n = none := fun o => upd_fresh hU hi2 _ (Nat.le_refl _)
  have hN : ∀ o k, Objs.upd O i2 o (n + k) = none := fun o k => upd_fresh hU hi2 _ (Nat.le_add_right _ _)
  show W _ _ _ _ ⟨25, [], [(0, .agg (c_S_reader_Ref a0)), (1, .fn 50 0 []), (2, .fn 48 1 [.ref i2 0])]⟩ (Loc (O.upd i2 (some ⟨false, 74, 2, 1, [.val (.int .u64 a2.sum), (vI a2.left)]⟩)) n []) _
  refine zQx2 [1, 2, 3] hi2 hk2 ?_
  refine W_seqK ?_
  obtain ⟨y2, hy2, h⟩ := bC h
  refine zRox2 [] hi2 hk2 ?_
  refine (ok_copy_Long hy2).then ?_
  refine zX2 hi2 hk2 ?_
  refine zDs [1, 2, 3, 6] [true] ?_
  obtain ⟨y4, hy4, h⟩ := bC h
  refine zRox2 [] hi2 hk2 ?_
  refine (ok_equal_hasher_mix (i0 := i2) (by omega) (by simp only [push_cast, seval, ↓reduceIte, cast_lit, fl_nil, hi2, hk2, hN0, hN] <;> rfl) hy4).then ?_
  refine zX2 hi2 hk2 ?_
  refine zD [1, 2, 3, 6] [true] ?_
  refine zQx2 [1, 2, 3, 14, 15] hi2 hk2 ?_
  refine zD [1, 2, 3, 14, 15] [true] ?_
  obtain ⟨z8, hz8, h⟩ := bC h
  refine W_blockX (E' := ⟨25, [], []⟩) (O' := (Loc (O.upd i2 (some ⟨false, 74, 2, 1, [.val (.int .u64 z8.1), (vI z8.2)]⟩)) n [none])) (n0 := (n + 1)) ?_ ?_
  · refine W_loopJ hz8 (fun s0_ => ⟨25, [], [(1, .fn 50 0 []), (2, .fn 48 1 [.ref i2 0]), (3, .ref n 0), (14, (vI y2)), (15, (vI s0_.1))]⟩) (fun s0_ => (Loc (O.upd i2 (some ⟨false, 74, 2, 1, [.val (.int .u64 s0_.2.1), (vI s0_.2.2)]⟩)) n [some ⟨false, 35, 9, 1, (c_S_reader_Ref a0)⟩])) (fun z8 => JX 0 n (⟨25, [], []⟩ : Env) (Loc (O.upd i2 (some ⟨false, 74, 2, 1, [.val (.int .u64 z8.1), (vI z8.2)]⟩)) n [none]) (n + 1)) ?_
    intro s0_ x0_ hs0_
    unfold m_equal_words_f50_c48q74_L0 at hs0_
    try dsimp only
    refine zQx2 [1, 2, 3, 14, 15, 16] hi2 hk2 ?_
    refine W_seqK ?_
    refine W_cond (t := (decide (s0_.1 < y2))) rfl (fun c7 => ?_) (fun c7 => ?_)
    · replace hs0_ := condT c7 hs0_
      refine zKd [1, 2, 3, 14, 15] [true] ?_
      refine W_seqK ?_
      refine W_block ?_
      refine zQx2 [1, 2, 3, 7, 14, 15] hi2 hk2 ?_
      obtain ⟨y5, hy5, hs0_⟩ := bC hs0_
      obtain ⟨y6, hy6, hs0_⟩ := bC hs0_
      refine zRox2 [] hi2 hk2 ?_
      refine (ok_reader_Ref_Word hy5).then ?_
      refine zX2 hi2 hk2 ?_
      refine (ok_equal_hasher_mix (i0 := i2) (by omega) (by simp only [push_cast, seval, ↓reduceIte, cast_lit, fl_nil, hi2, hk2, hN0, hN] <;> rfl) hy6).then ?_
      refine zX2 hi2 hk2 ?_
      refine zD [1, 2, 3, 14, 15] [true] ?_
      refine zRox2 [] hi2 hk2 ?_
      have hs0_ := Option.some.inj hs0_; subst hs0_
      refine And.intro rfl (Fit2.of (fit_loco hU rfl rfl ?_) (by omega))
      exact zXe2 hi2 hk2
    · replace hs0_ := condF c7 hs0_
      refine zXt ?_
      have hs0_ := Option.some.inj hs0_; subst hs0_
      refine And.intro (fun h => by cases h) (And.intro rfl (Fit2.of (fit_loco hU rfl rfl ?_) (by omega)))
      exact zXe2 hi2 hk2
  try simp only [gthen, gblock, ↓reduceIte, Nat.reduceEqDiff]
  have h := Option.some.inj h; subst h
  refine fin_locV (k := 0) (i := i2) (q1 := ⟨false, 74, 2, 1, [.val (.int .u64 z8.1), (vI z8.2)]⟩) (L3 := [none]) (E2 := (⟨25, [], []⟩ : Env)) (n3 := (n + 1)) (.inl rfl) hU rfl [] ?_ ?_
  · refine Fit2.trans (E' := (⟨25, [], []⟩ : Env)) (O' := (Loc (O.upd i2 (some ⟨false, 74, 2, 1, [.val (.int .u64 z8.1), (vI z8.2)]⟩)) n [none])) (n' := (n + 1)) (Fit2.of (fit_loco hU rfl rfl ?_) (by omega)) ?_
    · exact zXe2 hi2 hk2
    refine ren_fito (k := 1) (k' := 1) hU [0] [0] rfl rfl rfl rfl ⟨rfl, rfl⟩ ?_
    exact zXe2 hi2 hk2
  simp only [push_cast, seval, ↓reduceIte, cast_lit, Try.results49, hi2, hk2, hN0, hN]

def oT_r_equal_hasher_value (r_equal_hasher_value : (S_equal_hasher → S_reader_Ref → Option (Int × S_equal_hasher))) : Prop := ∀ {a0 : S_equal_hasher} {a1 : S_reader_Ref} {r : (Int × S_equal_hasher)} {O : Objs} {n : Nat} {i0 : Nat}, i0 < n → O i0 = some ⟨false, 74, 2, 1, [.val (.int .u64 a0.sum), (vI a0.left)]⟩ → r_equal_hasher_value a0 a1 = some r → GTo Try.prog 29 [.ref i0 0, .agg (c_S_reader_Ref a1)] O n ((vI r.1)) (Loc (O.upd i0 (some ⟨false, 74, 2, 1, [.val (.int .u64 r.2.sum), (vI r.2.left)]⟩)) n []) (n + 0)
theorem okb_equal_hasher_value {r_equal_hasher_value : (S_equal_hasher → S_reader_Ref → Option (Int × S_equal_hasher))} (ok_r_equal_hasher_value : oT_r_equal_hasher_value r_equal_hasher_value) {a0 : S_equal_hasher} {a1 : S_reader_Ref} {r : (Int × S_equal_hasher)} {O : Objs} {n : Nat} {i0 : Nat} (hi0 : i0 < n) (ho0 : O i0 = some ⟨false, 74, 2, 1, [.val (.int .u64 a0.sum), (vI a0.left)]⟩) (h : b_equal_hasher_value r_equal_hasher_value a0 a1 = some r) : GTo Try.prog 29 [.ref i0 0, .agg (c_S_reader_Ref a1)] O n ((vI r.1)) (Loc (O.upd i0 (some ⟨false, 74, 2, 1, [.val (.int .u64 r.2.sum), (vI r.2.left)]⟩)) n []) (n + 0) := by
  unfold b_equal_hasher_value at h
  refine fn_of tab_ok Try.call29 Try.func29 rfl (Nat.le_of_ble_eq_true rfl) (by omega) fun hU => ?_
  rw [show Loc O n [] = Loc (O.upd i0 (some ⟨false, 74, 2, 1, [.val (.int .u64 a0.sum), (vI a0.left)]⟩)) n [] from by rw [upd_self (show O i0 = _ from by exact ho0)]]
  have hk0 : ∀ k, i0 < n + k := fun k => by omega
  have hN0 : ∀ o, Objs.upd O i0 o n = none := fun o => upd_fresh hU hi0 _ (Nat.le_refl _)
  have hN : ∀ o k, Objs.upd O i0 o (n + k) = none := fun o k => upd_fresh hU hi0 _ (Nat.le_add_right _ _)
  show W _ _ _ _ ⟨64, [], [(0, .ref i0 0), (1, .agg (c_S_reader_Ref a1))]⟩ (Loc (O.upd i0 (some ⟨false, 74, 2, 1, [.val (.int .u64 a0.sum), (vI a0.left)]⟩)) n []) _
  refine zQx2 [0, 3] hi0 hk0 ?_
  refine W_seqK ?_
  refine zQx2 [0, 3, 15] hi0 hk0 ?_
  refine W_cond (t := (a0.left == 0)) rfl (fun c20 => ?_) (fun c20 => ?_)
  · replace h := condT c20 h
    refine zQx2 [4] hi0 hk0 ?_
    refine zW ?_
    have h := Option.some.inj h; subst h
    refine fin_locV (k := 0) (i := i0) (q1 := ⟨false, 74, 2, 1, [.val (.int .u64 a0.sum), (vI a0.left)]⟩) (L3 := [none]) (E2 := (⟨64, [], [(4, (vI 3))]⟩ : Env)) (n3 := (n + 1)) (.inr rfl) hU rfl [(vI 3)] ?_ ?_
    · refine Fit2.trans (E' := (⟨64, [], [(4, (vI 3))]⟩ : Env)) (O' := (Loc (O.upd i0 (some ⟨false, 74, 2, 1, [.val (.int .u64 a0.sum), (vI a0.left)]⟩)) n [none])) (n' := (n + 1)) (Fit2.of (fit_loco hU rfl rfl ?_) (by omega)) ?_
      · exact zXe2 hi0 hk0
      refine ren_fito (k := 1) (k' := 1) hU [0] [0] rfl rfl rfl rfl ⟨rfl, rfl⟩ ?_
      exact zXe2 hi0 hk0
    simp only [push_cast, seval, ↓reduceIte, cast_lit, Try.results29, hi0, hk0, hN0, hN]
  · replace h := condF c20 h
    refine zKd [0, 3] [true] ?_
    refine W_seqK ?_
    refine zRox2 [] hi0 hk0 ?_
    refine zDs [0, 3] [true] ?_
    obtain ⟨y2, hy2, h⟩ := bC h
    refine zRox2 [] hi0 hk0 ?_
    refine (ok_equal_kids hy2).then ?_
    refine zX2 hi0 hk0 ?_
    refine zDs [0, 3, 5, 6] [true] ?_
    refine zQx2 [0, 3, 5, 6, 29] hi0 hk0 ?_
    refine W_cond (t := (y2.2 != 0)) rfl (fun c19 => ?_) (fun c19 => ?_)
    · replace h := condT c19 h
      refine zQx2 [4] hi0 hk0 ?_
      refine zW ?_
      have h := Option.some.inj h; subst h
      refine fin_locV (k := 0) (i := i0) (q1 := ⟨false, 74, 2, 1, [.val (.int .u64 a0.sum), (vI (IntKind.i64.wrap (a0.left - 1)))]⟩) (L3 := [none]) (E2 := (⟨64, [], [(4, (vI y2.2))]⟩ : Env)) (n3 := (n + 1)) (.inr rfl) hU rfl [(vI y2.2)] ?_ ?_
      · refine Fit2.trans (E' := (⟨64, [], [(4, (vI y2.2))]⟩ : Env)) (O' := (Loc (O.upd i0 (some ⟨false, 74, 2, 1, [.val (.int .u64 a0.sum), (vI (IntKind.i64.wrap (a0.left - 1)))]⟩)) n [none])) (n' := (n + 1)) (Fit2.of (fit_loco hU rfl rfl ?_) (by omega)) ?_
        · exact zXe2 hi0 hk0
        refine ren_fito (k := 1) (k' := 1) hU [0] [0] rfl rfl rfl rfl ⟨rfl, rfl⟩ ?_
        exact zXe2 hi0 hk0
      simp only [push_cast, seval, ↓reduceIte, cast_lit, Try.results29, hi0, hk0, hN0, hN]
    · replace h := condF c19 h
      refine zKd [0, 3, 5] [true] ?_
      refine W_seqK ?_
      obtain ⟨y5, hy5, h⟩ := bC h
      obtain ⟨y6, hy6, h⟩ := bC h
      refine zRox2 [] hi0 hk0 ?_
      refine (ok_reader_Ref_Kind hy5).then ?_
      refine zX2 hi0 hk0 ?_
      refine (ok_equal_hasher_mix (i0 := i0) (by omega) (by simp only [push_cast, seval, ↓reduceIte, cast_lit, fl_nil, hi0, hk0, hN0, hN] <;> rfl) hy6).then ?_
      refine zX2 hi0 hk0 ?_
      refine zDs [0, 3, 5] [true] ?_
      obtain ⟨y8, hy8, h⟩ := bC h
      refine zRox2 [] hi0 hk0 ?_
      refine (ok_equal_hasher_mix (i0 := i0) (by omega) (by simp only [push_cast, seval, ↓reduceIte, cast_lit, fl_nil, hi0, hk0, hN0, hN] <;> rfl) hy8).then ?_
      refine zX2 hi0 hk0 ?_
      refine zDs [0, 3, 5] [true] ?_
      obtain ⟨y10, hy10, h⟩ := bC h
      refine zRox2 [] hi0 hk0 ?_
      refine (ok_equal_words_f50_c48q74 (i2 := i0) (by omega) (by simp only [push_cast, seval, ↓reduceIte, cast_lit, fl_nil, hi0, hk0, hN0, hN] <;> rfl) hy10).then ?_
      refine zX2 hi0 hk0 ?_
      refine zDs [0, 3, 5] [true] ?_
      refine zQx2 [0, 3, 44, 45] hi0 hk0 ?_
      refine zD [0, 3, 44, 45] [true] ?_
      obtain ⟨z18, hz18, h⟩ := bC h
      refine W_sumB (J := (SumJ (fun z18 => JR n (⟨64, [], [(4, (vI z18.1))]⟩ : Env) (Loc (O.upd i0 (some ⟨false, 74, 2, 1, [.val (.int .u64 z18.2.1), (vI z18.2.2)]⟩)) n [none]) (n + 1)) (fun z18 => JX 0 n (⟨64, [], []⟩ : Env) (Loc (O.upd i0 (some ⟨false, 74, 2, 1, [.val (.int .u64 z18.1), (vI z18.2)]⟩)) n [none]) (n + 1)))) (z := z18) ?_ fun hw => ?_
      · refine W_loopJ hz18 (fun s0_ => ⟨64, [], [(0, .ref i0 0), (3, .ref n 0), (44, (vI y2.1)), (45, (vI s0_.1))]⟩) (fun s0_ => (Loc (O.upd i0 (some ⟨false, 74, 2, 1, [.val (.int .u64 s0_.2.1), (vI s0_.2.2)]⟩)) n [some ⟨false, 35, 9, 1, (c_S_reader_Ref a1)⟩])) (SumJ (fun z18 => JR n (⟨64, [], [(4, (vI z18.1))]⟩ : Env) (Loc (O.upd i0 (some ⟨false, 74, 2, 1, [.val (.int .u64 z18.2.1), (vI z18.2.2)]⟩)) n [none]) (n + 1)) (fun z18 => JX 0 n (⟨64, [], []⟩ : Env) (Loc (O.upd i0 (some ⟨false, 74, 2, 1, [.val (.int .u64 z18.1), (vI z18.2)]⟩)) n [none]) (n + 1))) ?_
        intro s0_ x0_ hs0_
        unfold b_equal_hasher_value_L0 at hs0_
        try dsimp only
        refine zQx2 [0, 3, 44, 45, 46] hi0 hk0 ?_
        refine W_seqK ?_
        refine W_cond (t := (decide (s0_.1 < y2.1))) rfl (fun c17 => ?_) (fun c17 => ?_)
        · replace hs0_ := condT c17 hs0_
          refine zKd [0, 3, 44, 45] [true] ?_
          refine W_seqK ?_
          refine W_block ?_
          refine zQx2 [0, 3, 7, 44, 45] hi0 hk0 ?_
          refine W_seqK ?_
          obtain ⟨y12, hy12, hs0_⟩ := bC hs0_
          refine zRox2 [] hi0 hk0 ?_
          refine (ok_reader_Ref_Kid hy12).then ?_
          refine zX2 hi0 hk0 ?_
          refine zDs [0, 3, 8, 9, 44, 45] [true, true] ?_
          refine zQx2 [0, 3, 8, 9, 44, 45, 55] hi0 hk0 ?_
          refine W_cond (t := (y12.2 != 0)) rfl (fun c16 => ?_) (fun c16 => ?_)
          · replace hs0_ := condT c16 hs0_
            refine zQx2 [4] hi0 hk0 ?_
            refine zW ?_
            have hs0_ := Option.some.inj hs0_; subst hs0_
            refine And.intro (fun h => by cases h) (And.intro rfl (Fit2.of (fit_loco hU rfl rfl ?_) (by omega)))
            exact zXe2 hi0 hk0
          · replace hs0_ := condF c16 hs0_
            refine zKd [0, 3, 8, 44, 45] [true, true] ?_
            refine W_seqK ?_
            obtain ⟨y14, hy14, hs0_⟩ := bC hs0_
            refine zRox2 [] hi0 hk0 ?_
            refine (ok_r_equal_hasher_value (i0 := i0) (by omega) (by simp only [push_cast, seval, ↓reduceIte, cast_lit, fl_nil, hi0, hk0, hN0, hN] <;> rfl) hy14).then ?_
            refine zX2 hi0 hk0 ?_
            refine zD [0, 3, 10, 44, 45] [true, false] ?_
            refine zQx2 [0, 3, 10, 44, 45, 61] hi0 hk0 ?_
            refine W_cond (t := (y14.1 != 0)) rfl (fun c15 => ?_) (fun c15 => ?_)
            · replace hs0_ := condT c15 hs0_
              refine zQx2 [4] hi0 hk0 ?_
              refine zW ?_
              have hs0_ := Option.some.inj hs0_; subst hs0_
              refine And.intro (fun h => by cases h) (And.intro rfl (Fit2.of (fit_loco hU rfl rfl ?_) (by omega)))
              exact zXe2 hi0 hk0
            · replace hs0_ := condF c15 hs0_
              refine zKd [0, 3, 44, 45] [true, false] ?_
              refine zRox2 [] hi0 hk0 ?_
              have hs0_ := Option.some.inj hs0_; subst hs0_
              refine And.intro rfl (Fit2.of (fit_loco hU rfl rfl ?_) (by omega))
              exact zXe2 hi0 hk0
        · replace hs0_ := condF c17 hs0_
          refine zXt ?_
          have hs0_ := Option.some.inj hs0_; subst hs0_
          refine And.intro (fun h => by cases h) (And.intro rfl (Fit2.of (fit_loco hU rfl rfl ?_) (by omega)))
          exact zXe2 hi0 hk0
      rcases z18 with z18 | z18
      · dsimp only [SumJ] at hw h
        refine W_blockR hw ?_
        try simp only [gthen, gblock, ↓reduceIte, Nat.reduceEqDiff]
        have h := Option.some.inj h; subst h
        refine fin_locV (k := 0) (i := i0) (q1 := ⟨false, 74, 2, 1, [.val (.int .u64 z18.2.1), (vI z18.2.2)]⟩) (L3 := [none]) (E2 := (⟨64, [], [(4, (vI z18.1))]⟩ : Env)) (n3 := (n + 1)) (.inr rfl) hU rfl [(vI z18.1)] ?_ ?_
        · refine Fit2.trans (E' := (⟨64, [], [(4, (vI z18.1))]⟩ : Env)) (O' := (Loc (O.upd i0 (some ⟨false, 74, 2, 1, [.val (.int .u64 z18.2.1), (vI z18.2.2)]⟩)) n [none])) (n' := (n + 1)) (Fit2.of (fit_loco hU rfl rfl ?_) (by omega)) ?_
          · exact zXe2 hi0 hk0
          refine ren_fito (k := 1) (k' := 1) hU [0] [0] rfl rfl rfl rfl ⟨rfl, rfl⟩ ?_
          exact zXe2 hi0 hk0
        simp only [push_cast, seval, ↓reduceIte, cast_lit, Try.results29, hi0, hk0, hN0, hN]
      · dsimp only [SumJ] at hw h
        refine W_blockX hw ?_
        try simp only [gthen, gblock, ↓reduceIte, Nat.reduceEqDiff]
        refine zD [] [false] ?_
        refine zQx2 [4] hi0 hk0 ?_
        refine zW ?_
        have h := Option.some.inj h; subst h
        refine fin_locV (k := 0) (i := i0) (q1 := ⟨false, 74, 2, 1, [.val (.int .u64 z18.1), (vI z18.2)]⟩) (L3 := [none]) (E2 := (⟨64, [], [(4, (vI 0))]⟩ : Env)) (n3 := (n + 1)) (.inr rfl) hU rfl [(vI 0)] ?_ ?_
        · refine Fit2.trans (E' := (⟨64, [], [(4, (vI 0))]⟩ : Env)) (O' := (Loc (O.upd i0 (some ⟨false, 74, 2, 1, [.val (.int .u64 z18.1), (vI z18.2)]⟩)) n [none])) (n' := (n + 1)) (Fit2.of (fit_loco hU rfl rfl ?_) (by omega)) ?_
          · exact zXe2 hi0 hk0
          refine ren_fito (k := 1) (k' := 1) hU [0] [0] rfl rfl rfl rfl ⟨rfl, rfl⟩ ?_
          exact zXe2 hi0 hk0
        simp only [push_cast, seval, ↓reduceIte, cast_lit, Try.results29, hi0, hk0, hN0, hN]

theorem lv_equal_hasher_value_ok : ∀ k, (oT_r_equal_hasher_value (lv_equal_hasher_value k)) := fun k => by
  induction k with
  | zero => exact @fun a0 a1 r O n i0 hi0 ho0 h => (nomatch (show (none : Option _) = some _ from h))
  | succ k ih => exact @fun a0 a1 r O n i0 hi0 ho0 h => okb_equal_hasher_value (ih) hi0 ho0 h

theorem ok_equal_hasher_value {a0 : S_equal_hasher} {a1 : S_reader_Ref} {r : (Int × S_equal_hasher)} {O : Objs} {n : Nat} {i0 : Nat} (hi0 : i0 < n) (ho0 : O i0 = some ⟨false, 74, 2, 1, [.val (.int .u64 a0.sum), (vI a0.left)]⟩) (h : m_equal_hasher_value a0 a1 = some r) : GTo Try.prog 29 [.ref i0 0, .agg (c_S_reader_Ref a1)] O n ((vI r.1)) (Loc (O.upd i0 (some ⟨false, 74, 2, 1, [.val (.int .u64 r.2.sum), (vI r.2.left)]⟩)) n []) (n + 0) := by
  obtain ⟨k, hk⟩ := lim_some h
  exact (lv_equal_hasher_value_ok k) hi0 ho0 hk

theorem ok_equal_Hash {a0 : S_reader_Ref} {r : (Int × Int)} {O : Objs} {n : Nat} (h : m_equal_Hash a0 = some r) : GTo Try.prog 12 [.agg (c_S_reader_Ref a0)] O n (.tup [.val (.int .u64 r.1), (vI r.2)]) O n := by
  unfold m_equal_Hash at h
  refine zFn Try.call12 Try.func12 fun hU hN0 hN => ?_
  show W _ _ _ _ ⟨14, [], [(0, .agg (c_S_reader_Ref a0))]⟩ (Loc O n []) _
  refine zQ [1] ?_
  refine W_seqK ?_
  refine zRd [1, 4] [true, true] ?_
  refine W_seqK ?_
  refine W_seqK ?_
  obtain ⟨y2, hy2, h⟩ := bC h
  refine zR ?_
  refine (ok_equal_hasher_value (i0 := (n + 1)) (by omega) (by simp only [push_cast, seval, ↓reduceIte, cast_lit, fl_nil, hN0, hN] <;> rfl) hy2).then ?_
  refine zS ?_
  refine zD [4, 5] [false, true] ?_
  refine zQ [4, 5, 10] ?_
  refine W_cond (t := (y2.1 != 0)) rfl (fun c3 => ?_) (fun c3 => ?_)
  · replace h := condT c3 h
    refine zQ [2, 3] ?_
    exact zRet [.val (.int .u64 0), (vI y2.1)]
  · replace h := condF c3 h
    refine zKd [4] [false, true] ?_
    refine zQ [2, 3] ?_
    exact zRet [.val (.int .u64 y2.2.sum), (vI 0)]

theorem ok_centoref07_Trim {a0 : (List Int)} {r : (List Int)} {O : Objs} {n : Nat} (h : m_centoref07_Trim a0 = some r) : GTo Try.prog 52 [(sL (eI .u64) a0)] O n ((sL (eI .u64) r)) O n := by
  unfold m_centoref07_Trim at h
  refine zFn Try.call52 Try.func52 fun hU hN0 hN => ?_
  show W _ _ _ _ ⟨24, [], [(0, (sL (eI .u64) a0))]⟩ (Loc O n []) _
  refine zQ [0] ?_
  refine zQ [0, 3] ?_
  refine W_seqK ?_
  refine zD [0, 3] [] ?_
  obtain ⟨z7, hz7, h⟩ := bC h
  refine W_blockX (E' := ⟨24, [], [(0, (sL (eI .u64) a0)), (3, (vI z7))]⟩) (O' := (Loc O n [])) (n0 := n) ?_ ?_
  · refine W_loopJ hz7 (fun s0_ => ⟨24, [], [(0, (sL (eI .u64) a0)), (3, (vI s0_))]⟩) (fun s0_ => (Loc O n [])) (fun z7 => JX 0 n (⟨24, [], [(0, (sL (eI .u64) a0)), (3, (vI z7))]⟩ : Env) (Loc O n []) n) ?_
    intro s0_ x0_ hs0_
    unfold m_centoref07_Trim_L0 at hs0_
    try dsimp only
    refine W_seqK ?_
    obtain ⟨z2, hz2, hs0_⟩ := bC hs0_
    refine W_seqN (E' := ⟨24, [], [(0, (sL (eI .u64) a0)), (3, (vI s0_)), (16, (vB z2))]⟩) (O' := (Loc O n [])) (n0 := n) ?_ ?_
    · rcases Bool.eq_false_or_eq_true (decide (0 < s0_)) with c5 | c5
      · replace hz2 := condT c5 hz2
        obtain ⟨x4, hx4, ax4, bx4, cx4, hz2⟩ := bE (f := (eI .u64)) tab40 (fun _ => rfl) (by decide) hz2
        refine zRof4 [some true, some true, some true, some true, some true, some true] c5 ax4 bx4 cx4 ?_
        exact zEnf4 hz2 c5 ax4 bx4 cx4
      · replace hz2 := condF c5 hz2
        refine zRox1 [some false, some false, some false, some false, some false, some false] c5 ?_
        exact zEnx1 hz2 c5
    refine W_cond (t := z2) rfl (fun c6 => ?_) (fun c6 => ?_)
    · replace hs0_ := condT c6 hs0_
      refine zKd [0, 3] [] ?_
      refine W_block ?_
      refine zR ?_
      exact zEn hs0_
    · replace hs0_ := condF c6 hs0_
      exact zEx hs0_
  try simp only [gthen, gblock, ↓reduceIte, Nat.reduceEqDiff]
  refine zD [0, 3] [] ?_
  refine zQ [0, 3, 4] ?_
  refine W_seqK ?_
  obtain ⟨l10, al10, bl10, cl10, gl10, h⟩ := bS (lo := none) (hi := (some (.i64, z7))) (f := (eI .u64)) rfl rfl tkind26 tab40 (fun _ => rfl) h
  obtain ⟨l11, pl11, ql11, el11, h⟩ := bA0 (k := l10.length) rfl h
  refine zRox7 [] al10 bl10 cl10 gl10 pl11 ql11 el11 ?_
  refine W_fit ⟨24, [], [(2, .row n l11.length)]⟩ (Loc O n [some (oR 40 1 (eI .u64) l11)]) (fit_loc hU rfl rfl ?_) ?_
  · simp only [push_cast, seval, ↓reduceIte, cast_lit, al10, bl10, cl10, gl10, pl11, ql11, el11, hN0, hN]
  exact zRet [.row n l11.length]

end Go.Proofs.Ytgffgbdnbjbmoaa
