/- Part EM1 of this seat's mirrors: functions of the seat's program, and the plain functions that they are; each theorem bears its own conditions. -/
import Derived.Test.YtgffgbdnbjbmoaaEE
namespace Go.Proofs.Ytgffgbdnbjbmoaa
open Go.RowKit
set_option linter.unusedVariables false
set_option linter.unusedSimpArgs false
set_option maxRecDepth 100000
set_option maxHeartbeats 4000000
attribute [local push_cast] Try.results23 Try.results24 Try.results35 Try.results36 Try.results37 Try.results38 Try.results39 Try.results40 Try.results57 Try.results58 Try.results59 Try.results60 Try.results61 Try.results7 Try.results70 Try.results71 Try.results72 vI vB nV sL oR c_S_api_Limits c_S_api_Tree c_S_centoref09_Ref c_S_ptr_Ptr c_S_reader_Ref gfork_t gfork_f pfork_t pfork_f gthen gblock gops_nil gops_plain gops_guard onW gwantB gcalm gact gpick gpickV strip_any strip_val strip_agg strip_tup strip_sl strip_ip strip_row strip_rs strip_rp strip_rl strip_ref strip_fn strip_when evS wok calmOp Op.operands Call.operands gop onK onP atK List.all_cons List.all_nil Bool.and_true Bool.true_and Bool.and_self Value.oneCell' List.take_zero List.take_succ_cons List.take_nil List.drop_zero List.drop_succ_cons List.drop_nil List.append_nil Nat.add_zero Nat.zero_add gstep gputE ev look genv gbin_ii gbin_bb gbin_ss gbin_pp gbin_rp gbin_ip gbin_ll gbin_aa geqS geqF gint gunary gconvert gload gcells gpart_lit gstore cellsOf_agg cellsOf_val cellsOf_sl cellsOf_ip cellsOf_row cellsOf_rs cellsOf_rp cellsOf_rl cellsOf_ref cellsOf_fn cellsOf_any cellsOf_tup cellsOf_when cellsOf_gP gput gplace_lit gfieldAddr gstepIn gindexAddr gindex gfield gopt bLo bHi bMx gextract galloc gbox gbuild gfill gplaces gbuildSlice gmake glen gappend gappendN gsrc gbuiltin gnil live_any live_val live_agg live_tup live_sl live_ip live_fn live_when live_ref live_rs live_rp live_rl live_row live_gP gres gone prun_nil prun_plain prun_guard pop TK.isAgg one_any one_val one_agg one_tup one_when one_sl one_ip one_row one_rs one_rp one_rl one_ref one_fn G.under G.unders List.getD_cons_zero List.getD_cons_succ List.set_cons_zero List.set_cons_succ List.map_cons List.map_nil List.toList_toArray Array.toList_append Option.toArray_none Option.toArray_some Array.toList_map Option.map_some Option.map_none Option.bind_some Option.bind_none List.getElem?_cons_zero List.getElem?_cons_succ List.getElem?_nil List.nil_append List.cons_append List.replicate_succ List.replicate_zero List.length_cons List.length_nil and_true true_and and_false false_and Bool.true_eq_false Bool.false_eq_true forall_const false_implies implies_true IntKind.bits if_true if_false ite_true ite_false eq_self true_implies false_or or_false or_true true_or not_true_eq_false not_false_eq_true decide_true decide_false decide_eq_true_eq decide_eq_false_iff_not beq_iff_eq bne_iff_ne ne_eq Bool.not_eq_true Bool.not_eq_false beq_eq_false_iff_ne bne_eq_false_iff_eq beq_self_eq_true bne_self_eq_false Option.some.injEq exists_eq_left' exists_eq_left ge_iff_le gt_iff_lt decide_not Bool.not_true Bool.not_false imp_self gquiet cond_true cond_false beqT beqF Bool.not_not Bool.and_false Bool.false_and Bool.or_true Bool.true_or Bool.or_false Bool.false_or Loc_at Loc_at0 Loc_upd Loc_upd0 Loc_push Loc_push0 Option.join_some Nat.add_assoc Int.toNat_natCast eI eB eS eL fl_nil gopsD_nil gopsD_plain gopsD_t gopsD_f gopsD_n onKD onWD prunD_nil prunD_plain prunD_t prunD_f prunD_n onPD fitO fitO1 sameO fitL fl_append fl_one List.length_append G.agg.injEq G.row.injEq G.ref.injEq G.val.injEq G.sl.injEq G.tup.injEq Value.int.injEq Value.bool.injEq Value.string.injEq List.cons.injEq exists_and_left exists_const List.flatten_cons List.flatten_nil Int.le_refl Nat.le_refl upd_updU Loc_out Loc_updo Bool.not_eq_true' Bool.not_eq_false' wkl_nil wkl_cons wk_any wk_val wk_agg wk_tup wk_sl wk_fn List.size_toArray renO renO1 G.ren G.rens renL rho_at rho_at0 gP_none gP_some strip_gP wok_gP one_gP G.fn.injEq wk_slnil wk_slrow wk_slrs wk_ip wk_ipref wk_row wk_rs wk_rp wk_rl wk_ref locLt0 locLt Option.join_none upd_same fl_cons undef keepL Arr.len Arr.put_eq prunB_nil prunB_bar prunB_bart prunB_plain prunB_t prunB_f prunB_n onB onBP gcopy setI_len cpyAt_len Loc_cat0 Loc_cat1 Loc_cat2 Loc_cat3 Loc_cat4 Loc_cat5 noObjs_at prunK_nil prunK_bar prunK_pass prunK_plain prunK_low prunK_pt prunK_pf prunK_lt prunK_lf onKg onKa onKp popL pickOps lows lowG prunK_shp prunK_fill popH shpOp fillOp fillG rho_low rens_app Loc_cat6 Loc_cat7 Loc_cat8 Loc_cat9 Loc_cat10 Loc_cat11 Loc_cat12 Loc_cat13 Loc_cat14 Loc_cat15 Loc_cat16 dropM prT kdOf tab2 tkind2 tab3 tkind3 tab4 tkind4 tab5 tkind5 tab6 tkind6 tab7 tkind7 tab8 tkind8 tab9 tkind9 tab10 tkind10 tab11 tkind11 tab12 tkind12 tab13 tkind13 tab14 tkind14 tab15 tkind15 tab16 tkind16 tab17 tkind17 tab18 tkind18 tab19 tkind19 tab21 tkind21 tab22 tkind22 tab23 tkind23 tab24 tkind24 tab26 tkind26 tab27 tkind27 tab28 tkind28 tab29 tkind29 tab33 tkind33 tab34 tkind34 tab35 tkind35 tab37 tkind37 tab40 tkind40 tab45 tkind45 tab46 tkind46 tab54 tkind54 tab55 tkind55 tab63 tkind63 tab64 tkind64 tab71 tkind71 tab72 tkind72 tab73 tkind73 tab74 tkind74 tab77 tkind77 tab78 tkind78 tab79 tkind79 tab81 tkind81 tab82 tkind82 tab85 tkind85 tab86 tkind86 tab87 tkind87 tab88 tkind88 tab96 tkind96 tab97 tkind97 tab98 tkind98 tab101 tkind101 tab116 tkind116 tab117 tkind117 tab118 tkind118 tab135 tkind135 tab137 tkind137 tab138 tkind138 tab140 tkind140 tab141 tkind141 tab145 tkind145 tab146 tkind146 tab148 tkind148 tab149 tkind149 e_S_api_Limits wkl_eI_u64 wka_eI_u64 len_eI_u64 one_eI_u64 wkp_eI_u64 undp_eI_u64 rens_eI_u64 renp_eI_u64 und_eI_u64 wkl_eL_eI_u64 wka_eL_eI_u64 len_eL_eI_u64 one_eL_eI_u64 wkp_eL_eI_u64 undp_eL_eI_u64 rens_eL_eI_u64 renp_eL_eI_u64 und_eL_eI_u64 e_S_ptr_Ptr e_S_centoref06_Loc e_S_centoref09_Ref e_S_api_Tree e0_eq_S_api_Tree wkl_e_S_api_Tree wka_e_S_api_Tree len_e_S_api_Tree one_e_S_api_Tree wkp_e_S_api_Tree undp_e_S_api_Tree rens_e_S_api_Tree renp_e_S_api_Tree und_e_S_api_Tree e_S_arena_Arena wkl_e_S_arena_Arena wka_e_S_arena_Arena len_e_S_arena_Arena one_e_S_arena_Arena wkp_e_S_arena_Arena undp_e_S_arena_Arena rens_e_S_arena_Arena renp_e_S_arena_Arena und_e_S_arena_Arena wkl_eI_i64 wka_eI_i64 len_eI_i64 one_eI_i64 wkp_eI_i64 undp_eI_i64 rens_eI_i64 renp_eI_i64 und_eI_i64 e_S_far_Loc e_S_reader_Ref e_S_equal_comparer wkl_e_S_equal_comparer wka_e_S_equal_comparer len_e_S_equal_comparer one_e_S_equal_comparer wkp_e_S_equal_comparer undp_e_S_equal_comparer rens_e_S_equal_comparer renp_e_S_equal_comparer und_e_S_equal_comparer e_S_equal_hasher wkl_e_S_equal_hasher wka_e_S_equal_hasher len_e_S_equal_hasher one_e_S_equal_hasher wkp_e_S_equal_hasher undp_e_S_equal_hasher rens_e_S_equal_hasher renp_e_S_equal_hasher und_e_S_equal_hasher
theorem ok_centolaw10_Light {a0 : S_api_Limits} {r : S_api_Limits} {O : Objs} {n : Nat} (h : m_centolaw10_Light a0 = some r) : GTo Try.prog 7 [.agg (c_S_api_Limits a0)] O n (.agg (c_S_api_Limits r)) O n := by
  unfold m_centolaw10_Light at h
  refine zFn Try.call7 Try.func7 fun hU hN0 hN => ?_
  show W _ _ _ _ ⟨8, [], [(0, .agg (c_S_api_Limits a0))]⟩ (Loc O n []) _
  refine zQ [1, 2] ?_
  obtain ⟨z1, hz1, h⟩ := bC h
  refine W_seqN (E' := ⟨8, [], [(1, .ref n 0), (2, .ref (n + 1) 0)]⟩) (O' := (Loc O n [some ⟨false, 24, 4, 1, [(vI a0.Depth), (vI z1), (vI a0.MaxD), (vI a0.MaxOut)]⟩, some ⟨false, 24, 4, 1, [(vI 0), (vI 0), (vI 0), (vI 0)]⟩])) (n0 := (n + 2)) ?_ ?_
  · refine zQ [1, 2, 5] ?_
    refine W_cond (t := (decide (3000 < a0.Weight))) rfl (fun c2 => ?_) (fun c2 => ?_)
    · replace hz1 := condT c2 hz1
      refine zR ?_
      exact zEn hz1
    · replace hz1 := condF c2 hz1
      refine zK ?_
      exact zEn hz1
  refine W_seqK ?_
  refine zRd [2] [false, true] ?_
  exact zRet [.agg [(vI a0.Depth), (vI z1), (vI a0.MaxD), (vI a0.MaxOut)]]

theorem ok_centoref10_within {a0 : Int} {a1 : Int} {r : Int} {O : Objs} {n : Nat} (h : m_centoref10_within a0 a1 = some r) : GTo Try.prog 35 [(vI a0), (vI a1)] O n ((vI r)) O n := by
  unfold m_centoref10_within at h
  refine zFn Try.call35 Try.func35 fun hU hN0 hN => ?_
  show W _ _ _ _ ⟨12, [], [(0, (vI a0)), (1, (vI a1))]⟩ (Loc O n []) _
  refine zQ [0, 1] ?_
  refine W_seqK ?_
  refine zQ [0, 1, 6] ?_
  refine W_cond (t := (decide (a0 < 0))) rfl (fun c2 => ?_) (fun c2 => ?_)
  · replace h := condT c2 h
    refine zQ [4] ?_
    exact zRet [(vI 0)]
  · replace h := condF c2 h
    refine zKd [0, 1] [] ?_
    refine W_seqK ?_
    refine zQ [0, 1, 9] ?_
    refine W_cond (t := (decide (a1 < a0))) rfl (fun c1 => ?_) (fun c1 => ?_)
    · replace h := condT c1 h
      refine zQ [4] ?_
      exact zRet [(vI a1)]
    · replace h := condF c1 h
      refine zKd [0] [] ?_
      refine zQ [4] ?_
      exact zRet [(vI a0)]

theorem ok_centoref10_Limits {a0 : S_api_Limits} {r : S_api_Limits} {O : Objs} {n : Nat} (h : m_centoref10_Limits a0 = some r) : GTo Try.prog 23 [.agg (c_S_api_Limits a0)] O n (.agg (c_S_api_Limits r)) O n := by
  unfold m_centoref10_Limits at h
  refine zFn Try.call23 Try.func23 fun hU hN0 hN => ?_
  show W _ _ _ _ ⟨16, [], [(0, .agg (c_S_api_Limits a0))]⟩ (Loc O n []) _
  refine zQ [1, 2] ?_
  refine W_seqK ?_
  obtain ⟨y5, hy5, h⟩ := bC h
  obtain ⟨y6, hy6, h⟩ := bC h
  obtain ⟨y7, hy7, h⟩ := bC h
  obtain ⟨y8, hy8, h⟩ := bC h
  refine W_drawF tab_ok (by kernel_rfl) [false, false, false, false, false, false, false, false, false, false, false, false, false, true] [] (by kernel_rfl) ?_
  refine zS ?_
  refine PCall.of (ok_centoref10_within hy5) ?_
  refine zS ?_
  refine PCall.of (ok_centoref10_within hy6) ?_
  refine zS ?_
  refine PCall.of (ok_centoref10_within hy7) ?_
  refine zS ?_
  refine PCall.of (ok_centoref10_within hy8) ?_
  refine zS ?_
  refine zD [2] [false, true] ?_
  exact zRet [.agg [(vI y5), (vI y6), (vI y7), (vI y8)]]

theorem ok_centoref06_has {a0 : (List (List Int))} {a1 : Int} {a2 : Int} {r : Bool} {O : Objs} {n : Nat} (h : m_centoref06_has a0 a1 a2 = some r) : GTo Try.prog 57 [(sL (eL (eI .u64)) a0), (vI a1), (vI a2)] O n ((vB r)) O n := by
  unfold m_centoref06_has at h
  refine zFn Try.call57 Try.func57 fun hU hN0 hN => ?_
  show W _ _ _ _ ⟨28, [], [(0, (sL (eL (eI .u64)) a0)), (1, (vI a1)), (2, (vI a2))]⟩ (Loc O n []) _
  refine zQ [0, 1, 2] ?_
  obtain ⟨z2, hz2, h⟩ := bC h
  refine W_seqN (E' := ⟨28, [], [(6, (vB z2))]⟩) (O' := (Loc O n [])) (n0 := n) ?_ ?_
  · rcases Bool.eq_false_or_eq_true (decide (0 ≤ a1)) with c5 | c5
    · replace hz2 := condT c5 hz2
      rcases Bool.eq_false_or_eq_true (decide (a1 < (a0.length : Int))) with c6 | c6
      · replace hz2 := condT c6 hz2
        try rw [c6] at c5
        rcases Bool.eq_false_or_eq_true (decide (0 ≤ a2)) with c7 | c7
        · replace hz2 := condT c7 hz2
          try rw [c7] at c5
          try rw [c7] at c6
          obtain ⟨x4, hx4, ax4, bx4, cx4, hz2⟩ := bE (f := (eL (eI .u64))) tab26 (fun _ => rfl) (by decide) hz2
          refine zRof6 [none, none, none, none, none, none, some true, some true, some true, some true, some true, some true, some true] c5 c6 c7 ax4 bx4 cx4 ?_
          refine zG ?_
          exact zEnf6 hz2 c5 c6 c7 ax4 bx4 cx4
        · replace hz2 := condF c7 hz2
          try rw [c7] at c5
          try rw [c7] at c6
          refine zRox3 [none, none, none, none, none, none, some false, some false, some false, some false, some false, some false, some false] c5 c6 c7 ?_
          refine zG ?_
          exact zEnx3 hz2 c5 c6 c7
      · replace hz2 := condF c6 hz2
        try rw [c6] at c5
        refine zRox2 [none, none, none, none, none, none, some false, some false, some false, some false, some false, some false, some false] c5 c6 ?_
        refine zG ?_
        exact zEnx2 hz2 c5 c6
    · replace hz2 := condF c5 hz2
      refine zRox1 [none, none, none, none, none, none, some false, some false, some false, some false, some false, some false, some false] c5 ?_
      refine zG ?_
      exact zEnx1 hz2 c5
  exact zRet [(vB z2)]

theorem ok_centoref04_field {a0 : Int} {a1 : Int} {a2 : Int} {r : Int} {O : Objs} {n : Nat} (h : m_centoref04_field a0 a1 a2 = some r) : GTo Try.prog 60 [.val (.int .u64 a0), (vI a1), (vI a2)] O n ((vI r)) O n := by
  unfold m_centoref04_field at h
  refine zFn Try.call60 Try.func60 fun hU hN0 hN => ?_
  show W _ _ _ _ ⟨34, [], [(0, .val (.int .u64 a0)), (1, (vI a1)), (2, (vI a2))]⟩ (Loc O n []) _
  refine zQ [0, 1, 2] ?_
  refine W_seqK ?_
  refine zQd [0, 1, 2, 7] [0, 1, 2, 7] [] ?_
  obtain ⟨z2, hz2, h⟩ := bC h
  refine W_blockX (E' := ⟨34, [], [(0, .val (.int .u64 z2)), (2, (vI a2))]⟩) (O' := (Loc O n [])) (n0 := n) ?_ ?_
  · refine W_loopJ hz2 (fun s0_ => ⟨34, [], [(0, .val (.int .u64 s0_.1)), (1, (vI a1)), (2, (vI a2)), (7, (vI s0_.2))]⟩) (fun s0_ => (Loc O n [])) (fun z2 => JX 0 n (⟨34, [], [(0, .val (.int .u64 z2)), (2, (vI a2))]⟩ : Env) (Loc O n []) n) ?_
    intro s0_ x0_ hs0_
    unfold m_centoref04_field_L0 at hs0_
    try dsimp only
    refine W_seqK ?_
    refine zQ [0, 1, 2, 7, 13] ?_
    refine W_cond (t := (decide (s0_.2 < a1))) rfl (fun c1 => ?_) (fun c1 => ?_)
    · replace hs0_ := condT c1 hs0_
      refine zKd [0, 1, 2, 7] [] ?_
      refine W_seqK ?_
      refine W_block ?_
      refine zRd [0, 1, 2, 7] [] ?_
      refine zR ?_
      exact zEn hs0_
    · replace hs0_ := condF c1 hs0_
      exact zEx hs0_
  try simp only [gthen, gblock, ↓reduceIte, Nat.reduceEqDiff]
  refine zD [0, 2] [] ?_
  refine zQ [0, 2, 8, 9] ?_
  refine W_seqK ?_
  refine zQd [0, 2, 8, 9, 10] [0, 2, 8, 9, 10] [] ?_
  obtain ⟨z6, hz6, h⟩ := bC h
  refine W_blockX (E' := ⟨34, [], [(8, (vI z6))]⟩) (O' := (Loc O n [])) (n0 := n) ?_ ?_
  · refine W_loopJ hz6 (fun s1_ => ⟨34, [], [(0, .val (.int .u64 s1_.1)), (2, (vI a2)), (8, (vI s1_.2.1)), (9, (vI s1_.2.2.1)), (10, (vI s1_.2.2.2))]⟩) (fun s1_ => (Loc O n [])) (fun z6 => JX 2 n (⟨34, [], [(8, (vI z6))]⟩ : Env) (Loc O n []) n) ?_
    intro s1_ x1_ hs1_
    unfold m_centoref04_field_L1 at hs1_
    try dsimp only
    refine W_seqK ?_
    refine zQ [0, 2, 8, 9, 10, 20] ?_
    refine W_cond (t := (decide (s1_.2.2.2 < a2))) rfl (fun c5 => ?_) (fun c5 => ?_)
    · replace hs1_ := condT c5 hs1_
      refine zKd [0, 2, 8, 9, 10] [] ?_
      refine W_seqK ?_
      refine W_block ?_
      obtain ⟨z3, hz3, hs1_⟩ := bC hs1_
      refine W_seqN (E' := ⟨34, [], [(0, .val (.int .u64 s1_.1)), (2, (vI a2)), (8, (vI z3)), (9, (vI s1_.2.2.1)), (10, (vI s1_.2.2.2))]⟩) (O' := (Loc O n [])) (n0 := n) ?_ ?_
      · refine zQ [0, 2, 8, 9, 10, 25] ?_
        refine W_cond (t := ((Int.tmod s1_.1 2) == 1)) rfl (fun c4 => ?_) (fun c4 => ?_)
        · replace hz3 := condT c4 hz3
          refine zR ?_
          exact zEn hz3
        · replace hz3 := condF c4 hz3
          refine zK ?_
          exact zEn hz3
      refine zQ [0, 2, 8, 9, 10] ?_
      refine zRd [0, 2, 8, 9, 10] [] ?_
      refine zR ?_
      exact zEn hs1_
    · replace hs1_ := condF c5 hs1_
      exact zEx hs1_
  try simp only [gthen, gblock, ↓reduceIte, Nat.reduceEqDiff]
  refine zD [8] [] ?_
  refine zQ [6] ?_
  exact zRet [(vI z6)]

theorem ok_centoref04_Decode {a0 : Int} {r : S_ptr_Ptr} {O : Objs} {n : Nat} (h : m_centoref04_Decode a0 = some r) : GTo Try.prog 37 [.val (.int .u64 a0)] O n (.agg (c_S_ptr_Ptr r)) O n := by
  unfold m_centoref04_Decode at h
  refine zFn Try.call37 Try.func37 fun hU hN0 hN => ?_
  show W _ _ _ _ ⟨42, [], [(0, .val (.int .u64 a0))]⟩ (Loc O n []) _
  refine zQ [0, 2] ?_
  refine W_seqK ?_
  refine zQ [0, 2, 5] ?_
  refine W_cond (t := (a0 == 0)) rfl (fun c24 => ?_) (fun c24 => ?_)
  · replace h := condT c24 h
    refine W_seqK ?_
    refine zRd [2] [true] ?_
    exact zRet [.agg [(vI 0), (vI 0), (vI 0), (vI 0), (vI 0), (vI 0), (vI 0), (vB false)]]
  · replace h := condF c24 h
    refine zKd [0, 2] [true] ?_
    refine W_seqK ?_
    obtain ⟨y2, hy2, h⟩ := bC h
    refine zCd (ok_centoref04_field hy2) [0, 2, 3] [true] ?_
    obtain ⟨z3, hz3, h⟩ := bC h
    refine W_seqN (E' := ⟨42, [], [(0, .val (.int .u64 a0)), (2, .ref n 0), (3, (vI z3))]⟩) (O' := (Loc O n [some ⟨false, 86, 8, 1, [(vI 0), (vI 0), (vI 0), (vI 0), (vI 0), (vI 0), (vI 0), (vB false)]⟩])) (n0 := (n + 1)) ?_ ?_
    · refine zQ [0, 2, 3, 10] ?_
      refine W_cond (t := (decide (536870912 ≤ y2))) rfl (fun c4 => ?_) (fun c4 => ?_)
      · replace hz3 := condT c4 hz3
        refine zR ?_
        exact zEn hz3
      · replace hz3 := condF c4 hz3
        refine zK ?_
        exact zEn hz3
    refine W_seqK ?_
    refine W_seqK ?_
    obtain ⟨y6, hy6, h⟩ := bC h
    refine zCd (ok_centoref04_field hy6) [0, 2, 3, 14] [true] ?_
    refine W_block ?_
    refine zQ [0, 2, 3, 14, 15] ?_
    refine W_cond (t := (y6 == 0)) rfl (fun c23 => ?_) (fun c23 => ?_)
    · replace h := condT c23 h
      refine W_seqK ?_
      obtain ⟨y9, hy9, h⟩ := bC h
      obtain ⟨y10, hy10, h⟩ := bC h
      refine zC (ok_centoref04_field hy9) ?_
      refine zTs (ok_centoref04_field hy10) ?_
      refine zD [2] [true] ?_
      exact zRet [.agg [(vI 1), (vI z3), (vI y9), (vI y10), (vI 0), (vI 0), (vI 0), (vB false)]]
    · replace h := condF c23 h
      refine zQ [0, 2, 3, 14, 23] ?_
      refine W_cond (t := (y6 == 1)) rfl (fun c22 => ?_) (fun c22 => ?_)
      · replace h := condT c22 h
        refine W_seqK ?_
        obtain ⟨y13, hy13, h⟩ := bC h
        obtain ⟨y14, hy14, h⟩ := bC h
        refine zC (ok_centoref04_field hy13) ?_
        refine zTs (ok_centoref04_field hy14) ?_
        refine zD [2] [true] ?_
        exact zRet [.agg [(vI 2), (vI z3), (vI 0), (vI 0), (vI y13), (vI y14), (vI 0), (vB false)]]
      · replace h := condF c22 h
        refine zQ [0, 2, 31] ?_
        refine W_cond (t := (y6 == 2)) rfl (fun c21 => ?_) (fun c21 => ?_)
        · replace h := condT c21 h
          refine W_seqK ?_
          obtain ⟨y18, hy18, h⟩ := bC h
          obtain ⟨y19, hy19, h⟩ := bC h
          obtain ⟨y20, hy20, h⟩ := bC h
          refine zC (ok_centoref04_field hy18) ?_
          refine zTs (ok_centoref04_field hy19) ?_
          refine zTs (ok_centoref04_field hy20) ?_
          refine zD [2] [true] ?_
          exact zRet [.agg [(vI 3), (vI y18), (vI 0), (vI 0), (vI 0), (vI 0), (vI y19), (vB (y20 == 1))]]
        · replace h := condF c21 h
          refine zKd [2] [true] ?_
          refine W_seqK ?_
          refine zRd [2] [true] ?_
          exact zRet [.agg [(vI 4), (vI 0), (vI 0), (vI 0), (vI 0), (vI 0), (vI 0), (vB false)]]

theorem ok_centoref06_shape {a0 : S_ptr_Ptr} {r : Int} {O : Objs} {n : Nat} (h : m_centoref06_shape a0 = some r) : GTo Try.prog 58 [.agg (c_S_ptr_Ptr a0)] O n ((vI r)) O n := by
  unfold m_centoref06_shape at h
  refine zFn Try.call58 Try.func58 fun hU hN0 hN => ?_
  show W _ _ _ _ ⟨14, [], [(0, .agg (c_S_ptr_Ptr a0))]⟩ (Loc O n []) _
  refine zQ [1] ?_
  refine W_seqK ?_
  refine zQ [1, 5] ?_
  refine W_cond (t := (a0.Kind == 4)) rfl (fun c2 => ?_) (fun c2 => ?_)
  · replace h := condT c2 h
    refine zQ [2] ?_
    exact zRet [(vI 9)]
  · replace h := condF c2 h
    refine zKd [1] [true] ?_
    refine W_seqK ?_
    refine zQD [13] [none, none, none] ?_
    refine W_cond (t := (cond (a0.Kind != 1) (a0.Kind != 2) false)) rfl (fun c1 => ?_) (fun c1 => ?_)
    · replace h := condT c1 h
      refine zQ [2] ?_
      exact zRet [(vI 8)]
    · replace h := condF c1 h
      refine zKd [] [false] ?_
      refine zQ [2] ?_
      exact zRet [(vI 0)]

theorem ok_centoref04_Words {a0 : S_ptr_Ptr} {r : Int} {O : Objs} {n : Nat} (h : m_centoref04_Words a0 = some r) : GTo Try.prog 70 [.agg (c_S_ptr_Ptr a0)] O n ((vI r)) O n := by
  unfold m_centoref04_Words at h
  refine zFn Try.call70 Try.func70 fun hU hN0 hN => ?_
  show W _ _ _ _ ⟨65, [], [(0, .agg (c_S_ptr_Ptr a0))]⟩ (Loc O n []) _
  refine zQ [1] ?_
  refine W_seqK ?_
  refine zQ [1, 6] ?_
  refine W_cond (t := (a0.Kind == 1)) rfl (fun c17 => ?_) (fun c17 => ?_)
  · replace h := condT c17 h
    refine zQ [2] ?_
    exact zRet [(vI (IntKind.i64.wrap (a0.Data + a0.Ptrs)))]
  · replace h := condF c17 h
    refine zKd [1] [true] ?_
    refine W_seqK ?_
    refine zQ [1, 14] ?_
    refine W_cond (t := (a0.Kind != 2)) rfl (fun c16 => ?_) (fun c16 => ?_)
    · replace h := condT c16 h
      refine zQ [2] ?_
      exact zRet [(vI (-1))]
    · replace h := condF c16 h
      refine zKd [1] [true] ?_
      refine W_seqK ?_
      refine zQ [1, 17] ?_
      refine W_cond (t := (a0.Code == 7)) rfl (fun c15 => ?_) (fun c15 => ?_)
      · replace h := condT c15 h
        refine zQ [2] ?_
        exact zRet [(vI (IntKind.i64.wrap (a0.Count + 1)))]
      · replace h := condF c15 h
        refine zKd [1] [true] ?_
        refine W_seqK ?_
        refine zQD [1, 38] [none, none, none, none, none, none, none, none, none] ?_
        refine W_cond (t := (cond (cond (cond (decide (a0.Code < 0)) true (decide (6 < a0.Code))) true (decide (a0.Count < 0))) true (decide (536870912 ≤ a0.Count)))) rfl (fun c14 => ?_) (fun c14 => ?_)
        · replace h := condT c14 h
          refine zQ [2] ?_
          exact zRet [(vI (-1))]
        · replace h := condF c14 h
          refine zKd [1] [true] ?_
          refine zQ [1, 3] ?_
          obtain ⟨z1, hz1, h⟩ := bC h
          refine W_sum (J := (SumJ (fun z1 => JN n (⟨65, [], [(1, .ref n 0), (3, (vI z1))]⟩ : Env) (Loc O n [some ⟨false, 86, 8, 1, (c_S_ptr_Ptr a0)⟩]) (n + 1)) (fun z1 => JR n (⟨65, [], [(2, (vI 0))]⟩ : Env) (Loc O n [none]) (n + 1)))) (z := z1) ?_ fun hw => ?_
          · refine zQ [1, 3, 40] ?_
            refine W_block ?_
            refine zQ [1, 3, 40, 41] ?_
            refine W_cond (t := (a0.Code == 0)) rfl (fun c6 => ?_) (fun c6 => ?_)
            · replace hz1 := condT c6 hz1
              refine zQ [2] ?_
              refine zW ?_
              exact zEn hz1
            · replace hz1 := condF c6 hz1
              refine zQ [1, 3, 40, 43] ?_
              refine W_cond (t := (a0.Code == 1)) rfl (fun c5 => ?_) (fun c5 => ?_)
              · replace hz1 := condT c5 hz1
                refine zR ?_
                exact zEn hz1
              · replace hz1 := condF c5 hz1
                refine zQ [1, 3, 40, 45] ?_
                refine W_cond (t := (a0.Code == 2)) rfl (fun c4 => ?_) (fun c4 => ?_)
                · replace hz1 := condT c4 hz1
                  refine zR ?_
                  exact zEn hz1
                · replace hz1 := condF c4 hz1
                  refine zQ [1, 3, 40, 47] ?_
                  refine W_cond (t := (a0.Code == 3)) rfl (fun c3 => ?_) (fun c3 => ?_)
                  · replace hz1 := condT c3 hz1
                    refine zR ?_
                    exact zEn hz1
                  · replace hz1 := condF c3 hz1
                    refine zQ [1, 3, 49] ?_
                    refine W_cond (t := (a0.Code == 4)) rfl (fun c2 => ?_) (fun c2 => ?_)
                    · replace hz1 := condT c2 hz1
                      refine zR ?_
                      exact zEn hz1
                    · replace hz1 := condF c2 hz1
                      refine zK ?_
                      exact zEn hz1
          rcases z1 with z1 | z1
          · dsimp only [SumJ] at hw h
            refine W_seqN hw ?_
            refine W_seqK ?_
            obtain ⟨pu8, h⟩ := bG h
            refine W_sq [1, 3, 55] (W_regionD tab_ok [] ?_)
            simp only [push_cast, seval, ↓reduceIte, cast_lit, pu8, hN0, hN]
            refine W_cond (t := (decide (0 < (Int.tmod a0.Count z1)))) rfl (fun c13 => ?_) (fun c13 => ?_)
            · replace h := condT c13 h
              obtain ⟨pu10, h⟩ := bG h
              refine W_sq [2] (W_regionD tab_ok [] ?_)
              simp only [push_cast, seval, ↓reduceIte, cast_lit, pu10, hN0, hN]
              exact zRet [(vI (IntKind.i64.wrap ((IntKind.i64.wrap (Int.tdiv a0.Count z1)) + 1)))]
            · replace h := condF c13 h
              refine zKd [1, 3] [true] ?_
              obtain ⟨pu12, h⟩ := bG h
              refine W_sq [2] (W_regionD tab_ok [] ?_)
              simp only [push_cast, seval, ↓reduceIte, cast_lit, pu12, hN0, hN]
              exact zRet [(vI (IntKind.i64.wrap (Int.tdiv a0.Count z1)))]
          · dsimp only [SumJ] at hw h
            refine W_seqR hw ?_
            try simp only [gthen, gblock]
            exact zFin [(vI 0)]

theorem ok_centoref06_whole {a0 : (List (List Int))} {a1 : S_centoref06_Loc} {r : (S_centoref06_Loc × Int)} {O : Objs} {n : Nat} (h : m_centoref06_whole a0 a1 = some r) : GTo Try.prog 59 [(sL (eL (eI .u64)) a0), .agg [(vI a1.P.Kind), (vI a1.P.Off), (vI a1.P.Data), (vI a1.P.Ptrs), (vI a1.P.Code), (vI a1.P.Count), (vI a1.P.Segment), (vB a1.P.Double), (vI a1.Segment), (vI a1.At)]] O n (.tup [.agg [(vI r.1.P.Kind), (vI r.1.P.Off), (vI r.1.P.Data), (vI r.1.P.Ptrs), (vI r.1.P.Code), (vI r.1.P.Count), (vI r.1.P.Segment), (vB r.1.P.Double), (vI r.1.Segment), (vI r.1.At)], (vI r.2)]) O n := by
  unfold m_centoref06_whole at h
  refine zFn Try.call59 Try.func59 fun hU hN0 hN => ?_
  show W _ _ _ _ ⟨53, [], [(0, (sL (eL (eI .u64)) a0)), (1, .agg [(vI a1.P.Kind), (vI a1.P.Off), (vI a1.P.Data), (vI a1.P.Ptrs), (vI a1.P.Code), (vI a1.P.Count), (vI a1.P.Segment), (vB a1.P.Double), (vI a1.Segment), (vI a1.At)])]⟩ (Loc O n []) _
  refine zQ [0, 3, 4] ?_
  refine W_seqK ?_
  obtain ⟨y2, hy2, h⟩ := bC h
  refine zCd (ok_centoref04_Words hy2) [0, 3, 4, 6] [true, true] ?_
  refine W_seqK ?_
  obtain ⟨z5, hz5, h⟩ := bC h
  refine W_seqN (E' := ⟨53, [], [(3, .ref n 0), (4, .ref (n + 1) 0), (48, (vB z5))]⟩) (O' := (Loc O n [some ⟨false, 88, 10, 1, [(vI a1.P.Kind), (vI a1.P.Off), (vI a1.P.Data), (vI a1.P.Ptrs), (vI a1.P.Code), (vI a1.P.Count), (vI a1.P.Segment), (vB a1.P.Double), (vI a1.Segment), (vI a1.At)]⟩, some ⟨false, 88, 10, 1, [(vI 0), (vI 0), (vI 0), (vI 0), (vI 0), (vI 0), (vI 0), (vB false), (vI 0), (vI 0)]⟩])) (n0 := (n + 2)) ?_ ?_
  · rcases Bool.eq_false_or_eq_true (decide (a1.Segment < 0)) with c10 | c10
    · replace hz5 := condT c10 hz5
      refine W_drawD tab_ok (by kernel_rfl) [none, none, none, none, none, none, none, none, some false, some false, some false, some false, some false, some false, some false, some false, some false, some false, some false, some false, some false, some false, some false, some false, some false, some false, some false, some false] (by kernel_rfl) ?_
      refine zX1 c10 ?_
      refine zG ?_
      exact zEnx1 hz5 c10
    · replace hz5 := condF c10 hz5
      rcases Bool.eq_false_or_eq_true (decide ((a0.length : Int) ≤ a1.Segment)) with c11 | c11
      · replace hz5 := condT c11 hz5
        try rw [c11] at c10
        refine W_drawD tab_ok (by kernel_rfl) [none, none, none, none, none, none, none, none, some false, some false, some false, some false, some false, some false, some false, some false, some false, some false, some false, some false, some false, some false, some false, some false, some false, some false, some false, some false] (by kernel_rfl) ?_
        refine zX2 c10 c11 ?_
        refine zG ?_
        exact zEnx2 hz5 c10 c11
      · replace hz5 := condF c11 hz5
        try rw [c11] at c10
        rcases Bool.eq_false_or_eq_true (decide (a1.At < 0)) with c12 | c12
        · replace hz5 := condT c12 hz5
          try rw [c12] at c10
          try rw [c12] at c11
          refine W_drawD tab_ok (by kernel_rfl) [none, none, none, none, none, none, none, none, some false, some false, some false, some false, some false, some false, some false, some false, some false, some false, some false, some false, some false, some false, some false, some false, some false, some false, some false, some false] (by kernel_rfl) ?_
          refine zX3 c10 c11 c12 ?_
          refine zG ?_
          exact zEnx3 hz5 c10 c11 c12
        · replace hz5 := condF c12 hz5
          try rw [c12] at c10
          try rw [c12] at c11
          obtain ⟨x8, hx8, ax8, bx8, cx8, hz5⟩ := bE (f := (eL (eI .u64))) tab26 (fun _ => rfl) (by decide) hz5
          rcases Bool.eq_false_or_eq_true (decide ((x8.length : Int) < a1.At)) with c13 | c13
          · replace hz5 := condT c13 hz5
            try rw [c13] at c10
            try rw [c13] at c11
            try rw [c13] at c12
            refine W_drawD tab_ok (by kernel_rfl) [none, none, none, none, none, none, none, none, some true, some true, some true, some true, some true, some true, some true, some true, some true, some false, some false, some false, some false, some false, some false, some false, some false, some false, some false, some false] (by kernel_rfl) ?_
            refine zF7 c10 c11 c12 ax8 bx8 cx8 c13 ?_
            refine zG ?_
            exact zEnf7 hz5 c10 c11 c12 ax8 bx8 cx8 c13
          · replace hz5 := condF c13 hz5
            try rw [c13] at c10
            try rw [c13] at c11
            try rw [c13] at c12
            refine W_drawD tab_ok (by kernel_rfl) [none, none, none, none, none, none, none, none, some true, some true, some true, some true, some true, some true, some true, some true, some true, some true, some true, some true, some true, some true, some true, some true, some true, some true, some true, some true] (by kernel_rfl) ?_
            refine zF7 c10 c11 c12 ax8 bx8 cx8 c13 ?_
            refine zG ?_
            exact zEnf7 hz5 c10 c11 c12 ax8 bx8 cx8 c13
  refine W_cond (t := z5) rfl (fun c14 => ?_) (fun c14 => ?_)
  · replace h := condT c14 h
    refine W_seqK ?_
    refine zRd [4, 5] [false, true] ?_
    exact zRet [.agg [(vI 0), (vI 0), (vI 0), (vI 0), (vI 0), (vI 0), (vI 0), (vB false), (vI 0), (vI 0)], (vI 7)]
  · replace h := condF c14 h
    refine zKd [3, 4] [true, true] ?_
    refine W_seqK ?_
    refine zRd [3, 4] [true, true] ?_
    refine W_seqK ?_
    refine zRd [4, 5] [false, true] ?_
    exact zRet [.agg [(vI a1.P.Kind), (vI 0), (vI a1.P.Data), (vI a1.P.Ptrs), (vI a1.P.Code), (vI a1.P.Count), (vI a1.P.Segment), (vB a1.P.Double), (vI a1.Segment), (vI a1.At)], (vI 0)]

theorem ok_centoref06_Follow {a0 : (List (List Int))} {a1 : Int} {a2 : Int} {r : (S_centoref06_Loc × Int)} {O : Objs} {n : Nat} (h : m_centoref06_Follow a0 a1 a2 = some r) : GTo Try.prog 36 [(sL (eL (eI .u64)) a0), (vI a1), (vI a2)] O n (.tup [.agg [(vI r.1.P.Kind), (vI r.1.P.Off), (vI r.1.P.Data), (vI r.1.P.Ptrs), (vI r.1.P.Code), (vI r.1.P.Count), (vI r.1.P.Segment), (vB r.1.P.Double), (vI r.1.Segment), (vI r.1.At)], (vI r.2)]) O n := by
  unfold m_centoref06_Follow at h
  refine zFn Try.call36 Try.func36 fun hU hN0 hN => ?_
  show W _ _ _ _ ⟨147, [], [(0, (sL (eL (eI .u64)) a0)), (1, (vI a1)), (2, (vI a2))]⟩ (Loc O n []) _
  refine zQ [0, 1, 2, 6] ?_
  refine W_seqK ?_
  refine W_seqK ?_
  obtain ⟨y2, hy2, h⟩ := bC h
  refine zCd (ok_centoref06_has hy2) [0, 1, 2, 6, 17] [true] ?_
  refine W_cond (t := (!y2)) rfl (fun c47 => ?_) (fun c47 => ?_)
  · replace h := condT c47 h
    refine W_seqK ?_
    refine zRd [6, 7] [true] ?_
    exact zRet [.agg [(vI 0), (vI 0), (vI 0), (vI 0), (vI 0), (vI 0), (vI 0), (vB false), (vI 0), (vI 0)], (vI 7)]
  · replace h := condF c47 h
    refine zKd [0, 1, 2, 6] [true] ?_
    refine W_seqK ?_
    obtain ⟨x6, hx6, ax6, bx6, cx6, h⟩ := bE (f := (eL (eI .u64))) tab26 (fun _ => rfl) (by decide) h
    obtain ⟨x7, hx7, ax7, bx7, cx7, h⟩ := bE (f := (eI .u64)) tab40 (fun _ => rfl) (by decide) h
    obtain ⟨y8, hy8, h⟩ := bC h
    refine zRof6 [] ax6 bx6 cx6 ax7 bx7 cx7 ?_
    refine (ok_centoref04_Decode hy8).then ?_
    refine zF6 ax6 bx6 cx6 ax7 bx7 cx7 ?_
    refine zDs [0, 1, 2, 6, 8] [true, true] ?_
    refine zQ [0, 1, 2, 6, 8, 29] ?_
    refine W_cond (t := (y8.Kind == 0)) rfl (fun c46 => ?_) (fun c46 => ?_)
    · replace h := condT c46 h
      refine W_seqK ?_
      refine zRd [6, 7] [true, false] ?_
      exact zRet [.agg [(vI 0), (vI 0), (vI 0), (vI 0), (vI 0), (vI 0), (vI 0), (vB false), (vI 0), (vI 0)], (vI 0)]
    · replace h := condF c46 h
      refine zKd [0, 1, 2, 6, 8] [true, true] ?_
      refine W_seqK ?_
      refine zQD [0, 1, 2, 6, 8, 37] [none, none] ?_
      refine W_cond (t := (cond (y8.Kind == 3) y8.Double false)) rfl (fun c45 => ?_) (fun c45 => ?_)
      · replace h := condT c45 h
        refine W_seqK ?_
        obtain ⟨z11, hz11, h⟩ := bC h
        refine W_seqN (E' := ⟨147, [], [(0, (sL (eL (eI .u64)) a0)), (6, .ref n 0), (8, .ref (n + 1) 0), (54, (vB z11))]⟩) (O' := (Loc O n [some ⟨false, 88, 10, 1, [(vI 0), (vI 0), (vI 0), (vI 0), (vI 0), (vI 0), (vI 0), (vB false), (vI 0), (vI 0)]⟩, some ⟨false, 86, 8, 1, (c_S_ptr_Ptr y8)⟩])) (n0 := (n + 2)) ?_ ?_
        · obtain ⟨y14, hy14, hz11⟩ := bC hz11
          rcases Bool.eq_false_or_eq_true y14 with c16 | c16
          · replace hz11 := condT c16 hz11
            obtain ⟨y15, hy15, hz11⟩ := bC hz11
            refine zRox1 [some true, some true, some true, some true, some true, some true, some true, some true] c16 ?_
            refine (ok_centoref06_has hy14).then ?_
            refine zX1 c16 ?_
            refine (ok_centoref06_has hy15).then ?_
            refine zX1 c16 ?_
            exact zEnx1 hz11 c16
          · replace hz11 := condF c16 hz11
            refine zRox1 [some false, some false, some false, some false, some false, some false, some false, some false] c16 ?_
            refine (ok_centoref06_has hy14).then ?_
            refine zX1 c16 ?_
            exact zEnx1 hz11 c16
        refine W_cond (t := z11) rfl (fun c31 => ?_) (fun c31 => ?_)
        · replace h := condT c31 h
          refine W_seqK ?_
          refine zRd [6, 7] [true, false] ?_
          exact zRet [.agg [(vI 0), (vI 0), (vI 0), (vI 0), (vI 0), (vI 0), (vI 0), (vB false), (vI 0), (vI 0)], (vI 7)]
        · replace h := condF c31 h
          refine zKd [0, 6, 8] [true, true] ?_
          obtain ⟨x17, hx17, ax17, bx17, cx17, h⟩ := bE (f := (eL (eI .u64))) tab26 (fun _ => rfl) (by decide) h
          obtain ⟨x18, hx18, ax18, bx18, cx18, h⟩ := bE (f := (eI .u64)) tab40 (fun _ => rfl) (by decide) h
          obtain ⟨y19, hy19, h⟩ := bC h
          obtain ⟨x21, hx21, ax21, bx21, cx21, h⟩ := bE (f := (eI .u64)) tab40 (fun _ => rfl) (by decide) h
          obtain ⟨y22, hy22, h⟩ := bC h
          refine W_seqN (E' := ⟨147, [], [(0, (sL (eL (eI .u64)) a0)), (6, .ref n 0), (9, .ref (n + 2) 0), (10, .ref (n + 3) 0)]⟩) (O' := (Loc O n [some ⟨false, 88, 10, 1, [(vI 0), (vI 0), (vI 0), (vI 0), (vI 0), (vI 0), (vI 0), (vB false), (vI 0), (vI 0)]⟩, none, some ⟨false, 86, 8, 1, (c_S_ptr_Ptr y19)⟩, some ⟨false, 86, 8, 1, (c_S_ptr_Ptr y22)⟩])) (n0 := (n + 4)) ?_ ?_
          · refine W_drawX tab_ok (by kernel_rfl) [.low, .low, .low, .low, .low, .low, .low, .low, .low, .low, .low, .low, .low, .low, .low, .low, .low, .low, .low, .low, .low, .pass, .pass, .pass, .pass] (fun i => i < (n + 2)) 21 22 [0, 1, 2, 3, 4, 5, 6, 7, 8, 9, 10, 11, 12, 13, 14, 15, 16, 17, 18, 19, 20] [23, 24] [.low, .low, .low, .low, .low, .low, .low, .low, .low, .low, .low, .low, .low, .low, .low, .low, .low, .low, .low, .low, .low] [.pass, .pass, .pass, .pass] [.pass, .pass, .pass, .pass] [] (by kernel_rfl) rfl rfl rfl ?_
            refine zF9 ax17 bx17 cx17 ax18 bx18 cx18 ax21 bx21 cx21 ?_
            repeat (with_reducible refine And.intro (by omega) ?_)
            first | refine PCallA.of (fun _ _ => ok_centoref04_Decode hy19) ?_ | refine PCall.of (ok_centoref04_Decode hy19) ?_
            refine zF9 ax17 bx17 cx17 ax18 bx18 cx18 ax21 bx21 cx21 ?_
            repeat (with_reducible refine And.intro (by omega) ?_)
            first | refine PCallA.of (fun _ _ => ok_centoref04_Decode hy22) ?_ | refine PCall.of (ok_centoref04_Decode hy22) ?_
            refine zF9 ax17 bx17 cx17 ax18 bx18 cx18 ax21 bx21 cx21 ?_
            repeat (with_reducible refine And.intro (by omega) ?_)
            refine And.intro ?_ ?_
            · refine zF9 ax17 bx17 cx17 ax18 bx18 cx18 ax21 bx21 cx21 ?_
              repeat (with_reducible refine And.intro (by first | exact agree_loc rfl | exact agree_loc0) ?_)
              refine And.intro rfl (Fit2.of (fit_loc hU rfl rfl ?_) (by omega))
              exact zFe9 ax17 bx17 cx17 ax18 bx18 cx18 ax21 bx21 cx21
            · refine zF9 ax17 bx17 cx17 ax18 bx18 cx18 ax21 bx21 cx21 ?_
              repeat (with_reducible refine And.intro (by first | exact agree_loc rfl | exact agree_loc0) ?_)
              refine And.intro rfl ?_
              refine Fit2.trans (E' := (⟨147, [], [(0, (sL (eL (eI .u64)) a0)), (6, .ref n 0), (9, .ref (n + 3) 0), (10, .ref (n + 2) 0)]⟩ : Env)) (O' := (Loc O n [some ⟨false, 88, 10, 1, [(vI 0), (vI 0), (vI 0), (vI 0), (vI 0), (vI 0), (vI 0), (vB false), (vI 0), (vI 0)]⟩, none, some ⟨false, 86, 8, 1, (c_S_ptr_Ptr y22)⟩, some ⟨false, 86, 8, 1, (c_S_ptr_Ptr y19)⟩])) (n' := (n + 4)) (Fit2.of (fit_loc hU rfl rfl ?_) (by omega)) ?_
              · exact zFe9 ax17 bx17 cx17 ax18 bx18 cx18 ax21 bx21 cx21
              refine ren_fit (k := 4) (k' := 4) hU [0, 1, 3, 2] [0, 1, 3, 2] rfl rfl rfl rfl ⟨rfl, rfl⟩ ?_
              exact zSe
          refine W_seqK ?_
          refine zQD [0, 6, 9, 10, 83] [none, none] ?_
          refine W_cond (t := (cond (y19.Kind != 3) true y19.Double)) rfl (fun c30 => ?_) (fun c30 => ?_)
          · replace h := condT c30 h
            refine W_seqK ?_
            refine zRd [6, 7] [true, false, false, false] ?_
            exact zRet [.agg [(vI 0), (vI 0), (vI 0), (vI 0), (vI 0), (vI 0), (vI 0), (vB false), (vI 0), (vI 0)], (vI 8)]
          · replace h := condF c30 h
            refine zKd [0, 6, 9, 10] [true, false, true, true] ?_
            refine W_seqK ?_
            obtain ⟨y24, hy24, h⟩ := bC h
            refine zCd (ok_centoref06_shape hy24) [0, 6, 9, 10, 11] [true, false, true, true] ?_
            obtain ⟨z25, hz25, h⟩ := bC h
            refine W_seqN (E' := ⟨147, [], [(0, (sL (eL (eI .u64)) a0)), (6, .ref n 0), (9, .ref (n + 2) 0), (10, .ref (n + 3) 0), (11, (vI z25))]⟩) (O' := (Loc O n [some ⟨false, 88, 10, 1, [(vI 0), (vI 0), (vI 0), (vI 0), (vI 0), (vI 0), (vI 0), (vB false), (vI 0), (vI 0)]⟩, none, some ⟨false, 86, 8, 1, (c_S_ptr_Ptr y19)⟩, some ⟨false, 86, 8, 1, (c_S_ptr_Ptr y22)⟩])) (n0 := (n + 4)) ?_ ?_
            · refine zQD [0, 6, 9, 10, 11, 93] [none, none, none] ?_
              refine W_cond (t := (cond (y24 == 0) (y22.Off != 0) false)) rfl (fun c26 => ?_) (fun c26 => ?_)
              · replace hz25 := condT c26 hz25
                refine zR ?_
                exact zEn hz25
              · replace hz25 := condF c26 hz25
                refine zK ?_
                exact zEn hz25
            refine W_seqK ?_
            refine zQ [0, 6, 9, 10, 11, 95] ?_
            refine W_cond (t := (z25 != 0)) rfl (fun c29 => ?_) (fun c29 => ?_)
            · replace h := condT c29 h
              refine W_seqK ?_
              refine zRd [6, 7] [true, false, false, false] ?_
              exact zRet [.agg [(vI 0), (vI 0), (vI 0), (vI 0), (vI 0), (vI 0), (vI 0), (vB false), (vI 0), (vI 0)], (vI z25)]
            · replace h := condF c29 h
              refine zKd [0, 6, 9, 10] [true, false, true, true] ?_
              refine W_seqK ?_
              obtain ⟨y28, hy28, h⟩ := bC h
              refine zCd (ok_centoref06_whole hy28) [6, 7] [true, false, false, false] ?_
              exact zRet [.agg [(vI y28.1.P.Kind), (vI y28.1.P.Off), (vI y28.1.P.Data), (vI y28.1.P.Ptrs), (vI y28.1.P.Code), (vI y28.1.P.Count), (vI y28.1.P.Segment), (vB y28.1.P.Double), (vI y28.1.Segment), (vI y28.1.At)], (vI y28.2)]
      · replace h := condF c45 h
        refine zKd [0, 1, 2, 6, 8] [true, true] ?_
        obtain ⟨z32, hz32, h⟩ := bC h
        refine W_sum (J := (SumJ (fun z32 => JN n (⟨147, [], [(0, (sL (eL (eI .u64)) a0)), (1, (vI z32.1)), (2, (vI z32.2.1)), (6, .ref n 0), (8, .ref (n + 1) 0)]⟩ : Env) (Loc O n [some ⟨false, 88, 10, 1, [(vI 0), (vI 0), (vI 0), (vI 0), (vI 0), (vI 0), (vI 0), (vB false), (vI 0), (vI 0)]⟩, some ⟨false, 86, 8, 1, [(vI z32.2.2.1), (vI z32.2.2.2.1), (vI z32.2.2.2.2.1), (vI z32.2.2.2.2.2.1), (vI z32.2.2.2.2.2.2.1), (vI z32.2.2.2.2.2.2.2.1), (vI z32.2.2.2.2.2.2.2.2.1), (vB z32.2.2.2.2.2.2.2.2.2)]⟩]) (n + 2)) (fun z32 => JR n (⟨147, [], [(6, .ref n 0), (7, (vI 7))]⟩ : Env) (Loc O n [some ⟨false, 88, 10, 1, [(vI 0), (vI 0), (vI 0), (vI 0), (vI 0), (vI 0), (vI 0), (vB false), (vI 0), (vI 0)]⟩, none]) (n + 2)))) (z := z32) ?_ fun hw => ?_
        · refine zQ [0, 1, 2, 6, 8, 110] ?_
          refine W_cond (t := (y8.Kind == 3)) rfl (fun c39 => ?_) (fun c39 => ?_)
          · replace hz32 := condT c39 hz32
            refine zQ [0, 1, 6, 8] ?_
            refine zQ [0, 1, 2, 6, 8] ?_
            refine W_seqK ?_
            refine W_seqK ?_
            obtain ⟨y34, hy34, hz32⟩ := bC hz32
            refine zCd (ok_centoref06_has hy34) [0, 1, 2, 6, 8, 119] [true, true] ?_
            refine W_cond (t := (!y34)) rfl (fun c38 => ?_) (fun c38 => ?_)
            · replace hz32 := condT c38 hz32
              refine W_seqK ?_
              refine zRd [6, 7] [true, false] ?_
              refine zW ?_
              exact zEn hz32
            · replace hz32 := condF c38 hz32
              refine zKd [0, 1, 2, 6, 8] [true, true] ?_
              obtain ⟨x35, hx35, ax35, bx35, cx35, hz32⟩ := bE (f := (eL (eI .u64))) tab26 (fun _ => rfl) (by decide) hz32
              obtain ⟨x36, hx36, ax36, bx36, cx36, hz32⟩ := bE (f := (eI .u64)) tab40 (fun _ => rfl) (by decide) hz32
              obtain ⟨y37, hy37, hz32⟩ := bC hz32
              refine zRof6 [] ax35 bx35 cx35 ax36 bx36 cx36 ?_
              refine (ok_centoref04_Decode hy37).then ?_
              refine zF6 ax35 bx35 cx35 ax36 bx36 cx36 ?_
              exact zEnf6 hz32 ax35 bx35 cx35 ax36 bx36 cx36
          · replace hz32 := condF c39 hz32
            refine zK ?_
            exact zEn hz32
        rcases z32 with z32 | z32
        · dsimp only [SumJ] at hw h
          refine W_seqN hw ?_
          refine W_seqK ?_
          obtain ⟨y41, hy41, h⟩ := bC h
          refine zCd (ok_centoref06_shape hy41) [0, 1, 2, 6, 8, 12] [true, true] ?_
          refine W_seqK ?_
          refine zQ [0, 1, 2, 6, 8, 12, 132] ?_
          refine W_cond (t := (y41 != 0)) rfl (fun c44 => ?_) (fun c44 => ?_)
          · replace h := condT c44 h
            refine W_seqK ?_
            refine zRd [6, 7] [true, false] ?_
            exact zRet [.agg [(vI 0), (vI 0), (vI 0), (vI 0), (vI 0), (vI 0), (vI 0), (vB false), (vI 0), (vI 0)], (vI y41)]
          · replace h := condF c44 h
            refine zKd [0, 1, 2, 6, 8] [true, true] ?_
            refine W_seqK ?_
            obtain ⟨y43, hy43, h⟩ := bC h
            refine zCd (ok_centoref06_whole hy43) [6, 7] [true, false] ?_
            exact zRet [.agg [(vI y43.1.P.Kind), (vI y43.1.P.Off), (vI y43.1.P.Data), (vI y43.1.P.Ptrs), (vI y43.1.P.Code), (vI y43.1.P.Count), (vI y43.1.P.Segment), (vB y43.1.P.Double), (vI y43.1.Segment), (vI y43.1.At)], (vI y43.2)]
        · dsimp only [SumJ] at hw h
          refine W_seqR hw ?_
          try simp only [gthen, gblock]
          exact zFin [.agg [(vI 0), (vI 0), (vI 0), (vI 0), (vI 0), (vI 0), (vI 0), (vB false), (vI 0), (vI 0)], (vI 7)]

theorem ok_centoref09_At {a0 : (List (List Int))} {a1 : Int} {a2 : Int} {r : (S_centoref09_Ref × Int)} {O : Objs} {n : Nat} (h : m_centoref09_At a0 a1 a2 = some r) : GTo Try.prog 24 [(sL (eL (eI .u64)) a0), (vI a1), (vI a2)] O n (.tup [.agg (c_S_centoref09_Ref r.1), (vI r.2)]) O n := by
  unfold m_centoref09_At at h
  refine zFn Try.call24 Try.func24 fun hU hN0 hN => ?_
  show W _ _ _ _ ⟨110, [], [(0, (sL (eL (eI .u64)) a0)), (1, (vI a1)), (2, (vI a2))]⟩ (Loc O n []) _
  refine zQ [0, 1, 2, 6] ?_
  refine W_seqK ?_
  obtain ⟨y2, hy2, h⟩ := bC h
  refine zCd (ok_centoref06_Follow hy2) [0, 6, 8, 9] [true, true] ?_
  refine W_seqK ?_
  refine zQD [0, 6, 8, 9, 26] [none, none, none, none] ?_
  refine W_cond (t := (cond (y2.2 != 0) true (y2.1.P.Kind == 0))) rfl (fun c12 => ?_) (fun c12 => ?_)
  · replace h := condT c12 h
    refine W_seqK ?_
    refine zRd [6, 7] [true, false] ?_
    exact zRet [.agg [(vI 0), (vI 0), (vI 0), (vI 0), (vI 0), (vI 0), .val (.int .u64 0)], (vI y2.2)]
  · replace h := condF c12 h
    refine zKd [0, 6, 8] [true, true] ?_
    refine W_seqK ?_
    refine zQ [0, 6, 8, 32] ?_
    refine W_cond (t := (y2.1.P.Kind == 1)) rfl (fun c11 => ?_) (fun c11 => ?_)
    · replace h := condT c11 h
      refine W_seqK ?_
      refine zRd [6, 7] [true, false] ?_
      exact zRet [.agg [(vI 1), (vI y2.1.Segment), (vI y2.1.At), (vI y2.1.P.Data), (vI y2.1.P.Ptrs), (vI 0), .val (.int .u64 0)], (vI 0)]
    · replace h := condF c11 h
      refine zKd [0, 6, 8] [true, true] ?_
      refine W_seqK ?_
      refine zQ [0, 6, 8, 47] ?_
      refine W_cond (t := (decide (y2.1.P.Code < 7))) rfl (fun c10 => ?_) (fun c10 => ?_)
      · replace h := condT c10 h
        refine W_seqK ?_
        refine zRd [6, 7] [true, false] ?_
        exact zRet [.agg [(vI (IntKind.i64.wrap (2 + y2.1.P.Code))), (vI y2.1.Segment), (vI y2.1.At), (vI 0), (vI 0), (vI y2.1.P.Count), .val (.int .u64 0)], (vI 0)]
      · replace h := condF c10 h
        refine zKd [0, 6, 8] [true, true] ?_
        obtain ⟨x5, hx5, ax5, bx5, cx5, h⟩ := bE (f := (eL (eI .u64))) tab26 (fun _ => rfl) (by decide) h
        obtain ⟨x6, hx6, ax6, bx6, cx6, h⟩ := bE (f := (eI .u64)) tab40 (fun _ => rfl) (by decide) h
        refine W_sq [6, 8, 10] (W_drawD tab_ok (by kernel_rfl) [] (by kernel_rfl) ?_)
        refine zF6 ax5 bx5 cx5 ax6 bx6 cx6 ?_
        refine W_seqK ?_
        obtain ⟨y8, hy8, h⟩ := bC h
        refine zCd (ok_centoref04_Decode hy8) [6, 8, 10, 11] [true, true, true] ?_
        refine W_seqK ?_
        refine zQD [6, 8, 11, 96] [none, none, none, none, none, none, none, none, none, none, none, none, none, none, none, none, none, none] ?_
        refine W_cond (t := (cond (cond (cond (x6 != 0) (y8.Kind != 1) false) true (decide (y8.Off < 0))) true (decide (y2.1.P.Count < (IntKind.i64.wrap (y8.Off * (IntKind.i64.wrap (y8.Data + y8.Ptrs)))))))) rfl (fun c9 => ?_) (fun c9 => ?_)
        · replace h := condT c9 h
          refine W_seqK ?_
          refine zRd [6, 7] [true, false, false] ?_
          exact zRet [.agg [(vI 0), (vI 0), (vI 0), (vI 0), (vI 0), (vI 0), .val (.int .u64 0)], (vI 8)]
        · replace h := condF c9 h
          refine zKd [6, 8, 11] [true, true, true] ?_
          refine W_seqK ?_
          refine zRd [6, 7] [true, false, false] ?_
          exact zRet [.agg [(vI 9), (vI y2.1.Segment), (vI (IntKind.i64.wrap (y2.1.At + 1))), (vI y8.Data), (vI y8.Ptrs), (vI y8.Off), .val (.int .u64 0)], (vI 0)]

theorem ok_centoref09_Ref_Words {a0 : S_centoref09_Ref} {a1 : (List (List Int))} {r : (List Int)} {O : Objs} {n : Nat} (h : m_centoref09_Ref_Words a0 a1 = some r) : GTo Try.prog 38 [.agg (c_S_centoref09_Ref a0), (sL (eL (eI .u64)) a1)] O n ((sL (eI .u64) r)) O n := by
  unfold m_centoref09_Ref_Words at h
  refine zFn Try.call38 Try.func38 fun hU hN0 hN => ?_
  show W _ _ _ _ ⟨30, [], [(0, .agg (c_S_centoref09_Ref a0)), (1, (sL (eL (eI .u64)) a1))]⟩ (Loc O n []) _
  refine zQ [1, 2] ?_
  refine W_seqK ?_
  refine zQ [1, 2, 8] ?_
  refine W_cond (t := (a0.Kind == 10)) rfl (fun c8 => ?_) (fun c8 => ?_)
  · replace h := condT c8 h
    refine W_seqK ?_
    refine zR ?_
    refine W_fit ⟨30, [], [(4, .row (n + 1) ([a0.N] : List Int).length)]⟩ (Loc O n [none, some (oR 40 1 (eI .u64) ([a0.N] : List Int))]) (fit_loc hU rfl rfl ?_) ?_
    · exact zSe
    exact zRet [.row (n + 1) ([a0.N] : List Int).length]
  · replace h := condF c8 h
    refine zKd [1, 2] [true] ?_
    refine W_seqK ?_
    refine zQ [1, 2, 14] ?_
    refine W_cond (t := (a0.Kind != 1)) rfl (fun c7 => ?_) (fun c7 => ?_)
    · replace h := condT c7 h
      refine zQ [4] ?_
      exact zRet [nV]
    · replace h := condF c7 h
      refine zKd [1, 2] [true] ?_
      refine zQ [1, 2, 5] ?_
      refine W_seqK ?_
      obtain ⟨x4, hx4, ax4, bx4, cx4, h⟩ := bE (f := (eL (eI .u64))) tab26 (fun _ => rfl) (by decide) h
      obtain ⟨l5, al5, bl5, cl5, gl5, h⟩ := bS (lo := (some (.i64, a0.At))) (hi := (some (.i64, (IntKind.i64.wrap (a0.At + a0.Data))))) (f := (eI .u64)) rfl rfl tkind26 tab40 (fun _ => rfl) h
      obtain ⟨l6, pl6, ql6, el6, h⟩ := bA0 (k := l5.length) rfl h
      refine W_drawF tab_ok (by kernel_rfl) [false, false, false, false, false, false, false, false, false, false, false, false, false, false, true, false] [] (by kernel_rfl) ?_
      refine zF10 ax4 bx4 cx4 al5 bl5 cl5 gl5 pl6 ql6 el6 ?_
      refine W_fit ⟨30, [], [(4, .row (n + 1) l6.length)]⟩ (Loc O n [none, some (oR 40 1 (eI .u64) l6)]) (fit_loc hU rfl rfl ?_) ?_
      · exact zFe10 ax4 bx4 cx4 al5 bl5 cl5 gl5 pl6 ql6 el6
      exact zRet [.row (n + 1) l6.length]

theorem ok_centoref09_Ref_Kids {a0 : S_centoref09_Ref} {r : Int} {O : Objs} {n : Nat} (h : m_centoref09_Ref_Kids a0 = some r) : GTo Try.prog 39 [.agg (c_S_centoref09_Ref a0)] O n ((vI r)) O n := by
  unfold m_centoref09_Ref_Kids at h
  refine zFn Try.call39 Try.func39 fun hU hN0 hN => ?_
  show W _ _ _ _ ⟨10, [], [(0, .agg (c_S_centoref09_Ref a0))]⟩ (Loc O n []) _
  refine zQ [1] ?_
  refine W_seqK ?_
  refine zQ [1, 5] ?_
  refine W_cond (t := (a0.Kind == 1)) rfl (fun c1 => ?_) (fun c1 => ?_)
  · replace h := condT c1 h
    refine zQ [2] ?_
    exact zRet [(vI a0.Ptrs)]
  · replace h := condF c1 h
    refine zKd [1] [true] ?_
    refine zQ [2] ?_
    exact zRet [(vI a0.Count)]

theorem ok_centoref01_Width {a0 : Int} {r : Int} {O : Objs} {n : Nat} (h : m_centoref01_Width a0 = some r) : GTo Try.prog 71 [(vI a0)] O n ((vI r)) O n := by
  unfold m_centoref01_Width at h
  refine zFn Try.call71 Try.func71 fun hU hN0 hN => ?_
  show W _ _ _ _ ⟨16, [], [(0, (vI a0))]⟩ (Loc O n []) _
  refine zQ [0] ?_
  refine W_seqK ?_
  refine zQ [3] ?_
  refine W_block ?_
  refine zQ [3, 4] ?_
  refine W_cond (t := (a0 == 0)) rfl (fun c6 => ?_) (fun c6 => ?_)
  · replace h := condT c6 h
    refine zQ [2] ?_
    exact zRet [(vI 0)]
  · replace h := condF c6 h
    refine zQ [3, 6] ?_
    refine W_cond (t := (a0 == 1)) rfl (fun c5 => ?_) (fun c5 => ?_)
    · replace h := condT c5 h
      refine zQ [2] ?_
      exact zRet [(vI 1)]
    · replace h := condF c5 h
      refine zQ [3, 8] ?_
      refine W_cond (t := (a0 == 2)) rfl (fun c4 => ?_) (fun c4 => ?_)
      · replace h := condT c4 h
        refine zQ [2] ?_
        exact zRet [(vI 8)]
      · replace h := condF c4 h
        refine zQ [3, 10] ?_
        refine W_cond (t := (a0 == 3)) rfl (fun c3 => ?_) (fun c3 => ?_)
        · replace h := condT c3 h
          refine zQ [2] ?_
          exact zRet [(vI 16)]
        · replace h := condF c3 h
          refine zQ [3, 12] ?_
          refine W_cond (t := (a0 == 4)) rfl (fun c2 => ?_) (fun c2 => ?_)
          · replace h := condT c2 h
            refine zQ [2] ?_
            exact zRet [(vI 32)]
          · replace h := condF c2 h
            refine zQ [14] ?_
            refine W_cond (t := (a0 == 5)) rfl (fun c1 => ?_) (fun c1 => ?_)
            · replace h := condT c1 h
              refine zQ [2] ?_
              exact zRet [(vI 64)]
            · replace h := condF c1 h
              refine zKd [] [] ?_
              refine zQ [2] ?_
              exact zRet [(vI (-1))]

theorem ok_centoref01_Bit {a0 : (List Int)} {a1 : Int} {r : Int} {O : Objs} {n : Nat} (h : m_centoref01_Bit a0 a1 = some r) : GTo Try.prog 72 [(sL (eI .u64) a0), (vI a1)] O n (.val (.int .u64 r)) O n := by
  unfold m_centoref01_Bit at h
  refine zFn Try.call72 Try.func72 fun hU hN0 hN => ?_
  show W _ _ _ _ ⟨31, [], [(0, (sL (eI .u64) a0)), (1, (vI a1))]⟩ (Loc O n []) _
  refine zQ [0, 1] ?_
  refine W_seqK ?_
  refine zQD [0, 1, 15] [none, none, none, none, none] ?_
  refine W_cond (t := (cond (decide (a1 < 0)) true (decide ((a0.length : Int) ≤ (IntKind.i64.wrap (Int.tdiv a1 64)))))) rfl (fun c5 => ?_) (fun c5 => ?_)
  · replace h := condT c5 h
    refine zQ [4] ?_
    exact zRet [.val (.int .u64 0)]
  · replace h := condF c5 h
    refine zKd [0, 1] [] ?_
    obtain ⟨x2, hx2, ax2, bx2, cx2, h⟩ := bE (f := (eI .u64)) tab40 (fun _ => rfl) (by decide) h
    refine W_sq [1, 5] (W_regionD tab_ok [] ?_)
    refine zF3 ax2 bx2 cx2 ?_
    refine W_seqK ?_
    refine zQd [1, 5, 6] [1, 5, 6] [] ?_
    obtain ⟨z4, hz4, h⟩ := bC h
    refine W_blockX (E' := ⟨31, [], [(5, .val (.int .u64 z4))]⟩) (O' := (Loc O n [])) (n0 := n) ?_ ?_
    · refine W_loopJ hz4 (fun s0_ => ⟨31, [], [(1, (vI a1)), (5, .val (.int .u64 s0_.1)), (6, (vI s0_.2))]⟩) (fun s0_ => (Loc O n [])) (fun z4 => JX 0 n (⟨31, [], [(5, .val (.int .u64 z4))]⟩ : Env) (Loc O n []) n) ?_
      intro s0_ x0_ hs0_
      unfold m_centoref01_Bit_L0 at hs0_
      try dsimp only
      refine W_seqK ?_
      refine zQ [1, 5, 6, 24] ?_
      refine W_cond (t := (decide (s0_.2 < (Int.tmod a1 64)))) rfl (fun c3 => ?_) (fun c3 => ?_)
      · replace hs0_ := condT c3 hs0_
        refine zKd [1, 5, 6] [] ?_
        refine W_seqK ?_
        refine W_block ?_
        refine zRd [1, 5, 6] [] ?_
        refine zR ?_
        exact zEn hs0_
      · replace hs0_ := condF c3 hs0_
        exact zEx hs0_
    try simp only [gthen, gblock, ↓reduceIte, Nat.reduceEqDiff]
    refine zD [5] [] ?_
    refine zQ [4] ?_
    exact zRet [.val (.int .u64 (Int.tmod z4 2))]

theorem ok_centoref01_Get {a0 : (List Int)} {a1 : Int} {a2 : Int} {r : Int} {O : Objs} {n : Nat} (h : m_centoref01_Get a0 a1 a2 = some r) : GTo Try.prog 61 [(sL (eI .u64) a0), (vI a1), (vI a2)] O n (.val (.int .u64 r)) O n := by
  unfold m_centoref01_Get at h
  refine zFn Try.call61 Try.func61 fun hU hN0 hN => ?_
  show W _ _ _ _ ⟨39, [], [(0, (sL (eI .u64) a0)), (1, (vI a1)), (2, (vI a2))]⟩ (Loc O n []) _
  refine zQ [0, 1, 2] ?_
  refine W_seqK ?_
  obtain ⟨y2, hy2, h⟩ := bC h
  refine zCd (ok_centoref01_Width hy2) [0, 2, 7] [] ?_
  refine W_seqK ?_
  refine zQD [0, 2, 7, 21] [none, none, none, none] ?_
  refine W_cond (t := (cond (cond (decide (y2 < 1)) true (decide (a2 < 0))) true (decide (1099511627776 < a2)))) rfl (fun c6 => ?_) (fun c6 => ?_)
  · replace h := condT c6 h
    refine zQ [6] ?_
    exact zRet [.val (.int .u64 0)]
  · replace h := condF c6 h
    refine zKd [0, 2, 7] [] ?_
    refine zQ [0, 2, 7, 8] ?_
    refine W_seqK ?_
    refine zQd [0, 2, 7, 8, 9] [0, 2, 7, 8, 9] [] ?_
    obtain ⟨z5, hz5, h⟩ := bC h
    refine W_blockX (E' := ⟨39, [], [(8, .val (.int .u64 z5))]⟩) (O' := (Loc O n [])) (n0 := n) ?_ ?_
    · refine W_loopJ hz5 (fun s0_ => ⟨39, [], [(0, (sL (eI .u64) a0)), (2, (vI a2)), (7, (vI y2)), (8, .val (.int .u64 s0_.1)), (9, (vI s0_.2))]⟩) (fun s0_ => (Loc O n [])) (fun z5 => JX 0 n (⟨39, [], [(8, .val (.int .u64 z5))]⟩ : Env) (Loc O n []) n) ?_
      intro s0_ x0_ hs0_
      unfold m_centoref01_Get_L0 at hs0_
      try dsimp only
      refine W_seqK ?_
      refine zQ [0, 2, 7, 8, 9, 25] ?_
      refine W_cond (t := (decide (0 ≤ s0_.2))) rfl (fun c4 => ?_) (fun c4 => ?_)
      · replace hs0_ := condT c4 hs0_
        refine zKd [0, 2, 7, 8, 9] [] ?_
        refine W_seqK ?_
        refine W_block ?_
        obtain ⟨y3, hy3, hs0_⟩ := bC hs0_
        refine zCd (ok_centoref01_Bit hy3) [0, 2, 7, 8, 9] [] ?_
        refine zR ?_
        exact zEn hs0_
      · replace hs0_ := condF c4 hs0_
        exact zEx hs0_
    try simp only [gthen, gblock, ↓reduceIte, Nat.reduceEqDiff]
    refine zD [8] [] ?_
    refine zQ [6] ?_
    exact zRet [.val (.int .u64 z5)]

theorem ok_centoref09_Ref_Kid {a0 : S_centoref09_Ref} {a1 : (List (List Int))} {a2 : Int} {r : (S_centoref09_Ref × Int)} {O : Objs} {n : Nat} (h : m_centoref09_Ref_Kid a0 a1 a2 = some r) : GTo Try.prog 40 [.agg (c_S_centoref09_Ref a0), (sL (eL (eI .u64)) a1), (vI a2)] O n (.tup [.agg (c_S_centoref09_Ref r.1), (vI r.2)]) O n := by
  unfold m_centoref09_Ref_Kid at h
  refine zFn Try.call40 Try.func40 fun hU hN0 hN => ?_
  show W _ _ _ _ ⟨80, [], [(0, .agg (c_S_centoref09_Ref a0)), (1, (sL (eL (eI .u64)) a1)), (2, (vI a2))]⟩ (Loc O n []) _
  refine zQ [1, 2, 3, 6] ?_
  refine W_seqK ?_
  obtain ⟨z2, hz2, h⟩ := bC h
  refine W_seqN (E' := ⟨80, [], [(1, (sL (eL (eI .u64)) a1)), (2, (vI a2)), (3, .ref n 0), (6, .ref (n + 1) 0), (15, (vB z2))]⟩) (O' := (Loc O n [some ⟨false, 64, 7, 1, (c_S_centoref09_Ref a0)⟩, some ⟨false, 64, 7, 1, [(vI 0), (vI 0), (vI 0), (vI 0), (vI 0), (vI 0), .val (.int .u64 0)]⟩])) (n0 := (n + 2)) ?_ ?_
  · rcases Bool.eq_false_or_eq_true (decide (a2 < 0)) with c5 | c5
    · replace hz2 := condT c5 hz2
      refine zRox1 [some false, some false, some false, some false] c5 ?_
      exact zEnx1 hz2 c5
    · replace hz2 := condF c5 hz2
      obtain ⟨y4, hy4, hz2⟩ := bC hz2
      refine zRox1 [some true, some true, some true, some true] c5 ?_
      refine (ok_centoref09_Ref_Kids hy4).then ?_
      refine zX1 c5 ?_
      exact zEnx1 hz2 c5
  refine W_cond (t := z2) rfl (fun c19 => ?_) (fun c19 => ?_)
  · replace h := condT c19 h
    refine W_seqK ?_
    refine zRd [6, 7] [false, true] ?_
    exact zRet [.agg [(vI 0), (vI 0), (vI 0), (vI 0), (vI 0), (vI 0), .val (.int .u64 0)], (vI 0)]
  · replace h := condF c19 h
    refine zKd [1, 2, 3, 6] [true, true] ?_
    refine W_seqK ?_
    refine zQ [1, 2, 3, 6, 19] ?_
    refine W_cond (t := (a0.Kind == 1)) rfl (fun c18 => ?_) (fun c18 => ?_)
    · replace h := condT c18 h
      refine W_seqK ?_
      obtain ⟨y7, hy7, h⟩ := bC h
      refine zCd (ok_centoref09_At hy7) [6, 7] [false, true] ?_
      exact zRet [.agg (c_S_centoref09_Ref y7.1), (vI y7.2)]
    · replace h := condF c18 h
      refine zKd [1, 2, 3, 6] [true, true] ?_
      refine W_seqK ?_
      refine zQ [1, 2, 3, 6, 35] ?_
      refine W_cond (t := (a0.Kind == 8)) rfl (fun c17 => ?_) (fun c17 => ?_)
      · replace h := condT c17 h
        refine W_seqK ?_
        obtain ⟨y9, hy9, h⟩ := bC h
        refine zCd (ok_centoref09_At hy9) [6, 7] [false, true] ?_
        exact zRet [.agg (c_S_centoref09_Ref y9.1), (vI y9.2)]
      · replace h := condF c17 h
        refine zKd [1, 2, 3, 6] [true, true] ?_
        refine W_seqK ?_
        refine zQ [1, 2, 3, 6, 48] ?_
        refine W_cond (t := (a0.Kind == 9)) rfl (fun c16 => ?_) (fun c16 => ?_)
        · replace h := condT c16 h
          refine W_seqK ?_
          refine zRd [6, 7] [false, true] ?_
          exact zRet [.agg [(vI 1), (vI a0.S), (vI (IntKind.i64.wrap (a0.At + (IntKind.i64.wrap (a2 * (IntKind.i64.wrap (a0.Data + a0.Ptrs))))))), (vI a0.Data), (vI a0.Ptrs), (vI 0), .val (.int .u64 0)], (vI 0)]
        · replace h := condF c16 h
          refine zKd [1, 2, 3, 6] [true, true] ?_
          refine W_seqK ?_
          obtain ⟨x13, hx13, ax13, bx13, cx13, h⟩ := bE (f := (eL (eI .u64))) tab26 (fun _ => rfl) (by decide) h
          obtain ⟨l14, al14, bl14, cl14, gl14, h⟩ := bS (lo := (some (.i64, a0.At))) (hi := none) (f := (eI .u64)) rfl rfl tkind26 tab40 (fun _ => rfl) h
          obtain ⟨y15, hy15, h⟩ := bC h
          refine W_drawF tab_ok (by kernel_rfl) [false, false, false, false, false, false, false, false, false, false, false, false, false, false, true, false] [] (by kernel_rfl) ?_
          refine zF7 ax13 bx13 cx13 al14 bl14 cl14 gl14 ?_
          refine PCall.of (ok_centoref01_Get hy15) ?_
          refine zF7 ax13 bx13 cx13 al14 bl14 cl14 gl14 ?_
          refine zD [6, 7] [false, true] ?_
          exact zRet [.agg [(vI 10), (vI 0), (vI 0), (vI 0), (vI 0), (vI 0), .val (.int .u64 y15)], (vI 0)]

end Go.Proofs.Ytgffgbdnbjbmoaa
