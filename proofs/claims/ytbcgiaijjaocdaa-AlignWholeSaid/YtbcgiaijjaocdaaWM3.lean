/- Part WM3 of this seat's mirrors: functions of the seat's program, and the plain functions that they are; each theorem bears its own conditions. -/
import Derived.Test.YtbcgiaijjaocdaaWE
import Derived.Test.YtbcgiaijjaocdaaWM2
namespace Go.Proofs.Ytbcgiaijjaocdaa
open Go.RowKit
set_option linter.unusedVariables false
set_option linter.unusedSimpArgs false
set_option maxRecDepth 100000
set_option maxHeartbeats 1000000
attribute [local push_cast] c_S_api_Edit c_S_api_KidEdit c_S_api_Op c_S_api_Tree c_S_api_WordEdit gfork_t gfork_f pfork_t pfork_f gthen gblock gops_nil gops_plain gops_guard onW gwantB gcalm gact gpick gpickV strip evS wok calmOp Op.operands Call.operands gop onK onP atK List.all_cons List.all_nil Bool.and_true Bool.true_and Bool.and_self Value.oneCell' List.take_zero List.take_succ_cons List.take_nil List.drop_zero List.drop_succ_cons List.drop_nil List.append_nil Nat.add_zero Nat.zero_add gstep gputE ev look genv gbin geqS geqF gint gunary gconvert gload gcells gpart_lit gstore gcellsOf gput gplace_lit gfieldAddr gstepIn gindexAddr gindex gfield gopt bLo bHi bMx gextract galloc gbox gbuild gfill gplaces gbuildSlice gmake glen gappend gsrc gbuiltin gnil isLive gres gone prun_nil prun_plain prun_guard pop TK.isAgg G.one G.under G.unders List.getD_cons_zero List.getD_cons_succ List.set_cons_zero List.set_cons_succ List.map_cons List.map_nil List.toList_toArray Array.toList_append Option.toArray_none Option.toArray_some Array.toList_map Option.map_some Option.map_none Option.bind_some Option.bind_none List.getElem?_cons_zero List.getElem?_cons_succ List.getElem?_nil List.nil_append List.cons_append List.replicate_succ List.replicate_zero List.length_cons List.length_nil and_true true_and and_false false_and Bool.true_eq_false Bool.false_eq_true forall_const false_implies implies_true IntKind.bits if_true if_false ite_true ite_false eq_self true_implies false_or or_false or_true true_or not_true_eq_false not_false_eq_true decide_true decide_false decide_eq_true_eq decide_eq_false_iff_not beq_iff_eq bne_iff_ne ne_eq Bool.not_eq_true Bool.not_eq_false beq_eq_false_iff_ne bne_eq_false_iff_eq beq_self_eq_true bne_self_eq_false Option.some.injEq exists_eq_left' exists_eq_left ge_iff_le gt_iff_lt decide_not Bool.not_true Bool.not_false imp_self gquiet cond_true cond_false beqT beqF Bool.not_not Bool.and_false Bool.false_and Bool.or_true Bool.true_or Bool.or_false Bool.false_or Loc_at Loc_at0 Loc_upd Loc_upd0 Loc_push Loc_push0 Option.join_some Nat.add_assoc Int.toNat_natCast eI eB eS eL fl_nil gopsD_nil gopsD_plain gopsD_t gopsD_f gopsD_n onKD onWD prunD_nil prunD_plain prunD_t prunD_f prunD_n onPD fitO fitO1 sameO fitL fl_append fl_one List.length_append G.agg.injEq G.row.injEq G.ref.injEq G.val.injEq G.sl.injEq G.tup.injEq Value.int.injEq Value.bool.injEq Value.string.injEq List.cons.injEq exists_and_left exists_const List.flatten_cons List.flatten_nil Int.le_refl Nat.le_refl upd_updU Loc_out Loc_updo Bool.not_eq_true' Bool.not_eq_false' wkl_nil wkl_cons wk_any wk_val wk_agg wk_tup wk_sl wk_fn List.size_toArray renO renO1 G.ren G.rens renL rho_at rho_at0 gP_none gP_some strip_gP wok_gP one_gP G.fn.injEq wk_slnil wk_slrow wk_slrs wk_ip wk_ipref wk_row wk_rs wk_rp wk_ref locLt0 locLt Option.join_none upd_same fl_cons undef keepL Arr.len Arr.put_eq prunB_nil prunB_bar prunB_bart prunB_plain prunB_t prunB_f prunB_n onB onBP gcopy setI_len Loc_cat0 Loc_cat1 Loc_cat2 Loc_cat3 Loc_cat4 Loc_cat5 noObjs_at prunK_nil prunK_bar prunK_pass prunK_plain prunK_low prunK_pt prunK_pf prunK_lt prunK_lf onKg onKa onKp popL pickOps lows lowG prunK_shp prunK_fill popH shpOp fillOp fillG rho_low rens_app Loc_cat6 Loc_cat7 Loc_cat8 Loc_cat9 Loc_cat10 Loc_cat11 Loc_cat12 Loc_cat13 Loc_cat14 Loc_cat15 Loc_cat16 tab2 tkind2 tab3 tkind3 tab4 tkind4 tab5 tkind5 tab6 tkind6 tab7 tkind7 tab8 tkind8 tab9 tkind9 tab10 tkind10 tab11 tkind11 tab12 tkind12 tab13 tkind13 tab14 tkind14 tab15 tkind15 tab16 tkind16 tab17 tkind17 tab18 tkind18 tab19 tkind19 tab21 tkind21 tab22 tkind22 tab23 tkind23 tab24 tkind24 tab25 tkind25 tab26 tkind26 tab27 tkind27 tab28 tkind28 tab29 tkind29 tab30 tkind30 tab46 tkind46 tab49 tkind49 tab52 tkind52 tab56 tkind56 tab57 tkind57 tab58 tkind58 tab62 tkind62 tab68 tkind68 tab69 tkind69 tab70 tkind70 tab71 tkind71 tab78 tkind78 tab79 tkind79 tab81 tkind81 tab82 tkind82 tab83 tkind83 tab84 tkind84 tab95 tkind95 tab99 tkind99 tab101 tkind101 tab102 tkind102 tab109 tkind109 tab110 tkind110 tab113 tkind113 tab123 tkind123 tab124 tkind124 tab132 tkind132 tab133 tkind133 tab136 tkind136 tab138 tkind138 tab139 tkind139 tab141 tkind141 tab142 tkind142 tab157 tkind157 tab159 tkind159 tab160 tkind160 tab165 tkind165 tab166 tkind166 tab167 tkind167 tab169 tkind169 tab170 tkind170 tab171 tkind171 e_S_api_Tree e0_eq_S_api_Tree wkl_eI_u64 wka_eI_u64 len_eI_u64 one_eI_u64 wkp_eI_u64 undp_eI_u64 rens_eI_u64 renp_eI_u64 und_eI_u64 wkl_e_S_api_Tree wka_e_S_api_Tree len_e_S_api_Tree one_e_S_api_Tree wkp_e_S_api_Tree undp_e_S_api_Tree rens_e_S_api_Tree renp_e_S_api_Tree und_e_S_api_Tree e_S_api_WordEdit e_S_api_Edit e_S_api_Op e_S_api_KidEdit e0_eq_S_api_Edit e0_eq_S_api_Op e0_eq_S_api_KidEdit wkl_e_S_api_WordEdit wka_e_S_api_WordEdit len_e_S_api_WordEdit one_e_S_api_WordEdit wkp_e_S_api_WordEdit undp_e_S_api_WordEdit rens_e_S_api_WordEdit renp_e_S_api_WordEdit und_e_S_api_WordEdit wkl_e_S_api_KidEdit wka_e_S_api_KidEdit len_e_S_api_KidEdit one_e_S_api_KidEdit wkp_e_S_api_KidEdit undp_e_S_api_KidEdit rens_e_S_api_KidEdit renp_e_S_api_KidEdit und_e_S_api_KidEdit wkl_e_S_api_Op wka_e_S_api_Op len_e_S_api_Op one_e_S_api_Op wkp_e_S_api_Op undp_e_S_api_Op rens_e_S_api_Op renp_e_S_api_Op und_e_S_api_Op wkl_eI_u8 wka_eI_u8 len_eI_u8 one_eI_u8 wkp_eI_u8 undp_eI_u8 rens_eI_u8 renp_eI_u8 und_eI_u8 e_S_align_cursor wkl_e_S_align_cursor wka_e_S_align_cursor len_e_S_align_cursor one_e_S_align_cursor wkp_e_S_align_cursor undp_e_S_align_cursor rens_e_S_align_cursor renp_e_S_align_cursor und_e_S_align_cursor e_S_align_Piece wkl_e_S_align_Piece wka_e_S_align_Piece len_e_S_align_Piece one_e_S_align_Piece wkp_e_S_align_Piece undp_e_S_align_Piece rens_e_S_align_Piece renp_e_S_align_Piece und_e_S_align_Piece
theorem ok_align_cursor_take {a0 : S_align_cursor} {a1 : Int} {r : (S_api_Op × S_align_cursor)} {O : Objs} {n : Nat} {i0 : Nat} (hi0 : i0 < n) (ho0 : O i0 = some ⟨false, 124, 2, 1, [.sl a0.left.length (fl e_S_api_Op a0.left), .val (.int .i64 a0.gone)]⟩) (h : m_align_cursor_take a0 a1 = some r) : GTo Try.prog 104 [.ref i0 0, .val (.int .i64 a1)] O n (.agg (c_S_api_Op r.1)) (Loc (O.upd i0 (some ⟨false, 124, 2, 1, [.sl r.2.left.length (fl e_S_api_Op r.2.left), .val (.int .i64 r.2.gone)]⟩)) n []) (n + 0) := by
  unfold m_align_cursor_take at h
  refine fn_of tab_ok Try.call104 Try.func104 rfl (Nat.le_of_ble_eq_true rfl) (by omega) fun hU => ?_
  rw [show Loc O n [] = Loc (O.upd i0 (some ⟨false, 124, 2, 1, [.sl a0.left.length (fl e_S_api_Op a0.left), .val (.int .i64 a0.gone)]⟩)) n [] from by rw [upd_self (show O i0 = _ from by exact ho0)]]
  have hk0 : ∀ k, i0 < n + k := fun k => by omega
  have hN0 : ∀ o, Objs.upd O i0 o n = none := fun o => upd_fresh hU hi0 _ (Nat.le_refl _)
  have hN : ∀ o k, Objs.upd O i0 o (n + k) = none := fun o k => upd_fresh hU hi0 _ (Nat.le_add_right _ _)
  show W _ _ _ _ ⟨50, [], [(0, .ref i0 0), (1, .val (.int .i64 a1))]⟩ (Loc (O.upd i0 (some ⟨false, 124, 2, 1, [.sl a0.left.length (fl e_S_api_Op a0.left), .val (.int .i64 a0.gone)]⟩)) n []) _
  refine W_sq [0, 1, 4] (W_regionD tab_ok [] ?_)
  simp only [push_cast, seval, ↓reduceIte, cast_lit, hi0, hk0, hN0, hN]
  refine W_seqK ?_
  obtain ⟨x2, hx2, ax2, bx2, cx2, h⟩ := bE (f := e_S_api_Op) tab69 (fun _ => rfl) (by decide) h
  refine W_regionD tab_ok [] ?_
  simp only [push_cast, Nat.reduceAdd, Nat.reduceSub, Nat.reduceMul, Nat.reduceLeDiff, Nat.reduceLT, Nat.reduceEqDiff, ↓reduceIte, reduceCtorEq, Int.reduceBEq, Int.reduceBNe, Nat.reduceBEq, Int.reduceLE, Int.reduceLT, Int.reduceEq, Int.reduceNe, Int.reduceNeg, Nat.reduceDiv, Nat.reduceMod, Nat.reducePow, cast_lit, ax2, bx2, cx2, hi0, hk0, hN0, hN]
  refine W_fit ⟨50, [], [(0, .ref i0 0), (1, .val (.int .i64 a1)), (4, .ref n 0), (5, .ref (n + 1) 0)]⟩ (Loc (O.upd i0 (some ⟨false, 124, 2, 1, [.sl a0.left.length (fl e_S_api_Op a0.left), .val (.int .i64 a0.gone)]⟩)) n [some ⟨false, 69, 14, 1, [.val (.int .i64 0), .val (.int .i64 0), .val (.slice none 0 0), .val (.int .i64 0), .val (.int .i64 0), .val (.slice none 0 0), .val (.slice none 0 0), .val (.int .i64 0), .val (.slice none 0 0), .val (.slice none 0 0), .val (.slice none 0 0), .val (.slice none 0 0), .val (.int .i64 0), .val (.slice none 0 0)]⟩, some ⟨false, 69, 14, 1, (c_S_api_Op x2)⟩]) (fit_loco hU rfl rfl ?_) ?_
  · simp only [push_cast, Nat.reduceAdd, Nat.reduceSub, Nat.reduceMul, Nat.reduceLeDiff, Nat.reduceLT, Nat.reduceEqDiff, ↓reduceIte, reduceCtorEq, Int.reduceBEq, Int.reduceBNe, Nat.reduceBEq, Int.reduceLE, Int.reduceLT, Int.reduceEq, Int.reduceNe, Int.reduceNeg, Nat.reduceDiv, Nat.reduceMod, Nat.reducePow, cast_lit, ax2, bx2, cx2, hi0, hk0, hN0, hN]
  obtain ⟨z3, hz3, h⟩ := bC h
  refine W_seqN (E' := ⟨50, [], [(0, .ref i0 0), (1, .val (.int .i64 a1)), (4, .ref n 0), (5, .ref (n + 1) 0)]⟩) (O' := (Loc (O.upd i0 (some ⟨false, 124, 2, 1, [.sl a0.left.length (fl e_S_api_Op a0.left), .val (.int .i64 a0.gone)]⟩)) n [some ⟨false, 69, 14, 1, [.val (.int .i64 0), .val (.int .i64 0), .val (.slice none 0 0), .val (.int .i64 0), .val (.int .i64 0), .val (.slice none 0 0), .val (.slice none 0 0), .val (.int .i64 0), .val (.slice none 0 0), .val (.slice none 0 0), .val (.slice none 0 0), .val (.slice none 0 0), .val (.int .i64 0), .val (.slice none 0 0)]⟩, some ⟨false, 69, 14, 1, [.val (.int .i64 x2.Kind), .val (.int .i64 z3.1), .sl z3.2.length (fl e_S_api_Tree z3.2), .val (.int .i64 x2.E.Kind), .val (.int .i64 x2.E.Old.Kind), .sl x2.E.Old.Words.length (fl (eI .u64) x2.E.Old.Words), .sl x2.E.Old.Kids.length (fl e_S_api_Tree x2.E.Old.Kids), .val (.int .i64 x2.E.New.Kind), .sl x2.E.New.Words.length (fl (eI .u64) x2.E.New.Words), .sl x2.E.New.Kids.length (fl e_S_api_Tree x2.E.New.Kids), .sl x2.E.Words.length (fl e_S_api_WordEdit x2.E.Words), .sl x2.E.Kids.length (fl e_S_api_KidEdit x2.E.Kids), .val (.int .i64 x2.E.List_), .sl x2.E.Ops.length (fl e_S_api_Op x2.E.Ops)]⟩])) (n0 := (n + 2)) ?_ ?_
  · refine W_sq [0, 1, 4, 5, 13] (W_regionD tab_ok [] ?_)
    simp only [push_cast, seval, ↓reduceIte, cast_lit, hi0, hk0, hN0, hN]
    refine W_block ?_
    refine W_sq [0, 1, 4, 5, 13, 14] (W_regionD tab_ok [] ?_)
    simp only [push_cast, seval, ↓reduceIte, cast_lit, hi0, hk0, hN0, hN]
    refine W_cond (t := (x2.Kind == 0)) rfl (fun c8 => ?_) (fun c8 => ?_)
    · replace hz3 := condT c8 hz3
      refine W_regionD tab_ok [] ?_
      simp only [push_cast, seval, ↓reduceIte, cast_lit, hi0, hk0, hN0, hN]
      have hz3 := Option.some.inj hz3; subst hz3
      refine And.intro rfl (Fit2.of (fit_loco hU rfl rfl ?_) (by omega))
      simp only [push_cast, seval, ↓reduceIte, cast_lit, hi0, hk0, hN0, hN]
    · replace hz3 := condF c8 hz3
      obtain ⟨z4, hz4, hz3⟩ := bC hz3
      refine W_seqN (E' := ⟨50, [], [(0, .ref i0 0), (1, .val (.int .i64 a1)), (4, .ref n 0), (5, .ref (n + 1) 0), (18, .val (.bool z4))]⟩) (O' := (Loc (O.upd i0 (some ⟨false, 124, 2, 1, [.sl a0.left.length (fl e_S_api_Op a0.left), .val (.int .i64 a0.gone)]⟩)) n [some ⟨false, 69, 14, 1, [.val (.int .i64 0), .val (.int .i64 0), .val (.slice none 0 0), .val (.int .i64 0), .val (.int .i64 0), .val (.slice none 0 0), .val (.slice none 0 0), .val (.int .i64 0), .val (.slice none 0 0), .val (.slice none 0 0), .val (.slice none 0 0), .val (.slice none 0 0), .val (.int .i64 0), .val (.slice none 0 0)]⟩, some ⟨false, 69, 14, 1, (c_S_api_Op x2)⟩])) (n0 := (n + 2)) ?_ ?_
      · refine W_sq [0, 1, 4, 5, 13, 18] (W_regionD tab_ok [] ?_)
        simp only [push_cast, seval, ↓reduceIte, cast_lit, hi0, hk0, hN0, hN]
        refine W_cond (t := (x2.Kind == 1)) rfl (fun c5 => ?_) (fun c5 => ?_)
        · replace hz4 := condT c5 hz4
          refine W_skip ?_
          try simp only [gthen, gblock]
          have hz4 := Option.some.inj hz4; subst hz4
          refine And.intro rfl (Fit2.of (fit_loco hU rfl rfl ?_) (by omega))
          simp only [push_cast, seval, ↓reduceIte, cast_lit, hi0, hk0, hN0, hN]
        · replace hz4 := condF c5 hz4
          refine W_regionD tab_ok [] ?_
          simp only [push_cast, seval, ↓reduceIte, cast_lit, hi0, hk0, hN0, hN]
          have hz4 := Option.some.inj hz4; subst hz4
          refine And.intro rfl (Fit2.of (fit_loco hU rfl rfl ?_) (by omega))
          simp only [push_cast, seval, ↓reduceIte, cast_lit, hi0, hk0, hN0, hN]
      refine W_cond (t := z4) rfl (fun c7 => ?_) (fun c7 => ?_)
      · replace hz3 := condT c7 hz3
        obtain ⟨l6, al6, bl6, cl6, gl6, hz3⟩ := bS3 (lo := (some (.i64, a0.gone))) (hi := (.i64, (IntKind.i64.wrap (a0.gone + a1)))) (f := e_S_api_Tree) rfl rfl tkind23 tab25 (fun _ => rfl) hz3
        refine W_drawF tab_ok (by kernel_rfl) [false, false, false, false, false, false, false, false, false, false, false, false, false, false, false, false, false, false, false, false, true] [] (by kernel_rfl) ?_
        simp only [push_cast, seval, ↓reduceIte, cast_lit, al6, bl6, cl6, gl6, hi0, hk0, hN0, hN]
        have hz3 := Option.some.inj hz3; subst hz3
        refine And.intro rfl (Fit2.of (fit_loco hU rfl rfl ?_) (by omega))
        simp only [push_cast, seval, ↓reduceIte, cast_lit, al6, bl6, cl6, gl6, hi0, hk0, hN0, hN]
      · replace hz3 := condF c7 hz3
        refine W_skip ?_
        try simp only [gthen, gblock]
        have hz3 := Option.some.inj hz3; subst hz3
        refine And.intro rfl (Fit2.of (fit_loco hU rfl rfl ?_) (by omega))
        simp only [push_cast, seval, ↓reduceIte, cast_lit, hi0, hk0, hN0, hN]
  refine W_seqK ?_
  refine W_regionD tab_ok [] ?_
  simp only [push_cast, seval, ↓reduceIte, cast_lit, hi0, hk0, hN0, hN]
  refine W_fit ⟨50, [], [(4, .ref n 0), (5, .ref (n + 1) 0)]⟩ (Loc (O.upd i0 (some ⟨false, 124, 2, 1, [.sl a0.left.length (fl e_S_api_Op a0.left), .val (.int .i64 (IntKind.i64.wrap (a0.gone + a1)))]⟩)) n [some ⟨false, 69, 14, 1, [.val (.int .i64 0), .val (.int .i64 0), .val (.slice none 0 0), .val (.int .i64 0), .val (.int .i64 0), .val (.slice none 0 0), .val (.slice none 0 0), .val (.int .i64 0), .val (.slice none 0 0), .val (.slice none 0 0), .val (.slice none 0 0), .val (.slice none 0 0), .val (.int .i64 0), .val (.slice none 0 0)]⟩, some ⟨false, 69, 14, 1, [.val (.int .i64 x2.Kind), .val (.int .i64 z3.1), .sl z3.2.length (fl e_S_api_Tree z3.2), .val (.int .i64 x2.E.Kind), .val (.int .i64 x2.E.Old.Kind), .sl x2.E.Old.Words.length (fl (eI .u64) x2.E.Old.Words), .sl x2.E.Old.Kids.length (fl e_S_api_Tree x2.E.Old.Kids), .val (.int .i64 x2.E.New.Kind), .sl x2.E.New.Words.length (fl (eI .u64) x2.E.New.Words), .sl x2.E.New.Kids.length (fl e_S_api_Tree x2.E.New.Kids), .sl x2.E.Words.length (fl e_S_api_WordEdit x2.E.Words), .sl x2.E.Kids.length (fl e_S_api_KidEdit x2.E.Kids), .val (.int .i64 x2.E.List_), .sl x2.E.Ops.length (fl e_S_api_Op x2.E.Ops)]⟩]) (fit_loco hU rfl rfl ?_) ?_
  · simp only [push_cast, seval, ↓reduceIte, cast_lit, hi0, hk0, hN0, hN]
  refine W_seqK ?_
  refine W_regionD tab_ok [] ?_
  simp only [push_cast, seval, ↓reduceIte, cast_lit, hi0, hk0, hN0, hN]
  refine W_fit ⟨50, [], [(4, .ref n 0)]⟩ (Loc (O.upd i0 (some ⟨false, 124, 2, 1, [.sl a0.left.length (fl e_S_api_Op a0.left), .val (.int .i64 (IntKind.i64.wrap (a0.gone + a1)))]⟩)) n [some ⟨false, 69, 14, 1, [.val (.int .i64 x2.Kind), .val (.int .i64 z3.1), .sl z3.2.length (fl e_S_api_Tree z3.2), .val (.int .i64 x2.E.Kind), .val (.int .i64 x2.E.Old.Kind), .sl x2.E.Old.Words.length (fl (eI .u64) x2.E.Old.Words), .sl x2.E.Old.Kids.length (fl e_S_api_Tree x2.E.Old.Kids), .val (.int .i64 x2.E.New.Kind), .sl x2.E.New.Words.length (fl (eI .u64) x2.E.New.Words), .sl x2.E.New.Kids.length (fl e_S_api_Tree x2.E.New.Kids), .sl x2.E.Words.length (fl e_S_api_WordEdit x2.E.Words), .sl x2.E.Kids.length (fl e_S_api_KidEdit x2.E.Kids), .val (.int .i64 x2.E.List_), .sl x2.E.Ops.length (fl e_S_api_Op x2.E.Ops)]⟩, none]) (fit_loco hU rfl rfl ?_) ?_
  · simp only [push_cast, seval, ↓reduceIte, cast_lit, hi0, hk0, hN0, hN]
  refine W_ret ?_
  try simp only [gthen, gblock]
  have h := Option.some.inj h; subst h
  refine fin_locV (k := 0) (i := i0) (q1 := ⟨false, 124, 2, 1, [.sl a0.left.length (fl e_S_api_Op a0.left), .val (.int .i64 (IntKind.i64.wrap (a0.gone + a1)))]⟩) (L3 := [some ⟨false, 69, 14, 1, [.val (.int .i64 x2.Kind), .val (.int .i64 z3.1), .sl z3.2.length (fl e_S_api_Tree z3.2), .val (.int .i64 x2.E.Kind), .val (.int .i64 x2.E.Old.Kind), .sl x2.E.Old.Words.length (fl (eI .u64) x2.E.Old.Words), .sl x2.E.Old.Kids.length (fl e_S_api_Tree x2.E.Old.Kids), .val (.int .i64 x2.E.New.Kind), .sl x2.E.New.Words.length (fl (eI .u64) x2.E.New.Words), .sl x2.E.New.Kids.length (fl e_S_api_Tree x2.E.New.Kids), .sl x2.E.Words.length (fl e_S_api_WordEdit x2.E.Words), .sl x2.E.Kids.length (fl e_S_api_KidEdit x2.E.Kids), .val (.int .i64 x2.E.List_), .sl x2.E.Ops.length (fl e_S_api_Op x2.E.Ops)]⟩, none]) (E2 := (⟨50, [], [(4, .ref n 0)]⟩ : Env)) (n3 := (n + 2)) (.inr rfl) hU rfl [.agg [.val (.int .i64 x2.Kind), .val (.int .i64 z3.1), .sl z3.2.length (fl e_S_api_Tree z3.2), .val (.int .i64 x2.E.Kind), .val (.int .i64 x2.E.Old.Kind), .sl x2.E.Old.Words.length (fl (eI .u64) x2.E.Old.Words), .sl x2.E.Old.Kids.length (fl e_S_api_Tree x2.E.Old.Kids), .val (.int .i64 x2.E.New.Kind), .sl x2.E.New.Words.length (fl (eI .u64) x2.E.New.Words), .sl x2.E.New.Kids.length (fl e_S_api_Tree x2.E.New.Kids), .sl x2.E.Words.length (fl e_S_api_WordEdit x2.E.Words), .sl x2.E.Kids.length (fl e_S_api_KidEdit x2.E.Kids), .val (.int .i64 x2.E.List_), .sl x2.E.Ops.length (fl e_S_api_Op x2.E.Ops)]] ?_ ?_
  · refine Fit2.trans (E' := (⟨50, [], [(4, .ref n 0)]⟩ : Env)) (O' := (Loc (O.upd i0 (some ⟨false, 124, 2, 1, [.sl a0.left.length (fl e_S_api_Op a0.left), .val (.int .i64 (IntKind.i64.wrap (a0.gone + a1)))]⟩)) n [some ⟨false, 69, 14, 1, [.val (.int .i64 x2.Kind), .val (.int .i64 z3.1), .sl z3.2.length (fl e_S_api_Tree z3.2), .val (.int .i64 x2.E.Kind), .val (.int .i64 x2.E.Old.Kind), .sl x2.E.Old.Words.length (fl (eI .u64) x2.E.Old.Words), .sl x2.E.Old.Kids.length (fl e_S_api_Tree x2.E.Old.Kids), .val (.int .i64 x2.E.New.Kind), .sl x2.E.New.Words.length (fl (eI .u64) x2.E.New.Words), .sl x2.E.New.Kids.length (fl e_S_api_Tree x2.E.New.Kids), .sl x2.E.Words.length (fl e_S_api_WordEdit x2.E.Words), .sl x2.E.Kids.length (fl e_S_api_KidEdit x2.E.Kids), .val (.int .i64 x2.E.List_), .sl x2.E.Ops.length (fl e_S_api_Op x2.E.Ops)]⟩, none])) (n' := (n + 2)) (Fit2.of (fit_loco hU rfl rfl ?_) (by omega)) ?_
    · simp only [push_cast, seval, ↓reduceIte, cast_lit, hi0, hk0, hN0, hN]
    refine ren_fito (k := 2) (k' := 2) hU [0, 1] [0, 0] rfl rfl rfl rfl ⟨rfl, rfl⟩ ?_
    simp only [push_cast, seval, ↓reduceIte, cast_lit, hi0, hk0, hN0, hN]
  simp only [push_cast, seval, ↓reduceIte, cast_lit, Try.results104, hi0, hk0, hN0, hN]

theorem ok_align_pieces {a0 : (List S_api_Op)} {a1 : (List S_api_Op)} {a2 : Int} {a3 : Int} {r : ((List S_align_Piece) × Bool)} {O : Objs} {n : Nat} (h : m_align_pieces a0 a1 a2 a3 = some r) : GTo Try.prog 64 [.sl a0.length (fl e_S_api_Op a0), .sl a1.length (fl e_S_api_Op a1), .val (.int .i64 a2), .val (.int .i64 a3)] O n (.tup [.sl r.1.length (fl e_S_align_Piece r.1), .val (.bool r.2)]) O n := by
  unfold m_align_pieces at h
  refine fn_of tab_ok Try.call64 Try.func64 rfl (Nat.le_of_ble_eq_true rfl) (Nat.le_refl _) fun hU => ?_
  have hN0 : O n = none := hU.fresh _ (Nat.le_refl _)
  have hN : ∀ k, O (n + k) = none := fun k => hU.fresh _ (Nat.le_add_right _ _)
  show W _ _ _ _ ⟨83, [], [(0, .sl a0.length (fl e_S_api_Op a0)), (1, .sl a1.length (fl e_S_api_Op a1)), (2, .val (.int .i64 a2)), (3, .val (.int .i64 a3))]⟩ (Loc O n []) _
  refine W_sq [0, 1, 2, 3] (W_regionD tab_ok [] ?_)
  simp only [push_cast, seval, ↓reduceIte, cast_lit, hN0, hN]
  refine W_sq [0, 1, 2, 3, 10] (W_regionD tab_ok [] ?_)
  simp only [push_cast, seval, ↓reduceIte, cast_lit, hN0, hN]
  refine W_seqK ?_
  refine W_regionD tab_ok [] ?_
  simp only [push_cast, seval, ↓reduceIte, cast_lit, hN0, hN]
  refine W_fit ⟨83, [], [(2, .val (.int .i64 a2)), (3, .val (.int .i64 a3)), (10, .val (.slice none 0 0)), (11, .ref n 0), (12, .ref (n + 1) 0)]⟩ (Loc O n [some ⟨false, 124, 2, 1, [.sl a0.length (fl e_S_api_Op a0), .val (.int .i64 0)]⟩, some ⟨false, 124, 2, 1, [.sl a1.length (fl e_S_api_Op a1), .val (.int .i64 0)]⟩]) (fit_loc hU rfl rfl ?_) ?_
  · simp only [push_cast, seval, ↓reduceIte, cast_lit, hN0, hN]
  refine W_fit ⟨83, [], [(2, .val (.int .i64 a2)), (3, .val (.int .i64 a3)), (10, .val (.slice none 0 0)), (11, .ref n 0), (12, .ref (n + 1) 0)]⟩ (Loc O n [some ⟨false, 124, 2, 1, [.sl a0.length (fl e_S_api_Op a0), .val (.int .i64 0)]⟩, some ⟨false, 124, 2, 1, [.sl a1.length (fl e_S_api_Op a1), .val (.int .i64 0)]⟩]) (fit_loc hU rfl rfl ?_) ?_
  · simp only [push_cast, seval, ↓reduceIte, cast_lit, hN0, hN]
  refine W_fit2 (E' := (⟨83, [], [(2, .val (.int .i64 a2)), (3, .val (.int .i64 a3)), (10, .row (n + 2) ([] : List S_align_Piece).length), (11, .ref n 0), (12, .ref (n + 1) 0)]⟩ : Env)) (O' := (Loc O n [some ⟨false, 124, 2, 1, [.sl a0.length (fl e_S_api_Op a0), .val (.int .i64 0)]⟩, some ⟨false, 124, 2, 1, [.sl a1.length (fl e_S_api_Op a1), .val (.int .i64 0)]⟩, some ⟨true, 79, 29, ([] : List S_align_Piece).length, fl e_S_align_Piece ([] : List S_align_Piece)⟩, none])) (n' := (n + 4)) ?_ ?_
  · refine Fit2.trans (E' := (⟨83, [], [(2, .val (.int .i64 a2)), (3, .val (.int .i64 a3)), (10, .val (.slice none 0 0)), (11, .ref n 0), (12, .ref (n + 1) 0)]⟩ : Env)) (O' := (Loc O n [some ⟨false, 124, 2, 1, [.sl a0.length (fl e_S_api_Op a0), .val (.int .i64 0)]⟩, some ⟨false, 124, 2, 1, [.sl a1.length (fl e_S_api_Op a1), .val (.int .i64 0)]⟩])) (n' := (n + 2)) (Fit2.of (fit_loc hU rfl rfl ?_) (by omega)) ?_
    · simp only [push_cast, seval, ↓reduceIte, cast_lit, hN0, hN]
    refine Fit2.trans (E' := (⟨83, [], [(10, .row (n + 2) 0), (2, .val (.int .i64 a2)), (3, .val (.int .i64 a3)), (10, .val (.slice none 0 0)), (11, .ref n 0), (12, .ref (n + 1) 0)]⟩ : Env)) (O' := (Loc O n [some ⟨false, 124, 2, 1, [.sl a0.length (fl e_S_api_Op a0), .val (.int .i64 0)]⟩, some ⟨false, 124, 2, 1, [.sl a1.length (fl e_S_api_Op a1), .val (.int .i64 0)]⟩, some ⟨true, 79, 29, 0, []⟩])) (n' := (n + 3)) ?_ ?_
    · have ha := adopt_fit (ba := n) (E := (⟨83, [], [(2, .val (.int .i64 a2)), (3, .val (.int .i64 a3)), (10, .val (.slice none 0 0)), (11, .ref n 0), (12, .ref (n + 1) 0)]⟩ : Env)) (O := (Loc O n [some ⟨false, 124, 2, 1, [.sl a0.length (fl e_S_api_Op a0), .val (.int .i64 0)]⟩, some ⟨false, 124, 2, 1, [.sl a1.length (fl e_S_api_Op a1), .val (.int .i64 0)]⟩])) (n := (n + 2)) 10 79 29 rfl (by omega)
      simp only [Loc_push, Loc_push0, Loc_upd, Loc_upd0, List.set_cons_zero, List.set_cons_succ, List.cons_append, List.nil_append, List.length_cons, List.length_nil, Nat.zero_add, Nat.reduceAdd, Nat.reduceLT, Nat.add_assoc] at ha
      exact ha
    refine Fit2.trans (E' := (⟨83, [], [(2, .val (.int .i64 a2)), (3, .val (.int .i64 a3)), (10, .row (n + 2) ([] : List S_align_Piece).length), (11, .ref n 0), (12, .ref (n + 1) 0)]⟩ : Env)) (O' := (Loc O n [some ⟨false, 124, 2, 1, [.sl a0.length (fl e_S_api_Op a0), .val (.int .i64 0)]⟩, some ⟨false, 124, 2, 1, [.sl a1.length (fl e_S_api_Op a1), .val (.int .i64 0)]⟩, some ⟨true, 79, 29, ([] : List S_align_Piece).length, fl e_S_align_Piece ([] : List S_align_Piece)⟩])) (n' := (n + 3)) (Fit2.of (fit_loc hU rfl rfl ?_) (by omega)) ?_
    · simp only [push_cast, seval, ↓reduceIte, cast_lit, hN0, hN]
    refine ren_fit (k := 3) (k' := 4) hU [0, 1, 2] [0, 1, 2, 0] rfl rfl rfl rfl ⟨rfl, rfl⟩ ?_
    simp only [push_cast, seval, ↓reduceIte, cast_lit, hN0, hN]
  obtain ⟨z16, hz16, h⟩ := bC h
  refine W_blockR (E' := ⟨83, [], [(8, .sl z16.1.length (fl e_S_align_Piece z16.1)), (9, .val (.bool z16.2))]⟩) (O' := (Loc O n [none, none])) (n0 := (n + 2)) ?_ ?_
  · refine W_loopJ hz16 (fun s0_ => ⟨83, [], [(2, .val (.int .i64 a2)), (3, .val (.int .i64 a3)), (10, .row (n + 2) s0_.2.2.2.2.length), (11, .ref n 0), (12, .ref (n + 1) 0)]⟩) (fun s0_ => (Loc O n [some ⟨false, 124, 2, 1, [.sl s0_.1.length (fl e_S_api_Op s0_.1), .val (.int .i64 s0_.2.1)]⟩, some ⟨false, 124, 2, 1, [.sl s0_.2.2.1.length (fl e_S_api_Op s0_.2.2.1), .val (.int .i64 s0_.2.2.2.1)]⟩, some ⟨true, 79, 29, s0_.2.2.2.2.length, fl e_S_align_Piece s0_.2.2.2.2⟩, none])) (fun z16 => JR n (⟨83, [], [(8, .sl z16.1.length (fl e_S_align_Piece z16.1)), (9, .val (.bool z16.2))]⟩ : Env) (Loc O n [none, none]) (n + 2)) ?_
    intro s0_ x0_ hs0_
    unfold m_align_pieces_L0 at hs0_
    try dsimp only
    refine W_block ?_
    refine W_seqK ?_
    obtain ⟨y2, hy2, hs0_⟩ := bC hs0_
    refine W_regionD tab_ok [] ?_
    simp only [push_cast, seval, ↓reduceIte, cast_lit, hN0, hN]
    refine (ok_align_cursor_next (i0 := n) (by omega) (by simp only [push_cast, seval, ↓reduceIte, cast_lit, fl_nil, hN0, hN] <;> rfl) hy2).then ?_
    simp only [push_cast, seval, ↓reduceIte, cast_lit, hN0, hN]
    refine W_fit ⟨83, [], [(2, .val (.int .i64 a2)), (3, .val (.int .i64 a3)), (10, .row (n + 2) s0_.2.2.2.2.length), (11, .ref n 0), (12, .ref (n + 1) 0), (13, .val (.int .i64 y2.1)), (14, .val (.int .i64 y2.2.1))]⟩ (Loc O n [some ⟨false, 124, 2, 1, [.sl y2.2.2.left.length (fl e_S_api_Op y2.2.2.left), .val (.int .i64 y2.2.2.gone)]⟩, some ⟨false, 124, 2, 1, [.sl s0_.2.2.1.length (fl e_S_api_Op s0_.2.2.1), .val (.int .i64 s0_.2.2.2.1)]⟩, some ⟨true, 79, 29, s0_.2.2.2.2.length, fl e_S_align_Piece s0_.2.2.2.2⟩, none]) (fit_loc hU rfl rfl ?_) ?_
    · simp only [push_cast, seval, ↓reduceIte, cast_lit, hN0, hN]
    refine W_seqK ?_
    obtain ⟨y4, hy4, hs0_⟩ := bC hs0_
    refine W_regionD tab_ok [] ?_
    simp only [push_cast, seval, ↓reduceIte, cast_lit, hN0, hN]
    refine (ok_align_cursor_next (i0 := (n + 1)) (by omega) (by simp only [push_cast, seval, ↓reduceIte, cast_lit, fl_nil, hN0, hN] <;> rfl) hy4).then ?_
    simp only [push_cast, seval, ↓reduceIte, cast_lit, hN0, hN]
    refine W_fit ⟨83, [], [(2, .val (.int .i64 a2)), (3, .val (.int .i64 a3)), (10, .row (n + 2) s0_.2.2.2.2.length), (11, .ref n 0), (12, .ref (n + 1) 0), (13, .val (.int .i64 y2.1)), (14, .val (.int .i64 y2.2.1)), (15, .val (.int .i64 y4.1)), (16, .val (.int .i64 y4.2.1))]⟩ (Loc O n [some ⟨false, 124, 2, 1, [.sl y2.2.2.left.length (fl e_S_api_Op y2.2.2.left), .val (.int .i64 y2.2.2.gone)]⟩, some ⟨false, 124, 2, 1, [.sl y4.2.2.left.length (fl e_S_api_Op y4.2.2.left), .val (.int .i64 y4.2.2.gone)]⟩, some ⟨true, 79, 29, s0_.2.2.2.2.length, fl e_S_align_Piece s0_.2.2.2.2⟩, none]) (fit_loc hU rfl rfl ?_) ?_
    · simp only [push_cast, seval, ↓reduceIte, cast_lit, hN0, hN]
    refine W_block ?_
    refine W_sq [2, 3, 10, 11, 12, 14, 15, 16, 40] (W_regionD tab_ok [none, none, none] ?_)
    simp only [push_cast, seval, ↓reduceIte, cast_lit, hN0, hN]
    repeat (with_reducible refine And.intro (by first | (intro h0; simp only [h0, and_self]; done) | (intro h0; simp only [h0, Bool.not_false, Bool.not_true, Bool.true_and, Bool.and_true, true_and, and_true, and_self, imp_self, implies_true, bne_iff_ne, ne_eq, beq_iff_eq]; done) | (intros; simp_all; done) | exact True.intro) ?_)
    refine W_cond (t := (cond (decide (0 < y2.2.1)) (y2.1 == a2) false)) rfl (fun c15 => ?_) (fun c15 => ?_)
    · replace hs0_ := condT c15 hs0_
      obtain ⟨y5, hy5, hs0_⟩ := bC hs0_
      obtain ⟨l6, pl6, ql6, el6, hs0_⟩ := bA (k := 1) rfl hs0_
      refine W_regionD tab_ok [] ?_
      simp only [push_cast, seval, ↓reduceIte, cast_lit, pl6, ql6, el6, hN0, hN]
      refine (ok_align_cursor_take (i0 := n) (by omega) (by simp only [push_cast, seval, ↓reduceIte, cast_lit, fl_nil, pl6, ql6, el6, hN0, hN] <;> rfl) hy5).then ?_
      simp only [push_cast, seval, ↓reduceIte, cast_lit, pl6, ql6, el6, hN0, hN]
      have hs0_ := Option.some.inj hs0_; subst hs0_
      refine And.intro rfl (Fit2.of (fit_loc hU rfl rfl ?_) (by omega))
      simp only [push_cast, seval, ↓reduceIte, cast_lit, pl6, ql6, el6, hN0, hN]
    · replace hs0_ := condF c15 hs0_
      refine W_sq [2, 3, 10, 11, 12, 14, 16, 54] (W_regionD tab_ok [none, none, none] ?_)
      simp only [push_cast, seval, ↓reduceIte, cast_lit, hN0, hN]
      repeat (with_reducible refine And.intro (by first | (intro h0; simp only [h0, and_self]; done) | (intro h0; simp only [h0, Bool.not_false, Bool.not_true, Bool.true_and, Bool.and_true, true_and, and_true, and_self, imp_self, implies_true, bne_iff_ne, ne_eq, beq_iff_eq]; done) | (intros; simp_all; done) | exact True.intro) ?_)
      refine W_cond (t := (cond (decide (0 < y4.2.1)) (y4.1 == a3) false)) rfl (fun c14 => ?_) (fun c14 => ?_)
      · replace hs0_ := condT c14 hs0_
        obtain ⟨y7, hy7, hs0_⟩ := bC hs0_
        obtain ⟨l8, pl8, ql8, el8, hs0_⟩ := bA (k := 1) rfl hs0_
        refine W_regionD tab_ok [] ?_
        simp only [push_cast, seval, ↓reduceIte, cast_lit, pl8, ql8, el8, hN0, hN]
        refine (ok_align_cursor_take (i0 := (n + 1)) (by omega) (by simp only [push_cast, seval, ↓reduceIte, cast_lit, fl_nil, pl8, ql8, el8, hN0, hN] <;> rfl) hy7).then ?_
        simp only [push_cast, seval, ↓reduceIte, cast_lit, pl8, ql8, el8, hN0, hN]
        have hs0_ := Option.some.inj hs0_; subst hs0_
        refine And.intro rfl (Fit2.of (fit_loc hU rfl rfl ?_) (by omega))
        simp only [push_cast, seval, ↓reduceIte, cast_lit, pl8, ql8, el8, hN0, hN]
      · replace hs0_ := condF c14 hs0_
        refine W_sq [2, 3, 10, 11, 12, 14, 16, 68] (W_regionD tab_ok [none, none] ?_)
        simp only [push_cast, seval, ↓reduceIte, cast_lit, hN0, hN]
        repeat (with_reducible refine And.intro (by first | (intro h0; simp only [h0, and_self]; done) | (intro h0; simp only [h0, Bool.not_false, Bool.not_true, Bool.true_and, Bool.and_true, true_and, and_true, and_self, imp_self, implies_true, bne_iff_ne, ne_eq, beq_iff_eq]; done) | (intros; simp_all; done) | exact True.intro) ?_)
        refine W_cond (t := (cond (y2.2.1 == 0) (y4.2.1 == 0) false)) rfl (fun c13 => ?_) (fun c13 => ?_)
        · replace hs0_ := condT c13 hs0_
          refine W_sq [8, 9] (W_regionD tab_ok [] ?_)
          simp only [push_cast, seval, ↓reduceIte, cast_lit, hN0, hN]
          refine W_ret ?_
          try simp only [gthen, gblock]
          have hs0_ := Option.some.inj hs0_; subst hs0_
          refine And.intro (fun h => by cases h) (And.intro rfl (Fit2.of (fit_loc hU rfl rfl ?_) (by omega)))
          simp only [push_cast, seval, ↓reduceIte, cast_lit, hN0, hN]
        · replace hs0_ := condF c13 hs0_
          refine W_sq [2, 3, 10, 11, 12, 14, 16, 76] (W_regionD tab_ok [none, none] ?_)
          simp only [push_cast, seval, ↓reduceIte, cast_lit, hN0, hN]
          repeat (with_reducible refine And.intro (by first | (intro h0; simp only [h0, and_self]; done) | (intro h0; simp only [h0, Bool.not_false, Bool.not_true, Bool.true_and, Bool.and_true, true_and, and_true, and_self, imp_self, implies_true, bne_iff_ne, ne_eq, beq_iff_eq]; done) | (intros; simp_all; done) | exact True.intro) ?_)
          refine W_cond (t := (cond (y2.2.1 == 0) true (y4.2.1 == 0))) rfl (fun c12 => ?_) (fun c12 => ?_)
          · replace hs0_ := condT c12 hs0_
            refine W_sq [8, 9] (W_regionD tab_ok [] ?_)
            simp only [push_cast, seval, ↓reduceIte, cast_lit, hN0, hN]
            refine W_ret ?_
            try simp only [gthen, gblock]
            have hs0_ := Option.some.inj hs0_; subst hs0_
            refine And.intro (fun h => by cases h) (And.intro rfl (Fit2.of (fit_loc hU rfl rfl ?_) (by omega)))
            simp only [push_cast, seval, ↓reduceIte, cast_lit, hN0, hN]
          · replace hs0_ := condF c12 hs0_
            refine W_sq [2, 3, 10, 11, 12, 14] (W_regionD tab_ok [] ?_)
            simp only [push_cast, seval, ↓reduceIte, cast_lit, hN0, hN]
            obtain ⟨y9, hy9, hs0_⟩ := bC hs0_
            obtain ⟨y10, hy10, hs0_⟩ := bC hs0_
            obtain ⟨l11, pl11, ql11, el11, hs0_⟩ := bA (k := 1) rfl hs0_
            refine W_regionD tab_ok [] ?_
            simp only [push_cast, seval, ↓reduceIte, cast_lit, pl11, ql11, el11, hN0, hN]
            refine (ok_align_cursor_take (i0 := n) (by omega) (by simp only [push_cast, seval, ↓reduceIte, cast_lit, fl_nil, pl11, ql11, el11, hN0, hN] <;> rfl) hy9).then ?_
            simp only [push_cast, seval, ↓reduceIte, cast_lit, pl11, ql11, el11, hN0, hN]
            refine (ok_align_cursor_take (i0 := (n + 1)) (by omega) (by simp only [push_cast, seval, ↓reduceIte, cast_lit, fl_nil, pl11, ql11, el11, hN0, hN] <;> rfl) hy10).then ?_
            simp only [push_cast, seval, ↓reduceIte, cast_lit, pl11, ql11, el11, hN0, hN]
            have hs0_ := Option.some.inj hs0_; subst hs0_
            refine And.intro rfl (Fit2.of (fit_loc hU rfl rfl ?_) (by omega))
            simp only [push_cast, seval, ↓reduceIte, cast_lit, pl11, ql11, el11, hN0, hN]
  try simp only [gthen, gblock, ↓reduceIte, Nat.reduceEqDiff]
  have h := Option.some.inj h; subst h
  refine fin_loc (.inr rfl) hU [.sl z16.1.length (fl e_S_align_Piece z16.1), .val (.bool z16.2)] (by omega) ?_
  simp only [push_cast, seval, ↓reduceIte, cast_lit, Try.results64, hN0, hN]

theorem ok_align_Through {a0 : (List S_api_Op)} {a1 : (List S_api_Op)} {r : ((List S_align_Piece) × Bool)} {O : Objs} {n : Nat} (h : m_align_Through a0 a1 = some r) : GTo Try.prog 34 [.sl a0.length (fl e_S_api_Op a0), .sl a1.length (fl e_S_api_Op a1)] O n (.tup [.sl r.1.length (fl e_S_align_Piece r.1), .val (.bool r.2)]) O n := by
  unfold m_align_Through at h
  refine fn_of tab_ok Try.call34 Try.func34 rfl (Nat.le_of_ble_eq_true rfl) (Nat.le_refl _) fun hU => ?_
  have hN0 : O n = none := hU.fresh _ (Nat.le_refl _)
  have hN : ∀ k, O (n + k) = none := fun k => hU.fresh _ (Nat.le_add_right _ _)
  show W _ _ _ _ ⟨11, [], [(0, .sl a0.length (fl e_S_api_Op a0)), (1, .sl a1.length (fl e_S_api_Op a1))]⟩ (Loc O n []) _
  refine W_sq [0, 1] (W_regionD tab_ok [] ?_)
  simp only [push_cast, seval, ↓reduceIte, cast_lit, hN0, hN]
  refine W_seqK ?_
  obtain ⟨y2, hy2, h⟩ := bC h
  refine W_regionD tab_ok [] ?_
  simp only [push_cast, seval, ↓reduceIte, cast_lit, hN0, hN]
  refine (ok_align_pieces hy2).then ?_
  simp only [push_cast, seval, ↓reduceIte, cast_lit, hN0, hN]
  refine W_fit ⟨11, [], [(4, .sl y2.1.length (fl e_S_align_Piece y2.1)), (5, .val (.bool y2.2))]⟩ (Loc O n []) (fit_loc hU rfl rfl ?_) ?_
  · simp only [push_cast, seval, ↓reduceIte, cast_lit, hN0, hN]
  refine W_ret ?_
  try simp only [gthen, gblock]
  have h := Option.some.inj h; subst h
  refine fin_loc (.inr rfl) hU [.sl y2.1.length (fl e_S_align_Piece y2.1), .val (.bool y2.2)] (by omega) ?_
  simp only [push_cast, seval, ↓reduceIte, cast_lit, Try.results34, hN0, hN]

theorem ok_centolaw24_awake  {r : Bool} {O : Objs} {n : Nat} (h : m_centolaw24_awake = some r) : GTo Try.prog 33 [] O n (.val (.bool r)) O n := by
  unfold m_centolaw24_awake at h
  refine fn_of tab_ok Try.call33 Try.func33 rfl (Nat.le_of_ble_eq_true rfl) (Nat.le_refl _) fun hU => ?_
  have hN0 : O n = none := hU.fresh _ (Nat.le_refl _)
  have hN : ∀ k, O (n + k) = none := fun k => hU.fresh _ (Nat.le_add_right _ _)
  show W _ _ _ _ ⟨71, [], []⟩ (Loc O n []) _
  refine W_sq [] (W_regionD tab_ok [] ?_)
  simp only [push_cast, seval, ↓reduceIte, cast_lit, hN0, hN]
  refine W_seqK ?_
  refine W_regionD tab_ok [] ?_
  simp only [push_cast, seval, ↓reduceIte, cast_lit, hN0, hN]
  refine W_fit ⟨71, [], [(1, .row (n + 1) ([(⟨10, ([1] : List Int), ([] : (List S_api_Tree))⟩ : S_api_Tree)] : List S_api_Tree).length)]⟩ (Loc O n [none, some ⟨true, 25, 3, ([(⟨10, ([1] : List Int), ([] : (List S_api_Tree))⟩ : S_api_Tree)] : List S_api_Tree).length, fl e_S_api_Tree ([(⟨10, ([1] : List Int), ([] : (List S_api_Tree))⟩ : S_api_Tree)] : List S_api_Tree)⟩]) (fit_loc hU rfl rfl ?_) ?_
  · simp only [push_cast, seval, ↓reduceIte, cast_lit, hN0, hN]
  refine W_fit ⟨71, [], [(1, .sl ([(⟨10, ([1] : List Int), ([] : (List S_api_Tree))⟩ : S_api_Tree)] : List S_api_Tree).length (fl e_S_api_Tree ([(⟨10, ([1] : List Int), ([] : (List S_api_Tree))⟩ : S_api_Tree)] : List S_api_Tree)))]⟩ (Loc O n [none, none]) (fit_loc hU rfl rfl ?_) ?_
  · simp only [push_cast, seval, ↓reduceIte, cast_lit, hN0, hN]
  refine W_seqK ?_
  obtain ⟨y2, hy2, h⟩ := bC h
  refine W_regionD tab_ok [] ?_
  simp only [push_cast, seval, ↓reduceIte, cast_lit, hN0, hN]
  refine GCalls.dropL (l' := [none, none, none, none]) hU rfl ?_ ((ok_align_Through hy2).then ?_)
  · simp only [push_cast, seval, ↓reduceIte, cast_lit, hN0, hN]
  simp only [push_cast, seval, ↓reduceIte, cast_lit, hN0, hN]
  refine W_fit ⟨71, [], [(2, .sl y2.1.length (fl e_S_align_Piece y2.1)), (3, .val (.bool y2.2))]⟩ (Loc O n [none, none, none, none]) (fit_loc hU rfl rfl ?_) ?_
  · simp only [push_cast, seval, ↓reduceIte, cast_lit, hN0, hN]
  obtain ⟨z15, hz15, h⟩ := bC h
  refine W_seqN (E' := ⟨71, [], [(0, .val (.bool z15))]⟩) (O' := (Loc O n [none, none, none, none])) (n0 := (n + 4)) ?_ ?_
  · rcases Bool.eq_false_or_eq_true y2.2 with c40 | c40
    · replace hz15 := condT c40 hz15
      rcases Bool.eq_false_or_eq_true ((y2.1.length : Int) == 3) with c41 | c41
      · replace hz15 := condT c41 hz15
        try rw [c41] at c40
        obtain ⟨x28, hx28, ax28, bx28, cx28, hz15⟩ := bE (f := e_S_align_Piece) tab79 (fun _ => rfl) (by decide) hz15
        have g29 := gpart_fld0 (f := e_S_align_Piece) (sz := 29) tab3 (fun _ => rfl) (by decide) (by decide) hx28
        rcases Bool.eq_false_or_eq_true (x28.Of == 0) with c42 | c42
        · replace hz15 := condT c42 hz15
          try rw [c42] at c40
          try rw [c42] at c41
          have g31 := gpart_fld (f := e_S_align_Piece) (off := 2) (sz := 29) tab3 (fun _ => rfl) (by decide) (by decide) hx28
          rcases Bool.eq_false_or_eq_true (x28.P.N == 1) with c43 | c43
          · replace hz15 := condT c43 hz15
            try rw [c43] at c40
            try rw [c43] at c41
            try rw [c43] at c42
            obtain ⟨x32, hx32, ax32, bx32, cx32, hz15⟩ := bE (f := e_S_align_Piece) tab79 (fun _ => rfl) (by decide) hz15
            have g33 := gpart_fld0 (f := e_S_align_Piece) (sz := 29) tab3 (fun _ => rfl) (by decide) (by decide) hx32
            rcases Bool.eq_false_or_eq_true (x32.Of == 2) with c44 | c44
            · replace hz15 := condT c44 hz15
              try rw [c44] at c40
              try rw [c44] at c41
              try rw [c44] at c42
              try rw [c44] at c43
              have g35 := gpart_fld (f := e_S_align_Piece) (off := 17) (sz := 29) tab23 (fun _ => rfl) (by decide) (by decide) hx32
              rcases Bool.eq_false_or_eq_true ((x32.Q.L.length : Int) == 1) with c45 | c45
              · replace hz15 := condT c45 hz15
                try rw [c45] at c40
                try rw [c45] at c41
                try rw [c45] at c42
                try rw [c45] at c43
                try rw [c45] at c44
                obtain ⟨x36, hx36, ax36, bx36, cx36, hz15⟩ := bE (f := e_S_align_Piece) tab79 (fun _ => rfl) (by decide) hz15
                have g37 := gpart_fld (f := e_S_align_Piece) (off := 16) (sz := 29) tab3 (fun _ => rfl) (by decide) (by decide) hx36
                rcases Bool.eq_false_or_eq_true (x36.Q.N == 2) with c46 | c46
                · replace hz15 := condT c46 hz15
                  try rw [c46] at c40
                  try rw [c46] at c41
                  try rw [c46] at c42
                  try rw [c46] at c43
                  try rw [c46] at c44
                  try rw [c46] at c45
                  have g39 := gpart_fld (f := e_S_align_Piece) (off := 2) (sz := 29) tab3 (fun _ => rfl) (by decide) (by decide) hx36
                  refine W_regionD tab_ok [none, none, none, some true, some true, some true, some true, some true, some true, some true, some true, some true, some true, some true, some true, some true, some true, some true, some true, some true, some true, some true, some true, some true, some true, some true, some true, some true, some true, some true, some true, some true, some true, some true, some true, some true, some true, some true] ?_
                  simp only [push_cast, Nat.reduceAdd, Nat.reduceSub, Nat.reduceMul, Nat.reduceLeDiff, Nat.reduceLT, Nat.reduceEqDiff, ↓reduceIte, reduceCtorEq, Int.reduceBEq, Int.reduceBNe, Nat.reduceBEq, Int.reduceLE, Int.reduceLT, Int.reduceEq, Int.reduceNe, Int.reduceNeg, Nat.reduceDiv, Nat.reduceMod, Nat.reducePow, cast_lit, c40, c41, ax28, bx28, cx28, g29, c42, g31, c43, ax32, bx32, cx32, g33, c44, g35, c45, ax36, bx36, cx36, g37, c46, g39, hN0, hN]
                  repeat (with_reducible refine And.intro (by first | (intro h0; simp only [h0, and_self]; done) | (intro h0; simp only [h0, Bool.not_false, Bool.not_true, Bool.true_and, Bool.and_true, true_and, and_true, and_self, imp_self, implies_true, bne_iff_ne, ne_eq, beq_iff_eq]; done) | (intros; simp_all; done) | exact True.intro) ?_)
                  have hz15 := Option.some.inj hz15; subst hz15
                  refine And.intro rfl (Fit2.of (fit_loc hU rfl rfl ?_) (by omega))
                  simp only [push_cast, Nat.reduceAdd, Nat.reduceSub, Nat.reduceMul, Nat.reduceLeDiff, Nat.reduceLT, Nat.reduceEqDiff, ↓reduceIte, reduceCtorEq, Int.reduceBEq, Int.reduceBNe, Nat.reduceBEq, Int.reduceLE, Int.reduceLT, Int.reduceEq, Int.reduceNe, Int.reduceNeg, Nat.reduceDiv, Nat.reduceMod, Nat.reducePow, cast_lit, c40, c41, ax28, bx28, cx28, g29, c42, g31, c43, ax32, bx32, cx32, g33, c44, g35, c45, ax36, bx36, cx36, g37, c46, g39, hN0, hN]
                · replace hz15 := condF c46 hz15
                  try rw [c46] at c40
                  try rw [c46] at c41
                  try rw [c46] at c42
                  try rw [c46] at c43
                  try rw [c46] at c44
                  try rw [c46] at c45
                  refine W_regionD tab_ok [none, none, none, some true, some true, some true, some true, some true, some true, some true, some true, some true, some true, some true, some true, some true, some true, some true, some true, some true, some true, some true, some true, some true, some true, some true, some true, some true, some true, some true, some true, some true, some false, some false, some false, some false, some false, some false] ?_
                  simp only [push_cast, Nat.reduceAdd, Nat.reduceSub, Nat.reduceMul, Nat.reduceLeDiff, Nat.reduceLT, Nat.reduceEqDiff, ↓reduceIte, reduceCtorEq, Int.reduceBEq, Int.reduceBNe, Nat.reduceBEq, Int.reduceLE, Int.reduceLT, Int.reduceEq, Int.reduceNe, Int.reduceNeg, Nat.reduceDiv, Nat.reduceMod, Nat.reducePow, cast_lit, c40, c41, ax28, bx28, cx28, g29, c42, g31, c43, ax32, bx32, cx32, g33, c44, g35, c45, ax36, bx36, cx36, g37, c46, hN0, hN]
                  repeat (with_reducible refine And.intro (by first | (intro h0; simp only [h0, and_self]; done) | (intro h0; simp only [h0, Bool.not_false, Bool.not_true, Bool.true_and, Bool.and_true, true_and, and_true, and_self, imp_self, implies_true, bne_iff_ne, ne_eq, beq_iff_eq]; done) | (intros; simp_all; done) | exact True.intro) ?_)
                  have hz15 := Option.some.inj hz15; subst hz15
                  refine And.intro rfl (Fit2.of (fit_loc hU rfl rfl ?_) (by omega))
                  simp only [push_cast, Nat.reduceAdd, Nat.reduceSub, Nat.reduceMul, Nat.reduceLeDiff, Nat.reduceLT, Nat.reduceEqDiff, ↓reduceIte, reduceCtorEq, Int.reduceBEq, Int.reduceBNe, Nat.reduceBEq, Int.reduceLE, Int.reduceLT, Int.reduceEq, Int.reduceNe, Int.reduceNeg, Nat.reduceDiv, Nat.reduceMod, Nat.reducePow, cast_lit, c40, c41, ax28, bx28, cx28, g29, c42, g31, c43, ax32, bx32, cx32, g33, c44, g35, c45, ax36, bx36, cx36, g37, c46, hN0, hN]
              · replace hz15 := condF c45 hz15
                try rw [c45] at c40
                try rw [c45] at c41
                try rw [c45] at c42
                try rw [c45] at c43
                try rw [c45] at c44
                refine W_regionD tab_ok [none, none, none, some true, some true, some true, some true, some true, some true, some true, some true, some true, some true, some true, some true, some true, some true, some true, some true, some true, some true, some true, some true, some true, some true, some true, some false, some false, some false, some false, some false, some false, some false, some false, some false, some false, some false, some false] ?_
                simp only [push_cast, Nat.reduceAdd, Nat.reduceSub, Nat.reduceMul, Nat.reduceLeDiff, Nat.reduceLT, Nat.reduceEqDiff, ↓reduceIte, reduceCtorEq, Int.reduceBEq, Int.reduceBNe, Nat.reduceBEq, Int.reduceLE, Int.reduceLT, Int.reduceEq, Int.reduceNe, Int.reduceNeg, Nat.reduceDiv, Nat.reduceMod, Nat.reducePow, cast_lit, c40, c41, ax28, bx28, cx28, g29, c42, g31, c43, ax32, bx32, cx32, g33, c44, g35, c45, hN0, hN]
                repeat (with_reducible refine And.intro (by first | (intro h0; simp only [h0, and_self]; done) | (intro h0; simp only [h0, Bool.not_false, Bool.not_true, Bool.true_and, Bool.and_true, true_and, and_true, and_self, imp_self, implies_true, bne_iff_ne, ne_eq, beq_iff_eq]; done) | (intros; simp_all; done) | exact True.intro) ?_)
                have hz15 := Option.some.inj hz15; subst hz15
                refine And.intro rfl (Fit2.of (fit_loc hU rfl rfl ?_) (by omega))
                simp only [push_cast, Nat.reduceAdd, Nat.reduceSub, Nat.reduceMul, Nat.reduceLeDiff, Nat.reduceLT, Nat.reduceEqDiff, ↓reduceIte, reduceCtorEq, Int.reduceBEq, Int.reduceBNe, Nat.reduceBEq, Int.reduceLE, Int.reduceLT, Int.reduceEq, Int.reduceNe, Int.reduceNeg, Nat.reduceDiv, Nat.reduceMod, Nat.reducePow, cast_lit, c40, c41, ax28, bx28, cx28, g29, c42, g31, c43, ax32, bx32, cx32, g33, c44, g35, c45, hN0, hN]
            · replace hz15 := condF c44 hz15
              try rw [c44] at c40
              try rw [c44] at c41
              try rw [c44] at c42
              try rw [c44] at c43
              refine W_regionD tab_ok [none, none, none, some true, some true, some true, some true, some true, some true, some true, some true, some true, some true, some true, some true, some true, some true, some true, some true, some false, some false, some false, some false, some false, some false, some false, some false, some false, some false, some false, some false, some false, some false, some false, some false, some false, some false, some false] ?_
              simp only [push_cast, Nat.reduceAdd, Nat.reduceSub, Nat.reduceMul, Nat.reduceLeDiff, Nat.reduceLT, Nat.reduceEqDiff, ↓reduceIte, reduceCtorEq, Int.reduceBEq, Int.reduceBNe, Nat.reduceBEq, Int.reduceLE, Int.reduceLT, Int.reduceEq, Int.reduceNe, Int.reduceNeg, Nat.reduceDiv, Nat.reduceMod, Nat.reducePow, cast_lit, c40, c41, ax28, bx28, cx28, g29, c42, g31, c43, ax32, bx32, cx32, g33, c44, hN0, hN]
              repeat (with_reducible refine And.intro (by first | (intro h0; simp only [h0, and_self]; done) | (intro h0; simp only [h0, Bool.not_false, Bool.not_true, Bool.true_and, Bool.and_true, true_and, and_true, and_self, imp_self, implies_true, bne_iff_ne, ne_eq, beq_iff_eq]; done) | (intros; simp_all; done) | exact True.intro) ?_)
              have hz15 := Option.some.inj hz15; subst hz15
              refine And.intro rfl (Fit2.of (fit_loc hU rfl rfl ?_) (by omega))
              simp only [push_cast, Nat.reduceAdd, Nat.reduceSub, Nat.reduceMul, Nat.reduceLeDiff, Nat.reduceLT, Nat.reduceEqDiff, ↓reduceIte, reduceCtorEq, Int.reduceBEq, Int.reduceBNe, Nat.reduceBEq, Int.reduceLE, Int.reduceLT, Int.reduceEq, Int.reduceNe, Int.reduceNeg, Nat.reduceDiv, Nat.reduceMod, Nat.reducePow, cast_lit, c40, c41, ax28, bx28, cx28, g29, c42, g31, c43, ax32, bx32, cx32, g33, c44, hN0, hN]
          · replace hz15 := condF c43 hz15
            try rw [c43] at c40
            try rw [c43] at c41
            try rw [c43] at c42
            refine W_regionD tab_ok [none, none, none, some true, some true, some true, some true, some true, some true, some true, some true, some true, some true, some true, some false, some false, some false, some false, some false, some false, some false, some false, some false, some false, some false, some false, some false, some false, some false, some false, some false, some false, some false, some false, some false, some false, some false, some false] ?_
            simp only [push_cast, Nat.reduceAdd, Nat.reduceSub, Nat.reduceMul, Nat.reduceLeDiff, Nat.reduceLT, Nat.reduceEqDiff, ↓reduceIte, reduceCtorEq, Int.reduceBEq, Int.reduceBNe, Nat.reduceBEq, Int.reduceLE, Int.reduceLT, Int.reduceEq, Int.reduceNe, Int.reduceNeg, Nat.reduceDiv, Nat.reduceMod, Nat.reducePow, cast_lit, c40, c41, ax28, bx28, cx28, g29, c42, g31, c43, hN0, hN]
            repeat (with_reducible refine And.intro (by first | (intro h0; simp only [h0, and_self]; done) | (intro h0; simp only [h0, Bool.not_false, Bool.not_true, Bool.true_and, Bool.and_true, true_and, and_true, and_self, imp_self, implies_true, bne_iff_ne, ne_eq, beq_iff_eq]; done) | (intros; simp_all; done) | exact True.intro) ?_)
            have hz15 := Option.some.inj hz15; subst hz15
            refine And.intro rfl (Fit2.of (fit_loc hU rfl rfl ?_) (by omega))
            simp only [push_cast, Nat.reduceAdd, Nat.reduceSub, Nat.reduceMul, Nat.reduceLeDiff, Nat.reduceLT, Nat.reduceEqDiff, ↓reduceIte, reduceCtorEq, Int.reduceBEq, Int.reduceBNe, Nat.reduceBEq, Int.reduceLE, Int.reduceLT, Int.reduceEq, Int.reduceNe, Int.reduceNeg, Nat.reduceDiv, Nat.reduceMod, Nat.reducePow, cast_lit, c40, c41, ax28, bx28, cx28, g29, c42, g31, c43, hN0, hN]
        · replace hz15 := condF c42 hz15
          try rw [c42] at c40
          try rw [c42] at c41
          refine W_regionD tab_ok [none, none, none, some true, some true, some true, some true, some true, some false, some false, some false, some false, some false, some false, some false, some false, some false, some false, some false, some false, some false, some false, some false, some false, some false, some false, some false, some false, some false, some false, some false, some false, some false, some false, some false, some false, some false, some false] ?_
          simp only [push_cast, Nat.reduceAdd, Nat.reduceSub, Nat.reduceMul, Nat.reduceLeDiff, Nat.reduceLT, Nat.reduceEqDiff, ↓reduceIte, reduceCtorEq, Int.reduceBEq, Int.reduceBNe, Nat.reduceBEq, Int.reduceLE, Int.reduceLT, Int.reduceEq, Int.reduceNe, Int.reduceNeg, Nat.reduceDiv, Nat.reduceMod, Nat.reducePow, cast_lit, c40, c41, ax28, bx28, cx28, g29, c42, hN0, hN]
          repeat (with_reducible refine And.intro (by first | (intro h0; simp only [h0, and_self]; done) | (intro h0; simp only [h0, Bool.not_false, Bool.not_true, Bool.true_and, Bool.and_true, true_and, and_true, and_self, imp_self, implies_true, bne_iff_ne, ne_eq, beq_iff_eq]; done) | (intros; simp_all; done) | exact True.intro) ?_)
          have hz15 := Option.some.inj hz15; subst hz15
          refine And.intro rfl (Fit2.of (fit_loc hU rfl rfl ?_) (by omega))
          simp only [push_cast, Nat.reduceAdd, Nat.reduceSub, Nat.reduceMul, Nat.reduceLeDiff, Nat.reduceLT, Nat.reduceEqDiff, ↓reduceIte, reduceCtorEq, Int.reduceBEq, Int.reduceBNe, Nat.reduceBEq, Int.reduceLE, Int.reduceLT, Int.reduceEq, Int.reduceNe, Int.reduceNeg, Nat.reduceDiv, Nat.reduceMod, Nat.reducePow, cast_lit, c40, c41, ax28, bx28, cx28, g29, c42, hN0, hN]
      · replace hz15 := condF c41 hz15
        try rw [c41] at c40
        refine W_regionD tab_ok [none, none, none, some false, some false, some false, some false, some false, some false, some false, some false, some false, some false, some false, some false, some false, some false, some false, some false, some false, some false, some false, some false, some false, some false, some false, some false, some false, some false, some false, some false, some false, some false, some false, some false, some false, some false, some false] ?_
        simp only [push_cast, seval, ↓reduceIte, cast_lit, c40, c41, hN0, hN]
        repeat (with_reducible refine And.intro (by first | (intro h0; simp only [h0, and_self]; done) | (intro h0; simp only [h0, Bool.not_false, Bool.not_true, Bool.true_and, Bool.and_true, true_and, and_true, and_self, imp_self, implies_true, bne_iff_ne, ne_eq, beq_iff_eq]; done) | (intros; simp_all; done) | exact True.intro) ?_)
        have hz15 := Option.some.inj hz15; subst hz15
        refine And.intro rfl (Fit2.of (fit_loc hU rfl rfl ?_) (by omega))
        simp only [push_cast, seval, ↓reduceIte, cast_lit, c40, c41, hN0, hN]
    · replace hz15 := condF c40 hz15
      refine W_regionD tab_ok [none, none, none, some false, some false, some false, some false, some false, some false, some false, some false, some false, some false, some false, some false, some false, some false, some false, some false, some false, some false, some false, some false, some false, some false, some false, some false, some false, some false, some false, some false, some false, some false, some false, some false, some false, some false, some false] ?_
      simp only [push_cast, seval, ↓reduceIte, cast_lit, c40, hN0, hN]
      repeat (with_reducible refine And.intro (by first | (intro h0; simp only [h0, and_self]; done) | (intro h0; simp only [h0, Bool.not_false, Bool.not_true, Bool.true_and, Bool.and_true, true_and, and_true, and_self, imp_self, implies_true, bne_iff_ne, ne_eq, beq_iff_eq]; done) | (intros; simp_all; done) | exact True.intro) ?_)
      have hz15 := Option.some.inj hz15; subst hz15
      refine And.intro rfl (Fit2.of (fit_loc hU rfl rfl ?_) (by omega))
      simp only [push_cast, seval, ↓reduceIte, cast_lit, c40, hN0, hN]
  refine W_ret ?_
  try simp only [gthen, gblock]
  have h := Option.some.inj h; subst h
  refine fin_loc (.inr rfl) hU [.val (.bool z15)] (by omega) ?_
  simp only [push_cast, seval, ↓reduceIte, cast_lit, Try.results33, hN0, hN]

theorem ok_centolaw24_AlignWhole {a0 : (List S_api_Op)} {a1 : (List S_api_Op)} {r : Bool} {O : Objs} {n : Nat} (h : m_centolaw24_AlignWhole a0 a1 = some r) : GTo Try.prog 11 [.sl a0.length (fl e_S_api_Op a0), .sl a1.length (fl e_S_api_Op a1)] O n (.val (.bool r)) O n := by
  unfold m_centolaw24_AlignWhole at h
  refine fn_of tab_ok Try.call11 Try.func11 rfl (Nat.le_of_ble_eq_true rfl) (Nat.le_refl _) fun hU => ?_
  have hN0 : O n = none := hU.fresh _ (Nat.le_refl _)
  have hN : ∀ k, O (n + k) = none := fun k => hU.fresh _ (Nat.le_add_right _ _)
  show W _ _ _ _ ⟨37, [], [(0, .sl a0.length (fl e_S_api_Op a0)), (1, .sl a1.length (fl e_S_api_Op a1))]⟩ (Loc O n []) _
  refine W_sq [0, 1] (W_regionD tab_ok [] ?_)
  simp only [push_cast, seval, ↓reduceIte, cast_lit, hN0, hN]
  refine W_seqK ?_
  obtain ⟨z3, hz3, h⟩ := bC h
  refine W_seqN (E' := ⟨37, [], [(0, .sl a0.length (fl e_S_api_Op a0)), (1, .sl a1.length (fl e_S_api_Op a1)), (14, .val (.bool z3))]⟩) (O' := (Loc O n [])) (n0 := n) ?_ ?_
  · obtain ⟨y6, hy6, hz3⟩ := bC hz3
    rcases Bool.eq_false_or_eq_true y6 with c8 | c8
    · replace hz3 := condT c8 hz3
      obtain ⟨y7, hy7, hz3⟩ := bC hz3
      refine W_regionD tab_ok [some true, some true, some true] ?_
      simp only [push_cast, seval, ↓reduceIte, cast_lit, c8, hN0, hN]
      refine (ok_centolaw24_steps hy6).then ?_
      simp only [push_cast, seval, ↓reduceIte, cast_lit, c8, hN0, hN]
      refine (ok_centolaw24_steps hy7).then ?_
      simp only [push_cast, seval, ↓reduceIte, cast_lit, c8, hN0, hN]
      have hz3 := Option.some.inj hz3; subst hz3
      refine And.intro rfl (Fit2.of (fit_loc hU rfl rfl ?_) (by omega))
      simp only [push_cast, seval, ↓reduceIte, cast_lit, c8, hN0, hN]
    · replace hz3 := condF c8 hz3
      refine W_regionD tab_ok [some false, some false, some false] ?_
      simp only [push_cast, seval, ↓reduceIte, cast_lit, c8, hN0, hN]
      refine (ok_centolaw24_steps hy6).then ?_
      simp only [push_cast, seval, ↓reduceIte, cast_lit, c8, hN0, hN]
      have hz3 := Option.some.inj hz3; subst hz3
      refine And.intro rfl (Fit2.of (fit_loc hU rfl rfl ?_) (by omega))
      simp only [push_cast, seval, ↓reduceIte, cast_lit, c8, hN0, hN]
  refine W_cond (t := z3) rfl (fun c22 => ?_) (fun c22 => ?_)
  · replace h := condT c22 h
    refine W_seqK ?_
    obtain ⟨y10, hy10, h⟩ := bC h
    refine W_regionD tab_ok [] ?_
    simp only [push_cast, seval, ↓reduceIte, cast_lit, hN0, hN]
    refine (ok_centolaw24_awake hy10).then ?_
    simp only [push_cast, seval, ↓reduceIte, cast_lit, hN0, hN]
    refine W_fit ⟨37, [], [(4, .val (.bool y10))]⟩ (Loc O n []) (fit_loc hU rfl rfl ?_) ?_
    · simp only [push_cast, seval, ↓reduceIte, cast_lit, hN0, hN]
    refine W_ret ?_
    try simp only [gthen, gblock]
    have h := Option.some.inj h; subst h
    refine fin_loc (.inr rfl) hU [.val (.bool y10)] (by omega) ?_
    simp only [push_cast, seval, ↓reduceIte, cast_lit, Try.results11, hN0, hN]
  · replace h := condF c22 h
    refine W_skip ?_
    try simp only [gthen, gblock]
    refine W_fit ⟨37, [], [(0, .sl a0.length (fl e_S_api_Op a0)), (1, .sl a1.length (fl e_S_api_Op a1))]⟩ (Loc O n []) (fit_loc hU rfl rfl ?_) ?_
    · simp only [push_cast, seval, ↓reduceIte, cast_lit, hN0, hN]
    refine W_seqK ?_
    obtain ⟨y12, hy12, h⟩ := bC h
    refine W_regionD tab_ok [] ?_
    simp only [push_cast, seval, ↓reduceIte, cast_lit, hN0, hN]
    refine (ok_align_Through hy12).then ?_
    simp only [push_cast, seval, ↓reduceIte, cast_lit, hN0, hN]
    refine W_fit ⟨37, [], [(0, .sl a0.length (fl e_S_api_Op a0)), (1, .sl a1.length (fl e_S_api_Op a1)), (5, .sl y12.1.length (fl e_S_align_Piece y12.1)), (6, .val (.bool y12.2))]⟩ (Loc O n []) (fit_loc hU rfl rfl ?_) ?_
    · simp only [push_cast, seval, ↓reduceIte, cast_lit, hN0, hN]
    obtain ⟨z15, hz15, h⟩ := bC h
    refine W_seqN (E' := ⟨37, [], [(4, .val (.bool z15))]⟩) (O' := (Loc O n [])) (n0 := n) ?_ ?_
    · rcases Bool.eq_false_or_eq_true y12.2 with c20 | c20
      · replace hz15 := condT c20 hz15
        rcases Bool.eq_false_or_eq_true (decide ((y12.1.length : Int) ≤ (IntKind.i64.wrap ((a0.length : Int) + (a1.length : Int))))) with c21 | c21
        · replace hz15 := condT c21 hz15
          try rw [c21] at c20
          obtain ⟨y18, hy18, hz15⟩ := bC hz15
          refine W_regionD tab_ok [none, none, none, none, none, none, none, none, some true] ?_
          simp only [push_cast, seval, ↓reduceIte, cast_lit, c20, c21, hN0, hN]
          repeat (with_reducible refine And.intro (by first | (intro h0; simp only [h0, and_self]; done) | (intro h0; simp only [h0, Bool.not_false, Bool.not_true, Bool.true_and, Bool.and_true, true_and, and_true, and_self, imp_self, implies_true, bne_iff_ne, ne_eq, beq_iff_eq]; done) | (intros; simp_all; done) | exact True.intro) ?_)
          refine (ok_centolaw24_awake hy18).then ?_
          simp only [push_cast, seval, ↓reduceIte, cast_lit, c20, c21, hN0, hN]
          repeat (with_reducible refine And.intro (by first | (intro h0; simp only [h0, and_self]; done) | (intro h0; simp only [h0, Bool.not_false, Bool.not_true, Bool.true_and, Bool.and_true, true_and, and_true, and_self, imp_self, implies_true, bne_iff_ne, ne_eq, beq_iff_eq]; done) | (intros; simp_all; done) | exact True.intro) ?_)
          have hz15 := Option.some.inj hz15; subst hz15
          refine And.intro rfl (Fit2.of (fit_loc hU rfl rfl ?_) (by omega))
          simp only [push_cast, seval, ↓reduceIte, cast_lit, c20, c21, hN0, hN]
        · replace hz15 := condF c21 hz15
          try rw [c21] at c20
          refine W_regionD tab_ok [none, none, none, none, none, none, none, none, some false] ?_
          simp only [push_cast, seval, ↓reduceIte, cast_lit, c20, c21, hN0, hN]
          repeat (with_reducible refine And.intro (by first | (intro h0; simp only [h0, and_self]; done) | (intro h0; simp only [h0, Bool.not_false, Bool.not_true, Bool.true_and, Bool.and_true, true_and, and_true, and_self, imp_self, implies_true, bne_iff_ne, ne_eq, beq_iff_eq]; done) | (intros; simp_all; done) | exact True.intro) ?_)
          have hz15 := Option.some.inj hz15; subst hz15
          refine And.intro rfl (Fit2.of (fit_loc hU rfl rfl ?_) (by omega))
          simp only [push_cast, seval, ↓reduceIte, cast_lit, c20, c21, hN0, hN]
      · replace hz15 := condF c20 hz15
        obtain ⟨y19, hy19, hz15⟩ := bC hz15
        refine W_regionD tab_ok [none, none, none, none, none, none, none, none, some true] ?_
        simp only [push_cast, seval, ↓reduceIte, cast_lit, c20, hN0, hN]
        repeat (with_reducible refine And.intro (by first | (intro h0; simp only [h0, and_self]; done) | (intro h0; simp only [h0, Bool.not_false, Bool.not_true, Bool.true_and, Bool.and_true, true_and, and_true, and_self, imp_self, implies_true, bne_iff_ne, ne_eq, beq_iff_eq]; done) | (intros; simp_all; done) | exact True.intro) ?_)
        refine (ok_centolaw24_awake hy19).then ?_
        simp only [push_cast, seval, ↓reduceIte, cast_lit, c20, hN0, hN]
        repeat (with_reducible refine And.intro (by first | (intro h0; simp only [h0, and_self]; done) | (intro h0; simp only [h0, Bool.not_false, Bool.not_true, Bool.true_and, Bool.and_true, true_and, and_true, and_self, imp_self, implies_true, bne_iff_ne, ne_eq, beq_iff_eq]; done) | (intros; simp_all; done) | exact True.intro) ?_)
        have hz15 := Option.some.inj hz15; subst hz15
        refine And.intro rfl (Fit2.of (fit_loc hU rfl rfl ?_) (by omega))
        simp only [push_cast, seval, ↓reduceIte, cast_lit, c20, hN0, hN]
    refine W_ret ?_
    try simp only [gthen, gblock]
    have h := Option.some.inj h; subst h
    refine fin_loc (.inr rfl) hU [.val (.bool z15)] (by omega) ?_
    simp only [push_cast, seval, ↓reduceIte, cast_lit, Try.results11, hN0, hN]

end Go.Proofs.Ytbcgiaijjaocdaa
