/- Part WM3 of this seat's mirrors: functions of the seat's program, and the plain functions that they are; each theorem bears its own conditions. -/
import Derived.Test.YtbcgiaijjaocdaaWE
import Derived.Test.YtbcgiaijjaocdaaWM2
namespace Go.Proofs.Ytbcgiaijjaocdaa
open Go.RowKit
set_option linter.unusedVariables false
set_option linter.unusedSimpArgs false
set_option maxRecDepth 100000
set_option maxHeartbeats 1000000
attribute [local push_cast] c_S_align_Piece c_S_api_Edit c_S_api_KidEdit c_S_api_Op c_S_api_Tree c_S_api_WordEdit c_S_centoref24_Unit gfork_t gfork_f pfork_t pfork_f gthen gblock gops_nil gops_plain gops_guard onW gwantB gcalm gact gpick gpickV strip evS wok calmOp Op.operands Call.operands gop onK onP atK List.all_cons List.all_nil Bool.and_true Bool.true_and Bool.and_self Value.oneCell' List.take_zero List.take_succ_cons List.take_nil List.drop_zero List.drop_succ_cons List.drop_nil List.append_nil Nat.add_zero Nat.zero_add gstep gputE ev look genv gbin geqS geqF gint gunary gconvert gload gcells gpart_lit gstore gcellsOf gput gplace_lit gfieldAddr gstepIn gindexAddr gindex gfield gopt bLo bHi bMx gextract galloc gbox gbuild gfill gplaces gbuildSlice gmake glen gappend gsrc gbuiltin gnil isLive gres gone prun_nil prun_plain prun_guard pop TK.isAgg G.one G.under G.unders List.getD_cons_zero List.getD_cons_succ List.set_cons_zero List.set_cons_succ List.map_cons List.map_nil List.toList_toArray Array.toList_append Option.toArray_none Option.toArray_some Array.toList_map Option.map_some Option.map_none Option.bind_some Option.bind_none List.getElem?_cons_zero List.getElem?_cons_succ List.getElem?_nil List.nil_append List.cons_append List.replicate_succ List.replicate_zero List.length_cons List.length_nil and_true true_and and_false false_and Bool.true_eq_false Bool.false_eq_true forall_const false_implies implies_true IntKind.bits if_true if_false ite_true ite_false eq_self true_implies false_or or_false or_true true_or not_true_eq_false not_false_eq_true decide_true decide_false decide_eq_true_eq decide_eq_false_iff_not beq_iff_eq bne_iff_ne ne_eq Bool.not_eq_true Bool.not_eq_false beq_eq_false_iff_ne bne_eq_false_iff_eq beq_self_eq_true bne_self_eq_false Option.some.injEq exists_eq_left' exists_eq_left ge_iff_le gt_iff_lt decide_not Bool.not_true Bool.not_false imp_self gquiet cond_true cond_false beqT beqF Bool.not_not Bool.and_false Bool.false_and Bool.or_true Bool.true_or Bool.or_false Bool.false_or Loc_at Loc_at0 Loc_upd Loc_upd0 Loc_push Loc_push0 Option.join_some Nat.add_assoc Int.toNat_natCast eI eB eS eL fl_nil gopsD_nil gopsD_plain gopsD_t gopsD_f gopsD_n onKD onWD prunD_nil prunD_plain prunD_t prunD_f prunD_n onPD fitO fitO1 sameO fitL fl_append fl_one List.length_append G.agg.injEq G.row.injEq G.ref.injEq G.val.injEq G.sl.injEq G.tup.injEq Value.int.injEq Value.bool.injEq Value.string.injEq List.cons.injEq exists_and_left exists_const List.flatten_cons List.flatten_nil Int.le_refl Nat.le_refl upd_updU Loc_out Loc_updo Bool.not_eq_true' Bool.not_eq_false' wkl_nil wkl_cons wk_any wk_val wk_agg wk_tup wk_sl wk_fn List.size_toArray renO renO1 G.ren G.rens renL rho_at rho_at0 gP_none gP_some strip_gP wok_gP one_gP G.fn.injEq wk_slnil wk_slrow wk_slrs wk_ip wk_ipref wk_row wk_rs wk_rp wk_ref locLt0 locLt Option.join_none upd_same fl_cons undef keepL Arr.len Arr.put_eq prunB_nil prunB_bar prunB_bart prunB_plain prunB_t prunB_f prunB_n onB onBP gcopy setI_len Loc_cat0 Loc_cat1 Loc_cat2 Loc_cat3 Loc_cat4 Loc_cat5 noObjs_at prunK_nil prunK_bar prunK_pass prunK_plain prunK_low prunK_pt prunK_pf prunK_lt prunK_lf onKg onKa onKp popL pickOps lows lowG prunK_shp prunK_fill popH shpOp fillOp fillG rho_low rens_app Loc_cat6 Loc_cat7 Loc_cat8 Loc_cat9 Loc_cat10 Loc_cat11 Loc_cat12 Loc_cat13 Loc_cat14 Loc_cat15 Loc_cat16 dropM tab2 tkind2 tab3 tkind3 tab4 tkind4 tab5 tkind5 tab6 tkind6 tab7 tkind7 tab8 tkind8 tab9 tkind9 tab10 tkind10 tab11 tkind11 tab12 tkind12 tab13 tkind13 tab14 tkind14 tab15 tkind15 tab16 tkind16 tab17 tkind17 tab18 tkind18 tab19 tkind19 tab21 tkind21 tab22 tkind22 tab23 tkind23 tab24 tkind24 tab25 tkind25 tab26 tkind26 tab27 tkind27 tab28 tkind28 tab29 tkind29 tab30 tkind30 tab46 tkind46 tab49 tkind49 tab52 tkind52 tab56 tkind56 tab57 tkind57 tab58 tkind58 tab62 tkind62 tab68 tkind68 tab69 tkind69 tab70 tkind70 tab71 tkind71 tab78 tkind78 tab79 tkind79 tab81 tkind81 tab82 tkind82 tab83 tkind83 tab84 tkind84 tab95 tkind95 tab99 tkind99 tab101 tkind101 tab102 tkind102 tab109 tkind109 tab110 tkind110 tab113 tkind113 tab123 tkind123 tab124 tkind124 tab132 tkind132 tab133 tkind133 tab136 tkind136 tab138 tkind138 tab139 tkind139 tab141 tkind141 tab142 tkind142 tab157 tkind157 tab159 tkind159 tab160 tkind160 tab165 tkind165 tab166 tkind166 tab167 tkind167 tab169 tkind169 tab170 tkind170 tab171 tkind171 e_S_api_Tree e0_eq_S_api_Tree wkl_eI_u64 wka_eI_u64 len_eI_u64 one_eI_u64 wkp_eI_u64 undp_eI_u64 rens_eI_u64 renp_eI_u64 und_eI_u64 wkl_e_S_api_Tree wka_e_S_api_Tree len_e_S_api_Tree one_e_S_api_Tree wkp_e_S_api_Tree undp_e_S_api_Tree rens_e_S_api_Tree renp_e_S_api_Tree und_e_S_api_Tree e_S_api_WordEdit e_S_api_Edit e_S_api_Op e_S_api_KidEdit e0_eq_S_api_Edit e0_eq_S_api_Op e0_eq_S_api_KidEdit wkl_e_S_api_WordEdit wka_e_S_api_WordEdit len_e_S_api_WordEdit one_e_S_api_WordEdit wkp_e_S_api_WordEdit undp_e_S_api_WordEdit rens_e_S_api_WordEdit renp_e_S_api_WordEdit und_e_S_api_WordEdit wkl_e_S_api_KidEdit wka_e_S_api_KidEdit len_e_S_api_KidEdit one_e_S_api_KidEdit wkp_e_S_api_KidEdit undp_e_S_api_KidEdit rens_e_S_api_KidEdit renp_e_S_api_KidEdit und_e_S_api_KidEdit wkl_e_S_api_Op wka_e_S_api_Op len_e_S_api_Op one_e_S_api_Op wkp_e_S_api_Op undp_e_S_api_Op rens_e_S_api_Op renp_e_S_api_Op und_e_S_api_Op wkl_eI_u8 wka_eI_u8 len_eI_u8 one_eI_u8 wkp_eI_u8 undp_eI_u8 rens_eI_u8 renp_eI_u8 und_eI_u8 e_S_align_cursor wkl_e_S_align_cursor wka_e_S_align_cursor len_e_S_align_cursor one_e_S_align_cursor wkp_e_S_align_cursor undp_e_S_align_cursor rens_e_S_align_cursor renp_e_S_align_cursor und_e_S_align_cursor e_S_align_Piece wkl_e_S_align_Piece wka_e_S_align_Piece len_e_S_align_Piece one_e_S_align_Piece wkp_e_S_align_Piece undp_e_S_align_Piece rens_e_S_align_Piece renp_e_S_align_Piece und_e_S_align_Piece e_S_centoref24_Unit wkl_e_S_centoref24_Unit wka_e_S_centoref24_Unit len_e_S_centoref24_Unit one_e_S_centoref24_Unit wkp_e_S_centoref24_Unit undp_e_S_centoref24_Unit rens_e_S_centoref24_Unit renp_e_S_centoref24_Unit und_e_S_centoref24_Unit e_S_centoref24_Pair wkl_e_S_centoref24_Pair wka_e_S_centoref24_Pair len_e_S_centoref24_Pair one_e_S_centoref24_Pair wkp_e_S_centoref24_Pair undp_e_S_centoref24_Pair rens_e_S_centoref24_Pair renp_e_S_centoref24_Pair und_e_S_centoref24_Pair
theorem ok_centolaw24_awake  {r : Bool} {O : Objs} {n : Nat} (h : m_centolaw24_awake = some r) : GTo Try.prog 33 [] O n (.val (.bool r)) O n := by
  unfold m_centolaw24_awake at h
  refine fn_of tab_ok Try.call33 Try.func33 rfl (Nat.le_of_ble_eq_true rfl) (Nat.le_refl _) fun hU => ?_
  have hN0 : O n = none := hU.fresh _ (Nat.le_refl _)
  have hN : ∀ k, O (n + k) = none := fun k => hU.fresh _ (Nat.le_add_right _ _)
  show W _ _ _ _ ⟨71, [], []⟩ (Loc O n []) _
  refine W_sq [] (W_regionD tab_ok [] ?_)
  simp only [push_cast, seval, ↓reduceIte, cast_lit, hN0, hN]
  refine W_seqK ?_
  refine W_regionD tab_ok [] ?_
  simp only [push_cast, seval, ↓reduceIte, cast_lit, hN0, hN]
  refine W_fit ⟨71, [], [(1, .row (n + 1) ([(⟨10, ([1] : List Int), ([] : (List S_api_Tree))⟩ : S_api_Tree)] : List S_api_Tree).length)]⟩ (Loc O n [none, some ⟨true, 25, 3, ([(⟨10, ([1] : List Int), ([] : (List S_api_Tree))⟩ : S_api_Tree)] : List S_api_Tree).length, fl e_S_api_Tree ([(⟨10, ([1] : List Int), ([] : (List S_api_Tree))⟩ : S_api_Tree)] : List S_api_Tree)⟩]) (fit_loc hU rfl rfl ?_) ?_
  · simp only [push_cast, seval, ↓reduceIte, cast_lit, hN0, hN]
  refine W_fit ⟨71, [], [(1, .sl ([(⟨10, ([1] : List Int), ([] : (List S_api_Tree))⟩ : S_api_Tree)] : List S_api_Tree).length (fl e_S_api_Tree ([(⟨10, ([1] : List Int), ([] : (List S_api_Tree))⟩ : S_api_Tree)] : List S_api_Tree)))]⟩ (Loc O n [none, none]) (fit_loc hU rfl rfl ?_) ?_
  · simp only [push_cast, seval, ↓reduceIte, cast_lit, hN0, hN]
  refine W_seqK ?_
  obtain ⟨y2, hy2, h⟩ := bC h
  refine W_regionD tab_ok [] ?_
  simp only [push_cast, seval, ↓reduceIte, cast_lit, hN0, hN]
  refine GCalls.dropL (l' := [none, none, none, none]) hU rfl ?_ ((ok_align_Through hy2).then ?_)
  · simp only [push_cast, seval, ↓reduceIte, cast_lit, hN0, hN]
  simp only [push_cast, seval, ↓reduceIte, cast_lit, hN0, hN]
  refine W_drop [2, 3] [false, false, false, false] ?_
  simp only [push_cast, seval, ↓reduceIte]
  obtain ⟨z15, hz15, h⟩ := bC h
  refine W_seqN (E' := ⟨71, [], [(0, .val (.bool z15))]⟩) (O' := (Loc O n [none, none, none, none])) (n0 := (n + 4)) ?_ ?_
  · rcases Bool.eq_false_or_eq_true y2.2 with c40 | c40
    · replace hz15 := condT c40 hz15
      rcases Bool.eq_false_or_eq_true ((y2.1.length : Int) == 3) with c41 | c41
      · replace hz15 := condT c41 hz15
        try rw [c41] at c40
        obtain ⟨x28, hx28, ax28, bx28, cx28, hz15⟩ := bE (f := e_S_align_Piece) tab79 (fun _ => rfl) (by decide) hz15
        have g29 := gpart_fld0 (f := e_S_align_Piece) (sz := 29) tab3 (fun _ => rfl) (by decide) (by decide) hx28
        rcases Bool.eq_false_or_eq_true (x28.Of == 0) with c42 | c42
        · replace hz15 := condT c42 hz15
          try rw [c42] at c40
          try rw [c42] at c41
          have g31 := gpart_fld (f := e_S_align_Piece) (off := 2) (sz := 29) tab3 (fun _ => rfl) (by decide) (by decide) hx28
          rcases Bool.eq_false_or_eq_true (x28.P.N == 1) with c43 | c43
          · replace hz15 := condT c43 hz15
            try rw [c43] at c40
            try rw [c43] at c41
            try rw [c43] at c42
            obtain ⟨x32, hx32, ax32, bx32, cx32, hz15⟩ := bE (f := e_S_align_Piece) tab79 (fun _ => rfl) (by decide) hz15
            have g33 := gpart_fld0 (f := e_S_align_Piece) (sz := 29) tab3 (fun _ => rfl) (by decide) (by decide) hx32
            rcases Bool.eq_false_or_eq_true (x32.Of == 2) with c44 | c44
            · replace hz15 := condT c44 hz15
              try rw [c44] at c40
              try rw [c44] at c41
              try rw [c44] at c42
              try rw [c44] at c43
              have g35 := gpart_fld (f := e_S_align_Piece) (off := 17) (sz := 29) tab23 (fun _ => rfl) (by decide) (by decide) hx32
              rcases Bool.eq_false_or_eq_true ((x32.Q.L.length : Int) == 1) with c45 | c45
              · replace hz15 := condT c45 hz15
                try rw [c45] at c40
                try rw [c45] at c41
                try rw [c45] at c42
                try rw [c45] at c43
                try rw [c45] at c44
                obtain ⟨x36, hx36, ax36, bx36, cx36, hz15⟩ := bE (f := e_S_align_Piece) tab79 (fun _ => rfl) (by decide) hz15
                have g37 := gpart_fld (f := e_S_align_Piece) (off := 16) (sz := 29) tab3 (fun _ => rfl) (by decide) (by decide) hx36
                rcases Bool.eq_false_or_eq_true (x36.Q.N == 2) with c46 | c46
                · replace hz15 := condT c46 hz15
                  try rw [c46] at c40
                  try rw [c46] at c41
                  try rw [c46] at c42
                  try rw [c46] at c43
                  try rw [c46] at c44
                  try rw [c46] at c45
                  have g39 := gpart_fld (f := e_S_align_Piece) (off := 2) (sz := 29) tab3 (fun _ => rfl) (by decide) (by decide) hx36
                  refine W_regionD tab_ok [none, none, none, some true, some true, some true, some true, some true, some true, some true, some true, some true, some true, some true, some true, some true, some true, some true, some true, some true, some true, some true, some true, some true, some true, some true, some true, some true, some true, some true, some true, some true, some true, some true, some true, some true, some true, some true] ?_
                  simp only [push_cast, Nat.reduceAdd, Nat.reduceSub, Nat.reduceMul, Nat.reduceLeDiff, Nat.reduceLT, Nat.reduceEqDiff, ↓reduceIte, reduceCtorEq, Int.reduceBEq, Int.reduceBNe, Nat.reduceBEq, Int.reduceLE, Int.reduceLT, Int.reduceEq, Int.reduceNe, Int.reduceNeg, Nat.reduceDiv, Nat.reduceMod, Nat.reducePow, cast_lit, c40, c41, ax28, bx28, cx28, g29, c42, g31, c43, ax32, bx32, cx32, g33, c44, g35, c45, ax36, bx36, cx36, g37, c46, g39, hN0, hN]
                  repeat (with_reducible refine And.intro (by first | (intro h0; simp only [h0, and_self]; done) | (intro h0; simp only [h0, Bool.not_false, Bool.not_true, Bool.true_and, Bool.and_true, true_and, and_true, and_self, imp_self, implies_true, bne_iff_ne, ne_eq, beq_iff_eq]; done) | (intros; simp_all; done) | exact True.intro) ?_)
                  have hz15 := Option.some.inj hz15; subst hz15
                  refine And.intro rfl (Fit2.of (fit_loc hU rfl rfl ?_) (by omega))
                  simp only [push_cast, Nat.reduceAdd, Nat.reduceSub, Nat.reduceMul, Nat.reduceLeDiff, Nat.reduceLT, Nat.reduceEqDiff, ↓reduceIte, reduceCtorEq, Int.reduceBEq, Int.reduceBNe, Nat.reduceBEq, Int.reduceLE, Int.reduceLT, Int.reduceEq, Int.reduceNe, Int.reduceNeg, Nat.reduceDiv, Nat.reduceMod, Nat.reducePow, cast_lit, c40, c41, ax28, bx28, cx28, g29, c42, g31, c43, ax32, bx32, cx32, g33, c44, g35, c45, ax36, bx36, cx36, g37, c46, g39, hN0, hN]
                · replace hz15 := condF c46 hz15
                  try rw [c46] at c40
                  try rw [c46] at c41
                  try rw [c46] at c42
                  try rw [c46] at c43
                  try rw [c46] at c44
                  try rw [c46] at c45
                  refine W_regionD tab_ok [none, none, none, some true, some true, some true, some true, some true, some true, some true, some true, some true, some true, some true, some true, some true, some true, some true, some true, some true, some true, some true, some true, some true, some true, some true, some true, some true, some true, some true, some true, some true, some false, some false, some false, some false, some false, some false] ?_
                  simp only [push_cast, Nat.reduceAdd, Nat.reduceSub, Nat.reduceMul, Nat.reduceLeDiff, Nat.reduceLT, Nat.reduceEqDiff, ↓reduceIte, reduceCtorEq, Int.reduceBEq, Int.reduceBNe, Nat.reduceBEq, Int.reduceLE, Int.reduceLT, Int.reduceEq, Int.reduceNe, Int.reduceNeg, Nat.reduceDiv, Nat.reduceMod, Nat.reducePow, cast_lit, c40, c41, ax28, bx28, cx28, g29, c42, g31, c43, ax32, bx32, cx32, g33, c44, g35, c45, ax36, bx36, cx36, g37, c46, hN0, hN]
                  repeat (with_reducible refine And.intro (by first | (intro h0; simp only [h0, and_self]; done) | (intro h0; simp only [h0, Bool.not_false, Bool.not_true, Bool.true_and, Bool.and_true, true_and, and_true, and_self, imp_self, implies_true, bne_iff_ne, ne_eq, beq_iff_eq]; done) | (intros; simp_all; done) | exact True.intro) ?_)
                  have hz15 := Option.some.inj hz15; subst hz15
                  refine And.intro rfl (Fit2.of (fit_loc hU rfl rfl ?_) (by omega))
                  simp only [push_cast, Nat.reduceAdd, Nat.reduceSub, Nat.reduceMul, Nat.reduceLeDiff, Nat.reduceLT, Nat.reduceEqDiff, ↓reduceIte, reduceCtorEq, Int.reduceBEq, Int.reduceBNe, Nat.reduceBEq, Int.reduceLE, Int.reduceLT, Int.reduceEq, Int.reduceNe, Int.reduceNeg, Nat.reduceDiv, Nat.reduceMod, Nat.reducePow, cast_lit, c40, c41, ax28, bx28, cx28, g29, c42, g31, c43, ax32, bx32, cx32, g33, c44, g35, c45, ax36, bx36, cx36, g37, c46, hN0, hN]
              · replace hz15 := condF c45 hz15
                try rw [c45] at c40
                try rw [c45] at c41
                try rw [c45] at c42
                try rw [c45] at c43
                try rw [c45] at c44
                refine W_regionD tab_ok [none, none, none, some true, some true, some true, some true, some true, some true, some true, some true, some true, some true, some true, some true, some true, some true, some true, some true, some true, some true, some true, some true, some true, some true, some true, some false, some false, some false, some false, some false, some false, some false, some false, some false, some false, some false, some false] ?_
                simp only [push_cast, Nat.reduceAdd, Nat.reduceSub, Nat.reduceMul, Nat.reduceLeDiff, Nat.reduceLT, Nat.reduceEqDiff, ↓reduceIte, reduceCtorEq, Int.reduceBEq, Int.reduceBNe, Nat.reduceBEq, Int.reduceLE, Int.reduceLT, Int.reduceEq, Int.reduceNe, Int.reduceNeg, Nat.reduceDiv, Nat.reduceMod, Nat.reducePow, cast_lit, c40, c41, ax28, bx28, cx28, g29, c42, g31, c43, ax32, bx32, cx32, g33, c44, g35, c45, hN0, hN]
                repeat (with_reducible refine And.intro (by first | (intro h0; simp only [h0, and_self]; done) | (intro h0; simp only [h0, Bool.not_false, Bool.not_true, Bool.true_and, Bool.and_true, true_and, and_true, and_self, imp_self, implies_true, bne_iff_ne, ne_eq, beq_iff_eq]; done) | (intros; simp_all; done) | exact True.intro) ?_)
                have hz15 := Option.some.inj hz15; subst hz15
                refine And.intro rfl (Fit2.of (fit_loc hU rfl rfl ?_) (by omega))
                simp only [push_cast, Nat.reduceAdd, Nat.reduceSub, Nat.reduceMul, Nat.reduceLeDiff, Nat.reduceLT, Nat.reduceEqDiff, ↓reduceIte, reduceCtorEq, Int.reduceBEq, Int.reduceBNe, Nat.reduceBEq, Int.reduceLE, Int.reduceLT, Int.reduceEq, Int.reduceNe, Int.reduceNeg, Nat.reduceDiv, Nat.reduceMod, Nat.reducePow, cast_lit, c40, c41, ax28, bx28, cx28, g29, c42, g31, c43, ax32, bx32, cx32, g33, c44, g35, c45, hN0, hN]
            · replace hz15 := condF c44 hz15
              try rw [c44] at c40
              try rw [c44] at c41
              try rw [c44] at c42
              try rw [c44] at c43
              refine W_regionD tab_ok [none, none, none, some true, some true, some true, some true, some true, some true, some true, some true, some true, some true, some true, some true, some true, some true, some true, some true, some false, some false, some false, some false, some false, some false, some false, some false, some false, some false, some false, some false, some false, some false, some false, some false, some false, some false, some false] ?_
              simp only [push_cast, Nat.reduceAdd, Nat.reduceSub, Nat.reduceMul, Nat.reduceLeDiff, Nat.reduceLT, Nat.reduceEqDiff, ↓reduceIte, reduceCtorEq, Int.reduceBEq, Int.reduceBNe, Nat.reduceBEq, Int.reduceLE, Int.reduceLT, Int.reduceEq, Int.reduceNe, Int.reduceNeg, Nat.reduceDiv, Nat.reduceMod, Nat.reducePow, cast_lit, c40, c41, ax28, bx28, cx28, g29, c42, g31, c43, ax32, bx32, cx32, g33, c44, hN0, hN]
              repeat (with_reducible refine And.intro (by first | (intro h0; simp only [h0, and_self]; done) | (intro h0; simp only [h0, Bool.not_false, Bool.not_true, Bool.true_and, Bool.and_true, true_and, and_true, and_self, imp_self, implies_true, bne_iff_ne, ne_eq, beq_iff_eq]; done) | (intros; simp_all; done) | exact True.intro) ?_)
              have hz15 := Option.some.inj hz15; subst hz15
              refine And.intro rfl (Fit2.of (fit_loc hU rfl rfl ?_) (by omega))
              simp only [push_cast, Nat.reduceAdd, Nat.reduceSub, Nat.reduceMul, Nat.reduceLeDiff, Nat.reduceLT, Nat.reduceEqDiff, ↓reduceIte, reduceCtorEq, Int.reduceBEq, Int.reduceBNe, Nat.reduceBEq, Int.reduceLE, Int.reduceLT, Int.reduceEq, Int.reduceNe, Int.reduceNeg, Nat.reduceDiv, Nat.reduceMod, Nat.reducePow, cast_lit, c40, c41, ax28, bx28, cx28, g29, c42, g31, c43, ax32, bx32, cx32, g33, c44, hN0, hN]
          · replace hz15 := condF c43 hz15
            try rw [c43] at c40
            try rw [c43] at c41
            try rw [c43] at c42
            refine W_regionD tab_ok [none, none, none, some true, some true, some true, some true, some true, some true, some true, some true, some true, some true, some true, some false, some false, some false, some false, some false, some false, some false, some false, some false, some false, some false, some false, some false, some false, some false, some false, some false, some false, some false, some false, some false, some false, some false, some false] ?_
            simp only [push_cast, Nat.reduceAdd, Nat.reduceSub, Nat.reduceMul, Nat.reduceLeDiff, Nat.reduceLT, Nat.reduceEqDiff, ↓reduceIte, reduceCtorEq, Int.reduceBEq, Int.reduceBNe, Nat.reduceBEq, Int.reduceLE, Int.reduceLT, Int.reduceEq, Int.reduceNe, Int.reduceNeg, Nat.reduceDiv, Nat.reduceMod, Nat.reducePow, cast_lit, c40, c41, ax28, bx28, cx28, g29, c42, g31, c43, hN0, hN]
            repeat (with_reducible refine And.intro (by first | (intro h0; simp only [h0, and_self]; done) | (intro h0; simp only [h0, Bool.not_false, Bool.not_true, Bool.true_and, Bool.and_true, true_and, and_true, and_self, imp_self, implies_true, bne_iff_ne, ne_eq, beq_iff_eq]; done) | (intros; simp_all; done) | exact True.intro) ?_)
            have hz15 := Option.some.inj hz15; subst hz15
            refine And.intro rfl (Fit2.of (fit_loc hU rfl rfl ?_) (by omega))
            simp only [push_cast, Nat.reduceAdd, Nat.reduceSub, Nat.reduceMul, Nat.reduceLeDiff, Nat.reduceLT, Nat.reduceEqDiff, ↓reduceIte, reduceCtorEq, Int.reduceBEq, Int.reduceBNe, Nat.reduceBEq, Int.reduceLE, Int.reduceLT, Int.reduceEq, Int.reduceNe, Int.reduceNeg, Nat.reduceDiv, Nat.reduceMod, Nat.reducePow, cast_lit, c40, c41, ax28, bx28, cx28, g29, c42, g31, c43, hN0, hN]
        · replace hz15 := condF c42 hz15
          try rw [c42] at c40
          try rw [c42] at c41
          refine W_regionD tab_ok [none, none, none, some true, some true, some true, some true, some true, some false, some false, some false, some false, some false, some false, some false, some false, some false, some false, some false, some false, some false, some false, some false, some false, some false, some false, some false, some false, some false, some false, some false, some false, some false, some false, some false, some false, some false, some false] ?_
          simp only [push_cast, Nat.reduceAdd, Nat.reduceSub, Nat.reduceMul, Nat.reduceLeDiff, Nat.reduceLT, Nat.reduceEqDiff, ↓reduceIte, reduceCtorEq, Int.reduceBEq, Int.reduceBNe, Nat.reduceBEq, Int.reduceLE, Int.reduceLT, Int.reduceEq, Int.reduceNe, Int.reduceNeg, Nat.reduceDiv, Nat.reduceMod, Nat.reducePow, cast_lit, c40, c41, ax28, bx28, cx28, g29, c42, hN0, hN]
          repeat (with_reducible refine And.intro (by first | (intro h0; simp only [h0, and_self]; done) | (intro h0; simp only [h0, Bool.not_false, Bool.not_true, Bool.true_and, Bool.and_true, true_and, and_true, and_self, imp_self, implies_true, bne_iff_ne, ne_eq, beq_iff_eq]; done) | (intros; simp_all; done) | exact True.intro) ?_)
          have hz15 := Option.some.inj hz15; subst hz15
          refine And.intro rfl (Fit2.of (fit_loc hU rfl rfl ?_) (by omega))
          simp only [push_cast, Nat.reduceAdd, Nat.reduceSub, Nat.reduceMul, Nat.reduceLeDiff, Nat.reduceLT, Nat.reduceEqDiff, ↓reduceIte, reduceCtorEq, Int.reduceBEq, Int.reduceBNe, Nat.reduceBEq, Int.reduceLE, Int.reduceLT, Int.reduceEq, Int.reduceNe, Int.reduceNeg, Nat.reduceDiv, Nat.reduceMod, Nat.reducePow, cast_lit, c40, c41, ax28, bx28, cx28, g29, c42, hN0, hN]
      · replace hz15 := condF c41 hz15
        try rw [c41] at c40
        refine W_regionD tab_ok [none, none, none, some false, some false, some false, some false, some false, some false, some false, some false, some false, some false, some false, some false, some false, some false, some false, some false, some false, some false, some false, some false, some false, some false, some false, some false, some false, some false, some false, some false, some false, some false, some false, some false, some false, some false, some false] ?_
        simp only [push_cast, seval, ↓reduceIte, cast_lit, c40, c41, hN0, hN]
        repeat (with_reducible refine And.intro (by first | (intro h0; simp only [h0, and_self]; done) | (intro h0; simp only [h0, Bool.not_false, Bool.not_true, Bool.true_and, Bool.and_true, true_and, and_true, and_self, imp_self, implies_true, bne_iff_ne, ne_eq, beq_iff_eq]; done) | (intros; simp_all; done) | exact True.intro) ?_)
        have hz15 := Option.some.inj hz15; subst hz15
        refine And.intro rfl (Fit2.of (fit_loc hU rfl rfl ?_) (by omega))
        simp only [push_cast, seval, ↓reduceIte, cast_lit, c40, c41, hN0, hN]
    · replace hz15 := condF c40 hz15
      refine W_regionD tab_ok [none, none, none, some false, some false, some false, some false, some false, some false, some false, some false, some false, some false, some false, some false, some false, some false, some false, some false, some false, some false, some false, some false, some false, some false, some false, some false, some false, some false, some false, some false, some false, some false, some false, some false, some false, some false, some false] ?_
      simp only [push_cast, seval, ↓reduceIte, cast_lit, c40, hN0, hN]
      repeat (with_reducible refine And.intro (by first | (intro h0; simp only [h0, and_self]; done) | (intro h0; simp only [h0, Bool.not_false, Bool.not_true, Bool.true_and, Bool.and_true, true_and, and_true, and_self, imp_self, implies_true, bne_iff_ne, ne_eq, beq_iff_eq]; done) | (intros; simp_all; done) | exact True.intro) ?_)
      have hz15 := Option.some.inj hz15; subst hz15
      refine And.intro rfl (Fit2.of (fit_loc hU rfl rfl ?_) (by omega))
      simp only [push_cast, seval, ↓reduceIte, cast_lit, c40, hN0, hN]
  refine W_ret ?_
  try simp only [gthen, gblock]
  have h := Option.some.inj h; subst h
  refine fin_loc (.inr rfl) hU [.val (.bool z15)] (by omega) ?_
  simp only [push_cast, seval, ↓reduceIte, cast_lit, Try.results33, hN0, hN]
theorem ok_centoref24_Units {a0 : (List S_api_Op)} {a1 : Int} {r : (List S_centoref24_Unit)} {O : Objs} {n : Nat} (h : m_centoref24_Units a0 a1 = some r) : GTo Try.prog 36 [.sl a0.length (fl e_S_api_Op a0), .val (.int .i64 a1)] O n (.sl r.length (fl e_S_centoref24_Unit r)) O n := by
  unfold m_centoref24_Units at h
  refine fn_of tab_ok Try.call36 Try.func36 rfl (Nat.le_of_ble_eq_true rfl) (Nat.le_refl _) fun hU => ?_
  have hN0 : O n = none := hU.fresh _ (Nat.le_refl _)
  have hN : ∀ k, O (n + k) = none := fun k => hU.fresh _ (Nat.le_add_right _ _)
  show W _ _ _ _ ⟨70, [], [(0, .sl a0.length (fl e_S_api_Op a0)), (1, .val (.int .i64 a1))]⟩ (Loc O n []) _
  refine W_sq [0, 1] (W_regionD tab_ok [] ?_)
  simp only [push_cast, seval, ↓reduceIte, cast_lit, hN0, hN]
  refine W_sq [0, 1, 5] (W_regionD tab_ok [] ?_)
  simp only [push_cast, seval, ↓reduceIte, cast_lit, hN0, hN]
  refine W_seqK ?_
  refine W_sq [0, 1, 5, 6] (W_regionD tab_ok [] ?_)
  simp only [push_cast, seval, ↓reduceIte, cast_lit, hN0, hN]
  refine W_drop [0, 1, 5, 6] [] ?_
  simp only [push_cast, seval, ↓reduceIte]
  refine W_fit2 (E' := (⟨70, [], [(0, .sl a0.length (fl e_S_api_Op a0)), (1, .val (.int .i64 a1)), (5, .row n ([] : List S_centoref24_Unit).length), (6, .val (.int .i64 0))]⟩ : Env)) (O' := (Loc O n [some ⟨true, 82, 17, ([] : List S_centoref24_Unit).length, fl e_S_centoref24_Unit ([] : List S_centoref24_Unit)⟩, none])) (n' := (n + 2)) ?_ ?_
  · refine Fit2.trans (E' := (⟨70, [], [(0, .sl a0.length (fl e_S_api_Op a0)), (1, .val (.int .i64 a1)), (5, .val (.slice none 0 0)), (6, .val (.int .i64 0))]⟩ : Env)) (O' := (Loc O n [])) (n' := n) (Fit2.of (fit_loc hU rfl rfl ?_) (by omega)) ?_
    · simp only [push_cast, seval, ↓reduceIte, cast_lit, hN0, hN]
    refine Fit2.trans (E' := (⟨70, [], [(5, .row n 0), (0, .sl a0.length (fl e_S_api_Op a0)), (1, .val (.int .i64 a1)), (5, .val (.slice none 0 0)), (6, .val (.int .i64 0))]⟩ : Env)) (O' := (Loc O n [some ⟨true, 82, 17, 0, []⟩])) (n' := (n + 1)) ?_ ?_
    · have ha := adopt_fit (ba := n) (E := (⟨70, [], [(0, .sl a0.length (fl e_S_api_Op a0)), (1, .val (.int .i64 a1)), (5, .val (.slice none 0 0)), (6, .val (.int .i64 0))]⟩ : Env)) (O := (Loc O n [])) (n := n) 5 82 17 rfl (by omega)
      simp only [Loc_push, Loc_push0, Loc_upd, Loc_upd0, List.set_cons_zero, List.set_cons_succ, List.cons_append, List.nil_append, List.length_cons, List.length_nil, Nat.zero_add, Nat.reduceAdd, Nat.reduceLT, Nat.add_assoc] at ha
      exact ha
    refine Fit2.trans (E' := (⟨70, [], [(0, .sl a0.length (fl e_S_api_Op a0)), (1, .val (.int .i64 a1)), (5, .row n ([] : List S_centoref24_Unit).length), (6, .val (.int .i64 0))]⟩ : Env)) (O' := (Loc O n [some ⟨true, 82, 17, ([] : List S_centoref24_Unit).length, fl e_S_centoref24_Unit ([] : List S_centoref24_Unit)⟩])) (n' := (n + 1)) (Fit2.of (fit_loc hU rfl rfl ?_) (by omega)) ?_
    · simp only [push_cast, seval, ↓reduceIte, cast_lit, hN0, hN]
    refine ren_fit (k := 1) (k' := 2) hU [0] [0, 0] rfl rfl rfl rfl ⟨rfl, rfl⟩ ?_
    simp only [push_cast, seval, ↓reduceIte, cast_lit, hN0, hN]
  obtain ⟨z14, hz14, h⟩ := bC h
  refine W_blockX (E' := ⟨70, [], [(5, .row n z14.length)]⟩) (O' := (Loc O n [some ⟨true, 82, 17, z14.length, fl e_S_centoref24_Unit z14⟩, none])) (n0 := (n + 2)) ?_ ?_
  · refine W_loopJ hz14 (fun s0_ => ⟨70, [], [(0, .sl a0.length (fl e_S_api_Op a0)), (1, .val (.int .i64 a1)), (5, .row n s0_.2.length), (6, .val (.int .i64 s0_.1))]⟩) (fun s0_ => (Loc O n [some ⟨true, 82, 17, s0_.2.length, fl e_S_centoref24_Unit s0_.2⟩, none])) (fun z14 => JX 0 n (⟨70, [], [(5, .row n z14.length)]⟩ : Env) (Loc O n [some ⟨true, 82, 17, z14.length, fl e_S_centoref24_Unit z14⟩, none]) (n + 2)) ?_
    intro s0_ x0_ hs0_
    unfold m_centoref24_Units_L0 at hs0_
    try dsimp only
    refine W_seqK ?_
    refine W_sq [0, 1, 5, 6, 13] (W_regionD tab_ok [] ?_)
    simp only [push_cast, seval, ↓reduceIte, cast_lit, hN0, hN]
    refine W_cond (t := (decide (s0_.1 < (a0.length : Int)))) rfl (fun c13 => ?_) (fun c13 => ?_)
    · replace hs0_ := condT c13 hs0_
      refine W_skip ?_
      try simp only [gthen, gblock]
      refine W_drop [0, 1, 5, 6] [true, false] ?_
      simp only [push_cast, seval, ↓reduceIte]
      obtain ⟨z1, hz1, hs0_⟩ := bC hs0_
      refine W_seqN (E' := ⟨70, [], [(0, .sl a0.length (fl e_S_api_Op a0)), (1, .val (.int .i64 a1)), (5, .row n z1.length), (6, .val (.int .i64 s0_.1))]⟩) (O' := (Loc O n [some ⟨true, 82, 17, z1.length, fl e_S_centoref24_Unit z1⟩, none, none, none])) (n0 := (n + 4)) ?_ ?_
      · refine W_block ?_
        refine W_seqK ?_
        obtain ⟨x3, hx3, ax3, bx3, cx3, hz1⟩ := bE (f := e_S_api_Op) tab69 (fun _ => rfl) (by decide) hz1
        refine W_regionD tab_ok [] ?_
        simp only [push_cast, Nat.reduceAdd, Nat.reduceSub, Nat.reduceMul, Nat.reduceLeDiff, Nat.reduceLT, Nat.reduceEqDiff, ↓reduceIte, reduceCtorEq, Int.reduceBEq, Int.reduceBNe, Nat.reduceBEq, Int.reduceLE, Int.reduceLT, Int.reduceEq, Int.reduceNe, Int.reduceNeg, Nat.reduceDiv, Nat.reduceMod, Nat.reducePow, cast_lit, ax3, bx3, cx3, hN0, hN]
        refine W_drop [0, 1, 5, 6, 7] [true, false, true] ?_
        simp only [push_cast, seval, ↓reduceIte]
        refine W_seqK ?_
        refine W_sq [0, 1, 5, 6, 7, 8] (W_regionD tab_ok [] ?_)
        simp only [push_cast, seval, ↓reduceIte, cast_lit, hN0, hN]
        refine W_drop [0, 1, 5, 6, 7, 8] [true, false, true] ?_
        simp only [push_cast, seval, ↓reduceIte]
        obtain ⟨z6, hz6, hz1⟩ := bC hz1
        refine W_blockX (E' := ⟨70, [], [(0, .sl a0.length (fl e_S_api_Op a0)), (1, .val (.int .i64 a1)), (5, .row n z6.length), (6, .val (.int .i64 s0_.1)), (7, .ref (n + 2) 0)]⟩) (O' := (Loc O n [some ⟨true, 82, 17, z6.length, fl e_S_centoref24_Unit z6⟩, none, some ⟨false, 69, 14, 1, (c_S_api_Op x3)⟩])) (n0 := (n + 3)) ?_ ?_
        · refine W_loopJ hz6 (fun s1_ => ⟨70, [], [(0, .sl a0.length (fl e_S_api_Op a0)), (1, .val (.int .i64 a1)), (5, .row n s1_.2.length), (6, .val (.int .i64 s0_.1)), (7, .ref (n + 2) 0), (8, .val (.int .i64 s1_.1))]⟩) (fun s1_ => (Loc O n [some ⟨true, 82, 17, s1_.2.length, fl e_S_centoref24_Unit s1_.2⟩, none, some ⟨false, 69, 14, 1, (c_S_api_Op x3)⟩])) (fun z6 => JX 2 n (⟨70, [], [(0, .sl a0.length (fl e_S_api_Op a0)), (1, .val (.int .i64 a1)), (5, .row n z6.length), (6, .val (.int .i64 s0_.1)), (7, .ref (n + 2) 0)]⟩ : Env) (Loc O n [some ⟨true, 82, 17, z6.length, fl e_S_centoref24_Unit z6⟩, none, some ⟨false, 69, 14, 1, (c_S_api_Op x3)⟩]) (n + 3)) ?_
          intro s1_ x1_ hs1_
          unfold m_centoref24_Units_L1 at hs1_
          try dsimp only
          refine W_seqK ?_
          refine W_sq [0, 1, 5, 6, 7, 8, 28] (W_regionD tab_ok [none, none, none] ?_)
          simp only [push_cast, seval, ↓reduceIte, cast_lit, hN0, hN]
          repeat (with_reducible refine And.intro (by first | (intro h0; simp only [h0, and_self]; done) | (intro h0; simp only [h0, Bool.not_false, Bool.not_true, Bool.true_and, Bool.and_true, true_and, and_true, and_self, imp_self, implies_true, bne_iff_ne, ne_eq, beq_iff_eq]; done) | (intros; simp_all; done) | exact True.intro) ?_)
          refine W_cond (t := (cond (decide (s1_.1 < x3.N)) (x3.Kind == 0) false)) rfl (fun c5 => ?_) (fun c5 => ?_)
          · replace hs1_ := condT c5 hs1_
            refine W_skip ?_
            try simp only [gthen, gblock]
            refine W_drop [0, 1, 5, 6, 7, 8] [true, false, true] ?_
            simp only [push_cast, seval, ↓reduceIte]
            refine W_seqK ?_
            refine W_block ?_
            obtain ⟨l4, pl4, ql4, el4, hs1_⟩ := bA (k := 1) rfl hs1_
            refine W_regionD tab_ok [] ?_
            simp only [push_cast, seval, ↓reduceIte, cast_lit, pl4, ql4, el4, hN0, hN]
            refine W_fit ⟨70, [], [(0, .sl a0.length (fl e_S_api_Op a0)), (1, .val (.int .i64 a1)), (5, .row n l4.length), (6, .val (.int .i64 s0_.1)), (7, .ref (n + 2) 0), (8, .val (.int .i64 s1_.1))]⟩ (Loc O n [some ⟨true, 82, 17, l4.length, fl e_S_centoref24_Unit l4⟩, none, some ⟨false, 69, 14, 1, (c_S_api_Op x3)⟩, none]) (fit_loc hU rfl rfl ?_) ?_
            · simp only [push_cast, seval, ↓reduceIte, cast_lit, pl4, ql4, el4, hN0, hN]
            refine W_regionD tab_ok [] ?_
            simp only [push_cast, seval, ↓reduceIte, cast_lit, hN0, hN]
            have hs1_ := Option.some.inj hs1_; subst hs1_
            refine And.intro rfl (Fit2.of (fit_loc hU rfl rfl ?_) (by omega))
            simp only [push_cast, seval, ↓reduceIte, cast_lit, hN0, hN]
          · replace hs1_ := condF c5 hs1_
            refine W_exit ?_
            try simp only [gthen, gblock, ↓reduceIte, Nat.reduceEqDiff]
            have hs1_ := Option.some.inj hs1_; subst hs1_
            refine And.intro (fun h => by cases h) (And.intro rfl (Fit2.of (fit_loc hU rfl rfl ?_) (by omega)))
            simp only [push_cast, seval, ↓reduceIte, cast_lit, hN0, hN]
        try simp only [gthen, gblock, ↓reduceIte, Nat.reduceEqDiff]
        refine W_drop [0, 1, 5, 6, 7] [true, false, true] ?_
        simp only [push_cast, seval, ↓reduceIte]
        refine W_seqK ?_
        refine W_sq [0, 1, 5, 6, 7, 9] (W_regionD tab_ok [] ?_)
        simp only [push_cast, seval, ↓reduceIte, cast_lit, hN0, hN]
        refine W_drop [0, 1, 5, 6, 7, 9] [true, false, true] ?_
        simp only [push_cast, seval, ↓reduceIte]
        obtain ⟨z10, hz10, hz1⟩ := bC hz1
        refine W_blockX (E' := ⟨70, [], [(0, .sl a0.length (fl e_S_api_Op a0)), (1, .val (.int .i64 a1)), (5, .row n z10.length), (6, .val (.int .i64 s0_.1)), (7, .ref (n + 2) 0)]⟩) (O' := (Loc O n [some ⟨true, 82, 17, z10.length, fl e_S_centoref24_Unit z10⟩, none, some ⟨false, 69, 14, 1, (c_S_api_Op x3)⟩])) (n0 := (n + 3)) ?_ ?_
        · refine W_loopJ hz10 (fun s2_ => ⟨70, [], [(0, .sl a0.length (fl e_S_api_Op a0)), (1, .val (.int .i64 a1)), (5, .row n s2_.2.length), (6, .val (.int .i64 s0_.1)), (7, .ref (n + 2) 0), (9, .val (.int .i64 s2_.1))]⟩) (fun s2_ => (Loc O n [some ⟨true, 82, 17, s2_.2.length, fl e_S_centoref24_Unit s2_.2⟩, none, some ⟨false, 69, 14, 1, (c_S_api_Op x3)⟩])) (fun z10 => JX 4 n (⟨70, [], [(0, .sl a0.length (fl e_S_api_Op a0)), (1, .val (.int .i64 a1)), (5, .row n z10.length), (6, .val (.int .i64 s0_.1)), (7, .ref (n + 2) 0)]⟩ : Env) (Loc O n [some ⟨true, 82, 17, z10.length, fl e_S_centoref24_Unit z10⟩, none, some ⟨false, 69, 14, 1, (c_S_api_Op x3)⟩]) (n + 3)) ?_
          intro s2_ x2_ hs2_
          unfold m_centoref24_Units_L2 at hs2_
          try dsimp only
          refine W_seqK ?_
          refine W_sq [0, 1, 5, 6, 7, 9, 40] (W_regionD tab_ok [] ?_)
          simp only [push_cast, seval, ↓reduceIte, cast_lit, hN0, hN]
          refine W_cond (t := (decide (s2_.1 < (x3.L.length : Int)))) rfl (fun c9 => ?_) (fun c9 => ?_)
          · replace hs2_ := condT c9 hs2_
            refine W_skip ?_
            try simp only [gthen, gblock]
            refine W_drop [0, 1, 5, 6, 7, 9] [true, false, true] ?_
            simp only [push_cast, seval, ↓reduceIte]
            refine W_seqK ?_
            refine W_block ?_
            obtain ⟨x7, hx7, ax7, bx7, cx7, hs2_⟩ := bE (f := e_S_api_Tree) tab25 (fun _ => rfl) (by decide) hs2_
            obtain ⟨l8, pl8, ql8, el8, hs2_⟩ := bA (k := 1) rfl hs2_
            refine W_drawY tab_ok (by kernel_rfl) [.low, .plain, .plain, .plain, .plain, .plain, .plain, .plain, .plain, .plain, .plain, .plain, .plain, .plain, .pass, .bar, .plain] (fun i => i < (n + 3)) [0, 1, 2, 3, 4, 5, 6, 7, 8, 9, 10, 11, 12, 13, 14, 15, 16] [.low, .plain, .plain, .plain, .plain, .plain, .plain, .plain, .plain, .plain, .plain, .plain, .plain, .plain, .pass, .bar, .plain] [] (by kernel_rfl) rfl ?_
            simp only [push_cast, Nat.reduceAdd, Nat.reduceSub, Nat.reduceMul, Nat.reduceLeDiff, Nat.reduceLT, Nat.reduceEqDiff, ↓reduceIte, reduceCtorEq, Int.reduceBEq, Int.reduceBNe, Nat.reduceBEq, Int.reduceLE, Int.reduceLT, Int.reduceEq, Int.reduceNe, Int.reduceNeg, Nat.reduceDiv, Nat.reduceMod, Nat.reducePow, cast_lit, ax7, bx7, cx7, pl8, ql8, el8, hN0, hN]
            repeat (with_reducible refine And.intro (by first | omega | exact agree_loc rfl | exact agree_loc0 | exact agree_ne rfl rfl) ?_)
            refine W_fit ⟨70, [], [(0, .sl a0.length (fl e_S_api_Op a0)), (1, .val (.int .i64 a1)), (5, .row n l8.length), (6, .val (.int .i64 s0_.1)), (7, .ref (n + 2) 0), (9, .val (.int .i64 s2_.1))]⟩ (Loc O n [some ⟨true, 82, 17, l8.length, fl e_S_centoref24_Unit l8⟩, none, some ⟨false, 69, 14, 1, (c_S_api_Op x3)⟩, none]) (fit_loc hU rfl rfl ?_) ?_
            · simp only [push_cast, Nat.reduceAdd, Nat.reduceSub, Nat.reduceMul, Nat.reduceLeDiff, Nat.reduceLT, Nat.reduceEqDiff, ↓reduceIte, reduceCtorEq, Int.reduceBEq, Int.reduceBNe, Nat.reduceBEq, Int.reduceLE, Int.reduceLT, Int.reduceEq, Int.reduceNe, Int.reduceNeg, Nat.reduceDiv, Nat.reduceMod, Nat.reducePow, cast_lit, ax7, bx7, cx7, pl8, ql8, el8, hN0, hN]
            refine W_regionD tab_ok [] ?_
            simp only [push_cast, seval, ↓reduceIte, cast_lit, hN0, hN]
            have hs2_ := Option.some.inj hs2_; subst hs2_
            refine And.intro rfl (Fit2.of (fit_loc hU rfl rfl ?_) (by omega))
            simp only [push_cast, seval, ↓reduceIte, cast_lit, hN0, hN]
          · replace hs2_ := condF c9 hs2_
            refine W_exit ?_
            try simp only [gthen, gblock, ↓reduceIte, Nat.reduceEqDiff]
            have hs2_ := Option.some.inj hs2_; subst hs2_
            refine And.intro (fun h => by cases h) (And.intro rfl (Fit2.of (fit_loc hU rfl rfl ?_) (by omega)))
            simp only [push_cast, seval, ↓reduceIte, cast_lit, hN0, hN]
        try simp only [gthen, gblock, ↓reduceIte, Nat.reduceEqDiff]
        refine W_drop [0, 1, 5, 6, 7] [true, false, true] ?_
        simp only [push_cast, seval, ↓reduceIte]
        refine W_sq [0, 1, 5, 6, 7, 61] (W_regionD tab_ok [] ?_)
        simp only [push_cast, seval, ↓reduceIte, cast_lit, hN0, hN]
        refine W_cond (t := (x3.Kind == 3)) rfl (fun c12 => ?_) (fun c12 => ?_)
        · replace hz1 := condT c12 hz1
          obtain ⟨l11, pl11, ql11, el11, hz1⟩ := bA (k := 1) rfl hz1
          refine W_regionD tab_ok [] ?_
          simp only [push_cast, seval, ↓reduceIte, cast_lit, pl11, ql11, el11, hN0, hN]
          have hz1 := Option.some.inj hz1; subst hz1
          refine And.intro rfl (Fit2.of (fit_loc hU rfl rfl ?_) (by omega))
          simp only [push_cast, seval, ↓reduceIte, cast_lit, pl11, ql11, el11, hN0, hN]
        · replace hz1 := condF c12 hz1
          refine W_skip ?_
          try simp only [gthen, gblock]
          have hz1 := Option.some.inj hz1; subst hz1
          refine And.intro rfl (Fit2.of (fit_loc hU rfl rfl ?_) (by omega))
          simp only [push_cast, seval, ↓reduceIte, cast_lit, hN0, hN]
      refine W_regionD tab_ok [] ?_
      simp only [push_cast, seval, ↓reduceIte, cast_lit, hN0, hN]
      have hs0_ := Option.some.inj hs0_; subst hs0_
      refine And.intro rfl (Fit2.of (fit_loc hU rfl rfl ?_) (by omega))
      simp only [push_cast, seval, ↓reduceIte, cast_lit, hN0, hN]
    · replace hs0_ := condF c13 hs0_
      refine W_exit ?_
      try simp only [gthen, gblock, ↓reduceIte, Nat.reduceEqDiff]
      have hs0_ := Option.some.inj hs0_; subst hs0_
      refine And.intro (fun h => by cases h) (And.intro rfl (Fit2.of (fit_loc hU rfl rfl ?_) (by omega)))
      simp only [push_cast, seval, ↓reduceIte, cast_lit, hN0, hN]
  try simp only [gthen, gblock, ↓reduceIte, Nat.reduceEqDiff]
  refine W_drop [5] [true, false] ?_
  simp only [push_cast, seval, ↓reduceIte]
  refine W_sq [4] (W_regionD tab_ok [] ?_)
  simp only [push_cast, seval, ↓reduceIte, cast_lit, hN0, hN]
  refine W_ret ?_
  try simp only [gthen, gblock]
  have h := Option.some.inj h; subst h
  refine fin_loc (.inr rfl) hU [.row n z14.length] (by omega) ?_
  simp only [push_cast, seval, ↓reduceIte, cast_lit, Try.results36, hN0, hN]
theorem ok_centoref24_Pairs {a0 : (List S_centoref24_Unit)} {a1 : (List S_centoref24_Unit)} {r : ((List S_centoref24_Pair) × Bool)} {O : Objs} {n : Nat} (h : m_centoref24_Pairs a0 a1 = some r) : GTo Try.prog 35 [.sl a0.length (fl e_S_centoref24_Unit a0), .sl a1.length (fl e_S_centoref24_Unit a1)] O n (.tup [.sl r.1.length (fl e_S_centoref24_Pair r.1), .val (.bool r.2)]) O n := by
  unfold m_centoref24_Pairs at h
  refine fn_of tab_ok Try.call35 Try.func35 rfl (Nat.le_of_ble_eq_true rfl) (Nat.le_refl _) fun hU => ?_
  have hN0 : O n = none := hU.fresh _ (Nat.le_refl _)
  have hN : ∀ k, O (n + k) = none := fun k => hU.fresh _ (Nat.le_add_right _ _)
  show W _ _ _ _ ⟨88, [], [(0, .sl a0.length (fl e_S_centoref24_Unit a0)), (1, .sl a1.length (fl e_S_centoref24_Unit a1))]⟩ (Loc O n []) _
  refine W_sq [0, 1] (W_regionD tab_ok [] ?_)
  simp only [push_cast, seval, ↓reduceIte, cast_lit, hN0, hN]
  refine W_sq [0, 1, 6] (W_regionD tab_ok [] ?_)
  simp only [push_cast, seval, ↓reduceIte, cast_lit, hN0, hN]
  refine W_sq [0, 1, 6, 7, 8] (W_regionD tab_ok [] ?_)
  simp only [push_cast, seval, ↓reduceIte, cast_lit, hN0, hN]
  refine W_seqK ?_
  refine W_drop [0, 1, 6, 7, 8] [] ?_
  simp only [push_cast, seval, ↓reduceIte]
  refine W_fit2 (E' := (⟨88, [], [(0, .sl a0.length (fl e_S_centoref24_Unit a0)), (1, .sl a1.length (fl e_S_centoref24_Unit a1)), (6, .row n ([] : List S_centoref24_Pair).length), (7, .val (.int .i64 0)), (8, .val (.int .i64 0))]⟩ : Env)) (O' := (Loc O n [some ⟨true, 84, 35, ([] : List S_centoref24_Pair).length, fl e_S_centoref24_Pair ([] : List S_centoref24_Pair)⟩, none])) (n' := (n + 2)) ?_ ?_
  · refine Fit2.trans (E' := (⟨88, [], [(0, .sl a0.length (fl e_S_centoref24_Unit a0)), (1, .sl a1.length (fl e_S_centoref24_Unit a1)), (6, .val (.slice none 0 0)), (7, .val (.int .i64 0)), (8, .val (.int .i64 0))]⟩ : Env)) (O' := (Loc O n [])) (n' := n) (Fit2.of (fit_loc hU rfl rfl ?_) (by omega)) ?_
    · simp only [push_cast, seval, ↓reduceIte, cast_lit, hN0, hN]
    refine Fit2.trans (E' := (⟨88, [], [(6, .row n 0), (0, .sl a0.length (fl e_S_centoref24_Unit a0)), (1, .sl a1.length (fl e_S_centoref24_Unit a1)), (6, .val (.slice none 0 0)), (7, .val (.int .i64 0)), (8, .val (.int .i64 0))]⟩ : Env)) (O' := (Loc O n [some ⟨true, 84, 35, 0, []⟩])) (n' := (n + 1)) ?_ ?_
    · have ha := adopt_fit (ba := n) (E := (⟨88, [], [(0, .sl a0.length (fl e_S_centoref24_Unit a0)), (1, .sl a1.length (fl e_S_centoref24_Unit a1)), (6, .val (.slice none 0 0)), (7, .val (.int .i64 0)), (8, .val (.int .i64 0))]⟩ : Env)) (O := (Loc O n [])) (n := n) 6 84 35 rfl (by omega)
      simp only [Loc_push, Loc_push0, Loc_upd, Loc_upd0, List.set_cons_zero, List.set_cons_succ, List.cons_append, List.nil_append, List.length_cons, List.length_nil, Nat.zero_add, Nat.reduceAdd, Nat.reduceLT, Nat.add_assoc] at ha
      exact ha
    refine Fit2.trans (E' := (⟨88, [], [(0, .sl a0.length (fl e_S_centoref24_Unit a0)), (1, .sl a1.length (fl e_S_centoref24_Unit a1)), (6, .row n ([] : List S_centoref24_Pair).length), (7, .val (.int .i64 0)), (8, .val (.int .i64 0))]⟩ : Env)) (O' := (Loc O n [some ⟨true, 84, 35, ([] : List S_centoref24_Pair).length, fl e_S_centoref24_Pair ([] : List S_centoref24_Pair)⟩])) (n' := (n + 1)) (Fit2.of (fit_loc hU rfl rfl ?_) (by omega)) ?_
    · simp only [push_cast, seval, ↓reduceIte, cast_lit, hN0, hN]
    refine ren_fit (k := 1) (k' := 2) hU [0] [0, 0] rfl rfl rfl rfl ⟨rfl, rfl⟩ ?_
    simp only [push_cast, seval, ↓reduceIte, cast_lit, hN0, hN]
  obtain ⟨z35, hz35, h⟩ := bC h
  refine W_sumB (J := (SumJ (fun z35 => JR n (⟨88, [], [(4, .val (.slice none 0 0)), (5, .val (.bool false))]⟩ : Env) (Loc O n []) n) (fun z35 => JX 0 n (⟨88, [], [(6, .row n z35.length)]⟩ : Env) (Loc O n [some ⟨true, 84, 35, z35.length, fl e_S_centoref24_Pair z35⟩, none]) (n + 2)))) (z := z35) ?_ fun hw => ?_
  · refine W_loopJ hz35 (fun s0_ => ⟨88, [], [(0, .sl a0.length (fl e_S_centoref24_Unit a0)), (1, .sl a1.length (fl e_S_centoref24_Unit a1)), (6, .row n s0_.2.2.length), (7, .val (.int .i64 s0_.1)), (8, .val (.int .i64 s0_.2.1))]⟩) (fun s0_ => (Loc O n [some ⟨true, 84, 35, s0_.2.2.length, fl e_S_centoref24_Pair s0_.2.2⟩, none])) (SumJ (fun z35 => JR n (⟨88, [], [(4, .val (.slice none 0 0)), (5, .val (.bool false))]⟩ : Env) (Loc O n []) n) (fun z35 => JX 0 n (⟨88, [], [(6, .row n z35.length)]⟩ : Env) (Loc O n [some ⟨true, 84, 35, z35.length, fl e_S_centoref24_Pair z35⟩, none]) (n + 2))) ?_
    intro s0_ x0_ hs0_
    unfold m_centoref24_Pairs_L0 at hs0_
    try dsimp only
    refine W_seqK ?_
    refine W_sq [0, 1, 6, 7, 8, 18] (W_regionD tab_ok [none, none, none, none] ?_)
    simp only [push_cast, seval, ↓reduceIte, cast_lit, hN0, hN]
    repeat (with_reducible refine And.intro (by first | (intro h0; simp only [h0, and_self]; done) | (intro h0; simp only [h0, Bool.not_false, Bool.not_true, Bool.true_and, Bool.and_true, true_and, and_true, and_self, imp_self, implies_true, bne_iff_ne, ne_eq, beq_iff_eq]; done) | (intros; simp_all; done) | exact True.intro) ?_)
    refine W_cond (t := (cond (decide (s0_.1 < (a0.length : Int))) true (decide (s0_.2.1 < (a1.length : Int))))) rfl (fun c34 => ?_) (fun c34 => ?_)
    · replace hs0_ := condT c34 hs0_
      refine W_skip ?_
      try simp only [gthen, gblock]
      refine W_drop [0, 1, 6, 7, 8] [true, false] ?_
      simp only [push_cast, seval, ↓reduceIte]
      refine W_block ?_
      refine W_seqK ?_
      obtain ⟨z3, hz3, hs0_⟩ := bC hs0_
      refine W_seqN (E' := ⟨88, [], [(0, .sl a0.length (fl e_S_centoref24_Unit a0)), (1, .sl a1.length (fl e_S_centoref24_Unit a1)), (6, .row n s0_.2.2.length), (7, .val (.int .i64 s0_.1)), (8, .val (.int .i64 s0_.2.1)), (29, .val (.bool z3))]⟩) (O' := (Loc O n [some ⟨true, 84, 35, s0_.2.2.length, fl e_S_centoref24_Pair s0_.2.2⟩, none])) (n0 := (n + 2)) ?_ ?_
      · rcases Bool.eq_false_or_eq_true (decide (s0_.1 < (a0.length : Int))) with c8 | c8
        · replace hz3 := condT c8 hz3
          obtain ⟨x6, hx6, ax6, bx6, cx6, hz3⟩ := bE (f := e_S_centoref24_Unit) tab82 (fun _ => rfl) (by decide) hz3
          have g7 := gpart_fld (f := e_S_centoref24_Unit) (off := 16) (sz := 17) tab4 (fun _ => rfl) (by decide) (by decide) hx6
          refine W_regionD tab_ok [some true, some true, some true, some true, some true] ?_
          simp only [push_cast, Nat.reduceAdd, Nat.reduceSub, Nat.reduceMul, Nat.reduceLeDiff, Nat.reduceLT, Nat.reduceEqDiff, ↓reduceIte, reduceCtorEq, Int.reduceBEq, Int.reduceBNe, Nat.reduceBEq, Int.reduceLE, Int.reduceLT, Int.reduceEq, Int.reduceNe, Int.reduceNeg, Nat.reduceDiv, Nat.reduceMod, Nat.reducePow, cast_lit, c8, ax6, bx6, cx6, g7, hN0, hN]
          have hz3 := Option.some.inj hz3; subst hz3
          refine And.intro rfl (Fit2.of (fit_loc hU rfl rfl ?_) (by omega))
          simp only [push_cast, Nat.reduceAdd, Nat.reduceSub, Nat.reduceMul, Nat.reduceLeDiff, Nat.reduceLT, Nat.reduceEqDiff, ↓reduceIte, reduceCtorEq, Int.reduceBEq, Int.reduceBNe, Nat.reduceBEq, Int.reduceLE, Int.reduceLT, Int.reduceEq, Int.reduceNe, Int.reduceNeg, Nat.reduceDiv, Nat.reduceMod, Nat.reducePow, cast_lit, c8, ax6, bx6, cx6, g7, hN0, hN]
        · replace hz3 := condF c8 hz3
          refine W_regionD tab_ok [some false, some false, some false, some false, some false] ?_
          simp only [push_cast, seval, ↓reduceIte, cast_lit, c8, hN0, hN]
          have hz3 := Option.some.inj hz3; subst hz3
          refine And.intro rfl (Fit2.of (fit_loc hU rfl rfl ?_) (by omega))
          simp only [push_cast, seval, ↓reduceIte, cast_lit, c8, hN0, hN]
      refine W_cond (t := z3) rfl (fun c33 => ?_) (fun c33 => ?_)
      · replace hs0_ := condT c33 hs0_
        refine W_seqK ?_
        obtain ⟨x11, hx11, ax11, bx11, cx11, hs0_⟩ := bE (f := e_S_centoref24_Unit) tab82 (fun _ => rfl) (by decide) hs0_
        obtain ⟨l12, pl12, ql12, el12, hs0_⟩ := bA (k := 1) rfl hs0_
        refine W_regionD tab_ok [] ?_
        simp only [push_cast, Nat.reduceAdd, Nat.reduceSub, Nat.reduceMul, Nat.reduceLeDiff, Nat.reduceLT, Nat.reduceEqDiff, ↓reduceIte, reduceCtorEq, Int.reduceBEq, Int.reduceBNe, Nat.reduceBEq, Int.reduceLE, Int.reduceLT, Int.reduceEq, Int.reduceNe, Int.reduceNeg, Nat.reduceDiv, Nat.reduceMod, Nat.reducePow, cast_lit, ax11, bx11, cx11, pl12, ql12, el12, hN0, hN]
        refine W_fit ⟨88, [], [(0, .sl a0.length (fl e_S_centoref24_Unit a0)), (1, .sl a1.length (fl e_S_centoref24_Unit a1)), (6, .row n l12.length), (7, .val (.int .i64 s0_.1)), (8, .val (.int .i64 s0_.2.1))]⟩ (Loc O n [some ⟨true, 84, 35, l12.length, fl e_S_centoref24_Pair l12⟩, none, none]) (fit_loc hU rfl rfl ?_) ?_
        · simp only [push_cast, Nat.reduceAdd, Nat.reduceSub, Nat.reduceMul, Nat.reduceLeDiff, Nat.reduceLT, Nat.reduceEqDiff, ↓reduceIte, reduceCtorEq, Int.reduceBEq, Int.reduceBNe, Nat.reduceBEq, Int.reduceLE, Int.reduceLT, Int.reduceEq, Int.reduceNe, Int.reduceNeg, Nat.reduceDiv, Nat.reduceMod, Nat.reducePow, cast_lit, ax11, bx11, cx11, pl12, ql12, el12, hN0, hN]
        refine W_sq [0, 1, 6, 7, 8] (W_regionD tab_ok [] ?_)
        simp only [push_cast, seval, ↓reduceIte, cast_lit, hN0, hN]
        refine W_exit ?_
        try simp only [gthen, gblock, ↓reduceIte, Nat.reduceEqDiff]
        have hs0_ := Option.some.inj hs0_; subst hs0_
        refine And.intro rfl (Fit2.of (fit_loc hU rfl rfl ?_) (by omega))
        simp only [push_cast, seval, ↓reduceIte, cast_lit, hN0, hN]
      · replace hs0_ := condF c33 hs0_
        refine W_skip ?_
        try simp only [gthen, gblock]
        refine W_drop [0, 1, 6, 7, 8] [true, false] ?_
        simp only [push_cast, seval, ↓reduceIte]
        refine W_seqK ?_
        obtain ⟨z15, hz15, hs0_⟩ := bC hs0_
        refine W_seqN (E' := ⟨88, [], [(0, .sl a0.length (fl e_S_centoref24_Unit a0)), (1, .sl a1.length (fl e_S_centoref24_Unit a1)), (6, .row n s0_.2.2.length), (7, .val (.int .i64 s0_.1)), (8, .val (.int .i64 s0_.2.1)), (50, .val (.bool z15))]⟩) (O' := (Loc O n [some ⟨true, 84, 35, s0_.2.2.length, fl e_S_centoref24_Pair s0_.2.2⟩, none])) (n0 := (n + 2)) ?_ ?_
        · rcases Bool.eq_false_or_eq_true (decide (s0_.2.1 < (a1.length : Int))) with c20 | c20
          · replace hz15 := condT c20 hz15
            obtain ⟨x18, hx18, ax18, bx18, cx18, hz15⟩ := bE (f := e_S_centoref24_Unit) tab82 (fun _ => rfl) (by decide) hz15
            have g19 := gpart_fld (f := e_S_centoref24_Unit) (off := 16) (sz := 17) tab4 (fun _ => rfl) (by decide) (by decide) hx18
            refine W_regionD tab_ok [some true, some true, some true, some true, some true] ?_
            simp only [push_cast, Nat.reduceAdd, Nat.reduceSub, Nat.reduceMul, Nat.reduceLeDiff, Nat.reduceLT, Nat.reduceEqDiff, ↓reduceIte, reduceCtorEq, Int.reduceBEq, Int.reduceBNe, Nat.reduceBEq, Int.reduceLE, Int.reduceLT, Int.reduceEq, Int.reduceNe, Int.reduceNeg, Nat.reduceDiv, Nat.reduceMod, Nat.reducePow, cast_lit, c20, ax18, bx18, cx18, g19, hN0, hN]
            have hz15 := Option.some.inj hz15; subst hz15
            refine And.intro rfl (Fit2.of (fit_loc hU rfl rfl ?_) (by omega))
            simp only [push_cast, Nat.reduceAdd, Nat.reduceSub, Nat.reduceMul, Nat.reduceLeDiff, Nat.reduceLT, Nat.reduceEqDiff, ↓reduceIte, reduceCtorEq, Int.reduceBEq, Int.reduceBNe, Nat.reduceBEq, Int.reduceLE, Int.reduceLT, Int.reduceEq, Int.reduceNe, Int.reduceNeg, Nat.reduceDiv, Nat.reduceMod, Nat.reducePow, cast_lit, c20, ax18, bx18, cx18, g19, hN0, hN]
          · replace hz15 := condF c20 hz15
            refine W_regionD tab_ok [some false, some false, some false, some false, some false] ?_
            simp only [push_cast, seval, ↓reduceIte, cast_lit, c20, hN0, hN]
            have hz15 := Option.some.inj hz15; subst hz15
            refine And.intro rfl (Fit2.of (fit_loc hU rfl rfl ?_) (by omega))
            simp only [push_cast, seval, ↓reduceIte, cast_lit, c20, hN0, hN]
        refine W_cond (t := z15) rfl (fun c32 => ?_) (fun c32 => ?_)
        · replace hs0_ := condT c32 hs0_
          refine W_seqK ?_
          obtain ⟨x23, hx23, ax23, bx23, cx23, hs0_⟩ := bE (f := e_S_centoref24_Unit) tab82 (fun _ => rfl) (by decide) hs0_
          obtain ⟨l24, pl24, ql24, el24, hs0_⟩ := bA (k := 1) rfl hs0_
          refine W_regionD tab_ok [] ?_
          simp only [push_cast, Nat.reduceAdd, Nat.reduceSub, Nat.reduceMul, Nat.reduceLeDiff, Nat.reduceLT, Nat.reduceEqDiff, ↓reduceIte, reduceCtorEq, Int.reduceBEq, Int.reduceBNe, Nat.reduceBEq, Int.reduceLE, Int.reduceLT, Int.reduceEq, Int.reduceNe, Int.reduceNeg, Nat.reduceDiv, Nat.reduceMod, Nat.reducePow, cast_lit, ax23, bx23, cx23, pl24, ql24, el24, hN0, hN]
          refine W_fit ⟨88, [], [(0, .sl a0.length (fl e_S_centoref24_Unit a0)), (1, .sl a1.length (fl e_S_centoref24_Unit a1)), (6, .row n l24.length), (7, .val (.int .i64 s0_.1)), (8, .val (.int .i64 s0_.2.1))]⟩ (Loc O n [some ⟨true, 84, 35, l24.length, fl e_S_centoref24_Pair l24⟩, none, none]) (fit_loc hU rfl rfl ?_) ?_
          · simp only [push_cast, Nat.reduceAdd, Nat.reduceSub, Nat.reduceMul, Nat.reduceLeDiff, Nat.reduceLT, Nat.reduceEqDiff, ↓reduceIte, reduceCtorEq, Int.reduceBEq, Int.reduceBNe, Nat.reduceBEq, Int.reduceLE, Int.reduceLT, Int.reduceEq, Int.reduceNe, Int.reduceNeg, Nat.reduceDiv, Nat.reduceMod, Nat.reducePow, cast_lit, ax23, bx23, cx23, pl24, ql24, el24, hN0, hN]
          refine W_sq [0, 1, 6, 7, 8] (W_regionD tab_ok [] ?_)
          simp only [push_cast, seval, ↓reduceIte, cast_lit, hN0, hN]
          refine W_exit ?_
          try simp only [gthen, gblock, ↓reduceIte, Nat.reduceEqDiff]
          have hs0_ := Option.some.inj hs0_; subst hs0_
          refine And.intro rfl (Fit2.of (fit_loc hU rfl rfl ?_) (by omega))
          simp only [push_cast, seval, ↓reduceIte, cast_lit, hN0, hN]
        · replace hs0_ := condF c32 hs0_
          refine W_skip ?_
          try simp only [gthen, gblock]
          refine W_drop [0, 1, 6, 7, 8] [true, false] ?_
          simp only [push_cast, seval, ↓reduceIte]
          refine W_seqK ?_
          refine W_sq [0, 1, 6, 7, 8, 70] (W_regionD tab_ok [none, none, none, none] ?_)
          simp only [push_cast, seval, ↓reduceIte, cast_lit, hN0, hN]
          repeat (with_reducible refine And.intro (by first | (intro h0; simp only [h0, and_self]; done) | (intro h0; simp only [h0, Bool.not_false, Bool.not_true, Bool.true_and, Bool.and_true, true_and, and_true, and_self, imp_self, implies_true, bne_iff_ne, ne_eq, beq_iff_eq]; done) | (intros; simp_all; done) | exact True.intro) ?_)
          refine W_cond (t := (cond (decide ((a0.length : Int) ≤ s0_.1)) true (decide ((a1.length : Int) ≤ s0_.2.1)))) rfl (fun c31 => ?_) (fun c31 => ?_)
          · replace hs0_ := condT c31 hs0_
            refine W_sq [4, 5] (W_regionD tab_ok [] ?_)
            simp only [push_cast, seval, ↓reduceIte, cast_lit, hN0, hN]
            refine W_ret ?_
            try simp only [gthen, gblock]
            have hs0_ := Option.some.inj hs0_; subst hs0_
            refine And.intro (fun h => by cases h) (And.intro rfl (Fit2.of (fit_loc hU rfl rfl ?_) (by omega)))
            simp only [push_cast, seval, ↓reduceIte, cast_lit, hN0, hN]
          · replace hs0_ := condF c31 hs0_
            refine W_skip ?_
            try simp only [gthen, gblock]
            refine W_drop [0, 1, 6, 7, 8] [true, false] ?_
            simp only [push_cast, seval, ↓reduceIte]
            refine W_seqK ?_
            obtain ⟨x28, hx28, ax28, bx28, cx28, hs0_⟩ := bE (f := e_S_centoref24_Unit) tab82 (fun _ => rfl) (by decide) hs0_
            obtain ⟨x29, hx29, ax29, bx29, cx29, hs0_⟩ := bE (f := e_S_centoref24_Unit) tab82 (fun _ => rfl) (by decide) hs0_
            obtain ⟨l30, pl30, ql30, el30, hs0_⟩ := bA (k := 1) rfl hs0_
            refine W_drawY tab_ok (by kernel_rfl) [.low, .plain, .plain, .plain, .plain, .plain, .plain, .plain, .plain, .plain, .pass, .bar, .plain] (fun i => i < (n + 2)) [0, 1, 2, 3, 4, 5, 6, 7, 8, 9, 10, 11, 12] [.low, .plain, .plain, .plain, .plain, .plain, .plain, .plain, .plain, .plain, .pass, .bar, .plain] [] (by kernel_rfl) rfl ?_
            simp only [push_cast, Nat.reduceAdd, Nat.reduceSub, Nat.reduceMul, Nat.reduceLeDiff, Nat.reduceLT, Nat.reduceEqDiff, ↓reduceIte, reduceCtorEq, Int.reduceBEq, Int.reduceBNe, Nat.reduceBEq, Int.reduceLE, Int.reduceLT, Int.reduceEq, Int.reduceNe, Int.reduceNeg, Nat.reduceDiv, Nat.reduceMod, Nat.reducePow, cast_lit, ax28, bx28, cx28, ax29, bx29, cx29, pl30, ql30, el30, hN0, hN]
            repeat (with_reducible refine And.intro (by first | omega | exact agree_loc rfl | exact agree_loc0 | exact agree_ne rfl rfl) ?_)
            refine W_fit ⟨88, [], [(0, .sl a0.length (fl e_S_centoref24_Unit a0)), (1, .sl a1.length (fl e_S_centoref24_Unit a1)), (6, .row n l30.length), (7, .val (.int .i64 s0_.1)), (8, .val (.int .i64 s0_.2.1))]⟩ (Loc O n [some ⟨true, 84, 35, l30.length, fl e_S_centoref24_Pair l30⟩, none, none]) (fit_loc hU rfl rfl ?_) ?_
            · simp only [push_cast, Nat.reduceAdd, Nat.reduceSub, Nat.reduceMul, Nat.reduceLeDiff, Nat.reduceLT, Nat.reduceEqDiff, ↓reduceIte, reduceCtorEq, Int.reduceBEq, Int.reduceBNe, Nat.reduceBEq, Int.reduceLE, Int.reduceLT, Int.reduceEq, Int.reduceNe, Int.reduceNeg, Nat.reduceDiv, Nat.reduceMod, Nat.reducePow, cast_lit, ax28, bx28, cx28, ax29, bx29, cx29, pl30, ql30, el30, hN0, hN]
            refine W_sq [0, 1, 6, 7, 8] (W_regionD tab_ok [] ?_)
            simp only [push_cast, seval, ↓reduceIte, cast_lit, hN0, hN]
            refine W_regionD tab_ok [] ?_
            simp only [push_cast, seval, ↓reduceIte, cast_lit, hN0, hN]
            have hs0_ := Option.some.inj hs0_; subst hs0_
            refine And.intro rfl (Fit2.of (fit_loc hU rfl rfl ?_) (by omega))
            simp only [push_cast, seval, ↓reduceIte, cast_lit, hN0, hN]
    · replace hs0_ := condF c34 hs0_
      refine W_exit ?_
      try simp only [gthen, gblock, ↓reduceIte, Nat.reduceEqDiff]
      have hs0_ := Option.some.inj hs0_; subst hs0_
      refine And.intro (fun h => by cases h) (And.intro rfl (Fit2.of (fit_loc hU rfl rfl ?_) (by omega)))
      simp only [push_cast, seval, ↓reduceIte, cast_lit, hN0, hN]
  rcases z35 with z35 | z35
  · dsimp only [SumJ] at hw h
    refine W_blockR hw ?_
    try simp only [gthen, gblock, ↓reduceIte, Nat.reduceEqDiff]
    have h := Option.some.inj h; subst h
    refine fin_loc (.inr rfl) hU [.val (.slice none 0 0), .val (.bool false)] (by omega) ?_
    simp only [push_cast, seval, ↓reduceIte, cast_lit, Try.results35, hN0, hN]
  · dsimp only [SumJ] at hw h
    refine W_blockX hw ?_
    try simp only [gthen, gblock, ↓reduceIte, Nat.reduceEqDiff]
    refine W_drop [6] [true, false] ?_
    simp only [push_cast, seval, ↓reduceIte]
    refine W_sq [4, 5] (W_regionD tab_ok [] ?_)
    simp only [push_cast, seval, ↓reduceIte, cast_lit, hN0, hN]
    refine W_ret ?_
    try simp only [gthen, gblock]
    have h := Option.some.inj h; subst h
    refine fin_loc (.inr rfl) hU [.row n z35.length, .val (.bool true)] (by omega) ?_
    simp only [push_cast, seval, ↓reduceIte, cast_lit, Try.results35, hN0, hN]
theorem ok_centolaw24_kids {a0 : S_api_Op} {r : Int} {O : Objs} {n : Nat} (h : m_centolaw24_kids a0 = some r) : GTo Try.prog 65 [.agg (c_S_api_Op a0)] O n (.val (.int .i64 r)) O n := by
  unfold m_centolaw24_kids at h
  refine fn_of tab_ok Try.call65 Try.func65 rfl (Nat.le_of_ble_eq_true rfl) (Nat.le_refl _) fun hU => ?_
  have hN0 : O n = none := hU.fresh _ (Nat.le_refl _)
  have hN : ∀ k, O (n + k) = none := fun k => hU.fresh _ (Nat.le_add_right _ _)
  show W _ _ _ _ ⟨12, [], [(0, .agg (c_S_api_Op a0))]⟩ (Loc O n []) _
  refine W_sq [1] (W_regionD tab_ok [] ?_)
  simp only [push_cast, seval, ↓reduceIte, cast_lit, hN0, hN]
  refine W_seqK ?_
  refine W_sq [1, 5] (W_regionD tab_ok [] ?_)
  simp only [push_cast, seval, ↓reduceIte, cast_lit, hN0, hN]
  refine W_cond (t := (a0.Kind == 3)) rfl (fun c1 => ?_) (fun c1 => ?_)
  · replace h := condT c1 h
    refine W_sq [2] (W_regionD tab_ok [] ?_)
    simp only [push_cast, seval, ↓reduceIte, cast_lit, hN0, hN]
    refine W_ret ?_
    try simp only [gthen, gblock]
    have h := Option.some.inj h; subst h
    refine fin_loc (.inr rfl) hU [.val (.int .i64 1)] (by omega) ?_
    simp only [push_cast, seval, ↓reduceIte, cast_lit, Try.results65, hN0, hN]
  · replace h := condF c1 h
    refine W_skip ?_
    try simp only [gthen, gblock]
    refine W_drop [1] [true] ?_
    simp only [push_cast, seval, ↓reduceIte]
    refine W_sq [2] (W_regionD tab_ok [] ?_)
    simp only [push_cast, seval, ↓reduceIte, cast_lit, hN0, hN]
    refine W_ret ?_
    try simp only [gthen, gblock]
    have h := Option.some.inj h; subst h
    refine fin_loc (.inr rfl) hU [.val (.int .i64 (IntKind.i64.wrap (a0.N + (a0.L.length : Int))))] (by omega) ?_
    simp only [push_cast, seval, ↓reduceIte, cast_lit, Try.results65, hN0, hN]
theorem ok_centolaw24_units {a0 : S_api_Op} {a1 : Int} {r : (List S_centoref24_Unit)} {O : Objs} {n : Nat} (h : m_centolaw24_units a0 a1 = some r) : GTo Try.prog 105 [.agg (c_S_api_Op a0), .val (.int .i64 a1)] O n (.sl r.length (fl e_S_centoref24_Unit r)) O n := by
  unfold m_centolaw24_units at h
  refine fn_of tab_ok Try.call105 Try.func105 rfl (Nat.le_of_ble_eq_true rfl) (Nat.le_refl _) fun hU => ?_
  have hN0 : O n = none := hU.fresh _ (Nat.le_refl _)
  have hN : ∀ k, O (n + k) = none := fun k => hU.fresh _ (Nat.le_add_right _ _)
  show W _ _ _ _ ⟨9, [], [(0, .agg (c_S_api_Op a0)), (1, .val (.int .i64 a1))]⟩ (Loc O n []) _
  refine W_sq [1, 2] (W_regionD tab_ok [] ?_)
  simp only [push_cast, seval, ↓reduceIte, cast_lit, hN0, hN]
  refine W_seqK ?_
  obtain ⟨y2, hy2, h⟩ := bC h
  refine W_regionD tab_ok [] ?_
  simp only [push_cast, seval, ↓reduceIte, cast_lit, hN0, hN]
  refine GCalls.dropL (l' := [some ⟨false, 69, 14, 1, (c_S_api_Op a0)⟩, none]) hU rfl ?_ ((ok_centoref24_Units hy2).then ?_)
  · simp only [push_cast, seval, ↓reduceIte, cast_lit, hN0, hN]
  simp only [push_cast, seval, ↓reduceIte, cast_lit, hN0, hN]
  refine W_drop [4] [false, false] ?_
  simp only [push_cast, seval, ↓reduceIte]
  refine W_ret ?_
  try simp only [gthen, gblock]
  have h := Option.some.inj h; subst h
  refine fin_loc (.inr rfl) hU [.sl y2.length (fl e_S_centoref24_Unit y2)] (by omega) ?_
  simp only [push_cast, seval, ↓reduceIte, cast_lit, Try.results105, hN0, hN]
theorem ok_centoref24_Op {a0 : S_centoref24_Unit} {r : S_api_Op} {O : Objs} {n : Nat} (h : m_centoref24_Op a0 = some r) : GTo Try.prog 106 [.agg (c_S_centoref24_Unit a0)] O n (.agg (c_S_api_Op r)) O n := by
  unfold m_centoref24_Op at h
  refine fn_of tab_ok Try.call106 Try.func106 rfl (Nat.le_of_ble_eq_true rfl) (Nat.le_refl _) fun hU => ?_
  have hN0 : O n = none := hU.fresh _ (Nat.le_refl _)
  have hN : ∀ k, O (n + k) = none := fun k => hU.fresh _ (Nat.le_add_right _ _)
  show W _ _ _ _ ⟨19, [], [(0, .agg (c_S_centoref24_Unit a0))]⟩ (Loc O n []) _
  refine W_sq [1, 2] (W_regionD tab_ok [] ?_)
  simp only [push_cast, seval, ↓reduceIte, cast_lit, hN0, hN]
  refine W_seqK ?_
  refine W_sq [1, 2, 4] (W_regionD tab_ok [] ?_)
  simp only [push_cast, seval, ↓reduceIte, cast_lit, hN0, hN]
  refine W_block ?_
  refine W_sq [1, 2, 4, 5] (W_regionD tab_ok [] ?_)
  simp only [push_cast, seval, ↓reduceIte, cast_lit, hN0, hN]
  refine W_cond (t := (a0.Kind == 0)) rfl (fun c2 => ?_) (fun c2 => ?_)
  · replace h := condT c2 h
    refine W_seqK ?_
    refine W_regionD tab_ok [] ?_
    simp only [push_cast, seval, ↓reduceIte, cast_lit, hN0, hN]
    refine W_drop [2] [false, true] ?_
    simp only [push_cast, seval, ↓reduceIte]
    refine W_ret ?_
    try simp only [gthen, gblock]
    have h := Option.some.inj h; subst h
    refine fin_loc (.inr rfl) hU [.agg [.val (.int .i64 0), .val (.int .i64 1), .val (.slice none 0 0), .val (.int .i64 0), .val (.int .i64 0), .val (.slice none 0 0), .val (.slice none 0 0), .val (.int .i64 0), .val (.slice none 0 0), .val (.slice none 0 0), .val (.slice none 0 0), .val (.slice none 0 0), .val (.int .i64 0), .val (.slice none 0 0)]] (by omega) ?_
    simp only [push_cast, seval, ↓reduceIte, cast_lit, Try.results106, hN0, hN]
  · replace h := condF c2 h
    refine W_sq [1, 2, 8] (W_regionD tab_ok [] ?_)
    simp only [push_cast, seval, ↓reduceIte, cast_lit, hN0, hN]
    refine W_cond (t := (a0.Kind == 3)) rfl (fun c1 => ?_) (fun c1 => ?_)
    · replace h := condT c1 h
      refine W_seqK ?_
      refine W_regionD tab_ok [] ?_
      simp only [push_cast, seval, ↓reduceIte, cast_lit, hN0, hN]
      refine W_drop [2] [false, true] ?_
      simp only [push_cast, seval, ↓reduceIte]
      refine W_ret ?_
      try simp only [gthen, gblock]
      have h := Option.some.inj h; subst h
      refine fin_loc (.inr rfl) hU [.agg [.val (.int .i64 3), .val (.int .i64 0), .val (.slice none 0 0), .val (.int .i64 a0.E.Kind), .val (.int .i64 a0.E.Old.Kind), .sl a0.E.Old.Words.length (fl (eI .u64) a0.E.Old.Words), .sl a0.E.Old.Kids.length (fl e_S_api_Tree a0.E.Old.Kids), .val (.int .i64 a0.E.New.Kind), .sl a0.E.New.Words.length (fl (eI .u64) a0.E.New.Words), .sl a0.E.New.Kids.length (fl e_S_api_Tree a0.E.New.Kids), .sl a0.E.Words.length (fl e_S_api_WordEdit a0.E.Words), .sl a0.E.Kids.length (fl e_S_api_KidEdit a0.E.Kids), .val (.int .i64 a0.E.List_), .sl a0.E.Ops.length (fl e_S_api_Op a0.E.Ops)]] (by omega) ?_
      simp only [push_cast, seval, ↓reduceIte, cast_lit, Try.results106, hN0, hN]
    · replace h := condF c1 h
      refine W_skip ?_
      try simp only [gthen, gblock]
      refine W_drop [1, 2] [true, true] ?_
      simp only [push_cast, seval, ↓reduceIte]
      refine W_seqK ?_
      refine W_regionD tab_ok [] ?_
      simp only [push_cast, seval, ↓reduceIte, cast_lit, hN0, hN]
      refine W_fit ⟨19, [], [(2, .ref (n + 1) 0)]⟩ (Loc O n [none, some ⟨false, 69, 14, 1, [.val (.int .i64 a0.Kind), .val (.int .i64 0), .row (n + 2) ([a0.T] : List S_api_Tree).length, .val (.int .i64 0), .val (.int .i64 0), .val (.slice none 0 0), .val (.slice none 0 0), .val (.int .i64 0), .val (.slice none 0 0), .val (.slice none 0 0), .val (.slice none 0 0), .val (.slice none 0 0), .val (.int .i64 0), .val (.slice none 0 0)]⟩, some ⟨true, 25, 3, ([a0.T] : List S_api_Tree).length, fl e_S_api_Tree ([a0.T] : List S_api_Tree)⟩]) (fit_loc hU rfl rfl ?_) ?_
      · simp only [push_cast, seval, ↓reduceIte, cast_lit, hN0, hN]
      refine W_ret ?_
      try simp only [gthen, gblock]
      have h := Option.some.inj h; subst h
      refine fin_loc (.inr rfl) hU [.agg [.val (.int .i64 a0.Kind), .val (.int .i64 0), .row (n + 2) ([a0.T] : List S_api_Tree).length, .val (.int .i64 0), .val (.int .i64 0), .val (.slice none 0 0), .val (.slice none 0 0), .val (.int .i64 0), .val (.slice none 0 0), .val (.slice none 0 0), .val (.slice none 0 0), .val (.slice none 0 0), .val (.int .i64 0), .val (.slice none 0 0)]] (by omega) ?_
      simp only [push_cast, seval, ↓reduceIte, cast_lit, Try.results106, hN0, hN]
theorem ok_centoref01_Same {a0 : (List Int)} {a1 : (List Int)} {r : Bool} {O : Objs} {n : Nat} (h : m_centoref01_Same a0 a1 = some r) : GTo Try.prog 60 [.sl a0.length (fl (eI .u64) a0), .sl a1.length (fl (eI .u64) a1)] O n (.val (.bool r)) O n := by
  unfold m_centoref01_Same at h
  refine fn_of tab_ok Try.call60 Try.func60 rfl (Nat.le_of_ble_eq_true rfl) (Nat.le_refl _) fun hU => ?_
  have hN0 : O n = none := hU.fresh _ (Nat.le_refl _)
  have hN : ∀ k, O (n + k) = none := fun k => hU.fresh _ (Nat.le_add_right _ _)
  show W _ _ _ _ ⟨26, [], [(0, .sl a0.length (fl (eI .u64) a0)), (1, .sl a1.length (fl (eI .u64) a1))]⟩ (Loc O n []) _
  refine W_sq [0, 1] (W_regionD tab_ok [] ?_)
  simp only [push_cast, seval, ↓reduceIte, cast_lit, hN0, hN]
  refine W_seqK ?_
  refine W_sq [0, 1, 10] (W_regionD tab_ok [] ?_)
  simp only [push_cast, seval, ↓reduceIte, cast_lit, hN0, hN]
  refine W_cond (t := ((a0.length : Int) != (a1.length : Int))) rfl (fun c8 => ?_) (fun c8 => ?_)
  · replace h := condT c8 h
    refine W_sq [4] (W_regionD tab_ok [] ?_)
    simp only [push_cast, seval, ↓reduceIte, cast_lit, hN0, hN]
    refine W_ret ?_
    try simp only [gthen, gblock]
    have h := Option.some.inj h; subst h
    refine fin_loc (.inr rfl) hU [.val (.bool false)] (by omega) ?_
    simp only [push_cast, seval, ↓reduceIte, cast_lit, Try.results60, hN0, hN]
  · replace h := condF c8 h
    refine W_skip ?_
    try simp only [gthen, gblock]
    refine W_drop [0, 1] [] ?_
    simp only [push_cast, seval, ↓reduceIte]
    refine W_seqK ?_
    refine W_sq [0, 1, 5] (W_regionD tab_ok [] ?_)
    simp only [push_cast, seval, ↓reduceIte, cast_lit, hN0, hN]
    refine W_drop [0, 1, 5] [] ?_
    simp only [push_cast, seval, ↓reduceIte]
    obtain ⟨z7, hz7, h⟩ := bC h
    refine W_sumB (J := (SumJ (fun z7 => JR n (⟨26, [], [(4, .val (.bool false))]⟩ : Env) (Loc O n []) n) (fun z7 => JX 0 n (⟨26, [], []⟩ : Env) (Loc O n []) n))) (z := z7) ?_ fun hw => ?_
    · refine W_loopJ hz7 (fun s0_ => ⟨26, [], [(0, .sl a0.length (fl (eI .u64) a0)), (1, .sl a1.length (fl (eI .u64) a1)), (5, .val (.int .i64 s0_))]⟩) (fun s0_ => (Loc O n [])) (SumJ (fun z7 => JR n (⟨26, [], [(4, .val (.bool false))]⟩ : Env) (Loc O n []) n) (fun z7 => JX 0 n (⟨26, [], []⟩ : Env) (Loc O n []) n)) ?_
      intro s0_ x0_ hs0_
      unfold m_centoref01_Same_L0 at hs0_
      try dsimp only
      refine W_seqK ?_
      refine W_sq [0, 1, 5, 14] (W_regionD tab_ok [] ?_)
      simp only [push_cast, seval, ↓reduceIte, cast_lit, hN0, hN]
      refine W_cond (t := (decide (s0_ < (a0.length : Int)))) rfl (fun c6 => ?_) (fun c6 => ?_)
      · replace hs0_ := condT c6 hs0_
        refine W_skip ?_
        try simp only [gthen, gblock]
        refine W_drop [0, 1, 5] [] ?_
        simp only [push_cast, seval, ↓reduceIte]
        refine W_seqK ?_
        refine W_block ?_
        obtain ⟨x3, hx3, ax3, bx3, cx3, hs0_⟩ := bE (f := (eI .u64)) tab56 (fun _ => rfl) (by decide) hs0_
        obtain ⟨x4, hx4, ax4, bx4, cx4, hs0_⟩ := bE (f := (eI .u64)) tab56 (fun _ => rfl) (by decide) hs0_
        refine W_sq [0, 1, 5, 25] (W_drawD tab_ok (by kernel_rfl) [] (by kernel_rfl) ?_)
        simp only [push_cast, Nat.reduceAdd, Nat.reduceSub, Nat.reduceMul, Nat.reduceLeDiff, Nat.reduceLT, Nat.reduceEqDiff, ↓reduceIte, reduceCtorEq, Int.reduceBEq, Int.reduceBNe, Nat.reduceBEq, Int.reduceLE, Int.reduceLT, Int.reduceEq, Int.reduceNe, Int.reduceNeg, Nat.reduceDiv, Nat.reduceMod, Nat.reducePow, cast_lit, ax3, bx3, cx3, ax4, bx4, cx4, hN0, hN]
        refine W_cond (t := (x3 != x4)) rfl (fun c5 => ?_) (fun c5 => ?_)
        · replace hs0_ := condT c5 hs0_
          refine W_sq [4] (W_regionD tab_ok [] ?_)
          simp only [push_cast, seval, ↓reduceIte, cast_lit, hN0, hN]
          refine W_ret ?_
          try simp only [gthen, gblock]
          have hs0_ := Option.some.inj hs0_; subst hs0_
          refine And.intro (fun h => by cases h) (And.intro rfl (Fit2.of (fit_loc hU rfl rfl ?_) (by omega)))
          simp only [push_cast, seval, ↓reduceIte, cast_lit, hN0, hN]
        · replace hs0_ := condF c5 hs0_
          refine W_skip ?_
          try simp only [gthen, gblock]
          refine W_drop [0, 1, 5] [] ?_
          simp only [push_cast, seval, ↓reduceIte]
          refine W_regionD tab_ok [] ?_
          simp only [push_cast, seval, ↓reduceIte, cast_lit, hN0, hN]
          have hs0_ := Option.some.inj hs0_; subst hs0_
          refine And.intro rfl (Fit2.of (fit_loc hU rfl rfl ?_) (by omega))
          simp only [push_cast, seval, ↓reduceIte, cast_lit, hN0, hN]
      · replace hs0_ := condF c6 hs0_
        refine W_exit ?_
        try simp only [gthen, gblock, ↓reduceIte, Nat.reduceEqDiff]
        have hs0_ := Option.some.inj hs0_; subst hs0_
        refine And.intro (fun h => by cases h) (And.intro rfl (Fit2.of (fit_loc hU rfl rfl ?_) (by omega)))
        simp only [push_cast, seval, ↓reduceIte, cast_lit, hN0, hN]
    rcases z7 with z7 | z7
    · dsimp only [SumJ] at hw h
      refine W_blockR hw ?_
      try simp only [gthen, gblock, ↓reduceIte, Nat.reduceEqDiff]
      have h := Option.some.inj h; subst h
      refine fin_loc (.inr rfl) hU [.val (.bool false)] (by omega) ?_
      simp only [push_cast, seval, ↓reduceIte, cast_lit, Try.results60, hN0, hN]
    · dsimp only [SumJ] at hw h
      refine W_blockX hw ?_
      try simp only [gthen, gblock, ↓reduceIte, Nat.reduceEqDiff]
      refine W_drop [] [] ?_
      simp only [push_cast, seval, ↓reduceIte]
      refine W_sq [4] (W_regionD tab_ok [] ?_)
      simp only [push_cast, seval, ↓reduceIte, cast_lit, hN0, hN]
      refine W_ret ?_
      try simp only [gthen, gblock]
      have h := Option.some.inj h; subst h
      refine fin_loc (.inr rfl) hU [.val (.bool true)] (by omega) ?_
      simp only [push_cast, seval, ↓reduceIte, cast_lit, Try.results60, hN0, hN]
theorem okb_centoref07_Same {r_centoref07_Same : (S_api_Tree → S_api_Tree → Option Bool)} (ok_r_centoref07_Same : ∀ {a0 : S_api_Tree} {a1 : S_api_Tree} {r : Bool} {O : Objs} {n : Nat}, r_centoref07_Same a0 a1 = some r → GTo Try.prog 25 [.agg (c_S_api_Tree a0), .agg (c_S_api_Tree a1)] O n (.val (.bool r)) O n) {a0 : S_api_Tree} {a1 : S_api_Tree} {r : Bool} {O : Objs} {n : Nat} (h : b_centoref07_Same r_centoref07_Same a0 a1 = some r) : GTo Try.prog 25 [.agg (c_S_api_Tree a0), .agg (c_S_api_Tree a1)] O n (.val (.bool r)) O n := by
  unfold b_centoref07_Same at h
  refine fn_of tab_ok Try.call25 Try.func25 rfl (Nat.le_of_ble_eq_true rfl) (Nat.le_refl _) fun hU => ?_
  have hN0 : O n = none := hU.fresh _ (Nat.le_refl _)
  have hN : ∀ k, O (n + k) = none := fun k => hU.fresh _ (Nat.le_add_right _ _)
  show W _ _ _ _ ⟨47, [], [(0, .agg (c_S_api_Tree a0)), (1, .agg (c_S_api_Tree a1))]⟩ (Loc O n []) _
  refine W_sq [2, 3] (W_regionD tab_ok [] ?_)
  simp only [push_cast, seval, ↓reduceIte, cast_lit, hN0, hN]
  refine W_seqK ?_
  obtain ⟨z2, hz2, h⟩ := bC h
  refine W_seqN (E' := ⟨47, [], [(2, .ref n 0), (3, .ref (n + 1) 0), (27, .val (.bool z2))]⟩) (O' := (Loc O n [some ⟨false, 25, 3, 1, (c_S_api_Tree a0)⟩, some ⟨false, 25, 3, 1, (c_S_api_Tree a1)⟩])) (n0 := (n + 2)) ?_ ?_
  · rcases Bool.eq_false_or_eq_true (a0.Kind != a1.Kind) with c5 | c5
    · replace hz2 := condT c5 hz2
      refine W_regionD tab_ok [some false, some false, some false, some false, some false, some false, some false, some false, some false, some false, some false, some false, some false] ?_
      simp only [push_cast, seval, ↓reduceIte, cast_lit, c5, hN0, hN]
      have hz2 := Option.some.inj hz2; subst hz2
      refine And.intro rfl (Fit2.of (fit_loc hU rfl rfl ?_) (by omega))
      simp only [push_cast, seval, ↓reduceIte, cast_lit, c5, hN0, hN]
    · replace hz2 := condF c5 hz2
      obtain ⟨y4, hy4, hz2⟩ := bC hz2
      refine W_regionD tab_ok [some true, some true, some true, some true, some true, some true, none, none, none, none, none, none, none] ?_
      simp only [push_cast, seval, ↓reduceIte, cast_lit, c5, hN0, hN]
      repeat (with_reducible refine And.intro (by first | (intro h0; simp only [h0, and_self]; done) | (intro h0; simp only [h0, Bool.not_false, Bool.not_true, Bool.true_and, Bool.and_true, true_and, and_true, and_self, imp_self, implies_true, bne_iff_ne, ne_eq, beq_iff_eq]; done) | (intros; simp_all; done) | exact True.intro) ?_)
      refine (ok_centoref01_Same hy4).then ?_
      simp only [push_cast, seval, ↓reduceIte, cast_lit, c5, hN0, hN]
      repeat (with_reducible refine And.intro (by first | (intro h0; simp only [h0, and_self]; done) | (intro h0; simp only [h0, Bool.not_false, Bool.not_true, Bool.true_and, Bool.and_true, true_and, and_true, and_self, imp_self, implies_true, bne_iff_ne, ne_eq, beq_iff_eq]; done) | (intros; simp_all; done) | exact True.intro) ?_)
      have hz2 := Option.some.inj hz2; subst hz2
      refine And.intro rfl (Fit2.of (fit_loc hU rfl rfl ?_) (by omega))
      simp only [push_cast, seval, ↓reduceIte, cast_lit, c5, hN0, hN]
  refine W_cond (t := z2) rfl (fun c15 => ?_) (fun c15 => ?_)
  · replace h := condT c15 h
    refine W_sq [4] (W_regionD tab_ok [] ?_)
    simp only [push_cast, seval, ↓reduceIte, cast_lit, hN0, hN]
    refine W_ret ?_
    try simp only [gthen, gblock]
    have h := Option.some.inj h; subst h
    refine fin_loc (.inr rfl) hU [.val (.bool false)] (by omega) ?_
    simp only [push_cast, seval, ↓reduceIte, cast_lit, Try.results25, hN0, hN]
  · replace h := condF c15 h
    refine W_skip ?_
    try simp only [gthen, gblock]
    refine W_drop [2, 3] [true, true] ?_
    simp only [push_cast, seval, ↓reduceIte]
    refine W_seqK ?_
    refine W_sq [2, 3, 5] (W_regionD tab_ok [] ?_)
    simp only [push_cast, seval, ↓reduceIte, cast_lit, hN0, hN]
    refine W_drop [2, 3, 5] [true, true] ?_
    simp only [push_cast, seval, ↓reduceIte]
    obtain ⟨z14, hz14, h⟩ := bC h
    refine W_sumB (J := (SumJ (fun z14 => JR n (⟨47, [], [(4, .val (.bool false))]⟩ : Env) (Loc O n [none, none]) (n + 2)) (fun z14 => JX 0 n (⟨47, [], []⟩ : Env) (Loc O n [none, none]) (n + 2)))) (z := z14) ?_ fun hw => ?_
    · refine W_loopJ hz14 (fun s0_ => ⟨47, [], [(2, .ref n 0), (3, .ref (n + 1) 0), (5, .val (.int .i64 s0_))]⟩) (fun s0_ => (Loc O n [some ⟨false, 25, 3, 1, (c_S_api_Tree a0)⟩, some ⟨false, 25, 3, 1, (c_S_api_Tree a1)⟩])) (SumJ (fun z14 => JR n (⟨47, [], [(4, .val (.bool false))]⟩ : Env) (Loc O n [none, none]) (n + 2)) (fun z14 => JX 0 n (⟨47, [], []⟩ : Env) (Loc O n [none, none]) (n + 2))) ?_
      intro s0_ x0_ hs0_
      unfold b_centoref07_Same_L0 at hs0_
      try dsimp only
      refine W_seqK ?_
      refine W_sq [2, 3, 5, 32] (W_regionD tab_ok [] ?_)
      simp only [push_cast, seval, ↓reduceIte, cast_lit, hN0, hN]
      refine W_cond (t := (decide (s0_ < (a0.Kids.length : Int)))) rfl (fun c13 => ?_) (fun c13 => ?_)
      · replace hs0_ := condT c13 hs0_
        refine W_skip ?_
        try simp only [gthen, gblock]
        refine W_drop [2, 3, 5] [true, true] ?_
        simp only [push_cast, seval, ↓reduceIte]
        refine W_seqK ?_
        refine W_block ?_
        refine W_seqK ?_
        obtain ⟨x9, hx9, ax9, bx9, cx9, hs0_⟩ := bE (f := e_S_api_Tree) tab25 (fun _ => rfl) (by decide) hs0_
        obtain ⟨x10, hx10, ax10, bx10, cx10, hs0_⟩ := bE (f := e_S_api_Tree) tab25 (fun _ => rfl) (by decide) hs0_
        obtain ⟨y11, hy11, hs0_⟩ := bC hs0_
        refine W_drawD tab_ok (by kernel_rfl) [] (by kernel_rfl) ?_
        simp only [push_cast, Nat.reduceAdd, Nat.reduceSub, Nat.reduceMul, Nat.reduceLeDiff, Nat.reduceLT, Nat.reduceEqDiff, ↓reduceIte, reduceCtorEq, Int.reduceBEq, Int.reduceBNe, Nat.reduceBEq, Int.reduceLE, Int.reduceLT, Int.reduceEq, Int.reduceNe, Int.reduceNeg, Nat.reduceDiv, Nat.reduceMod, Nat.reducePow, cast_lit, ax9, bx9, cx9, ax10, bx10, cx10, hN0, hN]
        refine PCall.of (ok_r_centoref07_Same hy11) ?_
        simp only [push_cast, Nat.reduceAdd, Nat.reduceSub, Nat.reduceMul, Nat.reduceLeDiff, Nat.reduceLT, Nat.reduceEqDiff, ↓reduceIte, reduceCtorEq, Int.reduceBEq, Int.reduceBNe, Nat.reduceBEq, Int.reduceLE, Int.reduceLT, Int.reduceEq, Int.reduceNe, Int.reduceNeg, Nat.reduceDiv, Nat.reduceMod, Nat.reducePow, cast_lit, ax9, bx9, cx9, ax10, bx10, cx10, hN0, hN]
        refine W_drop [2, 3, 5, 46] [true, true] ?_
        simp only [push_cast, seval, ↓reduceIte]
        refine W_cond (t := (!y11)) rfl (fun c12 => ?_) (fun c12 => ?_)
        · replace hs0_ := condT c12 hs0_
          refine W_sq [4] (W_regionD tab_ok [] ?_)
          simp only [push_cast, seval, ↓reduceIte, cast_lit, hN0, hN]
          refine W_ret ?_
          try simp only [gthen, gblock]
          have hs0_ := Option.some.inj hs0_; subst hs0_
          refine And.intro (fun h => by cases h) (And.intro rfl (Fit2.of (fit_loc hU rfl rfl ?_) (by omega)))
          simp only [push_cast, seval, ↓reduceIte, cast_lit, hN0, hN]
        · replace hs0_ := condF c12 hs0_
          refine W_skip ?_
          try simp only [gthen, gblock]
          refine W_drop [2, 3, 5] [true, true] ?_
          simp only [push_cast, seval, ↓reduceIte]
          refine W_regionD tab_ok [] ?_
          simp only [push_cast, seval, ↓reduceIte, cast_lit, hN0, hN]
          have hs0_ := Option.some.inj hs0_; subst hs0_
          refine And.intro rfl (Fit2.of (fit_loc hU rfl rfl ?_) (by omega))
          simp only [push_cast, seval, ↓reduceIte, cast_lit, hN0, hN]
      · replace hs0_ := condF c13 hs0_
        refine W_exit ?_
        try simp only [gthen, gblock, ↓reduceIte, Nat.reduceEqDiff]
        have hs0_ := Option.some.inj hs0_; subst hs0_
        refine And.intro (fun h => by cases h) (And.intro rfl (Fit2.of (fit_loc hU rfl rfl ?_) (by omega)))
        simp only [push_cast, seval, ↓reduceIte, cast_lit, hN0, hN]
    rcases z14 with z14 | z14
    · dsimp only [SumJ] at hw h
      refine W_blockR hw ?_
      try simp only [gthen, gblock, ↓reduceIte, Nat.reduceEqDiff]
      have h := Option.some.inj h; subst h
      refine fin_loc (.inr rfl) hU [.val (.bool false)] (by omega) ?_
      simp only [push_cast, seval, ↓reduceIte, cast_lit, Try.results25, hN0, hN]
    · dsimp only [SumJ] at hw h
      refine W_blockX hw ?_
      try simp only [gthen, gblock, ↓reduceIte, Nat.reduceEqDiff]
      refine W_drop [] [false, false] ?_
      simp only [push_cast, seval, ↓reduceIte]
      refine W_sq [4] (W_regionD tab_ok [] ?_)
      simp only [push_cast, seval, ↓reduceIte, cast_lit, hN0, hN]
      refine W_ret ?_
      try simp only [gthen, gblock]
      have h := Option.some.inj h; subst h
      refine fin_loc (.inr rfl) hU [.val (.bool true)] (by omega) ?_
      simp only [push_cast, seval, ↓reduceIte, cast_lit, Try.results25, hN0, hN]
theorem lv_centoref07_Same_ok : ∀ k, (∀ {a0 : S_api_Tree} {a1 : S_api_Tree} {r : Bool} {O : Objs} {n : Nat}, (lv_centoref07_Same k) a0 a1 = some r → GTo Try.prog 25 [.agg (c_S_api_Tree a0), .agg (c_S_api_Tree a1)] O n (.val (.bool r)) O n) := fun k => by
  induction k with
  | zero => exact @fun a0 a1 r O n h => (nomatch (show (none : Option _) = some _ from h))
  | succ k ih => exact @fun a0 a1 r O n h => okb_centoref07_Same (ih)  h
theorem ok_centoref07_Same {a0 : S_api_Tree} {a1 : S_api_Tree} {r : Bool} {O : Objs} {n : Nat} (h : m_centoref07_Same a0 a1 = some r) : GTo Try.prog 25 [.agg (c_S_api_Tree a0), .agg (c_S_api_Tree a1)] O n (.val (.bool r)) O n := by
  obtain ⟨k, hk⟩ := lim_some h
  exact (lv_centoref07_Same_ok k)  hk
theorem ok_centoref22_sameTrees {a0 : (List S_api_Tree)} {a1 : (List S_api_Tree)} {r : Bool} {O : Objs} {n : Nat} (h : m_centoref22_sameTrees a0 a1 = some r) : GTo Try.prog 52 [.sl a0.length (fl e_S_api_Tree a0), .sl a1.length (fl e_S_api_Tree a1)] O n (.val (.bool r)) O n := by
  unfold m_centoref22_sameTrees at h
  refine fn_of tab_ok Try.call52 Try.func52 rfl (Nat.le_of_ble_eq_true rfl) (Nat.le_refl _) fun hU => ?_
  have hN0 : O n = none := hU.fresh _ (Nat.le_refl _)
  have hN : ∀ k, O (n + k) = none := fun k => hU.fresh _ (Nat.le_add_right _ _)
  show W _ _ _ _ ⟨27, [], [(0, .sl a0.length (fl e_S_api_Tree a0)), (1, .sl a1.length (fl e_S_api_Tree a1))]⟩ (Loc O n []) _
  refine W_sq [0, 1] (W_regionD tab_ok [] ?_)
  simp only [push_cast, seval, ↓reduceIte, cast_lit, hN0, hN]
  refine W_seqK ?_
  refine W_sq [0, 1, 10] (W_regionD tab_ok [] ?_)
  simp only [push_cast, seval, ↓reduceIte, cast_lit, hN0, hN]
  refine W_cond (t := ((a0.length : Int) != (a1.length : Int))) rfl (fun c10 => ?_) (fun c10 => ?_)
  · replace h := condT c10 h
    refine W_sq [4] (W_regionD tab_ok [] ?_)
    simp only [push_cast, seval, ↓reduceIte, cast_lit, hN0, hN]
    refine W_ret ?_
    try simp only [gthen, gblock]
    have h := Option.some.inj h; subst h
    refine fin_loc (.inr rfl) hU [.val (.bool false)] (by omega) ?_
    simp only [push_cast, seval, ↓reduceIte, cast_lit, Try.results52, hN0, hN]
  · replace h := condF c10 h
    refine W_skip ?_
    try simp only [gthen, gblock]
    refine W_drop [0, 1] [] ?_
    simp only [push_cast, seval, ↓reduceIte]
    refine W_seqK ?_
    refine W_sq [0, 1, 5] (W_regionD tab_ok [] ?_)
    simp only [push_cast, seval, ↓reduceIte, cast_lit, hN0, hN]
    refine W_drop [0, 1, 5] [] ?_
    simp only [push_cast, seval, ↓reduceIte]
    obtain ⟨z9, hz9, h⟩ := bC h
    refine W_sumB (J := (SumJ (fun z9 => JR n (⟨27, [], [(4, .val (.bool false))]⟩ : Env) (Loc O n []) n) (fun z9 => JX 0 n (⟨27, [], []⟩ : Env) (Loc O n []) n))) (z := z9) ?_ fun hw => ?_
    · refine W_loopJ hz9 (fun s0_ => ⟨27, [], [(0, .sl a0.length (fl e_S_api_Tree a0)), (1, .sl a1.length (fl e_S_api_Tree a1)), (5, .val (.int .i64 s0_))]⟩) (fun s0_ => (Loc O n [])) (SumJ (fun z9 => JR n (⟨27, [], [(4, .val (.bool false))]⟩ : Env) (Loc O n []) n) (fun z9 => JX 0 n (⟨27, [], []⟩ : Env) (Loc O n []) n)) ?_
      intro s0_ x0_ hs0_
      unfold m_centoref22_sameTrees_L0 at hs0_
      try dsimp only
      refine W_seqK ?_
      refine W_sq [0, 1, 5, 14] (W_regionD tab_ok [] ?_)
      simp only [push_cast, seval, ↓reduceIte, cast_lit, hN0, hN]
      refine W_cond (t := (decide (s0_ < (a0.length : Int)))) rfl (fun c8 => ?_) (fun c8 => ?_)
      · replace hs0_ := condT c8 hs0_
        refine W_skip ?_
        try simp only [gthen, gblock]
        refine W_drop [0, 1, 5] [] ?_
        simp only [push_cast, seval, ↓reduceIte]
        refine W_seqK ?_
        refine W_block ?_
        refine W_seqK ?_
        obtain ⟨x4, hx4, ax4, bx4, cx4, hs0_⟩ := bE (f := e_S_api_Tree) tab25 (fun _ => rfl) (by decide) hs0_
        obtain ⟨x5, hx5, ax5, bx5, cx5, hs0_⟩ := bE (f := e_S_api_Tree) tab25 (fun _ => rfl) (by decide) hs0_
        obtain ⟨y6, hy6, hs0_⟩ := bC hs0_
        refine W_drawD tab_ok (by kernel_rfl) [] (by kernel_rfl) ?_
        simp only [push_cast, Nat.reduceAdd, Nat.reduceSub, Nat.reduceMul, Nat.reduceLeDiff, Nat.reduceLT, Nat.reduceEqDiff, ↓reduceIte, reduceCtorEq, Int.reduceBEq, Int.reduceBNe, Nat.reduceBEq, Int.reduceLE, Int.reduceLT, Int.reduceEq, Int.reduceNe, Int.reduceNeg, Nat.reduceDiv, Nat.reduceMod, Nat.reducePow, cast_lit, ax4, bx4, cx4, ax5, bx5, cx5, hN0, hN]
        refine PCall.of (ok_centoref07_Same hy6) ?_
        simp only [push_cast, Nat.reduceAdd, Nat.reduceSub, Nat.reduceMul, Nat.reduceLeDiff, Nat.reduceLT, Nat.reduceEqDiff, ↓reduceIte, reduceCtorEq, Int.reduceBEq, Int.reduceBNe, Nat.reduceBEq, Int.reduceLE, Int.reduceLT, Int.reduceEq, Int.reduceNe, Int.reduceNeg, Nat.reduceDiv, Nat.reduceMod, Nat.reducePow, cast_lit, ax4, bx4, cx4, ax5, bx5, cx5, hN0, hN]
        refine W_drop [0, 1, 5, 26] [] ?_
        simp only [push_cast, seval, ↓reduceIte]
        refine W_cond (t := (!y6)) rfl (fun c7 => ?_) (fun c7 => ?_)
        · replace hs0_ := condT c7 hs0_
          refine W_sq [4] (W_regionD tab_ok [] ?_)
          simp only [push_cast, seval, ↓reduceIte, cast_lit, hN0, hN]
          refine W_ret ?_
          try simp only [gthen, gblock]
          have hs0_ := Option.some.inj hs0_; subst hs0_
          refine And.intro (fun h => by cases h) (And.intro rfl (Fit2.of (fit_loc hU rfl rfl ?_) (by omega)))
          simp only [push_cast, seval, ↓reduceIte, cast_lit, hN0, hN]
        · replace hs0_ := condF c7 hs0_
          refine W_skip ?_
          try simp only [gthen, gblock]
          refine W_drop [0, 1, 5] [] ?_
          simp only [push_cast, seval, ↓reduceIte]
          refine W_regionD tab_ok [] ?_
          simp only [push_cast, seval, ↓reduceIte, cast_lit, hN0, hN]
          have hs0_ := Option.some.inj hs0_; subst hs0_
          refine And.intro rfl (Fit2.of (fit_loc hU rfl rfl ?_) (by omega))
          simp only [push_cast, seval, ↓reduceIte, cast_lit, hN0, hN]
      · replace hs0_ := condF c8 hs0_
        refine W_exit ?_
        try simp only [gthen, gblock, ↓reduceIte, Nat.reduceEqDiff]
        have hs0_ := Option.some.inj hs0_; subst hs0_
        refine And.intro (fun h => by cases h) (And.intro rfl (Fit2.of (fit_loc hU rfl rfl ?_) (by omega)))
        simp only [push_cast, seval, ↓reduceIte, cast_lit, hN0, hN]
    rcases z9 with z9 | z9
    · dsimp only [SumJ] at hw h
      refine W_blockR hw ?_
      try simp only [gthen, gblock, ↓reduceIte, Nat.reduceEqDiff]
      have h := Option.some.inj h; subst h
      refine fin_loc (.inr rfl) hU [.val (.bool false)] (by omega) ?_
      simp only [push_cast, seval, ↓reduceIte, cast_lit, Try.results52, hN0, hN]
    · dsimp only [SumJ] at hw h
      refine W_blockX hw ?_
      try simp only [gthen, gblock, ↓reduceIte, Nat.reduceEqDiff]
      refine W_drop [] [] ?_
      simp only [push_cast, seval, ↓reduceIte]
      refine W_sq [4] (W_regionD tab_ok [] ?_)
      simp only [push_cast, seval, ↓reduceIte, cast_lit, hN0, hN]
      refine W_ret ?_
      try simp only [gthen, gblock]
      have h := Option.some.inj h; subst h
      refine fin_loc (.inr rfl) hU [.val (.bool true)] (by omega) ?_
      simp only [push_cast, seval, ↓reduceIte, cast_lit, Try.results52, hN0, hN]
theorem okb_centoref22_Same {r_centoref22_Same : (S_api_Edit → S_api_Edit → Option Bool)} (ok_r_centoref22_Same : ∀ {a0 : S_api_Edit} {a1 : S_api_Edit} {r : Bool} {O : Objs} {n : Nat}, r_centoref22_Same a0 a1 = some r → GTo Try.prog 17 [.agg (c_S_api_Edit a0), .agg (c_S_api_Edit a1)] O n (.val (.bool r)) O n) {a0 : S_api_Edit} {a1 : S_api_Edit} {r : Bool} {O : Objs} {n : Nat} (h : b_centoref22_Same r_centoref22_Same a0 a1 = some r) : GTo Try.prog 17 [.agg (c_S_api_Edit a0), .agg (c_S_api_Edit a1)] O n (.val (.bool r)) O n := by
  unfold b_centoref22_Same at h
  refine fn_of tab_ok Try.call17 Try.func17 rfl (Nat.le_of_ble_eq_true rfl) (Nat.le_refl _) fun hU => ?_
  have hN0 : O n = none := hU.fresh _ (Nat.le_refl _)
  have hN : ∀ k, O (n + k) = none := fun k => hU.fresh _ (Nat.le_add_right _ _)
  show W _ _ _ _ ⟨164, [], [(0, .agg (c_S_api_Edit a0)), (1, .agg (c_S_api_Edit a1))]⟩ (Loc O n []) _
  refine W_sq [2, 3] (W_regionD tab_ok [] ?_)
  simp only [push_cast, seval, ↓reduceIte, cast_lit, hN0, hN]
  refine W_seqK ?_
  obtain ⟨z3, hz3, h⟩ := bC h
  refine W_seqN (E' := ⟨164, [], [(2, .ref n 0), (3, .ref (n + 1) 0), (64, .val (.bool z3))]⟩) (O' := (Loc O n [some ⟨false, 30, 11, 1, (c_S_api_Edit a0)⟩, some ⟨false, 30, 11, 1, (c_S_api_Edit a1)⟩])) (n0 := (n + 2)) ?_ ?_
  · rcases Bool.eq_false_or_eq_true (a0.Kind != a1.Kind) with c8 | c8
    · replace hz3 := condT c8 hz3
      refine W_regionD tab_ok [none, none, none, none, none, some false, some false, some false, some false, some false, some false, some false, some false, some false, some false, some false, some false, some false, some false, some false, some false, some false, some false, some false, some false, some false, some false, some false, some false, some false, some false, some false, some false, some false, some false, some false, some false, some false] ?_
      simp only [push_cast, seval, ↓reduceIte, cast_lit, c8, hN0, hN]
      repeat (with_reducible refine And.intro (by first | (intro h0; simp only [h0, and_self]; done) | (intro h0; simp only [h0, Bool.not_false, Bool.not_true, Bool.true_and, Bool.and_true, true_and, and_true, and_self, imp_self, implies_true, bne_iff_ne, ne_eq, beq_iff_eq]; done) | (intros; simp_all; done) | exact True.intro) ?_)
      have hz3 := Option.some.inj hz3; subst hz3
      refine And.intro rfl (Fit2.of (fit_loc hU rfl rfl ?_) (by omega))
      simp only [push_cast, seval, ↓reduceIte, cast_lit, c8, hN0, hN]
    · replace hz3 := condF c8 hz3
      rcases Bool.eq_false_or_eq_true (a0.List_ != a1.List_) with c9 | c9
      · replace hz3 := condT c9 hz3
        try rw [c9] at c8
        refine W_regionD tab_ok [none, none, none, none, none, some false, some false, some false, some false, some false, some false, some false, some false, some false, some false, some false, some false, some false, some false, some false, some false, some false, some false, some false, some false, some false, some false, some false, some false, some false, some false, some false, some false, some false, some false, some false, some false, some false] ?_
        simp only [push_cast, seval, ↓reduceIte, cast_lit, c8, c9, hN0, hN]
        repeat (with_reducible refine And.intro (by first | (intro h0; simp only [h0, and_self]; done) | (intro h0; simp only [h0, Bool.not_false, Bool.not_true, Bool.true_and, Bool.and_true, true_and, and_true, and_self, imp_self, implies_true, bne_iff_ne, ne_eq, beq_iff_eq]; done) | (intros; simp_all; done) | exact True.intro) ?_)
        have hz3 := Option.some.inj hz3; subst hz3
        refine And.intro rfl (Fit2.of (fit_loc hU rfl rfl ?_) (by omega))
        simp only [push_cast, seval, ↓reduceIte, cast_lit, c8, c9, hN0, hN]
      · replace hz3 := condF c9 hz3
        try rw [c9] at c8
        obtain ⟨y6, hy6, hz3⟩ := bC hz3
        rcases Bool.eq_false_or_eq_true y6 with c10 | c10
        · replace hz3 := condT c10 hz3
          try rw [c10] at c8
          try rw [c10] at c9
          obtain ⟨y7, hy7, hz3⟩ := bC hz3
          refine W_regionD tab_ok [none, none, none, none, none, some true, some true, some true, some true, some true, some true, some true, some true, some true, some true, some true, some true, none, none, none, none, none, none, none, none, none, none, none, none, none, none, none, none, none, none, none, none, none] ?_
          simp only [push_cast, seval, ↓reduceIte, cast_lit, c8, c9, c10, hN0, hN]
          repeat (with_reducible refine And.intro (by first | (intro h0; simp only [h0, and_self]; done) | (intro h0; simp only [h0, Bool.not_false, Bool.not_true, Bool.true_and, Bool.and_true, true_and, and_true, and_self, imp_self, implies_true, bne_iff_ne, ne_eq, beq_iff_eq]; done) | (intros; simp_all; done) | exact True.intro) ?_)
          refine (ok_centoref07_Same hy6).then ?_
          simp only [push_cast, seval, ↓reduceIte, cast_lit, c8, c9, c10, hN0, hN]
          repeat (with_reducible refine And.intro (by first | (intro h0; simp only [h0, and_self]; done) | (intro h0; simp only [h0, Bool.not_false, Bool.not_true, Bool.true_and, Bool.and_true, true_and, and_true, and_self, imp_self, implies_true, bne_iff_ne, ne_eq, beq_iff_eq]; done) | (intros; simp_all; done) | exact True.intro) ?_)
          refine (ok_centoref07_Same hy7).then ?_
          simp only [push_cast, seval, ↓reduceIte, cast_lit, c8, c9, c10, hN0, hN]
          repeat (with_reducible refine And.intro (by first | (intro h0; simp only [h0, and_self]; done) | (intro h0; simp only [h0, Bool.not_false, Bool.not_true, Bool.true_and, Bool.and_true, true_and, and_true, and_self, imp_self, implies_true, bne_iff_ne, ne_eq, beq_iff_eq]; done) | (intros; simp_all; done) | exact True.intro) ?_)
          have hz3 := Option.some.inj hz3; subst hz3
          refine And.intro rfl (Fit2.of (fit_loc hU rfl rfl ?_) (by omega))
          simp only [push_cast, seval, ↓reduceIte, cast_lit, c8, c9, c10, hN0, hN]
        · replace hz3 := condF c10 hz3
          try rw [c10] at c8
          try rw [c10] at c9
          refine W_regionD tab_ok [none, none, none, none, none, some true, some true, some true, some true, some true, some true, some false, some false, some false, some false, some false, some false, some false, some false, some false, some false, some false, some false, some false, some false, some false, some false, some false, some false, some false, some false, some false, some false, some false, some false, some false, some false, some false] ?_
          simp only [push_cast, seval, ↓reduceIte, cast_lit, c8, c9, c10, hN0, hN]
          repeat (with_reducible refine And.intro (by first | (intro h0; simp only [h0, and_self]; done) | (intro h0; simp only [h0, Bool.not_false, Bool.not_true, Bool.true_and, Bool.and_true, true_and, and_true, and_self, imp_self, implies_true, bne_iff_ne, ne_eq, beq_iff_eq]; done) | (intros; simp_all; done) | exact True.intro) ?_)
          refine (ok_centoref07_Same hy6).then ?_
          simp only [push_cast, seval, ↓reduceIte, cast_lit, c8, c9, c10, hN0, hN]
          repeat (with_reducible refine And.intro (by first | (intro h0; simp only [h0, and_self]; done) | (intro h0; simp only [h0, Bool.not_false, Bool.not_true, Bool.true_and, Bool.and_true, true_and, and_true, and_self, imp_self, implies_true, bne_iff_ne, ne_eq, beq_iff_eq]; done) | (intros; simp_all; done) | exact True.intro) ?_)
          have hz3 := Option.some.inj hz3; subst hz3
          refine And.intro rfl (Fit2.of (fit_loc hU rfl rfl ?_) (by omega))
          simp only [push_cast, seval, ↓reduceIte, cast_lit, c8, c9, c10, hN0, hN]
  refine W_cond (t := z3) rfl (fun c65 => ?_) (fun c65 => ?_)
  · replace h := condT c65 h
    refine W_sq [4] (W_regionD tab_ok [] ?_)
    simp only [push_cast, seval, ↓reduceIte, cast_lit, hN0, hN]
    refine W_ret ?_
    try simp only [gthen, gblock]
    have h := Option.some.inj h; subst h
    refine fin_loc (.inr rfl) hU [.val (.bool false)] (by omega) ?_
    simp only [push_cast, seval, ↓reduceIte, cast_lit, Try.results17, hN0, hN]
  · replace h := condF c65 h
    refine W_skip ?_
    try simp only [gthen, gblock]
    refine W_drop [2, 3] [true, true] ?_
    simp only [push_cast, seval, ↓reduceIte]
    refine W_seqK ?_
    refine W_sq [2, 3, 5] (W_regionD tab_ok [] ?_)
    simp only [push_cast, seval, ↓reduceIte, cast_lit, hN0, hN]
    refine W_drop [2, 3, 5] [true, true] ?_
    simp only [push_cast, seval, ↓reduceIte]
    obtain ⟨z17, hz17, h⟩ := bC h
    refine W_sumB (J := (SumJ (fun z17 => JR n (⟨164, [], [(4, .val (.bool false))]⟩ : Env) (Loc O n [none, none]) (n + 2)) (fun z17 => JX 0 n (⟨164, [], [(2, .ref n 0), (3, .ref (n + 1) 0)]⟩ : Env) (Loc O n [some ⟨false, 30, 11, 1, (c_S_api_Edit a0)⟩, some ⟨false, 30, 11, 1, (c_S_api_Edit a1)⟩]) (n + 2)))) (z := z17) ?_ fun hw => ?_
    · refine W_loopJ hz17 (fun s0_ => ⟨164, [], [(2, .ref n 0), (3, .ref (n + 1) 0), (5, .val (.int .i64 s0_))]⟩) (fun s0_ => (Loc O n [some ⟨false, 30, 11, 1, (c_S_api_Edit a0)⟩, some ⟨false, 30, 11, 1, (c_S_api_Edit a1)⟩])) (SumJ (fun z17 => JR n (⟨164, [], [(4, .val (.bool false))]⟩ : Env) (Loc O n [none, none]) (n + 2)) (fun z17 => JX 0 n (⟨164, [], [(2, .ref n 0), (3, .ref (n + 1) 0)]⟩ : Env) (Loc O n [some ⟨false, 30, 11, 1, (c_S_api_Edit a0)⟩, some ⟨false, 30, 11, 1, (c_S_api_Edit a1)⟩]) (n + 2))) ?_
      intro s0_ x0_ hs0_
      unfold b_centoref22_Same_L0 at hs0_
      try dsimp only
      refine W_seqK ?_
      refine W_sq [2, 3, 5, 69] (W_regionD tab_ok [] ?_)
      simp only [push_cast, seval, ↓reduceIte, cast_lit, hN0, hN]
      refine W_cond (t := (decide (s0_ < (a0.Words.length : Int)))) rfl (fun c16 => ?_) (fun c16 => ?_)
      · replace hs0_ := condT c16 hs0_
        refine W_skip ?_
        try simp only [gthen, gblock]
        refine W_drop [2, 3, 5] [true, true] ?_
        simp only [push_cast, seval, ↓reduceIte]
        refine W_seqK ?_
        refine W_block ?_
        obtain ⟨x13, hx13, ax13, bx13, cx13, hs0_⟩ := bE (f := e_S_api_WordEdit) tab58 (fun _ => rfl) (by decide) hs0_
        obtain ⟨x14, hx14, ax14, bx14, cx14, hs0_⟩ := bE (f := e_S_api_WordEdit) tab58 (fun _ => rfl) (by decide) hs0_
        refine W_sq [2, 3, 5, 82] (W_drawD tab_ok (by kernel_rfl) [] (by kernel_rfl) ?_)
        simp only [push_cast, Nat.reduceAdd, Nat.reduceSub, Nat.reduceMul, Nat.reduceLeDiff, Nat.reduceLT, Nat.reduceEqDiff, ↓reduceIte, reduceCtorEq, Int.reduceBEq, Int.reduceBNe, Nat.reduceBEq, Int.reduceLE, Int.reduceLT, Int.reduceEq, Int.reduceNe, Int.reduceNeg, Nat.reduceDiv, Nat.reduceMod, Nat.reducePow, cast_lit, ax13, bx13, cx13, ax14, bx14, cx14, hN0, hN]
        refine W_cond (t := (!((x13.At == x14.At) && ((x13.Mask == x14.Mask) && ((x13.Old == x14.Old) && (x13.New == x14.New)))))) rfl (fun c15 => ?_) (fun c15 => ?_)
        · replace hs0_ := condT c15 hs0_
          refine W_sq [4] (W_regionD tab_ok [] ?_)
          simp only [push_cast, seval, ↓reduceIte, cast_lit, hN0, hN]
          refine W_ret ?_
          try simp only [gthen, gblock]
          have hs0_ := Option.some.inj hs0_; subst hs0_
          refine And.intro (fun h => by cases h) (And.intro rfl (Fit2.of (fit_loc hU rfl rfl ?_) (by omega)))
          simp only [push_cast, seval, ↓reduceIte, cast_lit, hN0, hN]
        · replace hs0_ := condF c15 hs0_
          refine W_skip ?_
          try simp only [gthen, gblock]
          refine W_drop [2, 3, 5] [true, true] ?_
          simp only [push_cast, seval, ↓reduceIte]
          refine W_regionD tab_ok [] ?_
          simp only [push_cast, seval, ↓reduceIte, cast_lit, hN0, hN]
          have hs0_ := Option.some.inj hs0_; subst hs0_
          refine And.intro rfl (Fit2.of (fit_loc hU rfl rfl ?_) (by omega))
          simp only [push_cast, seval, ↓reduceIte, cast_lit, hN0, hN]
      · replace hs0_ := condF c16 hs0_
        refine W_exit ?_
        try simp only [gthen, gblock, ↓reduceIte, Nat.reduceEqDiff]
        have hs0_ := Option.some.inj hs0_; subst hs0_
        refine And.intro (fun h => by cases h) (And.intro rfl (Fit2.of (fit_loc hU rfl rfl ?_) (by omega)))
        simp only [push_cast, seval, ↓reduceIte, cast_lit, hN0, hN]
    rcases z17 with z17 | z17
    · dsimp only [SumJ] at hw h
      refine W_blockR hw ?_
      try simp only [gthen, gblock, ↓reduceIte, Nat.reduceEqDiff]
      have h := Option.some.inj h; subst h
      refine fin_loc (.inr rfl) hU [.val (.bool false)] (by omega) ?_
      simp only [push_cast, seval, ↓reduceIte, cast_lit, Try.results17, hN0, hN]
    · dsimp only [SumJ] at hw h
      refine W_blockX hw ?_
      try simp only [gthen, gblock, ↓reduceIte, Nat.reduceEqDiff]
      refine W_drop [2, 3] [true, true] ?_
      simp only [push_cast, seval, ↓reduceIte]
      refine W_seqK ?_
      refine W_sq [2, 3, 6] (W_regionD tab_ok [] ?_)
      simp only [push_cast, seval, ↓reduceIte, cast_lit, hN0, hN]
      refine W_drop [2, 3, 6] [true, true] ?_
      simp only [push_cast, seval, ↓reduceIte]
      obtain ⟨z49, hz49, h⟩ := bC h
      refine W_sumB (J := (SumJ (fun z49 => JR n (⟨164, [], [(4, .val (.bool false))]⟩ : Env) (Loc O n [none, none]) (n + 2)) (fun z49 => JX 2 n (⟨164, [], [(2, .ref n 0), (3, .ref (n + 1) 0)]⟩ : Env) (Loc O n [some ⟨false, 30, 11, 1, (c_S_api_Edit a0)⟩, some ⟨false, 30, 11, 1, (c_S_api_Edit a1)⟩]) (n + 2)))) (z := z49) ?_ fun hw => ?_
      · refine W_loopJ hz49 (fun s1_ => ⟨164, [], [(2, .ref n 0), (3, .ref (n + 1) 0), (6, .val (.int .i64 s1_))]⟩) (fun s1_ => (Loc O n [some ⟨false, 30, 11, 1, (c_S_api_Edit a0)⟩, some ⟨false, 30, 11, 1, (c_S_api_Edit a1)⟩])) (SumJ (fun z49 => JR n (⟨164, [], [(4, .val (.bool false))]⟩ : Env) (Loc O n [none, none]) (n + 2)) (fun z49 => JX 2 n (⟨164, [], [(2, .ref n 0), (3, .ref (n + 1) 0)]⟩ : Env) (Loc O n [some ⟨false, 30, 11, 1, (c_S_api_Edit a0)⟩, some ⟨false, 30, 11, 1, (c_S_api_Edit a1)⟩]) (n + 2))) ?_
        intro s1_ x1_ hs1_
        unfold b_centoref22_Same_L1 at hs1_
        try dsimp only
        refine W_seqK ?_
        refine W_sq [2, 3, 6, 87] (W_regionD tab_ok [] ?_)
        simp only [push_cast, seval, ↓reduceIte, cast_lit, hN0, hN]
        refine W_cond (t := (decide (s1_ < (a0.Kids.length : Int)))) rfl (fun c48 => ?_) (fun c48 => ?_)
        · replace hs1_ := condT c48 hs1_
          refine W_skip ?_
          try simp only [gthen, gblock]
          refine W_drop [2, 3, 6] [true, true] ?_
          simp only [push_cast, seval, ↓reduceIte]
          refine W_seqK ?_
          refine W_block ?_
          obtain ⟨z27, hz27, hs1_⟩ := bC hs1_
          refine W_seqN (E' := ⟨164, [], [(2, .ref n 0), (3, .ref (n + 1) 0), (6, .val (.int .i64 s1_)), (118, .val (.bool z27))]⟩) (O' := (Loc O n [some ⟨false, 30, 11, 1, (c_S_api_Edit a0)⟩, some ⟨false, 30, 11, 1, (c_S_api_Edit a1)⟩])) (n0 := (n + 2)) ?_ ?_
          · obtain ⟨x37, hx37, ax37, bx37, cx37, hz27⟩ := bE (f := e_S_api_KidEdit) tab71 (fun _ => rfl) (by decide) hz27
            have g38 := gpart_fld0 (f := e_S_api_KidEdit) (sz := 12) tab3 (fun _ => rfl) (by decide) (by decide) hx37
            obtain ⟨x39, hx39, ax39, bx39, cx39, hz27⟩ := bE (f := e_S_api_KidEdit) tab71 (fun _ => rfl) (by decide) hz27
            have g40 := gpart_fld0 (f := e_S_api_KidEdit) (sz := 12) tab3 (fun _ => rfl) (by decide) (by decide) hx39
            rcases Bool.eq_false_or_eq_true (x37.At != x39.At) with c46 | c46
            · replace hz27 := condT c46 hz27
              refine W_drawD tab_ok (by kernel_rfl) [some false, some false, some false, some false, some false, some false, some false, some false, some false, some false, some false, some false, some false, some false] (by kernel_rfl) ?_
              simp only [push_cast, Nat.reduceAdd, Nat.reduceSub, Nat.reduceMul, Nat.reduceLeDiff, Nat.reduceLT, Nat.reduceEqDiff, ↓reduceIte, reduceCtorEq, Int.reduceBEq, Int.reduceBNe, Nat.reduceBEq, Int.reduceLE, Int.reduceLT, Int.reduceEq, Int.reduceNe, Int.reduceNeg, Nat.reduceDiv, Nat.reduceMod, Nat.reducePow, cast_lit, ax37, bx37, cx37, g38, ax39, bx39, cx39, g40, c46, hN0, hN]
              have hz27 := Option.some.inj hz27; subst hz27
              refine And.intro rfl (Fit2.of (fit_loc hU rfl rfl ?_) (by omega))
              simp only [push_cast, Nat.reduceAdd, Nat.reduceSub, Nat.reduceMul, Nat.reduceLeDiff, Nat.reduceLT, Nat.reduceEqDiff, ↓reduceIte, reduceCtorEq, Int.reduceBEq, Int.reduceBNe, Nat.reduceBEq, Int.reduceLE, Int.reduceLT, Int.reduceEq, Int.reduceNe, Int.reduceNeg, Nat.reduceDiv, Nat.reduceMod, Nat.reducePow, cast_lit, ax37, bx37, cx37, g38, ax39, bx39, cx39, g40, c46, hN0, hN]
            · replace hz27 := condF c46 hz27
              have g42 := gpart_fld (f := e_S_api_KidEdit) (off := 1) (sz := 12) tab30 (fun _ => rfl) (by decide) (by decide) hx37
              have g44 := gpart_fld (f := e_S_api_KidEdit) (off := 1) (sz := 12) tab30 (fun _ => rfl) (by decide) (by decide) hx39
              obtain ⟨y45, hy45, hz27⟩ := bC hz27
              refine W_drawD tab_ok (by kernel_rfl) [some true, some true, some true, some true, some true, some true, some true, some true, some true, some true, some true, some true, some true, some true] (by kernel_rfl) ?_
              simp only [push_cast, Nat.reduceAdd, Nat.reduceSub, Nat.reduceMul, Nat.reduceLeDiff, Nat.reduceLT, Nat.reduceEqDiff, ↓reduceIte, reduceCtorEq, Int.reduceBEq, Int.reduceBNe, Nat.reduceBEq, Int.reduceLE, Int.reduceLT, Int.reduceEq, Int.reduceNe, Int.reduceNeg, Nat.reduceDiv, Nat.reduceMod, Nat.reducePow, cast_lit, ax37, bx37, cx37, g38, ax39, bx39, cx39, g40, c46, g42, g44, hN0, hN]
              refine PCall.of (ok_r_centoref22_Same hy45) ?_
              simp only [push_cast, Nat.reduceAdd, Nat.reduceSub, Nat.reduceMul, Nat.reduceLeDiff, Nat.reduceLT, Nat.reduceEqDiff, ↓reduceIte, reduceCtorEq, Int.reduceBEq, Int.reduceBNe, Nat.reduceBEq, Int.reduceLE, Int.reduceLT, Int.reduceEq, Int.reduceNe, Int.reduceNeg, Nat.reduceDiv, Nat.reduceMod, Nat.reducePow, cast_lit, ax37, bx37, cx37, g38, ax39, bx39, cx39, g40, c46, g42, g44, hN0, hN]
              have hz27 := Option.some.inj hz27; subst hz27
              refine And.intro rfl (Fit2.of (fit_loc hU rfl rfl ?_) (by omega))
              simp only [push_cast, Nat.reduceAdd, Nat.reduceSub, Nat.reduceMul, Nat.reduceLeDiff, Nat.reduceLT, Nat.reduceEqDiff, ↓reduceIte, reduceCtorEq, Int.reduceBEq, Int.reduceBNe, Nat.reduceBEq, Int.reduceLE, Int.reduceLT, Int.reduceEq, Int.reduceNe, Int.reduceNeg, Nat.reduceDiv, Nat.reduceMod, Nat.reducePow, cast_lit, ax37, bx37, cx37, g38, ax39, bx39, cx39, g40, c46, g42, g44, hN0, hN]
          refine W_cond (t := z27) rfl (fun c47 => ?_) (fun c47 => ?_)
          · replace hs1_ := condT c47 hs1_
            refine W_sq [4] (W_regionD tab_ok [] ?_)
            simp only [push_cast, seval, ↓reduceIte, cast_lit, hN0, hN]
            refine W_ret ?_
            try simp only [gthen, gblock]
            have hs1_ := Option.some.inj hs1_; subst hs1_
            refine And.intro (fun h => by cases h) (And.intro rfl (Fit2.of (fit_loc hU rfl rfl ?_) (by omega)))
            simp only [push_cast, seval, ↓reduceIte, cast_lit, hN0, hN]
          · replace hs1_ := condF c47 hs1_
            refine W_skip ?_
            try simp only [gthen, gblock]
            refine W_drop [2, 3, 6] [true, true] ?_
            simp only [push_cast, seval, ↓reduceIte]
            refine W_regionD tab_ok [] ?_
            simp only [push_cast, seval, ↓reduceIte, cast_lit, hN0, hN]
            have hs1_ := Option.some.inj hs1_; subst hs1_
            refine And.intro rfl (Fit2.of (fit_loc hU rfl rfl ?_) (by omega))
            simp only [push_cast, seval, ↓reduceIte, cast_lit, hN0, hN]
        · replace hs1_ := condF c48 hs1_
          refine W_exit ?_
          try simp only [gthen, gblock, ↓reduceIte, Nat.reduceEqDiff]
          have hs1_ := Option.some.inj hs1_; subst hs1_
          refine And.intro (fun h => by cases h) (And.intro rfl (Fit2.of (fit_loc hU rfl rfl ?_) (by omega)))
          simp only [push_cast, seval, ↓reduceIte, cast_lit, hN0, hN]
      rcases z49 with z49 | z49
      · dsimp only [SumJ] at hw h
        refine W_blockR hw ?_
        try simp only [gthen, gblock, ↓reduceIte, Nat.reduceEqDiff]
        have h := Option.some.inj h; subst h
        refine fin_loc (.inr rfl) hU [.val (.bool false)] (by omega) ?_
        simp only [push_cast, seval, ↓reduceIte, cast_lit, Try.results17, hN0, hN]
      · dsimp only [SumJ] at hw h
        refine W_blockX hw ?_
        try simp only [gthen, gblock, ↓reduceIte, Nat.reduceEqDiff]
        refine W_drop [2, 3] [true, true] ?_
        simp only [push_cast, seval, ↓reduceIte]
        refine W_seqK ?_
        refine W_sq [2, 3, 7] (W_regionD tab_ok [] ?_)
        simp only [push_cast, seval, ↓reduceIte, cast_lit, hN0, hN]
        refine W_drop [2, 3, 7] [true, true] ?_
        simp only [push_cast, seval, ↓reduceIte]
        obtain ⟨z64, hz64, h⟩ := bC h
        refine W_sumB (J := (SumJ (fun z64 => JR n (⟨164, [], [(4, .val (.bool false))]⟩ : Env) (Loc O n [none, none]) (n + 2)) (fun z64 => JX 4 n (⟨164, [], []⟩ : Env) (Loc O n [none, none]) (n + 2)))) (z := z64) ?_ fun hw => ?_
        · refine W_loopJ hz64 (fun s2_ => ⟨164, [], [(2, .ref n 0), (3, .ref (n + 1) 0), (7, .val (.int .i64 s2_))]⟩) (fun s2_ => (Loc O n [some ⟨false, 30, 11, 1, (c_S_api_Edit a0)⟩, some ⟨false, 30, 11, 1, (c_S_api_Edit a1)⟩])) (SumJ (fun z64 => JR n (⟨164, [], [(4, .val (.bool false))]⟩ : Env) (Loc O n [none, none]) (n + 2)) (fun z64 => JX 4 n (⟨164, [], []⟩ : Env) (Loc O n [none, none]) (n + 2))) ?_
          intro s2_ x2_ hs2_
          unfold b_centoref22_Same_L2 at hs2_
          try dsimp only
          refine W_seqK ?_
          refine W_sq [2, 3, 7, 123] (W_regionD tab_ok [] ?_)
          simp only [push_cast, seval, ↓reduceIte, cast_lit, hN0, hN]
          refine W_cond (t := (decide (s2_ < (a0.Ops.length : Int)))) rfl (fun c63 => ?_) (fun c63 => ?_)
          · replace hs2_ := condT c63 hs2_
            refine W_skip ?_
            try simp only [gthen, gblock]
            refine W_drop [2, 3, 7] [true, true] ?_
            simp only [push_cast, seval, ↓reduceIte]
            refine W_seqK ?_
            refine W_block ?_
            obtain ⟨x50, hx50, ax50, bx50, cx50, hs2_⟩ := bE (f := e_S_api_Op) tab69 (fun _ => rfl) (by decide) hs2_
            obtain ⟨x51, hx51, ax51, bx51, cx51, hs2_⟩ := bE (f := e_S_api_Op) tab69 (fun _ => rfl) (by decide) hs2_
            refine W_seqN (E' := ⟨164, [], [(2, .ref n 0), (3, .ref (n + 1) 0), (7, .val (.int .i64 s2_)), (8, .ref (n + 2) 0), (9, .ref (n + 3) 0)]⟩) (O' := (Loc O n [some ⟨false, 30, 11, 1, (c_S_api_Edit a0)⟩, some ⟨false, 30, 11, 1, (c_S_api_Edit a1)⟩, some ⟨false, 69, 14, 1, (c_S_api_Op x50)⟩, some ⟨false, 69, 14, 1, (c_S_api_Op x51)⟩])) (n0 := (n + 4)) ?_ ?_
            · refine W_drawX tab_ok (by kernel_rfl) [.low, .low, .low, .low, .low, .low, .low, .low, .low, .low, .pass, .pass, .pass, .pass] (fun i => i < (n + 2)) 10 11 [0, 1, 2, 3, 4, 5, 6, 7, 8, 9] [12, 13] [.low, .low, .low, .low, .low, .low, .low, .low, .low, .low] [.pass, .pass, .pass, .pass] [.pass, .pass, .pass, .pass] [] (by kernel_rfl) rfl rfl rfl ?_
              simp only [push_cast, Nat.reduceAdd, Nat.reduceSub, Nat.reduceMul, Nat.reduceLeDiff, Nat.reduceLT, Nat.reduceEqDiff, ↓reduceIte, reduceCtorEq, Int.reduceBEq, Int.reduceBNe, Nat.reduceBEq, Int.reduceLE, Int.reduceLT, Int.reduceEq, Int.reduceNe, Int.reduceNeg, Nat.reduceDiv, Nat.reduceMod, Nat.reducePow, cast_lit, ax50, bx50, cx50, ax51, bx51, cx51, hN0, hN]
              repeat (with_reducible refine And.intro (by omega) ?_)
              refine And.intro ?_ ?_
              · simp only [push_cast, Nat.reduceAdd, Nat.reduceSub, Nat.reduceMul, Nat.reduceLeDiff, Nat.reduceLT, Nat.reduceEqDiff, ↓reduceIte, reduceCtorEq, Int.reduceBEq, Int.reduceBNe, Nat.reduceBEq, Int.reduceLE, Int.reduceLT, Int.reduceEq, Int.reduceNe, Int.reduceNeg, Nat.reduceDiv, Nat.reduceMod, Nat.reducePow, cast_lit, ax50, bx50, cx50, ax51, bx51, cx51, hN0, hN]
                repeat (with_reducible refine And.intro (by first | exact agree_loc rfl | exact agree_loc0) ?_)
                refine And.intro rfl (Fit2.of (fit_loc hU rfl rfl ?_) (by omega))
                simp only [push_cast, Nat.reduceAdd, Nat.reduceSub, Nat.reduceMul, Nat.reduceLeDiff, Nat.reduceLT, Nat.reduceEqDiff, ↓reduceIte, reduceCtorEq, Int.reduceBEq, Int.reduceBNe, Nat.reduceBEq, Int.reduceLE, Int.reduceLT, Int.reduceEq, Int.reduceNe, Int.reduceNeg, Nat.reduceDiv, Nat.reduceMod, Nat.reducePow, cast_lit, ax50, bx50, cx50, ax51, bx51, cx51, hN0, hN]
              · simp only [push_cast, Nat.reduceAdd, Nat.reduceSub, Nat.reduceMul, Nat.reduceLeDiff, Nat.reduceLT, Nat.reduceEqDiff, ↓reduceIte, reduceCtorEq, Int.reduceBEq, Int.reduceBNe, Nat.reduceBEq, Int.reduceLE, Int.reduceLT, Int.reduceEq, Int.reduceNe, Int.reduceNeg, Nat.reduceDiv, Nat.reduceMod, Nat.reducePow, cast_lit, ax50, bx50, cx50, ax51, bx51, cx51, hN0, hN]
                repeat (with_reducible refine And.intro (by first | exact agree_loc rfl | exact agree_loc0) ?_)
                refine And.intro rfl ?_
                refine Fit2.trans (E' := (⟨164, [], [(2, .ref n 0), (3, .ref (n + 1) 0), (7, .val (.int .i64 s2_)), (8, .ref (n + 3) 0), (9, .ref (n + 2) 0)]⟩ : Env)) (O' := (Loc O n [some ⟨false, 30, 11, 1, (c_S_api_Edit a0)⟩, some ⟨false, 30, 11, 1, (c_S_api_Edit a1)⟩, some ⟨false, 69, 14, 1, (c_S_api_Op x51)⟩, some ⟨false, 69, 14, 1, (c_S_api_Op x50)⟩])) (n' := (n + 4)) (Fit2.of (fit_loc hU rfl rfl ?_) (by omega)) ?_
                · simp only [push_cast, Nat.reduceAdd, Nat.reduceSub, Nat.reduceMul, Nat.reduceLeDiff, Nat.reduceLT, Nat.reduceEqDiff, ↓reduceIte, reduceCtorEq, Int.reduceBEq, Int.reduceBNe, Nat.reduceBEq, Int.reduceLE, Int.reduceLT, Int.reduceEq, Int.reduceNe, Int.reduceNeg, Nat.reduceDiv, Nat.reduceMod, Nat.reducePow, cast_lit, ax50, bx50, cx50, ax51, bx51, cx51, hN0, hN]
                refine ren_fit (k := 4) (k' := 4) hU [0, 1, 3, 2] [0, 1, 3, 2] rfl rfl rfl rfl ⟨rfl, rfl⟩ ?_
                simp only [push_cast, seval, ↓reduceIte, cast_lit, hN0, hN]
            obtain ⟨z54, hz54, hs2_⟩ := bC hs2_
            refine W_seqN (E' := ⟨164, [], [(2, .ref n 0), (3, .ref (n + 1) 0), (7, .val (.int .i64 s2_)), (163, .val (.bool z54))]⟩) (O' := (Loc O n [some ⟨false, 30, 11, 1, (c_S_api_Edit a0)⟩, some ⟨false, 30, 11, 1, (c_S_api_Edit a1)⟩, none, none])) (n0 := (n + 4)) ?_ ?_
            · rcases Bool.eq_false_or_eq_true (x50.Kind != x51.Kind) with c59 | c59
              · replace hz54 := condT c59 hz54
                refine W_regionD tab_ok [none, none, none, none, none, some false, some false, some false, some false, some false, some false, some false, some false, some false, some false, some false, some false] ?_
                simp only [push_cast, seval, ↓reduceIte, cast_lit, c59, hN0, hN]
                repeat (with_reducible refine And.intro (by first | (intro h0; simp only [h0, and_self]; done) | (intro h0; simp only [h0, Bool.not_false, Bool.not_true, Bool.true_and, Bool.and_true, true_and, and_true, and_self, imp_self, implies_true, bne_iff_ne, ne_eq, beq_iff_eq]; done) | (intros; simp_all; done) | exact True.intro) ?_)
                have hz54 := Option.some.inj hz54; subst hz54
                refine And.intro rfl (Fit2.of (fit_loc hU rfl rfl ?_) (by omega))
                simp only [push_cast, seval, ↓reduceIte, cast_lit, c59, hN0, hN]
              · replace hz54 := condF c59 hz54
                rcases Bool.eq_false_or_eq_true (x50.N != x51.N) with c60 | c60
                · replace hz54 := condT c60 hz54
                  try rw [c60] at c59
                  refine W_regionD tab_ok [none, none, none, none, none, some false, some false, some false, some false, some false, some false, some false, some false, some false, some false, some false, some false] ?_
                  simp only [push_cast, seval, ↓reduceIte, cast_lit, c59, c60, hN0, hN]
                  repeat (with_reducible refine And.intro (by first | (intro h0; simp only [h0, and_self]; done) | (intro h0; simp only [h0, Bool.not_false, Bool.not_true, Bool.true_and, Bool.and_true, true_and, and_true, and_self, imp_self, implies_true, bne_iff_ne, ne_eq, beq_iff_eq]; done) | (intros; simp_all; done) | exact True.intro) ?_)
                  have hz54 := Option.some.inj hz54; subst hz54
                  refine And.intro rfl (Fit2.of (fit_loc hU rfl rfl ?_) (by omega))
                  simp only [push_cast, seval, ↓reduceIte, cast_lit, c59, c60, hN0, hN]
                · replace hz54 := condF c60 hz54
                  try rw [c60] at c59
                  obtain ⟨y57, hy57, hz54⟩ := bC hz54
                  rcases Bool.eq_false_or_eq_true y57 with c61 | c61
                  · replace hz54 := condT c61 hz54
                    try rw [c61] at c59
                    try rw [c61] at c60
                    obtain ⟨y58, hy58, hz54⟩ := bC hz54
                    refine W_regionD tab_ok [none, none, none, none, none, some true, some true, some true, some true, some true, some true, some true, some true, some true, some true, some true, some true] ?_
                    simp only [push_cast, seval, ↓reduceIte, cast_lit, c59, c60, c61, hN0, hN]
                    repeat (with_reducible refine And.intro (by first | (intro h0; simp only [h0, and_self]; done) | (intro h0; simp only [h0, Bool.not_false, Bool.not_true, Bool.true_and, Bool.and_true, true_and, and_true, and_self, imp_self, implies_true, bne_iff_ne, ne_eq, beq_iff_eq]; done) | (intros; simp_all; done) | exact True.intro) ?_)
                    refine (ok_centoref22_sameTrees hy57).then ?_
                    simp only [push_cast, seval, ↓reduceIte, cast_lit, c59, c60, c61, hN0, hN]
                    repeat (with_reducible refine And.intro (by first | (intro h0; simp only [h0, and_self]; done) | (intro h0; simp only [h0, Bool.not_false, Bool.not_true, Bool.true_and, Bool.and_true, true_and, and_true, and_self, imp_self, implies_true, bne_iff_ne, ne_eq, beq_iff_eq]; done) | (intros; simp_all; done) | exact True.intro) ?_)
                    refine (ok_r_centoref22_Same hy58).then ?_
                    simp only [push_cast, seval, ↓reduceIte, cast_lit, c59, c60, c61, hN0, hN]
                    repeat (with_reducible refine And.intro (by first | (intro h0; simp only [h0, and_self]; done) | (intro h0; simp only [h0, Bool.not_false, Bool.not_true, Bool.true_and, Bool.and_true, true_and, and_true, and_self, imp_self, implies_true, bne_iff_ne, ne_eq, beq_iff_eq]; done) | (intros; simp_all; done) | exact True.intro) ?_)
                    have hz54 := Option.some.inj hz54; subst hz54
                    refine And.intro rfl (Fit2.of (fit_loc hU rfl rfl ?_) (by omega))
                    simp only [push_cast, seval, ↓reduceIte, cast_lit, c59, c60, c61, hN0, hN]
                  · replace hz54 := condF c61 hz54
                    try rw [c61] at c59
                    try rw [c61] at c60
                    refine W_regionD tab_ok [none, none, none, none, none, some true, some true, some true, some true, some true, some true, some false, some false, some false, some false, some false, some false] ?_
                    simp only [push_cast, seval, ↓reduceIte, cast_lit, c59, c60, c61, hN0, hN]
                    repeat (with_reducible refine And.intro (by first | (intro h0; simp only [h0, and_self]; done) | (intro h0; simp only [h0, Bool.not_false, Bool.not_true, Bool.true_and, Bool.and_true, true_and, and_true, and_self, imp_self, implies_true, bne_iff_ne, ne_eq, beq_iff_eq]; done) | (intros; simp_all; done) | exact True.intro) ?_)
                    refine (ok_centoref22_sameTrees hy57).then ?_
                    simp only [push_cast, seval, ↓reduceIte, cast_lit, c59, c60, c61, hN0, hN]
                    repeat (with_reducible refine And.intro (by first | (intro h0; simp only [h0, and_self]; done) | (intro h0; simp only [h0, Bool.not_false, Bool.not_true, Bool.true_and, Bool.and_true, true_and, and_true, and_self, imp_self, implies_true, bne_iff_ne, ne_eq, beq_iff_eq]; done) | (intros; simp_all; done) | exact True.intro) ?_)
                    have hz54 := Option.some.inj hz54; subst hz54
                    refine And.intro rfl (Fit2.of (fit_loc hU rfl rfl ?_) (by omega))
                    simp only [push_cast, seval, ↓reduceIte, cast_lit, c59, c60, c61, hN0, hN]
            refine W_cond (t := z54) rfl (fun c62 => ?_) (fun c62 => ?_)
            · replace hs2_ := condT c62 hs2_
              refine W_sq [4] (W_regionD tab_ok [] ?_)
              simp only [push_cast, seval, ↓reduceIte, cast_lit, hN0, hN]
              refine W_ret ?_
              try simp only [gthen, gblock]
              have hs2_ := Option.some.inj hs2_; subst hs2_
              refine And.intro (fun h => by cases h) (And.intro rfl (Fit2.of (fit_loc hU rfl rfl ?_) (by omega)))
              simp only [push_cast, seval, ↓reduceIte, cast_lit, hN0, hN]
            · replace hs2_ := condF c62 hs2_
              refine W_skip ?_
              try simp only [gthen, gblock]
              refine W_drop [2, 3, 7] [true, true, false, false] ?_
              simp only [push_cast, seval, ↓reduceIte]
              refine W_regionD tab_ok [] ?_
              simp only [push_cast, seval, ↓reduceIte, cast_lit, hN0, hN]
              have hs2_ := Option.some.inj hs2_; subst hs2_
              refine And.intro rfl (Fit2.of (fit_loc hU rfl rfl ?_) (by omega))
              simp only [push_cast, seval, ↓reduceIte, cast_lit, hN0, hN]
          · replace hs2_ := condF c63 hs2_
            refine W_exit ?_
            try simp only [gthen, gblock, ↓reduceIte, Nat.reduceEqDiff]
            have hs2_ := Option.some.inj hs2_; subst hs2_
            refine And.intro (fun h => by cases h) (And.intro rfl (Fit2.of (fit_loc hU rfl rfl ?_) (by omega)))
            simp only [push_cast, seval, ↓reduceIte, cast_lit, hN0, hN]
        rcases z64 with z64 | z64
        · dsimp only [SumJ] at hw h
          refine W_blockR hw ?_
          try simp only [gthen, gblock, ↓reduceIte, Nat.reduceEqDiff]
          have h := Option.some.inj h; subst h
          refine fin_loc (.inr rfl) hU [.val (.bool false)] (by omega) ?_
          simp only [push_cast, seval, ↓reduceIte, cast_lit, Try.results17, hN0, hN]
        · dsimp only [SumJ] at hw h
          refine W_blockX hw ?_
          try simp only [gthen, gblock, ↓reduceIte, Nat.reduceEqDiff]
          refine W_drop [] [false, false] ?_
          simp only [push_cast, seval, ↓reduceIte]
          refine W_sq [4] (W_regionD tab_ok [] ?_)
          simp only [push_cast, seval, ↓reduceIte, cast_lit, hN0, hN]
          refine W_ret ?_
          try simp only [gthen, gblock]
          have h := Option.some.inj h; subst h
          refine fin_loc (.inr rfl) hU [.val (.bool true)] (by omega) ?_
          simp only [push_cast, seval, ↓reduceIte, cast_lit, Try.results17, hN0, hN]
theorem lv_centoref22_Same_ok : ∀ k, (∀ {a0 : S_api_Edit} {a1 : S_api_Edit} {r : Bool} {O : Objs} {n : Nat}, (lv_centoref22_Same k) a0 a1 = some r → GTo Try.prog 17 [.agg (c_S_api_Edit a0), .agg (c_S_api_Edit a1)] O n (.val (.bool r)) O n) := fun k => by
  induction k with
  | zero => exact @fun a0 a1 r O n h => (nomatch (show (none : Option _) = some _ from h))
  | succ k ih => exact @fun a0 a1 r O n h => okb_centoref22_Same (ih)  h
theorem ok_centoref22_Same {a0 : S_api_Edit} {a1 : S_api_Edit} {r : Bool} {O : Objs} {n : Nat} (h : m_centoref22_Same a0 a1 = some r) : GTo Try.prog 17 [.agg (c_S_api_Edit a0), .agg (c_S_api_Edit a1)] O n (.val (.bool r)) O n := by
  obtain ⟨k, hk⟩ := lim_some h
  exact (lv_centoref22_Same_ok k)  hk
theorem ok_centolaw24_same {a0 : S_api_Op} {a1 : Int} {a2 : (List S_centoref24_Pair)} {a3 : Int} {a4 : Bool} {r : Bool} {O : Objs} {n : Nat} (h : m_centolaw24_same a0 a1 a2 a3 a4 = some r) : GTo Try.prog 66 [.agg (c_S_api_Op a0), .val (.int .i64 a1), .sl a2.length (fl e_S_centoref24_Pair a2), .val (.int .i64 a3), .val (.bool a4)] O n (.val (.bool r)) O n := by
  unfold m_centolaw24_same at h
  refine fn_of tab_ok Try.call66 Try.func66 rfl (Nat.le_of_ble_eq_true rfl) (Nat.le_refl _) fun hU => ?_
  have hN0 : O n = none := hU.fresh _ (Nat.le_refl _)
  have hN : ∀ k, O (n + k) = none := fun k => hU.fresh _ (Nat.le_add_right _ _)
  show W _ _ _ _ ⟨55, [], [(0, .agg (c_S_api_Op a0)), (1, .val (.int .i64 a1)), (2, .sl a2.length (fl e_S_centoref24_Pair a2)), (3, .val (.int .i64 a3)), (4, .val (.bool a4))]⟩ (Loc O n []) _
  refine W_sq [1, 2, 3, 4, 5] (W_regionD tab_ok [] ?_)
  simp only [push_cast, seval, ↓reduceIte, cast_lit, hN0, hN]
  refine W_seqK ?_
  obtain ⟨y2, hy2, h⟩ := bC h
  refine W_regionD tab_ok [] ?_
  simp only [push_cast, seval, ↓reduceIte, cast_lit, hN0, hN]
  refine (ok_centolaw24_units hy2).then ?_
  simp only [push_cast, seval, ↓reduceIte, cast_lit, hN0, hN]
  refine W_drop [2, 3, 4, 11] [false] ?_
  simp only [push_cast, seval, ↓reduceIte]
  refine W_seqK ?_
  refine W_sq [2, 3, 4, 11, 12] (W_regionD tab_ok [] ?_)
  simp only [push_cast, seval, ↓reduceIte, cast_lit, hN0, hN]
  refine W_drop [2, 3, 4, 11, 12] [false] ?_
  simp only [push_cast, seval, ↓reduceIte]
  obtain ⟨z18, hz18, h⟩ := bC h
  refine W_sumB (J := (SumJ (fun z18 => JR n (⟨55, [], [(10, .val (.bool false))]⟩ : Env) (Loc O n [none]) (n + 1)) (fun z18 => JX 0 n (⟨55, [], []⟩ : Env) (Loc O n [none]) (n + 1)))) (z := z18) ?_ fun hw => ?_
  · refine W_loopJ hz18 (fun s0_ => ⟨55, [], [(2, .sl a2.length (fl e_S_centoref24_Pair a2)), (3, .val (.int .i64 a3)), (4, .val (.bool a4)), (11, .sl y2.length (fl e_S_centoref24_Unit y2)), (12, .val (.int .i64 s0_))]⟩) (fun s0_ => (Loc O n [none])) (SumJ (fun z18 => JR n (⟨55, [], [(10, .val (.bool false))]⟩ : Env) (Loc O n [none]) (n + 1)) (fun z18 => JX 0 n (⟨55, [], []⟩ : Env) (Loc O n [none]) (n + 1))) ?_
    intro s0_ x0_ hs0_
    unfold m_centolaw24_same_L0 at hs0_
    try dsimp only
    refine W_seqK ?_
    refine W_sq [2, 3, 4, 11, 12, 22] (W_regionD tab_ok [] ?_)
    simp only [push_cast, seval, ↓reduceIte, cast_lit, hN0, hN]
    refine W_cond (t := (decide (s0_ < (y2.length : Int)))) rfl (fun c17 => ?_) (fun c17 => ?_)
    · replace hs0_ := condT c17 hs0_
      refine W_skip ?_
      try simp only [gthen, gblock]
      refine W_drop [2, 3, 4, 11, 12] [false] ?_
      simp only [push_cast, seval, ↓reduceIte]
      refine W_seqK ?_
      refine W_block ?_
      refine W_seqK ?_
      obtain ⟨x5, hx5, ax5, bx5, cx5, hs0_⟩ := bE (f := e_S_centoref24_Pair) tab84 (fun _ => rfl) (by decide) hs0_
      have g6 := gpart_fld (f := e_S_centoref24_Pair) (off := 1) (sz := 35) tab82 (fun _ => rfl) (by decide) (by decide) hx5
      refine W_regionD tab_ok [] ?_
      simp only [push_cast, Nat.reduceAdd, Nat.reduceSub, Nat.reduceMul, Nat.reduceLeDiff, Nat.reduceLT, Nat.reduceEqDiff, ↓reduceIte, reduceCtorEq, Int.reduceBEq, Int.reduceBNe, Nat.reduceBEq, Int.reduceLE, Int.reduceLT, Int.reduceEq, Int.reduceNe, Int.reduceNeg, Nat.reduceDiv, Nat.reduceMod, Nat.reducePow, cast_lit, ax5, bx5, cx5, g6, hN0, hN]
      refine W_drop [2, 3, 4, 11, 12, 13] [false, true] ?_
      simp only [push_cast, seval, ↓reduceIte]
      obtain ⟨z7, hz7, hs0_⟩ := bC hs0_
      refine W_seqN (E' := ⟨55, [], [(2, .sl a2.length (fl e_S_centoref24_Pair a2)), (3, .val (.int .i64 a3)), (4, .val (.bool a4)), (11, .sl y2.length (fl e_S_centoref24_Unit y2)), (12, .val (.int .i64 s0_)), (13, .ref (n + 1) 0)]⟩) (O' := (Loc O n [none, some ⟨false, 82, 17, 1, [.val (.int .i64 z7.1), .val (.int .i64 z7.2.1), .val (.int .i64 z7.2.2.1), .sl z7.2.2.2.1.length (fl (eI .u64) z7.2.2.2.1), .sl z7.2.2.2.2.1.length (fl e_S_api_Tree z7.2.2.2.2.1), .val (.int .i64 z7.2.2.2.2.2.1), .val (.int .i64 z7.2.2.2.2.2.2.1), .sl z7.2.2.2.2.2.2.2.1.length (fl (eI .u64) z7.2.2.2.2.2.2.2.1), .sl z7.2.2.2.2.2.2.2.2.1.length (fl e_S_api_Tree z7.2.2.2.2.2.2.2.2.1), .val (.int .i64 z7.2.2.2.2.2.2.2.2.2.1), .sl z7.2.2.2.2.2.2.2.2.2.2.1.length (fl (eI .u64) z7.2.2.2.2.2.2.2.2.2.2.1), .sl z7.2.2.2.2.2.2.2.2.2.2.2.1.length (fl e_S_api_Tree z7.2.2.2.2.2.2.2.2.2.2.2.1), .sl z7.2.2.2.2.2.2.2.2.2.2.2.2.1.length (fl e_S_api_WordEdit z7.2.2.2.2.2.2.2.2.2.2.2.2.1), .sl z7.2.2.2.2.2.2.2.2.2.2.2.2.2.1.length (fl e_S_api_KidEdit z7.2.2.2.2.2.2.2.2.2.2.2.2.2.1), .val (.int .i64 z7.2.2.2.2.2.2.2.2.2.2.2.2.2.2.1), .sl z7.2.2.2.2.2.2.2.2.2.2.2.2.2.2.2.1.length (fl e_S_api_Op z7.2.2.2.2.2.2.2.2.2.2.2.2.2.2.2.1), .val (.bool z7.2.2.2.2.2.2.2.2.2.2.2.2.2.2.2.2)]⟩])) (n0 := (n + 2)) ?_ ?_
      · refine W_sq [2, 3, 4, 11, 12, 13, 32] (W_regionD tab_ok [] ?_)
        simp only [push_cast, seval, ↓reduceIte, cast_lit, hN0, hN]
        refine W_cond (t := a4) rfl (fun c10 => ?_) (fun c10 => ?_)
        · replace hz7 := condT c10 hz7
          obtain ⟨x8, hx8, ax8, bx8, cx8, hz7⟩ := bE (f := e_S_centoref24_Pair) tab84 (fun _ => rfl) (by decide) hz7
          have g9 := gpart_fld (f := e_S_centoref24_Pair) (off := 18) (sz := 35) tab82 (fun _ => rfl) (by decide) (by decide) hx8
          refine W_regionD tab_ok [] ?_
          simp only [push_cast, Nat.reduceAdd, Nat.reduceSub, Nat.reduceMul, Nat.reduceLeDiff, Nat.reduceLT, Nat.reduceEqDiff, ↓reduceIte, reduceCtorEq, Int.reduceBEq, Int.reduceBNe, Nat.reduceBEq, Int.reduceLE, Int.reduceLT, Int.reduceEq, Int.reduceNe, Int.reduceNeg, Nat.reduceDiv, Nat.reduceMod, Nat.reducePow, cast_lit, ax8, bx8, cx8, g9, hN0, hN]
          have hz7 := Option.some.inj hz7; subst hz7
          refine And.intro rfl (Fit2.of (fit_loc hU rfl rfl ?_) (by omega))
          simp only [push_cast, Nat.reduceAdd, Nat.reduceSub, Nat.reduceMul, Nat.reduceLeDiff, Nat.reduceLT, Nat.reduceEqDiff, ↓reduceIte, reduceCtorEq, Int.reduceBEq, Int.reduceBNe, Nat.reduceBEq, Int.reduceLE, Int.reduceLT, Int.reduceEq, Int.reduceNe, Int.reduceNeg, Nat.reduceDiv, Nat.reduceMod, Nat.reducePow, cast_lit, ax8, bx8, cx8, g9, hN0, hN]
        · replace hz7 := condF c10 hz7
          refine W_skip ?_
          try simp only [gthen, gblock]
          have hz7 := Option.some.inj hz7; subst hz7
          refine And.intro rfl (Fit2.of (fit_loc hU rfl rfl ?_) (by omega))
          simp only [push_cast, seval, ↓reduceIte, cast_lit, hN0, hN]
      obtain ⟨x11, hx11, ax11, bx11, cx11, hs0_⟩ := bE (f := e_S_centoref24_Unit) tab82 (fun _ => rfl) (by decide) hs0_
      obtain ⟨y12, hy12, hs0_⟩ := bC hs0_
      obtain ⟨y13, hy13, hs0_⟩ := bC hs0_
      refine W_seqN (E' := ⟨55, [], [(2, .sl a2.length (fl e_S_centoref24_Pair a2)), (3, .val (.int .i64 a3)), (4, .val (.bool a4)), (11, .sl y2.length (fl e_S_centoref24_Unit y2)), (12, .val (.int .i64 s0_)), (14, .ref (n + 2) 0), (15, .ref (n + 3) 0)]⟩) (O' := (Loc O n [none, none, some ⟨false, 69, 14, 1, (c_S_api_Op y12)⟩, some ⟨false, 69, 14, 1, (c_S_api_Op y13)⟩])) (n0 := (n + 4)) ?_ ?_
      · refine W_drawX tab_ok (by kernel_rfl) [.low, .low, .low, .low, .low, .low, .low, .pass, .pass, .pass, .pass] (fun i => i < (n + 2)) 7 8 [0, 1, 2, 3, 4, 5, 6] [9, 10] [.low, .low, .low, .low, .low, .low, .low] [.pass, .pass, .pass, .pass] [.pass, .pass, .pass, .pass] [] (by kernel_rfl) rfl rfl rfl ?_
        simp only [push_cast, Nat.reduceAdd, Nat.reduceSub, Nat.reduceMul, Nat.reduceLeDiff, Nat.reduceLT, Nat.reduceEqDiff, ↓reduceIte, reduceCtorEq, Int.reduceBEq, Int.reduceBNe, Nat.reduceBEq, Int.reduceLE, Int.reduceLT, Int.reduceEq, Int.reduceNe, Int.reduceNeg, Nat.reduceDiv, Nat.reduceMod, Nat.reducePow, cast_lit, ax11, bx11, cx11, hN0, hN]
        repeat (with_reducible refine And.intro (by omega) ?_)
        first | refine PCallA.of (fun _ _ => ok_centoref24_Op hy12) ?_ | refine PCall.of (ok_centoref24_Op hy12) ?_
        simp only [push_cast, Nat.reduceAdd, Nat.reduceSub, Nat.reduceMul, Nat.reduceLeDiff, Nat.reduceLT, Nat.reduceEqDiff, ↓reduceIte, reduceCtorEq, Int.reduceBEq, Int.reduceBNe, Nat.reduceBEq, Int.reduceLE, Int.reduceLT, Int.reduceEq, Int.reduceNe, Int.reduceNeg, Nat.reduceDiv, Nat.reduceMod, Nat.reducePow, cast_lit, ax11, bx11, cx11, hN0, hN]
        repeat (with_reducible refine And.intro (by omega) ?_)
        first | refine PCallA.of (fun _ _ => ok_centoref24_Op hy13) ?_ | refine PCall.of (ok_centoref24_Op hy13) ?_
        simp only [push_cast, Nat.reduceAdd, Nat.reduceSub, Nat.reduceMul, Nat.reduceLeDiff, Nat.reduceLT, Nat.reduceEqDiff, ↓reduceIte, reduceCtorEq, Int.reduceBEq, Int.reduceBNe, Nat.reduceBEq, Int.reduceLE, Int.reduceLT, Int.reduceEq, Int.reduceNe, Int.reduceNeg, Nat.reduceDiv, Nat.reduceMod, Nat.reducePow, cast_lit, ax11, bx11, cx11, hN0, hN]
        repeat (with_reducible refine And.intro (by omega) ?_)
        refine And.intro ?_ ?_
        · simp only [push_cast, Nat.reduceAdd, Nat.reduceSub, Nat.reduceMul, Nat.reduceLeDiff, Nat.reduceLT, Nat.reduceEqDiff, ↓reduceIte, reduceCtorEq, Int.reduceBEq, Int.reduceBNe, Nat.reduceBEq, Int.reduceLE, Int.reduceLT, Int.reduceEq, Int.reduceNe, Int.reduceNeg, Nat.reduceDiv, Nat.reduceMod, Nat.reducePow, cast_lit, ax11, bx11, cx11, hN0, hN]
          repeat (with_reducible refine And.intro (by first | exact agree_loc rfl | exact agree_loc0) ?_)
          refine And.intro rfl (Fit2.of (fit_loc hU rfl rfl ?_) (by omega))
          simp only [push_cast, Nat.reduceAdd, Nat.reduceSub, Nat.reduceMul, Nat.reduceLeDiff, Nat.reduceLT, Nat.reduceEqDiff, ↓reduceIte, reduceCtorEq, Int.reduceBEq, Int.reduceBNe, Nat.reduceBEq, Int.reduceLE, Int.reduceLT, Int.reduceEq, Int.reduceNe, Int.reduceNeg, Nat.reduceDiv, Nat.reduceMod, Nat.reducePow, cast_lit, ax11, bx11, cx11, hN0, hN]
        · simp only [push_cast, Nat.reduceAdd, Nat.reduceSub, Nat.reduceMul, Nat.reduceLeDiff, Nat.reduceLT, Nat.reduceEqDiff, ↓reduceIte, reduceCtorEq, Int.reduceBEq, Int.reduceBNe, Nat.reduceBEq, Int.reduceLE, Int.reduceLT, Int.reduceEq, Int.reduceNe, Int.reduceNeg, Nat.reduceDiv, Nat.reduceMod, Nat.reducePow, cast_lit, ax11, bx11, cx11, hN0, hN]
          repeat (with_reducible refine And.intro (by first | exact agree_loc rfl | exact agree_loc0) ?_)
          refine And.intro rfl ?_
          refine Fit2.trans (E' := (⟨55, [], [(2, .sl a2.length (fl e_S_centoref24_Pair a2)), (3, .val (.int .i64 a3)), (4, .val (.bool a4)), (11, .sl y2.length (fl e_S_centoref24_Unit y2)), (12, .val (.int .i64 s0_)), (14, .ref (n + 3) 0), (15, .ref (n + 2) 0)]⟩ : Env)) (O' := (Loc O n [none, none, some ⟨false, 69, 14, 1, (c_S_api_Op y13)⟩, some ⟨false, 69, 14, 1, (c_S_api_Op y12)⟩])) (n' := (n + 4)) (Fit2.of (fit_loc hU rfl rfl ?_) (by omega)) ?_
          · simp only [push_cast, Nat.reduceAdd, Nat.reduceSub, Nat.reduceMul, Nat.reduceLeDiff, Nat.reduceLT, Nat.reduceEqDiff, ↓reduceIte, reduceCtorEq, Int.reduceBEq, Int.reduceBNe, Nat.reduceBEq, Int.reduceLE, Int.reduceLT, Int.reduceEq, Int.reduceNe, Int.reduceNeg, Nat.reduceDiv, Nat.reduceMod, Nat.reducePow, cast_lit, ax11, bx11, cx11, hN0, hN]
          refine ren_fit (k := 4) (k' := 4) hU [0, 1, 3, 2] [0, 1, 3, 2] rfl rfl rfl rfl ⟨rfl, rfl⟩ ?_
          simp only [push_cast, seval, ↓reduceIte, cast_lit, hN0, hN]
      refine W_seqK ?_
      obtain ⟨y15, hy15, hs0_⟩ := bC hs0_
      refine W_regionD tab_ok [] ?_
      simp only [push_cast, seval, ↓reduceIte, cast_lit, hN0, hN]
      refine GCalls.lend (ok_centoref22_Same hy15) rfl ?_ ?_
      · simp only [push_cast, seval, ↓reduceIte, cast_lit, hN0, hN]
      simp only [push_cast, seval, ↓reduceIte, cast_lit, hN0, hN]
      refine W_fit ⟨55, [], [(2, .sl a2.length (fl e_S_centoref24_Pair a2)), (3, .val (.int .i64 a3)), (4, .val (.bool a4)), (11, .sl y2.length (fl e_S_centoref24_Unit y2)), (12, .val (.int .i64 s0_)), (54, .val (.bool (!y15)))]⟩ (Loc O n [none, none, none, none, none, none]) (fit_loc hU rfl rfl ?_) ?_
      · simp only [push_cast, seval, ↓reduceIte, cast_lit, hN0, hN]
      refine W_cond (t := (!y15)) rfl (fun c16 => ?_) (fun c16 => ?_)
      · replace hs0_ := condT c16 hs0_
        refine W_sq [10] (W_regionD tab_ok [] ?_)
        simp only [push_cast, seval, ↓reduceIte, cast_lit, hN0, hN]
        refine W_ret ?_
        try simp only [gthen, gblock]
        have hs0_ := Option.some.inj hs0_; subst hs0_
        refine And.intro (fun h => by cases h) (And.intro rfl (Fit2.of (fit_loc hU rfl rfl ?_) (by omega)))
        simp only [push_cast, seval, ↓reduceIte, cast_lit, hN0, hN]
      · replace hs0_ := condF c16 hs0_
        refine W_skip ?_
        try simp only [gthen, gblock]
        refine W_drop [2, 3, 4, 11, 12] [false, false, false, false, false, false] ?_
        simp only [push_cast, seval, ↓reduceIte]
        refine W_regionD tab_ok [] ?_
        simp only [push_cast, seval, ↓reduceIte, cast_lit, hN0, hN]
        have hs0_ := Option.some.inj hs0_; subst hs0_
        refine And.intro rfl (Fit2.of (fit_loc hU rfl rfl ?_) (by omega))
        simp only [push_cast, seval, ↓reduceIte, cast_lit, hN0, hN]
    · replace hs0_ := condF c17 hs0_
      refine W_exit ?_
      try simp only [gthen, gblock, ↓reduceIte, Nat.reduceEqDiff]
      have hs0_ := Option.some.inj hs0_; subst hs0_
      refine And.intro (fun h => by cases h) (And.intro rfl (Fit2.of (fit_loc hU rfl rfl ?_) (by omega)))
      simp only [push_cast, seval, ↓reduceIte, cast_lit, hN0, hN]
  rcases z18 with z18 | z18
  · dsimp only [SumJ] at hw h
    refine W_blockR hw ?_
    try simp only [gthen, gblock, ↓reduceIte, Nat.reduceEqDiff]
    have h := Option.some.inj h; subst h
    refine fin_loc (.inr rfl) hU [.val (.bool false)] (by omega) ?_
    simp only [push_cast, seval, ↓reduceIte, cast_lit, Try.results66, hN0, hN]
  · dsimp only [SumJ] at hw h
    refine W_blockX hw ?_
    try simp only [gthen, gblock, ↓reduceIte, Nat.reduceEqDiff]
    refine W_drop [] [false] ?_
    simp only [push_cast, seval, ↓reduceIte]
    refine W_sq [10] (W_regionD tab_ok [] ?_)
    simp only [push_cast, seval, ↓reduceIte, cast_lit, hN0, hN]
    refine W_ret ?_
    try simp only [gthen, gblock]
    have h := Option.some.inj h; subst h
    refine fin_loc (.inr rfl) hU [.val (.bool true)] (by omega) ?_
    simp only [push_cast, seval, ↓reduceIte, cast_lit, Try.results66, hN0, hN]
end Go.Proofs.Ytbcgiaijjaocdaa
