/- Part OM4 of this seat's mirrors: functions of the seat's program, and the plain functions that they are; each theorem bears its own conditions. -/
import Derived.Test.YtbcgiaijjaocdaaOE
import Derived.Test.YtbcgiaijjaocdaaOM3
namespace Go.Proofs.Ytbcgiaijjaocdaa
open Go.RowKit
set_option linter.unusedVariables false
set_option linter.unusedSimpArgs false
set_option maxRecDepth 100000
set_option maxHeartbeats 1000000
attribute [local push_cast] c_S_api_Edit c_S_api_KidEdit c_S_api_Op c_S_api_Tree c_S_api_WordEdit gfork_t gfork_f pfork_t pfork_f gthen gblock gops_nil gops_plain gops_guard onW gwantB gcalm gact gpick gpickV strip evS wok calmOp Op.operands Call.operands gop onK onP atK List.all_cons List.all_nil Bool.and_true Bool.true_and Bool.and_self Value.oneCell' List.take_zero List.take_succ_cons List.take_nil List.drop_zero List.drop_succ_cons List.drop_nil List.append_nil Nat.add_zero Nat.zero_add gstep gputE ev look genv gbin geqS geqF gint gunary gconvert gload gcells gpart_lit gstore gcellsOf gput gplace_lit gfieldAddr gstepIn gindexAddr gindex gfield gopt bLo bHi bMx gextract galloc gbox gbuild gfill gplaces gbuildSlice gmake glen gappend gsrc gbuiltin gnil isLive gres gone prun_nil prun_plain prun_guard pop TK.isAgg G.one G.under G.unders List.getD_cons_zero List.getD_cons_succ List.set_cons_zero List.set_cons_succ List.map_cons List.map_nil List.toList_toArray Array.toList_append Option.toArray_none Option.toArray_some Array.toList_map Option.map_some Option.map_none Option.bind_some Option.bind_none List.getElem?_cons_zero List.getElem?_cons_succ List.getElem?_nil List.nil_append List.cons_append List.replicate_succ List.replicate_zero List.length_cons List.length_nil and_true true_and and_false false_and Bool.true_eq_false Bool.false_eq_true forall_const false_implies implies_true IntKind.bits if_true if_false ite_true ite_false eq_self true_implies false_or or_false or_true true_or not_true_eq_false not_false_eq_true decide_true decide_false decide_eq_true_eq decide_eq_false_iff_not beq_iff_eq bne_iff_ne ne_eq Bool.not_eq_true Bool.not_eq_false beq_eq_false_iff_ne bne_eq_false_iff_eq beq_self_eq_true bne_self_eq_false Option.some.injEq exists_eq_left' exists_eq_left ge_iff_le gt_iff_lt decide_not Bool.not_true Bool.not_false imp_self gquiet cond_true cond_false beqT beqF Bool.not_not Bool.and_false Bool.false_and Bool.or_true Bool.true_or Bool.or_false Bool.false_or Loc_at Loc_at0 Loc_upd Loc_upd0 Loc_push Loc_push0 Option.join_some Nat.add_assoc Int.toNat_natCast eI eB eS eL fl_nil gopsD_nil gopsD_plain gopsD_t gopsD_f gopsD_n onKD onWD prunD_nil prunD_plain prunD_t prunD_f prunD_n onPD fitO fitO1 sameO fitL fl_append fl_one List.length_append G.agg.injEq G.row.injEq G.ref.injEq G.val.injEq G.sl.injEq G.tup.injEq Value.int.injEq Value.bool.injEq Value.string.injEq List.cons.injEq exists_and_left exists_const List.flatten_cons List.flatten_nil Int.le_refl Nat.le_refl upd_updU Loc_out Loc_updo Bool.not_eq_true' Bool.not_eq_false' wkl_nil wkl_cons wk_any wk_val wk_agg wk_tup wk_sl wk_fn List.size_toArray renO renO1 G.ren G.rens renL rho_at rho_at0 gP_none gP_some strip_gP wok_gP one_gP G.fn.injEq wk_slnil wk_slrow wk_slrs wk_ip wk_ipref wk_row wk_rs wk_rp wk_ref locLt0 locLt Option.join_none upd_same fl_cons undef keepL Arr.len Arr.put_eq prunB_nil prunB_bar prunB_bart prunB_plain prunB_t prunB_f prunB_n onB onBP gcopy setI_len Loc_cat0 Loc_cat1 Loc_cat2 Loc_cat3 Loc_cat4 Loc_cat5 noObjs_at prunK_nil prunK_bar prunK_pass prunK_plain prunK_low prunK_pt prunK_pf prunK_lt prunK_lf onKg onKa onKp popL pickOps lows lowG prunK_shp prunK_fill popH shpOp fillOp fillG rho_low rens_app Loc_cat6 Loc_cat7 Loc_cat8 Loc_cat9 Loc_cat10 Loc_cat11 Loc_cat12 Loc_cat13 Loc_cat14 Loc_cat15 Loc_cat16 tab2 tkind2 tab3 tkind3 tab4 tkind4 tab5 tkind5 tab6 tkind6 tab7 tkind7 tab8 tkind8 tab9 tkind9 tab10 tkind10 tab11 tkind11 tab12 tkind12 tab13 tkind13 tab14 tkind14 tab15 tkind15 tab16 tkind16 tab17 tkind17 tab18 tkind18 tab19 tkind19 tab21 tkind21 tab22 tkind22 tab23 tkind23 tab24 tkind24 tab25 tkind25 tab26 tkind26 tab27 tkind27 tab28 tkind28 tab29 tkind29 tab30 tkind30 tab46 tkind46 tab49 tkind49 tab52 tkind52 tab56 tkind56 tab57 tkind57 tab58 tkind58 tab62 tkind62 tab68 tkind68 tab69 tkind69 tab70 tkind70 tab71 tkind71 tab78 tkind78 tab79 tkind79 tab81 tkind81 tab82 tkind82 tab83 tkind83 tab84 tkind84 tab95 tkind95 tab99 tkind99 tab101 tkind101 tab102 tkind102 tab109 tkind109 tab110 tkind110 tab113 tkind113 tab123 tkind123 tab124 tkind124 tab132 tkind132 tab133 tkind133 tab136 tkind136 tab138 tkind138 tab139 tkind139 tab141 tkind141 tab142 tkind142 tab157 tkind157 tab159 tkind159 tab160 tkind160 tab165 tkind165 tab166 tkind166 tab167 tkind167 tab169 tkind169 tab170 tkind170 tab171 tkind171 e_S_api_Tree e0_eq_S_api_Tree wkl_eI_u64 wka_eI_u64 len_eI_u64 one_eI_u64 wkp_eI_u64 undp_eI_u64 rens_eI_u64 renp_eI_u64 und_eI_u64 wkl_e_S_api_Tree wka_e_S_api_Tree len_e_S_api_Tree one_e_S_api_Tree wkp_e_S_api_Tree undp_e_S_api_Tree rens_e_S_api_Tree renp_e_S_api_Tree und_e_S_api_Tree e_S_api_WordEdit e_S_api_Edit e_S_api_Op e_S_api_KidEdit e0_eq_S_api_Edit e0_eq_S_api_Op e0_eq_S_api_KidEdit wkl_e_S_api_WordEdit wka_e_S_api_WordEdit len_e_S_api_WordEdit one_e_S_api_WordEdit wkp_e_S_api_WordEdit undp_e_S_api_WordEdit rens_e_S_api_WordEdit renp_e_S_api_WordEdit und_e_S_api_WordEdit wkl_e_S_api_KidEdit wka_e_S_api_KidEdit len_e_S_api_KidEdit one_e_S_api_KidEdit wkp_e_S_api_KidEdit undp_e_S_api_KidEdit rens_e_S_api_KidEdit renp_e_S_api_KidEdit und_e_S_api_KidEdit wkl_e_S_api_Op wka_e_S_api_Op len_e_S_api_Op one_e_S_api_Op wkp_e_S_api_Op undp_e_S_api_Op rens_e_S_api_Op renp_e_S_api_Op und_e_S_api_Op wkl_eI_u8 wka_eI_u8 len_eI_u8 one_eI_u8 wkp_eI_u8 undp_eI_u8 rens_eI_u8 renp_eI_u8 und_eI_u8 e_S_normal_writer wkl_e_S_normal_writer wka_e_S_normal_writer len_e_S_normal_writer one_e_S_normal_writer wkp_e_S_normal_writer undp_e_S_normal_writer rens_e_S_normal_writer renp_e_S_normal_writer und_e_S_normal_writer
theorem ok_centolaw22_awake  {r : Bool} {O : Objs} {n : Nat} (h : m_centolaw22_awake = some r) : GTo Try.prog 16 [] O n (.val (.bool r)) O n := by
  unfold m_centolaw22_awake at h
  refine fn_of tab_ok Try.call16 Try.func16 rfl (Nat.le_of_ble_eq_true rfl) (Nat.le_refl _) fun hU => ?_
  have hN0 : O n = none := hU.fresh _ (Nat.le_refl _)
  have hN : ∀ k, O (n + k) = none := fun k => hU.fresh _ (Nat.le_add_right _ _)
  show W _ _ _ _ ⟨49, [], []⟩ (Loc O n []) _
  refine W_sq [] (W_regionD tab_ok [] ?_)
  simp only [push_cast, seval, ↓reduceIte, cast_lit, hN0, hN]
  refine W_seqK ?_
  refine W_regionD tab_ok [] ?_
  simp only [push_cast, seval, ↓reduceIte, cast_lit, hN0, hN]
  refine W_fit ⟨49, [], [(1, .row (n + 1) ([(⟨10, ([1] : List Int), ([] : (List S_api_Tree))⟩ : S_api_Tree)] : List S_api_Tree).length)]⟩ (Loc O n [none, some ⟨true, 25, 3, ([(⟨10, ([1] : List Int), ([] : (List S_api_Tree))⟩ : S_api_Tree)] : List S_api_Tree).length, fl e_S_api_Tree ([(⟨10, ([1] : List Int), ([] : (List S_api_Tree))⟩ : S_api_Tree)] : List S_api_Tree)⟩]) (fit_loc hU rfl rfl ?_) ?_
  · simp only [push_cast, seval, ↓reduceIte, cast_lit, hN0, hN]
  refine W_seqK ?_
  refine W_regionD tab_ok [] ?_
  simp only [push_cast, seval, ↓reduceIte, cast_lit, hN0, hN]
  refine W_fit ⟨49, [], [(1, .row (n + 1) ([(⟨10, ([1] : List Int), ([] : (List S_api_Tree))⟩ : S_api_Tree)] : List S_api_Tree).length), (2, .row (n + 3) ([(⟨10, ([2] : List Int), ([] : (List S_api_Tree))⟩ : S_api_Tree)] : List S_api_Tree).length)]⟩ (Loc O n [none, some ⟨true, 25, 3, ([(⟨10, ([1] : List Int), ([] : (List S_api_Tree))⟩ : S_api_Tree)] : List S_api_Tree).length, fl e_S_api_Tree ([(⟨10, ([1] : List Int), ([] : (List S_api_Tree))⟩ : S_api_Tree)] : List S_api_Tree)⟩, none, some ⟨true, 25, 3, ([(⟨10, ([2] : List Int), ([] : (List S_api_Tree))⟩ : S_api_Tree)] : List S_api_Tree).length, fl e_S_api_Tree ([(⟨10, ([2] : List Int), ([] : (List S_api_Tree))⟩ : S_api_Tree)] : List S_api_Tree)⟩]) (fit_loc hU rfl rfl ?_) ?_
  · simp only [push_cast, seval, ↓reduceIte, cast_lit, hN0, hN]
  refine W_fit ⟨49, [], [(1, .sl ([(⟨10, ([1] : List Int), ([] : (List S_api_Tree))⟩ : S_api_Tree)] : List S_api_Tree).length (fl e_S_api_Tree ([(⟨10, ([1] : List Int), ([] : (List S_api_Tree))⟩ : S_api_Tree)] : List S_api_Tree))), (2, .sl ([(⟨10, ([2] : List Int), ([] : (List S_api_Tree))⟩ : S_api_Tree)] : List S_api_Tree).length (fl e_S_api_Tree ([(⟨10, ([2] : List Int), ([] : (List S_api_Tree))⟩ : S_api_Tree)] : List S_api_Tree)))]⟩ (Loc O n [none, none, none, none]) (fit_loc hU rfl rfl ?_) ?_
  · simp only [push_cast, seval, ↓reduceIte, cast_lit, hN0, hN]
  refine W_seqK ?_
  obtain ⟨y2, hy2, h⟩ := bC h
  refine W_regionD tab_ok [] ?_
  simp only [push_cast, seval, ↓reduceIte, cast_lit, hN0, hN]
  refine GCalls.dropL (l' := [none, none, none, none, none]) hU rfl ?_ ((ok_normal_Ops hy2).then ?_)
  · simp only [push_cast, seval, ↓reduceIte, cast_lit, hN0, hN]
  simp only [push_cast, seval, ↓reduceIte, cast_lit, hN0, hN]
  refine W_fit ⟨49, [], [(3, .sl y2.length (fl e_S_api_Op y2))]⟩ (Loc O n [none, none, none, none, none]) (fit_loc hU rfl rfl ?_) ?_
  · simp only [push_cast, seval, ↓reduceIte, cast_lit, hN0, hN]
  obtain ⟨z11, hz11, h⟩ := bC h
  refine W_seqN (E' := ⟨49, [], [(0, .val (.bool z11))]⟩) (O' := (Loc O n [none, none, none, none, none])) (n0 := (n + 5)) ?_ ?_
  · rcases Bool.eq_false_or_eq_true ((y2.length : Int) == 3) with c28 | c28
    · replace hz11 := condT c28 hz11
      obtain ⟨x20, hx20, ax20, bx20, cx20, hz11⟩ := bE (f := e_S_api_Op) tab69 (fun _ => rfl) (by decide) hz11
      have g21 := gpart_fld0 (f := e_S_api_Op) (sz := 14) tab3 (fun _ => rfl) (by decide) (by decide) hx20
      rcases Bool.eq_false_or_eq_true (x20.Kind == 1) with c29 | c29
      · replace hz11 := condT c29 hz11
        try rw [c29] at c28
        obtain ⟨x22, hx22, ax22, bx22, cx22, hz11⟩ := bE (f := e_S_api_Op) tab69 (fun _ => rfl) (by decide) hz11
        have g23 := gpart_fld0 (f := e_S_api_Op) (sz := 14) tab3 (fun _ => rfl) (by decide) (by decide) hx22
        rcases Bool.eq_false_or_eq_true (x22.Kind == 2) with c30 | c30
        · replace hz11 := condT c30 hz11
          try rw [c30] at c28
          try rw [c30] at c29
          obtain ⟨x24, hx24, ax24, bx24, cx24, hz11⟩ := bE (f := e_S_api_Op) tab69 (fun _ => rfl) (by decide) hz11
          have g25 := gpart_fld0 (f := e_S_api_Op) (sz := 14) tab3 (fun _ => rfl) (by decide) (by decide) hx24
          rcases Bool.eq_false_or_eq_true (x24.Kind == 0) with c31 | c31
          · replace hz11 := condT c31 hz11
            try rw [c31] at c28
            try rw [c31] at c29
            try rw [c31] at c30
            have g27 := gpart_fld (f := e_S_api_Op) (off := 1) (sz := 14) tab3 (fun _ => rfl) (by decide) (by decide) hx24
            refine W_regionD tab_ok [some true, some true, some true, some true, some true, some true, some true, some true, some true, some true, some true, some true, some true, some true, some true, some true, some true, some true, some true, some true] ?_
            simp only [push_cast, Nat.reduceAdd, Nat.reduceSub, Nat.reduceMul, Nat.reduceLeDiff, Nat.reduceLT, Nat.reduceEqDiff, ↓reduceIte, reduceCtorEq, Int.reduceBEq, Int.reduceBNe, Nat.reduceBEq, Int.reduceLE, Int.reduceLT, Int.reduceEq, Int.reduceNe, Int.reduceNeg, Nat.reduceDiv, Nat.reduceMod, Nat.reducePow, cast_lit, c28, ax20, bx20, cx20, g21, c29, ax22, bx22, cx22, g23, c30, ax24, bx24, cx24, g25, c31, g27, hN0, hN]
            have hz11 := Option.some.inj hz11; subst hz11
            refine And.intro rfl (Fit2.of (fit_loc hU rfl rfl ?_) (by omega))
            simp only [push_cast, Nat.reduceAdd, Nat.reduceSub, Nat.reduceMul, Nat.reduceLeDiff, Nat.reduceLT, Nat.reduceEqDiff, ↓reduceIte, reduceCtorEq, Int.reduceBEq, Int.reduceBNe, Nat.reduceBEq, Int.reduceLE, Int.reduceLT, Int.reduceEq, Int.reduceNe, Int.reduceNeg, Nat.reduceDiv, Nat.reduceMod, Nat.reducePow, cast_lit, c28, ax20, bx20, cx20, g21, c29, ax22, bx22, cx22, g23, c30, ax24, bx24, cx24, g25, c31, g27, hN0, hN]
          · replace hz11 := condF c31 hz11
            try rw [c31] at c28
            try rw [c31] at c29
            try rw [c31] at c30
            refine W_regionD tab_ok [some true, some true, some true, some true, some true, some true, some true, some true, some true, some true, some true, some true, some true, some true, some true, some false, some false, some false, some false, some false] ?_
            simp only [push_cast, Nat.reduceAdd, Nat.reduceSub, Nat.reduceMul, Nat.reduceLeDiff, Nat.reduceLT, Nat.reduceEqDiff, ↓reduceIte, reduceCtorEq, Int.reduceBEq, Int.reduceBNe, Nat.reduceBEq, Int.reduceLE, Int.reduceLT, Int.reduceEq, Int.reduceNe, Int.reduceNeg, Nat.reduceDiv, Nat.reduceMod, Nat.reducePow, cast_lit, c28, ax20, bx20, cx20, g21, c29, ax22, bx22, cx22, g23, c30, ax24, bx24, cx24, g25, c31, hN0, hN]
            have hz11 := Option.some.inj hz11; subst hz11
            refine And.intro rfl (Fit2.of (fit_loc hU rfl rfl ?_) (by omega))
            simp only [push_cast, Nat.reduceAdd, Nat.reduceSub, Nat.reduceMul, Nat.reduceLeDiff, Nat.reduceLT, Nat.reduceEqDiff, ↓reduceIte, reduceCtorEq, Int.reduceBEq, Int.reduceBNe, Nat.reduceBEq, Int.reduceLE, Int.reduceLT, Int.reduceEq, Int.reduceNe, Int.reduceNeg, Nat.reduceDiv, Nat.reduceMod, Nat.reducePow, cast_lit, c28, ax20, bx20, cx20, g21, c29, ax22, bx22, cx22, g23, c30, ax24, bx24, cx24, g25, c31, hN0, hN]
        · replace hz11 := condF c30 hz11
          try rw [c30] at c28
          try rw [c30] at c29
          refine W_regionD tab_ok [some true, some true, some true, some true, some true, some true, some true, some true, some true, some true, some false, some false, some false, some false, some false, some false, some false, some false, some false, some false] ?_
          simp only [push_cast, Nat.reduceAdd, Nat.reduceSub, Nat.reduceMul, Nat.reduceLeDiff, Nat.reduceLT, Nat.reduceEqDiff, ↓reduceIte, reduceCtorEq, Int.reduceBEq, Int.reduceBNe, Nat.reduceBEq, Int.reduceLE, Int.reduceLT, Int.reduceEq, Int.reduceNe, Int.reduceNeg, Nat.reduceDiv, Nat.reduceMod, Nat.reducePow, cast_lit, c28, ax20, bx20, cx20, g21, c29, ax22, bx22, cx22, g23, c30, hN0, hN]
          have hz11 := Option.some.inj hz11; subst hz11
          refine And.intro rfl (Fit2.of (fit_loc hU rfl rfl ?_) (by omega))
          simp only [push_cast, Nat.reduceAdd, Nat.reduceSub, Nat.reduceMul, Nat.reduceLeDiff, Nat.reduceLT, Nat.reduceEqDiff, ↓reduceIte, reduceCtorEq, Int.reduceBEq, Int.reduceBNe, Nat.reduceBEq, Int.reduceLE, Int.reduceLT, Int.reduceEq, Int.reduceNe, Int.reduceNeg, Nat.reduceDiv, Nat.reduceMod, Nat.reducePow, cast_lit, c28, ax20, bx20, cx20, g21, c29, ax22, bx22, cx22, g23, c30, hN0, hN]
      · replace hz11 := condF c29 hz11
        try rw [c29] at c28
        refine W_regionD tab_ok [some true, some true, some true, some true, some true, some false, some false, some false, some false, some false, some false, some false, some false, some false, some false, some false, some false, some false, some false, some false] ?_
        simp only [push_cast, Nat.reduceAdd, Nat.reduceSub, Nat.reduceMul, Nat.reduceLeDiff, Nat.reduceLT, Nat.reduceEqDiff, ↓reduceIte, reduceCtorEq, Int.reduceBEq, Int.reduceBNe, Nat.reduceBEq, Int.reduceLE, Int.reduceLT, Int.reduceEq, Int.reduceNe, Int.reduceNeg, Nat.reduceDiv, Nat.reduceMod, Nat.reducePow, cast_lit, c28, ax20, bx20, cx20, g21, c29, hN0, hN]
        have hz11 := Option.some.inj hz11; subst hz11
        refine And.intro rfl (Fit2.of (fit_loc hU rfl rfl ?_) (by omega))
        simp only [push_cast, Nat.reduceAdd, Nat.reduceSub, Nat.reduceMul, Nat.reduceLeDiff, Nat.reduceLT, Nat.reduceEqDiff, ↓reduceIte, reduceCtorEq, Int.reduceBEq, Int.reduceBNe, Nat.reduceBEq, Int.reduceLE, Int.reduceLT, Int.reduceEq, Int.reduceNe, Int.reduceNeg, Nat.reduceDiv, Nat.reduceMod, Nat.reducePow, cast_lit, c28, ax20, bx20, cx20, g21, c29, hN0, hN]
    · replace hz11 := condF c28 hz11
      refine W_regionD tab_ok [some false, some false, some false, some false, some false, some false, some false, some false, some false, some false, some false, some false, some false, some false, some false, some false, some false, some false, some false, some false] ?_
      simp only [push_cast, seval, ↓reduceIte, cast_lit, c28, hN0, hN]
      have hz11 := Option.some.inj hz11; subst hz11
      refine And.intro rfl (Fit2.of (fit_loc hU rfl rfl ?_) (by omega))
      simp only [push_cast, seval, ↓reduceIte, cast_lit, c28, hN0, hN]
  refine W_ret ?_
  try simp only [gthen, gblock]
  have h := Option.some.inj h; subst h
  refine fin_loc (.inr rfl) hU [.val (.bool z11)] (by omega) ?_
  simp only [push_cast, seval, ↓reduceIte, cast_lit, Try.results16, hN0, hN]

theorem ok_centoref01_Same {a0 : (List Int)} {a1 : (List Int)} {r : Bool} {O : Objs} {n : Nat} (h : m_centoref01_Same a0 a1 = some r) : GTo Try.prog 60 [.sl a0.length (fl (eI .u64) a0), .sl a1.length (fl (eI .u64) a1)] O n (.val (.bool r)) O n := by
  unfold m_centoref01_Same at h
  refine fn_of tab_ok Try.call60 Try.func60 rfl (Nat.le_of_ble_eq_true rfl) (Nat.le_refl _) fun hU => ?_
  have hN0 : O n = none := hU.fresh _ (Nat.le_refl _)
  have hN : ∀ k, O (n + k) = none := fun k => hU.fresh _ (Nat.le_add_right _ _)
  show W _ _ _ _ ⟨26, [], [(0, .sl a0.length (fl (eI .u64) a0)), (1, .sl a1.length (fl (eI .u64) a1))]⟩ (Loc O n []) _
  refine W_sq [0, 1] (W_regionD tab_ok [] ?_)
  simp only [push_cast, seval, ↓reduceIte, cast_lit, hN0, hN]
  refine W_seqK ?_
  refine W_sq [0, 1, 10] (W_regionD tab_ok [] ?_)
  simp only [push_cast, seval, ↓reduceIte, cast_lit, hN0, hN]
  refine W_cond (t := ((a0.length : Int) != (a1.length : Int))) rfl (fun c8 => ?_) (fun c8 => ?_)
  · replace h := condT c8 h
    refine W_sq [4] (W_regionD tab_ok [] ?_)
    simp only [push_cast, seval, ↓reduceIte, cast_lit, hN0, hN]
    refine W_ret ?_
    try simp only [gthen, gblock]
    have h := Option.some.inj h; subst h
    refine fin_loc (.inr rfl) hU [.val (.bool false)] (by omega) ?_
    simp only [push_cast, seval, ↓reduceIte, cast_lit, Try.results60, hN0, hN]
  · replace h := condF c8 h
    refine W_skip ?_
    try simp only [gthen, gblock]
    refine W_fit ⟨26, [], [(0, .sl a0.length (fl (eI .u64) a0)), (1, .sl a1.length (fl (eI .u64) a1))]⟩ (Loc O n []) (fit_loc hU rfl rfl ?_) ?_
    · simp only [push_cast, seval, ↓reduceIte, cast_lit, hN0, hN]
    refine W_seqK ?_
    refine W_sq [0, 1, 5] (W_regionD tab_ok [] ?_)
    simp only [push_cast, seval, ↓reduceIte, cast_lit, hN0, hN]
    refine W_fit ⟨26, [], [(0, .sl a0.length (fl (eI .u64) a0)), (1, .sl a1.length (fl (eI .u64) a1)), (5, .val (.int .i64 0))]⟩ (Loc O n []) (fit_loc hU rfl rfl ?_) ?_
    · simp only [push_cast, seval, ↓reduceIte, cast_lit, hN0, hN]
    obtain ⟨z7, hz7, h⟩ := bC h
    refine W_sumB (J := (SumJ (fun z7 => JR n (⟨26, [], [(4, .val (.bool false))]⟩ : Env) (Loc O n []) n) (fun z7 => JX 0 n (⟨26, [], []⟩ : Env) (Loc O n []) n))) (z := z7) ?_ fun hw => ?_
    · refine W_loopJ hz7 (fun s0_ => ⟨26, [], [(0, .sl a0.length (fl (eI .u64) a0)), (1, .sl a1.length (fl (eI .u64) a1)), (5, .val (.int .i64 s0_))]⟩) (fun s0_ => (Loc O n [])) (SumJ (fun z7 => JR n (⟨26, [], [(4, .val (.bool false))]⟩ : Env) (Loc O n []) n) (fun z7 => JX 0 n (⟨26, [], []⟩ : Env) (Loc O n []) n)) ?_
      intro s0_ x0_ hs0_
      unfold m_centoref01_Same_L0 at hs0_
      try dsimp only
      refine W_seqK ?_
      refine W_sq [0, 1, 5, 14] (W_regionD tab_ok [] ?_)
      simp only [push_cast, seval, ↓reduceIte, cast_lit, hN0, hN]
      refine W_cond (t := (decide (s0_ < (a0.length : Int)))) rfl (fun c6 => ?_) (fun c6 => ?_)
      · replace hs0_ := condT c6 hs0_
        refine W_skip ?_
        try simp only [gthen, gblock]
        refine W_fit ⟨26, [], [(0, .sl a0.length (fl (eI .u64) a0)), (1, .sl a1.length (fl (eI .u64) a1)), (5, .val (.int .i64 s0_))]⟩ (Loc O n []) (fit_loc hU rfl rfl ?_) ?_
        · simp only [push_cast, seval, ↓reduceIte, cast_lit, hN0, hN]
        refine W_seqK ?_
        refine W_block ?_
        obtain ⟨x3, hx3, ax3, bx3, cx3, hs0_⟩ := bE (f := (eI .u64)) tab56 (fun _ => rfl) (by decide) hs0_
        obtain ⟨x4, hx4, ax4, bx4, cx4, hs0_⟩ := bE (f := (eI .u64)) tab56 (fun _ => rfl) (by decide) hs0_
        refine W_sq [0, 1, 5, 25] (W_drawD tab_ok (by kernel_rfl) [] (by kernel_rfl) ?_)
        simp only [push_cast, Nat.reduceAdd, Nat.reduceSub, Nat.reduceMul, Nat.reduceLeDiff, Nat.reduceLT, Nat.reduceEqDiff, ↓reduceIte, reduceCtorEq, Int.reduceBEq, Int.reduceBNe, Nat.reduceBEq, Int.reduceLE, Int.reduceLT, Int.reduceEq, Int.reduceNe, Int.reduceNeg, Nat.reduceDiv, Nat.reduceMod, Nat.reducePow, cast_lit, ax3, bx3, cx3, ax4, bx4, cx4, hN0, hN]
        refine W_cond (t := (x3 != x4)) rfl (fun c5 => ?_) (fun c5 => ?_)
        · replace hs0_ := condT c5 hs0_
          refine W_sq [4] (W_regionD tab_ok [] ?_)
          simp only [push_cast, seval, ↓reduceIte, cast_lit, hN0, hN]
          refine W_ret ?_
          try simp only [gthen, gblock]
          have hs0_ := Option.some.inj hs0_; subst hs0_
          refine And.intro (fun h => by cases h) (And.intro rfl (Fit2.of (fit_loc hU rfl rfl ?_) (by omega)))
          simp only [push_cast, seval, ↓reduceIte, cast_lit, hN0, hN]
        · replace hs0_ := condF c5 hs0_
          refine W_skip ?_
          try simp only [gthen, gblock]
          refine W_fit ⟨26, [], [(0, .sl a0.length (fl (eI .u64) a0)), (1, .sl a1.length (fl (eI .u64) a1)), (5, .val (.int .i64 s0_))]⟩ (Loc O n []) (fit_loc hU rfl rfl ?_) ?_
          · simp only [push_cast, seval, ↓reduceIte, cast_lit, hN0, hN]
          refine W_regionD tab_ok [] ?_
          simp only [push_cast, seval, ↓reduceIte, cast_lit, hN0, hN]
          have hs0_ := Option.some.inj hs0_; subst hs0_
          refine And.intro rfl (Fit2.of (fit_loc hU rfl rfl ?_) (by omega))
          simp only [push_cast, seval, ↓reduceIte, cast_lit, hN0, hN]
      · replace hs0_ := condF c6 hs0_
        refine W_exit ?_
        try simp only [gthen, gblock, ↓reduceIte, Nat.reduceEqDiff]
        have hs0_ := Option.some.inj hs0_; subst hs0_
        refine And.intro (fun h => by cases h) (And.intro rfl (Fit2.of (fit_loc hU rfl rfl ?_) (by omega)))
        simp only [push_cast, seval, ↓reduceIte, cast_lit, hN0, hN]
    rcases z7 with z7 | z7
    · dsimp only [SumJ] at hw h
      refine W_blockR hw ?_
      try simp only [gthen, gblock, ↓reduceIte, Nat.reduceEqDiff]
      have h := Option.some.inj h; subst h
      refine fin_loc (.inr rfl) hU [.val (.bool false)] (by omega) ?_
      simp only [push_cast, seval, ↓reduceIte, cast_lit, Try.results60, hN0, hN]
    · dsimp only [SumJ] at hw h
      refine W_blockX hw ?_
      try simp only [gthen, gblock, ↓reduceIte, Nat.reduceEqDiff]
      refine W_fit ⟨26, [], []⟩ (Loc O n []) (fit_loc hU rfl rfl ?_) ?_
      · simp only [push_cast, seval, ↓reduceIte, cast_lit, hN0, hN]
      refine W_sq [4] (W_regionD tab_ok [] ?_)
      simp only [push_cast, seval, ↓reduceIte, cast_lit, hN0, hN]
      refine W_ret ?_
      try simp only [gthen, gblock]
      have h := Option.some.inj h; subst h
      refine fin_loc (.inr rfl) hU [.val (.bool true)] (by omega) ?_
      simp only [push_cast, seval, ↓reduceIte, cast_lit, Try.results60, hN0, hN]

theorem okb_centoref07_Same {r_centoref07_Same : (S_api_Tree → S_api_Tree → Option Bool)} (ok_r_centoref07_Same : ∀ {a0 : S_api_Tree} {a1 : S_api_Tree} {r : Bool} {O : Objs} {n : Nat}, r_centoref07_Same a0 a1 = some r → GTo Try.prog 25 [.agg (c_S_api_Tree a0), .agg (c_S_api_Tree a1)] O n (.val (.bool r)) O n) {a0 : S_api_Tree} {a1 : S_api_Tree} {r : Bool} {O : Objs} {n : Nat} (h : b_centoref07_Same r_centoref07_Same a0 a1 = some r) : GTo Try.prog 25 [.agg (c_S_api_Tree a0), .agg (c_S_api_Tree a1)] O n (.val (.bool r)) O n := by
  unfold b_centoref07_Same at h
  refine fn_of tab_ok Try.call25 Try.func25 rfl (Nat.le_of_ble_eq_true rfl) (Nat.le_refl _) fun hU => ?_
  have hN0 : O n = none := hU.fresh _ (Nat.le_refl _)
  have hN : ∀ k, O (n + k) = none := fun k => hU.fresh _ (Nat.le_add_right _ _)
  show W _ _ _ _ ⟨47, [], [(0, .agg (c_S_api_Tree a0)), (1, .agg (c_S_api_Tree a1))]⟩ (Loc O n []) _
  refine W_sq [2, 3] (W_regionD tab_ok [] ?_)
  simp only [push_cast, seval, ↓reduceIte, cast_lit, hN0, hN]
  refine W_seqK ?_
  obtain ⟨z2, hz2, h⟩ := bC h
  refine W_seqN (E' := ⟨47, [], [(2, .ref n 0), (3, .ref (n + 1) 0), (27, .val (.bool z2))]⟩) (O' := (Loc O n [some ⟨false, 25, 3, 1, (c_S_api_Tree a0)⟩, some ⟨false, 25, 3, 1, (c_S_api_Tree a1)⟩])) (n0 := (n + 2)) ?_ ?_
  · rcases Bool.eq_false_or_eq_true (a0.Kind != a1.Kind) with c5 | c5
    · replace hz2 := condT c5 hz2
      refine W_regionD tab_ok [some false, some false, some false, some false, some false, some false, some false, some false, some false, some false, some false, some false, some false] ?_
      simp only [push_cast, seval, ↓reduceIte, cast_lit, c5, hN0, hN]
      have hz2 := Option.some.inj hz2; subst hz2
      refine And.intro rfl (Fit2.of (fit_loc hU rfl rfl ?_) (by omega))
      simp only [push_cast, seval, ↓reduceIte, cast_lit, c5, hN0, hN]
    · replace hz2 := condF c5 hz2
      obtain ⟨y4, hy4, hz2⟩ := bC hz2
      refine W_regionD tab_ok [some true, some true, some true, some true, some true, some true, none, none, none, none, none, none, none] ?_
      simp only [push_cast, seval, ↓reduceIte, cast_lit, c5, hN0, hN]
      repeat (with_reducible refine And.intro (by first | (intro h0; simp only [h0, and_self]; done) | (intro h0; simp only [h0, Bool.not_false, Bool.not_true, Bool.true_and, Bool.and_true, true_and, and_true, and_self, imp_self, implies_true, bne_iff_ne, ne_eq, beq_iff_eq]; done) | (intros; simp_all; done) | exact True.intro) ?_)
      refine (ok_centoref01_Same hy4).then ?_
      simp only [push_cast, seval, ↓reduceIte, cast_lit, c5, hN0, hN]
      repeat (with_reducible refine And.intro (by first | (intro h0; simp only [h0, and_self]; done) | (intro h0; simp only [h0, Bool.not_false, Bool.not_true, Bool.true_and, Bool.and_true, true_and, and_true, and_self, imp_self, implies_true, bne_iff_ne, ne_eq, beq_iff_eq]; done) | (intros; simp_all; done) | exact True.intro) ?_)
      have hz2 := Option.some.inj hz2; subst hz2
      refine And.intro rfl (Fit2.of (fit_loc hU rfl rfl ?_) (by omega))
      simp only [push_cast, seval, ↓reduceIte, cast_lit, c5, hN0, hN]
  refine W_cond (t := z2) rfl (fun c15 => ?_) (fun c15 => ?_)
  · replace h := condT c15 h
    refine W_sq [4] (W_regionD tab_ok [] ?_)
    simp only [push_cast, seval, ↓reduceIte, cast_lit, hN0, hN]
    refine W_ret ?_
    try simp only [gthen, gblock]
    have h := Option.some.inj h; subst h
    refine fin_loc (.inr rfl) hU [.val (.bool false)] (by omega) ?_
    simp only [push_cast, seval, ↓reduceIte, cast_lit, Try.results25, hN0, hN]
  · replace h := condF c15 h
    refine W_skip ?_
    try simp only [gthen, gblock]
    refine W_fit ⟨47, [], [(2, .ref n 0), (3, .ref (n + 1) 0)]⟩ (Loc O n [some ⟨false, 25, 3, 1, (c_S_api_Tree a0)⟩, some ⟨false, 25, 3, 1, (c_S_api_Tree a1)⟩]) (fit_loc hU rfl rfl ?_) ?_
    · simp only [push_cast, seval, ↓reduceIte, cast_lit, hN0, hN]
    refine W_seqK ?_
    refine W_sq [2, 3, 5] (W_regionD tab_ok [] ?_)
    simp only [push_cast, seval, ↓reduceIte, cast_lit, hN0, hN]
    refine W_fit ⟨47, [], [(2, .ref n 0), (3, .ref (n + 1) 0), (5, .val (.int .i64 0))]⟩ (Loc O n [some ⟨false, 25, 3, 1, (c_S_api_Tree a0)⟩, some ⟨false, 25, 3, 1, (c_S_api_Tree a1)⟩]) (fit_loc hU rfl rfl ?_) ?_
    · simp only [push_cast, seval, ↓reduceIte, cast_lit, hN0, hN]
    obtain ⟨z14, hz14, h⟩ := bC h
    refine W_sumB (J := (SumJ (fun z14 => JR n (⟨47, [], [(4, .val (.bool false))]⟩ : Env) (Loc O n [none, none]) (n + 2)) (fun z14 => JX 0 n (⟨47, [], []⟩ : Env) (Loc O n [none, none]) (n + 2)))) (z := z14) ?_ fun hw => ?_
    · refine W_loopJ hz14 (fun s0_ => ⟨47, [], [(2, .ref n 0), (3, .ref (n + 1) 0), (5, .val (.int .i64 s0_))]⟩) (fun s0_ => (Loc O n [some ⟨false, 25, 3, 1, (c_S_api_Tree a0)⟩, some ⟨false, 25, 3, 1, (c_S_api_Tree a1)⟩])) (SumJ (fun z14 => JR n (⟨47, [], [(4, .val (.bool false))]⟩ : Env) (Loc O n [none, none]) (n + 2)) (fun z14 => JX 0 n (⟨47, [], []⟩ : Env) (Loc O n [none, none]) (n + 2))) ?_
      intro s0_ x0_ hs0_
      unfold b_centoref07_Same_L0 at hs0_
      try dsimp only
      refine W_seqK ?_
      refine W_sq [2, 3, 5, 32] (W_regionD tab_ok [] ?_)
      simp only [push_cast, seval, ↓reduceIte, cast_lit, hN0, hN]
      refine W_cond (t := (decide (s0_ < (a0.Kids.length : Int)))) rfl (fun c13 => ?_) (fun c13 => ?_)
      · replace hs0_ := condT c13 hs0_
        refine W_skip ?_
        try simp only [gthen, gblock]
        refine W_fit ⟨47, [], [(2, .ref n 0), (3, .ref (n + 1) 0), (5, .val (.int .i64 s0_))]⟩ (Loc O n [some ⟨false, 25, 3, 1, (c_S_api_Tree a0)⟩, some ⟨false, 25, 3, 1, (c_S_api_Tree a1)⟩]) (fit_loc hU rfl rfl ?_) ?_
        · simp only [push_cast, seval, ↓reduceIte, cast_lit, hN0, hN]
        refine W_seqK ?_
        refine W_block ?_
        refine W_seqK ?_
        obtain ⟨x9, hx9, ax9, bx9, cx9, hs0_⟩ := bE (f := e_S_api_Tree) tab25 (fun _ => rfl) (by decide) hs0_
        obtain ⟨x10, hx10, ax10, bx10, cx10, hs0_⟩ := bE (f := e_S_api_Tree) tab25 (fun _ => rfl) (by decide) hs0_
        obtain ⟨y11, hy11, hs0_⟩ := bC hs0_
        refine W_drawD tab_ok (by kernel_rfl) [] (by kernel_rfl) ?_
        simp only [push_cast, Nat.reduceAdd, Nat.reduceSub, Nat.reduceMul, Nat.reduceLeDiff, Nat.reduceLT, Nat.reduceEqDiff, ↓reduceIte, reduceCtorEq, Int.reduceBEq, Int.reduceBNe, Nat.reduceBEq, Int.reduceLE, Int.reduceLT, Int.reduceEq, Int.reduceNe, Int.reduceNeg, Nat.reduceDiv, Nat.reduceMod, Nat.reducePow, cast_lit, ax9, bx9, cx9, ax10, bx10, cx10, hN0, hN]
        refine PCall.of (ok_r_centoref07_Same hy11) ?_
        simp only [push_cast, Nat.reduceAdd, Nat.reduceSub, Nat.reduceMul, Nat.reduceLeDiff, Nat.reduceLT, Nat.reduceEqDiff, ↓reduceIte, reduceCtorEq, Int.reduceBEq, Int.reduceBNe, Nat.reduceBEq, Int.reduceLE, Int.reduceLT, Int.reduceEq, Int.reduceNe, Int.reduceNeg, Nat.reduceDiv, Nat.reduceMod, Nat.reducePow, cast_lit, ax9, bx9, cx9, ax10, bx10, cx10, hN0, hN]
        refine W_fit ⟨47, [], [(2, .ref n 0), (3, .ref (n + 1) 0), (5, .val (.int .i64 s0_)), (46, .val (.bool (!y11)))]⟩ (Loc O n [some ⟨false, 25, 3, 1, (c_S_api_Tree a0)⟩, some ⟨false, 25, 3, 1, (c_S_api_Tree a1)⟩]) (fit_loc hU rfl rfl ?_) ?_
        · simp only [push_cast, Nat.reduceAdd, Nat.reduceSub, Nat.reduceMul, Nat.reduceLeDiff, Nat.reduceLT, Nat.reduceEqDiff, ↓reduceIte, reduceCtorEq, Int.reduceBEq, Int.reduceBNe, Nat.reduceBEq, Int.reduceLE, Int.reduceLT, Int.reduceEq, Int.reduceNe, Int.reduceNeg, Nat.reduceDiv, Nat.reduceMod, Nat.reducePow, cast_lit, ax9, bx9, cx9, ax10, bx10, cx10, hN0, hN]
        refine W_cond (t := (!y11)) rfl (fun c12 => ?_) (fun c12 => ?_)
        · replace hs0_ := condT c12 hs0_
          refine W_sq [4] (W_regionD tab_ok [] ?_)
          simp only [push_cast, seval, ↓reduceIte, cast_lit, hN0, hN]
          refine W_ret ?_
          try simp only [gthen, gblock]
          have hs0_ := Option.some.inj hs0_; subst hs0_
          refine And.intro (fun h => by cases h) (And.intro rfl (Fit2.of (fit_loc hU rfl rfl ?_) (by omega)))
          simp only [push_cast, seval, ↓reduceIte, cast_lit, hN0, hN]
        · replace hs0_ := condF c12 hs0_
          refine W_skip ?_
          try simp only [gthen, gblock]
          refine W_fit ⟨47, [], [(2, .ref n 0), (3, .ref (n + 1) 0), (5, .val (.int .i64 s0_))]⟩ (Loc O n [some ⟨false, 25, 3, 1, (c_S_api_Tree a0)⟩, some ⟨false, 25, 3, 1, (c_S_api_Tree a1)⟩]) (fit_loc hU rfl rfl ?_) ?_
          · simp only [push_cast, seval, ↓reduceIte, cast_lit, hN0, hN]
          refine W_regionD tab_ok [] ?_
          simp only [push_cast, seval, ↓reduceIte, cast_lit, hN0, hN]
          have hs0_ := Option.some.inj hs0_; subst hs0_
          refine And.intro rfl (Fit2.of (fit_loc hU rfl rfl ?_) (by omega))
          simp only [push_cast, seval, ↓reduceIte, cast_lit, hN0, hN]
      · replace hs0_ := condF c13 hs0_
        refine W_exit ?_
        try simp only [gthen, gblock, ↓reduceIte, Nat.reduceEqDiff]
        have hs0_ := Option.some.inj hs0_; subst hs0_
        refine And.intro (fun h => by cases h) (And.intro rfl (Fit2.of (fit_loc hU rfl rfl ?_) (by omega)))
        simp only [push_cast, seval, ↓reduceIte, cast_lit, hN0, hN]
    rcases z14 with z14 | z14
    · dsimp only [SumJ] at hw h
      refine W_blockR hw ?_
      try simp only [gthen, gblock, ↓reduceIte, Nat.reduceEqDiff]
      have h := Option.some.inj h; subst h
      refine fin_loc (.inr rfl) hU [.val (.bool false)] (by omega) ?_
      simp only [push_cast, seval, ↓reduceIte, cast_lit, Try.results25, hN0, hN]
    · dsimp only [SumJ] at hw h
      refine W_blockX hw ?_
      try simp only [gthen, gblock, ↓reduceIte, Nat.reduceEqDiff]
      refine W_fit ⟨47, [], []⟩ (Loc O n [none, none]) (fit_loc hU rfl rfl ?_) ?_
      · simp only [push_cast, seval, ↓reduceIte, cast_lit, hN0, hN]
      refine W_sq [4] (W_regionD tab_ok [] ?_)
      simp only [push_cast, seval, ↓reduceIte, cast_lit, hN0, hN]
      refine W_ret ?_
      try simp only [gthen, gblock]
      have h := Option.some.inj h; subst h
      refine fin_loc (.inr rfl) hU [.val (.bool true)] (by omega) ?_
      simp only [push_cast, seval, ↓reduceIte, cast_lit, Try.results25, hN0, hN]

theorem lv_centoref07_Same_ok : ∀ k, (∀ {a0 : S_api_Tree} {a1 : S_api_Tree} {r : Bool} {O : Objs} {n : Nat}, (lv_centoref07_Same k) a0 a1 = some r → GTo Try.prog 25 [.agg (c_S_api_Tree a0), .agg (c_S_api_Tree a1)] O n (.val (.bool r)) O n) := fun k => by
  induction k with
  | zero => exact @fun a0 a1 r O n h => (nomatch (show (none : Option _) = some _ from h))
  | succ k ih => exact @fun a0 a1 r O n h => okb_centoref07_Same (ih)  h

theorem ok_centoref07_Same {a0 : S_api_Tree} {a1 : S_api_Tree} {r : Bool} {O : Objs} {n : Nat} (h : m_centoref07_Same a0 a1 = some r) : GTo Try.prog 25 [.agg (c_S_api_Tree a0), .agg (c_S_api_Tree a1)] O n (.val (.bool r)) O n := by
  obtain ⟨k, hk⟩ := lim_some h
  exact (lv_centoref07_Same_ok k)  hk

theorem ok_centoref22_sameTrees {a0 : (List S_api_Tree)} {a1 : (List S_api_Tree)} {r : Bool} {O : Objs} {n : Nat} (h : m_centoref22_sameTrees a0 a1 = some r) : GTo Try.prog 52 [.sl a0.length (fl e_S_api_Tree a0), .sl a1.length (fl e_S_api_Tree a1)] O n (.val (.bool r)) O n := by
  unfold m_centoref22_sameTrees at h
  refine fn_of tab_ok Try.call52 Try.func52 rfl (Nat.le_of_ble_eq_true rfl) (Nat.le_refl _) fun hU => ?_
  have hN0 : O n = none := hU.fresh _ (Nat.le_refl _)
  have hN : ∀ k, O (n + k) = none := fun k => hU.fresh _ (Nat.le_add_right _ _)
  show W _ _ _ _ ⟨27, [], [(0, .sl a0.length (fl e_S_api_Tree a0)), (1, .sl a1.length (fl e_S_api_Tree a1))]⟩ (Loc O n []) _
  refine W_sq [0, 1] (W_regionD tab_ok [] ?_)
  simp only [push_cast, seval, ↓reduceIte, cast_lit, hN0, hN]
  refine W_seqK ?_
  refine W_sq [0, 1, 10] (W_regionD tab_ok [] ?_)
  simp only [push_cast, seval, ↓reduceIte, cast_lit, hN0, hN]
  refine W_cond (t := ((a0.length : Int) != (a1.length : Int))) rfl (fun c10 => ?_) (fun c10 => ?_)
  · replace h := condT c10 h
    refine W_sq [4] (W_regionD tab_ok [] ?_)
    simp only [push_cast, seval, ↓reduceIte, cast_lit, hN0, hN]
    refine W_ret ?_
    try simp only [gthen, gblock]
    have h := Option.some.inj h; subst h
    refine fin_loc (.inr rfl) hU [.val (.bool false)] (by omega) ?_
    simp only [push_cast, seval, ↓reduceIte, cast_lit, Try.results52, hN0, hN]
  · replace h := condF c10 h
    refine W_skip ?_
    try simp only [gthen, gblock]
    refine W_fit ⟨27, [], [(0, .sl a0.length (fl e_S_api_Tree a0)), (1, .sl a1.length (fl e_S_api_Tree a1))]⟩ (Loc O n []) (fit_loc hU rfl rfl ?_) ?_
    · simp only [push_cast, seval, ↓reduceIte, cast_lit, hN0, hN]
    refine W_seqK ?_
    refine W_sq [0, 1, 5] (W_regionD tab_ok [] ?_)
    simp only [push_cast, seval, ↓reduceIte, cast_lit, hN0, hN]
    refine W_fit ⟨27, [], [(0, .sl a0.length (fl e_S_api_Tree a0)), (1, .sl a1.length (fl e_S_api_Tree a1)), (5, .val (.int .i64 0))]⟩ (Loc O n []) (fit_loc hU rfl rfl ?_) ?_
    · simp only [push_cast, seval, ↓reduceIte, cast_lit, hN0, hN]
    obtain ⟨z9, hz9, h⟩ := bC h
    refine W_sumB (J := (SumJ (fun z9 => JR n (⟨27, [], [(4, .val (.bool false))]⟩ : Env) (Loc O n []) n) (fun z9 => JX 0 n (⟨27, [], []⟩ : Env) (Loc O n []) n))) (z := z9) ?_ fun hw => ?_
    · refine W_loopJ hz9 (fun s0_ => ⟨27, [], [(0, .sl a0.length (fl e_S_api_Tree a0)), (1, .sl a1.length (fl e_S_api_Tree a1)), (5, .val (.int .i64 s0_))]⟩) (fun s0_ => (Loc O n [])) (SumJ (fun z9 => JR n (⟨27, [], [(4, .val (.bool false))]⟩ : Env) (Loc O n []) n) (fun z9 => JX 0 n (⟨27, [], []⟩ : Env) (Loc O n []) n)) ?_
      intro s0_ x0_ hs0_
      unfold m_centoref22_sameTrees_L0 at hs0_
      try dsimp only
      refine W_seqK ?_
      refine W_sq [0, 1, 5, 14] (W_regionD tab_ok [] ?_)
      simp only [push_cast, seval, ↓reduceIte, cast_lit, hN0, hN]
      refine W_cond (t := (decide (s0_ < (a0.length : Int)))) rfl (fun c8 => ?_) (fun c8 => ?_)
      · replace hs0_ := condT c8 hs0_
        refine W_skip ?_
        try simp only [gthen, gblock]
        refine W_fit ⟨27, [], [(0, .sl a0.length (fl e_S_api_Tree a0)), (1, .sl a1.length (fl e_S_api_Tree a1)), (5, .val (.int .i64 s0_))]⟩ (Loc O n []) (fit_loc hU rfl rfl ?_) ?_
        · simp only [push_cast, seval, ↓reduceIte, cast_lit, hN0, hN]
        refine W_seqK ?_
        refine W_block ?_
        refine W_seqK ?_
        obtain ⟨x4, hx4, ax4, bx4, cx4, hs0_⟩ := bE (f := e_S_api_Tree) tab25 (fun _ => rfl) (by decide) hs0_
        obtain ⟨x5, hx5, ax5, bx5, cx5, hs0_⟩ := bE (f := e_S_api_Tree) tab25 (fun _ => rfl) (by decide) hs0_
        obtain ⟨y6, hy6, hs0_⟩ := bC hs0_
        refine W_drawD tab_ok (by kernel_rfl) [] (by kernel_rfl) ?_
        simp only [push_cast, Nat.reduceAdd, Nat.reduceSub, Nat.reduceMul, Nat.reduceLeDiff, Nat.reduceLT, Nat.reduceEqDiff, ↓reduceIte, reduceCtorEq, Int.reduceBEq, Int.reduceBNe, Nat.reduceBEq, Int.reduceLE, Int.reduceLT, Int.reduceEq, Int.reduceNe, Int.reduceNeg, Nat.reduceDiv, Nat.reduceMod, Nat.reducePow, cast_lit, ax4, bx4, cx4, ax5, bx5, cx5, hN0, hN]
        refine PCall.of (ok_centoref07_Same hy6) ?_
        simp only [push_cast, Nat.reduceAdd, Nat.reduceSub, Nat.reduceMul, Nat.reduceLeDiff, Nat.reduceLT, Nat.reduceEqDiff, ↓reduceIte, reduceCtorEq, Int.reduceBEq, Int.reduceBNe, Nat.reduceBEq, Int.reduceLE, Int.reduceLT, Int.reduceEq, Int.reduceNe, Int.reduceNeg, Nat.reduceDiv, Nat.reduceMod, Nat.reducePow, cast_lit, ax4, bx4, cx4, ax5, bx5, cx5, hN0, hN]
        refine W_fit ⟨27, [], [(0, .sl a0.length (fl e_S_api_Tree a0)), (1, .sl a1.length (fl e_S_api_Tree a1)), (5, .val (.int .i64 s0_)), (26, .val (.bool (!y6)))]⟩ (Loc O n []) (fit_loc hU rfl rfl ?_) ?_
        · simp only [push_cast, Nat.reduceAdd, Nat.reduceSub, Nat.reduceMul, Nat.reduceLeDiff, Nat.reduceLT, Nat.reduceEqDiff, ↓reduceIte, reduceCtorEq, Int.reduceBEq, Int.reduceBNe, Nat.reduceBEq, Int.reduceLE, Int.reduceLT, Int.reduceEq, Int.reduceNe, Int.reduceNeg, Nat.reduceDiv, Nat.reduceMod, Nat.reducePow, cast_lit, ax4, bx4, cx4, ax5, bx5, cx5, hN0, hN]
        refine W_cond (t := (!y6)) rfl (fun c7 => ?_) (fun c7 => ?_)
        · replace hs0_ := condT c7 hs0_
          refine W_sq [4] (W_regionD tab_ok [] ?_)
          simp only [push_cast, seval, ↓reduceIte, cast_lit, hN0, hN]
          refine W_ret ?_
          try simp only [gthen, gblock]
          have hs0_ := Option.some.inj hs0_; subst hs0_
          refine And.intro (fun h => by cases h) (And.intro rfl (Fit2.of (fit_loc hU rfl rfl ?_) (by omega)))
          simp only [push_cast, seval, ↓reduceIte, cast_lit, hN0, hN]
        · replace hs0_ := condF c7 hs0_
          refine W_skip ?_
          try simp only [gthen, gblock]
          refine W_fit ⟨27, [], [(0, .sl a0.length (fl e_S_api_Tree a0)), (1, .sl a1.length (fl e_S_api_Tree a1)), (5, .val (.int .i64 s0_))]⟩ (Loc O n []) (fit_loc hU rfl rfl ?_) ?_
          · simp only [push_cast, seval, ↓reduceIte, cast_lit, hN0, hN]
          refine W_regionD tab_ok [] ?_
          simp only [push_cast, seval, ↓reduceIte, cast_lit, hN0, hN]
          have hs0_ := Option.some.inj hs0_; subst hs0_
          refine And.intro rfl (Fit2.of (fit_loc hU rfl rfl ?_) (by omega))
          simp only [push_cast, seval, ↓reduceIte, cast_lit, hN0, hN]
      · replace hs0_ := condF c8 hs0_
        refine W_exit ?_
        try simp only [gthen, gblock, ↓reduceIte, Nat.reduceEqDiff]
        have hs0_ := Option.some.inj hs0_; subst hs0_
        refine And.intro (fun h => by cases h) (And.intro rfl (Fit2.of (fit_loc hU rfl rfl ?_) (by omega)))
        simp only [push_cast, seval, ↓reduceIte, cast_lit, hN0, hN]
    rcases z9 with z9 | z9
    · dsimp only [SumJ] at hw h
      refine W_blockR hw ?_
      try simp only [gthen, gblock, ↓reduceIte, Nat.reduceEqDiff]
      have h := Option.some.inj h; subst h
      refine fin_loc (.inr rfl) hU [.val (.bool false)] (by omega) ?_
      simp only [push_cast, seval, ↓reduceIte, cast_lit, Try.results52, hN0, hN]
    · dsimp only [SumJ] at hw h
      refine W_blockX hw ?_
      try simp only [gthen, gblock, ↓reduceIte, Nat.reduceEqDiff]
      refine W_fit ⟨27, [], []⟩ (Loc O n []) (fit_loc hU rfl rfl ?_) ?_
      · simp only [push_cast, seval, ↓reduceIte, cast_lit, hN0, hN]
      refine W_sq [4] (W_regionD tab_ok [] ?_)
      simp only [push_cast, seval, ↓reduceIte, cast_lit, hN0, hN]
      refine W_ret ?_
      try simp only [gthen, gblock]
      have h := Option.some.inj h; subst h
      refine fin_loc (.inr rfl) hU [.val (.bool true)] (by omega) ?_
      simp only [push_cast, seval, ↓reduceIte, cast_lit, Try.results52, hN0, hN]

theorem okb_centoref22_Same {r_centoref22_Same : (S_api_Edit → S_api_Edit → Option Bool)} (ok_r_centoref22_Same : ∀ {a0 : S_api_Edit} {a1 : S_api_Edit} {r : Bool} {O : Objs} {n : Nat}, r_centoref22_Same a0 a1 = some r → GTo Try.prog 17 [.agg (c_S_api_Edit a0), .agg (c_S_api_Edit a1)] O n (.val (.bool r)) O n) {a0 : S_api_Edit} {a1 : S_api_Edit} {r : Bool} {O : Objs} {n : Nat} (h : b_centoref22_Same r_centoref22_Same a0 a1 = some r) : GTo Try.prog 17 [.agg (c_S_api_Edit a0), .agg (c_S_api_Edit a1)] O n (.val (.bool r)) O n := by
  unfold b_centoref22_Same at h
  refine fn_of tab_ok Try.call17 Try.func17 rfl (Nat.le_of_ble_eq_true rfl) (Nat.le_refl _) fun hU => ?_
  have hN0 : O n = none := hU.fresh _ (Nat.le_refl _)
  have hN : ∀ k, O (n + k) = none := fun k => hU.fresh _ (Nat.le_add_right _ _)
  show W _ _ _ _ ⟨164, [], [(0, .agg (c_S_api_Edit a0)), (1, .agg (c_S_api_Edit a1))]⟩ (Loc O n []) _
  refine W_sq [2, 3] (W_regionD tab_ok [] ?_)
  simp only [push_cast, seval, ↓reduceIte, cast_lit, hN0, hN]
  refine W_seqK ?_
  obtain ⟨z3, hz3, h⟩ := bC h
  refine W_seqN (E' := ⟨164, [], [(2, .ref n 0), (3, .ref (n + 1) 0), (64, .val (.bool z3))]⟩) (O' := (Loc O n [some ⟨false, 30, 11, 1, (c_S_api_Edit a0)⟩, some ⟨false, 30, 11, 1, (c_S_api_Edit a1)⟩])) (n0 := (n + 2)) ?_ ?_
  · rcases Bool.eq_false_or_eq_true (a0.Kind != a1.Kind) with c8 | c8
    · replace hz3 := condT c8 hz3
      refine W_regionD tab_ok [none, none, none, none, none, some false, some false, some false, some false, some false, some false, some false, some false, some false, some false, some false, some false, some false, some false, some false, some false, some false, some false, some false, some false, some false, some false, some false, some false, some false, some false, some false, some false, some false, some false, some false, some false, some false] ?_
      simp only [push_cast, seval, ↓reduceIte, cast_lit, c8, hN0, hN]
      repeat (with_reducible refine And.intro (by first | (intro h0; simp only [h0, and_self]; done) | (intro h0; simp only [h0, Bool.not_false, Bool.not_true, Bool.true_and, Bool.and_true, true_and, and_true, and_self, imp_self, implies_true, bne_iff_ne, ne_eq, beq_iff_eq]; done) | (intros; simp_all; done) | exact True.intro) ?_)
      have hz3 := Option.some.inj hz3; subst hz3
      refine And.intro rfl (Fit2.of (fit_loc hU rfl rfl ?_) (by omega))
      simp only [push_cast, seval, ↓reduceIte, cast_lit, c8, hN0, hN]
    · replace hz3 := condF c8 hz3
      rcases Bool.eq_false_or_eq_true (a0.List_ != a1.List_) with c9 | c9
      · replace hz3 := condT c9 hz3
        try rw [c9] at c8
        refine W_regionD tab_ok [none, none, none, none, none, some false, some false, some false, some false, some false, some false, some false, some false, some false, some false, some false, some false, some false, some false, some false, some false, some false, some false, some false, some false, some false, some false, some false, some false, some false, some false, some false, some false, some false, some false, some false, some false, some false] ?_
        simp only [push_cast, seval, ↓reduceIte, cast_lit, c8, c9, hN0, hN]
        repeat (with_reducible refine And.intro (by first | (intro h0; simp only [h0, and_self]; done) | (intro h0; simp only [h0, Bool.not_false, Bool.not_true, Bool.true_and, Bool.and_true, true_and, and_true, and_self, imp_self, implies_true, bne_iff_ne, ne_eq, beq_iff_eq]; done) | (intros; simp_all; done) | exact True.intro) ?_)
        have hz3 := Option.some.inj hz3; subst hz3
        refine And.intro rfl (Fit2.of (fit_loc hU rfl rfl ?_) (by omega))
        simp only [push_cast, seval, ↓reduceIte, cast_lit, c8, c9, hN0, hN]
      · replace hz3 := condF c9 hz3
        try rw [c9] at c8
        obtain ⟨y6, hy6, hz3⟩ := bC hz3
        rcases Bool.eq_false_or_eq_true y6 with c10 | c10
        · replace hz3 := condT c10 hz3
          try rw [c10] at c8
          try rw [c10] at c9
          obtain ⟨y7, hy7, hz3⟩ := bC hz3
          refine W_regionD tab_ok [none, none, none, none, none, some true, some true, some true, some true, some true, some true, some true, some true, some true, some true, some true, some true, none, none, none, none, none, none, none, none, none, none, none, none, none, none, none, none, none, none, none, none, none] ?_
          simp only [push_cast, seval, ↓reduceIte, cast_lit, c8, c9, c10, hN0, hN]
          repeat (with_reducible refine And.intro (by first | (intro h0; simp only [h0, and_self]; done) | (intro h0; simp only [h0, Bool.not_false, Bool.not_true, Bool.true_and, Bool.and_true, true_and, and_true, and_self, imp_self, implies_true, bne_iff_ne, ne_eq, beq_iff_eq]; done) | (intros; simp_all; done) | exact True.intro) ?_)
          refine (ok_centoref07_Same hy6).then ?_
          simp only [push_cast, seval, ↓reduceIte, cast_lit, c8, c9, c10, hN0, hN]
          repeat (with_reducible refine And.intro (by first | (intro h0; simp only [h0, and_self]; done) | (intro h0; simp only [h0, Bool.not_false, Bool.not_true, Bool.true_and, Bool.and_true, true_and, and_true, and_self, imp_self, implies_true, bne_iff_ne, ne_eq, beq_iff_eq]; done) | (intros; simp_all; done) | exact True.intro) ?_)
          refine (ok_centoref07_Same hy7).then ?_
          simp only [push_cast, seval, ↓reduceIte, cast_lit, c8, c9, c10, hN0, hN]
          repeat (with_reducible refine And.intro (by first | (intro h0; simp only [h0, and_self]; done) | (intro h0; simp only [h0, Bool.not_false, Bool.not_true, Bool.true_and, Bool.and_true, true_and, and_true, and_self, imp_self, implies_true, bne_iff_ne, ne_eq, beq_iff_eq]; done) | (intros; simp_all; done) | exact True.intro) ?_)
          have hz3 := Option.some.inj hz3; subst hz3
          refine And.intro rfl (Fit2.of (fit_loc hU rfl rfl ?_) (by omega))
          simp only [push_cast, seval, ↓reduceIte, cast_lit, c8, c9, c10, hN0, hN]
        · replace hz3 := condF c10 hz3
          try rw [c10] at c8
          try rw [c10] at c9
          refine W_regionD tab_ok [none, none, none, none, none, some true, some true, some true, some true, some true, some true, some false, some false, some false, some false, some false, some false, some false, some false, some false, some false, some false, some false, some false, some false, some false, some false, some false, some false, some false, some false, some false, some false, some false, some false, some false, some false, some false] ?_
          simp only [push_cast, seval, ↓reduceIte, cast_lit, c8, c9, c10, hN0, hN]
          repeat (with_reducible refine And.intro (by first | (intro h0; simp only [h0, and_self]; done) | (intro h0; simp only [h0, Bool.not_false, Bool.not_true, Bool.true_and, Bool.and_true, true_and, and_true, and_self, imp_self, implies_true, bne_iff_ne, ne_eq, beq_iff_eq]; done) | (intros; simp_all; done) | exact True.intro) ?_)
          refine (ok_centoref07_Same hy6).then ?_
          simp only [push_cast, seval, ↓reduceIte, cast_lit, c8, c9, c10, hN0, hN]
          repeat (with_reducible refine And.intro (by first | (intro h0; simp only [h0, and_self]; done) | (intro h0; simp only [h0, Bool.not_false, Bool.not_true, Bool.true_and, Bool.and_true, true_and, and_true, and_self, imp_self, implies_true, bne_iff_ne, ne_eq, beq_iff_eq]; done) | (intros; simp_all; done) | exact True.intro) ?_)
          have hz3 := Option.some.inj hz3; subst hz3
          refine And.intro rfl (Fit2.of (fit_loc hU rfl rfl ?_) (by omega))
          simp only [push_cast, seval, ↓reduceIte, cast_lit, c8, c9, c10, hN0, hN]
  refine W_cond (t := z3) rfl (fun c65 => ?_) (fun c65 => ?_)
  · replace h := condT c65 h
    refine W_sq [4] (W_regionD tab_ok [] ?_)
    simp only [push_cast, seval, ↓reduceIte, cast_lit, hN0, hN]
    refine W_ret ?_
    try simp only [gthen, gblock]
    have h := Option.some.inj h; subst h
    refine fin_loc (.inr rfl) hU [.val (.bool false)] (by omega) ?_
    simp only [push_cast, seval, ↓reduceIte, cast_lit, Try.results17, hN0, hN]
  · replace h := condF c65 h
    refine W_skip ?_
    try simp only [gthen, gblock]
    refine W_fit ⟨164, [], [(2, .ref n 0), (3, .ref (n + 1) 0)]⟩ (Loc O n [some ⟨false, 30, 11, 1, (c_S_api_Edit a0)⟩, some ⟨false, 30, 11, 1, (c_S_api_Edit a1)⟩]) (fit_loc hU rfl rfl ?_) ?_
    · simp only [push_cast, seval, ↓reduceIte, cast_lit, hN0, hN]
    refine W_seqK ?_
    refine W_sq [2, 3, 5] (W_regionD tab_ok [] ?_)
    simp only [push_cast, seval, ↓reduceIte, cast_lit, hN0, hN]
    refine W_fit ⟨164, [], [(2, .ref n 0), (3, .ref (n + 1) 0), (5, .val (.int .i64 0))]⟩ (Loc O n [some ⟨false, 30, 11, 1, (c_S_api_Edit a0)⟩, some ⟨false, 30, 11, 1, (c_S_api_Edit a1)⟩]) (fit_loc hU rfl rfl ?_) ?_
    · simp only [push_cast, seval, ↓reduceIte, cast_lit, hN0, hN]
    obtain ⟨z17, hz17, h⟩ := bC h
    refine W_sumB (J := (SumJ (fun z17 => JR n (⟨164, [], [(4, .val (.bool false))]⟩ : Env) (Loc O n [none, none]) (n + 2)) (fun z17 => JX 0 n (⟨164, [], [(2, .ref n 0), (3, .ref (n + 1) 0)]⟩ : Env) (Loc O n [some ⟨false, 30, 11, 1, (c_S_api_Edit a0)⟩, some ⟨false, 30, 11, 1, (c_S_api_Edit a1)⟩]) (n + 2)))) (z := z17) ?_ fun hw => ?_
    · refine W_loopJ hz17 (fun s0_ => ⟨164, [], [(2, .ref n 0), (3, .ref (n + 1) 0), (5, .val (.int .i64 s0_))]⟩) (fun s0_ => (Loc O n [some ⟨false, 30, 11, 1, (c_S_api_Edit a0)⟩, some ⟨false, 30, 11, 1, (c_S_api_Edit a1)⟩])) (SumJ (fun z17 => JR n (⟨164, [], [(4, .val (.bool false))]⟩ : Env) (Loc O n [none, none]) (n + 2)) (fun z17 => JX 0 n (⟨164, [], [(2, .ref n 0), (3, .ref (n + 1) 0)]⟩ : Env) (Loc O n [some ⟨false, 30, 11, 1, (c_S_api_Edit a0)⟩, some ⟨false, 30, 11, 1, (c_S_api_Edit a1)⟩]) (n + 2))) ?_
      intro s0_ x0_ hs0_
      unfold b_centoref22_Same_L0 at hs0_
      try dsimp only
      refine W_seqK ?_
      refine W_sq [2, 3, 5, 69] (W_regionD tab_ok [] ?_)
      simp only [push_cast, seval, ↓reduceIte, cast_lit, hN0, hN]
      refine W_cond (t := (decide (s0_ < (a0.Words.length : Int)))) rfl (fun c16 => ?_) (fun c16 => ?_)
      · replace hs0_ := condT c16 hs0_
        refine W_skip ?_
        try simp only [gthen, gblock]
        refine W_fit ⟨164, [], [(2, .ref n 0), (3, .ref (n + 1) 0), (5, .val (.int .i64 s0_))]⟩ (Loc O n [some ⟨false, 30, 11, 1, (c_S_api_Edit a0)⟩, some ⟨false, 30, 11, 1, (c_S_api_Edit a1)⟩]) (fit_loc hU rfl rfl ?_) ?_
        · simp only [push_cast, seval, ↓reduceIte, cast_lit, hN0, hN]
        refine W_seqK ?_
        refine W_block ?_
        obtain ⟨x13, hx13, ax13, bx13, cx13, hs0_⟩ := bE (f := e_S_api_WordEdit) tab58 (fun _ => rfl) (by decide) hs0_
        obtain ⟨x14, hx14, ax14, bx14, cx14, hs0_⟩ := bE (f := e_S_api_WordEdit) tab58 (fun _ => rfl) (by decide) hs0_
        refine W_sq [2, 3, 5, 82] (W_drawD tab_ok (by kernel_rfl) [] (by kernel_rfl) ?_)
        simp only [push_cast, Nat.reduceAdd, Nat.reduceSub, Nat.reduceMul, Nat.reduceLeDiff, Nat.reduceLT, Nat.reduceEqDiff, ↓reduceIte, reduceCtorEq, Int.reduceBEq, Int.reduceBNe, Nat.reduceBEq, Int.reduceLE, Int.reduceLT, Int.reduceEq, Int.reduceNe, Int.reduceNeg, Nat.reduceDiv, Nat.reduceMod, Nat.reducePow, cast_lit, ax13, bx13, cx13, ax14, bx14, cx14, hN0, hN]
        refine W_cond (t := (!((x13.At == x14.At) && ((x13.Mask == x14.Mask) && ((x13.Old == x14.Old) && (x13.New == x14.New)))))) rfl (fun c15 => ?_) (fun c15 => ?_)
        · replace hs0_ := condT c15 hs0_
          refine W_sq [4] (W_regionD tab_ok [] ?_)
          simp only [push_cast, seval, ↓reduceIte, cast_lit, hN0, hN]
          refine W_ret ?_
          try simp only [gthen, gblock]
          have hs0_ := Option.some.inj hs0_; subst hs0_
          refine And.intro (fun h => by cases h) (And.intro rfl (Fit2.of (fit_loc hU rfl rfl ?_) (by omega)))
          simp only [push_cast, seval, ↓reduceIte, cast_lit, hN0, hN]
        · replace hs0_ := condF c15 hs0_
          refine W_skip ?_
          try simp only [gthen, gblock]
          refine W_fit ⟨164, [], [(2, .ref n 0), (3, .ref (n + 1) 0), (5, .val (.int .i64 s0_))]⟩ (Loc O n [some ⟨false, 30, 11, 1, (c_S_api_Edit a0)⟩, some ⟨false, 30, 11, 1, (c_S_api_Edit a1)⟩]) (fit_loc hU rfl rfl ?_) ?_
          · simp only [push_cast, seval, ↓reduceIte, cast_lit, hN0, hN]
          refine W_regionD tab_ok [] ?_
          simp only [push_cast, seval, ↓reduceIte, cast_lit, hN0, hN]
          have hs0_ := Option.some.inj hs0_; subst hs0_
          refine And.intro rfl (Fit2.of (fit_loc hU rfl rfl ?_) (by omega))
          simp only [push_cast, seval, ↓reduceIte, cast_lit, hN0, hN]
      · replace hs0_ := condF c16 hs0_
        refine W_exit ?_
        try simp only [gthen, gblock, ↓reduceIte, Nat.reduceEqDiff]
        have hs0_ := Option.some.inj hs0_; subst hs0_
        refine And.intro (fun h => by cases h) (And.intro rfl (Fit2.of (fit_loc hU rfl rfl ?_) (by omega)))
        simp only [push_cast, seval, ↓reduceIte, cast_lit, hN0, hN]
    rcases z17 with z17 | z17
    · dsimp only [SumJ] at hw h
      refine W_blockR hw ?_
      try simp only [gthen, gblock, ↓reduceIte, Nat.reduceEqDiff]
      have h := Option.some.inj h; subst h
      refine fin_loc (.inr rfl) hU [.val (.bool false)] (by omega) ?_
      simp only [push_cast, seval, ↓reduceIte, cast_lit, Try.results17, hN0, hN]
    · dsimp only [SumJ] at hw h
      refine W_blockX hw ?_
      try simp only [gthen, gblock, ↓reduceIte, Nat.reduceEqDiff]
      refine W_fit ⟨164, [], [(2, .ref n 0), (3, .ref (n + 1) 0)]⟩ (Loc O n [some ⟨false, 30, 11, 1, (c_S_api_Edit a0)⟩, some ⟨false, 30, 11, 1, (c_S_api_Edit a1)⟩]) (fit_loc hU rfl rfl ?_) ?_
      · simp only [push_cast, seval, ↓reduceIte, cast_lit, hN0, hN]
      refine W_seqK ?_
      refine W_sq [2, 3, 6] (W_regionD tab_ok [] ?_)
      simp only [push_cast, seval, ↓reduceIte, cast_lit, hN0, hN]
      refine W_fit ⟨164, [], [(2, .ref n 0), (3, .ref (n + 1) 0), (6, .val (.int .i64 0))]⟩ (Loc O n [some ⟨false, 30, 11, 1, (c_S_api_Edit a0)⟩, some ⟨false, 30, 11, 1, (c_S_api_Edit a1)⟩]) (fit_loc hU rfl rfl ?_) ?_
      · simp only [push_cast, seval, ↓reduceIte, cast_lit, hN0, hN]
      obtain ⟨z49, hz49, h⟩ := bC h
      refine W_sumB (J := (SumJ (fun z49 => JR n (⟨164, [], [(4, .val (.bool false))]⟩ : Env) (Loc O n [none, none]) (n + 2)) (fun z49 => JX 2 n (⟨164, [], [(2, .ref n 0), (3, .ref (n + 1) 0)]⟩ : Env) (Loc O n [some ⟨false, 30, 11, 1, (c_S_api_Edit a0)⟩, some ⟨false, 30, 11, 1, (c_S_api_Edit a1)⟩]) (n + 2)))) (z := z49) ?_ fun hw => ?_
      · refine W_loopJ hz49 (fun s1_ => ⟨164, [], [(2, .ref n 0), (3, .ref (n + 1) 0), (6, .val (.int .i64 s1_))]⟩) (fun s1_ => (Loc O n [some ⟨false, 30, 11, 1, (c_S_api_Edit a0)⟩, some ⟨false, 30, 11, 1, (c_S_api_Edit a1)⟩])) (SumJ (fun z49 => JR n (⟨164, [], [(4, .val (.bool false))]⟩ : Env) (Loc O n [none, none]) (n + 2)) (fun z49 => JX 2 n (⟨164, [], [(2, .ref n 0), (3, .ref (n + 1) 0)]⟩ : Env) (Loc O n [some ⟨false, 30, 11, 1, (c_S_api_Edit a0)⟩, some ⟨false, 30, 11, 1, (c_S_api_Edit a1)⟩]) (n + 2))) ?_
        intro s1_ x1_ hs1_
        unfold b_centoref22_Same_L1 at hs1_
        try dsimp only
        refine W_seqK ?_
        refine W_sq [2, 3, 6, 87] (W_regionD tab_ok [] ?_)
        simp only [push_cast, seval, ↓reduceIte, cast_lit, hN0, hN]
        refine W_cond (t := (decide (s1_ < (a0.Kids.length : Int)))) rfl (fun c48 => ?_) (fun c48 => ?_)
        · replace hs1_ := condT c48 hs1_
          refine W_skip ?_
          try simp only [gthen, gblock]
          refine W_fit ⟨164, [], [(2, .ref n 0), (3, .ref (n + 1) 0), (6, .val (.int .i64 s1_))]⟩ (Loc O n [some ⟨false, 30, 11, 1, (c_S_api_Edit a0)⟩, some ⟨false, 30, 11, 1, (c_S_api_Edit a1)⟩]) (fit_loc hU rfl rfl ?_) ?_
          · simp only [push_cast, seval, ↓reduceIte, cast_lit, hN0, hN]
          refine W_seqK ?_
          refine W_block ?_
          obtain ⟨z27, hz27, hs1_⟩ := bC hs1_
          refine W_seqN (E' := ⟨164, [], [(2, .ref n 0), (3, .ref (n + 1) 0), (6, .val (.int .i64 s1_)), (118, .val (.bool z27))]⟩) (O' := (Loc O n [some ⟨false, 30, 11, 1, (c_S_api_Edit a0)⟩, some ⟨false, 30, 11, 1, (c_S_api_Edit a1)⟩])) (n0 := (n + 2)) ?_ ?_
          · obtain ⟨x37, hx37, ax37, bx37, cx37, hz27⟩ := bE (f := e_S_api_KidEdit) tab71 (fun _ => rfl) (by decide) hz27
            have g38 := gpart_fld0 (f := e_S_api_KidEdit) (sz := 12) tab3 (fun _ => rfl) (by decide) (by decide) hx37
            obtain ⟨x39, hx39, ax39, bx39, cx39, hz27⟩ := bE (f := e_S_api_KidEdit) tab71 (fun _ => rfl) (by decide) hz27
            have g40 := gpart_fld0 (f := e_S_api_KidEdit) (sz := 12) tab3 (fun _ => rfl) (by decide) (by decide) hx39
            rcases Bool.eq_false_or_eq_true (x37.At != x39.At) with c46 | c46
            · replace hz27 := condT c46 hz27
              refine W_drawD tab_ok (by kernel_rfl) [some false, some false, some false, some false, some false, some false, some false, some false, some false, some false, some false, some false, some false, some false] (by kernel_rfl) ?_
              simp only [push_cast, Nat.reduceAdd, Nat.reduceSub, Nat.reduceMul, Nat.reduceLeDiff, Nat.reduceLT, Nat.reduceEqDiff, ↓reduceIte, reduceCtorEq, Int.reduceBEq, Int.reduceBNe, Nat.reduceBEq, Int.reduceLE, Int.reduceLT, Int.reduceEq, Int.reduceNe, Int.reduceNeg, Nat.reduceDiv, Nat.reduceMod, Nat.reducePow, cast_lit, ax37, bx37, cx37, g38, ax39, bx39, cx39, g40, c46, hN0, hN]
              have hz27 := Option.some.inj hz27; subst hz27
              refine And.intro rfl (Fit2.of (fit_loc hU rfl rfl ?_) (by omega))
              simp only [push_cast, Nat.reduceAdd, Nat.reduceSub, Nat.reduceMul, Nat.reduceLeDiff, Nat.reduceLT, Nat.reduceEqDiff, ↓reduceIte, reduceCtorEq, Int.reduceBEq, Int.reduceBNe, Nat.reduceBEq, Int.reduceLE, Int.reduceLT, Int.reduceEq, Int.reduceNe, Int.reduceNeg, Nat.reduceDiv, Nat.reduceMod, Nat.reducePow, cast_lit, ax37, bx37, cx37, g38, ax39, bx39, cx39, g40, c46, hN0, hN]
            · replace hz27 := condF c46 hz27
              have g42 := gpart_fld (f := e_S_api_KidEdit) (off := 1) (sz := 12) tab30 (fun _ => rfl) (by decide) (by decide) hx37
              have g44 := gpart_fld (f := e_S_api_KidEdit) (off := 1) (sz := 12) tab30 (fun _ => rfl) (by decide) (by decide) hx39
              obtain ⟨y45, hy45, hz27⟩ := bC hz27
              refine W_drawD tab_ok (by kernel_rfl) [some true, some true, some true, some true, some true, some true, some true, some true, some true, some true, some true, some true, some true, some true] (by kernel_rfl) ?_
              simp only [push_cast, Nat.reduceAdd, Nat.reduceSub, Nat.reduceMul, Nat.reduceLeDiff, Nat.reduceLT, Nat.reduceEqDiff, ↓reduceIte, reduceCtorEq, Int.reduceBEq, Int.reduceBNe, Nat.reduceBEq, Int.reduceLE, Int.reduceLT, Int.reduceEq, Int.reduceNe, Int.reduceNeg, Nat.reduceDiv, Nat.reduceMod, Nat.reducePow, cast_lit, ax37, bx37, cx37, g38, ax39, bx39, cx39, g40, c46, g42, g44, hN0, hN]
              refine PCall.of (ok_r_centoref22_Same hy45) ?_
              simp only [push_cast, Nat.reduceAdd, Nat.reduceSub, Nat.reduceMul, Nat.reduceLeDiff, Nat.reduceLT, Nat.reduceEqDiff, ↓reduceIte, reduceCtorEq, Int.reduceBEq, Int.reduceBNe, Nat.reduceBEq, Int.reduceLE, Int.reduceLT, Int.reduceEq, Int.reduceNe, Int.reduceNeg, Nat.reduceDiv, Nat.reduceMod, Nat.reducePow, cast_lit, ax37, bx37, cx37, g38, ax39, bx39, cx39, g40, c46, g42, g44, hN0, hN]
              have hz27 := Option.some.inj hz27; subst hz27
              refine And.intro rfl (Fit2.of (fit_loc hU rfl rfl ?_) (by omega))
              simp only [push_cast, Nat.reduceAdd, Nat.reduceSub, Nat.reduceMul, Nat.reduceLeDiff, Nat.reduceLT, Nat.reduceEqDiff, ↓reduceIte, reduceCtorEq, Int.reduceBEq, Int.reduceBNe, Nat.reduceBEq, Int.reduceLE, Int.reduceLT, Int.reduceEq, Int.reduceNe, Int.reduceNeg, Nat.reduceDiv, Nat.reduceMod, Nat.reducePow, cast_lit, ax37, bx37, cx37, g38, ax39, bx39, cx39, g40, c46, g42, g44, hN0, hN]
          refine W_cond (t := z27) rfl (fun c47 => ?_) (fun c47 => ?_)
          · replace hs1_ := condT c47 hs1_
            refine W_sq [4] (W_regionD tab_ok [] ?_)
            simp only [push_cast, seval, ↓reduceIte, cast_lit, hN0, hN]
            refine W_ret ?_
            try simp only [gthen, gblock]
            have hs1_ := Option.some.inj hs1_; subst hs1_
            refine And.intro (fun h => by cases h) (And.intro rfl (Fit2.of (fit_loc hU rfl rfl ?_) (by omega)))
            simp only [push_cast, seval, ↓reduceIte, cast_lit, hN0, hN]
          · replace hs1_ := condF c47 hs1_
            refine W_skip ?_
            try simp only [gthen, gblock]
            refine W_fit ⟨164, [], [(2, .ref n 0), (3, .ref (n + 1) 0), (6, .val (.int .i64 s1_))]⟩ (Loc O n [some ⟨false, 30, 11, 1, (c_S_api_Edit a0)⟩, some ⟨false, 30, 11, 1, (c_S_api_Edit a1)⟩]) (fit_loc hU rfl rfl ?_) ?_
            · simp only [push_cast, seval, ↓reduceIte, cast_lit, hN0, hN]
            refine W_regionD tab_ok [] ?_
            simp only [push_cast, seval, ↓reduceIte, cast_lit, hN0, hN]
            have hs1_ := Option.some.inj hs1_; subst hs1_
            refine And.intro rfl (Fit2.of (fit_loc hU rfl rfl ?_) (by omega))
            simp only [push_cast, seval, ↓reduceIte, cast_lit, hN0, hN]
        · replace hs1_ := condF c48 hs1_
          refine W_exit ?_
          try simp only [gthen, gblock, ↓reduceIte, Nat.reduceEqDiff]
          have hs1_ := Option.some.inj hs1_; subst hs1_
          refine And.intro (fun h => by cases h) (And.intro rfl (Fit2.of (fit_loc hU rfl rfl ?_) (by omega)))
          simp only [push_cast, seval, ↓reduceIte, cast_lit, hN0, hN]
      rcases z49 with z49 | z49
      · dsimp only [SumJ] at hw h
        refine W_blockR hw ?_
        try simp only [gthen, gblock, ↓reduceIte, Nat.reduceEqDiff]
        have h := Option.some.inj h; subst h
        refine fin_loc (.inr rfl) hU [.val (.bool false)] (by omega) ?_
        simp only [push_cast, seval, ↓reduceIte, cast_lit, Try.results17, hN0, hN]
      · dsimp only [SumJ] at hw h
        refine W_blockX hw ?_
        try simp only [gthen, gblock, ↓reduceIte, Nat.reduceEqDiff]
        refine W_fit ⟨164, [], [(2, .ref n 0), (3, .ref (n + 1) 0)]⟩ (Loc O n [some ⟨false, 30, 11, 1, (c_S_api_Edit a0)⟩, some ⟨false, 30, 11, 1, (c_S_api_Edit a1)⟩]) (fit_loc hU rfl rfl ?_) ?_
        · simp only [push_cast, seval, ↓reduceIte, cast_lit, hN0, hN]
        refine W_seqK ?_
        refine W_sq [2, 3, 7] (W_regionD tab_ok [] ?_)
        simp only [push_cast, seval, ↓reduceIte, cast_lit, hN0, hN]
        refine W_fit ⟨164, [], [(2, .ref n 0), (3, .ref (n + 1) 0), (7, .val (.int .i64 0))]⟩ (Loc O n [some ⟨false, 30, 11, 1, (c_S_api_Edit a0)⟩, some ⟨false, 30, 11, 1, (c_S_api_Edit a1)⟩]) (fit_loc hU rfl rfl ?_) ?_
        · simp only [push_cast, seval, ↓reduceIte, cast_lit, hN0, hN]
        obtain ⟨z64, hz64, h⟩ := bC h
        refine W_sumB (J := (SumJ (fun z64 => JR n (⟨164, [], [(4, .val (.bool false))]⟩ : Env) (Loc O n [none, none]) (n + 2)) (fun z64 => JX 4 n (⟨164, [], []⟩ : Env) (Loc O n [none, none]) (n + 2)))) (z := z64) ?_ fun hw => ?_
        · refine W_loopJ hz64 (fun s2_ => ⟨164, [], [(2, .ref n 0), (3, .ref (n + 1) 0), (7, .val (.int .i64 s2_))]⟩) (fun s2_ => (Loc O n [some ⟨false, 30, 11, 1, (c_S_api_Edit a0)⟩, some ⟨false, 30, 11, 1, (c_S_api_Edit a1)⟩])) (SumJ (fun z64 => JR n (⟨164, [], [(4, .val (.bool false))]⟩ : Env) (Loc O n [none, none]) (n + 2)) (fun z64 => JX 4 n (⟨164, [], []⟩ : Env) (Loc O n [none, none]) (n + 2))) ?_
          intro s2_ x2_ hs2_
          unfold b_centoref22_Same_L2 at hs2_
          try dsimp only
          refine W_seqK ?_
          refine W_sq [2, 3, 7, 123] (W_regionD tab_ok [] ?_)
          simp only [push_cast, seval, ↓reduceIte, cast_lit, hN0, hN]
          refine W_cond (t := (decide (s2_ < (a0.Ops.length : Int)))) rfl (fun c63 => ?_) (fun c63 => ?_)
          · replace hs2_ := condT c63 hs2_
            refine W_skip ?_
            try simp only [gthen, gblock]
            refine W_fit ⟨164, [], [(2, .ref n 0), (3, .ref (n + 1) 0), (7, .val (.int .i64 s2_))]⟩ (Loc O n [some ⟨false, 30, 11, 1, (c_S_api_Edit a0)⟩, some ⟨false, 30, 11, 1, (c_S_api_Edit a1)⟩]) (fit_loc hU rfl rfl ?_) ?_
            · simp only [push_cast, seval, ↓reduceIte, cast_lit, hN0, hN]
            refine W_seqK ?_
            refine W_block ?_
            obtain ⟨x50, hx50, ax50, bx50, cx50, hs2_⟩ := bE (f := e_S_api_Op) tab69 (fun _ => rfl) (by decide) hs2_
            obtain ⟨x51, hx51, ax51, bx51, cx51, hs2_⟩ := bE (f := e_S_api_Op) tab69 (fun _ => rfl) (by decide) hs2_
            refine W_seqN (E' := ⟨164, [], [(2, .ref n 0), (3, .ref (n + 1) 0), (7, .val (.int .i64 s2_)), (8, .ref (n + 2) 0), (9, .ref (n + 3) 0)]⟩) (O' := (Loc O n [some ⟨false, 30, 11, 1, (c_S_api_Edit a0)⟩, some ⟨false, 30, 11, 1, (c_S_api_Edit a1)⟩, some ⟨false, 69, 14, 1, (c_S_api_Op x50)⟩, some ⟨false, 69, 14, 1, (c_S_api_Op x51)⟩])) (n0 := (n + 4)) ?_ ?_
            · refine W_drawX tab_ok (by kernel_rfl) [.low, .low, .low, .low, .low, .low, .low, .low, .low, .low, .pass, .pass, .pass, .pass] (fun i => i < (n + 2)) 10 11 [0, 1, 2, 3, 4, 5, 6, 7, 8, 9] [12, 13] [.low, .low, .low, .low, .low, .low, .low, .low, .low, .low] [.pass, .pass, .pass, .pass] [.pass, .pass, .pass, .pass] [] (by kernel_rfl) rfl rfl rfl ?_
              simp only [push_cast, Nat.reduceAdd, Nat.reduceSub, Nat.reduceMul, Nat.reduceLeDiff, Nat.reduceLT, Nat.reduceEqDiff, ↓reduceIte, reduceCtorEq, Int.reduceBEq, Int.reduceBNe, Nat.reduceBEq, Int.reduceLE, Int.reduceLT, Int.reduceEq, Int.reduceNe, Int.reduceNeg, Nat.reduceDiv, Nat.reduceMod, Nat.reducePow, cast_lit, ax50, bx50, cx50, ax51, bx51, cx51, hN0, hN]
              repeat (with_reducible refine And.intro (by omega) ?_)
              refine And.intro ?_ ?_
              · simp only [push_cast, Nat.reduceAdd, Nat.reduceSub, Nat.reduceMul, Nat.reduceLeDiff, Nat.reduceLT, Nat.reduceEqDiff, ↓reduceIte, reduceCtorEq, Int.reduceBEq, Int.reduceBNe, Nat.reduceBEq, Int.reduceLE, Int.reduceLT, Int.reduceEq, Int.reduceNe, Int.reduceNeg, Nat.reduceDiv, Nat.reduceMod, Nat.reducePow, cast_lit, ax50, bx50, cx50, ax51, bx51, cx51, hN0, hN]
                repeat (with_reducible refine And.intro (by first | exact agree_loc rfl | exact agree_loc0) ?_)
                refine And.intro rfl (Fit2.of (fit_loc hU rfl rfl ?_) (by omega))
                simp only [push_cast, Nat.reduceAdd, Nat.reduceSub, Nat.reduceMul, Nat.reduceLeDiff, Nat.reduceLT, Nat.reduceEqDiff, ↓reduceIte, reduceCtorEq, Int.reduceBEq, Int.reduceBNe, Nat.reduceBEq, Int.reduceLE, Int.reduceLT, Int.reduceEq, Int.reduceNe, Int.reduceNeg, Nat.reduceDiv, Nat.reduceMod, Nat.reducePow, cast_lit, ax50, bx50, cx50, ax51, bx51, cx51, hN0, hN]
              · simp only [push_cast, Nat.reduceAdd, Nat.reduceSub, Nat.reduceMul, Nat.reduceLeDiff, Nat.reduceLT, Nat.reduceEqDiff, ↓reduceIte, reduceCtorEq, Int.reduceBEq, Int.reduceBNe, Nat.reduceBEq, Int.reduceLE, Int.reduceLT, Int.reduceEq, Int.reduceNe, Int.reduceNeg, Nat.reduceDiv, Nat.reduceMod, Nat.reducePow, cast_lit, ax50, bx50, cx50, ax51, bx51, cx51, hN0, hN]
                repeat (with_reducible refine And.intro (by first | exact agree_loc rfl | exact agree_loc0) ?_)
                refine And.intro rfl ?_
                refine Fit2.trans (E' := (⟨164, [], [(2, .ref n 0), (3, .ref (n + 1) 0), (7, .val (.int .i64 s2_)), (8, .ref (n + 3) 0), (9, .ref (n + 2) 0)]⟩ : Env)) (O' := (Loc O n [some ⟨false, 30, 11, 1, (c_S_api_Edit a0)⟩, some ⟨false, 30, 11, 1, (c_S_api_Edit a1)⟩, some ⟨false, 69, 14, 1, (c_S_api_Op x51)⟩, some ⟨false, 69, 14, 1, (c_S_api_Op x50)⟩])) (n' := (n + 4)) (Fit2.of (fit_loc hU rfl rfl ?_) (by omega)) ?_
                · simp only [push_cast, Nat.reduceAdd, Nat.reduceSub, Nat.reduceMul, Nat.reduceLeDiff, Nat.reduceLT, Nat.reduceEqDiff, ↓reduceIte, reduceCtorEq, Int.reduceBEq, Int.reduceBNe, Nat.reduceBEq, Int.reduceLE, Int.reduceLT, Int.reduceEq, Int.reduceNe, Int.reduceNeg, Nat.reduceDiv, Nat.reduceMod, Nat.reducePow, cast_lit, ax50, bx50, cx50, ax51, bx51, cx51, hN0, hN]
                refine ren_fit (k := 4) (k' := 4) hU [0, 1, 3, 2] [0, 1, 3, 2] rfl rfl rfl rfl ⟨rfl, rfl⟩ ?_
                simp only [push_cast, seval, ↓reduceIte, cast_lit, hN0, hN]
            obtain ⟨z54, hz54, hs2_⟩ := bC hs2_
            refine W_seqN (E' := ⟨164, [], [(2, .ref n 0), (3, .ref (n + 1) 0), (7, .val (.int .i64 s2_)), (163, .val (.bool z54))]⟩) (O' := (Loc O n [some ⟨false, 30, 11, 1, (c_S_api_Edit a0)⟩, some ⟨false, 30, 11, 1, (c_S_api_Edit a1)⟩, none, none])) (n0 := (n + 4)) ?_ ?_
            · rcases Bool.eq_false_or_eq_true (x50.Kind != x51.Kind) with c59 | c59
              · replace hz54 := condT c59 hz54
                refine W_regionD tab_ok [none, none, none, none, none, some false, some false, some false, some false, some false, some false, some false, some false, some false, some false, some false, some false] ?_
                simp only [push_cast, seval, ↓reduceIte, cast_lit, c59, hN0, hN]
                repeat (with_reducible refine And.intro (by first | (intro h0; simp only [h0, and_self]; done) | (intro h0; simp only [h0, Bool.not_false, Bool.not_true, Bool.true_and, Bool.and_true, true_and, and_true, and_self, imp_self, implies_true, bne_iff_ne, ne_eq, beq_iff_eq]; done) | (intros; simp_all; done) | exact True.intro) ?_)
                have hz54 := Option.some.inj hz54; subst hz54
                refine And.intro rfl (Fit2.of (fit_loc hU rfl rfl ?_) (by omega))
                simp only [push_cast, seval, ↓reduceIte, cast_lit, c59, hN0, hN]
              · replace hz54 := condF c59 hz54
                rcases Bool.eq_false_or_eq_true (x50.N != x51.N) with c60 | c60
                · replace hz54 := condT c60 hz54
                  try rw [c60] at c59
                  refine W_regionD tab_ok [none, none, none, none, none, some false, some false, some false, some false, some false, some false, some false, some false, some false, some false, some false, some false] ?_
                  simp only [push_cast, seval, ↓reduceIte, cast_lit, c59, c60, hN0, hN]
                  repeat (with_reducible refine And.intro (by first | (intro h0; simp only [h0, and_self]; done) | (intro h0; simp only [h0, Bool.not_false, Bool.not_true, Bool.true_and, Bool.and_true, true_and, and_true, and_self, imp_self, implies_true, bne_iff_ne, ne_eq, beq_iff_eq]; done) | (intros; simp_all; done) | exact True.intro) ?_)
                  have hz54 := Option.some.inj hz54; subst hz54
                  refine And.intro rfl (Fit2.of (fit_loc hU rfl rfl ?_) (by omega))
                  simp only [push_cast, seval, ↓reduceIte, cast_lit, c59, c60, hN0, hN]
                · replace hz54 := condF c60 hz54
                  try rw [c60] at c59
                  obtain ⟨y57, hy57, hz54⟩ := bC hz54
                  rcases Bool.eq_false_or_eq_true y57 with c61 | c61
                  · replace hz54 := condT c61 hz54
                    try rw [c61] at c59
                    try rw [c61] at c60
                    obtain ⟨y58, hy58, hz54⟩ := bC hz54
                    refine W_regionD tab_ok [none, none, none, none, none, some true, some true, some true, some true, some true, some true, some true, some true, some true, some true, some true, some true] ?_
                    simp only [push_cast, seval, ↓reduceIte, cast_lit, c59, c60, c61, hN0, hN]
                    repeat (with_reducible refine And.intro (by first | (intro h0; simp only [h0, and_self]; done) | (intro h0; simp only [h0, Bool.not_false, Bool.not_true, Bool.true_and, Bool.and_true, true_and, and_true, and_self, imp_self, implies_true, bne_iff_ne, ne_eq, beq_iff_eq]; done) | (intros; simp_all; done) | exact True.intro) ?_)
                    refine (ok_centoref22_sameTrees hy57).then ?_
                    simp only [push_cast, seval, ↓reduceIte, cast_lit, c59, c60, c61, hN0, hN]
                    repeat (with_reducible refine And.intro (by first | (intro h0; simp only [h0, and_self]; done) | (intro h0; simp only [h0, Bool.not_false, Bool.not_true, Bool.true_and, Bool.and_true, true_and, and_true, and_self, imp_self, implies_true, bne_iff_ne, ne_eq, beq_iff_eq]; done) | (intros; simp_all; done) | exact True.intro) ?_)
                    refine (ok_r_centoref22_Same hy58).then ?_
                    simp only [push_cast, seval, ↓reduceIte, cast_lit, c59, c60, c61, hN0, hN]
                    repeat (with_reducible refine And.intro (by first | (intro h0; simp only [h0, and_self]; done) | (intro h0; simp only [h0, Bool.not_false, Bool.not_true, Bool.true_and, Bool.and_true, true_and, and_true, and_self, imp_self, implies_true, bne_iff_ne, ne_eq, beq_iff_eq]; done) | (intros; simp_all; done) | exact True.intro) ?_)
                    have hz54 := Option.some.inj hz54; subst hz54
                    refine And.intro rfl (Fit2.of (fit_loc hU rfl rfl ?_) (by omega))
                    simp only [push_cast, seval, ↓reduceIte, cast_lit, c59, c60, c61, hN0, hN]
                  · replace hz54 := condF c61 hz54
                    try rw [c61] at c59
                    try rw [c61] at c60
                    refine W_regionD tab_ok [none, none, none, none, none, some true, some true, some true, some true, some true, some true, some false, some false, some false, some false, some false, some false] ?_
                    simp only [push_cast, seval, ↓reduceIte, cast_lit, c59, c60, c61, hN0, hN]
                    repeat (with_reducible refine And.intro (by first | (intro h0; simp only [h0, and_self]; done) | (intro h0; simp only [h0, Bool.not_false, Bool.not_true, Bool.true_and, Bool.and_true, true_and, and_true, and_self, imp_self, implies_true, bne_iff_ne, ne_eq, beq_iff_eq]; done) | (intros; simp_all; done) | exact True.intro) ?_)
                    refine (ok_centoref22_sameTrees hy57).then ?_
                    simp only [push_cast, seval, ↓reduceIte, cast_lit, c59, c60, c61, hN0, hN]
                    repeat (with_reducible refine And.intro (by first | (intro h0; simp only [h0, and_self]; done) | (intro h0; simp only [h0, Bool.not_false, Bool.not_true, Bool.true_and, Bool.and_true, true_and, and_true, and_self, imp_self, implies_true, bne_iff_ne, ne_eq, beq_iff_eq]; done) | (intros; simp_all; done) | exact True.intro) ?_)
                    have hz54 := Option.some.inj hz54; subst hz54
                    refine And.intro rfl (Fit2.of (fit_loc hU rfl rfl ?_) (by omega))
                    simp only [push_cast, seval, ↓reduceIte, cast_lit, c59, c60, c61, hN0, hN]
            refine W_cond (t := z54) rfl (fun c62 => ?_) (fun c62 => ?_)
            · replace hs2_ := condT c62 hs2_
              refine W_sq [4] (W_regionD tab_ok [] ?_)
              simp only [push_cast, seval, ↓reduceIte, cast_lit, hN0, hN]
              refine W_ret ?_
              try simp only [gthen, gblock]
              have hs2_ := Option.some.inj hs2_; subst hs2_
              refine And.intro (fun h => by cases h) (And.intro rfl (Fit2.of (fit_loc hU rfl rfl ?_) (by omega)))
              simp only [push_cast, seval, ↓reduceIte, cast_lit, hN0, hN]
            · replace hs2_ := condF c62 hs2_
              refine W_skip ?_
              try simp only [gthen, gblock]
              refine W_fit ⟨164, [], [(2, .ref n 0), (3, .ref (n + 1) 0), (7, .val (.int .i64 s2_))]⟩ (Loc O n [some ⟨false, 30, 11, 1, (c_S_api_Edit a0)⟩, some ⟨false, 30, 11, 1, (c_S_api_Edit a1)⟩, none, none]) (fit_loc hU rfl rfl ?_) ?_
              · simp only [push_cast, seval, ↓reduceIte, cast_lit, hN0, hN]
              refine W_regionD tab_ok [] ?_
              simp only [push_cast, seval, ↓reduceIte, cast_lit, hN0, hN]
              have hs2_ := Option.some.inj hs2_; subst hs2_
              refine And.intro rfl (Fit2.of (fit_loc hU rfl rfl ?_) (by omega))
              simp only [push_cast, seval, ↓reduceIte, cast_lit, hN0, hN]
          · replace hs2_ := condF c63 hs2_
            refine W_exit ?_
            try simp only [gthen, gblock, ↓reduceIte, Nat.reduceEqDiff]
            have hs2_ := Option.some.inj hs2_; subst hs2_
            refine And.intro (fun h => by cases h) (And.intro rfl (Fit2.of (fit_loc hU rfl rfl ?_) (by omega)))
            simp only [push_cast, seval, ↓reduceIte, cast_lit, hN0, hN]
        rcases z64 with z64 | z64
        · dsimp only [SumJ] at hw h
          refine W_blockR hw ?_
          try simp only [gthen, gblock, ↓reduceIte, Nat.reduceEqDiff]
          have h := Option.some.inj h; subst h
          refine fin_loc (.inr rfl) hU [.val (.bool false)] (by omega) ?_
          simp only [push_cast, seval, ↓reduceIte, cast_lit, Try.results17, hN0, hN]
        · dsimp only [SumJ] at hw h
          refine W_blockX hw ?_
          try simp only [gthen, gblock, ↓reduceIte, Nat.reduceEqDiff]
          refine W_fit ⟨164, [], []⟩ (Loc O n [none, none]) (fit_loc hU rfl rfl ?_) ?_
          · simp only [push_cast, seval, ↓reduceIte, cast_lit, hN0, hN]
          refine W_sq [4] (W_regionD tab_ok [] ?_)
          simp only [push_cast, seval, ↓reduceIte, cast_lit, hN0, hN]
          refine W_ret ?_
          try simp only [gthen, gblock]
          have h := Option.some.inj h; subst h
          refine fin_loc (.inr rfl) hU [.val (.bool true)] (by omega) ?_
          simp only [push_cast, seval, ↓reduceIte, cast_lit, Try.results17, hN0, hN]

theorem lv_centoref22_Same_ok : ∀ k, (∀ {a0 : S_api_Edit} {a1 : S_api_Edit} {r : Bool} {O : Objs} {n : Nat}, (lv_centoref22_Same k) a0 a1 = some r → GTo Try.prog 17 [.agg (c_S_api_Edit a0), .agg (c_S_api_Edit a1)] O n (.val (.bool r)) O n) := fun k => by
  induction k with
  | zero => exact @fun a0 a1 r O n h => (nomatch (show (none : Option _) = some _ from h))
  | succ k ih => exact @fun a0 a1 r O n h => okb_centoref22_Same (ih)  h

theorem ok_centoref22_Same {a0 : S_api_Edit} {a1 : S_api_Edit} {r : Bool} {O : Objs} {n : Nat} (h : m_centoref22_Same a0 a1 = some r) : GTo Try.prog 17 [.agg (c_S_api_Edit a0), .agg (c_S_api_Edit a1)] O n (.val (.bool r)) O n := by
  obtain ⟨k, hk⟩ := lim_some h
  exact (lv_centoref22_Same_ok k)  hk

theorem okb_edit_Count {r_edit_Count : (S_api_Edit → Option Int)} (ok_r_edit_Count : ∀ {a0 : S_api_Edit} {r : Int} {O : Objs} {n : Nat}, r_edit_Count a0 = some r → GTo Try.prog 26 [.agg (c_S_api_Edit a0)] O n (.val (.int .i64 r)) O n) {a0 : S_api_Edit} {r : Int} {O : Objs} {n : Nat} (h : b_edit_Count r_edit_Count a0 = some r) : GTo Try.prog 26 [.agg (c_S_api_Edit a0)] O n (.val (.int .i64 r)) O n := by
  unfold b_edit_Count at h
  refine fn_of tab_ok Try.call26 Try.func26 rfl (Nat.le_of_ble_eq_true rfl) (Nat.le_refl _) fun hU => ?_
  have hN0 : O n = none := hU.fresh _ (Nat.le_refl _)
  have hN : ∀ k, O (n + k) = none := fun k => hU.fresh _ (Nat.le_add_right _ _)
  show W _ _ _ _ ⟨46, [], [(0, .agg (c_S_api_Edit a0))]⟩ (Loc O n []) _
  refine W_sq [1] (W_regionD tab_ok [] ?_)
  simp only [push_cast, seval, ↓reduceIte, cast_lit, hN0, hN]
  refine W_sq [1, 3] (W_regionD tab_ok [] ?_)
  simp only [push_cast, seval, ↓reduceIte, cast_lit, hN0, hN]
  refine W_seqK ?_
  refine W_sq [1, 3, 17, 18, 19] (W_regionD tab_ok [] ?_)
  simp only [push_cast, seval, ↓reduceIte, cast_lit, hN0, hN]
  refine W_fit ⟨46, [], [(1, .ref n 0), (3, .val (.int .i64 (IntKind.i64.wrap ((IntKind.i64.wrap (1 + (a0.Words.length : Int))) + (a0.Ops.length : Int))))), (17, .sl a0.Kids.length (fl e_S_api_KidEdit a0.Kids)), (18, .val (.int .i64 (a0.Kids.length : Int))), (19, .val (.int .i64 0))]⟩ (Loc O n [some ⟨false, 30, 11, 1, (c_S_api_Edit a0)⟩]) (fit_loc hU rfl rfl ?_) ?_
  · simp only [push_cast, seval, ↓reduceIte, cast_lit, hN0, hN]
  obtain ⟨z5, hz5, h⟩ := bC h
  refine W_blockX (E' := ⟨46, [], [(1, .ref n 0), (3, .val (.int .i64 z5))]⟩) (O' := (Loc O n [some ⟨false, 30, 11, 1, (c_S_api_Edit a0)⟩])) (n0 := (n + 1)) ?_ ?_
  · refine W_loopJ hz5 (fun s0_ => ⟨46, [], [(1, .ref n 0), (3, .val (.int .i64 s0_.1)), (17, .sl a0.Kids.length (fl e_S_api_KidEdit a0.Kids)), (18, .val (.int .i64 (a0.Kids.length : Int))), (19, .val (.int .i64 s0_.2))]⟩) (fun s0_ => (Loc O n [some ⟨false, 30, 11, 1, (c_S_api_Edit a0)⟩])) (fun z5 => JX 0 n (⟨46, [], [(1, .ref n 0), (3, .val (.int .i64 z5))]⟩ : Env) (Loc O n [some ⟨false, 30, 11, 1, (c_S_api_Edit a0)⟩]) (n + 1)) ?_
    intro s0_ x0_ hs0_
    unfold b_edit_Count_L0 at hs0_
    try dsimp only
    refine W_sq [1, 3, 17, 18, 19, 20] (W_regionD tab_ok [] ?_)
    simp only [push_cast, seval, ↓reduceIte, cast_lit, hN0, hN]
    refine W_seqK ?_
    refine W_cond (t := (decide (s0_.2 < (a0.Kids.length : Int)))) rfl (fun c4 => ?_) (fun c4 => ?_)
    · replace hs0_ := condT c4 hs0_
      refine W_skip ?_
      try simp only [gthen, gblock]
      refine W_fit ⟨46, [], [(1, .ref n 0), (3, .val (.int .i64 s0_.1)), (17, .sl a0.Kids.length (fl e_S_api_KidEdit a0.Kids)), (18, .val (.int .i64 (a0.Kids.length : Int))), (19, .val (.int .i64 s0_.2))]⟩ (Loc O n [some ⟨false, 30, 11, 1, (c_S_api_Edit a0)⟩]) (fit_loc hU rfl rfl ?_) ?_
      · simp only [push_cast, seval, ↓reduceIte, cast_lit, hN0, hN]
      refine W_seqK ?_
      refine W_block ?_
      refine W_seqK ?_
      obtain ⟨x2, hx2, ax2, bx2, cx2, hs0_⟩ := bE (f := e_S_api_KidEdit) tab71 (fun _ => rfl) (by decide) hs0_
      refine W_regionD tab_ok [] ?_
      simp only [push_cast, Nat.reduceAdd, Nat.reduceSub, Nat.reduceMul, Nat.reduceLeDiff, Nat.reduceLT, Nat.reduceEqDiff, ↓reduceIte, reduceCtorEq, Int.reduceBEq, Int.reduceBNe, Nat.reduceBEq, Int.reduceLE, Int.reduceLT, Int.reduceEq, Int.reduceNe, Int.reduceNeg, Nat.reduceDiv, Nat.reduceMod, Nat.reducePow, cast_lit, ax2, bx2, cx2, hN0, hN]
      refine W_fit ⟨46, [], [(1, .ref n 0), (3, .val (.int .i64 s0_.1)), (5, .ref (n + 1) 0), (17, .sl a0.Kids.length (fl e_S_api_KidEdit a0.Kids)), (18, .val (.int .i64 (a0.Kids.length : Int))), (19, .val (.int .i64 s0_.2))]⟩ (Loc O n [some ⟨false, 30, 11, 1, (c_S_api_Edit a0)⟩, some ⟨false, 71, 12, 1, (c_S_api_KidEdit x2)⟩]) (fit_loc hU rfl rfl ?_) ?_
      · simp only [push_cast, Nat.reduceAdd, Nat.reduceSub, Nat.reduceMul, Nat.reduceLeDiff, Nat.reduceLT, Nat.reduceEqDiff, ↓reduceIte, reduceCtorEq, Int.reduceBEq, Int.reduceBNe, Nat.reduceBEq, Int.reduceLE, Int.reduceLT, Int.reduceEq, Int.reduceNe, Int.reduceNeg, Nat.reduceDiv, Nat.reduceMod, Nat.reducePow, cast_lit, ax2, bx2, cx2, hN0, hN]
      obtain ⟨y3, hy3, hs0_⟩ := bC hs0_
      refine W_regionD tab_ok [] ?_
      simp only [push_cast, seval, ↓reduceIte, cast_lit, hN0, hN]
      refine (ok_r_edit_Count hy3).then ?_
      simp only [push_cast, seval, ↓reduceIte, cast_lit, hN0, hN]
      refine W_fit ⟨46, [], [(1, .ref n 0), (3, .val (.int .i64 (IntKind.i64.wrap (s0_.1 + y3)))), (17, .sl a0.Kids.length (fl e_S_api_KidEdit a0.Kids)), (18, .val (.int .i64 (a0.Kids.length : Int))), (19, .val (.int .i64 s0_.2))]⟩ (Loc O n [some ⟨false, 30, 11, 1, (c_S_api_Edit a0)⟩, none]) (fit_loc hU rfl rfl ?_) ?_
      · simp only [push_cast, seval, ↓reduceIte, cast_lit, hN0, hN]
      refine W_regionD tab_ok [] ?_
      simp only [push_cast, seval, ↓reduceIte, cast_lit, hN0, hN]
      have hs0_ := Option.some.inj hs0_; subst hs0_
      refine And.intro rfl (Fit2.of (fit_loc hU rfl rfl ?_) (by omega))
      simp only [push_cast, seval, ↓reduceIte, cast_lit, hN0, hN]
    · replace hs0_ := condF c4 hs0_
      refine W_exit ?_
      try simp only [gthen, gblock, ↓reduceIte, Nat.reduceEqDiff]
      have hs0_ := Option.some.inj hs0_; subst hs0_
      refine And.intro (fun h => by cases h) (And.intro rfl (Fit2.of (fit_loc hU rfl rfl ?_) (by omega)))
      simp only [push_cast, seval, ↓reduceIte, cast_lit, hN0, hN]
  try simp only [gthen, gblock, ↓reduceIte, Nat.reduceEqDiff]
  refine W_fit ⟨46, [], [(1, .ref n 0), (3, .val (.int .i64 z5))]⟩ (Loc O n [some ⟨false, 30, 11, 1, (c_S_api_Edit a0)⟩]) (fit_loc hU rfl rfl ?_) ?_
  · simp only [push_cast, seval, ↓reduceIte, cast_lit, hN0, hN]
  refine W_seqK ?_
  refine W_sq [3, 30, 31, 32] (W_regionD tab_ok [] ?_)
  simp only [push_cast, seval, ↓reduceIte, cast_lit, hN0, hN]
  refine W_fit ⟨46, [], [(3, .val (.int .i64 z5)), (30, .sl a0.Ops.length (fl e_S_api_Op a0.Ops)), (31, .val (.int .i64 (a0.Ops.length : Int))), (32, .val (.int .i64 0))]⟩ (Loc O n [none]) (fit_loc hU rfl rfl ?_) ?_
  · simp only [push_cast, seval, ↓reduceIte, cast_lit, hN0, hN]
  obtain ⟨z12, hz12, h⟩ := bC h
  refine W_blockX (E' := ⟨46, [], [(3, .val (.int .i64 z12))]⟩) (O' := (Loc O n [none])) (n0 := (n + 1)) ?_ ?_
  · refine W_loopJ hz12 (fun s1_ => ⟨46, [], [(3, .val (.int .i64 s1_.1)), (30, .sl a0.Ops.length (fl e_S_api_Op a0.Ops)), (31, .val (.int .i64 (a0.Ops.length : Int))), (32, .val (.int .i64 s1_.2))]⟩) (fun s1_ => (Loc O n [none])) (fun z12 => JX 2 n (⟨46, [], [(3, .val (.int .i64 z12))]⟩ : Env) (Loc O n [none]) (n + 1)) ?_
    intro s1_ x1_ hs1_
    unfold b_edit_Count_L1 at hs1_
    try dsimp only
    refine W_sq [3, 30, 31, 32, 33] (W_regionD tab_ok [] ?_)
    simp only [push_cast, seval, ↓reduceIte, cast_lit, hN0, hN]
    refine W_seqK ?_
    refine W_cond (t := (decide (s1_.2 < (a0.Ops.length : Int)))) rfl (fun c11 => ?_) (fun c11 => ?_)
    · replace hs1_ := condT c11 hs1_
      refine W_skip ?_
      try simp only [gthen, gblock]
      refine W_fit ⟨46, [], [(3, .val (.int .i64 s1_.1)), (30, .sl a0.Ops.length (fl e_S_api_Op a0.Ops)), (31, .val (.int .i64 (a0.Ops.length : Int))), (32, .val (.int .i64 s1_.2))]⟩ (Loc O n [none]) (fit_loc hU rfl rfl ?_) ?_
      · simp only [push_cast, seval, ↓reduceIte, cast_lit, hN0, hN]
      obtain ⟨z6, hz6, hs1_⟩ := bC hs1_
      refine W_seqN (E' := ⟨46, [], [(3, .val (.int .i64 z6)), (30, .sl a0.Ops.length (fl e_S_api_Op a0.Ops)), (31, .val (.int .i64 (a0.Ops.length : Int))), (32, .val (.int .i64 s1_.2))]⟩) (O' := (Loc O n [none, none])) (n0 := (n + 2)) ?_ ?_
      · refine W_block ?_
        refine W_seqK ?_
        obtain ⟨x8, hx8, ax8, bx8, cx8, hz6⟩ := bE (f := e_S_api_Op) tab69 (fun _ => rfl) (by decide) hz6
        refine W_regionD tab_ok [] ?_
        simp only [push_cast, Nat.reduceAdd, Nat.reduceSub, Nat.reduceMul, Nat.reduceLeDiff, Nat.reduceLT, Nat.reduceEqDiff, ↓reduceIte, reduceCtorEq, Int.reduceBEq, Int.reduceBNe, Nat.reduceBEq, Int.reduceLE, Int.reduceLT, Int.reduceEq, Int.reduceNe, Int.reduceNeg, Nat.reduceDiv, Nat.reduceMod, Nat.reducePow, cast_lit, ax8, bx8, cx8, hN0, hN]
        refine W_fit ⟨46, [], [(3, .val (.int .i64 s1_.1)), (7, .ref (n + 1) 0), (30, .sl a0.Ops.length (fl e_S_api_Op a0.Ops)), (31, .val (.int .i64 (a0.Ops.length : Int))), (32, .val (.int .i64 s1_.2))]⟩ (Loc O n [none, some ⟨false, 69, 14, 1, (c_S_api_Op x8)⟩]) (fit_loc hU rfl rfl ?_) ?_
        · simp only [push_cast, Nat.reduceAdd, Nat.reduceSub, Nat.reduceMul, Nat.reduceLeDiff, Nat.reduceLT, Nat.reduceEqDiff, ↓reduceIte, reduceCtorEq, Int.reduceBEq, Int.reduceBNe, Nat.reduceBEq, Int.reduceLE, Int.reduceLT, Int.reduceEq, Int.reduceNe, Int.reduceNeg, Nat.reduceDiv, Nat.reduceMod, Nat.reducePow, cast_lit, ax8, bx8, cx8, hN0, hN]
        refine W_sq [3, 7, 30, 31, 32, 38] (W_regionD tab_ok [] ?_)
        simp only [push_cast, seval, ↓reduceIte, cast_lit, hN0, hN]
        refine W_cond (t := (x8.Kind == 3)) rfl (fun c10 => ?_) (fun c10 => ?_)
        · replace hz6 := condT c10 hz6
          obtain ⟨y9, hy9, hz6⟩ := bC hz6
          refine W_regionD tab_ok [] ?_
          simp only [push_cast, seval, ↓reduceIte, cast_lit, hN0, hN]
          refine (ok_r_edit_Count hy9).then ?_
          simp only [push_cast, seval, ↓reduceIte, cast_lit, hN0, hN]
          have hz6 := Option.some.inj hz6; subst hz6
          refine And.intro rfl (Fit2.of (fit_loc hU rfl rfl ?_) (by omega))
          simp only [push_cast, seval, ↓reduceIte, cast_lit, hN0, hN]
        · replace hz6 := condF c10 hz6
          refine W_skip ?_
          try simp only [gthen, gblock]
          have hz6 := Option.some.inj hz6; subst hz6
          refine And.intro rfl (Fit2.of (fit_loc hU rfl rfl ?_) (by omega))
          simp only [push_cast, seval, ↓reduceIte, cast_lit, hN0, hN]
      refine W_regionD tab_ok [] ?_
      simp only [push_cast, seval, ↓reduceIte, cast_lit, hN0, hN]
      have hs1_ := Option.some.inj hs1_; subst hs1_
      refine And.intro rfl (Fit2.of (fit_loc hU rfl rfl ?_) (by omega))
      simp only [push_cast, seval, ↓reduceIte, cast_lit, hN0, hN]
    · replace hs1_ := condF c11 hs1_
      refine W_exit ?_
      try simp only [gthen, gblock, ↓reduceIte, Nat.reduceEqDiff]
      have hs1_ := Option.some.inj hs1_; subst hs1_
      refine And.intro (fun h => by cases h) (And.intro rfl (Fit2.of (fit_loc hU rfl rfl ?_) (by omega)))
      simp only [push_cast, seval, ↓reduceIte, cast_lit, hN0, hN]
  try simp only [gthen, gblock, ↓reduceIte, Nat.reduceEqDiff]
  refine W_fit ⟨46, [], [(3, .val (.int .i64 z12))]⟩ (Loc O n [none]) (fit_loc hU rfl rfl ?_) ?_
  · simp only [push_cast, seval, ↓reduceIte, cast_lit, hN0, hN]
  refine W_sq [2] (W_regionD tab_ok [] ?_)
  simp only [push_cast, seval, ↓reduceIte, cast_lit, hN0, hN]
  refine W_ret ?_
  try simp only [gthen, gblock]
  have h := Option.some.inj h; subst h
  refine fin_loc (.inr rfl) hU [.val (.int .i64 z12)] (by omega) ?_
  simp only [push_cast, seval, ↓reduceIte, cast_lit, Try.results26, hN0, hN]

theorem lv_edit_Count_ok : ∀ k, (∀ {a0 : S_api_Edit} {r : Int} {O : Objs} {n : Nat}, (lv_edit_Count k) a0 = some r → GTo Try.prog 26 [.agg (c_S_api_Edit a0)] O n (.val (.int .i64 r)) O n) := fun k => by
  induction k with
  | zero => exact @fun a0 r O n h => (nomatch (show (none : Option _) = some _ from h))
  | succ k ih => exact @fun a0 r O n h => okb_edit_Count (ih)  h

theorem ok_edit_Count {a0 : S_api_Edit} {r : Int} {O : Objs} {n : Nat} (h : m_edit_Count a0 = some r) : GTo Try.prog 26 [.agg (c_S_api_Edit a0)] O n (.val (.int .i64 r)) O n := by
  obtain ⟨k, hk⟩ := lim_some h
  exact (lv_edit_Count_ok k)  hk

theorem ok_centolaw22_NormalOnce {a0 : S_api_Edit} {r : Bool} {O : Objs} {n : Nat} (h : m_centolaw22_NormalOnce a0 = some r) : GTo Try.prog 5 [.agg (c_S_api_Edit a0)] O n (.val (.bool r)) O n := by
  unfold m_centolaw22_NormalOnce at h
  refine fn_of tab_ok Try.call5 Try.func5 rfl (Nat.le_of_ble_eq_true rfl) (Nat.le_refl _) fun hU => ?_
  have hN0 : O n = none := hU.fresh _ (Nat.le_refl _)
  have hN : ∀ k, O (n + k) = none := fun k => hU.fresh _ (Nat.le_add_right _ _)
  show W _ _ _ _ ⟨24, [], [(0, .agg (c_S_api_Edit a0))]⟩ (Loc O n []) _
  refine W_sq [1] (W_regionD tab_ok [] ?_)
  simp only [push_cast, seval, ↓reduceIte, cast_lit, hN0, hN]
  refine W_seqK ?_
  refine W_seqK ?_
  obtain ⟨y2, hy2, h⟩ := bC h
  refine W_regionD tab_ok [] ?_
  simp only [push_cast, seval, ↓reduceIte, cast_lit, hN0, hN]
  refine (ok_centoref20_Good hy2).then ?_
  simp only [push_cast, seval, ↓reduceIte, cast_lit, hN0, hN]
  refine W_fit ⟨24, [], [(1, .ref n 0), (6, .val (.bool (!y2)))]⟩ (Loc O n [some ⟨false, 30, 11, 1, (c_S_api_Edit a0)⟩]) (fit_loc hU rfl rfl ?_) ?_
  · simp only [push_cast, seval, ↓reduceIte, cast_lit, hN0, hN]
  refine W_cond (t := (!y2)) rfl (fun c25 => ?_) (fun c25 => ?_)
  · replace h := condT c25 h
    refine W_seqK ?_
    obtain ⟨y4, hy4, h⟩ := bC h
    refine W_regionD tab_ok [] ?_
    simp only [push_cast, seval, ↓reduceIte, cast_lit, hN0, hN]
    refine (ok_centolaw22_awake hy4).then ?_
    simp only [push_cast, seval, ↓reduceIte, cast_lit, hN0, hN]
    refine W_fit ⟨24, [], [(2, .val (.bool y4))]⟩ (Loc O n [none]) (fit_loc hU rfl rfl ?_) ?_
    · simp only [push_cast, seval, ↓reduceIte, cast_lit, hN0, hN]
    refine W_ret ?_
    try simp only [gthen, gblock]
    have h := Option.some.inj h; subst h
    refine fin_loc (.inr rfl) hU [.val (.bool y4)] (by omega) ?_
    simp only [push_cast, seval, ↓reduceIte, cast_lit, Try.results5, hN0, hN]
  · replace h := condF c25 h
    refine W_skip ?_
    try simp only [gthen, gblock]
    refine W_fit ⟨24, [], [(1, .ref n 0)]⟩ (Loc O n [some ⟨false, 30, 11, 1, (c_S_api_Edit a0)⟩]) (fit_loc hU rfl rfl ?_) ?_
    · simp only [push_cast, seval, ↓reduceIte, cast_lit, hN0, hN]
    refine W_seqK ?_
    obtain ⟨y6, hy6, h⟩ := bC h
    refine W_regionD tab_ok [] ?_
    simp only [push_cast, seval, ↓reduceIte, cast_lit, hN0, hN]
    refine (ok_normal_Edit hy6).then ?_
    simp only [push_cast, seval, ↓reduceIte, cast_lit, hN0, hN]
    refine W_fit ⟨24, [], [(1, .ref n 0), (3, .ref (n + 1) 0)]⟩ (Loc O n [some ⟨false, 30, 11, 1, (c_S_api_Edit a0)⟩, some ⟨false, 30, 11, 1, (c_S_api_Edit y6)⟩]) (fit_loc hU rfl rfl ?_) ?_
    · simp only [push_cast, seval, ↓reduceIte, cast_lit, hN0, hN]
    obtain ⟨z12, hz12, h⟩ := bC h
    refine W_seqN (E' := ⟨24, [], [(2, .val (.bool z12))]⟩) (O' := (Loc O n [none, none])) (n0 := (n + 2)) ?_ ?_
    · obtain ⟨y18, hy18, hz12⟩ := bC hz12
      obtain ⟨y19, hy19, hz12⟩ := bC hz12
      rcases Bool.eq_false_or_eq_true y19 with c23 | c23
      · replace hz12 := condT c23 hz12
        obtain ⟨y20, hy20, hz12⟩ := bC hz12
        obtain ⟨y21, hy21, hz12⟩ := bC hz12
        rcases Bool.eq_false_or_eq_true (decide (y20 ≤ y21)) with c24 | c24
        · replace hz12 := condT c24 hz12
          try rw [c24] at c23
          obtain ⟨y22, hy22, hz12⟩ := bC hz12
          refine W_drawD tab_ok (by kernel_rfl) [some true, some true, some true, some true, some true, some true] (by kernel_rfl) ?_
          simp only [push_cast, seval, ↓reduceIte, cast_lit, c23, c24, hN0, hN]
          refine PCall.of (ok_normal_Edit hy18) ?_
          simp only [push_cast, seval, ↓reduceIte, cast_lit, c23, c24, hN0, hN]
          refine PCall.of (ok_centoref22_Same hy19) ?_
          simp only [push_cast, seval, ↓reduceIte, cast_lit, c23, c24, hN0, hN]
          refine PCall.of (ok_edit_Count hy20) ?_
          simp only [push_cast, seval, ↓reduceIte, cast_lit, c23, c24, hN0, hN]
          refine PCall.of (ok_edit_Count hy21) ?_
          simp only [push_cast, seval, ↓reduceIte, cast_lit, c23, c24, hN0, hN]
          refine PCall.of (ok_centolaw22_awake hy22) ?_
          simp only [push_cast, seval, ↓reduceIte, cast_lit, c23, c24, hN0, hN]
          have hz12 := Option.some.inj hz12; subst hz12
          refine And.intro rfl (Fit2.of (fit_loc hU rfl rfl ?_) (by omega))
          simp only [push_cast, seval, ↓reduceIte, cast_lit, c23, c24, hN0, hN]
        · replace hz12 := condF c24 hz12
          try rw [c24] at c23
          refine W_drawD tab_ok (by kernel_rfl) [some true, some true, some true, some true, some true, some false] (by kernel_rfl) ?_
          simp only [push_cast, seval, ↓reduceIte, cast_lit, c23, c24, hN0, hN]
          refine PCall.of (ok_normal_Edit hy18) ?_
          simp only [push_cast, seval, ↓reduceIte, cast_lit, c23, c24, hN0, hN]
          refine PCall.of (ok_centoref22_Same hy19) ?_
          simp only [push_cast, seval, ↓reduceIte, cast_lit, c23, c24, hN0, hN]
          refine PCall.of (ok_edit_Count hy20) ?_
          simp only [push_cast, seval, ↓reduceIte, cast_lit, c23, c24, hN0, hN]
          refine PCall.of (ok_edit_Count hy21) ?_
          simp only [push_cast, seval, ↓reduceIte, cast_lit, c23, c24, hN0, hN]
          have hz12 := Option.some.inj hz12; subst hz12
          refine And.intro rfl (Fit2.of (fit_loc hU rfl rfl ?_) (by omega))
          simp only [push_cast, seval, ↓reduceIte, cast_lit, c23, c24, hN0, hN]
      · replace hz12 := condF c23 hz12
        refine W_drawD tab_ok (by kernel_rfl) [some false, some false, some false, some false, some false, some false] (by kernel_rfl) ?_
        simp only [push_cast, seval, ↓reduceIte, cast_lit, c23, hN0, hN]
        refine PCall.of (ok_normal_Edit hy18) ?_
        simp only [push_cast, seval, ↓reduceIte, cast_lit, c23, hN0, hN]
        refine PCall.of (ok_centoref22_Same hy19) ?_
        simp only [push_cast, seval, ↓reduceIte, cast_lit, c23, hN0, hN]
        have hz12 := Option.some.inj hz12; subst hz12
        refine And.intro rfl (Fit2.of (fit_loc hU rfl rfl ?_) (by omega))
        simp only [push_cast, seval, ↓reduceIte, cast_lit, c23, hN0, hN]
    refine W_ret ?_
    try simp only [gthen, gblock]
    have h := Option.some.inj h; subst h
    refine fin_loc (.inr rfl) hU [.val (.bool z12)] (by omega) ?_
    simp only [push_cast, seval, ↓reduceIte, cast_lit, Try.results5, hN0, hN]

end Go.Proofs.Ytbcgiaijjaocdaa
